import PyProof.Rows.All
import Wide.All
import OpenK.AllK
import Wide.FinOn
import Lean
import PyProof.EqAt
import PyProof.EqKinds
import KE.KDictOf
import PyProof.AttrMissHeap
import PyProof.Rows.MinMaxN
import PyProof.ListMulRoad
import KE.KUnpackStar
import KE.KIntText
import PyProof.CallStr
import KE.KDictSum
import KE.KSortTup
import PyProof.Walk
import PyProof.Rows.SortRuns
import PyProof.Rows.ChunkEnd
import PyProof.Rows.Range3
import PyProof.Rows.SeqGen
import PyProof.ConsumeWalk
import PyProof.ListRange
import PyProof.NeKinds
import PyProof.TupleCall
import PySem.Challenge.RW_slipcurve_k39_whole_slips_make_curves_gr
set_option maxHeartbeats 3999000
open List renaming length_map→ab,getElem?_map→af,getElem?_eq_getElem→ai,map_append→ap,replicate→aq,range→au,mem_map→av,getElem?_eq_some_iff→aw,size_toArray→az,length_append→aA,length_range→aD,mem_cons_of_mem→aG,mem_cons→aH,mem_of_getElem?→aI,mem_range→aJ,getD_eq_getElem?_getD→aK,length_take→aL,take_of_length_le→aN,mem_append_right→aP,mem_cons_self→aV,getElem?_range→aY,not_mem_nil→aZ,length_replicate→a8,mem_append_left→ba,getElem?_append_left→be,append_assoc→bf,mem_append→bi,lookup_cons→bj,length_cons→bm,mem_filter→bv,getElem?_append_right→bK,map_cons→bO,mem_flatMap→bQ,mem_singleton→bS,range_succ→bU,getElem?_take_of_lt→bW,append_nil→bX,pairwise_map→b7,getElem?_eq_none→cg,mem_iff_getElem?→ci,filter_cons_of_pos→cm,filter_cons_of_neg→cn,getElem?_eq_none_iff→cB,replicate_succ→cC,zipWith→cH,getElem?_cons_succ→cK,map_map→cL,nodup_iff_pairwise_ne→cM,pairwise_iff_getElem→cP,length_filter_le→cT,take_append_drop→cU,filter_append→cX,take_length→cY,getElem?_replicate→c8,ext_getElem?→c9,map_congr_left→de,flatMap_append→df,concat_eq_append→du,drop_eq_getElem_cons→dv,extract_eq_take_drop→dw,flatten_cons→dI,getElem_mem→dN,drop_eq_nil_of_le→dP,zip_cons_cons→dW,nodup_cons→dY,getElem?_set_ne→eA,getElem?_of_mem→eC,nodup_range→eI,flatten_replicate_singleton→eL,length_take_le→eQ,getElem_of_mem→eU,forIn_cons→fb,find?_cons→fe,getElem?_drop→ff,map_nil→fo,drop_zero→fz,eq_nil_or_concat→fA,length_drop→fF,all_eq_true→fJ,filterMap_cons→fQ,length_set→fS,mem_or_eq_of_mem_set→fU,getElem?_zip_eq_some→fV,filter_nil→fW,map_replicate→ge,getD→gf,take_zero→gn,getElem?_cons_zero→gu,length_eq_zero_iff→gv,take_sublist→gw,nodup_append→gA,flatMap_cons→gB,getElem?_set_self→gC,range_succ_eq_map→gG,sum_cons→gI,map_take→gJ,drop_length→gT,of_mem_zip→gX,length_nil→ic,length_pos_iff→im,filter_sublist→io,forIn_nil→iq,any_cons→iJ,take_add_one→iP,flatMap_nil→i4,set_eq_of_length_le→i5,map_set→i6,lookup→jl,drop_of_length_le→jr,filter_eq_nil_iff→jt,length_singleton→ju,getElem?_zipWith→jz,drop_drop→jA,pairwise_append→jM,mem_of_mem_drop→jN,mem_of_mem_take→jO,dropLast_concat→jQ,length_zipWith→j3,map_eq_nil_iff→j7,mem_filterMap→kb,forIn_toArray→kr,getElem?_take→kz,set_cons_zero→kC,set_cons_succ→kD,getElem_take→kF,filter_congr→kH,any_eq_false→kJ,zipIdx_cons→kU,nil_sublist→kY,prefix_refl→kZ,foldl→lc,nil_append→lg,zipIdx_nil→lj,length_zip→lx,nodup_nil→lB,all_cons→lG,take_nil→lH,map_drop→lJ
open PySem renaming wpAny_bind→ae,wpAny_pure→ak,sizeLine_eq→a7,wpAny_callSpecial?_slot→bD,wpAny_field→bG,wpAny_call_entry→bJ,wpAny_setField_rec→bR,wpAny_holding→bV,wpAny_of_eq→ck,wpAny_rule→cr,wpAny_newObj_type→cE,wpAny_seqItems→cG,builtinLookup_eq_fast→cS,wpAny_attempt→c6,wpAny_mono→c7,boot_len→da,wpAny_truthy_bool→dH,wpAny_typeNameOfWhole_keyiter→dJ,wpAny_passesOwn→dX,typeLookup_type→dZ,wpAny_pyIter_enum→d9,wpAny_setField→eD,wpAny_tryCatch→eE,wpAny_isInstance→eH,mem_of_lookup→eP,plainId_quiet→eY,wpAny_pyIter_tuple→eZ,wpAny_loadPart'→fc,codeAny_builtin→fg,wpAny_letGo→fj,wpAny_pyIter_list→fk,call_meets→fH,wpAny_standAt→fM,wpAny_letOwnedTupleGo_enum→fN,wpAny_Call_Name_kw→fZ,isSubtype_type→gi,isSubtype_stop→gj,wpAny_pyIter_rangeiter→gD,wpAny_pyIter_zip→gM,wpAny_execs_nil→gW,wpAny_specialOf→g7,wpAny_updateSeq_pair→hU,wpAny_newTuple→ir,seqIndex_of→iz,intItems_at→iA,wpAny_onRaise→iI,wpAny_pyIter_slot→iO,wpAny_dictEntries→iQ,noFill_tuple_add→iU,wpAny_comprehension_free→iW,callType_new→iX,numAt_eq→i3,wpAny_dictEpoch→jc,wpAny_updateSeq→jd,wpAny_pyNext_range_end→jg,wpAny_notOrdered_dict→jB,wpAny_isOneOf_keyiter→jD,wpAny_loadName_local→jF,wpAny_pyIter_revIter→jJ,seq_tuple_add→jT,wpAny_handled→jU,nums_intItems→jX,wpAny_loadName_cell→j1,codeAny_mono→kd,concat_meets→kf,seqIndex_neg→kg,tupleKind_room_in1→kt,wpAny_typeOf→kx,list_append→kE,wpAny_throw→kN,wpAny_Name→k9,typeIs_int→lb,call→lh
open Nat renaming le_refl→ag,le_trans→aW,ne_of_lt→bh,lt_of_lt_of_le→br,zero_le→bz,add_sub_cancel→bN,lt_irrefl→cb,le_div_iff_mul_le→cj,zero_add→cw,mul_comm→cV,min_eq_left→dE,add_sub_cancel_left→dL,add_zero→dS,lt_succ_of_lt→d8,sub_zero→eK,div_le_self→fh,sub_self→fC,mul_succ→fE,succ_le_succ→fG,mul_le_mul_right→fL,le_succ→fP,pow_le_pow_left→fR,le_of_lt→fX,ne_of_gt→fY,mul_le_mul→gp,succ_ne_self→gL,le_add_right→gO,succ_mul→gZ,lt_of_le_of_lt→iE,le_of_succ_le→iM,lt_succ_of_le→iS,le_of_not_lt→iV,add_le_add_left→j6,add_comm→ki,le_of_eq→kj,lt_succ_self→kS,succ→lM
open PySem.W renaming Frag→ah,mg_of→aT,nsIn→bA,mg_none_of→bE,fnOf→dz,keepIn→gg,codeIn→gh,methodObj→iK,OpenLaw→jb,cellsFrom_some→ji,WalkO→lF,mroIn→lI
open PySem.Heap renaming get?_push_of_some→aj,get?_push_size→aB,lt_size→aF,SameBut→bw,size_push→bM,get?_update_other→cA,get?_update_self→cR,get?_update_ne→j5,ExtBut→kM
open Or renaming inl→am,inr→cJ
open PyProof.Rows renaming wpS_bind→ao,wpS_pure→ar,callWith_type1→bn,wpS_forRange→b8,wpS_mono→dm,zipApart_new→dB,wpS_modify→dO,wpS_get→ft,boot_tuple→ij,wpS_lift→iu,pairsOf_size→iZ,subscriptTail_builtinR→jj,mirror_perm→jp,boot_enumerate→jv,pairsOf_toList→jE,boot_range→jG,boot_max→jS,listUpdate_at→jW,getElem?_mirror_all→j4,seqEpoch_at→kP,boot_zip→kT,boot_min→k6
open Int renaming emod_lt_of_pos→aO,emod_nonneg→aU,le_refl→bP,le_trans→b9,zero_mul→cc,toNat_natCast→cD,emod_eq_of_lt→cF,zero_add→cZ,mul_le_mul_of_nonneg_right→dF,mul_zero→eJ,le_of_lt→fu,pow_succ→fB,add_zero→gb,natCast_mul→ik,fdiv_eq_ediv_of_nonneg→iG,mul_comm→iY,natCast_ediv→i7,natCast_add→je,mul_add→jq,zero_emod→jZ,sub_zero→ku,natCast_nonneg→kA,lt_of_le_of_lt→kB,lt_trichotomy→kG,mul_one→kL,one_mul→kO,not_lt→lu,natCast_sub→ly
open PySem.Paired renaming length→aQ,snoc→bZ,mono→dQ
open Bool renaming false_ne_true→aR,false_eq_true→bq,eq_iff_iff→cN,and_eq_true→fI,or_eq_true→li
open Option.some renaming inj→aS,injEq→iR
open PySem.Value renaming ref→bg,none→dh,int→iB,builtin→jY,bool→k7,type→k8,str→lD,isStrOf→lE
open PySem.Builtin.Range renaming rangeFitsLong→bo,rangeSize→bC
open PySem.Builtin.SmallTypes renaming nextOf→bp,ownedTupleIsFree→bY,ownedTupleHandOut→cW,newRecord→lA
open Array renaming length_toList→bu,getElem?_toList→bI,toList_append→bT,getElem?_eq_some_iff→dk,toList_extract→dD,perm_iff_toList_perm→fO,toList_reverse→ie,toList_map→kX,size_map→lC,toList→lL
open PySem.Str renaming ofString→bF
open Classical renaming byContradiction→bH,propDecidable→ja,em→km
open PySem.PassesOwn renaming never→bL
open PySem.NameKind renaming free→cq,cell→di
open ForInStep renaming yield→cI,done→gm
open Ne renaming symm→cQ
open PySem.Heap.SameBut renaming update→db
open PySem.Obj renaming data_mapFields→dn,mapSeq→dA,isFreed_of_fields→fq,mapFields→iH,cls_mapFields→iN
open PySem.F renaming slot_enumerate_next→dq,slot_zip_next→dC,slot_dict_keyiterator_next→dM,slot_tuple_iterator_next→d7,plainAttrs_list→eX,args_tuple_add_2→f9,slot_list_append→gc,type_list_append→gd,entry_tuple_add→gq,args_enumerate_next_1→gr,args_zip_next_1→gz,slot_tuple_add→gE,entry_enumerate_next→gF,entry_zip_next→gN,entry_max_loop→gP,plain_max_loop→gQ,entry_min_loop→gR,plain_min_loop→gS,slot_dict_get→gV,args_object_init_2→hJ,args_dict_keyiterator_next_1→ig,entry_dict_keyiterator_next→il,args_tuple_iterator_next_1→ip,entry_tuple_iterator_next→iC,args_dict_get_3→i8,typeCall_enumerate_1→jn,entry_dict_get→jo,typeCall_reversed_1→jw,newCall_enumerate_1→jx,entry_enumerate_new→jy,args_list_append_2→jI,newCall_reversed_1→jK,entry_reversed_new→jL,plain_reversed_new→jR,entry_list_append→j2,slot_list_append→kh,called_enumerate→kq,slot_dict_iter→kW
open PySem.Around renaming under_plainId→dG,in1_units→fK
open PySem.Calls renaming spliced_cons→dR,spliced_nil→fm,Name_function_global→iF,callWith_builtin→jk,evalArgs_plain→jH
open PySem.Builtin.Builtins renaming bindParams→dU
open List.Pairwise renaming imp→ed,sublist→fw,imp_of_mem→f',nil→iL,filter→jP
open False renaming elim→eB
open PySem.Builtin.List renaming listTooLong→eG
open List.Perm renaming trans→fT
open List.Sublist renaming nodup→ga
open PySem.Draws renaming list→gk
open Option renaming map_eq_some_iff→gH,getD_some→gK,toList→jV,isSome_some→ko,getD_none→kQ,isSome→lK,none→lP
open Sum renaming inl→gU,inr→iT
open PySem.Builtin.Dict_items renaming ownsTuple→iw
open PySem.SeqAt.EqAt renaming of_refs→iD,int_str→j8,str_int→j9,same→la
open PySem.Builtin.Dict renaming updateFrom→i9,showsAll→jC
open PySem.Data renaming fields→jf
open PyProof renaming noPylong_small→jh
open PySem.Shared renaming heap→jm
open Sum.inl renaming inj→kK
open PySem.IsL renaming update→kR
open PySem.Walks renaming list→lq
open True renaming intro→lr
open PyProof.Rows.SortSt renaming mk'→lw
open Prod renaming ext→lN,snd→lO
open PySem.W.KatTups renaming cons→lQ
local macro_rules | `(tactic| trivial)=>`(tactic| first | exact .inl rfl | exact .inr rfl | assumption)
local macro_rules|`(#[$xs,*])=>do
 let a:=xs.getElems
 if h:a.size=0 then Lean.Macro.throwUnsupported else
 let s:=a[0].raw.getId.eraseMacroScopes.toString
 if s=="O" then `(by lia) else if s=="D" then `(by decide) else if s=="N" then `(by decide +kernel) else if s=="S" then `(⟨rfl,rfl,rfl,by decide +kernel,rfl,by decide +kernel,by decide +kernel⟩) else if s=="A" then `(Or.inl rfl) else if s=="M" then `(by simp) else
 match [("_____eb","ze"),("________eee","zby zj"),("________eeee","zT zi2"),("_","zfz zJ zd zM zaq zhh zH zQ zL zI zi1 zgf zfA zdI zee zaj zaQ zo zcp zal zz zge zeD zn3 zda zk2"),("_e__f","pvx"),("_________ereeeddrr","zE zas"),("_____eer","za zi"),("___e","zk zbo zb7"),("____e","zC zaC zlb zaD zX zey zif zgb"),("_______eeeu","zY"),("____","zh zhd"),("__e____efeert","zn"),("_____e","za4"),("______b","zhu"),("________________eefeeeneedrr","zm"),("________efeeei","zaX"),("______feer","zZ"),("__e_efet","zf"),("____er","zc8"),("____________eeeeeerrrrr","zi6"),("_f","zfB zdN"),("_____________efeeeeei","zD"),("__f","z9"),("_ef","za5 zbm"),("______eee","zhf"),("__e______efeeet","zid"),("___fe","zp"),("_________feerr","zeh"),("_e___e_fferr","zaa"),("______eerrr","zaP"),("______ferr","zaW"),("___","zex"),("________feer","zeE"),("_______eeei","zgd"),("_____________e___efeefeeeeerit","zbG"),("___ee","zhj"),("__________eeee","zbY"),("______ee","zn2"),("_____________________efeeddeeeeeeeie","zjq"),("__","zdH"),("_e___________fefeeedd","ziC"),("_e___fe","zhP"),("__e__feed","ziX"),("____________eeeeee","zhi"),("___ei","zkW"),("_______ee","zgc")].find? fun q=>(q.2.splitOn " ").contains s with
 |none=>Lean.Macro.throwUnsupported
 |some (p,_)=>do
  let mut r:=#[]
  let mut i:=1
  for c in p.toList do
   if c=='e' then
    r:=r.push (a[i]!)
    i:=i+1
   else if c=='b' then
    r:=r.push (←`((by exact $(a[i]!))))
    i:=i+1
   else r:=r.push (←match c with|'_'=>`(_)|'r'=>`((by rfl))|'d'=>`((by decide))|'f'=>`(rfl)|'t'=>`((by trivial))|'i'=>`((by intro _; rfl))|'u'=>`((fun _ _=>rfl))|'n'=>`(.nil)|'l'=>`(Or.inl rfl)|'o'=>`(Or.inr rfl)|_=>`(nomark _))
  return Lean.Syntax.mkApp (←`(@$(⟨a[0].raw⟩):ident)) r
set_option Elab.async false
set_option linter.all false
set_option maxRecDepth 100000
namespace L2
open PySem PySem.Spec PyProof.Rows
abbrev Key:=Sum Int Str
def zfv:Key→Value→Bool
 | .inl k,v=>Value.isInt k v
 | .inr x,v=>lE x v
def zqd (w:World):Key→Int
 | .inl k=>hashInt k
 | .inr x=>hashStr w x
theorem zan:∀ {k:Key} {v:Value},zfv k v=true→(∃ i t,k=gU i∧v=iB i t)∨(∃ x t,k=iT x∧v=lD x t)
 | .inl i,v,h=>by
  obtain⟨t,e⟩:=Value.isInt_shape (k:=i) (v:=v) h;exact .inl ⟨i,t,rfl,e⟩
 | .inr x,v,h=>by
  obtain⟨t,e⟩:=Value.isStrOf_shape (x:=x) (v:=v) h;exact .inr ⟨x,t,rfl,e⟩
theorem zjS (i:Int) (t:Tok):zfv (.inl i) (.int i t)=true:=by simp [zfv,Value.isInt]
theorem zjT (x:Str) (t:Tok):zfv (.inr x) (.str x t)=true:=by simp [zfv,lE]
theorem zor (a b:Int):decide ((gU a:Key)=gU b)=(a == b):=by
 by_cases e:a=b
 ·subst e; simp
 ·have h:¬ (gU a:Key)=gU b:=fun q=>e (kK q)
  rw [decide_eq_false h];exact (beq_eq_false_iff_ne.mpr e).symm
theorem zos (a b:Str):decide ((iT a:Key)=iT b)=decide (a=b):=by
 by_cases e:a=b
 ·subst e; simp
 ·have h:¬ (iT a:Key)=iT b:=fun q=>e (Sum.inr.inj q)
  rw [decide_eq_false h,decide_eq_false e]
theorem zot (a:Int) (b:Str):decide ((gU a:Key)=iT b)=false:=decide_eq_false (fun q=>nomatch q)
theorem zou (a:Str) (b:Int):decide ((iT a:Key)=gU b)=false:=decide_eq_false (fun q=>nomatch q)
def zaw (prog:Program) (w:World):PySem.KeyKind prog w Key where
 is:=zfv
 hash:=zqd w
 inj:=fun v a b ha hb=>by
  rcases zan ha with ⟨i,t,rfl,rfl⟩ | ⟨x,t,rfl,rfl⟩
  ·rcases zan hb with ⟨j,u,rfl,e⟩ | ⟨y,u,rfl,e⟩
   ·injection e with e1 _; rw [e1]
   ·exact nomatch e
  ·rcases zan hb with ⟨j,u,rfl,e⟩ | ⟨y,u,rfl,e⟩
   ·exact nomatch e
   ·injection e with e1 _; rw [e1]
 byValue:=fun k v h=>by
  rcases zan h with ⟨i,t,rfl,rfl⟩ | ⟨x,t,rfl,rfl⟩ <;> rfl
 pyHash:=fun hv h=>by
  rcases zan hv with ⟨i,t,rfl,rfl⟩ | ⟨x,t,rfl,rfl⟩
  ·exact wpAny_pyHash_int h
  ·exact wpAny_pyHash_str h
 eqBool:=fun hu hv h=>by
  rcases zan hu with ⟨i,t,rfl,rfl⟩ | ⟨x,t,rfl,rfl⟩
  ·rcases zan hv with ⟨j,u,rfl,rfl⟩ | ⟨y,u,rfl,rfl⟩
   ·rw [zor] at h; exact wpAny_eqBool_int h
   ·rw [zot] at h; exact j8 i t y u _ _ _ _ h
  ·rcases zan hv with ⟨j,u,rfl,rfl⟩ | ⟨y,u,rfl,rfl⟩
   ·rw [zou] at h; exact j9 x t j u _ _ _ _ h
   ·rw [zos] at h; exact wpAny_eqBool_str h
 «strs»:=fun k x t v h=>by
  rcases zan h with ⟨i,u,rfl,e⟩ | ⟨y,u,rfl,e⟩
  ·exact nomatch e
  ·injection e with e1 _
   subst e1;cases v <;> rfl
theorem zg9 (prog:Program) (w:World) (i:Int) (t:Tok):(zaw prog w).is (.inl i) (.int i t)=true:=zjS i t
theorem zha (prog:Program) (w:World) (x:Str) (t:Tok):(zaw prog w).is (.inr x) (.str x t)=true:=zjT x t
inductive V where
 | non | bl (b:Bool) | int (i:Int) | str (x:Str) | byt (b:Array UInt8) | flt (b:UInt64) | ref (a:Addr) | ty (n:String)
 deriving DecidableEq
def RelV:V→Value→Prop
 | .non,u=>u=dh
 | .bl b,u=>u=k7 b
 | .int i,u=>∃ t,u=iB i t
 | .str x,u=>∃ t,u=lD x t
 | .byt b,u=>∃ t,u=Value.bytes b t
 | .flt b,u=>∃ t,u=Value.float b t
 | .ref a,u=>u=bg a
 | .ty n,u=>u=k8 n
abbrev zG:List V→List Value→Prop:=Paired RelV
theorem zG.length {xs:List V} {us:List Value} (r:zG xs us):xs.length=us.length:=aQ r
theorem zG.get:∀ {xs:List V} {us:List Value} {i:Nat} {x:V},zG xs us→xs[i]? = some x→∃ u,us[i]? = some u∧RelV x u
 | _,_,_,_,.nil,e=>by simp at e
 | _,_,0,_,.cons r _,e=>by simp at e; subst e; exact⟨_,rfl,r⟩
 | _,_,i+1,x,.cons _ t,e=>by
  obtain⟨u,h1,h2⟩:=zG.get (i:=i) (x:=x) t (by simpa using e);exact⟨u,by simpa using h1,h2⟩
theorem zG.set {x:V} {u:Value} (r:RelV x u):∀ {xs:List V} {us:List Value} (i:Nat),zG xs us→zG (xs.set i x) (us.set i u)
 | _,_,_,.nil=>.nil
 | _,_,0,.cons _ t=>.cons r t
 | _,_,i+1,.cons q t=>.cons q (zG.set r i t)
theorem zG.append:∀ {xs ys:List V} {us ws:List Value},zG xs us→zG ys ws→zG (xs++ys) (us++ws)
 | _,_,_,_,.nil,s=>s
 | _,_,_,_,.cons r t,s=>.cons r (zG.append t s)
theorem zG.take:∀ {xs:List V} {us:List Value} (n:Nat),zG xs us→zG (xs.take n) (us.take n)
 | _,_,0,_=>.nil
 | _,_,_+1,.nil=>.nil
 | _,_,n+1,.cons r t=>.cons r (zG.take n t)
theorem zG.drop:∀ {xs:List V} {us:List Value} (n:Nat),zG xs us→zG (xs.drop n) (us.drop n)
 | _,_,0,r=>r
 | _,_,_+1,.nil=>.nil
 | _,_,n+1,.cons _ t=>zG.drop n t
def zhb:Option V→Option Value→Prop
 | some v,some u=>RelV v u
 | none,none=>True
 | _,_=>False
def KV {κ:Type}:List (κ×V)→List (κ×Value)→Prop:=Paired fun (p:κ×V) (q:κ×Value)=>p.1=q.1∧RelV p.2 q.2
def kV:Key→V
 | .inl i=>.int i
 | .inr x=>.str x
inductive HO where
 | lst (xs:List V)
 | tup (xs:List V)
 | dK (l8:List (Key×V)) | dT (l8:List (List Key×V))
 | set (S:Int→Bool) (n:Nat)
 | ins (C dx:Addr) (fs:List (Str×V))
 | own (x:Addr)
 | xd (fs:List (Str×V))
 | met (f x:Addr)
 | rng (lo hi:Int)
 | frz (o:Obj) (u:HO)
 | tbl (ps:Array Value)
 | ext (φ:Heap→Prop)
abbrev Hp:=Addr→Option HO
def lW (H:Hp) (a:Addr) (o:HO):Hp:=fun b=>if b=a then some o else H b
theorem zc {H:Hp} {a:Addr} {o:HO}:lW H a o a=some o:=by unfold lW; rw [if_pos rfl]
theorem zl {H:Hp} {a b:Addr} {o:HO} (h:b≠a):lW H a o b=H b:=by unfold lW; rw [if_neg h]
theorem zmL {H:Hp} {a:Addr} {o u:HO}:lW (lW H a o) a u=lW H a u:=by
 funext b; unfold lW; split <;> rfl
theorem zpy {H:Hp} {a b:Addr} {o u:HO} (h:H a=some o) (h':H b=some u) (d:o≠u):a≠b:=by
 intro e; subst e; rw [h] at h'; exact d (aS h')
theorem zB {H:Hp} {a b:Addr} {o:HO} (h:H a=some o) (h':H b=none):a≠b:=by
 intro e; subst e; rw [h] at h'; cases h'
section
variable (P:Program) (w:World)
def zao (H:Hp) (h:Heap) (a:Addr):HO→Prop
 | .lst xs=>xs.length≤sizeLine∧∃ (lU:List Value) (n:Nat),zG xs lU∧h.get? a=some { cls:=.type "list",data:=.seq lU.toArray n }
 | .tup xs=>xs.length≤sizeLine∧∃ lU:List Value,zG xs lU∧IsTup h a lU.toArray
 | .dK l8=>l8.length≤sizeLine∧(a == sysModules)=false∧∃ vs,KV l8 vs∧h.DictOf (zaw P w) a vs
 | .dT l8=>l8.length≤sizeLine∧(a == sysModules)=false∧∃ xs:List (List Key×Addr×Value),
   Paired (fun (p:List Key×V) (q:List Key×Addr×Value)=>p.1=q.1∧H q.2.1=some (.tup (p.1.map kV))∧RelV p.2 q.2.2) l8 xs ∧
   ∃ o es ep,h.get? a=some o∧o.ExactDict∧o.data = .dict es ep∧es.toList=xs.map (entryOfKey (tupleKind (zaw P w)))∧(xs.map (·.1)).Nodup
 | .set S n=>h.SetOf (intKind P w) a S n
 | .ins C dx fs=>H dx=some (.own a)∧fs.length≤1000∧dx≠a∧h.get? a=some (PySem.W.instObj C dx) ∧
   ∃ mA,h.Ns1 dx mA∧(∀ f,zhb (fs.lookup f) (mA f))∧PySem.Within mA (fs.map (·.1))
 | .own _=>∃ o,h.get? a=some o
 | .xd fs=>∃ mA,h.Ns1 a mA∧∀ f,zhb (fs.lookup f) (mA f)
 | .rng lo hi=>∃ t u v,h.get? a=some { cls:=.type "range",data:=.fields #[.int lo t,.int hi u,.int 1 v] }
 | .frz o u=>h.get? a=some o∧zao H h a u
 | .tbl ps=>h.get? a=some { cls:=.none,data:=.fields ps }
 | .met f x=>h.get? a=some (iK (.ref f) (.ref x))
 | .ext φ=>φ h∧(∃ o,h.get? a=some o)∧∀ h1 h2:Heap,φ h1→(∀ o,h1.get? a=some o→h2.get? a=some o)→φ h2
def HOk (H:Hp) (h:Heap):Prop:=∀ a o,H a=some o→zao P w H h a o
end
section
variable {P:Program} {w:World} {H H':Hp} {h h':Heap} {a:Addr} {o:HO}
theorem zao.lt (x:zao P w H h a o):a < h.objs.size:=by
 cases o with
 | lst xs=>obtain⟨_,_,_,_,e⟩:=x; exact aF e
 | tup xs=>obtain⟨_,_,_,p⟩:=x; exact p.lt
 | dK l8=>obtain⟨_,_,_,_,o,_,_,e,_⟩:=x; exact aF e
 | dT l8=>obtain⟨_,_,_,_,o,_,_,e,_⟩:=x; exact aF e
 | set S n=>obtain⟨o,_,_,_,e,_⟩:=x; exact aF e
 | ins C dx fs=>obtain⟨_,_,_,e,_⟩:=x; exact aF e
 | own y=>obtain⟨_,e⟩:=x; exact aF e
 | xd fs=>obtain⟨_,⟨_,_,_,e,_⟩,_⟩:=x; exact aF e
 | rng lo hi=>obtain⟨_,_,_,e⟩:=x; exact aF e
 | frz ob u=>obtain⟨e,_⟩:=x; exact aF e
 | tbl ps=>exact aF (show h.get? a=some _ from x)
 | met f y=>exact aF (show h.get? a=some _ from x)
 | ext φ=>obtain⟨_,⟨_,e⟩,_⟩:=x; exact aF e
theorem Paired.mapP {α β:Type} {F G:α→β→Prop}:∀ {l₁:List α} {l₂:List β},Paired F l₁ l₂→(∀ a b,F a b→G a b)→Paired G l₁ l₂
 | _,_,.nil,_=>.nil
 | _,_,.cons r t,f=>.cons (f _ _ r) (Paired.mapP t f)
theorem zao.stay (x:zao P w H h a o) (k:∀ b u,(b=a∨H b=some (.own a))→h.get? b=some u→h'.get? b=some u)
  (ho:∀ b,H b=some (.own a)→H' b=some (.own a)) (ht:∀ b xs,H b=some (.tup xs)→H' b=some (.tup xs)):zao P w H' h' a o:=by
 induction o with
 | lst xs=>obtain⟨z,lU,n,r,e⟩:=x; exact⟨z,lU,n,r,k _ _ (.inl rfl) e⟩
 | tup xs=>obtain⟨z,lU,r,ob,e,c⟩:=x; exact⟨z,lU,r,ob,k _ _ (.inl rfl) e,c⟩
 | dK l8=>obtain⟨z,y,vs,r,ob,es,ep,e,c⟩:=x; exact⟨z,y,vs,r,ob,es,ep,k _ _ (.inl rfl) e,c⟩
 | dT l8 =>
  obtain⟨z,y,xs,r,ob,es,ep,e,c⟩:=x;exact⟨z,y,xs,Paired.mapP r fun p q z=>⟨z.1,ht _ _ z.2.1,z.2.2⟩,ob,es,ep,k _ _ (.inl rfl) e,c⟩
 | set S n=>obtain⟨ob,es,ep,t,e,c⟩:=x; exact⟨ob,es,ep,t,k _ _ (.inl rfl) e,c⟩
 | ins C dx fs =>
  obtain⟨d,z,ne,e,mA,⟨od,es,ep,e2,c⟩,r⟩:=x;exact⟨ho _ d,z,ne,k _ _ (.inl rfl) e,mA,⟨od,es,ep,k _ _ (.inr d) e2,c⟩,r⟩
 | own y=>obtain⟨ob,e⟩:=x; exact⟨ob,k _ _ (.inl rfl) e⟩
 | xd fs=>obtain⟨mA,⟨od,es,ep,e,c⟩,r⟩:=x; exact⟨mA,⟨od,es,ep,k _ _ (.inl rfl) e,c⟩,r⟩
 | rng lo hi=>obtain⟨t,u,v,e⟩:=x; exact⟨t,u,v,k _ _ (.inl rfl) e⟩
 | frz ob u ih=>obtain⟨e,q⟩:=x; exact⟨k _ _ (.inl rfl) e,ih q⟩
 | tbl ps =>
  have e:h.get? a=some { cls:=.none,data:=.fields ps }:=x;show h'.get? a=some { cls:=.none,data:=.fields ps };exact k a _ (.inl rfl) e
 | met f y =>
  have e:h.get? a=some (iK (.ref f) (.ref y)):=x;show h'.get? a=some (iK (.ref f) (.ref y));exact k a _ (.inl rfl) e
 | ext φ=>obtain⟨p,⟨o,e⟩,st⟩:=x; exact⟨st _ _ p fun o q=>k _ _ (.inl rfl) q,⟨o,k _ _ (.inl rfl) e⟩,st⟩
theorem HOk.lt (x:HOk P w H h) (e:H a=some o):a < h.objs.size:=(x a o e).lt
theorem HOk.fresh (x:HOk P w H h) (e:h.objs.size≤a):H a=none:=by
 cases q:H a with
 | none=>rfl
 | some u=>exact absurd (br (x.lt q) e) (cb _)
theorem HOk.kept (x:HOk P w H h) (k:∀ b u,h.get? b=some u→h'.get? b=some u):HOk P w H h':=fun a o e =>
 (x a o e).stay (fun b u _ q=>k b u q) (fun _ q=>q) fun _ _ q=>q
theorem HOk.laid (x:HOk P w H h) (k:∀ b u,h.get? b=some u→h'.get? b=some u) (hp:h.objs.size≤a) (new:zao P w (lW H a o) h' a o):HOk P w (lW H a o) h':=fun b u e=>by
 have hn:=x.fresh hp;by_cases hb:b=a
 ·subst hb; rw [zc] at e; cases e; exact new
 ·rw [zl hb] at e;exact (x b u e).stay (fun c v _ q=>k c v q) (fun c q=>by rw [zl (zB q hn)]; exact q) fun c xs q=>by rw [zl (zB q hn)]; exact q
end
def Rd (H:Hp) (a:Addr) (u:HO):Prop:=H a=some u∨∃ o,H a=some (.frz o u)
theorem Rd.ok {P:Program} {w:World} {H:Hp} {h:Heap} {a:Addr} {u:HO} (r:Rd H a u) (x:HOk P w H h):zao P w H h a u:=by
 rcases r with r | ⟨o,r⟩
 ·exact x a u r
 ·obtain⟨_,q⟩:=x a _ r;exact q
def Mut:Option HO→Prop
 | some (.lst _)=>True
 | some (.dK _)=>True
 | some (.dT _)=>True
 | some (.set _ _)=>True
 | some (.ins _ _ _)=>True
 | some (.ext _)=>True
 | _=>False
section
variable {P:Program} {w:World} {H:Hp} {h h':Heap} {x e:Addr} {o':HO}
theorem HOk.write (ok:HOk P w H h) (mu:Mut (H x)) (he:e=x∨H e=some (.own x)) (k:∀ b u,b≠e→h.get? b=some u→h'.get? b=some u) (yT:∃ u,h'.get? e=some u)
  (new:zao P w (lW H x o') h' x o'):HOk P w (lW H x o') h':=fun b u q=>by
 have Af:∀ c y,H c=some (.own y)→c≠x:=fun c y r z=>by subst z; rw [r] at mu; exact mu
 have CS:∀ c xs,H c=some (.tup xs)→c≠x:=fun c xs r z=>by subst z; rw [r] at mu; exact mu
 by_cases hb:b=x
 ·subst hb; rw [zc] at q; cases q; exact new
 ·rw [zl hb] at q;by_cases xV:b=e
  ·have q':H b=some (.own x):=by
    rcases he with z | z
    ·exact absurd (xV.trans z) hb
    ·rw [xV]; exact z
   rw [q] at q'; cases q';obtain⟨v,hv⟩:=yT;exact⟨v,by rw [xV]; exact hv⟩
  ·refine (ok b u q).stay (fun c v hc r=>k c v ?_ r) (fun c r=>by rw [zl (Af c b r)]; exact r) fun c xs r=>by rw [zl (CS c xs r)]; exact r
   rcases hc with rfl | hc
   ·exact xV
   ·rintro rfl;rcases he with z | z
    ·exact Af c b hc z
    ·rw [hc] at z; cases z; exact hb rfl
end
structure Un (fs ex:List Addr) (H H':Hp) (h h':Heap):Prop where
 keep:∀ b o,h.get? b=some o→H b=none→b∉fs→b∉ex→h'.get? b=some o
 slot:∀ b o,h.get? b=some o→H b=none→b∈fs→b∉ex→∃ sl,h'.get? b=some { o with slots:=sl }
 free:∀ b o,h.get? b=some o→H b=none→b∉ex→H' b=none
 there:∀ b o,h.get? b=some o→b∉ex→∃ o',h'.get? b=some o'
 tups:∀ b xs,H b=some (.tup xs)→H' b=some (.tup xs)
 frzs:∀ b o u,H b=some (.frz o u)→H' b=some (.frz o u)
 tbls:∀ b ps,H b=some (.tbl ps)→∃ more,H' b=some (.tbl (ps++more))
section
variable {fs fs' ex ex':List Addr} {H H1 H2:Hp} {h h1 h2 h':Heap} {a x e:Addr} {o:HO}
theorem Un.any (u:Un fs ex H H1 h h1) {b:Addr} {ob:Obj} (q:h.get? b=some ob) (n:H b=none) (hx:b∉ex):∃ sl,h1.get? b=some { ob with slots:=sl }:=by
 by_cases hb:b∈fs
 ·exact u.slot b ob q n hb hx
 ·exact⟨ob.slots,u.keep b ob q n hb hx⟩
theorem Un.kept (k:∀ b u,h.get? b=some u→h'.get? b=some u):Un fs ex H H h h' :=
 ⟨fun b ob q _ _ _=>k b ob q,fun b ob q _ _ _=>⟨ob.slots,k b ob q⟩,fun _ _ _ n _=>n,fun b ob q _=>⟨ob,k b ob q⟩,fun _ _ q=>q,fun _ _ _ q=>q,fun _ ps q=>⟨#[],by rw [q]; simp⟩⟩
theorem Un.refl:Un fs ex H H h h:=Un.kept fun _ _ q=>q
theorem Un.laid (k:∀ b u,h.get? b=some u→h'.get? b=some u) (hp:h.objs.size≤a) (hn:H a=none):Un fs ex H (lW H a o) h h' where
 keep:=fun b u q _ _ _=>k b u q
 slot:=fun b u q _ _ _=>⟨u.slots,k b u q⟩
 free:=fun b u q n _=>by rw [zl (bh (br (aF q) hp))]; exact n
 there:=fun b u q _=>⟨u,k b u q⟩
 tups:=fun b xs q=>by rw [zl (zB q hn)]; exact q
 frzs:=fun b u xs q=>by rw [zl (zB q hn)]; exact q
 tbls:=fun b ps q=>⟨#[],by rw [zl (zB q hn),q]; simp⟩
theorem Un.write (mu:Mut (H x)) (he:e=x∨H e=some (.own x)) (k:∀ b u,b≠e→h.get? b=some u→h'.get? b=some u) (yT:∃ u,h'.get? e=some u):Un fs ex H (lW H x o) h h':=by
 have hx:∀ b,H b=none→b≠x:=fun b n z=>by subst z; rw [n] at mu; exact mu
 have hb:∀ b,H b=none→b≠e:=fun b n z=>by
  subst z;rcases he with r | r
  ·exact hx b n r
  ·rw [n] at r; cases r
 have hm:∀ b u,H b=some u→¬ Mut (some u)→b≠x:=fun b u q nm z=>by subst z; rw [q] at mu; exact nm mu
 refine⟨fun b u q n _ _=>k b u (hb b n) q,fun b u q n _ _=>⟨u.slots,k b u (hb b n) q⟩,fun b u q n _=>by rw [zl (hx b n)]; exact n,fun b u q _=>?_,
  fun b xs q=>by rw [zl (hm b _ q fun z=>z)]; exact q,fun b u xs q=>by rw [zl (hm b _ q fun z=>z)]; exact q,fun b ps q=>⟨#[],by rw [zl (hm b _ q fun z=>z),q]; simp⟩⟩
 by_cases xV:b=e
 ·subst xV; exact yT
 ·exact⟨u,k b u xV q⟩
end
def trk (h:Heap) (H:Hp):List Addr:=(au h.objs.size).filter fun a=>(H a).isSome
def zga (h:Heap) (H:Hp):Heap:=PySem.W.hideAll h (trk h H)
theorem zjU (h:Heap) (H:Hp):(zga h H).objs.size=h.objs.size:=PySem.W.hideAll_size _ _
theorem zkV {h:Heap} {H:Hp} {b:Addr} {o:Obj} (e:h.get? b=some o) (n:H b=none):(zga h H).get? b=some o :=
 PySem.W.hideAll_get _ e fun hm=>by
  have q:(H b).isSome=true:=(bv.mp hm).2;rw [n] at q; simp at q
theorem zmM {h:Heap} {H:Hp} {b:Addr} {o:Obj} (e:(zga h H).get? b=some o):h.get? b=some o∧H b=none:=by
 have e':h.get? b=some o:=PySem.W.of_hideAll (trk h H) e;refine⟨e',?_⟩;cases q:H b with
 | none=>rfl
 | some x =>
  have hm:b∈trk h H:=bv.mpr ⟨aJ.mpr (aF e'),by simp [q]⟩;have z:(zga h H).get? b=none:=PySem.W.hideAll_none (trk h H) hm;rw [z] at e; cases e
structure Mod (K:ah) (mg:Str→Option Value) (base:Heap):Prop where
 kin:K.In base
 glob:base.Ns mainGlobals mg
 blt:∃ mb,base.Ns builtinsNs mb∧∀ x:Str,x≠"__name__"→mb x=bootBuiltins x
 nolimit:base.NoLimit
structure Cx where
 prog:Program
 w:World
 K:ah
 mg:Str→Option Value
 base:Heap
 A:Around
 N:List Str
 s₀:Shared
 H₀:Hp
 env:Env
 outer:List Env
 stack:List Env
 ex:List Addr
 fn:Str→Bool
 calm:Bool
 pn:List (Addr×Obj)
 xe:Value→Shared→Prop
def frs (l:List Env):List Addr:=l.filterMap (·.frame)
abbrev Cx.fs (X:Cx):List Addr:=frs X.outer
def Vis (sc:Scope) (x:Str):Prop:=sc.names.lookup x=some .local∨sc.names.lookup x=some .cell∨sc.names.lookup x=some .free
def Loc (sc:Scope) (x:Str):Prop:=sc.names.lookup x=some .local∨sc.names.lookup x=some .cell
def Look (env:Env) (h:Heap) (m:Str→Option Value) (x:Str) (u:Value):Prop :=
 (env.kindOf x=some .local∧m x=some u)∨((env.kindOf x=some .cell∨env.kindOf x=some .free)∧∃ c,env.cells.lookup x=some c∧h.IsCell c (some u))
structure Cx.Ok (X:Cx):Prop where
 mod:Mod X.K X.mg X.base
 kind:X.env.scope.kind = .function
 glob:X.env.globals=mainGlobals
 blt:X.env.builtins=builtinsNs
 above:X.s₀.heap.objs.size≤X.env.locals
 inj:∀ x y c,X.env.cells.lookup x=some c→X.env.cells.lookup y=some c→x=y
 has:∀ x,(X.env.kindOf x=some .cell∨X.env.kindOf x=some .free)→∃ c,X.env.cells.lookup x=some c
 cab:∀ x c,X.fn x=true→X.env.cells.lookup x=some c→X.s₀.heap.objs.size≤c
 hd:X.calm=true→X.A.handled=none
 frames:X.A.frames=some X.stack
 stk:X.stack=X.outer∨(X.stack=X.env :: X.outer∧X.env.frame=some X.env.locals)
 exf:∀ b∈X.ex,b≠X.env.locals∧∀ x c,X.env.cells.lookup x=some c→c≠b
 bs:∀ b o,X.base.get? b=some o→X.s₀.heap.get? b=some o∧X.H₀ b=none
 bsz:X.base.objs.size≤X.s₀.heap.objs.size
 noex:∀ b o,X.base.get? b=some o→b∉X.ex
 exfs:∀ b∈X.ex,b∉X.fs
 funs:X.s₀.heap.FunFrames X.base X.outer
 frf:∀ b∈X.fs,X.H₀ b=none
structure Inv (X:Cx) (lR:List (Addr×Obj)) (σ:List (Option V)) (H:Hp) (s:Shared):Prop where
 ok:X.Ok
 os:s.os=X.s₀.os
 bare:AllBare s.gens
 base:Un X.fs X.ex X.H₀ H X.s₀.heap s.heap
 loc:∃ m,s.heap.Ns X.env.locals m∧∀ (i:Nat) (x:Str) (v:V),X.N[i]? = some x→σ[i]? = some (some v)→Vis X.env.scope x→∃ u,RelV v u∧Look X.env s.heap m x u
 cell:∀ x c,X.env.cells.lookup x=some c→∃ v,s.heap.IsCell c v
 free:H X.env.locals=none
 freeC:∀ x c,X.env.cells.lookup x=some c→H c=none
 pin:∀ p∈X.pn++lR,s.heap.get? p.1=some p.2∧H p.1=none∧p.1≠X.env.locals∧p.1∉X.fs∧∀ v,p.2.data≠.cell v
 hok:HOk X.prog X.w H s.heap
 len:σ.length=X.N.length
section
variable {X:Cx} {lR:List (Addr×Obj)} {σ:List (Option V)} {H H':Hp} {s:Shared} {h':Heap}
theorem Cx.Ok.nofr (ok:X.Ok) {b:Addr} {o:Obj} (e:X.base.get? b=some o):b∉X.fs:=fun hb=>by
 have:=(ok.funs.mem hb).1;rw [e] at this; cases this
theorem Inv.bs (I:Inv X lR σ H s):∀ b o,X.base.get? b=some o→s.heap.get? b=some o∧H b=none:=fun b o e =>
 ⟨I.base.keep b o (I.ok.bs b o e).1 (I.ok.bs b o e).2 (I.ok.nofr e) (I.ok.noex b o e),I.base.free b o (I.ok.bs b o e).1 (I.ok.bs b o e).2 (I.ok.noex b o e)⟩
theorem Inv.bk (I:Inv X lR σ H s):∀ b o,X.base.get? b=some o→s.heap.get? b=some o:=fun b o e=>(I.bs b o e).1
theorem Inv.mod (I:Inv X lR σ H s):Mod X.K X.mg X.base:=I.ok.mod
theorem Inv.kIn (I:Inv X lR σ H s):X.K.In s.heap:=I.ok.mod.kin.keeps I.bk
theorem Inv.lt (I:Inv X lR σ H s):X.env.locals < s.heap.objs.size:=let ⟨_,hn,_⟩:=I.loc; hn.lt
theorem Inv.sz (I:Inv X lR σ H s):X.s₀.heap.objs.size≤s.heap.objs.size:=aW I.ok.above (fX I.lt)
theorem Inv.nofs (I:Inv X lR σ H s) {a:Addr} (h:s.heap.objs.size≤a):a∉X.fs:=fun hb=>by
 obtain⟨_,o,ho,_⟩:=I.ok.funs.mem hb;exact absurd (br (aF ho) (aW I.sz h)) (cb _)
theorem Inv.cne (I:Inv X lR σ H s):∀ x c,X.env.cells.lookup x=some c→c≠X.env.locals:=fun x c e z=>by
 obtain⟨v,o,ho,hd⟩:=I.cell x c e;obtain⟨m,⟨o',es,ep,sC,BW,_⟩,_⟩:=I.loc;rw [z,sC] at ho; cases ho; rw [BW] at hd; cases hd
theorem Inv.funs (I:Inv X lR σ H s):s.heap.FunFrames X.base X.outer:=by
 have all:∀ (l:List Env),(∀ b∈frs l,b∈X.fs)→X.s₀.heap.FunFrames X.base l→s.heap.FunFrames X.base l:=by
  intro l;induction l with
  | nil=>intro _ _; trivial
  | cons env r ih =>
   intro hs hl;obtain⟨hk,⟨L,o,hf,hn,ho,hd⟩,hr⟩:=hl;have hL:L∈X.fs:=hs L (by unfold frs; rw [fQ,hf]; exact aV);obtain⟨sl,e⟩:=I.base.slot L o ho (I.ok.frf L hL) hL fun z=>I.ok.exfs L z hL
   exact⟨hk,⟨L,_,hf,hn,e,hd⟩,ih (fun b hb=>hs b (by unfold frs; rw [fQ,hf]; exact aG _ hb)) hr⟩
 exact all X.outer (fun _ hb=>hb) I.ok.funs
theorem Inv.stack (I:Inv X lR σ H s):s.heap.FunFrames X.base X.stack:=by
 rcases I.ok.stk with e | ⟨e,hf⟩
 ·rw [e]; exact I.funs
 ·rw [e];obtain⟨m,hn,_⟩:=I.loc;refine .cons (by rw [I.ok.kind]; decide) hf hn ?_ I.funs;exact Heap.get?_none_of_le (aW I.ok.bsz I.ok.above)
theorem Inv.stkSub (I:Inv X lR σ H s):∀ b∈frs X.stack,b∈X.env.locals :: X.fs:=fun b hb=>by
 rcases I.ok.stk with e | ⟨e,hf⟩
 ·rw [e] at hb; exact aG _ hb
 ·rw [e] at hb;unfold frs at hb;rw [fQ,hf] at hb;exact hb
theorem Inv.stkFree (I:Inv X lR σ H s):∀ b∈frs X.stack,H b=none:=fun b hb=>by
 rcases aH.mp (I.stkSub b hb) with e | hb
 ·rw [e]; exact I.free
 ·obtain⟨_,o,ho,_⟩:=I.ok.funs.mem hb;exact I.base.free b o ho (I.ok.frf b hb) fun z=>I.ok.exfs b z hb
theorem Inv.step {g':Array GenState} {t':Nat} {d':Drawn} {ch:List Addr} (I:Inv X lR σ H s)
  (wx:∀ b∈ch,(b∈X.ex∨X.s₀.heap.objs.size≤b)∧b≠X.env.locals∧(∀ x c,X.env.cells.lookup x=some c→c≠b)∧∀ p∈X.pn++lR,p.1≠b)
  (keep:∀ b o,b≠X.env.locals→b∉X.fs→b∉ch→s.heap.get? b=some o→H b=none→h'.get? b=some o)
  (slot:∀ b o,b≠X.env.locals→b∈X.fs→b∉ch→s.heap.get? b=some o→H b=none→∃ sl,h'.get? b=some { o with slots:=sl }) (free:∀ b o,b∉ch→s.heap.get? b=some o→H b=none→H' b=none)
  (there:∀ b o,b∉ch→s.heap.get? b=some o→∃ o',h'.get? b=some o')
  (tups:∀ b xs,H b=some (.tup xs)→H' b=some (.tup xs)) (frzs:∀ b o u,H b=some (.frz o u)→H' b=some (.frz o u)) (tbls:∀ b ps,H b=some (.tbl ps)→∃ more,H' b=some (.tbl (ps++more)))
  (ns:∀ m,s.heap.Ns X.env.locals m→h'.Ns X.env.locals m) (hok:HOk X.prog X.w H' h') (hg:AllBare g') :
  Inv X lR σ H' { s with heap:=h',gens:=g',drawn:=d',toks:=t' }:=by
 have neL:∀ b o,X.s₀.heap.get? b=some o→b≠X.env.locals:=fun b o e=>bh (br (aF e) I.ok.above)
 have BX:∀ b o,X.s₀.heap.get? b=some o→b∉X.ex→b∉ch:=fun b o e hx hb=>by
  rcases (wx b hb).1 with z | z
  ·exact hx z
  ·exact absurd (br (aF e) z) (cb _)
 have cellK:∀ x c,X.env.cells.lookup x=some c→∀ v,s.heap.IsCell c v→h'.IsCell c v:=fun x c e v ⟨o,ho,hd⟩=>by
  have Ag:c∉ch:=fun z=>(wx c z).2.2.1 x c e rfl
  by_cases hc:c∈X.fs
  ·obtain⟨sl,q⟩:=slot c o (I.cne x c e) hc Ag ho (I.freeC x c e);exact⟨_,q,hd⟩
  ·exact⟨o,keep c o (I.cne x c e) hc Ag ho (I.freeC x c e),hd⟩
 refine⟨I.ok,I.os,hg,⟨fun b o e n hb hx=>?_,fun b o e n hb hx=>?_,fun b o e n hx=>?_,fun b o e hx=>?_,fun b xs e=>tups b xs (I.base.tups b xs e),fun b o xs e=>frzs b o xs (I.base.frzs b o xs e),fun b ps e=>?_⟩,?_,fun x c e=>?_,?_,fun x c e=>?_,fun p hp=>?_,hok,I.len⟩
 ·exact keep b o (neL b o e) hb (BX b o e hx) (I.base.keep b o e n hb hx) (I.base.free b o e n hx)
 ·obtain⟨sl,e1⟩:=I.base.slot b o e n hb hx;obtain⟨sl',e2⟩:=slot b _ (neL b o e) hb (BX b o e hx) e1 (I.base.free b o e n hx);exact⟨sl',e2⟩
 ·obtain⟨o',e1⟩:=I.base.there b o e hx;exact free b o' (BX b o e hx) e1 (I.base.free b o e n hx)
 ·obtain⟨o',e1⟩:=I.base.there b o e hx;exact there b o' (BX b o e hx) e1
 ·obtain⟨m1,e1⟩:=I.base.tbls b ps e;obtain⟨m2,e2⟩:=tbls b _ e1;exact⟨m1++m2,by rw [e2,Array.append_assoc]⟩
 ·obtain⟨m,hn,hl⟩:=I.loc;refine⟨m,ns m hn,fun i x v e1 e2 e3=>?_⟩;obtain⟨u,r,l⟩:=hl i x v e1 e2 e3;refine⟨u,r,?_⟩;rcases l with l | ⟨k,c,e,z⟩
  ·exact .inl l
  ·exact .inr ⟨k,c,e,cellK x c e _ z⟩
 ·obtain⟨v,z⟩:=I.cell x c e;exact⟨v,cellK x c e v z⟩
 ·obtain⟨m,⟨o,_,_,ho,_⟩,_⟩:=I.loc;exact free _ o (fun z=>(wx _ z).2.1 rfl) ho I.free
 ·obtain⟨v,o,ho,hd⟩:=I.cell x c e;exact free c o (fun z=>(wx c z).2.2.1 x c e rfl) ho (I.freeC x c e)
 ·obtain⟨e,n,ne,nf,d⟩:=I.pin p hp;have Ag:p.1∉ch:=fun z=>(wx p.1 z).2.2.2 p hp rfl
  exact⟨keep p.1 p.2 ne nf Ag e n,free p.1 p.2 Ag e n,ne,nf,d⟩
theorem Inv.un {t':Nat} (I:Inv X lR σ H s) (u:Un X.fs [] H H' s.heap h') (hok:HOk X.prog X.w H' h'):Inv X lR σ H' { s with heap:=h',toks:=t' }:=by
 obtain⟨m,⟨o,es,ep,ho,r⟩,_⟩:=id I.loc;obtain⟨sl,hL⟩:=u.any ho I.free #[M];exact I.step (g':=s.gens) (d':=s.drawn) (ch:=[]) (fun _ z=>nomatch z) (fun b o _ hb _ e n=>u.keep b o e n hb #[M]) (fun b o _ hb _ e n=>u.slot b o e n hb #[M]) (fun b o _ e n=>u.free b o e n #[M]) (fun b o _ e=>u.there b o e #[M]) u.tups u.frzs u.tbls (fun m' hm=>by
  obtain⟨o',vt,BY,sC,r'⟩:=hm;rw [ho] at sC; cases sC;exact⟨_,vt,BY,hL,r'⟩) hok I.bare
theorem Inv.call {g':Array GenState} {t':Nat} {d':Drawn} {ch:List Addr} (I:Inv X lR σ H s) (u:Un (frs X.stack) ch H H' s.heap h') (hok:HOk X.prog X.w H' h') (hg:AllBare g')
  (wx:∀ b∈ch,(b∈X.ex∨X.s₀.heap.objs.size≤b)∧b≠X.env.locals∧(∀ x c,X.env.cells.lookup x=some c→c≠b)∧∀ p∈X.pn++lR,p.1≠b) :
  Inv X lR σ H' { s with heap:=h',gens:=g',drawn:=d',toks:=t' }:=by
 obtain⟨m,⟨o,es,ep,ho,r⟩,_⟩:=id I.loc;obtain⟨sl,hL⟩:=u.any ho I.free fun z=>(wx _ z).2.1 rfl
 exact I.step (ch:=ch) wx (fun b o hL hb hc e n=>u.keep b o e n (fun z=>(aH.mp (I.stkSub b z)).elim hL hb) hc) (fun b o _ _ hc e n=>u.any e n hc) (fun b o hc e n=>u.free b o e n hc) (fun b o hc e=>u.there b o e hc) u.tups u.frzs u.tbls (fun m' hm=>by
  obtain⟨o',vt,BY,sC,r'⟩:=hm;rw [ho] at sC; cases sC;exact⟨_,vt,BY,hL,r'⟩) hok hg
theorem Inv.turned {t':Nat} {it:Addr} (I:Inv X lR σ H s) (k:∀ b o,b≠it→s.heap.get? b=some o→h'.get? b=some o) (hn:H it=none) (hL:it≠X.env.locals)
  (h1:it∈X.ex∨X.s₀.heap.objs.size≤it) (h2:∀ x c,X.env.cells.lookup x=some c→c≠it) (h3:∀ p∈X.pn++lR,p.1≠it):Inv X lR σ H { s with heap:=h',toks:=t' }:=by
 have sH:∀ b u,H b=some u→b≠it:=fun b u e z=>by rw [z,hn] at e; cases e
 refine I.step (g':=s.gens) (d':=s.drawn) (ch:=[it]) (fun b hb=>?_) (fun b o _ _ hc e _=>k b o (fun z=>hc (by simp [z])) e) (fun b o _ _ hc e _=>⟨o.slots,k b o (fun z=>hc (by simp [z])) e⟩) (fun _ _ _ _ n=>n)
  (fun b o hc e=>⟨o,k b o (fun z=>hc (by simp [z])) e⟩) (fun _ _ e=>e) (fun _ _ _ e=>e) (fun b ps e=>⟨#[],by rw [e]; simp⟩) (fun m hm=>?_) (fun b u e=>?_) I.bare
 ·have e:b=it:=by simpa using hb
  subst e;exact⟨h1,hL,h2,h3⟩
 ·obtain⟨o,es,ep,ho,r⟩:=hm;exact⟨o,es,ep,k _ o (cQ hL) ho,r⟩
 ·refine (I.hok b u e).stay (fun c v hc q=>k c v ?_ q) (fun _ q=>q) fun _ _ q=>q
  rcases hc with z | z
  ·rw [z]; exact sH b u e
  ·exact sH c _ z
theorem Inv.tok (I:Inv X lR σ H s) (t:Nat):Inv X lR σ H { s with toks:=t }:=I.un (h':=s.heap) (t':=t) Un.refl I.hok
theorem Inv.kept {t':Nat} (I:Inv X lR σ H s) (k:∀ b u,s.heap.get? b=some u→h'.get? b=some u):Inv X lR σ H { s with heap:=h',toks:=t' }:=I.un (Un.kept k) (I.hok.kept k)
theorem Inv.laid {a:Addr} {o:HO} {t':Nat} (I:Inv X lR σ H s) (k:∀ b u,s.heap.get? b=some u→h'.get? b=some u) (hp:s.heap.objs.size≤a) (new:zao X.prog X.w (lW H a o) h' a o) :
  Inv X lR σ (lW H a o) { s with heap:=h',toks:=t' }:=I.un (Un.laid k hp (I.hok.fresh hp)) (I.hok.laid k hp new)
theorem Inv.write {x e:Addr} {o:HO} {t':Nat} (I:Inv X lR σ H s) (mu:Mut (H x)) (he:e=x∨H e=some (.own x)) (k:∀ b u,b≠e→s.heap.get? b=some u→h'.get? b=some u) (yT:∃ u,h'.get? e=some u)
  (new:zao X.prog X.w (lW H x o) h' x o):Inv X lR σ (lW H x o) { s with heap:=h',toks:=t' }:=I.un (Un.write mu he k yT) (I.hok.write mu he k yT new)
theorem Inv.weak {σ':List (Option V)} (I:Inv X lR σ H s) (hl:σ'.length=σ.length) (w:∀ (i:Nat) v,σ'[i]? = some (some v)→σ[i]? = some (some v)):Inv X lR σ' H s :=
 ⟨I.ok,I.os,I.bare,I.base,let ⟨m,hn,BZ⟩:=I.loc; ⟨m,hn,fun i x v e1 e2 e3=>BZ i x v e1 (w i v e2) e3⟩,I.cell,I.free,I.freeC,I.pin,I.hok,hl.trans I.len⟩
theorem Inv.pins_of {pW:List (Addr×Obj)} (I:Inv X lR σ H s) (h:∀ p∈pW,s.heap.get? p.1=some p.2∧H p.1=none∧p.1≠X.env.locals∧p.1∉X.fs∧∀ v,p.2.data≠.cell v):Inv X pW σ H s :=
 ⟨I.ok,I.os,I.bare,I.base,I.loc,I.cell,I.free,I.freeC,fun p hp=>(bi.mp hp).elim (fun z=>I.pin p (ba _ z)) (h p),I.hok,I.len⟩
theorem zhc {N:List Str} (hN:N.Nodup) {i j:Nat} {x:Str} (a:N[i]? = some x) (b:N[j]? = some x):i=j:=by
 obtain⟨h1,e1⟩:=aw.mp a;obtain⟨h2,e2⟩:=aw.mp b;exact (List.getElem_inj hN).mp (e1.trans e2.symm)
theorem zfw {M:Model} {A:Around} {E:Value→Shared→Prop} {i:Nat} {x:Str} {v:V} {u:Value} {Q:Unit→Shared→Prop} (I:Inv X lR σ H s) (hN:X.N.Nodup) (hi:X.N[i]? = some x) (hx:Loc X.env.scope x) (r:RelV v u)
  (h:∀ s',Inv X lR (σ.set i (some v)) H s'→(∃ a,bw a s.heap s'.heap∧(a=X.env.locals∨X.env.cells.lookup x=some a))→Q () s') (hf:X.fn x=true∨X.env.scope.names.lookup x=some .local:=by first | exact .inl rfl | exact .inr rfl | assumption):wpAny M A (storeName X.env x u) Q E s:=by
 obtain⟨m,hn,hl⟩:=id I.loc;have CT:(X.env.scope.kind == .class || (X.env.scope.kind == .module && X.env.locals != X.env.globals))=false:=by rw [I.ok.kind]; rfl
 have hiσ:i < σ.length:=by rw [I.len]; exact (aw.mp hi).1
 have cne:=I.cne;have tracked:∀ {a:Addr} {h':Heap},(∃ o,s.heap.get? a=some o∧H a=none)→bw a s.heap h'→HOk X.prog X.w H h':=fun {a h'} ha hs b ob e=>by
  obtain⟨_,_,xD⟩:=ha;refine (I.hok b ob e).stay (fun c w' hc q=>(hs.2 c ?_).trans q) (fun _ q=>q) fun _ _ q=>q
  rintro rfl;rcases hc with rfl | hc
  ·rw [xD] at e; cases e
  ·rw [xD] at hc; cases hc
 rcases hx with hk | hk
 ·refine wpAny_storeName_local hk hn (fun h' xW hs=>?_) CT;obtain⟨oL,_,_,Ah,_⟩:=id hn;refine h _ ⟨I.ok,I.os,I.bare,⟨fun b o e n hb hx=>?_,fun b o e n hb hx=>?_,I.base.free,fun b o e hx=>?_,I.base.tups,I.base.frzs,I.base.tbls⟩,⟨_,xW,fun j y v' e1 e2 e3=>?_⟩,fun y c e=>?_,I.free,I.freeC,fun p hp=>?_,tracked ⟨oL,Ah,I.free⟩ hs,by simpa using I.len⟩ ⟨_,hs,.inl rfl⟩
  ·exact (hs.2 b (bh (br (aF e) I.ok.above))).trans (I.base.keep b o e n hb hx)
  ·obtain⟨sl,e1⟩:=I.base.slot b o e n hb hx;exact⟨sl,(hs.2 b (bh (br (aF e) I.ok.above))).trans e1⟩
  ·obtain⟨o',e1⟩:=I.base.there b o e hx;exact⟨o',(hs.2 b (bh (br (aF e) I.ok.above))).trans e1⟩
  ·by_cases hj:j=i
   ·subst hj;rw [hi] at e1; cases e1;rw [gC hiσ] at e2;cases e2;exact⟨u,r,.inl ⟨hk,#[M]⟩⟩
   ·rw [eA (cQ hj)] at e2;obtain⟨u',r',q⟩:=hl j y v' e1 e2 e3;refine⟨u',r',?_⟩;rcases q with ⟨k,e⟩ | ⟨k,c,e,z⟩
    ·refine .inl ⟨k,?_⟩;have:y≠x:=fun e=>hj (zhc hN e1 (e ▸ hi))
     simp [this,e]
    ·exact .inr ⟨k,c,e,z.sameBut hs (cne y c e)⟩
  ·obtain⟨w',z⟩:=I.cell y c e;exact⟨w',z.sameBut hs (cne y c e)⟩
  ·obtain⟨e,n,ne,nf,d⟩:=I.pin p hp;exact⟨(hs.2 p.1 ne).trans e,n,ne,nf,d⟩
 ·have Ai:X.fn x=true:=by
   rcases hf with z | z
   ·exact z
   ·rw [z] at hk; cases hk
  obtain⟨c,hc⟩:=I.ok.has x (.inl hk);obtain⟨w',z⟩:=I.cell x c hc;refine wpAny_storeName_cell I.ok.kind hk hc z (fun h' md hs=>?_);obtain⟨oc,hoc,CU⟩:=id z;refine h { s with heap:=h' } ⟨I.ok,I.os,I.bare,⟨fun b o e n hb hx=>?_,fun b o e n hb hx=>?_,I.base.free,fun b o e hx=>?_,I.base.tups,I.base.frzs,I.base.tbls⟩,⟨m,hn.sameBut hs (cQ (cne x c hc)),fun j y v' e1 e2 e3=>?_⟩,fun y c' e=>?_,I.free,I.freeC,fun p hp=>?_,tracked ⟨oc,hoc,I.freeC x c hc⟩ hs,by simpa using I.len⟩ ⟨c,hs,.inr hc⟩
  ·exact (hs.2 b (bh (br (aF e) (I.ok.cab x c Ai hc)))).trans (I.base.keep b o e n hb hx)
  ·obtain⟨sl,e1⟩:=I.base.slot b o e n hb hx;exact⟨sl,(hs.2 b (bh (br (aF e) (I.ok.cab x c Ai hc)))).trans e1⟩
  ·obtain⟨o',e1⟩:=I.base.there b o e hx;exact⟨o',(hs.2 b (bh (br (aF e) (I.ok.cab x c Ai hc)))).trans e1⟩
  ·by_cases hj:j=i
   ·subst hj;rw [hi] at e1; cases e1;rw [gC hiσ] at e2;cases e2;exact⟨u,r,.inr ⟨.inl hk,c,hc,md⟩⟩
   ·rw [eA (cQ hj)] at e2;obtain⟨u',r',q⟩:=hl j y v' e1 e2 e3;refine⟨u',r',?_⟩;rcases q with q | ⟨k,c',e,z'⟩
    ·exact .inl q
    ·refine .inr ⟨k,c',e,z'.sameBut hs ?_⟩;rintro rfl;exact hj (zhc hN e1 (I.ok.inj _ _ _ e hc ▸ hi))
  ·by_cases nV:c'=c
   ·subst nV; exact⟨_,md⟩
   ·obtain⟨w2,z2⟩:=I.cell y c' e;exact⟨w2,z2.sameBut hs nV⟩
  ·obtain⟨e,n,ne,nf,d⟩:=I.pin p hp;refine⟨(hs.2 p.1 ?_).trans e,n,ne,nf,d⟩;intro q;rw [q,hoc] at e;have q':oc=p.2:=aS e;exact d w' (by rw [← q']; exact CU)
theorem zew {M:Model} {A:Around} {E:Value→Shared→Prop} {i:Nat} {x:Str} {v:V} {u:Value} {Q:Unit→Shared→Prop} (I:Inv X lR σ H s) (hN:X.N.Nodup) (hi:X.N[i]? = some x) (hx:Loc X.env.scope x) (r:RelV v u)
  (h:∀ s',Inv X lR (σ.set i (some v)) H s'→Q () s') (hf:X.fn x=true∨X.env.scope.names.lookup x=some .local:=by first | exact .inl rfl | exact .inr rfl | assumption):wpAny M A (storeName X.env x u) Q E s :=
 zfw I hN hi hx r (fun s' I' _=>h s' I') hf
theorem Inv.call' {s':Shared} {ch:List Addr} (I:Inv X lR σ H s) (ho:s'.os=s.os) (u:Un (frs X.stack) ch H H' s.heap s'.heap) (hok:HOk X.prog X.w H' s'.heap) (hg:AllBare s'.gens)
  (wx:∀ b∈ch,(b∈X.ex∨X.s₀.heap.objs.size≤b)∧b≠X.env.locals∧(∀ x c,X.env.cells.lookup x=some c→c≠b)∧∀ p∈X.pn++lR,p.1≠b):Inv X lR σ H' s':=by
 obtain⟨h',g',d',t',o'⟩:=s';have e:o'=s.os:=ho;subst e;exact I.call (g':=g') (t':=t') (d':=d') u hok hg wx
end
abbrev XK:=Value→Option Addr→Hp→Prop
abbrev St:=List (Option V)
abbrev VK:=V→Hp→Prop
abbrev TE:=St→Hp→VK→Prop
abbrev TT:=St→Hp→(Bool→Hp→Prop)→Prop
abbrev TA:=St→Hp→(List V→Hp→Prop)→Prop
structure Ends where
 nx:St→Hp→Prop
 rt:VK
 bk:St→Hp→Prop:=fun _ _=>False
 ct:St→Hp→Prop:=fun _ _=>False
abbrev TS:=Ends→St→Hp→Prop
def EP (X:Cx) (lR:List (Addr×Obj)) (σ:St) (Q:VK) (u:Value) (s':Shared):Prop:=∃ v H',Inv X lR σ H' s'∧RelV v u∧Q v H'
def TP (X:Cx) (lR:List (Addr×Obj)) (σ:St) (Q:Bool→Hp→Prop) (b:Bool) (s':Shared):Prop:=∃ H',Inv X lR σ H' s'∧Q b H'
def AP (X:Cx) (lR:List (Addr×Obj)) (σ:St) (Q:List V→Hp→Prop) (us:List Value) (s':Shared):Prop:=∃ vs H',Inv X lR σ H' s'∧zG vs us∧Q vs H'
def SP (X:Cx) (lR:List (Addr×Obj)) (D:Ends) (f:Flow) (s':Shared):Prop :=
 match f with
 | .next=>∃ σ' H',Inv X lR σ' H' s'∧D.nx σ' H'
 | .brk=>∃ σ' H',Inv X lR σ' H' s'∧D.bk σ' H'
 | .cont=>∃ σ' H',Inv X lR σ' H' s'∧D.ct σ' H'
 | .ret u=>∃ v σ' H',Inv X lR σ' H' s'∧RelV v u∧D.rt v H'
def PE (X:Cx) (e:Expr) (t:TE):Prop :=
 ∀ (lR:List (Addr×Obj)) (s:Shared) (σ:St) (H:Hp) (Q:VK),Inv X lR σ H s→t σ H Q→wpAny (model X.prog X.w) X.A (eval e X.env) (EP X lR σ Q) X.xe s
def PT (X:Cx) (e:Expr) (t:TT):Prop :=
 ∀ (lR:List (Addr×Obj)) (s:Shared) (σ:St) (H:Hp) (Q:Bool→Hp→Prop),Inv X lR σ H s→t σ H Q→wpAny (model X.prog X.w) X.A (isTrue e X.env (eval e X.env)) (TP X lR σ Q) X.xe s
def PW (X:Cx) (e:Expr) (t:TT):Prop :=
 ∀ (whole:Sem Value) (lR:List (Addr×Obj)) (s:Shared) (σ:St) (H:Hp) (Q:Bool→Hp→Prop),Inv X lR σ H s→t σ H Q→wpAny (model X.prog X.w) X.A (isTrue e X.env whole) (TP X lR σ Q) X.xe s
theorem PW.pt {X:Cx} {e:Expr} {t:TT} (h:PW X e t):PT X e t:=h _
def PA (X:Cx) (es:List Expr) (t:TA):Prop :=
 ∀ (pos:Pos) (lR:List (Addr×Obj)) (s:Shared) (σ:St) (H:Hp) (Q:List V→Hp→Prop),Inv X lR σ H s→t σ H Q→wpAny (model X.prog X.w) X.A (spliced (backTo pos (starEach es X.env))) (AP X lR σ Q) X.xe s
def PS (X:Cx) (st:Stmt) (t:TS):Prop :=
 ∀ (lR:List (Addr×Obj)) (s:Shared) (σ:St) (H:Hp) (D:Ends),Inv X lR σ H s→t D σ H→wpAny (model X.prog X.w) X.A (exec st X.env) (SP X lR D) X.xe s
def PSs (X:Cx) (st:List Stmt) (t:TS):Prop :=
 ∀ (lR:List (Addr×Obj)) (s:Shared) (σ:St) (H:Hp) (D:Ends),Inv X lR σ H s→t D σ H→wpAny (model X.prog X.w) X.A (execs st X.env) (SP X lR D) X.xe s
theorem thn {α:Type} {t:Sem α} {Q Q':α→Shared→Prop} {M:Model} {A:Around} {E:Value→Shared→Prop} {s:Shared} (h:wpAny M A t Q E s) (hQ:∀ a s,Q a s→Q' a s):wpAny M A t Q' E s:=c7 h hQ fun _ _ x=>x
section
variable {X:Cx}
def zpz (i:Nat):TE:=fun σ H Q=>∃ v,σ[i]? = some (some v)∧Q v H
def tC (v:V):TE:=fun _ H Q=>Q v H
theorem zov {i:Nat} {x:Str} {pos:Pos} (hN:X.N[i]? = some x) (hv:Vis X.env.scope x) (hd:(x == ("__debug__" : Str))=false:=by decide) (uI:(x == ("__classdict__" : Str))=false:=by decide):PE X (.Name x pos) (zpz i):=by
 intro lR s σ H Q I h;obtain⟨v,e,h⟩:=h;obtain⟨m,hn,hl⟩:=I.loc;obtain⟨u,r,l⟩:=hl i x v hN e hv;have fin:EP X lR σ Q u s:=⟨v,H,I,r,h⟩;rcases l with ⟨hk,hm⟩ | ⟨hk,c,hc,pX⟩
 ·exact k9 (jF I.ok.kind hk hn hm fin) hd
 ·rcases hk with hk | hk
  ·exact k9 (j1 I.ok.kind hk hc pX fin) hd
  ·exact k9 (wpAny_loadName_free I.ok.kind hk hc pX fin uI) hd
theorem zh {i j pos}:PE X (.Constant (.int i) j pos) (tC (.int i)):=fun _ _ _ H _ I h=>wpAny_Constant_int ⟨.int i,H,I.tok _,⟨_,rfl⟩,h⟩
theorem zhd {b j pos}:PE X (.Constant (.bool b) j pos) (tC (.bl b)):=fun _ _ _ H _ I h=>Constant_bool ⟨.bl b,H,I,rfl,h⟩
theorem zex {j pos}:PE X (.Constant .none j pos) (tC .non):=fun _ _ _ H _ I h=>Constant_none ⟨.non,H,I,rfl,h⟩
def Gl (X:Cx) (x:Str):Prop:=X.env.kindOf x=some .globalImplicit
theorem ziW {E:Value→Shared→Prop} {lR:List (Addr×Obj)} {s:Shared} {σ:St} {H:Hp} {x:Str} {u:Value} {pos:Pos} {Q:Value→Shared→Prop} (I:Inv X lR σ H s) (hg:Gl X x) (hm:X.mg x=some u) (h:Q u s)
  (hd:(x == ("__debug__" : Str))=false:=by decide):wpAny (model X.prog X.w) X.A (eval (.Name x pos) X.env) Q E s :=
 iF I.ok.kind hg (Calls.loadGlobal_global (by rw [I.ok.glob]; exact I.mod.glob.keeps I.bk) hm h) hd
theorem zaV {E:Value→Shared→Prop} {lR:List (Addr×Obj)} {s:Shared} {σ:St} {H:Hp} {x:Str} {u:Value} {pos:Pos} {Q:Value→Shared→Prop} (I:Inv X lR σ H s) (hg:Gl X x) (hm:X.mg x=none) (hv:bootBuiltins x=some u) (h:Q u s)
  (hn:x≠"__name__":=by decide) (hd:(x == ("__debug__" : Str))=false:=by decide):wpAny (model X.prog X.w) X.A (eval (.Name x pos) X.env) Q E s:=by
 obtain⟨mb,h1,h2⟩:=I.mod.blt;exact iF I.ok.kind hg (Calls.loadGlobal_builtin (by rw [I.ok.glob]; exact I.mod.glob.keeps I.bk) hm (by rw [I.ok.blt]; exact h1.keeps I.bk) ((h2 x hn).trans hv) h) hd
theorem ziX {x:Str} {v:V} {u:Value} {pos:Pos} (hg:Gl X x) (hm:X.mg x=some u) (r:RelV v u) (hd:(x == ("__debug__" : Str))=false:=by decide):PE X (.Name x pos) (tC v) :=
 fun _ _ _ H _ I h=>ziW I hg hm ⟨v,H,I,r,h⟩ hd
variable {a b:Expr} {ta tb:TE} {pos:Pos}
def tB (t:TE):TT:=fun σ H Q=>t σ H fun x H1=>∃ c,x = .bl c∧Q c H1
theorem zkW {e:Expr} {t:TE} (h:PE X e t) (he:∀ whole,isTrue e X.env whole=(do let v ← whole; standAt e.pos; holding [v] (truthy v)):=by intro _; rfl):PT X e (tB t):=by
 intro lR s σ H Q I hw;refine isTrue_plain (thn (h lR s σ H _ I hw) fun v s1 ⟨x,H1,I1,r1,q1⟩=>?_) (he _);obtain⟨d,rfl,q⟩:=q1;cases r1;exact dH ⟨H1,I1,q⟩
variable {tA B0:TT} {rest:List Expr}
def zqe (t u:TT):TT:=fun σ H Q=>t σ H fun c H1=>if c=true then u σ H1 Q else Q false H1
def tOr (t u:TT):TT:=fun σ H Q=>t σ H fun c H1=>if c=true then Q true H1 else u σ H1 Q
def zqf (t:TT):TT:=fun σ H Q=>t σ H fun c H1=>Q (!c) H1
theorem zgb (ha:PT X a tA):PW X (.BoolOp .And [a] pos) tA:=by
 intro wh lR s σ H Q I h;refine isTrue_and (thn (ha lR s σ H Q I h) fun c s1 e=>?_);cases c with
 | true=>exact isTrue_and_nil e
 | false=>exact e
theorem zow (ha:PT X a tA):PW X (.BoolOp .Or [a] pos) tA:=by
 intro wh lR s σ H Q I h;refine isTrue_or (thn (ha lR s σ H Q I h) fun c s1 e=>?_);cases c with
 | false=>exact isTrue_or_nil e
 | true=>exact e
theorem zgc (ha:PT X a tA) (hb:PW X (.BoolOp .And (b :: rest) pos) B0):PW X (.BoolOp .And (a :: b :: rest) pos) (zqe tA B0):=by
 intro wh lR s σ H Q I h;refine isTrue_and (thn (ha lR s σ H _ I h) fun c s1 ⟨H1,I1,q1⟩=>?_);cases c with
 | true=>exact hb wh lR s1 σ H1 Q I1 q1
 | false=>exact⟨H1,I1,q1⟩
theorem zpA (ha:PT X a tA) (hb:PW X (.BoolOp .Or (b :: rest) pos) B0):PW X (.BoolOp .Or (a :: b :: rest) pos) (tOr tA B0):=by
 intro wh lR s σ H Q I h;refine isTrue_or (thn (ha lR s σ H _ I h) fun c s1 ⟨H1,I1,q1⟩=>?_);cases c with
 | true=>exact⟨H1,I1,q1⟩
 | false=>exact hb wh lR s1 σ H1 Q I1 q1
theorem zey (ha:PT X a tA):PT X (.UnaryOp .Not a pos) (zqf tA):=by
 intro lR s σ H Q I h;exact isTrue_not (ha lR s σ H (fun c H1=>Q (!c) H1) I h)
end
def lT (K:ah) (H:Hp) (a:Addr) (xs:List V):Prop :=
 Rd H a (.lst xs) ∨
  ∃ (o:Obj) (lU:Array Value) (n:Nat),K.lookup a=some o∧o.cls = .type "list"∧o.dict=none∧o.data = .seq lU n∧lU.size≤sizeLine∧zG xs lU.toList
def me (K:ah) (H:Hp) (a:Addr) (xs:List V):Prop :=
 Rd H a (.tup xs) ∨
  ∃ (o:Obj) (lU:Array Value) (n:Nat),K.lookup a=some o∧o.cls = .type "tuple"∧o.data = .seq lU n∧lU.size≤sizeLine∧zG xs lU.toList
def zqg:Value→Option V
 | .none=>some .non
 | .bool b=>some (.bl b)
 | .int i _=>some (.int i)
 | .str x _=>some (.str x)
 | .bytes b _=>some (.byt b)
 | .float b _=>some (.flt b)
 | .ref a=>some (.ref a)
 | .type n=>some (.ty n)
 | _=>none
theorem RelV.abs {x:V} {u:Value} (r:RelV x u):zqg u=some x:=by
 cases x with
 | non=>cases r; rfl
 | bl _=>cases r; rfl
 | int _=>obtain⟨t,rfl⟩:=r; rfl
 | str _=>obtain⟨t,rfl⟩:=r; rfl
 | byt _=>obtain⟨t,rfl⟩:=r; rfl
 | flt _=>obtain⟨t,rfl⟩:=r; rfl
 | ref _=>cases r; rfl
 | ty _=>cases r; rfl
theorem RelV.inj {x y:V} {u:Value} (r:RelV x u) (q:RelV y u):x=y:=aS (r.abs.symm.trans q.abs)
theorem zG.inj:∀ {xs ys:List V} {us:List Value},zG xs us→zG ys us→xs=ys
 | _,_,_,.nil,.nil=>rfl
 | _,_,_,.cons r t,.cons r' t'=>by rw [r.inj r',zG.inj t t']
section
variable {X:Cx} {lR:List (Addr×Obj)} {σ:St} {H:Hp} {s:Shared} {a:Addr} {xs ys:List V}
theorem lT.of {K:ah} (h:H a=some (.lst xs)):lT K H a xs:=.inl (.inl h)
theorem me.of {K:ah} (h:H a=some (.tup xs)):me K H a xs:=.inl (.inl h)
theorem Inv.list (I:Inv X lR σ H s) (h:lT X.K H a xs):∃ lU:List Value,zG xs lU∧PlainL s.heap a lU.toArray∧xs.length≤sizeLine:=by
 rcases h with h | ⟨o,lU,n,hk,hc,hd,hs,hz,r⟩
 ·obtain⟨z,lU,n,r,e⟩:=h.ok I.hok;exact⟨lU,r,⟨_,n,e,rfl,rfl,rfl⟩,z⟩
 ·refine⟨lU.toList,r,⟨o,n,I.kIn a o hk,hc,hd,by simpa using hs⟩,?_⟩;have e:=r.length;simp only [bu] at e;lia
theorem Inv.tuple (I:Inv X lR σ H s) (h:me X.K H a xs):∃ lU:List Value,zG xs lU∧IsTup s.heap a lU.toArray∧xs.length≤sizeLine:=by
 rcases h with h | ⟨o,lU,n,hk,hc,hs,hz,r⟩
 ·obtain⟨z,lU,r,p⟩:=h.ok I.hok;exact⟨lU,r,p,z⟩
 ·refine⟨lU.toList,r,⟨o,I.kIn a o hk,hc,n,by simpa using hs⟩,?_⟩;have e:=r.length;simp only [bu] at e;lia
theorem Inv.list_inj (I:Inv X lR σ H s) (h:lT X.K H a xs) (h':lT X.K H a ys):xs=ys:=by
 obtain⟨lU,r,⟨o,n,e,_,_,d⟩,_⟩:=I.list h;obtain⟨its',r',⟨o',n',e',_,_,d'⟩,_⟩:=I.list h';rw [e] at e'; cases e';rw [d] at d';injection d' with d1 _
 have:lU=its':=by simpa using congrArg lL d1
 subst this;exact r.inj r'
theorem Inv.tuple_inj (I:Inv X lR σ H s) (h:me X.K H a xs) (h':me X.K H a ys):xs=ys:=by
 obtain⟨lU,r,⟨o,e,_,n,d⟩,_⟩:=I.tuple h;obtain⟨its',r',⟨o',e',_,n',d'⟩,_⟩:=I.tuple h';rw [e] at e'; cases e';rw [d] at d';injection d' with d1 _
 have:lU=its':=by simpa using congrArg lL d1
 subst this;exact r.inj r'
end
abbrev Cx.wish (X:Cx) (E:Value→Shared→Prop):Cx:={ X with xe:=E }
abbrev Cx.nox (X:Cx):Cx:=X.wish fun _ _=>False
theorem Cx.Ok.wish {X:Cx} (ok:X.Ok) (E:Value→Shared→Prop):(X.wish E).Ok :=
 ⟨ok.mod,ok.kind,ok.glob,ok.blt,ok.above,ok.inj,ok.has,ok.cab,ok.hd,ok.frames,ok.stk,ok.exf,ok.bs,ok.bsz,ok.noex,ok.exfs,ok.funs,ok.frf⟩
theorem Cx.Ok.unwish {X:Cx} {E:Value→Shared→Prop} (ok:(X.wish E).Ok):X.Ok :=
 ⟨ok.mod,ok.kind,ok.glob,ok.blt,ok.above,ok.inj,ok.has,ok.cab,ok.hd,ok.frames,ok.stk,ok.exf,ok.bs,ok.bsz,ok.noex,ok.exfs,ok.funs,ok.frf⟩
section
variable {X:Cx} {lR:List (Addr×Obj)} {σ:St} {H:Hp} {s:Shared} {E:Value→Shared→Prop}
theorem Inv.wish (I:Inv X lR σ H s) (E:Value→Shared→Prop):Inv (X.wish E) lR σ H s:=⟨I.ok.wish E,I.os,I.bare,I.base,I.loc,I.cell,I.free,I.freeC,I.pin,I.hok,I.len⟩
theorem Inv.unwish (I:Inv (X.wish E) lR σ H s):Inv X lR σ H s:=⟨I.ok.unwish,I.os,I.bare,I.base,I.loc,I.cell,I.free,I.freeC,I.pin,I.hok,I.len⟩
theorem SP.unwish {D:Ends} {f:Flow} {s':Shared} (h:SP (X.wish E) lR D f s'):SP X lR D f s':=by
 cases f with
 | next=>obtain⟨σ',H',I,q⟩:=h; exact⟨σ',H',I.unwish,q⟩
 | brk=>obtain⟨σ',H',I,q⟩:=h; exact⟨σ',H',I.unwish,q⟩
 | cont=>obtain⟨σ',H',I,q⟩:=h; exact⟨σ',H',I.unwish,q⟩
 | ret u=>obtain⟨v,σ',H',I,r,q⟩:=h; exact⟨v,σ',H',I.unwish,r,q⟩
theorem PSs.nox {st:List Stmt} {t:TS} (h:PSs X.nox st t):PSs X st t:=fun lR s σ H D I hw =>
 c7 (h lR s σ H D (I.wish _) hw) (fun _ _ q=>q.unwish) fun _ _ z=>eB z
end
section
variable {X:Cx} {st:Stmt} {rest:List Stmt} {t u:TS} {e:Expr} {te:TE} {pos:Pos}
def zpB:TS:=fun D σ H=>D.nx σ H
def zpC (t u:TS):TS:=fun D σ H=>t { D with nx:=u D } σ H
theorem zaq:PSs X [] zpB:=fun _ _ σ H _ I h=>gW ⟨σ,H,I,h⟩
theorem ze (h1:PS X st t) (h2:PSs X rest u):PSs X (st :: rest) (zpC t u):=by
 intro lR s σ H D I h;refine wpAny_execs_cons (thn (h1 lR s σ H { D with nx:=u D } I h) fun f s1 q=>?_);cases f with
 | next =>
  obtain⟨σ',H',I',q⟩:=q;exact h2 lR s1 σ' H' D I' q
 | ret v=>exact q
 | brk=>exact q
 | cont=>exact q
theorem zk (h1:PS X st t):PSs X [st] t:=by
 intro lR s σ H D I h;refine wpAny_execs_cons (thn (h1 lR s σ H D I h) fun f s1 q=>?_);cases f with
 | next=>exact gW q
 | ret v=>exact q
 | brk=>exact q
 | cont=>exact q
theorem Inv.quiet {lR:List (Addr×Obj)} {σ:St} {H:Hp} {s:Shared} (I:Inv X lR σ H s):interactive X.env=false:=by simp [interactive,I.ok.kind]
def zpD (te:TE):TS:=fun D σ H=>te σ H fun _ H1=>D.nx σ H1
theorem zc8 (he:PE X e te) (hs:swapsWith e none pos.line X.env=pure false:=by rfl):PS X (.Expr e pos) (zpD te):=by
 intro lR s σ H D I h;exact wpAny_Expr_any (thn (he lR s σ H _ I h) fun v s1 ⟨x,H1,I1,r1,q1⟩=>⟨σ,H1,I1,q1⟩) I.quiet hs
def zqh (te:TE):TS:=fun D σ H=>te σ H D.rt
theorem zC (he:PE X e te):PS X (.Return (some e) pos) (zqh te):=by
 intro lR s σ H D I h;exact wpAny_Return_some (thn (he lR s σ H _ I h) fun v s1 ⟨x,H1,I1,r1,q1⟩=>⟨x,σ,H1,I1,r1,q1⟩)
def zqi (c:TT) (t u:TS):TS:=fun D σ H=>c σ H fun b H1=>if b=true then t D σ H1 else u D σ H1
theorem zby {c:Expr} {a b:List Stmt} {tc:TT} (hc:PT X c tc) (ha:PSs X a t) (hb:PSs X b u):PS X (.If c a b pos) (zqi tc t u):=by
 intro lR s σ H D I h;refine wpAny_If (thn (hc lR s σ H _ I h) fun d s1 ⟨H1,I1,q1⟩=>?_);cases d with
 | true=>exact ha lR s1 σ H1 D I1 q1
 | false=>exact hb lR s1 σ H1 D I1 q1
def zox:TS:=fun _ _ _=>False
theorem zdH {qk:List Stmt}:PSs X qk zox:=fun _ _ _ _ _ _ h=>h.elim
end
abbrev TG:=V→St→Hp→(St→Hp→Prop)→Prop
abbrev TGs:=List V→St→Hp→(St→Hp→Prop)→Prop
def PG (X:Cx) (target:Expr) (t:TG):Prop :=
 ∀ (lR:List (Addr×Obj)) (s:Shared) (σ:St) (H:Hp) (v:V) (u:Value) (Q:St→Hp→Prop),Inv X lR σ H s→RelV v u→t v σ H Q →
  wpAny (model X.prog X.w) X.A (assign target X.env u) (fun _ s'=>∃ σ' H',Inv X lR σ' H' s'∧Q σ' H') X.xe s
def PGs (X:Cx) (ts:List Expr) (t:TGs):Prop :=
 ∀ (lR:List (Addr×Obj)) (s:Shared) (σ:St) (H:Hp) (vs:List V) (us:List Value) (Q:St→Hp→Prop),Inv X lR σ H s→zG vs us→t vs σ H Q →
  wpAny (model X.prog X.w) X.A (assignInOrder ((assignEach ts X.env).map (·.2)) us) (fun _ s'=>∃ σ' H',Inv X lR σ' H' s'∧Q σ' H') X.xe s
abbrev zoy:=V→V→V→Hp→(Hp→Prop)→Prop
def zpE (X:Cx) (t:zoy):Prop :=
 ∀ (lR:List (Addr×Obj)) (s:Shared) (σ:St) (H:Hp) (o i v:V) (ov iv u:Value) (Q:Hp→Prop),Inv X lR σ H s→RelV o ov→RelV i iv→RelV v u→t o i v H Q →
  wpAny (model X.prog X.w) X.A (setItem ov iv u) (fun _ s'=>∃ H',Inv X lR σ H' s'∧Q H') X.xe s
abbrev TIp:=V→V→Hp→VK→Prop
def PIp (X:Cx) (op:Operator) (t:TIp):Prop :=
 ∀ (lR:List (Addr×Obj)) (s:Shared) (σ:St) (H:Hp) (x y:V) (v u:Value) (Q:VK),Inv X lR σ H s→RelV x v→RelV y u→t x y H Q →
  wpAny (model X.prog X.w) X.A (inplaceOp op v u) (EP X lR σ Q) X.xe s
section
variable {X:Cx} {pos:Pos}
def zaO (i:Nat):TG:=fun v σ H Q=>Q (σ.set i (some v)) H
theorem zf {i:Nat} {x:Str} (hN:X.N.Nodup) (hi:X.N[i]? = some x) (hx:Loc X.env.scope x) (hf:X.fn x=true∨X.env.scope.names.lookup x=some .local:=by first | exact .inl rfl | exact .inr rfl | assumption):PG X (.Name x pos) (zaO i):=by
 intro lR s σ H v u Q I r h;exact wpAny_assign_Name (zew I hN hi hx r (fun s' I'=>⟨_,H,I',h⟩) hf)
def zib:TGs:=fun vs σ H Q=>vs = []∧Q σ H
def zbX (t:TG) (u:TGs):TGs:=fun vs σ H Q=>∃ v r,vs=v :: r∧t v σ H fun σ' H'=>u r σ' H' Q
theorem zz:PGs X [] zib:=by
 intro lR s σ H vs us Q I r h;obtain⟨e,h⟩:=h;subst e;cases r;exact assignInOrder_nil ⟨σ,H,I,h⟩
theorem zi {e:Expr} {es:List Expr} {t:TG} {u:TGs} (h1:PG X e t) (h2:PGs X es u)
  (hs:(assignEach (e :: es) X.env).map (·.2)=assign e X.env :: (assignEach es X.env).map (·.2):=by rfl):PGs X (e :: es) (zbX t u):=by
 intro lR s σ H vs us Q I r h;obtain⟨v,vr,e1,h⟩:=h;subst e1;cases r with
 | cons r rr =>
  rw [hs];refine assignInOrder_cons (thn (h1 lR s σ H _ _ _ I r h) fun _ s1 ⟨σ1,H1,I1,q1⟩=>?_);exact h2 lR s1 σ1 H1 _ _ Q I1 rr q1
def zhe (K:ah) (n:Nat) (t:TGs):TG:=fun v σ H Q=>∃ a xs,v = .ref a∧me K H a xs∧xs.length=n∧t xs σ H Q
theorem zaW {es:List Expr} {k:Nat} {t:TGs} {n:Nat} (hc:X.calm=true) (h:PGs X es t)
  (hn:(assignEach es X.env).length=n:=by rfl) (oC:(assignEach es X.env).findIdx? (·.1)=none:=by rfl):PG X (.Tuple es k pos) (zhe X.K n t):=by
 intro lR s σ H v u Q I r hw;obtain⟨a,xs,e1,hq,hl,hw⟩:=hw;subst e1;cases r;obtain⟨lU,rv,ht,hz⟩:=I.tuple hq;refine assign_Tuple_tuple (I.ok.hd hc) ht (by simp [hn,← hl,rv.length]) oC fun h' hx=>?_
 have I1:Inv X lR σ H { s with heap:=h' }:=I.kept (t':=s.toks) fun b o e=>hx b o (bh (aF e)) e
 exact h lR _ σ H xs _ Q I1 (by simpa using rv) hw
def zqj (to ti:TE) (t:zoy):TG:=fun v σ H Q=>to σ H fun o H1=>ti σ H1 fun i H2=>t o i v H2 fun H3=>Q σ H3
theorem zgd {o i:Expr} {to ti:TE} {t:zoy} (ho:PE X o to) (hi:PE X i ti) (hs:zpE X t)
  (ha:∀ v,assign (.Subscript o i pos) X.env v=(do
   let ov ← holding [v] (eval o X.env)
   let iv ← holding [v,ov] (eval i X.env)
   standAt pos
   holding [v,ov,iv] (setItem ov iv v)
   release [v,ov,iv] []):=by intro _; rfl):PG X (.Subscript o i pos) (zqj to ti t):=by
 intro lR s σ H v u Q I r h;rw [ha];refine ae (bV (thn (ho lR s σ H _ I h) fun ov s1 ⟨x,H1,I1,r1,q1⟩=>?_));refine ae (bV (thn (hi lR s1 σ H1 _ I1 q1) fun iv s2 ⟨y,H2,I2,r2,q2⟩=>?_));refine ae (fM (ae (bV (thn (hs lR s2 σ H2 x y v ov iv u _ I2 r1 r2 r q2) fun _ s3 ⟨H3,I3,q3⟩=>?_))));exact wpAny_release ⟨σ,H3,I3,q3⟩
def zic (te:TE) (g:TG):TS:=fun D σ H=>te σ H fun x H1=>g x σ H1 D.nx
theorem zaP {tg e:Expr} {te:TE} {g:TG} (he:PE X e te) (hg:PG X tg g) (hs:swapsWithSole [tg] e pos.line X.env=pure false:=by rfl) (hw:swappedStores [tg] e X.env=pure none:=by rfl)
  (h1:(assignEach [tg] X.env).map (·.2) = [assign tg X.env]:=by rfl):PS X (.Assign [tg] e pos) (zic te g):=by
 intro lR s σ H D I h;refine wpAny_Assign_stores (thn (he lR s σ H _ I h) fun v s1 ⟨x,H1,I1,r1,q1⟩=>?_) hs hw;rw [h1];exact thn (hg lR s1 σ H1 x v _ I1 r1 q1) fun _ s2 q=>q
theorem zn {i:Nat} {x:Str} {e:Expr} {te:TE} {pos':Pos} (hN:X.N.Nodup) (hi:X.N[i]? = some x) (hx:Loc X.env.scope x) (he:PE X e te) (hs:swapsWith e (some (.Name x pos')) pos.line X.env=pure false:=by rfl) (hf:X.fn x=true∨X.env.scope.names.lookup x=some .local:=by first | exact .inl rfl | exact .inr rfl | assumption) :
  PS X (.Assign [.Name x pos'] e pos) (zic te (zaO i)):=by
 intro lR s σ H D I h;refine wpAny_Assign_Name (thn (he lR s σ H _ I h) fun v s1 ⟨y,H1,I1,r1,q1⟩=>?_) hs;exact zew I1 hN hi hx r1 (fun s2 I2=>⟨_,H1,I2,q1⟩) hf
def zqk (i:Nat) (te:TE) (ti:TIp):TS:=fun D σ H=>∃ x,σ[i]? = some (some x)∧te σ H fun y H1=>ti x y H1 fun z H2=>D.nx (σ.set i (some z)) H2
theorem zid {i:Nat} {x:Str} {e:Expr} {te:TE} {op:Operator} {ti:TIp} {pos':Pos} (hN:X.N.Nodup) (hi:X.N[i]? = some x) (hx:Loc X.env.scope x) (he:PE X e te) (ho:PIp X op ti) (hf:X.fn x=true∨X.env.scope.names.lookup x=some .local:=by first | exact .inl rfl | exact .inr rfl | assumption) :
  PS X (.AugAssign (.Name x pos') op e pos) (zqk i te ti):=by
 intro lR s σ H D I h;obtain⟨v,e1,h⟩:=h;obtain⟨m,hn,hl⟩:=I.loc;have vis:Vis X.env.scope x:=by rcases hx with k | k; exact .inl k; exact .inr (.inl k)
 obtain⟨u,r,l⟩:=hl i x v hi e1 vis;refine wpAny_AugAssign_Name ?_;have go:wpAny (model X.prog X.w) X.A (eval e X.env) (fun w s₂=>wpAny (model X.prog X.w) X.A (inplaceOp op u w) (fun r s₃=>wpAny (model X.prog X.w) X.A (storeName X.env x r) (fun _=>SP X lR D .next) X.xe s₃) X.xe s₂) X.xe s:=by
  refine thn (he lR s σ H _ I h) fun w s1 ⟨y,H1,I1,r1,q1⟩=>?_
  refine thn (ho lR s1 σ H1 v y u w _ I1 r r1 q1) fun z s2 ⟨zv,H2,I2,r2,q2⟩=>?_
  exact zew I2 hN hi hx r2 (fun s3 I3=>⟨_,H2,I3,q2⟩) hf
 rcases l with ⟨hk,hm⟩ | ⟨hk,c,hc,pX⟩
 ·exact jF I.ok.kind hk hn hm go
 ·rcases hk with hk | hk
  ·exact j1 I.ok.kind hk hc pX go
  ·rcases hx with k | k
   ·have:X.env.scope.names.lookup x=some .free:=hk;rw [k] at this; cases this
   ·have:X.env.scope.names.lookup x=some .free:=hk;rw [k] at this; cases this
def zkX (c:TT) (tb:TS):TS:=fun D σ H=>∃ W:Nat→St→Hp→Prop,(∃ m,W m σ H)∧∀ m σ H,W m σ H →
 c σ H fun b H1=>if b=true then ∃ N:St→Hp→Prop,(∀ σ' H',N σ' H'→∃ m',m' < m∧W m' σ' H')∧tb { D with nx:=N,ct:=N,bk:=D.nx } σ H1 else D.nx σ H1
theorem zhf {c:Expr} {body:List Stmt} {tc:TT} {tb:TS} (hp:PassesOwn (model X.prog X.w) X.A X.env X.xe) (hc:PT X c tc) (hb:PSs X body tb):PS X (.While c body [] pos) (zkX tc tb):=by
 intro lR s σ H D I h;obtain⟨W,⟨m0,w0⟩,turn⟩:=h;refine wpAny_While (codeAny_whileLoop (fun n s'=>∃ σ' H',Inv X lR σ' H' s'∧W n σ' H') ?_ m0 ⟨σ,H,I,w0⟩);rintro n s1 ⟨σ1,H1,I1,w1⟩;refine dX hp (thn (hc lR s1 σ1 H1 _ I1 (turn n σ1 H1 w1)) fun b s2 ⟨H2,I2,q2⟩=>?_);cases b with
 | true =>
  obtain⟨N,hN,q2⟩:=q2;rw [if_pos rfl];refine dX hp (thn (hb lR s2 σ1 H2 _ I2 q2) fun f s3 q3=>?_);cases f with
  | next =>
   obtain⟨σ3,H3,I3,n3⟩:=q3;obtain⟨m',hm,w3⟩:=hN σ3 H3 n3;exact⟨m',hm,σ3,H3,I3,w3⟩
  | cont =>
   obtain⟨σ3,H3,I3,n3⟩:=q3;obtain⟨m',hm,w3⟩:=hN σ3 H3 n3;exact⟨m',hm,σ3,H3,I3,w3⟩
  | brk=>exact q3
  | ret v=>exact q3
 | false =>
  rw [if_neg aR];exact gW ⟨σ1,H2,I2,q2⟩
end
structure It where
 go:Nat→Hp→Prop
 yld:Nat→Hp→V→Hp→Prop
 stop:Nat→Hp→Prop
def zbP (X:Cx) (lR:List (Addr×Obj)) (H:Hp) (b:Addr):Prop :=
 H b=none∧b≠X.env.locals∧b∉X.fs∧(b∈X.ex∨X.s₀.heap.objs.size≤b)∧(∀ x c,X.env.cells.lookup x=some c→c≠b)∧∀ p∈X.pn++lR,p.1≠b
theorem Inv.fpOk {X:Cx} {lR:List (Addr×Obj)} {σ:St} {H H':Hp} {s:Shared} {b:Addr} (I:Inv X lR σ H s) (hb:s.heap.objs.size≤b) (hn:H' b=none):zbP X lR H' b:=by
 refine⟨hn,fY (br I.lt hb),I.nofs hb,.inr (aW I.sz hb),fun x c e z=>?_,fun p hp z=>?_⟩
 ·obtain⟨v,q⟩:=I.cell x c e;exact absurd (br q.lt (by rw [z]; exact hb)) (cb _)
 ·exact absurd (br (aF (I.pin p hp).1) (by rw [z]; exact hb)) (cb _)
structure Turn (P:Program) (w:World) (K:ah) (tg:Expr) (J:It) (fp:List Addr) (it:Addr) (tn:Nat→Heap→Prop):Prop where
 mem:it∈fp
 obj:∀ i h,tn i h→∀ b∈fp,∃ o,h.get? b=some o∧∀ v,o.data≠.cell v
 keep:∀ i h h',tn i h→(∀ b∈fp,∀ o,h.get? b=some o→h'.get? b=some o)→tn i h'
 item:∀ (X:Cx),X.prog=P→X.w=w→X.K=K→X.calm=true→∀ (i:Nat) (lR:List (Addr×Obj)) (s:Shared) (σ:St) (H:Hp) (E:Value→Shared→Prop),Inv X lR σ H s→(∀ b∈fp,zbP X lR H b)→tn i s.heap→J.go i H →
  wpAny (model P w) X.A (pyNext (.ref it)) (fun r s1=>∃ u,r=some u ∧
   wpAny (model P w) X.A (letOwnedTupleGo tg (.ref it) u) (fun _ s2=>∃ x H',Inv X lR σ H' s2∧RelV x u∧J.yld i H x H'∧tn (i+1) s2.heap∧∀ b∈fp,H' b=none) E s1) E s
 done:∀ (X:Cx),X.prog=P→X.w=w→X.K=K→X.calm=true→∀ (i:Nat) (lR:List (Addr×Obj)) (s:Shared) (σ:St) (H:Hp) (E:Value→Shared→Prop),Inv X lR σ H s→(∀ b∈fp,zbP X lR H b)→tn i s.heap→J.stop i H →
  wpAny (model P w) X.A (pyNext (.ref it)) (fun r s1=>r=none∧Inv X lR σ H s1) E s
 self:∀ (A:Around) (i:Nat) (s:Shared) (Q:Value→Shared→Prop) (E:Value→Shared→Prop),tn i s.heap→Q (.ref it) s→wpAny (model P w) A (pyIter (.ref it)) Q E s
abbrev TI:=St→Hp→(It→Hp→Prop)→Prop
def PIE (X:Cx) (lR:List (Addr×Obj)) (σ:St) (tg:Expr) (R:It→Hp→Prop) (xX:Value) (s2:Shared):Prop :=
 ∃ (it:Addr) (fp:List Addr) (tn:Nat→Heap→Prop) (J:It) (H':Hp),xX = .ref it∧Inv X lR σ H' s2∧Turn X.prog X.w X.K tg J fp it tn∧tn 0 s2.heap∧(∀ b∈fp,zbP X lR H' b)∧R J H'
def PI (X:Cx) (tg iter:Expr) (wi:TI):Prop :=
 ∀ (lR:List (Addr×Obj)) (s:Shared) (σ:St) (H:Hp) (R:It→Hp→Prop),Inv X lR σ H s→wi σ H R →
  wpAny (model X.prog X.w) X.A (eval iter X.env) (fun v s1=>wpAny (model X.prog X.w) X.A (pyIter v) (PIE X lR σ tg R) X.xe s1) X.xe s
theorem zez {M:Model} {A:Around} {E:Value→Shared→Prop} {s:Shared} {tg:Expr} {it:Addr} {u:Value} {o:Obj} {n:String} {vs:Array Value} {Q:Unit→Shared→Prop} (ho:s.heap.get? it=some o) (hc:o.cls = .type n) (hd:o.data = .fields vs)
  (hn:["enumerate","zip","dict_itemiterator","dict_reverseitemiterator","odict_iterator","itertools.zip_longest","itertools.pairwise"].contains n=false) (hQ:Q () s):wpAny M A (letOwnedTupleGo tg (.ref it) u) Q E s:=by
 unfold letOwnedTupleGo;cases tg <;> first
  | exact ak hQ
  | (cases u <;> first
    | exact ak hQ
    | (refine ae (wpAny_load ho ?_)
       rw [hc,hd];show wpAny M A (if (["enumerate","zip","dict_itemiterator","dict_reverseitemiterator","odict_iterator","itertools.zip_longest","itertools.pairwise"].contains n && vs[0]? == some (rawInt _))=true then _ else _) Q E s;rw [if_neg (by intro h; rw [hn,Bool.false_and] at h; cases h)];exact ak hQ))
def Itl (K:ah) (a:Addr):It :=
 ⟨fun i H=>∃ xs x,lT K H a xs∧xs[i]? = some x,fun i H x H'=>H'=H∧∀ xs,lT K H a xs→xs[i]? = some x,fun i H=>∃ xs,lT K H a xs∧xs.length≤i⟩
def Itt (K:ah) (a:Addr):It :=
 ⟨fun i H=>∃ xs x,me K H a xs∧xs[i]? = some x,fun i H x H'=>H'=H∧∀ xs,me K H a xs→xs[i]? = some x,fun i H=>∃ xs,me K H a xs∧xs.length≤i⟩
def Itr (lo:Int) (n:Nat):It:=⟨fun i _=>i < n,fun i H x H'=>H'=H∧x = .int (lo+i),fun i _=>n≤i⟩
theorem zfx {P:Program} {w:World} {K:ah} {tg:Expr} (a it:Addr):Turn P w K tg (Itl K a) [it] it (fun i h=>h.IsListIter it a i) where
 mem:=by simp
 obj:=fun i h st b hb=>by
  have e:b=it:=by simpa using hb
  subst e;obtain⟨o,e,c,d⟩:=st;exact⟨o,e,fun v z=>by rw [d] at z; cases z⟩
 keep:=fun i h h' st k=>st.at fun o e=>k it #[M] o e
 item:=by
  intro X hP hw hK hc i lR s σ H E I hf st hg;subst hP hw hK;obtain⟨xs,x,hq,hx⟩:=hg;obtain⟨lU,rv,p,hz⟩:=I.list hq;obtain⟨u,hu,ru⟩:=rv.get hx;obtain⟨f0,f1,f2,f3,f4,f5⟩:=hf it #[M];refine wpAny_pyNext_list_item st p.isList (x:=u) (by simpa using hu) fun h' lV sb=>?_
  have I1:Inv X lR σ H { s with heap:=h' }:=I.turned (t':=s.toks) (fun b o hb e=>(sb.2 b hb).trans e) f0 f1 f3 f4 f5;obtain⟨o,e,c,d⟩:=id lV;exact⟨u,rfl,zez (s:={ s with heap:=h' }) e c d #[D] ⟨x,H,I1,ru,⟨rfl,fun ys hy=>by rw [I.list_inj hy hq]; exact hx⟩,lV,fun b hb=>(hf b hb).1⟩⟩
 done:=by
  intro X hP hw hK hc i lR s σ H E I hf st hg;subst hP hw hK;obtain⟨xs,hq,hx⟩:=hg;obtain⟨lU,rv,p,hz⟩:=I.list hq;obtain⟨f0,f1,f2,f3,f4,f5⟩:=hf it #[M];have hl:=rv.length;exact wpAny_pyNext_list_end (I.ok.hd hc) st p.isList (by simp; lia) fun h' eb=>⟨rfl,I.turned (t':=s.toks) (fun b o hb e=>eb b o hb e) f0 f1 f3 f4 f5⟩
 self:=fun _ _ _ _ _ st h=>wpAny_pyIter_listiter st h
theorem zeA {P:Program} {w:World} {K:ah} {tg:Expr} (a it:Addr):Turn P w K tg (Itt K a) [it] it (fun i h=>h.IsTupleIter it a i) where
 mem:=by simp
 obj:=fun i h st b hb=>by
  have e:b=it:=by simpa using hb
  subst e;obtain⟨o,e,c,d⟩:=st;exact⟨o,e,fun v z=>by rw [d] at z; cases z⟩
 keep:=fun i h h' st k=>st.at fun o e=>k it #[M] o e
 item:=by
  intro X hP hw hK hc i lR s σ H E I hf st hg;subst hP hw hK;obtain⟨xs,x,hq,hx⟩:=hg;obtain⟨lU,rv,p,hz⟩:=I.tuple hq;obtain⟨u,hu,ru⟩:=rv.get hx;obtain⟨f0,f1,f2,f3,f4,f5⟩:=hf it #[M];refine wpAny_pyNext_tuple_item st (show s.heap.IsTuple a lU.toArray from p) (x:=u) (by simpa using hu) fun h' lV sb=>?_
  have I1:Inv X lR σ H { s with heap:=h' }:=I.turned (t':=s.toks) (fun b o hb e=>(sb.2 b hb).trans e) f0 f1 f3 f4 f5;obtain⟨o,e,c,d⟩:=id lV;exact⟨u,rfl,zez (s:={ s with heap:=h' }) e c d #[D] ⟨x,H,I1,ru,⟨rfl,fun ys hy=>by rw [I.tuple_inj hy hq]; exact hx⟩,lV,fun b hb=>(hf b hb).1⟩⟩
 done:=by
  intro X hP hw hK hc i lR s σ H E I hf st hg;subst hP hw hK;obtain⟨xs,hq,hx⟩:=hg;obtain⟨lU,rv,p,hz⟩:=I.tuple hq;obtain⟨f0,f1,f2,f3,f4,f5⟩:=hf it #[M];have hl:=rv.length;exact wpAny_pyNext_tuple_end (I.ok.hd hc) st (show s.heap.IsTuple a lU.toArray from p) (by simp; lia) fun h' eb=>⟨rfl,I.turned (t':=s.toks) (fun b o hb e=>eb b o hb e) f0 f1 f3 f4 f5⟩
 self:=fun _ _ _ _ _ st h=>wpAny_pyIter_tupleiter st h
theorem zie {P:Program} {w:World} {K:ah} {tg:Expr} (it:Addr) (lo:Int) (n:Nat):Turn P w K tg (Itr lo n) [it] it (fun i h=>IsRangeIter h it (lo+(i:Nat)*1) ((n:Int) - (i:Nat)) 1) where
 mem:=by simp
 obj:=fun i h st b hb=>by
  have e:b=it:=by simpa using hb
  subst e;exact⟨_,st,fun v z=>by
   have z':jf _=Data.cell v:=z;cases z'⟩
 keep:=fun i h h' st k=>k it #[M] _ st
 item:=by
  intro X hP hw hK hc i lR s σ H E I hf st hg;subst hP hw hK;obtain⟨f0,f1,f2,f3,f4,f5⟩:=hf it #[M];have W:=Walks.range (prog:=X.prog) (w:=X.w) (I.ok.hd hc) it lo 1 n;refine W.item i s _ _ hg st fun v h' tk hv lV kk=>?_
  obtain⟨t,rfl⟩:=hv;have I1:Inv X lR σ H { s with heap:=h',toks:=tk }:=I.turned (fun b o hb e=>kk b o (by simpa using hb) e) f0 f1 f3 f4 f5;refine⟨_,rfl,zez (s:={ s with heap:=h',toks:=tk }) (n:="range_iterator") lV rfl rfl #[D] ⟨.int (lo+i),H,I1,⟨t,?_⟩,⟨rfl,rfl⟩,lV,fun b hb=>(hf b hb).1⟩⟩;rw [kL]
 done:=by
  intro X hP hw hK hc i lR s σ H E I hf st hg;subst hP hw hK;obtain⟨f0,f1,f2,f3,f4,f5⟩:=hf it #[M];exact jg (I.ok.hd hc) st (by have:n≤i:=hg; lia) fun h' eb=>⟨rfl,I.turned (t':=s.toks) (fun b o hb e=>eb b o hb e) f0 f1 f3 f4 f5⟩
 self:=fun _ _ _ _ _ st h=>gD st h
section
variable {X:Cx} {tg:Expr}
def zn1 (K:ah) (tl:TE):TI:=fun σ H R=>tl σ H fun x H1=>∃ a,x = .ref a∧(∃ xs,lT K H1 a xs)∧R (Itl K a) H1
def zpF (K:ah) (tl:TE):TI:=fun σ H R=>tl σ H fun x H1=>∃ a,x = .ref a∧(∃ xs,me K H1 a xs)∧R (Itt K a) H1
theorem zX {l:Expr} {tl:TE} (hl:PE X l tl):PI X tg l (zn1 X.K tl):=by
 intro lR s σ H R I h;refine thn (hl lR s σ H _ I h) fun v s1 ⟨x,H1,I1,r1,q1⟩=>?_
 obtain⟨a,e,⟨xs,hq⟩,q⟩:=q1;subst e;cases r1;obtain⟨lU,rv,p,hz⟩:=I1.list hq;refine fk p.isList ?_;refine⟨s1.heap.objs.size,[s1.heap.objs.size],_,_,H1,rfl,I1.kept (t':=s1.toks) fun b o e=>aj _ e,zfx a _,⟨_,aB _ rfl,rfl,rfl⟩,fun b hb=>?_,q⟩;have e:b=s1.heap.objs.size:=by simpa using hb
 subst e;exact I1.fpOk (ag _) (I1.hok.fresh (ag _))
theorem zif {l:Expr} {tl:TE} (hl:PE X l tl):PI X tg l (zpF X.K tl):=by
 intro lR s σ H R I h;refine thn (hl lR s σ H _ I h) fun v s1 ⟨x,H1,I1,r1,q1⟩=>?_
 obtain⟨a,e,⟨xs,hq⟩,q⟩:=q1;subst e;cases r1;obtain⟨lU,rv,p,hz⟩:=I1.tuple hq;refine eZ (show s1.heap.IsTuple a lU.toArray from p) ?_;refine⟨s1.heap.objs.size,[s1.heap.objs.size],_,_,H1,rfl,I1.kept (t':=s1.toks) fun b o e=>aj _ e,zeA a _,⟨_,aB _ rfl,rfl,rfl⟩,fun b hb=>?_,q⟩;have e:b=s1.heap.objs.size:=by simpa using hb
 subst e;exact I1.fpOk (ag _) (I1.hok.fresh (ag _))
theorem zhg {lR:List (Addr×Obj)} {σ:St} {H:Hp} {s:Shared} {R:It→Hp→Prop} {E:Value→Shared→Prop} {lo hi:Int} {t u v:Tok} {tk:Nat} (I:Inv X lR σ H s) (h1:-(2 ^ 62)≤lo) (h2:lo < 2 ^ 62) (h3:-(2 ^ 62)≤hi) (h4:hi < 2 ^ 62)
  (q:R (Itr lo (hi - lo).toNat) H):wpAny (model X.prog X.w) X.A (pyIter (.ref s.heap.objs.size)) (PIE X lR σ tg R) E { s with heap:=s.heap.push { cls:=.type "range",data:=.fields #[.int lo t,.int hi u,.int 1 v] },toks:=tk }:=by
 refine wpAny_pyIter_range (IsRange.new ..) (small_one h1 h2 h3 h4) ?_;have I1:Inv X lR σ H { s with heap:=s.heap.push { cls:=.type "range",data:=.fields #[.int lo t,.int hi u,.int 1 v] },toks:=tk }:=I.kept fun b o e=>aj _ e
 refine⟨(s.heap.push { cls:=.type "range",data:=.fields #[.int lo t,.int hi u,.int 1 v] }).objs.size,[(s.heap.push { cls:=.type "range",data:=.fields #[.int lo t,.int hi u,.int 1 v] }).objs.size],_,_,H,rfl,
  I1.kept (t':=tk) fun b o e=>aj _ e,zie _ lo (hi - lo).toNat,?_,fun b hb=>?_,q⟩
 ·have e1:lo+((0:Nat):Int)*1=lo:=by simp
  have e2:(((hi - lo).toNat:Nat):Int) - ((0:Nat):Int)=bC lo hi 1:=by rw [rangeSize_one]; split <;> lia
  show IsRangeIter _ _ (lo+((0:Nat):Int)*1) ((((hi - lo).toNat:Nat):Int) - ((0:Nat):Int)) 1;rw [e1,e2];exact aB _ rfl
 ·have e:b=(s.heap.push { cls:=.type "range",data:=.fields #[.int lo t,.int hi u,.int 1 v] }).objs.size:=by simpa using hb
  subst e;exact I1.fpOk (ag _) (I1.hok.fresh (ag _))
def zpG (ta:TA):TI:=fun σ H R=>ta σ H fun vs H1=>∃ j:Int,vs = [.int j]∧-(2 ^ 62)≤j∧j < 2 ^ 62∧R (Itr 0 j.toNat) H1
def zpH (ta:TA):TI:=fun σ H R=>ta σ H fun vs H1=>∃ i j:Int,vs = [.int i,.int j]∧(-(2 ^ 62)≤i∧i < 2 ^ 62∧-(2 ^ 62)≤j∧j < 2 ^ 62)∧R (Itr i (j - i).toNat) H1
theorem zZ {a:Expr} {ta:TA} {p pos:Pos} (hg:Gl X "range") (hm:X.mg "range" = none) (ha:PA X [a] ta) (hs:starEach [a] X.env = [(false,eval a X.env)]:=by rfl):PI X tg (.Call (.Name "range" p) [a] [] pos) (zpG ta):=by
 intro lR s σ H R I h;refine Call_ (zaV I hg hm jG (bn (thn (ha pos lR s σ H _ I h) fun us s1 ⟨vs,H1,I1,r1,q1⟩=>?_) hs rfl));obtain⟨j,e,q1,q2,q⟩:=q1;subst e;cases r1 with
 | cons r rr =>
  cases rr;obtain⟨t,rfl⟩:=r;exact call_range_1 (zhg I1 #[O] #[O] q1 q2 (by simpa using q))
theorem zjV {a b:Expr} {ta:TA} {p pos:Pos} (hg:Gl X "range") (hm:X.mg "range" = none) (ha:PA X [a,b] ta) (hs:starEach [a,b] X.env = [(false,eval a X.env),(false,eval b X.env)]:=by rfl) (oQ:starEach [b] X.env = [(false,eval b X.env)]:=by rfl) :
  PI X tg (.Call (.Name "range" p) [a,b] [] pos) (zpH ta):=by
 intro lR s σ H R I h;refine Call_ (zaV I hg hm jG (bn (thn (ha pos lR s σ H _ I h) fun us s1 ⟨vs,H1,I1,r1,q1⟩=>?_) (by rw [hs,oQ]) (by rw [oQ]; rfl)));obtain⟨i,j,e,⟨q1,q2,q3,q4⟩,q⟩:=q1;subst e;cases r1 with
 | cons r rr =>
  cases rr with
  | cons r' rr =>
   cases rr;obtain⟨t,rfl⟩:=r;obtain⟨t',rfl⟩:=r';exact call_range_2 (zhg I1 q1 q2 q3 q4 q)
def zql (wi:TI) (g:TG) (tb:TS):TS:=fun D σ H=>wi σ H fun J H1=>∃ W:Nat→Nat→St→Hp→Prop,(∃ m,W 0 m σ H1)∧∀ i m σ H,W i m σ H →
 (J.stop i H∧D.nx σ H)∨(J.go i H∧∃ N:St→Hp→Prop,(∀ σ' H',N σ' H'→∃ m',m' < m∧W (i+1) m' σ' H')∧∀ x H',J.yld i H x H'→g x σ H' fun σ2 H2=>tb { D with nx:=N,ct:=N,bk:=D.nx } σ2 H2)
def zco (fp:List Addr) (h:Heap):List (Addr×Obj):=fp.filterMap fun b=>(h.get? b).map fun o=>(b,o)
theorem zb6 {fp:List Addr} {h:Heap} {b:Addr} {o:Obj} (hb:b∈fp) (e:h.get? b=some o):(b,o)∈zco fp h:=kb.mpr ⟨b,hb,by rw [e]; rfl⟩
theorem zfy {fp:List Addr} {h:Heap} {p:Addr×Obj} (hp:p∈zco fp h):p.1∈fp∧h.get? p.1=some p.2:=by
 obtain⟨b,hb,e⟩:=kb.mp hp;cases q:h.get? b with
 | none=>rw [q] at e; cases e
 | some o =>
  rw [q] at e;have e':(b,o)=p:=aS e;subst e';exact⟨hb,q⟩
theorem Inv.pinned {lR:List (Addr×Obj)} {σ:St} {H:Hp} {s:Shared} {fp:List Addr} (I:Inv X lR σ H s) (hf:∀ b∈fp,zbP X lR H b) (ho:∀ b∈fp,∃ o,s.heap.get? b=some o∧∀ v,o.data≠.cell v):Inv X (lR++zco fp s.heap) σ H s :=
 I.pins_of fun p hp=>(bi.mp hp).elim (fun z=>I.pin p (aP _ z)) fun z=>by
  obtain⟨hb,e⟩:=zfy z;obtain⟨f0,f1,f2,_⟩:=hf p.1 hb;obtain⟨o,e',d⟩:=ho p.1 hb;rw [e] at e'; cases e';exact⟨e,f0,f1,f2,d⟩
theorem Inv.unpinned {lR pl:List (Addr×Obj)} {σ:St} {H:Hp} {s:Shared} (I:Inv X (lR++pl) σ H s):Inv X lR σ H s:=I.pins_of fun p hp=>I.pin p (aP _ (ba _ hp))
theorem zaX {iter:Expr} {body:List Stmt} {wi:TI} {g:TG} {tb:TS} {pos:Pos} (hp:PassesOwn (model X.prog X.w) X.A X.env X.xe) (hc:X.calm=true) (hi:PI X tg iter wi) (hg:PG X tg g) (hb:PSs X body tb)
  (hs:∀ x,foldedSetIterable iter X.env x=pure x:=by intro _; rfl):PS X (.For tg iter body [] pos) (zql wi g tb):=by
 intro lR s σ H D I h;refine wpAny_For (thn (hi lR s σ H _ I h) fun v s1 h1=>thn h1 fun xX s2 h2=>?_) hs;obtain⟨it,fp,tn,J,H2,e,I2,T,mQ,f2,W,⟨m0,w0⟩,turn⟩:=h2;subst e;have xY:∀ {H':Hp},(∀ b∈fp,H' b=none)→∀ b∈fp,zbP X lR H' b:=fun hn b hb=>⟨hn b hb,(f2 b hb).2⟩
 refine codeAny_forLoop_any (fun n s'=>∃ i σ' H',Inv X lR σ' H' s'∧tn i s'.heap∧(∀ b∈fp,H' b=none)∧W i n σ' H') ?_ m0 ⟨0,σ,H2,I2,mQ,fun b hb=>(f2 b hb).1,w0⟩;rintro n s3 ⟨i,σ3,H3,I3,Aj,fr3,w3⟩;rcases turn i n σ3 H3 w3 with ⟨stop,qn⟩ | ⟨go,N,hN,step⟩
 ·refine dX hp (thn (T.done X rfl rfl rfl hc i lR s3 σ3 H3 X.xe I3 (xY fr3) Aj stop) fun r s4 ⟨hr,I4⟩=>?_);subst hr;exact gW ⟨σ3,H3,I4,qn⟩
 ·refine dX hp (thn (T.item X rfl rfl rfl hc i lR s3 σ3 H3 X.xe I3 (xY fr3) Aj go) fun r s4 ⟨u,hr,h4⟩=>?_);subst hr;refine dX hp (thn h4 fun _ s5 ⟨x,H5,I5,r5,y5,yU,B1⟩=>?_);have I5':=I5.pinned (xY B1) (T.obj _ _ yU);refine dX hp (thn (hg _ s5 σ3 H5 x u _ I5' r5 (step x H5 y5)) fun _ s6 ⟨σ6,H6,I6,q6⟩=>?_);refine dX hp (thn (hb _ s6 σ6 H6 _ I6 q6) fun f s7 q7=>?_);have again:∀ {σ7:St} {H7:Hp},Inv X (lR++zco fp s5.heap) σ7 H7 s7→N σ7 H7→∃ m,m < n∧∃ i σ' H',Inv X lR σ' H' s7∧tn i s7.heap∧(∀ b∈fp,H' b=none)∧W i m σ' H':=fun {σ7 H7} I7 n7=>by
   obtain⟨m',hm,w7⟩:=hN σ7 H7 n7;refine⟨m',hm,i+1,σ7,H7,I7.unpinned,T.keep _ _ _ yU fun b hb o e=>(I7.pin (b,o) (aP _ (aP _ (zb6 hb e)))).1,fun b hb=>?_,w7⟩;obtain⟨o,e,d⟩:=T.obj _ _ yU b hb;exact (I7.pin (b,o) (aP _ (aP _ (zb6 hb e)))).2.1
  cases f with
  | next=>obtain⟨σ7,H7,I7,n7⟩:=q7; exact again I7 n7
  | cont=>obtain⟨σ7,H7,I7,n7⟩:=q7; exact again I7 n7
  | brk=>obtain⟨σ7,H7,I7,q7⟩:=q7; exact⟨σ7,H7,I7.unpinned,q7⟩
  | ret v=>obtain⟨x7,σ7,H7,I7,r7,q7⟩:=q7; exact⟨x7,σ7,H7,I7.unpinned,r7,q7⟩
end
theorem zc9 {K:ah} {a:Addr} {xs:List V} {g:TG} {tb:TS} {D:Ends} {σ:St} {H:Hp} (Pv:Nat→St→Hp→Prop) (h0:Pv 0 σ H) (hl:∀ i σ H,i≤xs.length→Pv i σ H→lT K H a xs)
  (hs:∀ i x σ H,xs[i]? = some x→Pv i σ H→g x σ H fun σ2 H2=>tb { D with nx:=Pv (i+1),ct:=Pv (i+1),bk:=D.nx } σ2 H2) (hd:∀ σ H,Pv xs.length σ H→D.nx σ H) :
  ∃ W:Nat→Nat→St→Hp→Prop,(∃ m,W 0 m σ H)∧∀ i m σ H,W i m σ H →
   ((Itl K a).stop i H∧D.nx σ H)∨((Itl K a).go i H∧∃ N:St→Hp→Prop,(∀ σ' H',N σ' H'→∃ m',m' < m∧W (i+1) m' σ' H')∧∀ x H',(Itl K a).yld i H x H'→g x σ H' fun σ2 H2=>tb { D with nx:=N,ct:=N,bk:=D.nx } σ2 H2):=by
 refine⟨fun i m σ H=>m=xs.length - i∧i≤xs.length∧Pv i σ H,⟨xs.length,#[M],bz _,h0⟩,?_⟩;rintro i m σ H ⟨rfl,hi,p⟩;have q:=hl i σ H hi p;by_cases mj:i < xs.length
 ·refine .inr ⟨⟨xs,xs[i],q,by simp [mj]⟩,Pv (i+1),fun σ' H' p'=>⟨xs.length - (i+1),#[O],rfl,mj,p'⟩,fun x H' y=>?_⟩;obtain⟨e,y⟩:=y;subst e;exact hs i x σ _ (y xs q) p
 ·have e:i=xs.length:=by lia
  subst e;exact .inl ⟨⟨xs,q,ag _⟩,hd σ H p⟩
theorem zmN {K:ah} {a:Addr} {xs:List V} {g:TG} {tb:TS} {D:Ends} {σ:St} {H:Hp} (Pv:Nat→St→Hp→Prop) (h0:Pv 0 σ H) (hl:∀ i σ H,i≤xs.length→Pv i σ H→me K H a xs)
  (hs:∀ i x σ H,xs[i]? = some x→Pv i σ H→g x σ H fun σ2 H2=>tb { D with nx:=Pv (i+1),ct:=Pv (i+1),bk:=D.nx } σ2 H2) (hd:∀ σ H,Pv xs.length σ H→D.nx σ H) :
  ∃ W:Nat→Nat→St→Hp→Prop,(∃ m,W 0 m σ H)∧∀ i m σ H,W i m σ H →
   ((Itt K a).stop i H∧D.nx σ H)∨((Itt K a).go i H∧∃ N:St→Hp→Prop,(∀ σ' H',N σ' H'→∃ m',m' < m∧W (i+1) m' σ' H')∧∀ x H',(Itt K a).yld i H x H'→g x σ H' fun σ2 H2=>tb { D with nx:=N,ct:=N,bk:=D.nx } σ2 H2):=by
 refine⟨fun i m σ H=>m=xs.length - i∧i≤xs.length∧Pv i σ H,⟨xs.length,#[M],bz _,h0⟩,?_⟩;rintro i m σ H ⟨rfl,hi,p⟩;have q:=hl i σ H hi p;by_cases mj:i < xs.length
 ·refine .inr ⟨⟨xs,xs[i],q,by simp [mj]⟩,Pv (i+1),fun σ' H' p'=>⟨xs.length - (i+1),#[O],rfl,mj,p'⟩,fun x H' y=>?_⟩;obtain⟨e,y⟩:=y;subst e;exact hs i x σ _ (y xs q) p
 ·have e:i=xs.length:=by lia
  subst e;exact .inl ⟨⟨xs,q,ag _⟩,hd σ H p⟩
theorem zaZ {lo:Int} {n:Nat} {g:TG} {tb:TS} {D:Ends} {σ:St} {H:Hp} (Pv:Nat→St→Hp→Prop) (h0:Pv 0 σ H)
  (hs:∀ i σ H,i < n→Pv i σ H→g (.int (lo+i)) σ H fun σ2 H2=>tb { D with nx:=Pv (i+1),ct:=Pv (i+1),bk:=D.nx } σ2 H2) (hd:∀ σ H,Pv n σ H→D.nx σ H) :
  ∃ W:Nat→Nat→St→Hp→Prop,(∃ m,W 0 m σ H)∧∀ i m σ H,W i m σ H →
   ((Itr lo n).stop i H∧D.nx σ H)∨((Itr lo n).go i H∧∃ N:St→Hp→Prop,(∀ σ' H',N σ' H'→∃ m',m' < m∧W (i+1) m' σ' H')∧∀ x H',(Itr lo n).yld i H x H'→g x σ H' fun σ2 H2=>tb { D with nx:=N,ct:=N,bk:=D.nx } σ2 H2):=by
 refine⟨fun i m σ H=>m=n - i∧i≤n∧Pv i σ H,⟨n,#[M],bz _,h0⟩,?_⟩;rintro i m σ H ⟨rfl,hi,p⟩;by_cases mj:i < n
 ·refine .inr ⟨mj,Pv (i+1),fun σ' H' p'=>⟨n - (i+1),#[O],rfl,mj,p'⟩,fun x H' y=>?_⟩;obtain⟨e,y⟩:=y;subst e y;exact hs i σ _ mj p
 ·have e:i=n:=by lia
  subst e;exact .inl ⟨ag _,hd σ H p⟩
theorem zkY {c:TT} {tb:TS} {D:Ends} {σ:St} {H:Hp} (Pv:St→Hp→Prop) (μ:St→Hp→Nat) (h0:Pv σ H)
  (hs:∀ σ H,Pv σ H→c σ H fun b H1=>if b=true then tb { D with nx:=fun σ' H'=>Pv σ' H'∧μ σ' H' < μ σ H,ct:=fun σ' H'=>Pv σ' H'∧μ σ' H' < μ σ H,bk:=D.nx } σ H1 else D.nx σ H1)
  (mono:∀ σ H Q Q',(∀ b H1,Q b H1→Q' b H1)→c σ H Q→c σ H Q'):zkX c tb D σ H:=by
 refine⟨fun m σ H=>m=μ σ H∧Pv σ H,⟨_,rfl,h0⟩,?_⟩;rintro m σ H ⟨rfl,p⟩;refine mono σ H _ _ (fun b H1 q=>?_) (hs σ H p);cases b with
 | true=>exact⟨_,fun σ' H' ⟨p',l⟩=>⟨_,l,rfl,p'⟩,q⟩
 | false=>exact q
abbrev R2:=V→V→Hp→VK→Prop
def OpR (X:Cx) (f:Value→Value→Sem Value) (r:R2):Prop :=
 ∀ (lR:List (Addr×Obj)) (s:Shared) (σ:St) (H:Hp) (x y:V) (v u:Value) (Q:VK),Inv X lR σ H s→RelV x v→RelV y u→r x y H Q →
  wpAny (model X.prog X.w) X.A (f v u) (EP X lR σ Q) X.xe s
def UnR (X:Cx) (f:Value→Sem Value) (r:V→Hp→VK→Prop):Prop :=
 ∀ (lR:List (Addr×Obj)) (s:Shared) (σ:St) (H:Hp) (x:V) (v:Value) (Q:VK),Inv X lR σ H s→RelV x v→r x H Q →
  wpAny (model X.prog X.w) X.A (f v) (EP X lR σ Q) X.xe s
def zbc (X:Cx) (f:Value) (r:List V→Hp→VK→Prop):Prop :=
 ∀ (lR:List (Addr×Obj)) (s:Shared) (σ:St) (H:Hp) (xs:List V) (us:List Value) (Q:VK),Inv X lR σ H s→zG xs us→r xs H Q →
  wpAny (model X.prog X.w) X.A (call f us) (EP X lR σ Q) X.xe s
def zqm (X:Cx) (r:V→Hp→(Bool→Hp→Prop)→Prop):Prop :=
 ∀ (lR:List (Addr×Obj)) (s:Shared) (σ:St) (H:Hp) (x:V) (v:Value) (Q:Bool→Hp→Prop),Inv X lR σ H s→RelV x v→r x H Q →
  wpAny (model X.prog X.w) X.A (truthy v) (TP X lR σ Q) X.xe s
def tOp (r:R2) (ta tb:TE):TE:=fun σ H Q=>ta σ H fun x H1=>tb σ H1 fun y H2=>r x y H2 Q
def tUn (r:V→Hp→VK→Prop) (ta:TE):TE:=fun σ H Q=>ta σ H fun x H1=>r x H1 Q
def rI (C:Int→Int→Prop) (g:Int→Int→V):R2:=fun x y H Q=>∃ i j,x = .int i∧y = .int j∧C i j∧Q (g i j) H
def rI0 (g:Int→Int→V):R2:=fun x y H Q=>∃ i j,x = .int i∧y = .int j∧Q (g i j) H
def rU (g:Int→V):V→Hp→VK→Prop:=fun x H Q=>∃ i,x = .int i∧Q (g i) H
section
variable {X:Cx} {a b c:Expr} {ta tb tc:TE} {pos:Pos}
theorem zoz (ha:PE X a ta) (hb:PE X b tb) {lR:List (Addr×Obj)} {s:Shared} {σ:St} {H:Hp} {R:V→V→Hp→Prop} (I:Inv X lR σ H s)
  (h:ta σ H fun x H1=>tb σ H1 fun y H2=>R x y H2) {Q:Value→Shared→Prop} {f:Value→Value→Sem Value}
  (hf:∀ v u s2 x y H2,Inv X lR σ H2 s2→RelV x v→RelV y u→R x y H2→wpAny (model X.prog X.w) X.A (f v u) Q X.xe s2) :
  wpAny (model X.prog X.w) X.A (eval a X.env) (fun v s₁=>wpAny (model X.prog X.w) X.A (eval b X.env) (fun u s₂=>wpAny (model X.prog X.w) X.A (f v u) Q X.xe s₂) X.xe s₁) X.xe s:=by
 refine thn (ha lR s σ H _ I h) fun v s1 ⟨x,H1,I1,r1,q1⟩=>?_
 refine thn (hb lR s1 σ H1 _ I1 q1) fun u s2 ⟨y,H2,I2,r2,q2⟩=>?_
 exact hf v u s2 x y H2 I2 r1 r2 q2
theorem zj {op:Operator} {r:R2} (ho:OpR X (binaryOp op) r) (ha:PE X a ta) (hb:PE X b tb):PE X (.BinOp a op b pos) (tOp r ta tb):=by
 intro lR s σ H Q I h;exact wpAny_BinOp (zoz ha hb I h fun v u s2 x y H2 I2 rx ry q=>ho lR s2 σ H2 x y v u Q I2 rx ry q)
theorem zn2 {op:UnaryOp} {r:V→Hp→VK→Prop} (ho:UnR X (unaryOp op) r) (ha:PE X a ta):PE X (.UnaryOp op a pos) (tUn r ta):=by
 intro lR s σ H Q I h;exact UnaryOp_ (thn (ha lR s σ H _ I h) fun v s1 ⟨x,H1,I1,r1,q1⟩=>ho lR s1 σ H1 x v Q I1 r1 q1)
theorem opI {f:Value→Value→Sem Value} {C:Int→Int→Prop} {g:Int→Int→Int}
  (rule:∀ (i j:Int) (t u:Tok) (s:Shared) (Q:Value→Shared→Prop) (E:Value→Shared→Prop),C i j→Q (.int (g i j) s.toks) { s with toks:=s.toks+1 }→wpAny (model X.prog X.w) X.A (f (.int i t) (.int j u)) Q E s) :
  OpR X f (rI C fun i j=>.int (g i j)):=by
 intro lR s σ H x y v u Q I rx ry h;obtain⟨i,j,rfl,rfl,hc,q⟩:=h;obtain⟨t,rfl⟩:=rx;obtain⟨t',rfl⟩:=ry;exact rule i j t t' s _ _ hc ⟨.int (g i j),H,I.tok _,⟨_,rfl⟩,q⟩
theorem zoA {f:Value→Value→Sem Value} {g:Int→Int→Int}
  (rule:∀ (i j:Int) (t u:Tok) (s:Shared) (Q:Value→Shared→Prop) (E:Value→Shared→Prop),Q (.int (g i j) s.toks) { s with toks:=s.toks+1 }→wpAny (model X.prog X.w) X.A (f (.int i t) (.int j u)) Q E s) :
  OpR X f (rI0 fun i j=>.int (g i j)):=by
 intro lR s σ H x y v u Q I rx ry h;obtain⟨i,j,rfl,rfl,q⟩:=h;obtain⟨t,rfl⟩:=rx;obtain⟨t',rfl⟩:=ry;exact rule i j t t' s _ _ ⟨.int (g i j),H,I.tok _,⟨_,rfl⟩,q⟩
theorem zmO {f:Value→Value→Sem Value} {g:Int→Int→Bool}
  (rule:∀ (i j:Int) (t u:Tok) (s:Shared) (Q:Value→Shared→Prop) (E:Value→Shared→Prop),Q (.bool (g i j)) s→wpAny (model X.prog X.w) X.A (f (.int i t) (.int j u)) Q E s) :
  OpR X f (rI0 fun i j=>.bl (g i j)):=by
 intro lR s σ H x y v u Q I rx ry h;obtain⟨i,j,rfl,rfl,q⟩:=h;obtain⟨t,rfl⟩:=rx;obtain⟨t',rfl⟩:=ry;exact rule i j t t' s _ _ ⟨.bl (g i j),H,I,rfl,q⟩
def zpI (i j:Int):Prop:=0 < j∧j < 1073741824
def zqn (i j:Int):Prop:=0≤j∧j≤1000000∧i.natAbs < 2 ^ 64
def zoB (i j:Int):Prop:=(-(2 ^ 64) < i∧i < 2 ^ 64)∨(-(2 ^ 64) < j∧j < 2 ^ 64)
theorem zoB.ok {i j:Int} (h:zoB i j):IntMulOk i j:=by
 rcases h with ⟨h1,h2⟩ | ⟨h1,h2⟩
 ·exact .of_left (intBits_le_64 h1 h2)
 ·exact .of_right (intBits_le_64 h1 h2)
theorem zH:OpR X (binaryOp .Add) (rI0 fun i j=>.int (i+j)):=zoA fun _ _ _ _ _ _ _ q=>add_int q
theorem zaj:OpR X (binaryOp .Sub) (rI0 fun i j=>.int (i - j)):=zoA fun _ _ _ _ _ _ _ q=>sub_int q
theorem zQ:OpR X (binaryOp .Mult) (rI zoB fun i j=>.int (i*j)):=opI fun _ _ _ _ _ _ _ hc q=>mul_int q hc.ok
theorem zee:OpR X (binaryOp .FloorDiv) (rI zpI fun i j=>.int (i / j)):=opI fun i j _ _ _ _ _ hc q=>by
 have h1:(0:Int) < j:=hc.1;have h2:j < 1073741824:=hc.2;exact floordiv_int #[O] (by rw [iG i #[O]]; exact q) (.inl (jh #[O]))
theorem zL:OpR X (binaryOp .Mod) (rI (fun _ j=>0 < j) fun i j=>.int (i % j)):=opI fun i j _ _ _ _ _ hc q=>by
 have h1:(0:Int) < j:=hc;exact mod_int' #[O] (by rw [Int.fmod_eq_emod_of_nonneg i #[O]]; exact q)
theorem zoC:OpR X (binaryOp .Pow) (rI zqn fun i j=>.int (i ^ j.toNat)):=opI fun _ _ _ _ _ _ _ hc q=>pow_int_small hc.1 hc.2.1 hc.2.2 q
theorem zmP:OpR X (inplaceOp .Add) (rI0 fun i j=>.int (i+j)):=zoA fun _ _ _ _ _ _ _ q=>iadd_int q
theorem zkZ:OpR X (inplaceOp .FloorDiv) (rI zpI fun i j=>.int (i / j)):=opI fun i j _ _ _ _ _ hc q=>by
 have h1:(0:Int) < j:=hc.1;have h2:j < 1073741824:=hc.2;exact ifloordiv_int #[O] (by rw [iG i #[O]]; exact q) (.inl (jh #[O]))
theorem unI {f:Value→Sem Value} {g:Int→Int}
  (rule:∀ (i:Int) (t:Tok) (s:Shared) (Q:Value→Shared→Prop) (E:Value→Shared→Prop),Q (.int (g i) s.toks) { s with toks:=s.toks+1 }→wpAny (model X.prog X.w) X.A (f (.int i t)) Q E s) :
  UnR X f (rU fun i=>.int (g i)):=by
 intro lR s σ H x v Q I rx h;obtain⟨i,rfl,q⟩:=h;obtain⟨t,rfl⟩:=rx;exact rule i t s _ _ ⟨.int (g i),H,I.tok _,⟨_,rfl⟩,q⟩
theorem zk0:UnR X (unaryOp .USub) (rU fun i=>.int (-i)):=unI fun _ _ _ _ _ q=>neg_int q
end
def zoD:V→V→Bool
 | .non,.non=>true | .non,.int _=>true | .int _,.non=>true | .non,.bl _=>true | .bl _,.non=>true | .non,.str _=>true | .str _,.non=>true
 | .int _,.int _=>true | .bl _,.bl _=>true | .str _,.str _=>true | .byt _,.byt _=>true
 | .int _,.str _=>true | .str _,.int _=>true | .bl _,.str _=>true | .str _,.bl _=>true
 | _,_=>false
def rEq:R2:=fun x y H Q=>zoD x y=true∧Q (.bl (decide (x=y))) H
def rNe:R2:=fun x y H Q=>zoD x y=true∧Q (.bl (!decide (x=y))) H
theorem ziY {i j:Int}:decide (V.int i=V.int j)=(i == j):=by
 rw [cN];simp
theorem zk1 {i j:Bool}:decide (V.bl i=V.bl j)=(i == j):=by
 rw [cN];simp
theorem ziZ {i j:Str}:decide (V.str i=V.str j)=(i == j):=by
 rw [cN];simp
theorem zi0 {i j:Array UInt8}:decide (V.byt i=V.byt j)=(i.toList == j.toList):=by
 rw [cN];cases i;cases j;simp
section
variable {X:Cx} {a b c:Expr} {ta tb tc:TE} {pos:Pos}
theorem zV {lR:List (Addr×Obj)} {σ:St} {H:Hp} {s:Shared} {Q:VK} {k k':Bool} (I:Inv X lR σ H s) (q:Q (.bl k) H) (e:k=k'):EP X lR σ Q (.bool k') s:=by
 subst e;exact⟨.bl k,H,I,rfl,q⟩
theorem zhh:OpR X (compareOp .Eq) rEq:=by
 intro lR s σ H x y v u Q I rx ry h;obtain⟨hs,q⟩:=h;cases x with
 | non =>
  cases rx;cases y with
  | non=>cases ry; exact PySem.EqNone.eq_none_none (zV I q #[M])
  | bl j=>cases ry; exact PySem.EqNone.eq_none_bool (zV I q #[M])
  | int j=>obtain⟨t',rfl⟩:=ry; exact PySem.EqNone.eq_none_int (zV I q #[M])
  | str j=>obtain⟨t',rfl⟩:=ry; exact PySem.EqNone.eq_none_str (zV I q #[M])
  | _=>exact absurd (show false=true from hs) aR
 | bl i =>
  cases rx;cases y with
  | non=>cases ry; exact PySem.EqNone.eq_bool_none (zV I q #[M])
  | bl j=>cases ry; exact eq_bool (zV I q zk1)
  | str j=>obtain⟨t',rfl⟩:=ry; exact PySem.EqMixed.eq_bool_str (zV I q #[M])
  | _=>exact absurd (show false=true from hs) aR
 | int i =>
  obtain⟨t,rfl⟩:=rx;cases y with
  | non=>cases ry; exact PySem.EqNone.eq_int_none (zV I q #[M])
  | int j=>obtain⟨t',rfl⟩:=ry; exact eq_int (zV I q ziY)
  | str j=>obtain⟨t',rfl⟩:=ry; exact PySem.EqMixed.eq_int_str (zV I q #[M])
  | _=>exact absurd (show false=true from hs) aR
 | str i =>
  obtain⟨t,rfl⟩:=rx;cases y with
  | non=>cases ry; exact PySem.EqNone.eq_str_none (zV I q #[M])
  | bl j=>cases ry; exact PySem.EqMixed.eq_str_bool (zV I q #[M])
  | int j=>obtain⟨t',rfl⟩:=ry; exact PySem.EqMixed.eq_str_int (zV I q #[M])
  | str j=>obtain⟨t',rfl⟩:=ry; exact eq_str (zV I q ziZ)
  | _=>exact absurd (show false=true from hs) aR
 | byt i =>
  obtain⟨t,rfl⟩:=rx;cases y with
  | byt j=>obtain⟨t',rfl⟩:=ry; exact PySem.W.eq_bytes (zV I q zi0)
  | _=>exact absurd (show false=true from hs) aR
 | _=>cases y <;> exact absurd (show false=true from hs) aR
theorem zn3:OpR X (compareOp .NotEq) rNe:=by
 intro lR s σ H x y v u Q I rx ry h;obtain⟨hs,q⟩:=h;cases x with
 | non =>
  cases rx;cases y with
  | non=>cases ry; exact PySem.EqNone.ne_none_none (zV I q #[M])
  | bl j=>cases ry; exact PySem.EqNone.ne_none_bool (zV I q #[M])
  | int j=>obtain⟨t',rfl⟩:=ry; exact PySem.EqNone.ne_none_int (zV I q #[M])
  | str j=>obtain⟨t',rfl⟩:=ry; exact PySem.EqNone.ne_none_str (zV I q #[M])
  | _=>exact absurd (show false=true from hs) aR
 | bl i =>
  cases rx;cases y with
  | non=>cases ry; exact PySem.EqNone.ne_bool_none (zV I q #[M])
  | bl j=>cases ry; exact ne_bool (zV I q (congrArg not zk1))
  | str j=>obtain⟨t',rfl⟩:=ry; exact PySem.EqMixed.ne_bool_str (zV I q #[M])
  | _=>exact absurd (show false=true from hs) aR
 | int i =>
  obtain⟨t,rfl⟩:=rx;cases y with
  | non=>cases ry; exact PySem.EqNone.ne_int_none (zV I q #[M])
  | int j=>obtain⟨t',rfl⟩:=ry; exact ne_int (zV I q (congrArg not ziY))
  | str j=>obtain⟨t',rfl⟩:=ry; exact PySem.EqMixed.ne_int_str (zV I q #[M])
  | _=>exact absurd (show false=true from hs) aR
 | str i =>
  obtain⟨t,rfl⟩:=rx;cases y with
  | non=>cases ry; exact PySem.EqNone.ne_str_none (zV I q #[M])
  | bl j=>cases ry; exact PySem.EqMixed.ne_str_bool (zV I q #[M])
  | int j=>obtain⟨t',rfl⟩:=ry; exact PySem.EqMixed.ne_str_int (zV I q #[M])
  | str j=>obtain⟨t',rfl⟩:=ry; exact ne_str (zV I q (congrArg not ziZ))
  | _=>exact absurd (show false=true from hs) aR
 | byt i =>
  obtain⟨t,rfl⟩:=rx;cases y with
  | byt j=>obtain⟨t',rfl⟩:=ry; exact PySem.W.ne_bytes (zV I q (congrArg not zi0))
  | _=>exact absurd (show false=true from hs) aR
 | _=>cases y <;> exact absurd (show false=true from hs) aR
theorem zfz:OpR X (compareOp .Lt) (rI0 fun i j=>.bl (decide (i < j))):=zmO fun _ _ _ _ _ _ _ q=>lt_int q
theorem zk2:OpR X (compareOp .LtE) (rI0 fun i j=>.bl (decide (i≤j))):=zmO fun _ _ _ _ _ _ _ q=>le_int q
theorem zfA:OpR X (compareOp .Gt) (rI0 fun i j=>.bl (decide (j < i))):=zmO fun _ _ _ _ _ _ _ q=>gt_int q
theorem zi1:OpR X (compareOp .GtE) (rI0 fun i j=>.bl (decide (j≤i))):=zmO fun _ _ _ _ _ _ _ q=>ge_int q
theorem zge:OpR X (compareOp .IsNot) (fun x y H Q=>y = .non∧Q (.bl (!decide (x = .non))) H):=by
 intro lR s σ H x y v u Q I rx ry h;obtain⟨rfl,q⟩:=h;cases ry;refine isnot_none_gen (zV I q ?_);cases x <;> first
  | (cases rx; rfl)
  | (obtain⟨t,rfl⟩:=rx; rfl)
theorem zac (b:Expr) {op:CmpOp} (h:op≠.In:=by decide) (h2:op≠.NotIn:=by decide):behindInMarks op b=false:=by
 have e1:(op == CmpOp.In)=false:=by cases op <;> first | rfl | exact absurd rfl h
 have e2:(op == CmpOp.NotIn)=false:=by cases op <;> first | rfl | exact absurd rfl h2
 cases b <;> simp [behindInMarks,e1,e2]
theorem zi2 {op:CmpOp} {r:R2} (ho:OpR X (compareOp op) r) (ha:PE X a ta) (hb:PE X b tb) (hm:behindInMarks op b=false):PE X (.Compare a [op] [b] pos) (tOp r ta tb):=by
 intro lR s σ H Q I h;exact wpAny_Compare1 (zoz ha hb I h fun v u s2 x y H2 I2 rx ry q=>ho lR s2 σ H2 x y v u Q I2 rx ry q) hm
def zn4 (t:TE):TT:=fun σ H Q=>t σ H fun x H'=>∃ k,x = .bl k∧Q k H'
theorem zT {op:CmpOp} {r:R2} (ho:OpR X (compareOp op) r) (ha:PE X a ta) (hb:PE X b tb) (hm:behindInMarks op b=false):PT X (.Compare a [op] [b] pos) (zn4 (tOp r ta tb)):=by
 intro lR s σ H Q I h;refine wpAny_isTrue_Compare1 (thn (ha lR s σ H _ I h) fun v s1 ⟨x,H1,I1,r1,q1⟩=>thn (hb lR s1 σ H1 _ I1 q1) fun u s2 ⟨y,H2,I2,r2,q2⟩ =>
  thn (ho lR s2 σ H2 x y v u _ I2 r1 r2 q2) fun c s3 ⟨z,H3,I3,r3,k,e,q3⟩=>?_) hm
 subst e;cases r3;exact dH ⟨H3,I3,q3⟩
def zoE (r r':R2) (ta tb tc:TE):TE:=fun σ H Q=>ta σ H fun x H1=>tb σ H1 fun y H2=>r x y H2 fun z H3=>∃ k,z = .bl k ∧
 (if k=true then tc σ H3 fun w' H4=>r' y w' H4 Q else Q (.bl false) H3)
theorem zhi {op CV:CmpOp} {r r':R2} (ho:OpR X (compareOp op) r) (sC:OpR X (compareOp CV) r') (ha:PE X a ta) (hb:PE X b tb) (hc:PE X c tc)
  (hm:lastMarks [op,CV] [b,c]=false:=by with_unfolding_all rfl):PT X (.Compare a [op,CV] [b,c] pos) (zn4 (zoE r r' ta tb tc)):=by
 intro lR s σ H Q I h;refine isTrue_chain (thn (ha lR s σ H _ I h) fun v s1 ⟨x,H1,I1,r1,q1⟩=>test_link (thn (hb lR s1 σ H1 _ I1 q1) fun u s2 ⟨y,H2,I2,r2,q2⟩ =>
  thn (ho lR s2 σ H2 x y v u _ I2 r1 r2 q2) fun d s3 ⟨z,H3,I3,r3,k,e,q3⟩=>?_)) hm
 subst e;cases r3;refine dH ?_;cases k with
 | false =>
  obtain⟨k',e',q'⟩:=q3;cases e';exact ite_ff ⟨H3,I3,q'⟩
 | true =>
  refine ite_tt (test_last (thn (hc lR s3 σ H3 _ I3 q3) fun w' s4 ⟨z',H4,I4,r4,q4⟩=>thn (sC lR s4 σ H4 y z' u w' _ I4 r2 r4 q4) fun d' s5 ⟨z2,H5,I5,r5,k2,e2,q5⟩=>?_));subst e2;cases r5;exact dH ⟨H5,I5,q5⟩
def zpJ (K:ah) (x:V) (H:Hp) (k:Bool):Prop :=
 match x with
 | .non=>k=false
 | .bl b=>k=b
 | .int i=>k=(i != 0)
 | .str y=>y.length≤sizeLine∧k=((y.length:Int) != 0)
 | .byt y=>y.size≤sizeLine∧k=((y.size:Int) != 0)
 | .ref p=>(∃ xs,lT K H p xs∧k = !xs.isEmpty)∨(∃ xs,me K H p xs∧k = !xs.isEmpty)∨∃ l8,H p=some (.dK l8)∧k = !l8.isEmpty
 | _=>False
theorem zig {κ:Type} {l8:List (κ×V)} {vs:List (κ×Value)} (r:KV l8 vs):(!vs.isEmpty) = !l8.isEmpty:=by
 cases r <;> rfl
theorem zeB {xs:List V} {lU:List Value} (r:zG xs lU):(!lU.toArray.isEmpty) = !xs.isEmpty:=by
 cases r <;> simp
theorem zeC:(sizeLine:Nat) < 2 ^ 63:=by rw [a7]; decide
theorem zoF:zqm X (fun x H Q=>∃ k,zpJ X.K x H k∧Q k H):=by
 intro lR s σ H x v Q I rx h;obtain⟨k,e,q⟩:=h;have hl:=zeC;have hs:sizeLine=16777216:=a7;cases x with
 | non =>
  cases rx;have e':k=false:=e;subst e';exact truthy_none ⟨H,I,q⟩
 | bl b =>
  cases rx;have e':k=b:=e;subst e';exact dH ⟨H,I,q⟩
 | int i =>
  obtain⟨t,rfl⟩:=rx;have e':k=(i != 0):=e;subst e';exact PySem.P.truthy_int ⟨H,I,q⟩
 | str y =>
  obtain⟨t,rfl⟩:=rx;obtain⟨hy,e'⟩:y.length≤sizeLine∧k=((y.length:Int) != 0):=e;subst e';exact PySem.P.truthy_str #[O] ⟨H,I.tok _,q⟩
 | byt y =>
  obtain⟨t,rfl⟩:=rx;obtain⟨hy,e'⟩:y.size≤sizeLine∧k=((y.size:Int) != 0):=e;subst e';exact PySem.W.truthy_bytes #[O] ⟨H,I.tok _,q⟩
 | ref p =>
  cases rx;have e':(∃ xs,lT X.K H p xs∧k = !xs.isEmpty)∨(∃ xs,me X.K H p xs∧k = !xs.isEmpty)∨∃ l8,H p=some (.dK l8)∧k = !l8.isEmpty:=e;rcases e' with ⟨xs,hx,e'⟩ | ⟨xs,hx,e'⟩ | ⟨l8,hx,e'⟩
  ·subst e';obtain⟨lU,r,pl,hz⟩:=I.list hx;have lY:=r.length;exact wpAny_truthy_list pl.isList (by simp only [az]; lia) ⟨H,I.tok _,by rw [zeB r]; exact q⟩
  ·subst e';obtain⟨lU,r,pl,hz⟩:=I.tuple hx;have lY:=r.length;exact truthy_tuple pl (by simp only [az]; lia) ⟨H,I.tok _,by rw [zeB r]; exact q⟩
  ·subst e';obtain⟨hz,hS,vs,r,m⟩:l8.length≤sizeLine∧(p == sysModules)=false∧∃ vs,KV l8 vs∧s.heap.DictOf (zaw X.prog X.w) p vs:=I.hok p _ hx;have lY:l8.length=vs.length:=aQ r;exact wpAny_truthy_dict hS m #[O] ⟨H,I.tok _,by rw [zig r]; exact q⟩
 | _=>exact (show False from e).elim
theorem zhj (ha:PE X a ta) (he:∀ whole,isTrue a X.env whole=(do let v ← whole; standAt a.pos; holding [v] (truthy v))) :
  PT X a (fun σ H Q=>ta σ H fun x H'=>∃ k,zpJ X.K x H' k∧Q k H'):=by
 intro lR s σ H Q I h;exact isTrue_plain (thn (ha lR s σ H _ I h) fun v s1 ⟨x,H1,I1,r1,q1⟩=>zoF lR s1 σ H1 x v Q I1 r1 q1) (he _)
theorem vals1 {x:V} {us:List Value} (r:zG [x] us):∃ u,us = [u]∧RelV x u:=by
 cases r with
 | cons r1 r2=>cases r2; exact⟨_,rfl,r1⟩
theorem vals2 {x y:V} {us:List Value} (r:zG [x,y] us):∃ u w',us = [u,w']∧RelV x u∧RelV y w':=by
 cases r with
 | cons r1 r2 =>
  cases r2 with
  | cons r3 r4=>cases r4; exact⟨_,_,rfl,r1,r3⟩
theorem zfB (hc:X.calm=true):zbc X (.builtin "min") (fun xs H Q=>∃ i j,xs = [.int i,.int j]∧Q (.int (if j < i then j else i)) H):=by
 intro lR s σ H xs us Q I r h;obtain⟨i,j,rfl,q⟩:=h;obtain⟨u,w',rfl,⟨t,rfl⟩,⟨t',rfl⟩⟩:=vals2 r;refine min_two_ints (I.ok.hd hc) fun h' tk k=>⟨_,H,I.kept k,?_,q⟩
 by_cases hj:j < i
 ·rw [if_pos hj,if_pos hj]; exact⟨_,rfl⟩
 ·rw [if_neg hj,if_neg hj]; exact⟨_,rfl⟩
theorem zjW:zbc X (.type "int") (fun xs H Q=>(∃ i,xs = [.int i]∧Q (.int i) H)∨∃ k,xs = [.bl k]∧Q (.int (if k then 1 else 0)) H):=by
 intro lR s σ H xs us Q I r h;rcases h with ⟨i,rfl,q⟩ | ⟨k,rfl,q⟩
 ·obtain⟨u,rfl,t,rfl⟩:=vals1 r;exact call_int_int ⟨.int i,H,I,⟨_,rfl⟩,q⟩
 ·obtain⟨u,rfl,r1⟩:=vals1 r;cases r1;exact call_int_bool ⟨.int (if k then 1 else 0),H,I.tok _,⟨_,rfl⟩,q⟩
end
structure Room (k:Nat) (A:Around):Prop where
 hd:A.handled=none
 dp:A.depth+3*k+5 < recursionLimit
 un:A.units+16*k+200 < cLine
theorem Room.mono {j k:Nat} {A:Around} (r:Room k A) (h:j≤k):Room j A:=⟨r.hd,by have:=r.dp; lia,by have:=r.un; lia⟩
theorem Room.deeper {k:Nat} {A:Around} (r:Room (k+1) A) (env:Env):Room k (A.deeper env) :=
 ⟨r.hd,by have:=r.dp; show A.depth+1+3*k+5 < _; lia,by have:=r.un; show A.units+3+16*k+200 < _; lia⟩
theorem Room.depth {k:Nat} {A:Around} (r:Room k A):A.depth < recursionLimit:=by have:=r.dp; lia
theorem Room.units {k:Nat} {A:Around} (r:Room k A):A.units+64 < cLine:=by have:=r.un; lia
def zqo:TA:=fun _ H Q=>Q [] H
def zn5 (ta:TE) (tr:TA):TA:=fun σ H Q=>ta σ H fun x H1=>tr σ H1 fun xs H2=>Q (x :: xs) H2
section
variable {X:Cx} {e:Expr} {es:List Expr} {te:TE} {t:TA} {pos:Pos}
theorem zd:PA X [] zqo:=fun _ _ _ _ H Q I h=>fm ⟨[],H,I,.nil,h⟩
theorem za (ha:PE X e te) (hr:PA X es t) (hs:starEach (e :: es) X.env=(false,eval e X.env) :: starEach es X.env:=by rfl):PA X (e :: es) (zn5 te t):=by
 intro pos lR s σ H Q I h;rw [hs];show wpAny _ _ (spliced ((false,eval e X.env) :: backTo pos (starEach es X.env))) _ _ s;refine dR (thn (ha lR s σ H _ I h) fun u s1 ⟨x,H1,I1,r1,q1⟩=>?_);exact thn (hr pos lR s1 σ H1 _ I1 q1) fun us s2 ⟨xs,H2,I2,r2,q2⟩=>⟨x :: xs,H2,I2,.cons r1 r2,q2⟩
def zqp (t:TA):TE:=fun σ H Q=>t σ H fun xs H1=>xs.length≤sizeLine∧∀ p,H1 p=none→Q (.ref p) (lW H1 p (.tup xs))
def zmQ (t:TA):TE:=fun σ H Q=>t σ H fun xs H1=>xs.length≤sizeLine∧∀ p,H1 p=none→Q (.ref p) (lW H1 p (.lst xs))
theorem za4 {x1} (h:PA X es t):PE X (.Tuple es x1 pos) (zqp t):=by
 intro lR s σ H Q I hq;refine wpAny_Tuple_spliced (thn (h pos lR s σ H _ I hq) fun us s1 ⟨xs,H1,I1,r,z,q⟩=>⟨by rw [← r.length]; exact z,?_⟩);have hf:H1 s1.heap.objs.size=none:=I1.hok.fresh (ag _);refine⟨.ref s1.heap.objs.size,lW H1 s1.heap.objs.size (.tup xs),I1.laid (t':=s1.toks) (fun b u e=>aj _ e) (ag _) ?_,rfl,q _ hf⟩;exact⟨z,us,r,⟨_,aB _ rfl,rfl,_,rfl⟩⟩
theorem zaC (h:PA X es t):PE X (.List es pos) (zmQ t):=by
 intro lR s σ H Q I hq;refine wpAny_List_spliced (thn (h pos lR s σ H _ I hq) fun us s1 ⟨xs,H1,I1,r,z,q⟩=>⟨by rw [← r.length]; exact z,?_⟩);have hf:H1 s1.heap.objs.size=none:=I1.hok.fresh (ag _);refine⟨.ref s1.heap.objs.size,lW H1 s1.heap.objs.size (.lst xs),I1.laid (t':=s1.toks) (fun b u e=>aj _ e) (ag _) ?_,rfl,q _ hf⟩;exact⟨z,us,0,r,aB _ rfl⟩
end
abbrev Sp:=List V→Hp→VK→XK→Prop
abbrev CXT:=List Env→Hp→Shared→XK→Value→Shared→Prop
structure Env0 (P:Program) (w:World) (K:ah) (mg:Str→Option Value) (base:Heap) (A:Around) (outer:List Env) (s:Shared) (H:Hp):Prop where
 frames:A.frames=some outer
 mod:Mod K mg base
 bs:∀ b o,base.get? b=some o→s.heap.get? b=some o∧H b=none
 bsz:base.objs.size≤s.heap.objs.size
 funs:s.heap.FunFrames base outer
 frf:∀ b∈frs outer,H b=none
 hok:HOk P w H s.heap
 bare:AllBare s.gens
def CE (outer:List Env) (P:Program) (w:World) (H:Hp) (s:Shared) (Q:VK) (u:Value) (s':Shared):Prop :=
 ∃ v H',s'.os=s.os∧AllBare s'.gens∧Un (frs outer) [] H H' s.heap s'.heap∧HOk P w H' s'.heap∧RelV v u∧Q v H'
def CR (CX:CXT) (outer:List Env) (P:Program) (w:World) (H:Hp) (s:Shared) (Q:VK) (E:XK) (r:Result) (s':Shared):Prop :=
 match r with
 | .ok (.ret u)=>CE outer P w H s Q u s'
 | .ok _=>False
 | .error e=>CX outer H s E e s'
structure FnOk (P:Program) (w:World) (K:ah) (mg:Str→Option Value) (base:Heap) (CX:CXT) (k:Nat) (f:Addr) (fd:FuncData) (ps:List Str) (sp:Sp):Prop where
 len:∀ vs H Q E,sp vs H Q E→vs.length=ps.length
 run:∀ (A:Around) (outer:List Env) (s:Shared) (H:Hp) (args:Args) (us:List Value) (vs:List V) (Q:VK) (E:XK),Room k A→Env0 P w K mg base A outer s H→BindsTo s fd args (ps.zip us)→zG vs us→sp vs H Q E →
  codeAny (model P w) A (.call (.ref f) args) (CR CX outer P w H s Q E) s
section
variable {X:Cx} {lR:List (Addr×Obj)} {σ:St} {H:Hp} {s s':Shared}
theorem Inv.env0 (I:Inv X lR σ H s):Env0 X.prog X.w X.K X.mg X.base X.A X.stack s H :=
 ⟨I.ok.frames,I.ok.mod,I.bs,aW I.ok.bsz I.sz,I.stack,I.stkFree,I.hok,I.bare⟩
theorem Inv.after {Q:VK} {u:Value} (I:Inv X lR σ H s) (h:CE X.stack X.prog X.w H s Q u s'):EP X lR σ Q u s':=by
 obtain⟨v,H',os,bare,un,hok,r,q⟩:=h;obtain⟨hh,g,d,t,os'⟩:=s';obtain rfl:os'=s.os:=os;exact⟨v,H',I.call (h':=hh) (g':=g) (d':=d) (t':=t) (ch:=[]) un hok bare (fun b z=>absurd z #[M]),r,q⟩
end
def zpK (sp:Sp) (xE:List V) (E:XK) (t:TA):TE:=fun σ H Q=>t σ H fun vs H1=>sp (vs++xE) H1 Q E
def Binds (K:ah) (fd:FuncData) (ps:List Str) (ds:List Value):Prop :=
 ∀ (s:Shared) (us:List Value),K.In s.heap→(us++ds).length=ps.length→BindsTo s fd ⟨us,[]⟩ (ps.zip (us++ds))
theorem Binds.all {K:ah} {fd:FuncData} {ps:List Str} (h:∀ us:List Value,us.length=ps.length→bindArgs fd ⟨us,[]⟩=pure (ps.zip us)):Binds K fd ps []:=fun s us _ hl=>by
 rw [bX] at hl ⊢;exact .of_eq (h us hl)
def zih (CX:CXT) (X:Cx) (E:XK):Prop:=∀ (lR:List (Addr×Obj)) (σ:St) (H:Hp) (s:Shared) (e:Value) (s':Shared),Inv X lR σ H s→CX X.stack H s E e s'→X.xe e s'
section
variable {X:Cx} {CX:CXT} {k:Nat} {f C:Addr} {fd:FuncData} {ps:List Str} {sp:Sp} {xE:List V} {ds:List Value} {E:XK} {x m:Str} {p pos apos:Pos} {e o:Expr} {es:List Expr} {ta:TE} {t:TA}
theorem zoG {lR:List (Addr×Obj)} {σ:St} {H:Hp} {s:Shared} {Q:VK} {us:List Value} {vs:List V} (F:FnOk X.prog X.w X.K X.mg X.base CX k f fd ps sp) (hr:Room k X.A) (hb:Binds X.K fd ps ds) (hd:zG xE ds) (hx:zih CX X E)
  (I:Inv X lR σ H s) (r:zG vs us) (h:sp (vs++xE) H Q E):wpAny (model X.prog X.w) X.A (call (.ref f) us) (EP X lR σ Q) X.xe s:=by
 have r2:zG (vs++xE) (us++ds):=r.append hd;have hl:(us++ds).length=ps.length:=by rw [← r2.length]; exact F.len _ _ _ _ h
 refine wpAny_call (kd (F.run X.A X.stack s H ⟨us,[]⟩ (us++ds) (vs++xE) Q E hr I.env0 (hb s us I.kIn hl) r2 h) fun r s' hq=>?_);cases r with
 | error e=>exact hx lR σ H s e s' I hq
 | ok fl =>
  cases fl with
  | ret u=>exact I.after hq
  | next=>exact eB hq
  | brk=>exact eB hq
  | cont=>exact eB hq
theorem zm (F:FnOk X.prog X.w X.K X.mg X.base CX k f fd ps sp) (hr:Room k X.A) (hg:Gl X x) (hm:X.mg x=some (.ref f)) (hk:gg X.K (.ref f)=true) (hb:Binds X.K fd ps ds) (hd:zG xE ds) (hx:zih CX X E)
  (ha:PA X (e :: es) t) (xZ:(x == ("__debug__" : Str))=false:=by decide) (he:starEach (e :: es) X.env=(false,eval e X.env) :: starEach es X.env:=by rfl) (oR:(backTo pos (starEach es X.env)).any (·.1)=false:=by rfl) :
  PE X (.Call (.Name x p) (e :: es) [] pos) (zpK sp xE E t):=by
 intro lR s σ H Q I h;refine fZ (ziW I hg hm ?_ xZ);refine PySem.W.callWith_K (h₀:=X.base) I.ok.mod.kin hk (thn (ha pos lR s σ H _ I h) fun us s1 ⟨vs,H1,I1,r,q⟩=>⟨I1.kIn,?_⟩) he oR;exact zoG F hr hb hd hx I1 r q
end
structure FnScope (N P:List Str) (sc:Scope):Prop where
 kind:sc.kind = .function
 co:sc.isCoroutine=false
 gen:sc.isGenerator=false
 nd:N.Nodup
 pre:N.take P.length=P
 par:∀ x∈P,sc.names.lookup x=some .local∨sc.names.lookup x=some .cell
 nofree:∀ y∈sc.names,y.2≠.free
theorem zfC {kindOf:Str→Option NameKind} {x:Str}:∀ {binds:List (Str×Value)} {m:Str→Option Value},(∀ v,(x,v)∉binds)→bindL kindOf binds m x=m x
 | [],_,_=>rfl
 | (n,v) :: r,m,h=>by
  unfold bindL;rw [zfC fun w hw=>h w (aG _ hw)];split
  ·have:x≠n:=by rintro rfl; exact h v aV
   simp [this]
  ·rfl
theorem zfD {kindOf:Str→Option NameKind} {x:Str}:∀ {binds:List (Str×Value)} {m:Str→Option Value},(∀ v,(x,v)∉binds)→bindC kindOf binds m x=m x
 | [],_,_=>rfl
 | (n,v) :: r,m,h=>by
  unfold bindC;rw [zfD fun w hw=>h w (aG _ hw)];split
  ·rfl
  ·have:x≠n:=by rintro rfl; exact h v aV
   simp [this]
theorem zfE {kindOf:Str→Option NameKind} {x:Str} {v:Value}:∀ {P:List Str} {vs:List Value} {i:Nat} {m:Str→Option Value},P.Nodup→P[i]? = some x→vs[i]? = some v→kindOf x=some .local →
  bindL kindOf (P.zip vs) m x=some v
 | [],_,_,_,_,h,_,_=>by simp at h
 | _ :: _,[],_,_,_,_,h,_=>by simp at h
 | p :: P,w :: vs,0,m,nd,h1,h2,hk=>by
  simp at h1 h2; subst h1; subst h2;show bindL kindOf ((p,w) :: P.zip vs) m p=_;unfold bindL;rw [zfC fun v hv=>(dY.mp nd).1 (gX hv).1,if_pos hk];simp
 | p :: P,w :: vs,i+1,m,nd,h1,h2,hk=>by
  show bindL kindOf ((p,w) :: P.zip vs) m x=_;unfold bindL;exact zfE (i:=i) (dY.mp nd).2 (by simpa using h1) (by simpa using h2) hk
theorem zfF {kindOf:Str→Option NameKind} {x:Str} {v:Value}:∀ {P:List Str} {vs:List Value} {i:Nat} {m:Str→Option Value},P.Nodup→P[i]? = some x→vs[i]? = some v→kindOf x≠some .local →
  bindC kindOf (P.zip vs) m x=some v
 | [],_,_,_,_,h,_,_=>by simp at h
 | _ :: _,[],_,_,_,_,h,_=>by simp at h
 | p :: P,w :: vs,0,m,nd,h1,h2,hk=>by
  simp at h1 h2; subst h1; subst h2;show bindC kindOf ((p,w) :: P.zip vs) m p=_;unfold bindC;rw [zfD fun v hv=>(dY.mp nd).1 (gX hv).1,if_neg hk];simp
 | p :: P,w :: vs,i+1,m,nd,h1,h2,hk=>by
  show bindC kindOf ((p,w) :: P.zip vs) m x=_;unfold bindC;exact zfF (i:=i) (dY.mp nd).2 (by simpa using h1) (by simpa using h2) hk
def start (N:List Str) (vs:List V):St:=vs.map some++aq (N.length - vs.length) none
def zjX (CX:CXT) (P:Program) (w:World) (K:ah) (mg:Str→Option Value) (base:Heap) (N:List Str) (qual:Str) (scope:Scope) (f:Addr) (cd:Value) (A:Around) (outer:List Env) (s:Shared) (H:Hp) (E:XK):Cx where
 prog:=P
 w:=w
 K:=K
 mg:=mg
 base:=base
 A:=A.deeper (envOfC qual scope s.heap.objs.size f cd)
 N:=N
 s₀:=s
 H₀:=H
 env:=envOfC qual scope s.heap.objs.size f cd
 outer:=outer
 stack:=envOfC qual scope s.heap.objs.size f cd :: outer
 ex:=[]
 calm:=true
 fn:=fun _=>true
 pn:=[]
 xe:=fun e s'=>wpAny (model P w) (A.deeper (envOfC qual scope s.heap.objs.size f cd)) (leaving (envOfC qual scope s.heap.objs.size f cd) e) (fun _ Ak=>CX outer H s E e Ak) (fun e' Ak=>CX outer H s E e' Ak) s'
theorem zhk {sc:Scope} {n:Nat} {x:Str} (h:sc.names.lookup x=some .cell):∃ c,(cellsFrom n sc.names []).lookup x=some c:=by
 have q:=ji sc.names n [] (.inl h);exact Option.isSome_iff_exists.mp q
theorem zjY {CX:CXT} {P:Program} {w:World} {K:ah} {mg:Str→Option Value} {base:Heap} {N ps:List Str} {qual:Str} {scope:Scope} {f:Addr} {cd:Value} {A:Around} {outer:List Env} {s s1:Shared} {H:Hp} {E:XK} {us:List Value} {vs:List V}
  (S:FnScope N ps scope) (hd:A.handled=none) (e0:Env0 P w K mg base A outer s H) (hl:vs.length=ps.length) (r:zG vs us)
  (x:InCallC s s.heap.objs.size (bindL (envOfC qual scope s.heap.objs.size f cd).kindOf (ps.zip us) fun _=>none) (cellsFrom (s.heap.objs.size+1) scope.names []) (bindC (envOfC qual scope s.heap.objs.size f cd).kindOf (ps.zip us) fun _=>none) s1) :
  Inv (zjX CX P w K mg base N qual scope f cd A outer s H E) [] (start N vs) H s1:=by
 have oR:ps.length≤N.length:=by have:=congrArg List.length S.pre; rw [aL] at this; lia
 obtain⟨h1,tk,rfl,hk⟩:=x.done;have ya:∀ b:Addr,b∉(zjX CX P w K mg base N qual scope f cd A outer s H E).ex:=fun b z=>absurd (show b∈([]:List Addr) from z) #[M]
 refine⟨⟨e0.mod,S.kind,rfl,rfl,ag _,fun y z c h1 h2=>?_,fun y hy=>?_,fun y c _ h=>?_,fun _=>hd,Around.frames_deeper e0.frames,.inr ⟨rfl,rfl⟩,fun b z=>absurd z (ya b),e0.bs,e0.bsz,fun b _ _=>ya b,fun b z=>absurd z (ya b),e0.funs,e0.frf⟩,
  rfl,e0.bare,Un.kept hk,⟨_,x.toInCall.ns,fun i y v h1 h2 h3=>?_⟩,fun y c h=>⟨_,x.cell y c h⟩,e0.hok.fresh (ag _),fun y c h=>?_,fun p hp=>absurd (show p∈([]:List (Addr×Obj)) from hp) #[M],e0.hok.kept hk,?_⟩
 ·exact name_of_addr x.apart (eP h1) (eP h2)
 ·have hy:scope.names.lookup y=some .cell∨scope.names.lookup y=some .free:=hy;rcases hy with hy | hy
  ·exact zhk hy
  ·exact absurd rfl (S.nofree _ (eP hy))
 ·exact fX (x.above y c (eP h))
 ·have hi:i < vs.length:=by
   unfold start at h2;by_cases hi:i < vs.length
   ·exact hi
   ·rw [bK (by simpa using hi)] at h2;rw [c8] at h2;split at h2 <;> cases h2
  have ha:vs[i]? = some v:=by
   unfold start at h2;rw [be (by simpa using hi),af] at h2;cases e:vs[i]? with
   | none=>rw [e] at h2; cases h2
   | some a=>rw [e] at h2; cases h2; rfl
  obtain⟨u,hu,rv⟩:=r.get ha;have hp:ps[i]? = some y:=by
   rw [← S.pre,bW #[O]]; exact h1
  have ndP:ps.Nodup:=by rw [← S.pre]; exact S.nd.sublist (gw _ _)
  refine⟨u,rv,?_⟩;rcases S.par y (aI hp) with k | k
  ·exact .inl ⟨k,zfE ndP hp hu k⟩
  ·obtain⟨c,e⟩:=zhk (n:=s.heap.objs.size+1) k;refine .inr ⟨.inl k,c,e,?_⟩;have q:=x.cell y c e;rw [zfF ndP hp hu (by show scope.names.lookup y≠_; rw [k]; decide)] at q;exact q
 ·exact e0.hok.fresh (fX (x.above y c (eP h)))
 ·unfold start;show _=N.length;rw [aA,ab,a8];lia
theorem zpL {CX:CXT} {P:Program} {w:World} {K:ah} {mg:Str→Option Value} {base:Heap} {k:Nat} {f:Addr} {name qual:Str} {params:Arguments} {body:List Stmt} {scope:Scope} {dV kV doc pm mM ct oc:Value} {an od:Option Addr}
  {xF:Array (Option Value)} {N ps:List Str} {sp:Sp} (lk:K.lookup f=some ⟨oc,od,.func (dz name qual params body scope dV kV doc pm an mM ct),xF⟩) (uI:gh K mM qual=true) (S:FnScope N ps scope)
  (len:∀ vs H Q E,sp vs H Q E→vs.length=ps.length)
  (vK:∀ (A:Around) (outer:List Env) (s:Shared) (H:Hp) (vs:List V) (Q:VK) (E:XK),Room k (A.deeper (envOfC qual scope s.heap.objs.size f mM))→sp vs H Q E →
   ∃ t,PSs (zjX CX P w K mg base N qual scope f mM A outer s H E) body t∧t { nx:=fun _ H'=>Q .non H',rt:=Q } (start N vs) H) :
  FnOk P w K mg base CX (k+1) f (dz name qual params body scope dV kV doc pm an mM ct) ps sp:=by
 refine⟨len,fun A outer s H args us vs Q E hr e0 hb r xG=>?_⟩;have hl:=len _ _ _ _ xG;have KX:K.In s.heap:=e0.mod.kin.keeps fun b o e=>(e0.bs b o e).1
 have lim:s.heap.NoLimit:=e0.mod.nolimit.keeps fun b o e=>(e0.bs b o e).1
 have sI:∀ y∈ps.zip us,scope.names.lookup y.1=some .local∨(scope.names.lookup y.1=some .cell∧((cellsFrom (s.heap.objs.size+1) scope.names []).lookup y.1).isSome=true):=fun ⟨n,v⟩ hy=>by
  rcases S.par n (gX hy).1 with q | q
  ·exact .inl q
  ·exact .inr ⟨q,ji _ _ _ (.inl q)⟩
 refine codeAny_call_function hr.depth (KX _ _ lk) rfl S.co S.gen rfl (PySem.W.codeRec_of KX uI) (hb _ _ _ _ ?_);refine wpAny_newFunctionEnv_cells S.kind sI fun env he s1 x=>?_
 subst he;refine⟨lim.keeps x.toInCall.keep,codeAny_func ?_⟩;obtain⟨t,ht,hq⟩:=vK A outer s H vs Q E (hr.deeper _) xG;have I:Inv (zjX CX P w K mg base N qual scope f mM A outer s H E) [] (start N vs) H s1:=zjY S hr.hd e0 hl r x;refine c7 (ht [] s1 (start N vs) H _ I hq) (fun fl s' hs=>?_) fun e s' hs=>hs
 have fin:∀ {σ':St} {H':Hp} {v:V} {u:Value},Inv (zjX CX P w K mg base N qual scope f mM A outer s H E) [] σ' H' s'→RelV v u→Q v H'→CE outer P w H s Q u s' :=
  fun {σ' H' v u} J rv q=>⟨v,H',J.os,J.bare,J.base,J.hok,rv,q⟩
 cases fl with
 | ret u =>
  obtain⟨v,σ',H',J,rv,q⟩:=hs;exact fin J rv q
 | next =>
  obtain⟨σ',H',J,q⟩:=hs;exact fin (v:=V.non) (u:=dh) J rfl q
 | brk =>
  obtain⟨_,_,_,q⟩:=hs;exact eB q
 | cont =>
  obtain⟨_,_,_,q⟩:=hs;exact eB q
section
variable {X:Cx} {x:Str} {p pos:Pos} {e:Expr} {es:List Expr} {t:TA} {id T:String} {r:List V→Hp→VK→Prop}
def tCB (r:List V→Hp→VK→Prop) (t:TA):TE:=fun σ H Q=>t σ H fun vs H1=>r vs H1 Q
theorem zE (hc:zbc X (.builtin id) r) (hg:Gl X x) (hm:X.mg x=none) (hv:bootBuiltins x=some (.builtin id)) (ha:PA X (e :: es) t) (hn:x≠"__name__":=by decide) (xZ:(x == ("__debug__" : Str))=false:=by decide)
  (he:starEach (e :: es) X.env=(false,eval e X.env) :: starEach es X.env:=by rfl) (oR:(backTo pos (starEach es X.env)).any (·.1)=false:=by rfl):PE X (.Call (.Name x p) (e :: es) [] pos) (tCB r t):=by
 intro lR s σ H Q I h;refine fZ (zaV I hg hm hv ?_ hn xZ);exact PyProof.Rows.callWith_builtin1 (thn (ha pos lR s σ H _ I h) fun us s1 ⟨vs,H1,I1,r1,q1⟩=>hc lR s1 σ H1 vs us Q I1 r1 q1) he oR
theorem zas (hc:zbc X (.type T) r) (hg:Gl X x) (hm:X.mg x=none) (hv:bootBuiltins x=some (.type T)) (ha:PA X (e :: es) t) (hn:x≠"__name__":=by decide) (xZ:(x == ("__debug__" : Str))=false:=by decide)
  (he:starEach (e :: es) X.env=(false,eval e X.env) :: starEach es X.env:=by rfl) (oR:(backTo pos (starEach es X.env)).any (·.1)=false:=by rfl):PE X (.Call (.Name x p) (e :: es) [] pos) (tCB r t):=by
 intro lR s σ H Q I h;refine fZ (zaV I hg hm hv ?_ hn xZ);exact bn (thn (ha pos lR s σ H _ I h) fun us s1 ⟨vs,H1,I1,r1,q1⟩=>hc lR s1 σ H1 vs us Q I1 r1 q1) he oR
end
end L2
namespace HT
open PySem PyProof.Rows
section
variable {prog:Program} {w:World} {A:Around} {E:Value→Shared→Prop} {s:Shared}
theorem cat_tup {t b:Addr} {vs ws:List Value} {Q:Value→Shared→Prop} (ht:IsTup s.heap t vs.toArray) (hb:IsTup s.heap b ws.toArray) (hv:vs≠[])
  (h1:ws = []→Q (.ref t) s) (h2:ws≠[]→Q (.ref s.heap.objs.size) { s with heap:=s.heap.push { cls:=.type "tuple",data:=.seq (vs++ws).toArray } })
  (hsz:vs.length+ws.length≤sizeLine):wpAny (model prog w) A (binaryOp .Add (.ref t) (.ref b)) Q E s:=by
 obtain⟨⟨cls,dd,data,sl⟩,ho,hc,n,hd⟩:=id ht;obtain⟨⟨CW,B2,data2,B3⟩,uz,wM,n2,hd2⟩:=id hb;simp only at hc hd wM hd2;subst hc hd wM hd2;have e:vs.toArray++ws.toArray=(vs++ws).toArray:=by simp
 by_cases hw:ws = []
 ·exact kf ⟨_,ho,rfl⟩ ⟨_,uz,rfl⟩ iU jT gE gq (f9 _ _)
   (tuple_addW1 t b vs.toArray ws.toArray n n2 dd B2 sl B3 (by simpa using hv) (by simp [hw])) ⟨ho,uz,h1 hw⟩
 ·refine kf ⟨_,ho,rfl⟩ ⟨_,uz,rfl⟩ iU jT gE gq (f9 _ _)
   (tuple_addW2 t b vs.toArray ws.toArray n n2 dd B2 sl B3 (by simpa using hv) (by simpa using hw) (by rw [az,az]; exact hsz)) ⟨ho,uz,?_⟩
  rw [e];exact h2 hw
def sIx (n d:Nat):Option Int→Nat
 | none=>d
 | some v=>if v < 0 then (v+(n:Int)).toNat else min v.toNat n
theorem sIx_none (n d:Nat):sIx n d none=d:=rfl
theorem sIx_nat (n d k:Nat):sIx n d (some (k:Int))=min k n:=by
 show (if (k:Int) < 0 then ((k:Int)+(n:Int)).toNat else min (k:Int).toNat n)=min k n;rw [if_neg #[O],cD]
end
end HT
namespace L2
open PySem PySem.Spec PyProof.Rows
abbrev TO:=St→Hp→(Option Int→Hp→Prop)→Prop
def PO (X:Cx) (e:Option Expr) (t:TO):Prop :=
 ∀ (lR:List (Addr×Obj)) (s:Shared) (σ:St) (H:Hp) (Q:Option Int→Hp→Prop),Inv X lR σ H s→t σ H Q →
  wpAny (model X.prog X.w) X.A (evalPart e X.env) (fun u s'=>∃ o H',Inv X lR σ H' s'∧IsPart u o∧Q o H') X.xe s
def zmR:TO:=fun _ H Q=>Q none H
def zpM (t:TE):TO:=fun σ H Q=>t σ H fun x H1=>∃ i,x = .int i∧Q (some i) H1
theorem intsAre_of {ns:List Int}:∀ {us:List Value},zG (ns.map V.int) us→IntsAre us ns:=by
 induction ns with
 | nil=>intro us r; rw [fo] at r; cases r; exact .nil
 | cons n ns ih =>
  intro us r;rw [bO] at r;cases r with
  | cons r1 r2 =>
   obtain⟨t,e⟩:=r1;subst e;exact .cons n t (ih r2)
section
variable {X:Cx} {e:Expr} {te:TE} {lo hi:Option Expr} {tl th:TO} {pos p2:Pos}
theorem zda:PO X none zmR:=by
 intro lR s σ H Q I h;rw [evalPart_none];exact ak ⟨none,H,I,.none,h⟩
theorem zb7 (h:PE X e te):PO X (some e) (zpM te):=by
 intro lR s σ H Q I hw;rw [evalPart_some];refine thn (h lR s σ H _ I hw) fun u s1 ⟨x,H1,I1,r1,q1⟩=>?_
 obtain⟨i,rfl,q⟩:=q1;obtain⟨t,rfl⟩:=r1;exact⟨some i,H1,I1,.int i t,q⟩
def SlR (X:Cx) (r:V→Option Int→Option Int→Hp→VK→Prop):Prop :=
 ∀ (lR:List (Addr×Obj)) (s:Shared) (σ:St) (H:Hp) (x:V) (v vl vu:Value) (lo hi:Option Int) (sl:Addr) (Q:VK),Inv X lR σ H s→RelV x v→s.heap.IsSliceOf sl vl vu .none→IsPart vl lo→IsPart vu hi→r x lo hi H Q →
  ∃ T id,typeLookup (.type T) "__getitem__" = pure (some (.builtin id))∧s.TypeIs v T∧wpAny (model X.prog X.w) X.A (getItem v (.ref sl)) (EP X lR σ Q) X.xe s
def tSl (r:V→Option Int→Option Int→Hp→VK→Prop) (te:TE) (tl th:TO):TE:=fun σ H Q=>te σ H fun x H1=>tl σ H1 fun l H2=>th σ H2 fun u H3=>r x l u H3 Q
theorem zbY {r:V→Option Int→Option Int→Hp→VK→Prop} (hr:SlR X r) (he:PE X e te) (hl:PO X lo tl) (hu:PO X hi th):PE X (.Subscript e (.Slice lo hi none p2) pos) (tSl r te tl th):=by
 intro lR s σ H Q I h;refine Subscript_ (thn (he lR s σ H _ I h) fun v s1 ⟨x,H1,I1,r1,q1⟩=>?_);refine wpAny_Slice (thn (hl lR s1 σ H1 _ I1 q1) fun vl s2 ⟨l,H2,I2,pl,q2⟩=>thn (hu lR s2 σ H2 _ I2 q2) fun vu s3 ⟨u,H3,I3,pu,q3⟩=>?_);rw [evalPart_none];refine ak ?_;have I4:Inv X lR σ H3 { s3 with heap:=s3.heap.push { cls:=.type "slice",data:=.fields #[vl,vu,.none] } }:=I3.kept (t':=s3.toks) fun b ob q=>aj _ q
 obtain⟨T,id,hT,ht,hg⟩:=hr lR { s3 with heap:=s3.heap.push { cls:=.type "slice",data:=.fields #[vl,vu,.none] } } σ H3 x v vl vu l u s3.heap.objs.size Q I4 r1 (Heap.IsSliceOf.new ..) pl pu q3;show wpAny (model X.prog X.w) X.A (subscriptTail e (.Slice lo hi none p2) v (.ref s3.heap.objs.size)) (EP X lR σ Q) X.xe { s3 with heap:=s3.heap.push { cls:=.type "slice",data:=.fields #[vl,vu,.none] } };exact tail_any (ops:=[.ref s3.heap.objs.size,v]) ht hT hg (by with_unfolding_all rfl)
def zcU (xs:List V) (lo hi:Option Int):List V:=(xs.drop (HT.sIx xs.length 0 lo)).take (HT.sIx xs.length xs.length hi - HT.sIx xs.length 0 lo)
theorem zhl (xs:List V) (lo hi:Option Int):(zcU xs lo hi).length≤xs.length:=by
 unfold zcU;rw [aL,fF];lia
def zpN (K:ah):R2:=fun x y H Q=>∃ a b xs ys,x = .ref a∧y = .ref b∧me K H a xs∧me K H b ys∧xs≠[]∧xs.length+ys.length≤sizeLine ∧
 (ys = []→Q (.ref a) H)∧(ys≠[]→∀ p,H p=none→Q (.ref p) (lW H p (.tup (xs++ys))))
theorem zG.nil_iff {xs:List V} {us:List Value} (r:zG xs us):us = []↔xs = []:=by
 cases r with
 | nil=>simp
 | cons _ _=>simp
theorem zmS:OpR X (binaryOp .Add) (zpN X.K):=by
 intro lR s σ H x y v u Q I rx ry h;obtain⟨a,b,xs,ys,rfl,rfl,ha,hb,hx,hz,q1,q2⟩:=h;cases rx;cases ry;obtain⟨lU,r1,p1,_⟩:=I.tuple ha;obtain⟨mJ,r2,p2,_⟩:=I.tuple hb;refine HT.cat_tup p1 p2 (fun z=>hx (r1.nil_iff.mp z)) (fun z=>⟨.ref a,H,I,rfl,q1 (r2.nil_iff.mp z)⟩) (fun z=>?_) (by rw [← r1.length,← r2.length]; exact hz);refine⟨.ref s.heap.objs.size,_,I.laid (t':=s.toks) (o:=.tup (xs++ys)) (fun b ob q=>aj _ q) (ag _) ?_,rfl,q2 (fun w=>z (r2.nil_iff.mpr w)) _ (I.hok.fresh (ag _))⟩;exact⟨by rw [aA]; exact hz,_,r1.append r2,IsTup.new _ _⟩
end
def ixN (n:Nat) (i:Int):Option Nat:=if 0≤i then (if i < n then some i.toNat else none) else if -(n:Int)≤i then some (i+n).toNat else none
def atI {α:Type} (xs:List α) (i:Int):Option α:=(ixN xs.length i).bind fun j=>xs[j]?
theorem zi3 {n:Nat} {i:Int} {j:Nat} (h:ixN n i=some j):seqIndex? i n=some j∧j < n∧-(n:Int)≤i∧i < n:=by
 unfold ixN at h;by_cases h0:0≤i
 ·rw [if_pos h0] at h;by_cases h1:i < n
  ·rw [if_pos h1] at h;have e:i.toNat=j:=aS h;exact⟨by rw [iz h0 h1,e],#[O],#[O],h1⟩
  ·rw [if_neg h1] at h; cases h
 ·rw [if_neg h0] at h;by_cases h1:-(n:Int)≤i
  ·rw [if_pos h1] at h;have e:(i+n).toNat=j:=aS h;exact⟨by rw [kg #[O] h1,e],#[O],h1,#[O]⟩
  ·rw [if_neg h1] at h; cases h
theorem zi4 {α:Type} {xs:List α} {i:Int} {v:α} (h:atI xs i=some v):∃ j,seqIndex? i xs.length=some j∧xs[j]? = some v∧j < xs.length∧-(xs.length:Int)≤i∧i < xs.length:=by
 unfold atI at h;cases e:ixN xs.length i with
 | none=>rw [e] at h; cases h
 | some j =>
  rw [e] at h;obtain⟨h1,h2,h3,h4⟩:=zi3 e;exact⟨j,h1,h,h2,h3,h4⟩
theorem zax {α:Type} {xs:List α} {j:Nat} {v:α} (h:xs[j]? = some v):atI xs (j:Int)=some v:=by
 have hj:j < xs.length:=(aw.mp h).1;have e:ixN xs.length (j:Int)=some j:=by
  unfold ixN;rw [if_pos #[O],if_pos #[O]]; simp
 unfold atI; rw [e]; exact h
def zmT (b:Expr):Prop:=∀ o i,subscripted b false o i=operate [o,i] (getItem o i)
def IxR (X:Cx) (r:R2):Prop :=
 ∀ (value slice:Expr) (lR:List (Addr×Obj)) (s:Shared) (σ:St) (H:Hp) (x y:V) (v u:Value) (Q:VK),Inv X lR σ H s→RelV x v→RelV y u→r x y H Q →
  subscripted slice false v u=operate [v,u] (getItem v u)→wpAny (model X.prog X.w) X.A (subscriptTail value slice v u) (EP X lR σ Q) X.xe s
def MtR (X:Cx) (id:String) (r:V→List V→Hp→VK→Prop):Prop :=
 ∀ (lR:List (Addr×Obj)) (s:Shared) (σ:St) (H:Hp) (x:V) (xs:List V) (v:Value) (us:List Value) (Q:VK),Inv X lR σ H s→RelV x v→zG xs us→r x xs H Q →
  wpAny (model X.prog X.w) X.A (call (.builtin id) (v :: us)) (EP X lR σ Q) X.xe s
section
variable {X:Cx} {a b:Expr} {ta tb:TE} {pos:Pos}
theorem zY {r:R2} (hr:IxR X r) (ha:PE X a ta) (hb:PE X b tb) (hs:zmT b):PE X (.Subscript a b pos) (tOp r ta tb):=by
 intro lR s σ H Q I h;exact Subscript_ (zoz ha hb I h fun v u s2 x y H2 I2 rx ry q=>hr a b lR s2 σ H2 x y v u Q I2 rx ry q (hs _ _))
def zpO (K:ah):R2:=fun x y H Q=>∃ p xs i v,x = .ref p∧y = .int i∧lT K H p xs∧atI xs i=some v∧Q v H
def zqq (K:ah):R2:=fun x y H Q=>∃ p xs i v,x = .ref p∧y = .int i∧me K H p xs∧atI xs i=some v∧Q v H
theorem zM:IxR X (zpO X.K):=by
 intro value slice lR s σ H x y v u Q I rx ry h hs;obtain⟨p,xs,i,z,rfl,rfl,hq,he,q⟩:=h;cases rx;obtain⟨t,rfl⟩:=ry;obtain⟨lU,r,pl,hz⟩:=I.list hq;obtain⟨j,h1,h2,h3,h4,h5⟩:=zi4 he;obtain⟨w,ew,yb⟩:=r.get h2;have hl:=r.length;have hn:=zeC;have fin:EP X lR σ Q w s:=⟨z,H,I,yb,q⟩;by_cases h0:0≤i
 ·have hj:i.toNat=j:=by
   rw [iz h0 h5] at h1;exact aS h1
  exact item_listR pl.isList h0 #[O] (by rw [hj]; simpa using ew) fin hs
 ·have hj:(i+(lU.toArray.size:Int)).toNat=j:=by
   rw [kg #[O] h4] at h1;rw [az,← hl];exact aS h1
  exact jj (x:=w) pl.isList.typeIs slot_list_getitem.lookup
   (wpAny_getItem_list_neg (Q:=fun r s'=>r=w∧EP X lR σ Q r s') pl.isList #[O] (by rw [az] <;> lia) #[O] (by rw [hj]; simpa using ew) ⟨rfl,fin⟩) hs
theorem zgf:IxR X (zqq X.K):=by
 intro value slice lR s σ H x y v u Q I rx ry h hs;obtain⟨p,xs,i,z,rfl,rfl,hq,he,q⟩:=h;cases rx;obtain⟨t,rfl⟩:=ry;obtain⟨lU,r,pl,hz⟩:=I.tuple hq;obtain⟨j,h1,h2,h3,h4,h5⟩:=zi4 he;obtain⟨w,ew,yb⟩:=r.get h2;have hl:=r.length;have hn:=zeC;have fin:EP X lR σ Q w s:=⟨z,H,I,yb,q⟩;exact jj (x:=w) pl.typeIs slot_tuple_getitem.lookup
  (getItem_tuple (j:=j) (Q:=fun r s'=>r=w∧EP X lR σ Q r s') pl #[O] #[O] (by rw [az,← hl]; exact h1) (by simpa using ew) ⟨rfl,fin⟩) hs
theorem zii (lU:List Value) (n j:Nat) (u:Value):dA (·.setIfInBounds j u) { cls:=.type "list",data:=.seq lU.toArray n } = { cls:=.type "list",data:=.seq (lU.set j u).toArray n }:=by
 simp [dA]
theorem Inv.lst {lR:List (Addr×Obj)} {σ:St} {H:Hp} {s:Shared} {p:Addr} {xs:List V} (I:Inv X lR σ H s) (h:H p=some (.lst xs)) :
  ∃ (lU:List Value) (n:Nat),zG xs lU∧s.heap.get? p=some { cls:=.type "list",data:=.seq lU.toArray n }∧xs.length≤sizeLine:=by
 obtain⟨z,lU,n,r,e⟩:=I.hok p _ h;exact⟨lU,n,r,e,z⟩
theorem Inv.lstUpd {lR:List (Addr×Obj)} {σ:St} {H:Hp} {s:Shared} {p:Addr} {xs ys:List V} {lU its':List Value} {n n':Nat} {f:Obj→Obj} (I:Inv X lR σ H s) (h:H p=some (.lst xs))
  (ho:s.heap.get? p=some { cls:=.type "list",data:=.seq lU.toArray n }) (hf:f { cls:=.type "list",data:=.seq lU.toArray n } = { cls:=.type "list",data:=.seq its'.toArray n' }) (r:zG ys its') (hz:ys.length≤sizeLine) (t:Nat) :
  Inv X lR σ (lW H p (.lst ys)) { s with heap:=s.heap.update p f,toks:=t }:=by
 have e:(s.heap.update p f).get? p=some { cls:=.type "list",data:=.seq its'.toArray n' }:=by
  rw [cR f ho (by rw [hf] <;> rfl),hf]
 refine I.write (x:=p) (e:=p) (by rw [h]; trivial) (.inl rfl) (fun b u hb q=>(cA _ _ (cQ hb)).trans q) ⟨_,e⟩ ?_;exact⟨hz,its',n',r,e⟩
def zpP:V→V→V→Hp→(Hp→Prop)→Prop:=fun o i v H Q=>∃ p xs k j,o = .ref p∧i = .int k∧H p=some (.lst xs)∧ixN xs.length k=some j∧Q (lW H p (.lst (xs.set j v)))
theorem set_list:zpE X zpP:=by
 intro lR s σ H o i v ov iv u Q I ro ri rv h;obtain⟨p,xs,k,j,rfl,rfl,hp,hj,q⟩:=h;cases ro;obtain⟨t,rfl⟩:=ri;obtain⟨lU,n,r,ho,hz⟩:=I.lst hp;obtain⟨h1,h2,h3,h4⟩:=zi3 hj;have hl:=r.length;have hn:=zeC;have I':Inv X lR σ (lW H p (.lst (xs.set j v))) { s with heap:=s.heap.update p (dA (·.setIfInBounds j u)) } :=
  I.lstUpd hp ho (zii lU n j u) (r.set rv j) (by rw [fS]; exact hz) s.toks
 by_cases h0:0≤k
 ·have hk:k.toNat=j:=by
   rw [iz h0 h4] at h1;exact aS h1
  exact PySem.W.ki_setAt ho h0 #[O] (by rw [az,← hl]; exact h4) (by rw [hk]; exact⟨_,I',q⟩)
 ·have hk:(k+(lU.toArray.size:Int)).toNat=j:=by
   rw [kg #[O] h3] at h1;rw [az,← hl];exact aS h1
  exact PySem.W.ki_setBack ho #[O] (by rw [az,← hl]; exact h3) #[O] (by rw [hk]; exact⟨_,I',q⟩)
theorem zgg (lo hi:Option Int) (n:Nat):(sliceBounds lo hi none n).1=((HT.sIx n 0 lo:Nat):Int)∧(sliceBounds lo hi none n).2.1=((HT.sIx n n hi:Nat):Int)∧(sliceBounds lo hi none n).2.2=1:=by
 refine⟨?_,?_,rfl⟩
 ·cases lo with
  | none=>simp [sliceBounds,HT.sIx]
  | some i =>
   simp only [sliceBounds,HT.sIx,kQ,show (1:Int) > 0 by decide,if_true];by_cases h:i < 0
   ·simp only [h,if_true] <;> lia
   ·simp only [h,if_false] <;> lia
 ·cases hi with
  | none=>simp [sliceBounds,HT.sIx]
  | some i =>
   simp only [sliceBounds,HT.sIx,kQ,show (1:Int) > 0 by decide,if_true];by_cases h:i < 0
   ·simp only [h,if_true] <;> lia
   ·simp only [h,if_false] <;> lia
theorem zfg (lU:List Value) (lo hi:Option Int):slicePick lU.toArray lo hi none=((lU.drop (HT.sIx lU.length 0 lo)).take (HT.sIx lU.length lU.length hi - HT.sIx lU.length 0 lo)).toArray:=by
 obtain⟨h1,h2,h3⟩:=zgg lo hi lU.toArray.size;unfold slicePick;rw [h1,h2,h3];simp only [sliceRange_one,pick_run,az] <;> rfl
def zpQ (K:ah):V→Option Int→Option Int→Hp→VK→Prop:=fun x lo hi H Q=>∃ a xs,x = .ref a∧lT K H a xs∧∀ p,H p=none→Q (.ref p) (lW H p (.lst (zcU xs lo hi)))
theorem zcB:SlR X (zpQ X.K):=by
 intro lR s σ H x v vl vu lo hi sl Q I rx hs pl pu h;obtain⟨a,xs,rfl,hx,q⟩:=h;cases rx;obtain⟨lU,r,ht,hz⟩:=I.list hx;have lY:=r.length;refine⟨"list",_,slot_list_getitem.lookup,ht.isList.typeIs,?_⟩;refine wpAny_getItem_list_slice ht.isList hs pl pu .none #[M] ?_ (by rw [az] <;> lia);rw [zfg,← lY];refine⟨.ref s.heap.objs.size,_,I.laid (t':=s.toks) (o:=.lst (zcU xs lo hi)) (fun b ob q=>aj _ q) (ag _) ?_,rfl,q _ (I.hok.fresh (ag _))⟩;exact⟨aW (zhl xs lo hi) hz,_,0,(r.drop (HT.sIx xs.length 0 lo)).take (HT.sIx xs.length xs.length hi - HT.sIx xs.length 0 lo),aB _ rfl⟩
def zi5:V→Bool
 | .non=>true
 | .bl _=>true
 | .int _=>true
 | .str _=>true
 | _=>false
def eqV:V→V→Bool
 | .non,.non=>true
 | .bl a,.bl b=>a == b
 | .bl a,.int b=>(if a then 1 else 0) == b
 | .int a,.bl b=>a == (if b then 1 else 0)
 | .int a,.int b=>a == b
 | .str a,.str b=>a == b
 | _,_=>false
theorem zoH {A:Around} {s:Shared} {y x:V} {u v:Value} (ry:RelV y u) (rx:RelV x v) (fy:zi5 y=true) (fx:zi5 x=true):SeqAt.EqAt A s u v (eqV y x):=by
 cases y with
 | non =>
  cases ry;cases x with
  | non=>cases rx; exact la _
  | bl b=>cases rx; exact SeqAt.EqAt.none_bool b
  | int b=>obtain⟨t,rfl⟩:=rx; exact SeqAt.EqAt.none_int b t
  | str b=>obtain⟨t,rfl⟩:=rx; exact SeqAt.EqAt.none_str b t
  | _=>exact absurd (show false=true from fx) aR
 | bl a =>
  cases ry;cases x with
  | non=>cases rx; exact SeqAt.EqAt.bool_none a
  | bl b=>cases rx; exact SeqAt.EqAt.bool_bool a b
  | int b=>obtain⟨t,rfl⟩:=rx; exact SeqAt.EqAt.bool_int a b t
  | str b=>obtain⟨t,rfl⟩:=rx; exact SeqAt.EqAt.bool_str a b t
  | _=>exact absurd (show false=true from fx) aR
 | int a =>
  obtain⟨t',rfl⟩:=ry;cases x with
  | non=>cases rx; exact SeqAt.EqAt.int_none a t'
  | bl b=>cases rx; exact SeqAt.EqAt.int_bool a t' b
  | int b=>obtain⟨t,rfl⟩:=rx; exact SeqAt.EqAt.int_int a t' b t
  | str b=>obtain⟨t,rfl⟩:=rx; exact j8 a t' b t
  | _=>exact absurd (show false=true from fx) aR
 | str a =>
  obtain⟨t',rfl⟩:=ry;cases x with
  | non=>cases rx; exact SeqAt.EqAt.str_none a t'
  | bl b=>cases rx; exact SeqAt.EqAt.str_bool a t' b
  | int b=>obtain⟨t,rfl⟩:=rx; exact j9 a t' b t
  | str b=>obtain⟨t,rfl⟩:=rx; exact SeqAt.EqAt.str_str a t' b t
  | _=>exact absurd (show false=true from fx) aR
 | _=>exact absurd (show false=true from fy) aR
theorem zJ:zbc X (.builtin "len") (fun xs H Q=>∃ p ys,xs = [.ref p]∧(lT X.K H p ys∨me X.K H p ys)∧Q (.int ys.length) H):=by
 intro lR s σ H xs us Q I r h;obtain⟨p,ys,rfl,hq,q⟩:=h;obtain⟨u,rfl,rx⟩:=vals1 r;cases rx;have hn:=zeC;rcases hq with hq | hq
 ·obtain⟨lU,r',pl,hz⟩:=I.list hq;have lY:=r'.length;exact Calls.call_len_list pl.isList (by simp only [az] <;> lia) ⟨.int ys.length,H,I.tok _,⟨s.toks+1,by rw [az,lY]⟩,q⟩
 ·obtain⟨lU,r',pl,hz⟩:=I.tuple hq;have lY:=r'.length;exact len_tuple pl (by simp only [az] <;> lia) ⟨.int ys.length,H,I.tok _,⟨s.toks+1,by rw [az,lY]⟩,q⟩
theorem zgh:zbc X (.type "list") (fun xs H Q=>∃ p ys,xs = [.ref p]∧(lT X.K H p ys∨me X.K H p ys)∧∀ l,H l=none→Q (.ref l) (lW H l (.lst ys))):=by
 intro lR s σ H xs us Q I r h;obtain⟨p,ys,rfl,hq,q⟩:=h;obtain⟨u,rfl,rx⟩:=vals1 r;cases rx;have fin:∀ (lU:List Value),zG ys lU→ys.length≤sizeLine→∀ (h':Heap) (c':Nat),(∀ b o',s.heap.get? b=some o'→h'.get? b=some o') →
   h'.get? s.heap.objs.size=some { cls:=.type "list",dict:=none,data:=.seq lU.toArray c',slots:=#[] }→EP X lR σ Q (.ref s.heap.objs.size) { s with heap:=h' }:=fun lU r' hz h' c' kp e =>
  ⟨.ref s.heap.objs.size,_,I.laid (t':=s.toks) kp (ag _) (show zao X.prog X.w _ h' _ (.lst ys) from ⟨hz,lU,c',r',e⟩),rfl,q _ (I.hok.fresh (ag _))⟩
 rcases hq with hq | hq
 ·obtain⟨lU,r',pl,hz⟩:=I.list hq;have lY:=r'.length;obtain⟨o,ho,hc,n,hd⟩:=pl.isList;exact call_list_seq p (.inl rfl) ho hc hd (fun h' c' kp e=>fin lU r' hz h' c' kp e) (by simp only [az] <;> lia)
 ·obtain⟨lU,r',pl,hz⟩:=I.tuple hq;have lY:=r'.length;obtain⟨o,ho,hc,n,hd⟩:=pl;exact call_list_seq p (.inr rfl) ho hc hd (fun h' c' kp e=>fin lU r' hz h' c' kp e) (by simp only [az] <;> lia)
theorem zaQ:zbc X (.type "tuple") (fun xs H Q=>∃ p ys,xs = [.ref p]∧((lT X.K H p ys∧∀ l,H l=none→Q (.ref l) (lW H l (.tup ys)))∨(me X.K H p ys∧Q (.ref p) H))):=by
 intro lR s σ H xs us Q I r h;obtain⟨p,ys,rfl,h⟩:=h;obtain⟨u,rfl,rx⟩:=vals1 r;cases rx;rcases h with ⟨hq,q⟩ | ⟨hq,q⟩
 ·obtain⟨lU,r',pl,hz⟩:=I.list hq;have lY:=r'.length;refine call_tuple_list pl.isList (fun h' kp=>?_) (by simp only [az] <;> lia);have I1:Inv X lR σ H { s with heap:=h' }:=I.kept (t':=s.toks) kp;have I2:Inv X lR σ (lW H h'.objs.size (.tup ys)) { s with heap:=h'.push { cls:=.type "tuple",data:=.seq lU.toArray } } :=
   I1.laid (t':=s.toks) (fun b o e=>aj _ e) (ag _) (show zao X.prog X.w _ _ _ (.tup ys) from ⟨hz,lU,r',IsTup.new _ _⟩)
  exact⟨.ref h'.objs.size,_,I2,rfl,q _ (I1.hok.fresh (ag _))⟩
 ·obtain⟨lU,r',pl,hz⟩:=I.tuple hq;exact call_tuple_same pl ⟨.ref p,H,I,rfl,q⟩
def tyV (K:ah) (T:String) (x:V) (H:Hp):Prop:=match x with
 | .str _=>T = "str"
 | .int _=>T = "int"
 | .ref p=>(T = "list"∧∃ xs,lT K H p xs)∨(T = "tuple"∧∃ o,K.lookup p=some o∧o.cls = .type "tuple"∧o.dict=none) ∨
   (T = "dict"∧((∃ l8,H p=some (.dK l8))∨∃ l8,H p=some (.dT l8)))∨(T = "set"∧∃ S n,H p=some (.set S n))
 | _=>False
theorem zoI {lR:List (Addr×Obj)} {σ:St} {H:Hp} {s:Shared} {T:String} {x:V} {v:Value} (I:Inv X lR σ H s) (r:RelV x v) (ty:tyV X.K T x H) :
  s.TypeIs v T∧∀ a,v = .ref a→∃ ob,s.heap.get? a=some ob∧ob.dict=none:=by
 cases x with
 | str z =>
  obtain⟨t,rfl⟩:=r;cases (show T = "str" from ty);exact⟨typeIs_str s z t,fun _ e=>nomatch e⟩
 | int i =>
  obtain⟨t,rfl⟩:=r;cases (show T = "int" from ty);exact⟨lb s i t,fun _ e=>nomatch e⟩
 | ref p =>
  cases r;rcases ty with ⟨rfl,xs,hq⟩ | ⟨rfl,o,hk,hc,hd⟩ | ⟨rfl,hk⟩ | ⟨rfl,S,n,hk⟩
  ·obtain⟨lU,_,pl,_⟩:=I.list hq;refine⟨pl.isList.typeIs,fun a e=>?_⟩;cases e;obtain⟨o,n,e,c,hd,_⟩:=pl;exact⟨o,e,hd⟩
  ·refine⟨⟨o,I.kIn p o hk,hc⟩,fun a e=>?_⟩;cases e;exact⟨o,I.kIn _ o hk,hd⟩
  ·have z:∃ o,s.heap.get? p=some o∧o.ExactDict:=by
    rcases hk with ⟨l8,hk⟩ | ⟨l8,hk⟩
    ·obtain⟨_,_,_,_,o,_,_,e,ex,_⟩:=I.hok p _ hk;exact⟨o,e,ex⟩
    ·obtain⟨_,_,_,_,o,_,_,e,ex,_⟩:=I.hok p _ hk;exact⟨o,e,ex⟩
   obtain⟨o,e,ex⟩:=z;refine⟨⟨o,e,ex.1⟩,fun a e2=>?_⟩;cases e2;exact⟨o,e,ex.2.1⟩
  ·obtain⟨o,_,_,_,e,ex,_⟩:=I.hok p _ hk;refine⟨⟨o,e,ex.1⟩,fun a e2=>?_⟩;cases e2;exact⟨o,e,ex.2.1⟩
 | _=>exact eB ty
def tBM (K:ah) (T:String) (r:V→List V→Hp→VK→Prop) (to:TE) (t:TA):TE:=fun σ H Q=>to σ H fun x H1=>tyV K T x H1∧t σ H1 fun xs H2=>r x xs H2 Q
variable {o e:Expr} {es:List Expr} {to:TE} {t:TA} {name:Str} {apos ni:Pos} {T id:String} {r:V→List V→Hp→VK→Prop}
theorem zi6 (pa:PlainAttrs T) (slot:Slot T name id) (CY:typeOf (.builtin id)=pure (.type "method_descriptor")) (hm:MtR X id r) (ho:PE X o to) (ha:PA X (e :: es) t)
  (vL:attributeBase o name X.env (eval o X.env)=eval o X.env:=by rfl)
  (yc:((backTo ni (starEach (e :: es) X.env)).all (fun x=>!x.1) && (backToKw ni (keywordEach [] X.env)).all (fun x=>x.1.isSome)
   && decide ((e :: es).length+([]:List Keyword).length+(if ([]:List Keyword).isEmpty then 0 else 1) < 30))=true:=by rfl)
  (vM:(apos.endLine == ni.line)=true:=by rfl) (hs:starEach (e :: es) X.env=(false,eval e X.env) :: starEach es X.env:=by rfl) (tT:(backTo ni (starEach es X.env)).any (·.1)=false:=by rfl) :
  PE X (.Call (.Attribute o name apos) (e :: es) [] ni) (tBM X.K T r to t):=by
 intro lR s σ H Q I h;refine wpAny_Call_method_late vL yc vM rfl (thn (ho lR s σ H _ I h) fun v s1 ⟨x,H1,I1,r1,ty,q1⟩=>?_);obtain⟨h1,h2⟩:=zoI I1 r1 ty;refine⟨T,id,pa,slot,CY,h1,h2,?_⟩;have hA:=ha ni lR s1 σ H1 _ I1 q1;rw [hs] at hA ⊢;refine jk (by show (false || (backTo ni (starEach es X.env)).any (·.1))=false; rw [tT] <;> rfl) (jH ?_);exact thn hA fun us s2 ⟨vs,H2,I2,r2,q2⟩=>hm lR s2 σ H2 x vs v us Q I2 r1 r2 q2
end
def MtM (X:Cx) (id:String) (r:V→List V→Hp→VK→Prop):Prop :=
 ∀ (lR:List (Addr×Obj)) (s:Shared) (σ:St) (H:Hp) (x:V) (xs:List V) (v:Value) (us:List Value) (Q:VK),Inv X lR σ H s→RelV x v→zG xs us→r x xs H Q →
  wpAny (model X.prog X.w) X.A (call (.builtin id) (v :: us)) (EP X lR σ Q) X.xe s
theorem zG.one:∀ {x:V} {us:List Value},zG [x] us→∃ u,us = [u]∧RelV x u
 | _,_,.cons r .nil=>⟨_,rfl,r⟩
theorem zG.eraseIdx:∀ {xs:List V} {us:List Value} (i:Nat),zG xs us→zG (xs.eraseIdx i) (us.eraseIdx i)
 | _,_,_,.nil=>.nil
 | _,_,0,.cons _ t=>t
 | _,_,i+1,.cons r t=>.cons r (zG.eraseIdx i t)
theorem zG.rep {xs:List V} {us:List Value} (h:zG xs us):∀ k:Nat,zG (aq k xs).flatten (aq k us).flatten
 | 0=>.nil
 | k+1=>by
  rw [cC,cC,dI,dI];exact zG.append h (zG.rep h k)
theorem zfG {α:Type}:∀ (l:List α) (i:Nat),(l.eraseIdx i).length≤l.length
 | [],_=>ag _
 | _ :: _,0=>fP _
 | _ :: r,i+1=>fG (zfG r i)
theorem foldl_rep (lU:List Value):∀ (k:Nat) (acc:List Value),
  lc (fun x1 x2=>x1++x2) acc.toArray (aq k lU.toArray)=(acc++(aq k lU).flatten).toArray
 | 0,acc=>by simp
 | k+1,acc=>by
  have e:acc.toArray++lU.toArray=(acc++lU).toArray:=by simp
  have e2:(acc++lU)++(aq k lU).flatten=acc++(aq (k+1) lU).flatten:=by
   rw [cC,dI,bf]
  rw [← e2,← foldl_rep lU k (acc++lU),← e,cC,List.foldl_cons]
section
variable {X:Cx} {lR:List (Addr×Obj)} {σ:St} {H:Hp} {s:Shared} {l b:Addr} {xs ys zs:List V}
theorem Inv.lset {lU its':List Value} {n:Nat} {f:Array Value→Array Value} {t':Nat} (I:Inv X lR σ H s) (hH:H l=some (.lst xs))
  (e:s.heap.get? l=some { cls:=.type "list",data:=.seq lU.toArray n }) (hf:f lU.toArray=its'.toArray) (hv:zG ys its') (hz:ys.length≤sizeLine) :
  Inv X lR σ (lW H l (.lst ys)) { s with heap:=s.heap.update l (dA f),toks:=t' }:=by
 have q:=kR e f;rw [hf] at q;refine I.write (x:=l) (e:=l) (by rw [hH]; exact trivial) (.inl rfl) (fun b' u hb hu=>(cA s.heap (dA f) (cQ hb)).trans hu) ⟨_,q⟩ ?_;exact⟨hz,its',_,hv,q⟩
theorem Inv.lnew {lU:List Value} {t':Nat} (I:Inv X lR σ H s) (hv:zG ys lU) (hz:ys.length≤sizeLine) :
  Inv X lR σ (lW H s.heap.objs.size (.lst ys)) { s with heap:=s.heap.push { cls:=.type "list",data:=.seq lU.toArray },toks:=t' } :=
 I.laid (fun _ _ q=>aj _ q) (ag _) ⟨hz,lU,0,hv,aB _ rfl⟩
theorem Inv.fresh (I:Inv X lR σ H s):H s.heap.objs.size=none:=I.hok.fresh (ag _)
theorem Inv.lstM (I:Inv X lR σ H s) (hH:H l=some (.lst xs)):xs.length≤sizeLine∧∃ (lU:List Value) (n:Nat),zG xs lU∧xs.length=lU.length∧s.heap.get? l=some { cls:=.type "list",data:=.seq lU.toArray n }:=by
 obtain⟨z,lU,n,r,e⟩:=I.hok l _ hH;exact⟨z,lU,n,r,r.length,e⟩
theorem zhm {n:Nat} (h:n≤sizeLine):eG n=false:=by
 unfold eG;exact decide_eq_false #[O]
end
section
variable {X:Cx}
def zmU:V→List V→Hp→VK→Prop:=fun x vs H Q=>∃ l xs y,x = .ref l∧vs = [y]∧H l=some (.lst xs)∧xs.length < sizeLine∧Q .non (lW H l (.lst (xs++[y])))
theorem zdI:MtM X "list.append" zmU:=by
 intro lR s σ H x vs v us Q I rx rv h;obtain⟨l,xs,y,rfl,rfl,hH,hz,q⟩:=h;cases rx;obtain⟨u,rfl,ru⟩:=rv.one;obtain⟨z,lU,n,r,hl,e⟩:=I.lstM hH;refine fH kh ⟨_,e,rfl⟩ j2 (jI _ _) (kE l lU.toArray n u (by rw [az]; lia)) ⟨e,?_⟩;refine⟨.non,_,I.lset (its':=lU++[u]) hH e #[M] (r.append (.cons ru .nil)) ?_,rfl,q⟩;rw [aA,ju];lia
def zoJ:V→List V→Hp→VK→Prop:=fun x vs H Q=>∃ l xs i k y,x = .ref l∧vs = [.int i]∧H l=some (.lst xs)∧-(2 ^ 63)≤i∧i < 2 ^ 63∧seqIndex? i xs.length=some k∧xs[k]? = some y∧Q y (lW H l (.lst (xs.eraseIdx k)))
theorem zk3:MtM X "list.pop" zoJ:=by
 intro lR s σ H x vs v us Q I rx rv h;obtain⟨l,xs,i,k,y,rfl,rfl,hH,h1,h2,hk,hy,q⟩:=h;cases rx;obtain⟨u,rfl,ru⟩:=rv.one;obtain⟨t,rfl⟩:=ru;obtain⟨z,lU,n,r,hl,e⟩:=I.lstM hH;obtain⟨w,hw,yb⟩:=r.get hy;refine fH F.slot_list_pop ⟨_,e,rfl⟩ F.entry_list_pop (F.args_list_pop_2 _ _)
  (MeetsSeq.list_pop_at l lU.toArray n i t k w (fitsIndex_both h1 h2) (by rw [az,← hl]; exact hk) (by rw [← bI]; exact hw) (by rw [az]; lia)) ⟨e,?_⟩
 refine⟨y,_,I.lset (its':=lU.eraseIdx k) hH e ?_ (r.eraseIdx k) ?_,yb,q⟩
 ·show lU.toArray.eraseIdxIfInBounds k=(lU.eraseIdx k).toArray;rw [List.eraseIdxIfInBounds_toArray]
 ·have:=zfG xs k;lia
def zqr:R2:=fun x y H Q=>∃ l b xs zs,x = .ref l∧y = .ref b∧H l=some (.lst xs)∧H b=some (.lst zs)∧xs.length+zs.length≤sizeLine∧∀ p,H p=none→Q (.ref p) (lW H p (.lst (xs++zs)))
theorem zcp:OpR X (binaryOp .Add) zqr:=by
 intro lR s σ H x y v u Q I rx ry h;obtain⟨l,b,xs,zs,rfl,rfl,hH,hB,hz,q⟩:=h;cases rx;cases ry;obtain⟨z,lU,n,r,hl,e⟩:=I.lstM hH;obtain⟨z2,mJ,n2,r2,qe,e2⟩:=I.lstM hB;refine PySem.P.add_list e e2 ?_ (by rw [az,az]; lia);have ea:lU.toArray++mJ.toArray=(lU++mJ).toArray:=by simp
 rw [ea];exact⟨.ref _,_,I.lnew (t':=s.toks) (r.append r2) (by rw [aA]; lia),rfl,q _ I.fresh⟩
def zpR:R2:=fun x y H Q=>∃ l k xs,x = .ref l∧y = .int k∧H l=some (.lst xs)∧-(2 ^ 63)≤k∧k < 2 ^ 63∧xs.length*k.toNat≤sizeLine ∧
 ∀ p,H p=none→Q (.ref p) (lW H p (.lst (aq k.toNat xs).flatten))
theorem len_rep {α:Type} (xs:List α) (k:Nat):(aq k xs).flatten.length=k*xs.length:=by
 induction k with
 | zero=>simp
 | succ k ih=>rw [cC,dI,aA,ih,gZ,ki]
theorem zeD:OpR X (binaryOp .Mult) zpR:=by
 intro lR s σ H x y v u Q I rx ry h;obtain⟨l,k,xs,rfl,rfl,hH,h1,h2,hz,q⟩:=h;cases rx;obtain⟨t,rfl⟩:=ry;obtain⟨z,lU,n,r,hl,e⟩:=I.lstM hH;have lY:lU.toArray.size*k.toNat≤sizeLine:=by rw [az,← hl]; exact hz
 have CZ:¬ lU.toArray.size*k.toNat > (2 ^ 63 - 1) / 8:=by
  have:(sizeLine:Nat)≤(2 ^ 63 - 1) / 8:=by decide
  lia
 have C0:¬ (!Builtin.List.listFitsIndex k)=true:=by
  rw [fitsIndex_both h1 h2];exact aR
 have vN:¬ eG (lU.toArray.size*k.toNat)=true:=by
  rw [zhm lY];exact aR
 have C1:lc (fun x1 x2=>x1++x2) #[] (aq (if lU.toArray.isEmpty=true then 0 else k.toNat) lU.toArray)=(aq k.toNat lU).flatten.toArray:=by
  have f0:∀ m:Nat,lc (fun x1 x2=>x1++x2) #[] (aq m lU.toArray)=(aq m lU).flatten.toArray:=fun m=>by
   have:=foldl_rep lU m [];rw [lg] at this;exact this
  rw [f0];cases lU with
  | nil=>simp
  | cons a r'=>rw [if_neg #[M]]
 refine wpAny_binaryOp_repeat_ref (T:="list") (U:="int") #[D] ⟨_,e,rfl⟩ (fun s'=>lb s' k t) noFill_list_mul F.fills_int_mul F.slot_int_rmul repeat_list F.slot_int_index.lookup
  (fH F.slot_int_rmul (lb s k t) F.entry_int_rmul (F.args_int_rmul_2 _ _) (int___rmul___int_list k t l lU.toArray n)
   ⟨e,rfl,⟨_,e,rfl⟩,fH F.slot_list_mul ⟨_,e,rfl⟩ F.entry_list_mul (F.args_list_mul_2 _ _) (AutoListH.list___mul___list_int_3 l lU.toArray n k t C0 CZ vN) ⟨e,?_⟩⟩)
 rw [C1];exact⟨.ref _,_,I.lnew (t':=s.toks) (r.rep k.toNat) (by rw [len_rep,cV]; exact hz),rfl,q _ I.fresh⟩
end
end L2
namespace Att
open PySem PySem.W PySem.Calls PyProof.Rows
theorem zd5 {P:Params} {h:Heap}:∀ (ns:List Int) (vs:List Value),WellAll P h vs (ns.map WData.int)→IntsAre vs ns:=by
 intro ns;induction ns with
 | nil =>
  intro vs w;rw [fo] at w;cases w;exact .nil
 | cons n ns ih =>
  intro vs w;rw [bO] at w;cases w with
  | cons a b =>
   cases a;exact .cons _ _ (ih _ b)
theorem zjZ {l:OpenLaw} {n:Nat} (hn:l.most=some n) {P:Params} {h:Heap} {args:List WData} {vals:List Value}
  (qR:l.row.toRowW.claim.pre args=true) (yd:WellAll P h vals args) :
  ∃ a vs ns,vals = [bg a]∧args = [WData.list (ns.map WData.int)]∧h.get? a=some { cls:=.type "list",data:=.seq vs.toArray }∧IntsAre vs ns∧ns.length≤n:=by
 have hsh:WShape.hasAll [] args [.list .int]=true:=(pre_splitW qR).1;have hc:l.pre.holds [] { args:=args }=true:=(pre_splitW qR).2;obtain⟨d,r,rfl,h1,h2⟩:=hasAllW_cons hsh;obtain rfl:=hasAllW_nil h2;obtain⟨xs,rfl,h3⟩:=hasW_list h1;obtain⟨ns,rfl⟩:=items_int h3;have lY:ns.length≤n:=by
  unfold OpenLaw.pre at hc;have h4:(WTm.not (.lt (.lit (.int (n:Int))) (.len (.arg 0)))).holds [] { args:=[.list (ns.map .int)] }=true:=by
   have h4:=(holds_andW hc).1;rw [hn] at h4;exact h4
  have h5:=condW_of h4 (w_not (w_lt w_lit (w_len_list (w_arg rfl))));rw [ab] at h5;refine iV fun q=>?_
  have q':(n:Int) < ((ns.length:Nat):Int):=by lia
  first
   | (rw [decide_eq_true q'] at h5; exact absurd h5 #[D])
   | (simp at h5; lia)
 cases yd with
 | cons w1 w2 =>
  cases w2;cases w1 with
  | list ho qS=>exact⟨_,_,ns,rfl,rfl,ho,zd5 ns _ qS,lY⟩
theorem zj0 (l:OpenLaw) (args:List WData):l.row.toRowW.claim.post args (.bool true) args=true :=
 postW_of (r:=l.row.toRowW) (X:=(true == true))
  (show WShape.has [] (.bool true) .bool=true by first | rfl | decide | simp [WShape.has,WShape.arms,WShape.armsAll])
  (show (WTm.eq .res (.lit (.bool true))).value [] { args:=args,res:=some (.bool true),after:=args }=some (.bool (true == true)) from w_eq_bool (w_res rfl) w_lit) rfl
theorem attach_call {l:OpenLaw} {n:Nat} {q:Program} {loose:List Str} {XP:(Str→Option Value)→Heap→Prop} {YP:World→Heap→Prop} {d:DefRec}
  (hn:l.most=some n) (Al:d.params.defaults = [])
  (call:∀ (w:World) (s₀ s₁:Shared) (mg mb:Str→Option Value) (fa:Addr) (o:Obj) (pm cd doc:Value) (a:Addr) (vs:List Value) (ns:List Int),
   Ground q loose [] XP w s₀ mg mb s₁.heap→YP w s₁.heap →
   s₁.heap.get? fa=some o→o.data = .func (docDef d.name d.params d.body d.scope pm cd doc)→s₁.heap.CodeRec cd d.name→mg d.name=some (.ref fa) →
   s₁.heap.get? a=some { cls:=.type "list",data:=.seq vs.toArray }→IntsAre vs ns→ns.length≤n→s₁.gens = #[] →
   codeAny (model l.prog w) callerA (.call (.ref fa) ⟨[.ref a],[]⟩) (fun r s'=>r = .ok (.ret (.bool true))∧OldK s₁.heap s'.heap∧s'.os=s₁.os∧AllBare s'.gens) s₁) :
  WalkO q loose XP YP l.row.toRowW d [] (fun f vs=>lh f vs):=by
 intro w s₀ s₁ mg mb G Y fa o pm cd doc dV kV ho hd uI hD wN hg args vals as qR hlay hrd yd ql;obtain rfl:dV = .none:=Dflts.none hD Al;obtain rfl:kV = .none:=Dflts.noKw hD;obtain⟨a,vs,ns,rfl,rfl,ye,hints,lY⟩:=zjZ hn qR yd;refine enter_call (kd (call w s₀ s₁ mg mb fa o pm cd doc a vs ns G Y ho (fd_plain hd) uI wN ye hints lY hg) fun r s' hq=>?_);obtain⟨rfl,h2,h3,h4⟩:=hq;exact⟨.inl ⟨.bool true,.bool true,[],rfl,fun _=>rfl,.bool true,zj0 l _,fun _=>⟨iL,fun _ hm=>(nomatch hm)⟩⟩,h2,h3,h4⟩
end Att
namespace L2
open PySem PySem.Spec PyProof.Rows
theorem zfH:∀ {vs:List Value} {ns:List Int},IntsAre vs ns→zG (ns.map V.int) vs
 | _,_,.nil=>.nil
 | _,_,.cons n t h=>.cons ⟨t,rfl⟩ (zfH h)
def zoK (H:Hp):Prop:=∀ b,H b=none∨∃ o xs,H b=some (.frz o (.lst xs))
theorem zk4 {P:Program} {w:World} {K:ah} {mg mb:Str→Option Value} {CX:CXT} {k:Nat} {fa a:Addr} {fd:FuncData} {x:Str} {sp:Sp} {s₁:Shared} {vs:List Value} {ns:List Int}
  (KX:K.In s₁.heap) (uA:s₁.heap.Ns mainGlobals mg) (hb:s₁.heap.Ns builtinsNs mb) (hbb:∀ x:Str,x≠"__name__"→mb x=bootBuiltins x) (C2:s₁.heap.NoLimit) (hg:s₁.gens = #[])
  (ha:s₁.heap.get? a=some { cls:=.type "list",data:=.seq vs.toArray }) (hi:IntsAre vs ns) (hl:ns.length≤sizeLine) (hr:Room k callerA)
  (F:∀ base:Heap,K.In base→base.Ns mainGlobals mg→FnOk P w K mg base CX k fa fd [x] sp) (Am:∀ (s:Shared) (u:Value),BindsTo s fd ⟨[u],[]⟩ [(x,u)])
  (xG:∀ H:Hp,zoK H→lT K H a (ns.map V.int)→sp [.ref a] H (fun v _=>v = .bl true) fun _ _ _=>False)
  (C3:∀ H e s',CX [] H s₁ (fun _ _ _=>False) e s'→False) :
  codeAny (model P w) callerA (.call (.ref fa) ⟨[.ref a],[]⟩) (fun r s'=>r = .ok (.ret (.bool true))∧OldK s₁.heap s'.heap∧s'.os=s₁.os∧AllBare s'.gens) s₁:=by
 have rv:=zfH hi;have C4:=hi.length;have core:∀ H:Hp,zoK H→lT K H a (ns.map V.int)→HOk P w H s₁.heap→(∀ b,H b≠none→b=a)→(H a≠none→K.lookup a=none) →
   codeAny (model P w) callerA (.call (.ref fa) ⟨[.ref a],[]⟩) (fun r s'=>r = .ok (.ret (.bool true))∧OldK s₁.heap s'.heap∧s'.os=s₁.os∧AllBare s'.gens) s₁:=by
  intro H hO hS hok hA hK;have uB:∀ {b:Addr} {o:Obj},s₁.heap.get? b=some o→H b=none→(zga s₁.heap H).get? b=some o:=fun e n=>zkV e n
  have ya:∀ {b:Addr} {o:Obj} {es:Array DictEntry} {ep:Nat},s₁.heap.get? b=some o→o.data = .dict es ep→H b=none:=fun {b o es ep} e d=>by
   cases q:H b with
   | none=>rfl
   | some u =>
    have e':b=a:=hA b (by rw [q]; simp);subst e';rw [ha] at e; cases e;have d':Data.seq vs.toArray _=Data.dict es ep:=d;cases d'
  have B4:∀ {b:Addr} {m:Str→Option Value},s₁.heap.Ns b m→(zga s₁.heap H).Ns b m:=fun {b m} ⟨o,es,ep,e,d,r⟩=>⟨o,es,ep,uB e (ya e d),d,r⟩
  have hKb:K.In (zga s₁.heap H):=fun b o e=>uB (KX b o e) (by
   cases q:H b with
   | none=>rfl
   | some u =>
    have e':b=a:=hA b (by rw [q]; simp);subst e';rw [hK (by rw [q]; simp)] at e; cases e)
  have hM:Mod K mg (zga s₁.heap H):=⟨hKb,B4 uA,⟨mb,B4 hb,hbb⟩,let ⟨mc,h1,h2⟩:=C2; ⟨mc,B4 h1,h2⟩⟩;have e0:Env0 P w K mg (zga s₁.heap H) callerA [] s₁ H:=⟨rfl,hM,fun b o e=>zmM e,kj (zjU _ _),trivial,fun b hb=>absurd (show b∈([]:List Addr) from hb) #[M],hok,.of_eq hg⟩;refine kd ((F _ hKb (B4 uA)).run callerA [] s₁ H ⟨[.ref a],[]⟩ [.ref a] [.ref a] _ _ hr e0 (Am s₁ (.ref a)) (.cons rfl .nil) (xG H hO hS)) fun r s' h=>?_
  cases r with
  | error e=>exact (C3 H e s' h).elim
  | ok fl =>
   cases fl with
   | next=>exact eB h
   | brk=>exact eB h
   | cont=>exact eB h
   | ret u =>
    obtain⟨v,H',os,bare,un,C5,r',q⟩:=h;have q':v = .bl true:=q;subst q';obtain rfl:u=k7 true:=r';refine⟨rfl,OldK.of_keep fun b o e=>?_,os,bare⟩;cases q:H b with
    | none=>exact un.keep b o e q (by intro z; exact absurd (show b∈([]:List Addr) from z) #[M]) #[M]
    | some u =>
     rcases hO b with z | ⟨ob,xs,z⟩
     ·rw [q] at z; cases z
     ·have z2:=un.frzs b ob _ z;obtain⟨e1,_⟩:=hok b _ z;obtain⟨e2,_⟩:=C5 b _ z2;rw [e] at e1; cases e1;exact e2
 cases hk:K.lookup a with
 | some o =>
  have e:=KX a o hk;rw [ha] at e;cases e;refine core (fun _=>none) (fun _=>.inl rfl) (.inr ⟨_,vs.toArray,_,hk,rfl,rfl,rfl,by rw [az,C4]; exact hl,by simpa using rv⟩) (fun b u z=>by have z':(none:Option HO)=some u:=z; cases z') (fun b z=>absurd rfl z) fun z=>absurd rfl z
 | none =>
  refine core (fun b=>if b=a then some (.frz { cls:=.type "list",data:=.seq vs.toArray } (.lst (ns.map V.int))) else none) (fun b=>?_) (.inl (.inr ⟨{ cls:=.type "list",data:=.seq vs.toArray },if_pos rfl⟩)) (fun b u z=>?_) (fun b z=>?_) fun _=>hk
  ·by_cases hb:b=a
   ·exact .inr ⟨_,_,if_pos hb⟩
   ·exact .inl (if_neg hb)
  ·by_cases hb:b=a
   ·have z':=(if_pos hb).symm.trans z;cases z';subst hb;exact⟨ha,by rw [ab]; exact hl,vs,_,rv,ha⟩
   ·have z':=(if_neg hb).symm.trans z;cases z'
  ·by_cases hb:b=a
   ·exact hb
   ·exact absurd (if_neg hb) z
theorem zmV {l:jb} {n k:Nat} {q:Program} {loose:List Str} {XP:(Str→Option Value)→Heap→Prop} {YP:World→Heap→Prop} {d:DefRec} {K:Params→ah} {CX:World→CXT} {sp:World→Sp} {x:Str}
  (hn:l.most=some n) (uJ:n≤sizeLine) (Al:d.params.defaults = []) (hr:Room k callerA)
  (hY:∀ (w:World) (h:Heap),YP w h→(K w.params).In h)
  (F:∀ (w:World) (mg:Str→Option Value) (fa:Addr) (h:Heap),(K w.params).In h→h.Ns mainGlobals mg→mg d.name=some (.ref fa) →
   ∃ fd:FuncData,(∀ (s:Shared) (u:Value),BindsTo s fd ⟨[u],[]⟩ [(x,u)]) ∧
    ∀ base:Heap,(K w.params).In base→base.Ns mainGlobals mg→FnOk l.prog w (K w.params) mg base (CX w) k fa fd [x] (sp w))
  (xG:∀ (w:World) (H:Hp) (a:Addr) (ns:List Int),ns.length≤n→zoK H→lT (K w.params) H a (ns.map V.int)→sp w [.ref a] H (fun v _=>v = .bl true) fun _ _ _=>False)
  (C3:∀ (w:World) (H:Hp) (s:Shared) (e:Value) (s':Shared),CX w [] H s (fun _ _ _=>False) e s'→False) :
  lF q loose XP YP l.row.toRowW d [] (fun f vs=>lh f vs):=by
 refine Att.attach_call hn Al fun w s₀ s₁ mg mb fa o pm cd doc a vs ns G Y ho hd uI wN ye hints lY hg=>?_
 have KX:=hY w _ Y;obtain⟨fd,hb,hF⟩:=F w mg fa _ KX G.T.g wN;exact zk4 KX G.T.g G.T.b G.T.builtins G.T.nolimit hg ye hints (aW lY uJ) hr hF hb (fun H hO hS=>xG w H a ns lY hO hS) fun H e s'=>C3 w H s₁ e s'
def zbK (s:Stmt):Arguments:=match s with
 | .FunctionDef _ a _ _ _ _ _ _ _ _=>a
 | _=>{ posonlyargs:=[],args:=[],vararg:=none,kwonlyargs:=[],kw_defaults:=[],kwarg:=none,defaults:=[] }
def zbB (s:Stmt):List Stmt:=match s with
 | .FunctionDef _ _ b _ _ _ _ _ _ _=>b
 | _=>[]
def zg (s:Stmt):Scope:=match s with
 | .FunctionDef _ _ _ _ _ _ sc _ _ _=>sc
 | _=>{ kind:=.function,names:=[],isGenerator:=false,isCoroutine:=false }
abbrev CX0:CXT:=fun _ _ _ _ _ _=>False
abbrev E0:XK:=fun _ _ _=>False
theorem zI {X:Cx}:zih CX0 X E0:=fun _ _ _ _ _ _ _ h=>h.elim
structure Fun (K:ah) (x qual:Str) (st:Stmt) (f:Addr) (fd:FuncData):Prop where
 ex:∃ (oc:Value) (od:Option Addr) (kV doc pm:Value) (an:Option Addr) (mM ct:Value) (xF:Array (Option Value)),
  fd=dz x qual (zbK st) (zbB st) (zg st) .none kV doc pm an mM ct∧K.lookup f=some ⟨oc,od,.func fd,xF⟩∧gh K mM qual=true
 kp:gg K (.ref f)=true
section
variable {P:Program} {w:World} {K:ah} {mg:Str→Option Value} {base:Heap}
theorem Fun.ok {x qual:Str} {st:Stmt} {f:Addr} {fd:FuncData} {N ps:List Str} {k:Nat} {sp:Sp} (F:Fun K x qual st f fd) (S:FnScope N ps (zg st)) (len:∀ vs H Q E,sp vs H Q E→vs.length=ps.length)
  (vK:∀ (mM:Value) (A:Around) (outer:List Env) (s:Shared) (H:Hp) (vs:List V) (Q:VK) (E:XK),Room k (A.deeper (envOfC qual (zg st) s.heap.objs.size f mM))→sp vs H Q E →
   ∃ t,PSs (zjX CX0 P w K mg base N qual (zg st) f mM A outer s H E).nox (zbB st) t∧t { nx:=fun _ H'=>Q .non H',rt:=Q } (start N vs) H):FnOk P w K mg base CX0 (k+1) f fd ps sp:=by
 obtain⟨oc,od,kV,doc,pm,an,mM,ct,xF,rfl,lk,uI⟩:=F.ex;refine zpL lk uI S len fun A outer s H vs Q E hr xG=>?_
 obtain⟨t,h,q⟩:=vK mM A outer s H vs Q E hr xG;exact⟨t,h.nox,q⟩
theorem Fun.binds {x qual:Str} {st:Stmt} {f:Addr} {fd:FuncData} {ps:List Str} (F:Fun K x qual st f fd)
  (h:∀ (kV doc pm:Value) (an:Option Addr) (mM ct:Value) (us:List Value),us.length=ps.length→bindArgs (dz x qual (zbK st) (zbB st) (zg st) .none kV doc pm an mM ct) ⟨us,[]⟩=pure (ps.zip us)):Binds K fd ps []:=by
 obtain⟨oc,od,kV,doc,pm,an,mM,ct,xF,rfl,lk,uI⟩:=F.ex;exact .all (h kV doc pm an mM ct)
theorem zk5 {x qual:Str} {st:Stmt} {f:Addr} {oc:Value} {od an:Option Addr} {xF:Array (Option Value)} {kV doc pm mM ct:Value} (l:K.lookup f=some ⟨oc,od,.func (dz x qual (zbK st) (zbB st) (zg st) .none kV doc pm an mM ct),xF⟩)
  (c:gh K mM qual=true) (k:gg K (.ref f)=true):Fun K x qual st f (dz x qual (zbK st) (zbB st) (zg st) .none kV doc pm an mM ct):=⟨⟨oc,od,kV,doc,pm,an,mM,ct,xF,rfl,l,c⟩,k⟩
end
theorem zfh {A B:Prop} (h:B):if false=true then A else B:=by
 rw [if_neg aR];exact h
theorem zpS {A B:Prop} (h:A):if true=true then A else B:=by
 rw [if_pos rfl];exact h
theorem zbb {c A B:Prop} [Decidable c] (h1:c→A) (h2:¬ c→B):if c then A else B:=by
 by_cases h:c
 ·rw [if_pos h];exact h1 h
 ·rw [if_neg h];exact h2 h
def zq (H H':Hp):Prop:=∀ b o,H b=some o→H' b=some o
theorem zq.trans {H H1 H2:Hp} (a:zq H H1) (b:zq H1 H2):zq H H2:=fun c o h=>b c o (a c o h)
theorem zq.free {H H':Hp} (e:zq H H') {l:Addr} (h:H' l=lP):H l=lP:=by
 cases q:H l with
 | none=>rfl
 | some o =>
  rw [e l o q] at h;cases h
theorem zq.seq {K:ah} {H H':Hp} {a:Addr} {xs:List V} (e:zq H H') (h:lT K H a xs):lT K H' a xs:=by
 rcases h with (h | ⟨o,h⟩) | h
 ·exact .inl (.inl (e _ _ h))
 ·exact .inl (.inr ⟨o,e _ _ h⟩)
 ·exact .inr h
end L2
section
namespace L2
theorem lS {α β:Type} {a:β} {f:α→β} {B:α→Prop} {v:α} (h:a=f v) (hb:B v):∃ v,a=f v∧B v:=⟨v,h,hb⟩
theorem lX {α β γ δ:Type} {a:γ} {b:δ} {f:α→γ} {g:β→δ} {B:α→β→Prop} {v:α} {w:β} (h:a=f v) (h':b=g w) (hb:B v w):∃ v w,a=f v∧b=g w∧B v w:=⟨v,w,h,h',hb⟩
theorem ex3 {A0 A1 A2:Type} {P:A0→A1→A2→Prop} (x0:A0) (x1:A1) (x2:A2) (h:P x0 x1 x2):∃ x0 x1 x2,P x0 x1 x2:=⟨x0,x1,x2,h⟩
theorem ex4 {A0 A1 A2 A3:Type} {P:A0→A1→A2→A3→Prop} (x0:A0) (x1:A1) (x2:A2) (x3:A3) (h:P x0 x1 x2 x3):∃ x0 x1 x2 x3,P x0 x1 x2 x3:=⟨x0,x1,x2,x3,h⟩
theorem ex5 {A0 A1 A2 A3 A4:Type} {P:A0→A1→A2→A3→A4→Prop} (x0:A0) (x1:A1) (x2:A2) (x3:A3) (x4:A4) (h:P x0 x1 x2 x3 x4):∃ x0 x1 x2 x3 x4,P x0 x1 x2 x3 x4:=⟨x0,x1,x2,x3,x4,h⟩
theorem ex6 {A0 A1 A2 A3 A4 A5:Type} {P:A0→A1→A2→A3→A4→A5→Prop} (x0:A0) (x1:A1) (x2:A2) (x3:A3) (x4:A4) (x5:A5) (h:P x0 x1 x2 x3 x4 x5):∃ x0 x1 x2 x3 x4 x5,P x0 x1 x2 x3 x4 x5:=⟨x0,x1,x2,x3,x4,x5,h⟩
theorem ex7 {A0 A1 A2 A3 A4 A5 A6:Type} {P:A0→A1→A2→A3→A4→A5→A6→Prop} (x0:A0) (x1:A1) (x2:A2) (x3:A3) (x4:A4) (x5:A5) (x6:A6) (h:P x0 x1 x2 x3 x4 x5 x6):∃ x0 x1 x2 x3 x4 x5 x6,P x0 x1 x2 x3 x4 x5 x6:=⟨x0,x1,x2,x3,x4,x5,x6,h⟩
theorem ex8 {A0 A1 A2 A3 A4 A5 A6 A7:Type} {P:A0→A1→A2→A3→A4→A5→A6→A7→Prop} (x0:A0) (x1:A1) (x2:A2) (x3:A3) (x4:A4) (x5:A5) (x6:A6) (x7:A7) (h:P x0 x1 x2 x3 x4 x5 x6 x7):∃ x0 x1 x2 x3 x4 x5 x6 x7,P x0 x1 x2 x3 x4 x5 x6 x7:=⟨x0,x1,x2,x3,x4,x5,x6,x7,h⟩
theorem ex9 {A0 A1 A2 A3 A4 A5 A6 A7 A8:Type} {P:A0→A1→A2→A3→A4→A5→A6→A7→A8→Prop} (x0:A0) (x1:A1) (x2:A2) (x3:A3) (x4:A4) (x5:A5) (x6:A6) (x7:A7) (x8:A8) (h:P x0 x1 x2 x3 x4 x5 x6 x7 x8):∃ x0 x1 x2 x3 x4 x5 x6 x7 x8,P x0 x1 x2 x3 x4 x5 x6 x7 x8:=⟨x0,x1,x2,x3,x4,x5,x6,x7,x8,h⟩
theorem zqs {A0 A1 A2 A3 A4 A5 A6 A7 A8 A9 An Ao Ap Aq:Type} {P:A0→A1→A2→A3→A4→A5→A6→A7→A8→A9→An→Ao→Ap→Aq→Prop} (x0:A0) (x1:A1) (x2:A2) (x3:A3) (x4:A4) (x5:A5) (x6:A6) (x7:A7) (x8:A8) (x9:A9) (wO:An) (wQ:Ao) (wR:Ap) (wU:Aq) (h:P x0 x1 x2 x3 x4 x5 x6 x7 x8 x9 wO wQ wR wU):∃ x0 x1 x2 x3 x4 x5 x6 x7 x8 x9 wO wQ wR wU,P x0 x1 x2 x3 x4 x5 x6 x7 x8 x9 wO wQ wR wU:=⟨x0,x1,x2,x3,x4,x5,x6,x7,x8,x9,wO,wQ,wR,wU,h⟩
theorem zj1 {A0 A1 A2 A3 A4 A5 A6 A7 A8 A9 An Ao Ap Aq A14 A15:Type} {P:A0→A1→A2→A3→A4→A5→A6→A7→A8→A9→An→Ao→Ap→Aq→A14→A15→Prop} (x0:A0) (x1:A1) (x2:A2) (x3:A3) (x4:A4) (x5:A5) (x6:A6) (x7:A7) (x8:A8) (x9:A9) (wO:An) (wQ:Ao) (wR:Ap) (wU:Aq) (B5:A14) (B6:A15) (h:P x0 x1 x2 x3 x4 x5 x6 x7 x8 x9 wO wQ wR wU B5 B6):∃ x0 x1 x2 x3 x4 x5 x6 x7 x8 x9 wO wQ wR wU B5 B6,P x0 x1 x2 x3 x4 x5 x6 x7 x8 x9 wO wQ wR wU B5 B6:=⟨x0,x1,x2,x3,x4,x5,x6,x7,x8,x9,wO,wQ,wR,wU,B5,B6,h⟩
end L2
end
section
namespace L2
open PySem PySem.Spec PyProof.Rows
def zad (cs:List (Str×Addr)):List (Str×NameKind)→List (Str×Addr)→List (Str×Addr)
 | [],acc=>acc
 | (n,k) :: r,acc=>if k == .free then zad cs r ((n,(cs.lookup n).getD 0) :: acc) else zad cs r acc
theorem zcV {scope:Scope} {env:Env} (h:∀ y∈scope.names,y.2 = .free→∃ c,env.cells.lookup y.1=some c) :
  closureFor scope env=pure (zad env.cells scope.names []):=by
 have go:∀ (names:List (Str×NameKind)) (acc:List (Str×Addr)),(∀ y∈names,y.2 = .free→∃ c,env.cells.lookup y.1=some c) →
   (forIn names acc (fun (x:Str×NameKind) (cs:List (Str×Addr))=>(if (x.2 == cq)=true then do
    let a ← cellOf env x.1
    pure (cI ((x.1,a) :: cs)) else pure (cI cs):Sem (ForInStep (List (Str×Addr))))))=(pure (zad env.cells names acc):Sem _):=by
  intro names;induction names with
  | nil=>intro acc _; rfl
  | cons y r ih =>
   intro acc hy;obtain⟨n,k⟩:=y;rw [fb];cases hk:(k == cq) with
   | true =>
    obtain⟨c,hc⟩:=hy (n,k) aV (by simpa using hk);have pX:cellOf env n=pure c:=by
     unfold cellOf;have md:env.cells.lookup n=some c:=hc;rw [md]
    simp only [hk,if_true,pX];have e:=ih ((n,c) :: acc) fun y Ar=>hy y (aG _ Ar)
    have md:env.cells.lookup n=some c:=hc;simp only [zad,hk,if_true,md,gK];exact e
   | false =>
    simp only [hk,bq,if_false];have e:=ih acc fun y Ar=>hy y (aG _ Ar)
    simp only [zad,hk,bq,if_false];exact e
 have e:=go scope.names [] h;unfold closureFor;show (forIn scope.names [] _ >>= fun cs=>pure cs)=_
 first
  | (rw [e]; rfl)
  | (simp only []; rw [e]; rfl)
  | (have e':=e; simp at e' ⊢; exact e')
theorem zbQ {cs:List (Str×Addr)}:∀ (names:List (Str×NameKind)) (acc:List (Str×Addr)),
  (∀ y∈names,y.2 = .free→∃ c,cs.lookup y.1=some c)→(∀ x c,acc.lookup x=some c→cs.lookup x=some c) →
  ∀ x c,(zad cs names acc).lookup x=some c→cs.lookup x=some c
 | [],acc,_,h,x,c,e=>h x c e
 | (n,k) :: r,acc,hy,h,x,c,e=>by
  have hr:∀ y∈r,y.2 = .free→∃ c,cs.lookup y.1=some c:=fun y Ar=>hy y (aG _ Ar)
  unfold zad at e;cases hk:(k == cq) with
  | false =>
   rw [hk] at e;exact zbQ r acc hr h x c e
  | true =>
   rw [hk] at e;obtain⟨d,hd⟩:=hy (n,k) aV (by simpa using hk);have BW:cs.lookup n=some d:=hd;refine zbQ r _ hr (fun x c e'=>?_) x c e;rw [BW,gK,bj] at e';cases hx:(x == n) with
   | true =>
    rw [hx] at e';have:x=n:=by simpa using hx
    subst this;rw [BW];exact e'
   | false =>
    rw [hx] at e';exact h x c e'
theorem zb8 {cs:List (Str×Addr)}:∀ (names:List (Str×NameKind)) (acc:List (Str×Addr)) (x:Str),
  ((∃ c,acc.lookup x=some c)∨(x,cq)∈names)→∃ c,(zad cs names acc).lookup x=some c
 | [],acc,x,h=>by
  rcases h with h | h
  ·exact h
  ·cases h
 | (n,k) :: r,acc,x,h=>by
  unfold zad;cases hk:(k == cq) with
  | false =>
   refine zb8 r acc x ?_;rcases h with h | h
   ·exact .inl h
   ·rcases aH.mp h with h | h
    ·cases h;exact absurd hk #[D]
    ·exact .inr h
  | true =>
   refine zb8 r _ x ?_;cases hx:(x == n) with
   | true=>exact .inl ⟨_,by rw [bj,hx]⟩
   | false =>
    rcases h with ⟨c,h⟩ | h
    ·exact .inl ⟨c,by rw [bj,hx]; exact h⟩
    ·rcases aH.mp h with h | h
     ·cases h;simp at hx
     ·exact .inr h
theorem lookup_mem {α:Type}:∀ {l:List (Str×α)} {x:Str} {k:α},l.lookup x=some k→(x,k)∈l
 | [],x,k,h=>by simp at h
 | (n,j) :: r,x,k,h=>by
  rw [bj] at h;cases hx:(x == n) with
  | true =>
   rw [hx] at h;have:x=n:=by simpa using hx
   subst this;cases h;exact aV
  | false =>
   rw [hx] at h;exact aG _ (lookup_mem h)
theorem zbz {env:Env}:∀ {names:List (Str×NameKind)} {x:Str},names.lookup x=some .free →
  (names.map fun (n,k)=>if (k == cq && env.scope.kind == .function && env.kindOf n == some .cell) then (n,di) else (n,k)).lookup x=some .cell ∨
  (names.map fun (n,k)=>if (k == cq && env.scope.kind == .function && env.kindOf n == some .cell) then (n,di) else (n,k)).lookup x=some .free
 | [],_,h=>by simp at h
 | (n,k) :: r,x,h=>by
  have ih:=@zbz env r x;simp only [bO];cases hx:x == n with
  | true =>
   simp only [bj,hx] at h; cases h;by_cases hc:(cq == cq && env.scope.kind == .function && env.kindOf n == some .cell)=true
   ·rw [if_pos hc]; left; simp only [bj,hx]
   ·rw [if_neg hc]; right; simp only [bj,hx]
  | false =>
   simp only [bj,hx] at h; rcases km ((k == cq && env.scope.kind == .function && env.kindOf n == some .cell)=true) with hc | hc
   ·exact (by rw [if_pos hc]; simp only [bj,hx]; exact ih h)
   ·exact (by rw [if_neg hc]; simp only [bj,hx]; exact ih h)
theorem zdb {env:Env}:∀ {names:List (Str×NameKind)} {x:Str},
  ((names.map fun (n,k)=>if (k == cq && env.scope.kind == .function && env.kindOf n == some .cell) then (n,di) else (n,k)).lookup x=some .cell ∨
  (names.map fun (n,k)=>if (k == cq && env.scope.kind == .function && env.kindOf n == some .cell) then (n,di) else (n,k)).lookup x=some .free) →
  names.lookup x=some .free∨names.lookup x=some .cell
 | [],_,h=>by simp at h
 | (n,k) :: r,x,h=>by
  have ih:=@zdb env r x;simp only [bO] at h;cases hx:x == n with
  | true =>
   rcases km ((k == cq && env.scope.kind == .function && env.kindOf n == some .cell)=true) with hc | hc
   ·have hk:k = .free:=by
     simp only [fI] at hc; simpa using hc.1.1
    subst hk;exact .inl (by simp only [bj,hx])
   ·rw [if_neg hc] at h;simp only [bj,hx] at h ⊢;rcases h with h | h
    ·exact .inr h
    ·exact .inl h
  | false =>
   rcases km ((k == cq && env.scope.kind == .function && env.kindOf n == some .cell)=true) with hc | hc
   ·rw [if_pos hc] at h;simp only [bj,hx] at h ⊢;exact ih h
   ·rw [if_neg hc] at h;simp only [bj,hx] at h ⊢;exact ih h
theorem zgi:∀ (names:List (Str×NameKind)) (n:Nat) (acc:List (Str×Addr)) (x:Str),(x,di)∉names→(cellsFrom n names acc).lookup x=acc.lookup x
 | [],_,_,_,_=>rfl
 | (y,k) :: r,n,acc,x,h=>by
  have hr:(x,di)∉r:=fun z=>h (aG _ z)
  unfold cellsFrom;split
  ·rename_i hk
   have vw:k = .cell:=by simpa using hk
   rw [zgi r _ _ x hr,bj];cases hx:(x == y) with
   | true =>
    have:x=y:=by simpa using hx
    subst this;subst vw;exact absurd aV h
   | false=>rfl
  ·exact zgi r _ _ x hr
theorem zgj:∀ (names:List (Str×NameKind)) (n:Nat) (acc:List (Str×Addr)) (x:Str),(x,di)∈names→∃ c,(cellsFrom n names acc).lookup x=some c∧n≤c
 | (y,k) :: r,n,acc,x,h=>by
  by_cases hr:(x,di)∈r
  ·unfold cellsFrom;split
   ·obtain⟨c,e,l⟩:=zgj r (n+1) ((y,n) :: acc) x hr;exact⟨c,e,#[O]⟩
   ·exact zgj r n acc x hr
  ·rcases aH.mp h with e | e
   ·cases e;unfold cellsFrom;rw [if_pos #[D],zgi r _ _ _ hr,bj,beq_self_eq_true];exact⟨n,rfl,ag _⟩
   ·exact absurd e hr
structure CO (h:Heap) (lo:Nat) (old cs:List (Str×Addr)):Prop where
 each:∀ x c,cs.lookup x=some c→(h.IsCell c none∧lo≤c)∨(old.lookup x=some c∧c < lo)
 inj:∀ x y c,cs.lookup x=some c→cs.lookup y=some c→x=y
theorem zk6 {lo:Nat} {old:List (Str×Addr)}:∀ (names:List (Str×NameKind)) (h:Heap) (acc:List (Str×Addr)),CO h lo old acc→lo≤h.objs.size→CO (pushCells h names) lo old (cellsFrom h.objs.size names acc)
 | [],_,_,a,_=>a
 | (y,k) :: r,h,acc,a,hl=>by
  unfold pushCells cellsFrom;split
  ·have lt:∀ x c,acc.lookup x=some c→c < h.objs.size:=fun x c e=>(a.each x c e).elim (fun z=>z.1.lt) fun z=>br z.2 hl
   have key:∀ x c,jl x ((y,h.objs.size) :: acc)=some c→(x=y∧c=h.objs.size)∨acc.lookup x=some c:=fun x c e=>by
    rw [bj] at e;cases hx:(x == y) with
    | true =>
     rw [hx] at e;exact .inl ⟨by simpa using hx,(aS e).symm⟩
    | false =>
     rw [hx] at e;exact .inr e
   have:=zk6 (lo:=lo) (old:=old) r (h.push { cls:=.type "cell",data:=.cell none }) ((y,h.objs.size) :: acc) ⟨fun x c e=>?_,fun x z c e1 e2=>?_⟩ (by rw [bM]; lia)
   ·rw [bM] at this;exact this
   ·rcases key x c e with ⟨_,rfl⟩ | e
    ·exact .inl ⟨⟨_,aB _ rfl,rfl⟩,hl⟩
    ·rcases a.each x c e with z | z
     ·exact .inl ⟨z.1.keeps fun b o e=>aj _ e,z.2⟩
     ·exact .inr z
   ·rcases key x c e1 with ⟨p1,q1⟩ | f1 <;> rcases key z c e2 with ⟨p2,q2⟩ | f2
    ·exact p1.trans p2.symm
    ·exact absurd (lt _ _ f2) (by rw [q1]; exact cb _)
    ·exact absurd (lt _ _ f1) (by rw [q2]; exact cb _)
    ·exact a.inj x z c f1 f2
  ·exact zk6 r h acc a hl
theorem zj2 {M:Model} {A:Around} {E:Value→Shared→Prop} {s:Shared} {scope:Scope} {globals:Addr} {closure:List (Str×Addr)} {qual:Str} {env:Env} {Q:Env→Shared→Prop}
  (h:Q (newEnv scope s.heap.objs.size globals (cellsFrom (s.heap.objs.size+1) scope.names closure) qual none .none (some env) builtinsNs) { s with heap:=pushCells (s.heap.push { cls:=.type "dict",data:=.dict #[] }) scope.names }) :
  wpAny M A (newFunctionEnv scope globals closure [] qual none .none (some env)) Q E s:=by
 (simp only [newFunctionEnv,ko,if_true])
 (refine ae (wpAny_alloc ?_))
 (refine ae (wpAny_layCells _ (fun name kind cells=>by cases C6:kind == di <;> simp [C6]) _ _ _ _ ?_))
 rw [show ({ s with heap:=s.heap.push { cls:=.type "dict",data:=.dict #[] } }:Shared).heap.objs.size=s.heap.objs.size+1 from bM ..]
 (exact ae (ak (ak h)))
abbrev zF (X:Cx) (N':List Str) (scope:Scope) (s₃:Shared) (H₃:Hp) (ex:List Addr) (lR:List (Addr×Obj)):Cx :=
 { X with N:=N',s₀:=s₃,H₀:=H₃,env:=compEnvC scope (cellsFrom (s₃.heap.objs.size+1) scope.names (zad X.env.cells scope.names [])) s₃.heap.objs.size X.env,outer:=X.stack,stack:=X.stack,ex:=ex,fn:=fun x=>scope.names.lookup x == some .cell,pn:=X.pn++lR,xe:=fun _ _=>False }
def zij (ifs:List Expr) (env:Env):Sem Bool :=
 forIn ifs true fun c r=>if r=true then do let ok ← isTrue c env (eval c env); pure (cI ok) else pure (cI r)
def zdc (X:Cx) (ifs:List Expr) (t:TT):Prop :=
 ∀ (lR:List (Addr×Obj)) (s:Shared) (σ:St) (H:Hp) (Q:Bool→Hp→Prop),Inv X lR σ H s→t σ H Q→wpAny (model X.prog X.w) X.A (zij ifs X.env) (TP X lR σ Q) X.xe s
def zmW:TT:=fun _ H Q=>Q true H
theorem zo {X:Cx}:zdc X [] zmW:=fun _ _ _ H _ I h=>ak ⟨H,I,h⟩
theorem zbo {X:Cx} {c:Expr} {t:TT} (h:PT X c t):zdc X [c] t:=by
 intro lR s σ H Q I hw;unfold zij;rw [fb];simp only [if_true];exact ae (ae (thn (h lR s σ H _ I hw) fun b s1 q=>ak (ak q)))
structure CompSc (X:Cx) (N':List Str) (ix:List (Option Nat)) (scope:Scope):Prop where
 kind:scope.kind = .function
 cells:∀ y∈scope.names,y.2 = .cell→scope.names.lookup y.1=some .cell
 names:∀ y∈scope.names,y.2 = .local→scope.names.lookup y.1=some .local
 free:∀ y∈scope.names,y.2 = .free→X.env.kindOf y.1=some .cell∨X.env.kindOf y.1=some .free
 len:N'.length=ix.length
 cap:∀ j i:Nat,ix[j]? = some (some i)→∃ x,N'[j]? = some x∧X.N[i]? = some x∧scope.names.lookup x=some .free
def zi7 (yV:Scope) (oN N':List Str) (ix:List (Option Nat)) (scope:Scope):Bool :=
 (scope.kind == .function) && (scope.names.all fun y=>y.2 != .cell || scope.names.lookup y.1 == some .cell) && (scope.names.all fun y=>y.2 != .local || scope.names.lookup y.1 == some .local) &&
 (scope.names.all fun y=>y.2 != .free || (yV.names.lookup y.1 == some .cell || yV.names.lookup y.1 == some .free)) && (N'.length == ix.length) &&
 ((au ix.length).all fun j=>match ix[j]? with
  | some (some i)=>(match N'[j]? with
   | some x=>oN[i]? == some x && scope.names.lookup x == some .free
   | none=>false)
  | _=>true)
theorem CompSc.of {X:Cx} {N':List Str} {ix:List (Option Nat)} {scope:Scope} (yV:Scope) (oN:List Str) (h1:X.env.scope=yV) (h2:X.N=oN) (hb:zi7 yV oN N' ix scope=true):CompSc X N' ix scope:=by
 unfold zi7 at hb;simp only [fI,fJ] at hb;obtain⟨⟨⟨⟨⟨a,b⟩,c⟩,d⟩,e⟩,f⟩:=hb;refine⟨?_,fun y hy hl=>?_,fun y hy hl=>?_,fun y hy hf=>?_,by simpa using e,fun j i hj=>?_⟩
 ·revert a
  cases scope.kind <;> first | (intro _; rfl) | (intro h; exact absurd h #[D])
 ·have:=b y hy;rw [hl] at this;simpa using this
 ·have:=c y hy;rw [hl] at this;simpa using this
 ·have:=d y hy;rw [hf] at this;have e1:X.env.kindOf y.1=yV.names.lookup y.1:=by rw [← h1]; rfl
  rw [e1];simpa using this
 ·have mj:j < ix.length:=(aw.mp hj).1;have:=f j (aJ.mpr mj);rw [hj] at this;cases hN:N'[j]? with
  | none =>
   rw [hN] at this;simp at this
  | some x =>
   rw [hN] at this;refine⟨x,rfl,?_⟩;rw [h2];simpa using this
def zdd (ix:List (Option Nat)) (σ:St):St:=ix.map fun o=>match o with
 | none=>none
 | some i=>(σ[i]?).join
theorem Inv.track {X:Cx} {lR:List (Addr×Obj)} {σ:St} {H:Hp} {s:Shared} {D:Addr} {o:HO} (I:Inv X lR σ H s) (hn:H D=none) (hs:X.s₀.heap.objs.size≤D) (hL:X.env.locals≠D)
  (hC:∀ x c,X.env.cells.lookup x=some c→c≠D) (hp:∀ p∈X.pn++lR,p.1≠D) (ok:zao X.prog X.w (lW H D o) s.heap D o):Inv X lR σ (lW H D o) s:=by
 have ne:∀ b u,H b=some u→b≠D:=fun b u e=>zB e hn
 refine⟨I.ok,I.os,I.bare,⟨I.base.keep,I.base.slot,fun b u e n hx=>?_,I.base.there,fun b xs e=>?_,fun b u xs e=>?_,fun b ps e=>?_⟩,I.loc,I.cell,?_,fun x c e=>?_,fun p rN=>?_,fun b u e=>?_,I.len⟩
 ·have:b≠D:=bh (br (aF e) hs);rw [zl this];exact I.base.free b u e n hx
 ·have:=I.base.tups b xs e;rw [zl (ne b _ this)];exact this
 ·have:=I.base.frzs b u xs e;rw [zl (ne b _ this)];exact this
 ·obtain⟨more,q⟩:=I.base.tbls b ps e;exact⟨more,by rw [zl (ne b _ q)]; exact q⟩
 ·rw [zl hL];exact I.free
 ·rw [zl (hC x c e)];exact I.freeC x c e
 ·obtain⟨a1,a2,a3⟩:=I.pin p rN;exact⟨a1,by rw [zl (hp p rN)]; exact a2,a3⟩
 ·by_cases hb:b=D
  ·subst hb;rw [zc] at e;cases e;exact ok
  ·rw [zl hb] at e;exact (I.hok b u e).stay (fun c v _ q=>q) (fun c q=>by rw [zl (ne c _ q)]; exact q) fun c xs q=>by rw [zl (ne c _ q)]; exact q
def cGo (g:TG) (ts:TT) (te:TE) (σ0:St) (J:It) (Q:VK) (H1:Hp):Prop :=
 ∃ W:Nat→Nat→List V→Hp→Prop,(∃ m,W 0 m [] H1)∧∀ i m ys H,W i m ys H →
  (J.stop i H∧∀ D,H D=none→Q (.ref D) (lW H D (.lst ys))) ∨
  (J.go i H∧∃ N:List V→Hp→Prop,(∀ sJ H',N sJ H'→∃ m',m' < m∧W (i+1) m' sJ H')∧∀ x H',J.yld i H x H'→g x σ0 H' fun σ2 H2=>ts σ2 H2 fun b H3 =>
   if b=true then te σ2 H3 fun y H4=>ys.length < sizeLine∧N (ys++[y]) H4 else N ys H3)
def zn6 (ix:List (Option Nat)) (wi:TI) (g:TG) (ts:TT) (te:TE):TE:=fun σ H Q=>wi σ H fun J H1=>cGo g ts te (zdd ix σ) J Q H1
theorem zK {J:It} {n:Nat} {g:TG} {ts:TT} {te:TE} {σ0:St} {Q:VK} {H:Hp} (Pv:Nat→List V→Hp→Prop) (h0:Pv 0 [] H) (As:∀ i ys H,i < n→Pv i ys H→J.go i H) (oC:∀ ys H,Pv n ys H→J.stop n H)
  (hs:∀ i x ys H H',i < n→Pv i ys H→J.yld i H x H'→g x σ0 H' fun σ2 H2=>ts σ2 H2 fun b H3=>if b=true then te σ2 H3 fun y H4=>ys.length < sizeLine∧Pv (i+1) (ys++[y]) H4 else Pv (i+1) ys H3)
  (hd:∀ ys H D,Pv n ys H→H D=none→Q (.ref D) (lW H D (.lst ys))):cGo g ts te σ0 J Q H:=by
 refine⟨fun i m ys H=>m=n - i∧i≤n∧Pv i ys H,⟨n,#[M],bz _,h0⟩,?_⟩;rintro i m ys H ⟨rfl,hi,p⟩;by_cases mj:i < n
 ·exact .inr ⟨As i ys H mj p,Pv (i+1),fun sJ H' p'=>⟨n - (i+1),#[O],rfl,mj,p'⟩,fun x H' y=>hs i x ys H H' mj p y⟩
 ·have e:i=n:=by lia
  subst e;exact .inl ⟨oC ys H p,fun D hD=>hd ys H D p hD⟩
theorem zik {J:It} {n:Nat} {g:TG} {tb:TS} {D:Ends} {σ:St} {H:Hp} (Pv:Nat→St→Hp→Prop) (h0:Pv 0 σ H) (As:∀ i σ H,i < n→Pv i σ H→J.go i H) (oC:∀ σ H,Pv n σ H→J.stop n H)
  (hs:∀ i x σ H H',i < n→Pv i σ H→J.yld i H x H'→g x σ H' fun σ2 H2=>tb { D with nx:=Pv (i+1),ct:=Pv (i+1),bk:=D.nx } σ2 H2) (hd:∀ σ H,Pv n σ H→D.nx σ H) :
  ∃ W:Nat→Nat→St→Hp→Prop,(∃ m,W 0 m σ H)∧∀ i m σ H,W i m σ H →
   (J.stop i H∧D.nx σ H)∨(J.go i H∧∃ N:St→Hp→Prop,(∀ σ' H',N σ' H'→∃ m',m' < m∧W (i+1) m' σ' H')∧∀ x H',J.yld i H x H'→g x σ H' fun σ2 H2=>tb { D with nx:=N,ct:=N,bk:=D.nx } σ2 H2):=by
 refine⟨fun i m σ H=>m=n - i∧i≤n∧Pv i σ H,⟨n,#[M],bz _,h0⟩,?_⟩;rintro i m σ H ⟨rfl,hi,p⟩;by_cases mj:i < n
 ·exact .inr ⟨As i σ H mj p,Pv (i+1),fun σ' H' p'=>⟨n - (i+1),#[O],rfl,mj,p'⟩,fun x H' y=>hs i x σ H H' mj p y⟩
 ·have e:i=n:=by lia
  subst e;exact .inl ⟨oC σ H p,hd σ H p⟩
abbrev TM:=List V→St→Hp→(List V→Hp→Prop)→Prop
abbrev zd6 (lU:List Value) (nn:Nat):Obj:={ cls:=.type "list",data:=.seq lU.toArray nn }
structure AccAt (Y:Cx) (lR:List (Addr×Obj)) (H:Hp) (s:Shared) (D:Addr) (ys:List V) (lU:List Value) (nn:Nat):Prop where
 fp:zbP Y lR H D
 here:s.heap.get? D=some (zd6 lU nn)
 vals:zG ys lU
 len:ys.length≤sizeLine
def zgk (js:List Nat) (σ:St):Prop:=∀ j∈js,∀ v,σ[j]?≠some (some v)
def Kp (js:List Nat) (σ σ2:St):Prop:=σ2.length=σ.length∧∀ j,j∉js→σ2[j]? = σ[j]?
theorem Kp.refl {js:List Nat} {σ:St}:Kp js σ σ:=⟨rfl,fun _ _=>rfl⟩
theorem Kp.set {js:List Nat} {σ σ2:St} {i:Nat} {v:Option V} (hi:i∈js) (h:Kp js σ σ2):Kp js σ (σ2.set i v):=by
 refine⟨by rw [fS]; exact h.1,fun j hj=>?_⟩;rw [eA (fun z=>hj (by rw [← z]; exact hi))];exact h.2 j hj
def GS (js:List Nat) (g:TG):Prop:=∀ (σ σ1:St) (x:V) (H:Hp) (Q:St→Hp→Prop),Kp js σ σ1→g x σ1 H Q→g x σ1 H fun σ2 H2=>Kp js σ σ2∧Q σ2 H2
def GSs (js:List Nat) (g:TGs):Prop:=∀ (σ σ1:St) (xs:List V) (H:Hp) (Q:St→Hp→Prop),Kp js σ σ1→g xs σ1 H Q→g xs σ1 H fun σ2 H2=>Kp js σ σ2∧Q σ2 H2
theorem zef {js:List Nat} {i:Nat} (hi:i∈js):GS js (zaO i):=fun σ σ1 x H Q hw h=>⟨hw.set hi,h⟩
theorem zeg {js:List Nat}:GSs js zib:=fun σ σ1 xs H Q hw h=>⟨h.1,hw,h.2⟩
theorem zbF {js:List Nat} {i:Nat} {u:TGs} (hi:i∈js) (h2:GSs js u):GSs js (zbX (zaO i) u):=fun σ σ1 xs H Q hw h=>by
 obtain⟨v,r,e,h⟩:=h;exact⟨v,r,e,h2 σ _ r H Q (hw.set hi) h⟩
theorem zgl {js:List Nat} {K:ah} {n:Nat} {t:TGs} (h:GSs js t):GS js (zhe K n t):=fun σ σ1 x H Q hw hg=>by
 obtain⟨a,xs,e,hq,hl,hg⟩:=hg;exact⟨a,xs,e,hq,hl,h σ σ1 xs H Q hw hg⟩
theorem Inv.fewer {X:Cx} {lR pW:List (Addr×Obj)} {σ:St} {H:Hp} {s:Shared} (I:Inv X lR σ H s) (h:∀ p∈pW,p∈lR):Inv X pW σ H s :=
 I.pins_of fun p hp=>I.pin p (aP _ (h p hp))
section
variable {Y:Cx} {lR:List (Addr×Obj)} {σ:St} {H:Hp} {s:Shared} {D:Addr} {ys:List V} {lU:List Value} {nn:Nat}
theorem AccAt.pin (a:AccAt Y lR H s D ys lU nn) (I:Inv Y lR σ H s):Inv Y (lR++[(D,zd6 lU nn)]) σ H s :=
 I.pins_of fun p hp=>by
  rcases (bi.mp hp) with hp | hp
  ·exact I.pin p (aP _ hp)
  ·obtain rfl:p=(D,zd6 lU nn):=by simpa using hp
   obtain⟨a0,a1,a2,_⟩:=a.fp;exact⟨a.here,a0,a1,a2,fun v z=>by cases z⟩
theorem AccAt.back {pW:List (Addr×Obj)} {σ':St} {H':Hp} {s':Shared} (a:AccAt Y lR H s D ys lU nn) (I:Inv Y pW σ' H' s') (hm:(D,zd6 lU nn)∈pW):AccAt Y lR H' s' D ys lU nn:=by
 have p:=I.pin (D,zd6 lU nn) (aP _ hm);exact⟨⟨p.2.1,a.fp.2⟩,p.1,a.vals,a.len⟩
end
def PM (Y:Cx) (D:Addr) (js:List Nat) (mk:Sem Fin→Sem Fin) (tm:TM):Prop :=
 ∀ (last:Sem Fin) (lR:List (Addr×Obj)) (s:Shared) (σ:St) (H:Hp) (ys:List V) (lU:List Value) (nn:Nat) (Q:List V→Hp→Prop) (Φ:Fin→Shared→Prop),Inv Y lR σ H s→AccAt Y lR H s D ys lU nn→zgk js σ→tm ys σ H Q →
  (∀ (s':Shared) (sJ:List V) (its':List Value) (yf:Nat) (H':Hp),Inv Y lR σ H' s'→AccAt Y lR H' s' D sJ its' yf→Q sJ H'→wpAny (model Y.prog Y.w) Y.A last Φ (fun _ _=>False) s') →
  wpAny (model Y.prog Y.w) Y.A (mk last) Φ (fun _ _=>False) s
def zfI (elt:Expr) (acc:Value) (env:Env) (last:Sem Fin):Sem Fin:=(eval elt env >>= fun x=>call (.builtin "list.append") [acc,x] >>= fun _=>pure ()) >>= fun _=>last
def zi8 (e iter:Expr) (d:Nat) (acc:Value) (env:Env) (last:Sem Fin):Sem Fin :=
 eval iter env >>= fun x=>standAt iter.pos >>= fun _=>foldedSetIterable iter env x >>= fun x=>holding [x] (pyIter x) >>= fun xX=>runOwn (.compStart e d xX acc env) env >>= fun _=>last
def zi9 (te:TE):TM:=fun ys σ H Q=>te σ H fun y H4=>ys.length < sizeLine∧Q (ys++[y]) H4
def cIn (g:TG) (ts:TT) (tm:TM) (σ:St) (J:It) (Q:List V→Hp→Prop) (ys:List V) (H1:Hp):Prop :=
 ∃ W:Nat→Nat→List V→Hp→Prop,(∃ m,W 0 m ys H1)∧∀ i m ys H,W i m ys H →
  (J.stop i H∧Q ys H) ∨
  (J.go i H∧∃ N:List V→Hp→Prop,(∀ sJ H',N sJ H'→∃ m',m' < m∧W (i+1) m' sJ H')∧∀ x H',J.yld i H x H'→g x σ H' fun σ2 H2=>ts σ2 H2 fun b H3 =>
   if b=true then tm ys σ2 H3 N else N ys H3)
def zja (wi:TI) (g:TG) (ts:TT) (tm:TM):TM:=fun ys σ H Q=>wi σ H fun J H1=>cIn g ts tm σ J Q ys H1
def zgm (ix:List (Option Nat)) (wi:TI) (g:TG) (ts:TT) (tm:TM):TE:=fun σ H Q=>wi σ H fun J H1=>cIn g ts tm (zdd ix σ) J (fun ys H'=>∀ D,H' D=none→Q (.ref D) (lW H' D (.lst ys))) [] H1
theorem thx {α:Type} {X:Cx} {m:Sem α} {P Q:α→Shared→Prop} {E:Value→Shared→Prop} {s:Shared} (hx:X.xe=fun _ _=>False) (h:wpAny (model X.prog X.w) X.A m P X.xe s) (k:∀ a s',P a s'→Q a s'):wpAny (model X.prog X.w) X.A m Q E s :=
 c7 h k fun _ _ z=>by rw [hx] at z; exact z.elim
theorem zil {Y:Cx} {D:Addr} {elt:Expr} {te:TE} (hx:Y.xe=fun _ _=>False) (he:PE Y elt te):PM Y D [] (zfI elt (.ref D) Y.env) (zi9 te):=by
 intro last lR s σ H ys lU nn Q Φ I a no h k;unfold zfI;refine ae (ae (thx hx (he (lR++[(D,zd6 lU nn)]) s σ H _ (a.pin I) h) fun yv s1 ⟨y,H1,I1,r1,hz,q1⟩=>ae ?_));have a1:=a.back I1 (aP _ aV);have J1:Inv Y lR σ H1 s1:=I1.fewer fun p hp=>ba _ hp
 have vy:=a1.vals.length;refine fH kh ⟨_,a1.here,rfl⟩ j2 (jI _ _) (kE D lU.toArray nn yv (by rw [az]; lia)) ⟨a1.here,?_⟩;refine ak ?_;have q:=kR a1.here (·.push yv);have k10:∀ b o,b≠D→s1.heap.get? b=some o→(s1.heap.update D (dA (·.push yv))).get? b=some o:=fun b o hb e=>(cA s1.heap (dA (·.push yv)) (cQ hb)).trans e
 obtain⟨b0,b1,b2,b3,b4,b5⟩:=a1.fp;have I11:Inv Y lR σ H1 { s1 with heap:=s1.heap.update D (dA (·.push yv)) }:=J1.turned (t':=s1.toks) k10 b0 b1 b3 b4 b5;have e1:lU.toArray.push yv=(lU++[yv]).toArray:=by simp
 rw [e1] at q;refine k _ (ys++[y]) (lU++[yv]) _ H1 I11 ⟨a1.fp,q,a1.vals.append (.cons r1 .nil),?_⟩ q1;rw [aA,ju];lia
section
variable {Y:Cx} {D:Addr} {js js':List Nat} {elt:Expr} {gens:List Comprehension} {scope:Scope} {pos:Pos} {d:Nat} {tg:Expr} {ifs:List Expr} {p:Pos} {mk:Sem Fin→Sem Fin} {g:TG} {ts:TT} {tm:TM}
def zb9 (tg:Expr) (ifs:List Expr) (p:Pos) (mk:Sem Fin→Sem Fin) (c:Code) (it:Value) (env:Env):Sem Fin :=
 standAt p >>= fun _=>pyNext it >>= fun r=>match r with
  | none=>pure (.done .next)
  | some v=>letOwnedTupleGo tg it v >>= fun _=>assign tg env v >>= fun _=>zij ifs env >>= fun ok=>if ok=true then mk (again c) else again c
theorem zjb (hc:Y.calm=true) (hx:Y.xe=fun _ _=>False) (wV:GS js g) (pC:∀ j∈js,j∉js') (hg:PG Y tg g) (ht:zdc Y ifs ts) (hm:PM Y D js' mk tm)
  (pd:∀ it,compTurn (.ListComp elt gens scope pos) d it (.ref D) Y.env=zb9 tg ifs p mk (.compLoop (.ListComp elt gens scope pos) d it (.ref D) Y.env) it Y.env)
  {lR:List (Addr×Obj)} {σ:St} {H2:Hp} {s2:Shared} {it:Addr} {fp:List Addr} {tn:Nat→Heap→Prop} {J:It} {Q:List V→Hp→Prop} {R:Result→Shared→Prop} {ys:List V} {lU:List Value} {nn:Nat}
  (I2:Inv Y lR σ H2 s2) (a2:AccAt Y lR H2 s2 D ys lU nn) (no:zgk (js++js') σ) (T:Turn Y.prog Y.w Y.K tg J fp it tn) (mQ:tn 0 s2.heap) (f2:∀ b∈fp,zbP Y lR H2 b) (fD:∀ b∈fp,b≠D) (q:cIn g ts tm σ J Q ys H2)
  (hR:∀ (s':Shared) (sJ:List V) (its':List Value) (yf:Nat) (H':Hp),Inv Y lR σ H' s'→AccAt Y lR H' s' D sJ its' yf→Q sJ H'→R (.ok .next) s') :
  codeAny (model Y.prog Y.w) Y.A (.compLoop (.ListComp elt gens scope pos) d (.ref it) (.ref D) Y.env) R s2:=by
 obtain⟨W,⟨m0,w0⟩,turn⟩:=q;have yW:∀ {H':Hp} {lU:List Value} {nn:Nat},(∀ b∈fp,H' b=none)→∀ b∈fp,zbP Y (lR++[(D,zd6 lU nn)]) H' b:=fun {H' lU nn} hn b hb=>by
  obtain⟨_,a1,a2,a3,a4,a5⟩:=f2 b hb;refine⟨hn b hb,a1,a2,a3,a4,fun p hp=>?_⟩;rcases (bi.mp hp) with hp | hp
  ·exact a5 p (ba _ hp)
  ·rcases (bi.mp hp) with hp | hp
   ·exact a5 p (aP _ hp)
   ·obtain rfl:p=(D,zd6 lU nn):=by simpa using hp
    exact (fD b hb).symm
 refine codeAny_loop rfl (fun n s'=>∃ i ys H' lU nn,Inv Y lR σ H' s'∧tn i s'.heap∧(∀ b∈fp,H' b=none)∧AccAt Y lR H' s' D ys lU nn∧W i n ys H') ?_ m0
  ⟨0,ys,H2,lU,nn,I2,mQ,fun b hb=>(f2 b hb).1,a2,w0⟩
 rintro n s5 ⟨i,ys,H5,lU,nn,I5,yU,B1,a5,w5⟩;show wpAny _ Y.A ((compTurn (.ListComp elt gens scope pos) d (.ref it) (.ref D) Y.env).onRaise (fun x=>do noteFrame x Y.env; theTreesLotGoes x)) _ _ s5;refine wpAny_noted ?_;rw [pd];unfold zb9;have I5p:=a5.pin I5
 (refine ae (fM (ae ?_)))
 rcases turn i n ys H5 w5 with ⟨stop,qn⟩ | ⟨go,N,hN,step⟩
 ·refine c7 (T.done Y rfl rfl rfl hc i _ s5 _ H5 (fun _ _=>False) I5p (yW B1) yU stop) (fun r s6 ⟨hr,I6⟩=>?_) fun _ _ z=>z.elim
  subst hr;exact ak (hR s6 ys lU nn H5 (I6.fewer fun p hp=>ba _ hp) (a5.back I6 (aP _ aV)) qn)
 ·refine c7 (T.item Y rfl rfl rfl hc i _ s5 _ H5 (fun _ _=>False) I5p (yW B1) yU go) (fun r s6 ⟨u,hr,h6⟩=>?_) fun _ _ z=>z.elim
  subst hr;refine ae (c7 h6 (fun _ s7 ⟨x,H7,I7,r7,y7,C7,fr7⟩=>?_) fun _ _ z=>z.elim);have I7':=I7.pinned (yW fr7) (T.obj _ _ C7);refine ae (thx hx (hg _ s7 _ H7 x u _ I7' r7 (wV σ σ x H7 _ Kp.refl (step x H7 y7))) fun _ s8 ⟨σ8,H8,I8,kp,q8⟩=>?_);refine ae (thx hx (ht _ s8 σ8 H8 _ I8 q8) fun ok s9 ⟨H9,I9,q9⟩=>?_);have mD:(D,zd6 lU nn)∈(lR++[(D,zd6 lU nn)])++zco fp s7.heap:=ba _ (aP _ aV);have a9:=a5.back I9 mD;have K9:Inv Y (lR++zco fp s7.heap) σ8 H9 s9:=I9.fewer fun p hp=>(bi.mp hp).elim (fun z=>ba _ (ba _ z)) fun z=>aP _ z
  have wk:∀ (j:Nat) v,σ[j]? = some (some v)→σ8[j]? = some (some v):=fun j v e=>by
   have hj:j∉js:=fun z=>no j (ba _ z) v e
   rw [kp.2 j hj];exact e
  have back:∀ {H':Hp} {s':Shared},Inv Y (lR++zco fp s7.heap) σ8 H' s'→Inv Y lR σ H' s'∧tn (i+1) s'.heap∧∀ b∈fp,H' b=none:=fun {H' s'} I'=>by
   refine⟨(I'.fewer fun p hp=>ba _ hp).weak kp.1.symm wk,T.keep _ _ _ C7 fun b hb o e=>(I'.pin (b,o) (aP _ (aP _ (zb6 hb e)))).1,fun b hb=>?_⟩;obtain⟨o,e,d⟩:=T.obj _ _ C7 b hb;exact (I'.pin (b,o) (aP _ (aP _ (zb6 hb e)))).2.1
  cases ok with
  | false =>
   rw [if_neg aR] at q9 ⊢;obtain⟨m',Au,w9⟩:=hN _ _ q9;obtain⟨b1,b2,b3⟩:=back K9;exact ak ⟨rfl,m',Au,i+1,ys,H9,lU,nn,b1,b2,b3,a9,w9⟩
  | true =>
   rw [if_pos rfl] at q9 ⊢;have a9':AccAt Y (lR++zco fp s7.heap) H9 s9 D ys lU nn:=by
    obtain⟨b0,b1,b2,b3,b4,b5⟩:=a9.fp;refine⟨⟨b0,b1,b2,b3,b4,fun p hp=>?_⟩,a9.here,a9.vals,a9.len⟩;rcases (bi.mp hp) with hp | hp
    ·exact b5 p (ba _ hp)
    ·rcases (bi.mp hp) with hp | hp
     ·exact b5 p (aP _ hp)
     ·exact fD _ (zfy hp).1
   have no':zgk js' σ8:=fun j hj v e=>by
    have pD:j∉js:=fun z=>pC j z hj
    rw [kp.2 j pD] at e;exact no j (aP _ hj) v e
   refine c7 (hm (again _) _ s9 σ8 H9 ys lU nn N (fun fin s'=>match fin with | .done f=>R (.ok f) s' | .again c'=>c'=_∧∃ m,m < n∧_) K9 a9' no' q9 fun s' sJ its' yf H' I' a' n'=>?_) (fun _ _ z=>z) fun _ _ z=>z.elim
   obtain⟨m',Au,w'⟩:=hN _ _ n';obtain⟨b1,b2,b3⟩:=back I';obtain⟨c0,c1,c2,c3,c4,c5⟩:=a'.fp;refine ak ⟨rfl,m',Au,i+1,sJ,H',its',yf,b1,b2,b3,⟨⟨c0,c1,c2,c3,c4,fun p hp=>?_⟩,a'.here,a'.vals,a'.len⟩,w'⟩;rcases (bi.mp hp) with hp | hp
   ·exact c5 p (ba _ hp)
   ·exact c5 p (aP _ (ba _ hp))
theorem zhn {prog:Program} {w:World} {A:Around} {R:Result→Shared→Prop} {s:Shared} {iter:Expr} {it acc:Value} {env:Env} (hd:gens[d]? = some ⟨tg,iter,ifs,0⟩)
  (h0:codeAny (model prog w) A (.compLoop (.ListComp elt gens scope pos) d it acc env) R s)
  (h:wpAny (model prog w) A (pyIter it) (fun C8 s'=>codeAny (model prog w) A (.compLoop (.ListComp elt gens scope pos) d C8 acc env) R s') (fun _ _=>False) s) :
  codeAny (model prog w) A (.compStart (.ListComp elt gens scope pos) d it acc env) R s:=by
 refine codeAny_of_tree ?_;show wpAny _ _ ((compStart (.ListComp elt gens scope pos) d it acc env).onRaise (fun x=>do noteFrame x env; standAt theWindowsPlace)) _ _ s;refine wpAny_notedAt ?_;unfold compStart;have e1:(clausesOf (.ListComp elt gens scope pos))[d]? = some ⟨tg,iter,ifs,0⟩:=hd;rw [e1]
 (show wpAny _ _ (ask >>= _) _ _ s)
 (refine ae (wpAny_askSetting (wpAny_ite ?_)))
 split
 ·first
   | (exact ae (ak (ak ⟨rfl,h0⟩)))
   | (exact ak ⟨rfl,h0⟩)
 ·first
   | exact ae (cr (ae (fM (ae (c7 h (fun C8 s' h'=>ak (And.intro rfl h')) fun _ _ x=>x.elim)))))
   | (refine ae (cr ?_); show wpAny _ _ (standAt iter.pos >>= _) _ _ s; exact ae (fM (ae (c7 h (fun C8 s' h'=>ak (And.intro rfl h')) fun _ _ x=>x.elim))))
theorem zoL {iter:Expr} {wi:TI} (hc:Y.calm=true) (hx:Y.xe=fun _ _=>False) (wV:GS js g) (pC:∀ j∈js,j∉js') (hi:PI Y tg iter wi) (hg:PG Y tg g) (ht:zdc Y ifs ts) (hm:PM Y D js' mk tm) (hd:gens[d]? = some ⟨tg,iter,ifs,0⟩)
  (pd:∀ it,compTurn (.ListComp elt gens scope pos) d it (.ref D) Y.env=zb9 tg ifs p mk (.compLoop (.ListComp elt gens scope pos) d it (.ref D) Y.env) it Y.env)
  (hs:∀ x,foldedSetIterable iter Y.env x=pure x:=by intro _; rfl) :
  PM Y D (js++js') (zi8 (.ListComp elt gens scope pos) iter d (.ref D) Y.env) (zja wi g ts tm):=by
 intro last lR s σ H ys lU nn Q Φ I a no h k;unfold zi8;refine ae (thx hx (hi (lR++[(D,zd6 lU nn)]) s σ H _ (a.pin I) h) fun v s1 h1=>ae (fM (ae ?_)));rw [hs v];refine ak (ae (bV (thx hx h1 fun xX s2 h2=>?_)));obtain⟨it,fp,tn,J,H2,e,I2,T,mQ,f2,q⟩:=h2;subst e;have a2:=a.back I2 (aP _ aV);have J2:Inv Y lR σ H2 s2:=I2.fewer fun p hp=>ba _ hp
 have C9:∀ b∈fp,zbP Y lR H2 b:=fun b hb=>by
  obtain⟨c0,c1,c2,c3,c4,c5⟩:=f2 b hb;refine⟨c0,c1,c2,c3,c4,fun p hp=>?_⟩;rcases (bi.mp hp) with hp | hp
  ·exact c5 p (ba _ hp)
  ·exact c5 p (aP _ (ba _ hp))
 have fD:∀ b∈fp,b≠D:=fun b hb=>((f2 b hb).2.2.2.2.2 (D,zd6 lU nn) (aP _ (aP _ aV))).symm
 have loop:codeAny (model Y.prog Y.w) Y.A (.compLoop (.ListComp elt gens scope pos) d (.ref it) (.ref D) Y.env) (fun r s'=>match r with | .ok f=>wpAny (model Y.prog Y.w) Y.A last Φ (fun _ _=>False) s' | .error e=>cameBackBy (model Y.prog Y.w) Y.A Y.env (fun _ _=>False) e s') s2 :=
  zjb hc hx wV pC hg ht hm pd J2 a2 no T mQ C9 fD q fun s' sJ its' yf H' I' a' q'=>k s' sJ its' yf H' I' a' q'
 exact ae (wpAny_runOwn (zhn hd loop (T.self _ 0 _ _ _ mQ loop)))
end
section
variable {X:Cx} {elt tg iter:Expr} {ifs:List Expr} {gs:List Comprehension} {scope:Scope} {pos:Pos} {N':List Str} {ix:List (Option Nat)} {js js':List Nat} {g:TG} {ts:TT} {tm:TM} {mk:Addr→Env→Sem Fin→Sem Fin}
theorem zdU {lR:List (Addr×Obj)} {σ:St} {H2:Hp} {s2:Shared} {it:Addr} {fp:List Addr} {tn:Nat→Heap→Prop} {J:It} {Q:VK} {E:Value→Shared→Prop} {RR:Value→Addr→Result→Shared→Prop}
  (SC:CompSc X N' ix scope) (hc:X.calm=true) (wV:GS js g) (pC:∀ j∈js,j∉js') (tL:∀ j∈js++js',ix[j]? = some none)
  (hg:∀ s₃ H₃ ex lR,PG (zF X N' scope s₃ H₃ ex lR) tg g) (ht:∀ s₃ H₃ ex lR,zdc (zF X N' scope s₃ H₃ ex lR) ifs ts) (hm:∀ s₃ H₃ ex lR D,PM (zF X N' scope s₃ H₃ ex lR) D js' (mk D (zF X N' scope s₃ H₃ ex lR).env) tm)
  (pd:∀ it D env,compTurn (.ListComp elt (⟨tg,iter,ifs,0⟩ :: gs) scope pos) 0 it (.ref D) env=zb9 tg ifs iter.pos (mk D env) (.compLoop (.ListComp elt (⟨tg,iter,ifs,0⟩ :: gs) scope pos) 0 it (.ref D) env) it env)
  (I2:Inv X lR σ H2 s2) (T:Turn X.prog X.w X.K tg J fp it tn) (mQ:tn 0 s2.heap) (f2:∀ b∈fp,zbP X lR H2 b) (q:cIn g ts tm (zdd ix σ) J (fun ys H'=>∀ D,H' D=none→Q (.ref D) (lW H' D (.lst ys))) [] H2)
  (hRR:∀ (D C:Addr) (s':Shared) (ys:List V) (H':Hp) (m:Str→Option Value),Inv X lR σ (lW H' D (.lst ys)) s'→zbP X lR (lW H' D (.lst ys)) C→s'.heap.Ns C m→Q (.ref D) (lW H' D (.lst ys))→RR (.ref D) C (.ok .next) s') :
  wpAny (model X.prog X.w) X.A (newList []) (fun acc s₃=>wpAny (model X.prog X.w) X.A (newFunctionEnv scope X.env.globals (zad X.env.cells scope.names []) [] X.env.qual none .none (some X.env)) (fun Av s₄ =>
   codeAny (model X.prog X.w) X.A (.compStart (.ListComp elt (⟨tg,iter,ifs,0⟩ :: gs) scope pos) 0 (.ref it) acc { Av with scope:=relabel scope X.env }) (RR acc Av.locals) s₄) E s₃) E s2:=by
 have wW:∀ y∈scope.names,y.2 = .free→∃ c,X.env.cells.lookup y.1=some c:=fun y hy hf=>I2.ok.has y.1 (SC.free y hy hf)
 have vz:∀ x c,(zad X.env.cells scope.names []).lookup x=some c→X.env.cells.lookup x=some c:=zbQ scope.names [] wW (fun x c e=>by simp at e);refine cE (zj2 ?_);have I3:Inv X lR σ H2 { s2 with heap:=s2.heap.push { cls:=.type "list",dict:=none,data:=.seq ([]:List Value).toArray } }:=I2.kept (t':=s2.toks) fun b o e=>aj _ e
 have wy:(s2.heap.push { cls:=.type "list",dict:=none,data:=.seq ([]:List Value).toArray }).get? s2.heap.objs.size=some { cls:=.type "list",dict:=none,data:=.seq ([]:List Value).toArray }:=aB _ rfl;have Aw:tn 0 (s2.heap.push { cls:=.type "list",dict:=none,data:=.seq ([]:List Value).toArray }):=T.keep _ _ _ mQ fun b hb o e=>aj _ e
 have Ax:(s2.heap.push { cls:=.type "list",dict:=none,data:=.seq ([]:List Value).toArray }).objs.size=s2.heap.objs.size+1:=bM _ _;generalize hh3:s2.heap.push { cls:=.type "list",dict:=none,data:=.seq ([]:List Value).toArray }=h3 at *;have C':=T.obj _ _ mQ;have xH:∀ b∈fp,b < s2.heap.objs.size:=fun b hb=>by obtain⟨o,e,_⟩:=C' b hb; exact aF e
 have stk:∀ b∈frs X.stack,b=X.env.locals∨b∈X.fs:=fun b hb=>aH.mp (I2.stkSub b hb)
 have Ay:zbP X lR H2 s2.heap.objs.size:=I2.fpOk (ag _) I2.fresh;have uK:∀ b∈s2.heap.objs.size :: fp,zbP X lR H2 b:=fun b hb=>by
  rcases (aH.mp hb) with e | hb
  ·rw [e]; exact Ay
  ·exact f2 b hb
 have yg:∀ b∈s2.heap.objs.size :: fp,b < h3.objs.size:=fun b hb=>by
  rw [Ax];rcases (aH.mp hb) with e | hb; · rw [e]; exact kS _
  ·exact d8 (xH b hb)
 have xI:∀ b∈s2.heap.objs.size :: fp,b∉frs X.stack:=fun b hb z=>by
  obtain⟨_,a1,a2,_⟩:=uK b hb;rcases stk b z with e | e
  ·exact a1 e
  ·exact a2 e
 have hns₁:(pushCells (h3.push { cls:=.type "dict",data:=.dict #[] }) scope.names).Ns h3.objs.size (fun _=>none):=(Heap.Ns.new h3 (.type "dict")).keeps (pushCells_keeps _ _);have old:∀ b o,h3.get? b=some o→(pushCells (h3.push { cls:=.type "dict",data:=.dict #[] }) scope.names).get? b=some o:=fun b o e=>pushCells_keeps _ _ b o (aj _ e)
 have Dc:∀ x c,X.env.cells.lookup x=some c→c < h3.objs.size:=fun x c e=>by
  obtain⟨v,q⟩:=I3.cell x c e;exact q.lt
 have co:CO (pushCells (h3.push { cls:=.type "dict",data:=.dict #[] }) scope.names) (h3.objs.size+1) (zad X.env.cells scope.names []) (cellsFrom (h3.objs.size+1) scope.names (zad X.env.cells scope.names [])):=by
  have:=zk6 (lo:=h3.objs.size+1) (old:=zad X.env.cells scope.names []) scope.names (h3.push { cls:=.type "dict",data:=.dict #[] }) (zad X.env.cells scope.names [])
   ⟨fun x c e=>.inr ⟨e,d8 (Dc x c (vz x c e))⟩,fun x y c e1 e2=>I2.ok.inj x y c (vz x c e1) (vz y c e2)⟩ (by rw [bM]; exact ag _)
  rw [bM] at this;exact this
 generalize pushCells (h3.push { cls:=.type "dict",data:=.dict #[] }) scope.names=h₁ at hns₁ old co ⊢;have Dd:∀ {x c},(cellsFrom (h3.objs.size+1) scope.names (zad X.env.cells scope.names [])).lookup x=some c→(h₁.IsCell c none∧h3.objs.size+1≤c)∨X.env.cells.lookup x=some c:=fun {x c} e=>(co.each x c e).elim .inl fun z=>.inr (vz x c z.1)
 have cfr:∀ x,scope.names.lookup x=some .free→(cellsFrom (h3.objs.size+1) scope.names (zad X.env.cells scope.names [])).lookup x=(zad X.env.cells scope.names []).lookup x:=fun x hx=>zgi _ _ _ _ fun z=>by
  have:=SC.cells _ z rfl;rw [hx] at this;cases this
 let s3:Shared:={ s2 with heap:=h3 }
 let Y:Cx:=zF X N' scope s3 H2 (s2.heap.objs.size :: fp) lR
 have vA:Inv X lR σ H2 s3:=I3;have okY:Y.Ok:=by
  refine⟨I2.ok.mod,SC.kind,I2.ok.glob,I2.ok.blt,ag _,co.inj,fun x hx=>?_,fun x c z e=>?_,I2.ok.hd,I2.ok.frames,.inl rfl,fun b hb=>?_,fun b o e=>vA.bs b o e,?_,fun b o e hb=>?_,xI,vA.stack,vA.stkFree⟩
  ·have uL:=zdb (env:=X.env) (names:=scope.names) (x:=x) hx;rcases uL with uL | uL
   ·obtain⟨c,e⟩:=zb8 (cs:=X.env.cells) scope.names [] x (.inr (lookup_mem uL));exact⟨c,(cfr x uL).trans e⟩
   ·obtain⟨c,e,_⟩:=zgj scope.names (h3.objs.size+1) (zad X.env.cells scope.names []) x (lookup_mem uL);exact⟨c,e⟩
  ·obtain⟨c',e',l'⟩:=zgj scope.names (h3.objs.size+1) (zad X.env.cells scope.names []) x (lookup_mem (by have z':(scope.names.lookup x == some di)=true:=z; simpa using z'));have e2:(cellsFrom (h3.objs.size+1) scope.names (zad X.env.cells scope.names [])).lookup x=some c:=e;rw [e'] at e2;cases e2;exact iM l'
  ·refine⟨bh (yg b hb),fun x c e=>(Dd e).elim (fun z y=>?_) fun z=>(uK b hb).2.2.2.2.1 x c z⟩;subst y;exact cb _ (br (yg _ hb) (iM z.2))
  ·exact aW I2.ok.bsz vA.sz
  ·obtain⟨_,_,_,a3,_⟩:=uK b hb;rcases a3 with z | z
   ·exact I2.ok.noex b o e z
   ·have:=(I2.ok.bs b o e).1;exact absurd (br (aF this) z) (cb _)
 have De:Inv Y [] (zdd ix σ) H2 { s3 with heap:=h₁ }:=by
  refine⟨okY,rfl,I2.bare,Un.kept old,⟨_,hns₁,fun j x v e1 e2 e3=>?_⟩,fun x c e=>?_,vA.fresh,fun x c e=>(Dd e).elim (fun z=>vA.hok.fresh (iM z.2)) fun z=>I2.freeC x c z,fun p hp=>?_,vA.hok.kept old,?_⟩
  ·unfold zdd at e2;rw [af] at e2;cases hj:ix[j]? with
   | none=>rw [hj] at e2; simp at e2
   | some oi =>
    rw [hj] at e2;cases oi with
    | none=>simp at e2
    | some i =>
     obtain⟨y,h1,h2,B7⟩:=SC.cap j i hj;have hxy:y=x:=by
      have e1':N'[j]? = some x:=e1;rw [h1] at e1';exact aS e1'
     subst hxy;have Az:(σ[i]?).join=some v:=by simpa using e2
     have Df:σ[i]? = some (some v):=by
      cases hs:σ[i]? with
      | none=>rw [hs] at Az; simp at Az
      | some w=>rw [hs] at Az; simp at Az; rw [Az]
     obtain⟨m,hn,hl⟩:=vA.loc;have hk:=SC.free (y,.free) (lookup_mem B7) rfl;have Dh:Vis X.env.scope y:=hk.elim (fun z=>.inr (.inl z)) fun z=>.inr (.inr z)
     obtain⟨u,r,l⟩:=hl i y v h2 Df Dh;refine⟨u,r,.inr ⟨zbz B7,?_⟩⟩;obtain⟨c,nV⟩:=zb8 (cs:=X.env.cells) scope.names [] y (.inr (lookup_mem B7));refine⟨c,(cfr y B7).trans nV,?_⟩;rcases l with ⟨vw,_⟩ | ⟨_,c',md,pX⟩
     ·rcases hk with hk | hk
      ·have pB:X.env.kindOf y=some .cell:=hk;rw [pB] at vw; cases vw
      ·have pB:X.env.kindOf y=some .free:=hk;rw [pB] at vw; cases vw
     ·have:=vz y c nV;rw [md] at this;cases this;obtain⟨o,ho,hd⟩:=pX;exact⟨o,old _ _ ho,hd⟩
  ·rcases Dd e with z | z
   ·exact⟨_,z.1⟩
   ·obtain⟨v,o,ho,hd⟩:=vA.cell x c z;exact⟨v,o,old _ _ ho,hd⟩
  ·have rN:p∈X.pn++lR:=by
    have:p∈(X.pn++lR)++([]:List (Addr×Obj)):=hp;simpa using this
   obtain⟨a1,a2,a3,a4,a5⟩:=vA.pin p rN;exact⟨old _ _ a1,a2,bh (aF a1),fun z=>(stk _ z).elim a3 a4,a5⟩
  ·unfold zdd;rw [ab];exact SC.len.symm
 have yW:∀ {H':Hp},(∀ b∈s2.heap.objs.size :: fp,H' b=none)→∀ b∈s2.heap.objs.size :: fp,zbP Y [] H' b:=fun {H'} hn b hb=>by
  obtain⟨_,a1,a2,a3,a4,a5⟩:=uK b hb;refine⟨hn b hb,bh (yg b hb),xI b hb,.inl hb,(okY.exf b hb).2,fun p hp=>?_⟩;have:p∈(X.pn++lR)++([]:List (Addr×Obj)):=hp;exact a5 p (by simpa using this)
 have nn2:∀ b∈s2.heap.objs.size :: fp,H2 b=none:=fun b hb=>(uK b hb).1
 have ya:zgk (js++js') (zdd ix σ):=fun j hj v e=>by
  unfold zdd at e;rw [af,tL j hj] at e;simp at e
 have loop:∀ s₅:Shared,s₅ = { s2 with heap:=h₁ } →
   codeAny (model X.prog X.w) X.A (.compLoop (.ListComp elt (⟨tg,iter,ifs,0⟩ :: gs) scope pos) 0 (.ref it) (.ref s2.heap.objs.size) (compEnvC scope (cellsFrom (h3.objs.size+1) scope.names (zad X.env.cells scope.names [])) h3.objs.size X.env)) (RR (.ref s2.heap.objs.size) h3.objs.size) s₅:=by
  rintro s₅ rfl;refine zjb (Y:=Y) (lR:=[]) (σ:=zdd ix σ) (lU:=[]) (nn:=0) hc rfl wV pC (hg s3 H2 _ lR) (ht s3 H2 _ lR) (hm s3 H2 _ lR s2.heap.objs.size) (fun it=>pd it _ _) De ⟨yW nn2 _ aV,old _ _ wy,.nil,bz _⟩ ya T (T.keep _ _ _ Aw fun b hb o e=>old b o e)
   (fun b hb=>yW nn2 b (aG _ hb)) (fun b hb=>bh (xH b hb)) q fun s6 ys lU nn H5 I6 a6 qn=>?_
  have dn5:H5 s2.heap.objs.size=none:=a6.fp.1;have I7:Inv X lR σ H5 s6:=by
   refine vA.call' (s':=s6) (ch:=s2.heap.objs.size :: fp) I6.os I6.base I6.hok I6.bare fun b hb=>?_
   obtain⟨_,a1,a2,a3,a4,a5⟩:=uK b hb;exact⟨a3,a1,a4,a5⟩
  have I8:Inv X lR σ (lW H5 s2.heap.objs.size (.lst ys)) s6:=by
   obtain⟨_,a1,a2,a3,a4,a5⟩:=Ay;exact I7.track dn5 I2.sz (cQ a1) a4 a5 ⟨a6.len,lU,nn,a6.vals,a6.here⟩
  obtain⟨mm,hmm,_⟩:=I6.loc;have dne:h3.objs.size≠s2.heap.objs.size:=by rw [Ax]; exact gL _
  refine hRR _ _ s6 ys H5 mm I8 (vA.fpOk (H':=lW H5 s2.heap.objs.size (.lst ys)) (ag _) ?_) hmm (qn _ dn5);show lW H5 s2.heap.objs.size (.lst ys) h3.objs.size=none;rw [zl dne];exact I6.free
 exact zhn rfl (loop _ rfl) (T.self _ 0 _ _ _ (T.keep _ _ _ Aw fun b hb o e=>old b o e) (loop _ rfl))
theorem zho {wi:TI} (SC:CompSc X N' ix scope) (hc:X.calm=true) (wV:GS js g) (pC:∀ j∈js,j∉js') (tL:∀ j∈js++js',ix[j]? = some none) (hi:PI X tg iter wi)
  (hg:∀ s₃ H₃ ex lR,PG (zF X N' scope s₃ H₃ ex lR) tg g) (ht:∀ s₃ H₃ ex lR,zdc (zF X N' scope s₃ H₃ ex lR) ifs ts) (hm:∀ s₃ H₃ ex lR D,PM (zF X N' scope s₃ H₃ ex lR) D js' (mk D (zF X N' scope s₃ H₃ ex lR).env) tm)
  (pd:∀ it D env,compTurn (.ListComp elt (⟨tg,iter,ifs,0⟩ :: gs) scope pos) 0 it (.ref D) env=zb9 tg ifs iter.pos (mk D env) (.compLoop (.ListComp elt (⟨tg,iter,ifs,0⟩ :: gs) scope pos) 0 it (.ref D) env) it env)
  (hs:∀ x,foldedSetIterable iter X.env x=pure x:=by intro _; rfl):PE X (.ListComp elt (⟨tg,iter,ifs,0⟩ :: gs) scope pos) (zgm ix wi g ts tm):=by
 intro lR s σ H Q I h;rw [eval_ListComp];have wW:∀ y∈scope.names,y.2 = .free→∃ c,X.env.cells.lookup y.1=some c:=fun y hy hf=>I.ok.has y.1 (SC.free y hy hf)
 refine iW (use:=none) rfl hs (zcV wW) SC.kind SC.names (thn (hi lR s σ H _ I h) fun v s1 h1=>thn h1 fun xX s2 h2=>?_);obtain⟨it,fp,tn,J,H2,e,I2,T,mQ,f2,q⟩:=h2;subst e;refine zdU (RR:=fun acc C=>compPost (model X.prog X.w) X.A X.xe none (EP X lR σ Q) acc C) SC hc wV pC tL hg ht hm pd I2 T mQ f2 q ?_;intro D C s' ys H' m I' Di hm q';refine⟨m,hm,fun vB nL=>⟨.ref D,_,?_,rfl,q'⟩⟩;obtain⟨f0,f1,C9,f3,f4,f5⟩:=Di;exact I'.turned (t':=s'.toks) (fun b o hb e=>nL.extBut b o hb e) f0 f1 f3 f4 f5
theorem zdV {wi:TI} {i:Nat} {x:Str} {pos' qm:Pos} (hN:X.N.Nodup) (wX:X.N[i]? = some x) (hx:Loc X.env.scope x) (SC:CompSc X N' ix scope) (hc:X.calm=true) (wV:GS js g) (pC:∀ j∈js,j∉js') (tL:∀ j∈js++js',ix[j]? = some none) (hi:PI X tg iter wi)
  (hg:∀ s₃ H₃ ex lR,PG (zF X N' scope s₃ H₃ ex lR) tg g) (ht:∀ s₃ H₃ ex lR,zdc (zF X N' scope s₃ H₃ ex lR) ifs ts) (hm:∀ s₃ H₃ ex lR D,PM (zF X N' scope s₃ H₃ ex lR) D js' (mk D (zF X N' scope s₃ H₃ ex lR).env) tm)
  (pd:∀ it D env,compTurn (.ListComp elt (⟨tg,iter,ifs,0⟩ :: gs) scope pos) 0 it (.ref D) env=zb9 tg ifs iter.pos (mk D env) (.compLoop (.ListComp elt (⟨tg,iter,ifs,0⟩ :: gs) scope pos) 0 it (.ref D) env) it env)
  (AA:swapsWith (.ListComp elt (⟨tg,iter,ifs,0⟩ :: gs) scope pos) (some (.Name x pos')) qm.line X.env=pure true:=by rfl)
  (hs:∀ x,foldedSetIterable iter X.env x=pure x:=by intro _; rfl) (hf:X.fn x=true∨X.env.scope.names.lookup x=some .local:=by first | exact .inl rfl | exact .inr rfl | assumption) :
  PS X (.Assign [.Name x pos'] (.ListComp elt (⟨tg,iter,ifs,0⟩ :: gs) scope pos) qm) (zic (zgm ix wi g ts tm) (zaO i)):=by
 intro lR s σ H D I h;have wW:∀ y∈scope.names,y.2 = .free→∃ c,X.env.cells.lookup y.1=some c:=fun y hy hf=>I.ok.has y.1 (SC.free y hy hf)
 rw [exec_Assign_Name_used _ _ _ _ AA]; refine ae (fM (ae ?_));show wpAny _ X.A (do let _ ← comprehension (.ListComp elt (⟨tg,iter,ifs,0⟩ :: gs) scope pos) scope X.env _ (newList []) false (eval iter X.env) (some (assign (.Name x pos') X.env))) _ _ s;refine ae (c7 (iW (use:=some (assign (.Name x pos') X.env)) (Q:=fun _ s'=>SP X lR D .next s') rfl hs (zcV wW) SC.kind SC.names
  (thn (hi lR s σ H _ I h) fun v s1 h1=>thn h1 fun xX s2 h2=>?_)) (fun _ s' hq=>ak (ak hq)) fun _ _ e=>e)
 obtain⟨it,fp,tn,J,H2,e,I2,T,mQ,f2,q⟩:=h2;subst e;refine zdU (Q:=fun x H1=>zaO i x σ H1 D.nx) (RR:=fun acc C=>compPost (model X.prog X.w) X.A X.xe (some (assign (.Name x pos') X.env)) (fun _ s'=>SP X lR D .next s') acc C) SC hc wV pC tL hg ht hm pd I2 T mQ f2 q ?_;intro Da C s' ys H' m I' Di hm q';show wpAny _ X.A (assign (.Name x pos') X.env (.ref Da)) _ _ _;refine wpAny_assign_Name (zfw I' hN wX hx (show RelV (.ref Da) (.ref Da) from rfl) (fun Ak I'' ⟨a,nM,ha⟩=>?_) hf);obtain⟨f0,f1,C9,f3,f4,f5⟩:=Di;have hCa:C≠a:=by
  rcases ha with e | e
  ·rw [e]; exact f1
  ·exact cQ (f4 x a e)
 refine⟨m,hm.sameBut nM hCa,fun h₃ hs₃=>⟨_,_,?_,q'⟩⟩;exact I''.turned (t':=Ak.toks) (fun b o hb e=>hs₃.extBut b o hb e) f0 f1 f3 f4 f5
end
theorem zk7 {elt t1 i1 t2 i2:Expr} {f1 f2:List Expr} {scope:Scope} {pos:Pos} (it:Value) (D:Addr) (env:Env):compTurn (.ListComp elt [⟨t1,i1,f1,0⟩,⟨t2,i2,f2,0⟩] scope pos) 0 it (.ref D) env =
  zb9 t1 f1 i1.pos (zi8 (.ListComp elt [⟨t1,i1,f1,0⟩,⟨t2,i2,f2,0⟩] scope pos) i2 1 (.ref D) env) (.compLoop (.ListComp elt [⟨t1,i1,f1,0⟩,⟨t2,i2,f2,0⟩] scope pos) 0 it (.ref D) env) it env:=by rfl
theorem zoM {elt t1 i1 t2 i2:Expr} {f1 f2:List Expr} {scope:Scope} {pos:Pos} (it:Value) (D:Addr) (env:Env):compTurn (.ListComp elt [⟨t1,i1,f1,0⟩,⟨t2,i2,f2,0⟩] scope pos) 1 it (.ref D) env =
  zb9 t2 f2 i2.pos (zfI elt (.ref D) env) (.compLoop (.ListComp elt [⟨t1,i1,f1,0⟩,⟨t2,i2,f2,0⟩] scope pos) 1 it (.ref D) env) it env:=by rfl
def zdJ (ix:List (Option Nat)):List Nat:=(au ix.length).filter fun j=>ix[j]? == some none
theorem zca {ix:List (Option Nat)} {i:Nat}:i∈zdJ ix↔ix[i]? = some none:=by
 unfold zdJ;rw [bv,aJ,beq_iff_eq];exact⟨fun h=>h.2,fun h=>⟨(aw.mp h).1,h⟩⟩
def GK (ix:List (Option Nat)) (g:TG):Prop:=GS (zdJ ix) g
def GKs (ix:List (Option Nat)) (g:TGs):Prop:=GSs (zdJ ix) g
theorem z9 {ix:List (Option Nat)} {i:Nat} (hi:ix[i]? = some none):GK ix (zaO i):=zef (zca.2 hi)
theorem zal {ix:List (Option Nat)}:GKs ix zib:=zeg
theorem zp {ix:List (Option Nat)} {i:Nat} {u:TGs} (hi:ix[i]? = some none) (h2:GKs ix u):GKs ix (zbX (zaO i) u):=zbF (zca.2 hi) h2
theorem zaD {ix:List (Option Nat)} {K:ah} {n:Nat} {t:TGs} (h:GKs ix t):GK ix (zhe K n t):=zgl h
theorem zj3 {ix:List (Option Nat)} {g:TG} {u:TGs} (h1:GK ix g) (h2:GKs ix u) (mono:∀ (x:V) (σ:St) (H:Hp) (Q Q':St→Hp→Prop),(∀ σ' H',Q σ' H'→Q' σ' H')→g x σ H Q→g x σ H Q'):GKs ix (zbX g u):=fun σ σ1 xs H Q hw h=>by
 obtain⟨v,r,e,h⟩:=h;refine⟨v,r,e,mono v σ1 H _ _ (fun σ' H' q=>?_) (h1 σ σ1 v H _ hw h)⟩;exact h2 σ σ' r H' Q q.1 q.2
theorem zn7 {elt t1 i1:Expr} {f1:List Expr} {scope:Scope} {pos:Pos} (it:Value) (D:Addr) (env:Env):compTurn (.ListComp elt [⟨t1,i1,f1,0⟩] scope pos) 0 it (.ref D) env =
  zb9 t1 f1 i1.pos (zfI elt (.ref D) env) (.compLoop (.ListComp elt [⟨t1,i1,f1,0⟩] scope pos) 0 it (.ref D) env) it env:=by rfl
section
variable {X:Cx} {elt tg iter:Expr} {ifs:List Expr} {scope:Scope} {pos:Pos} {N':List Str} {ix:List (Option Nat)} {g:TG} {ts:TT} {te:TE}
theorem zD {wi:TI} (SC:CompSc X N' ix scope) (hc:X.calm=true) (hk:GK ix g) (hi:PI X tg iter wi)
  (hg:∀ s₃ H₃ ex lR,PG (zF X N' scope s₃ H₃ ex lR) tg g) (ht:∀ s₃ H₃ ex lR,zdc (zF X N' scope s₃ H₃ ex lR) ifs ts) (he:∀ s₃ H₃ ex lR,PE (zF X N' scope s₃ H₃ ex lR) elt te)
  (hs:∀ x,foldedSetIterable iter X.env x=pure x:=by intro _; rfl):PE X (.ListComp elt [⟨tg,iter,ifs,0⟩] scope pos) (zn6 ix wi g ts te) :=
 zho (mk:=fun D env=>zfI elt (.ref D) env) (js:=zdJ ix) (js':=[]) SC hc hk (fun _ _ h=>nomatch h) (fun j h=>zca.1 (by simpa using h)) hi hg ht (fun s₃ H₃ ex lR D=>zil rfl (he s₃ H₃ ex lR)) (fun _ _ _=>zn7 _ _ _) hs
theorem zbG {wi:TI} {i:Nat} {x:Str} {pos' qm:Pos} (hN:X.N.Nodup) (wX:X.N[i]? = some x) (hx:Loc X.env.scope x) (SC:CompSc X N' ix scope) (hc:X.calm=true) (hk:GK ix g) (hi:PI X tg iter wi)
  (hg:∀ s₃ H₃ ex lR,PG (zF X N' scope s₃ H₃ ex lR) tg g) (ht:∀ s₃ H₃ ex lR,zdc (zF X N' scope s₃ H₃ ex lR) ifs ts) (he:∀ s₃ H₃ ex lR,PE (zF X N' scope s₃ H₃ ex lR) elt te)
  (AA:swapsWith (.ListComp elt [⟨tg,iter,ifs,0⟩] scope pos) (some (.Name x pos')) qm.line X.env=pure true:=by rfl)
  (hs:∀ x,foldedSetIterable iter X.env x=pure x:=by intro _; rfl) (hf:X.fn x=true∨X.env.scope.names.lookup x=some .local:=by first | exact .inl rfl | exact .inr rfl | assumption) :
  PS X (.Assign [.Name x pos'] (.ListComp elt [⟨tg,iter,ifs,0⟩] scope pos) qm) (zic (zn6 ix wi g ts te) (zaO i)) :=
 zdV (mk:=fun D env=>zfI elt (.ref D) env) (js:=zdJ ix) (js':=[]) hN wX hx SC hc hk (fun _ _ h=>nomatch h) (fun j h=>zca.1 (by simpa using h)) hi hg ht (fun s₃ H₃ ex lR D=>zil rfl (he s₃ H₃ ex lR)) (fun _ _ _=>zn7 _ _ _) AA hs hf
end
section
variable {X:Cx} {lR:List (Addr×Obj)} {σ:St} {H:Hp} {s:Shared} {h':Heap}
theorem Inv.turnedL {t':Nat} {ch:List Addr} (I:Inv X lR σ H s) (k:∀ b o,b∉ch→s.heap.get? b=some o→h'.get? b=some o) (hf:∀ b∈ch,zbP X lR H b)
  (th:∀ b∈ch,∃ o,h'.get? b=some o):Inv X lR σ H { s with heap:=h',toks:=t' }:=by
 have sH:∀ b u,H b=some u→b∉ch:=fun b u e z=>by rw [(hf b z).1] at e; cases e
 refine I.step (g':=s.gens) (d':=s.drawn) (ch:=ch) (fun b hb=>?_) (fun b o _ _ hc e _=>k b o hc e) (fun b o _ _ hc e _=>⟨o.slots,k b o hc e⟩) (fun _ _ _ _ n=>n)
  (fun b o hc e=>⟨o,k b o hc e⟩) (fun _ _ e=>e) (fun _ _ _ e=>e) (fun b ps e=>⟨#[],by rw [e]; simp⟩) (fun m hm=>?_) (fun b u e=>?_) I.bare
 ·obtain⟨_,a1,_,a3,a4,a5⟩:=hf b hb;exact⟨a3,a1,a4,a5⟩
 ·obtain⟨o,es,ep,ho,r⟩:=hm;exact⟨o,es,ep,k _ o (fun z=>(hf _ z).2.1 rfl) ho,r⟩
 ·refine (I.hok b u e).stay (fun c v hc q=>k c v ?_ q) (fun _ q=>q) fun _ _ q=>q
  rcases hc with z | z
  ·rw [z]; exact sH b u e
  ·exact sH c _ z
theorem Inv.turnedNew {t':Nat} {ch:List Addr} {T:Addr} {o:HO} (I:Inv X lR σ H s) (k:∀ b o,b∉ch→s.heap.get? b=some o→h'.get? b=some o) (hf:∀ b∈ch,zbP X lR H b)
  (th:∀ b∈ch,∃ o,h'.get? b=some o) (hT:s.heap.objs.size≤T) (ok:zao X.prog X.w (lW H T o) h' T o):Inv X lR σ (lW H T o) { s with heap:=h',toks:=t' }:=by
 have I1:Inv X lR σ H { s with heap:=h',toks:=t' }:=I.turnedL k hf th;have hn:H T=none:=I.hok.fresh hT;obtain⟨_,a1,a2,a3,a4,a5⟩:=I.fpOk (H':=H) hT hn;exact I1.track hn (aW I.sz hT) (cQ a1) a4 a5 ok
end
def zk8 (Sq:Hp→Addr→List V→Prop) (a:Addr):It :=
 ⟨fun i H=>∃ xs x,Sq H a xs∧xs[i]? = some x,fun i H x H'=>∃ T v,H T=none∧x = .ref T∧H'=lW H T (.tup [.int i,v])∧∀ xs,Sq H a xs→xs[i]? = some v,fun i H=>∃ xs,Sq H a xs∧xs.length≤i⟩
theorem zbd {h:Heap} {T:Addr} {a b:Value} (e:h.get? T=some { cls:=.type "tuple",data:=.seq #[a,b] }):IsTup h T ([a,b]:List Value).toArray:=⟨_,e,rfl,_,rfl⟩
theorem zaE:2≤sizeLine:=by rw [a7]; decide
theorem zim {P:Program} {w:World} {K:ah} {es:List Expr} {k:Nat} {pos:Pos} (a it e:Addr) (yX:e≠it):Turn P w K (.Tuple es k pos) (zk8 (lT K) a) [e,it] e (fun i h=>(∃ old,IsEnum h e it i old)∧h.IsListIter it a i) where
 mem:=by simp
 obj:=fun i h st b hb=>by
  obtain⟨⟨old,he⟩,o,ho,hc,hd⟩:=st;rcases aH.mp hb with z | z
  ·subst z;exact⟨_,he,fun v z=>by cases z⟩
  ·have z:b=it:=by simpa using z
   subst z;exact⟨o,ho,fun v z=>by rw [hd] at z; cases z⟩
 keep:=fun i h h' st kk=>⟨st.1.imp fun old he=>kk e #[M] _ he,st.2.at fun o eo=>kk it #[M] o eo⟩
 item:=by
  intro X hP hw hK hc i lR s σ H E I hf st hg;subst hP hw hK;obtain⟨xs,x,hq,hx⟩:=hg;obtain⟨⟨old,he⟩,hit⟩:=st;obtain⟨lU,rv,p,hz⟩:=I.list hq;obtain⟨u,hu,ru⟩:=rv.get hx;have wA:e < s.heap.objs.size:=aF he;have hits:it < s.heap.objs.size:=by obtain⟨o,ho,_⟩:=hit; exact aF ho
  refine wpAny_pyNext_enum_item he hit p.isList (x:=u) (by simpa using hu) yX fun h' sC sL hT hsz kk=>?_
  have k1:∀ b o,b∉[e,it]→s.heap.get? b=some o→h'.get? b=some o:=fun b o hb eo=>kk b o (fun z=>hb (by simp [z])) (fun z=>hb (by simp [z])) eo
  have wY:∀ b∈[e,it],∃ o,h'.get? b=some o:=fun b hb=>by
   rcases aH.mp hb with z | z
   ·subst z; exact⟨_,sC⟩
   ·have z:b=it:=by simpa using z
    subst z;obtain⟨o,eo,_⟩:=sL;exact⟨o,eo⟩
  have I1:Inv X lR σ (lW H s.heap.objs.size (.tup [.int i,x])) { s with heap:=h',toks:=s.toks+1 } :=
   I.turnedNew k1 hf wY (ag _) ⟨zaE,_,.cons ⟨s.toks,rfl⟩ (.cons ru .nil),zbd hT⟩
  refine⟨_,rfl,fN sC fun vB sM nL=>?_⟩;have fr:∀ b∈[e,it],lW H s.heap.objs.size (.tup [.int i,x]) b=none:=fun b hb=>by
   have mj:b < s.heap.objs.size:=by
    rcases aH.mp hb with z | z
    ·subst z; exact wA
    ·have z:b=it:=by simpa using z
     subst z; exact hits
   rw [zl (bh mj)];exact (hf b hb).1
  have I2:Inv X lR σ (lW H s.heap.objs.size (.tup [.int i,x])) { s with heap:=vB,toks:=s.toks+1 } :=
   Inv.turnedL (s:={ s with heap:=h',toks:=s.toks+1 }) (ch:=[e]) (t':=s.toks+1) I1 (fun b o hb eo=>nL.extBut b o (by simpa using hb) eo) (fun b hb=>by
    have z:b=e:=by simpa using hb
    subst z;exact⟨fr b #[M],(hf b #[M]).2⟩) (fun b hb=>by
    have z:b=e:=by simpa using hb
    subst z;exact⟨_,sM⟩)
  refine⟨.ref s.heap.objs.size,_,I2,rfl,⟨_,x,I.fresh,rfl,rfl,fun ys hy=>by rw [I.list_inj hy hq]; exact hx⟩,⟨⟨_,by simpa using sM⟩,sL.extBut nL.extBut (cQ yX)⟩,fr⟩
 done:=by
  intro X hP hw hK hc i lR s σ H E I hf st hg;subst hP hw hK;obtain⟨xs,hq,hx⟩:=hg;obtain⟨⟨old,he⟩,hit⟩:=st;obtain⟨lU,rv,p,hz⟩:=I.list hq;have hl:=rv.length;obtain⟨f0,f1,f2,f3,f4,f5⟩:=hf it #[M];exact wpAny_pyNext_enum_end (I.ok.hd hc) he hit p.isList (by simp; lia) fun h' eb=>⟨rfl,I.turned (t':=s.toks) (fun b o hb e=>eb b o hb e) f0 f1 f3 f4 f5⟩
 self:=fun _ _ _ _ _ st h=>by
  obtain⟨⟨old,he⟩,_⟩:=st;exact d9 he h
def iEn (Sq:Hp→Addr→List V→Prop) (ta:TA):TI:=fun σ H R=>ta σ H fun vs H1=>∃ a xs,vs = [.ref a]∧Sq H1 a xs∧R (zk8 Sq a) H1
theorem zeE {X:Cx} {es:List Expr} {k:Nat} {oE p pos:Pos} {a:Expr} {ta:TA} (hg:Gl X "enumerate") (hm:X.mg "enumerate" = none) (ha:PA X [a] ta) (hs:starEach [a] X.env = [(false,eval a X.env)]:=by rfl) :
  PI X (.Tuple es k oE) (.Call (.Name "enumerate" p) [a] [] pos) (iEn (lT X.K) ta):=by
 intro lR s σ H R I h;refine Call_ (zaV I hg hm jv (bn (thn (ha pos lR s σ H _ I h) fun us s1 ⟨vs,H1,I1,r1,q1⟩=>?_) hs rfl));obtain⟨l,xs,e,hq,q⟩:=q1;subst e;cases r1 with
 | cons r rr =>
  cases rr;cases r;obtain⟨lU,rv,pl,hz⟩:=I1.list hq;refine call_enumerate_list pl.isList fun h' he hi hsz kk=>?_
  have I2:Inv X lR σ H1 { s1 with heap:=h' }:=I1.kept (t':=s1.toks) kk;refine d9 he ?_; refine⟨_,[s1.heap.objs.size+1,s1.heap.objs.size],_,zk8 (lT X.K) l,H1,rfl,I2,zim l s1.heap.objs.size (s1.heap.objs.size+1) (gL _),⟨⟨_,he⟩,hi⟩,fun b hb=>?_,q⟩;have hle:s1.heap.objs.size≤b:=by
   rcases aH.mp hb with z | z
   ·rw [z]; exact fP _
   ·have z:b=s1.heap.objs.size:=by simpa using z
    rw [z]; exact ag _
  exact I1.fpOk hle (I1.hok.fresh hle)
def zj4 (rn rq:Hp→Addr→List V→Prop) (a b:Addr):It :=
 ⟨fun i H=>∃ xs ys x y,rn H a xs∧rq H b ys∧xs[i]? = some x∧ys[i]? = some y,
  fun i H x H'=>∃ T u v,H T=none∧x = .ref T∧H'=lW H T (.tup [u,v])∧(∀ xs,rn H a xs→xs[i]? = some u)∧∀ ys,rq H b ys→ys[i]? = some v,
  fun i H=>∃ xs ys,rn H a xs∧rq H b ys∧(xs.length≤i∨ys.length≤i)⟩
theorem zj5 {P:Program} {w:World} {K:ah} {es:List Expr} {k:Nat} {pos:Pos} (a b:Addr) (n:Nat) (ha:a < n) (hb:b < n):Turn P w K (.Tuple es k pos) (zj4 (lT K) (lT K) a b) [n+4,n+2,n+3,n,n+1] (n+4)
  (fun i h=>IsZip h (n+4) (n+2) (n+3) .none∧IsPair h (n+2) (.ref n) (.ref (n+1))∧(∃ u v,IsPair h (n+3) u v)∧h.IsListIter n a i∧h.IsListIter (n+1) b i) where
 mem:=by simp
 obj:=fun i h st c hc=>by
  obtain⟨h1,h2,⟨u,v,h3⟩,⟨o4,e4,_,d4⟩,⟨o5,e5,_,d5⟩⟩:=st;simp only [aH,aZ,or_false] at hc;rcases hc with z | z | z | z | z <;> subst z
  ·exact⟨_,h1,fun v z=>by cases z⟩
  ·exact⟨_,h2,fun v z=>by cases z⟩
  ·exact⟨_,h3,fun v z=>by cases z⟩
  ·exact⟨_,e4,fun v z=>by rw [d4] at z; cases z⟩
  ·exact⟨_,e5,fun v z=>by rw [d5] at z; cases z⟩
 keep:=fun i h h' st kk=>by
  obtain⟨h1,h2,⟨u,v,h3⟩,h4,h5⟩:=st;exact⟨kk _ #[M] _ h1,kk _ #[M] _ h2,⟨u,v,kk _ #[M] _ h3⟩,h4.at fun o eo=>kk _ #[M] o eo,h5.at fun o eo=>kk _ #[M] o eo⟩
 item:=by
  intro X hP hw hK hc i lR s σ H E I hf st hg;subst hP hw hK;obtain⟨xs,ys,x,y,pE,n4,hx,hy⟩:=hg;obtain⟨h1,h2,⟨u0,v0,h3⟩,h4,h5⟩:=st;obtain⟨mP,rA,p1,rO⟩:=I.list pE;obtain⟨mJ,rP,p2,tM⟩:=I.list n4;obtain⟨u,hu,ru⟩:=rA.get hx;obtain⟨v,hv,rv⟩:=rP.get hy;have hzs:n+4 < s.heap.objs.size:=aF h1;refine wpAny_pyNext_zip_item (dB ha hb) h1 h2 h3 h4 h5 p1.isList p2.isList (x:=u) (y:=v) (by simpa using hu) (by simpa using hv) fun h' a1 a2 a3 a4 a5 a6 kk=>?_
  have k1:∀ c o,c∉[n+4,n+3,n,n+1]→s.heap.get? c=some o→h'.get? c=some o:=fun c o md eo =>
   kk c o (fun z=>md (by simp [z])) (fun z=>md (by simp [z])) (fun z=>md (by simp [z])) (fun z=>md (by simp [z])) eo
  have sub:∀ c∈[n+4,n+3,n,n+1],c∈[n+4,n+2,n+3,n,n+1]:=fun c md=>by
   simp only [aH,aZ,or_false] at md ⊢;rcases md with z | z | z | z <;> subst z <;> simp
  have wY:∀ c∈[n+4,n+3,n,n+1],∃ o,h'.get? c=some o:=fun c md=>by
   simp only [aH,aZ,or_false] at md;rcases md with z | z | z | z <;> subst z
   ·exact⟨_,a1⟩
   ·exact⟨_,a2⟩
   ·obtain⟨o,e,_⟩:=a3; exact⟨o,e⟩
   ·obtain⟨o,e,_⟩:=a4; exact⟨o,e⟩
  have I1:Inv X lR σ (lW H s.heap.objs.size (.tup [x,y])) { s with heap:=h' } :=
   I.turnedNew (t':=s.toks) k1 (fun c md=>hf c (sub c md)) wY (ag _) ⟨zaE,_,.cons ru (.cons rv .nil),zbd a5⟩
  refine⟨_,rfl,wpAny_letOwnedTupleGo_zip a1 fun vB vO nL=>?_⟩;have fr:∀ c∈[n+4,n+2,n+3,n,n+1],lW H s.heap.objs.size (.tup [x,y]) c=none:=fun c md=>by
   have mj:c < s.heap.objs.size:=by
    simp only [aH,aZ,or_false] at md;rcases md with z | z | z | z | z <;> subst z <;> lia
   rw [zl (bh mj)];exact (hf c md).1
  have I2:Inv X lR σ (lW H s.heap.objs.size (.tup [x,y])) { s with heap:=vB } :=
   Inv.turnedL (s:={ s with heap:=h' }) (ch:=[n+4]) (t':=s.toks) I1 (fun c o md eo=>nL.extBut c o (by simpa using md) eo) (fun c md=>by
    have z:c=n+4:=by simpa using md
    subst z;exact⟨fr _ #[M],(hf _ #[M]).2⟩) (fun c md=>by
    have z:c=n+4:=by simpa using md
    subst z;exact⟨_,vO⟩)
  refine⟨.ref s.heap.objs.size,_,I2,rfl,⟨_,x,y,I.fresh,rfl,rfl,fun zs hz=>by rw [I.list_inj hz pE]; exact hx,fun zs hz=>by rw [I.list_inj hz n4]; exact hy⟩,
   ⟨vO,nL.extBut _ _ (dB ha hb).TIz (kk _ _ (dB ha hb).TIz (dB ha hb).TITO (dB ha hb).TIi1 (dB ha hb).TIi2 h2),⟨_,_,nL.extBut _ _ (dB ha hb).TOz a2⟩,a3.extBut nL.extBut (dB ha hb).i1z,a4.extBut nL.extBut (dB ha hb).i2z⟩,fr⟩
 done:=by
  intro X hP hw hK hc i lR s σ H E I hf st hg;subst hP hw hK;obtain⟨xs,ys,pE,n4,hx⟩:=hg;obtain⟨h1,h2,⟨u0,v0,h3⟩,h4,h5⟩:=st;obtain⟨mP,rA,p1,rO⟩:=I.list pE;obtain⟨mJ,rP,p2,tM⟩:=I.list n4;have uM:=rA.length;have qe:=rP.length;refine wpAny_pyNext_zip_end (I.ok.hd hc) (dB ha hb) h1 h2 h3 h4 h5 p1.isList p2.isList ?_ fun h' kk=>⟨rfl,?_⟩
  ·rcases hx with z | z
   ·exact .inl (by simp; lia)
   ·exact .inr (by simp; lia)
  ·have hth:∀ c∈[n+4,n+3,n,n+1],c∈[n+4,n+2,n+3,n,n+1]:=fun c md=>by
    simp only [aH,aZ,or_false] at md ⊢;rcases md with z | z | z | z <;> subst z <;> simp
   refine I.step (g':=s.gens) (d':=s.drawn) (t':=s.toks) (ch:=[n+4,n+3,n,n+1]) (fun c md=>?_) (fun c o _ _ nV e _=>kk c o (fun z=>nV (by simp [z])) (fun z=>nV (by simp [z])) (fun z=>nV (by simp [z])) (fun z=>nV (by simp [z])) e)
    (fun c o _ _ nV e _=>⟨o.slots,kk c o (fun z=>nV (by simp [z])) (fun z=>nV (by simp [z])) (fun z=>nV (by simp [z])) (fun z=>nV (by simp [z])) e⟩) (fun _ _ _ _ n=>n)
    (fun c o nV e=>⟨o,kk c o (fun z=>nV (by simp [z])) (fun z=>nV (by simp [z])) (fun z=>nV (by simp [z])) (fun z=>nV (by simp [z])) e⟩) (fun _ _ e=>e) (fun _ _ _ e=>e) (fun c ps e=>⟨#[],by rw [e]; simp⟩) (fun m hm=>?_) (fun c u e=>?_) I.bare
   ·obtain⟨_,a1,_,a3,a4,a5⟩:=hf c (hth c md);exact⟨a3,a1,a4,a5⟩
   ·obtain⟨o,vt,ep,ho,r⟩:=hm;have ne:∀ c∈[n+4,n+2,n+3,n,n+1],X.env.locals≠c:=fun c md=>cQ (hf c md).2.1
    exact⟨o,vt,ep,kk _ o (ne _ #[M]) (ne _ #[M]) (ne _ #[M]) (ne _ #[M]) ho,r⟩
   ·have sH:∀ d u',H d=some u'→∀ c∈[n+4,n+2,n+3,n,n+1],d≠c:=fun d u' e' c md z=>by rw [z,(hf c md).1] at e'; cases e'
    refine (I.hok c u e).stay (fun d v' hd q=>kk d v' ?_ ?_ ?_ ?_ q) (fun _ q=>q) fun _ _ q=>q
    all_goals
     rcases hd with z | z
     ·rw [z]; exact sH c u e _ #[M]
     ·exact sH d _ z _ #[M]
 self:=fun _ _ _ _ _ st h=>gM st.1 h
def iZp (rn rq:Hp→Addr→List V→Prop) (ta:TA):TI:=fun σ H R=>ta σ H fun vs H1=>∃ a b xs ys,vs = [.ref a,.ref b]∧rn H1 a xs∧rq H1 b ys∧R (zj4 rn rq a b) H1
theorem zeh {X:Cx} {es:List Expr} {k:Nat} {oE p pos:Pos} {a b:Expr} {ta:TA} (hg:Gl X "zip") (hm:X.mg "zip" = none) (ha:PA X [a,b] ta) (hs:starEach [a,b] X.env = [(false,eval a X.env),(false,eval b X.env)]:=by rfl) (oQ:starEach [b] X.env = [(false,eval b X.env)]:=by rfl) :
  PI X (.Tuple es k oE) (.Call (.Name "zip" p) [a,b] [] pos) (iZp (lT X.K) (lT X.K) ta):=by
 intro lR s σ H R I h;refine Call_ (zaV I hg hm kT (bn (thn (ha pos lR s σ H _ I h) fun us s1 ⟨vs,H1,I1,r1,q1⟩=>?_) (by rw [hs,oQ]) (by rw [oQ]; rfl)));obtain⟨l1,l2,xs,ys,e,pE,n4,q⟩:=q1;subst e;cases r1 with
 | cons r rr =>
  cases rr with
  | cons r' rr =>
   cases rr;cases r;cases r';obtain⟨mP,rA,vP,rO⟩:=I1.list pE;obtain⟨mJ,rP,wB,tM⟩:=I1.list n4;have qf:l1 < s1.heap.objs.size:=by obtain⟨_,_,e,_⟩:=vP; exact aF e
   have qg:l2 < s1.heap.objs.size:=by obtain⟨_,_,e,_⟩:=wB; exact aF e
   refine call_zip_2 vP.isList wB.isList fun h' b1 b2 b3 b4 b5 b6 kk=>?_
   have I2:Inv X lR σ H1 { s1 with heap:=h' }:=I1.kept (t':=s1.toks) kk;refine gM b1 ?_;refine⟨_,_,_,zj4 (lT X.K) (lT X.K) l1 l2,H1,rfl,I2,zj5 l1 l2 s1.heap.objs.size qf qg,⟨b1,b2,⟨_,_,b3⟩,b4,b5⟩,fun c hc=>?_,q⟩;have hle:s1.heap.objs.size≤c:=by
    simp only [aH,aZ,or_false] at hc;rcases hc with z | z | z | z | z <;> subst z <;> lia
   exact I1.fpOk hle (I1.hok.fresh hle)
def zhp (Sq:Hp→Addr→List V→Prop) (a:Addr) (n:Nat):It :=
 ⟨fun i H=>i < n∧∃ xs,Sq H a xs∧xs.length=n,fun i H x H'=>H'=H∧∀ xs,Sq H a xs→xs[n - 1 - i]? = some x,fun i H=>n≤i⟩
theorem zj6 {P:Program} {w:World} {K:ah} {tg:Expr} (a it:Addr) (n:Nat):Turn P w K tg (zhp (lT K) a n) [it] it (fun i h=>i≤n∧h.IsRevIter it a ((n:Int) - 1 - (i:Int))) where
 mem:=by simp
 obj:=fun i h st b hb=>by
  have z:b=it:=by simpa using hb
  subst z;obtain⟨_,o,e,c,d⟩:=st;exact⟨o,e,fun v z=>by rw [d] at z; cases z⟩
 keep:=fun i h h' st k=>⟨st.1,st.2.at fun o e=>k it #[M] o e⟩
 item:=by
  intro X hP hw hK hc i lR s σ H E I hf st hg;subst hP hw hK;obtain⟨sE,xs,hq,hl⟩:=hg;obtain⟨lU,rv,p,hz⟩:=I.list hq;have lY:=rv.length;obtain⟨x,hx⟩:∃ x,xs[n - 1 - i]? = some x:=⟨xs[n - 1 - i]'#[O],#[M]⟩;obtain⟨u,hu,ru⟩:=rv.get hx;obtain⟨f0,f1,f2,f3,f4,f5⟩:=hf it #[M];have e:(n:Int) - 1 - (i:Int)=((n - 1 - i:Nat):Int):=by lia
  have hit:=st.2;rw [e] at hit;refine wpAny_pyNext_rev_item hit p.isList (x:=u) (by simpa using hu) fun h' lV sb=>?_
  have I1:Inv X lR σ H { s with heap:=h' }:=I.turned (t':=s.toks) (fun b o hb e=>(sb.2 b hb).trans e) f0 f1 f3 f4 f5;have e2:((n - 1 - i:Nat):Int) - 1=(n:Int) - 1 - ((i+1:Nat):Int):=by lia
  rw [e2] at lV;obtain⟨o,eo,c,d⟩:=id lV;exact⟨u,rfl,zez (s:={ s with heap:=h' }) eo c d #[D] ⟨x,H,I1,ru,⟨rfl,fun ys hy=>by rw [I.list_inj hy hq]; exact hx⟩,⟨sE,lV⟩,fun b hb=>(hf b hb).1⟩⟩
 done:=by
  intro X hP hw hK hc i lR s σ H E I hf st hg;subst hP hw hK;obtain⟨f0,f1,f2,f3,f4,f5⟩:=hf it #[M];have sE:n≤i:=hg;have e:(n:Int) - 1 - (i:Int) = -1:=by have:=st.1; lia
  have hit:=st.2;rw [e] at hit;exact wpAny_pyNext_rev_end (I.ok.hd hc) hit fun h' eb=>⟨rfl,I.turned (t':=s.toks) (fun b o hb e=>eb b o hb e) f0 f1 f3 f4 f5⟩
 self:=fun _ _ _ _ _ st h=>jJ st.2 h
end L2
end
section
namespace PySem
namespace F
theorem zfJ:Manifest.owners.lookup (String.ofList ['d','e','s','r','e','v','e','r'].reverse)=some Manifest.sig_reversed:=by kernel_rfl
theorem slot_rvd_next:Slot "reversed" "__next__" "reversed.__next__" :=
 .of (owner:="reversed") (n:="__next__") (by rw [dZ,cS]; kernel_rfl) #[N] #[N] #[N] (by first | exact .inl #[N] | exact .inr #[N]) (by rw [gi]; kernel_rfl)
theorem entry_rvd_next:entryFor table "reversed.__next__" = some Builtin.«reversed.__next__»:=entryFor_of_tree (by kernel_rfl)
theorem args_rvd_next_1 (a:Value):argsOk "reversed.__next__" ⟨[a],[]⟩:=by
 unfold argsOk; rw [signature?_of (id:="reversed.__next__") (n:=['_','_','t','x','e','n','_','_']) (o:=['d','e','s','r','e','v','e','r']) (by kernel_rfl) zfJ]; kernel_rfl
theorem slot_rvd_iter:Slot "reversed" "__iter__" "reversed.__iter__" :=
 .of (owner:="reversed") (n:="__iter__") (by rw [dZ,cS]; kernel_rfl) #[N] #[N] #[N] (by first | exact .inl #[N] | exact .inr #[N]) (by rw [gi]; kernel_rfl)
theorem args_rvd_iter_1 (a:Value):argsOk "reversed.__iter__" ⟨[a],[]⟩:=by
 unfold argsOk; rw [signature?_of (id:="reversed.__iter__") (n:=['_','_','r','e','t','i','_','_']) (o:=['d','e','s','r','e','v','e','r']) (by kernel_rfl) zfJ]; kernel_rfl
theorem entry_rvd_iter:entryFor table "reversed.__iter__" = some Builtin.«dict_keyiterator.__iter__»:=entryFor_alias (id':="dict_keyiterator.__iter__") (by kernel_rfl) (by first | rfl | decide +kernel | (unfold String.splitOn; simp +decide [String.splitOnAux])) #[N] (by kernel_rfl)
theorem zfi:Slot "reversed" "__init__" "object.__init__":=.of (owner:="object") (n:="__init__") (by rw [dZ,cS]; kernel_rfl) #[N] #[N] #[N] (by first | exact .inl #[N] | exact .inr #[N]) (by rw [gi]; kernel_rfl)
theorem called_rvd:TypeCalled "reversed" "reversed.__new__" "object.__init__" :=
 ⟨#[N],#[N],⟨_,_,mro_reversed⟩,made_reversed,#[N],by rw [gi]; kernel_rfl,zfi⟩
theorem noRev_tuple:typeLookup (.type "tuple") "__reversed__" = pure none:=by rw [dZ,cS]; kernel_rfl
end F
def zgn (l:Addr) (i:Int):Obj:={ cls:=.type "reversed",data:=.fields #[.ref l,rawInt i] }
def Heap.IsRvd (h:Heap) (a l:Addr) (i:Int):Prop:=∃ o,h.get? a=some o∧o.cls = .type "reversed"∧o.data = .fields #[.ref l,rawInt i]
theorem Heap.IsRvd.typeIs {s:Shared} {a l:Addr} {i:Int} (x:s.heap.IsRvd a l i):s.TypeIs (.ref a) "reversed":=let ⟨o,ho,hc,_⟩:=x; ⟨o,ho,hc⟩
theorem Heap.IsRvd.at {h h':Heap} {a l:Addr} {i:Int} (x:h.IsRvd a l i) (e:∀ o,h.get? a=some o→h'.get? a=some o):h'.IsRvd a l i:=let ⟨o,ho,r⟩:=x; ⟨o,e _ ho,r⟩
open PyProof.Rows in
theorem zfj (l:Addr) (items:Array Value) :
  Meets (Builtin.«reversed.__new__» ⟨[.type "reversed",.ref l],[]⟩) (fun _ R s=>IsTup s.heap l items∧(items.size:Int) < 2 ^ 63 ∧
   R (.ok (.ret (.ref s.heap.objs.size))) { s with heap:=s.heap.push (zgn l ((items.size:Int) - 1)),toks:=s.toks+1+1 }) :=
 .of_wp fun prog w A R s h=>by
  obtain⟨hl,hsz,h⟩:=h;unfold Builtin.«reversed.__new__»; refine ae (ck (newClass_reversed _) ?_)
  try dsimp only
  iterate 2 refine ae (ck (a:=()) (by first | rfl | kernel_rfl) ?_)
  try dsimp only
  refine ae (g7 hl.typeIs F.noRev_tuple ?_)
  try dsimp only
  refine ae (ae (m:=isInstance (.ref l) (.type "dict")) (eH hl.typeIs F.sub_tuple_dict ?_));simp only [bq,if_false]; refine ae (m:=specialOf (.ref l) "__getitem__") (g7 hl.typeIs slot_tuple_getitem.lookup ?_);refine ak ?_
  try dsimp only
  try simp only [Bool.not_true,bq,if_false]
  refine ae (len_tuple hl hsz ?_);refine ae (m:=asInt? _) (ck (a:=some (items.size:Int)) rfl ?_)
  try dsimp only
  refine ae (m:=lA _ _) ?_;show wpAny _ _ (newObj (.type "reversed") (.fields #[.ref l,rawInt ((items.size:Int) - 1)]) none) _ _ _;refine cE ?_;exact ak ⟨_,rfl,h⟩
section
variable {prog:Program} {w:World} {A:Around} {E:Value→Shared→Prop} {s:Shared}
open PyProof.Rows
theorem zeF {l:Addr} {items:Array Value} {Q:Value→Shared→Prop} (hl:IsTup s.heap l items) (hsz:(items.size:Int) < 2 ^ 63)
  (h:Q (.ref s.heap.objs.size) { s with heap:=s.heap.push (zgn l ((items.size:Int) - 1)),toks:=s.toks+1+1 }):wpAny (model prog w) A (call (.type "reversed") [.ref l]) Q E s:=by
 refine iX F.called_rvd #[D] (jw _) (jK _) (fun obj=>hJ obj _) jL (zfj l items) ⟨hl,hsz,?_⟩; exact⟨⟨_,aB _ rfl,rfl⟩,h⟩
theorem zcn {it l:Addr} {i:Nat} {items:Array Value} {x:Value} {Q:Option Value→Shared→Prop} (hit:s.heap.IsRvd it l (i:Int)) (hl:IsTup s.heap l items) (hx:items[i]? = some x) (hi:(i:Int) < 2 ^ 62)
  (hQ:∀ h',h'.IsRvd it l ((i:Int) - 1)→bw it s.heap h'→Q (some x) { s with heap:=h',toks:=s.toks+1 }):wpAny (model prog w) A (pyNext (.ref it)) Q E s:=by
 obtain⟨o,ho,hc,hd⟩:=id hit; unfold pyNext;refine ae (c6 (bD (name:=bF "__next__") hit.typeIs F.slot_rvd_next
  (bJ F.slot_rvd_next hit.typeIs F.entry_rvd_next ?_ (F.args_rvd_next_1 _))))
 unfold Builtin.«reversed.__next__»;refine ae (ck (a:=(bg it,[])) rfl ?_); try dsimp only
 refine ae (bG ho hd (x:=.ref l) rfl ?_); refine ae (bG ho hd (x:=rawInt (i:Int)) rfl ?_);show wpAny _ _ (if (i:Int) < 0 then _ else _) _ _ s; rw [if_neg #[O]];refine ae (g7 hl.typeIs slot_tuple_getitem.lookup ?_)
 try simp only [Option.isNone_some,bq,if_false]
 refine ae (wpAny_mkInt ?_); have mj:i < items.size:=by
  obtain⟨h1,_⟩:=dk.mp hx;exact h1
 refine ae (c6 (getItem_tuple (j:=i) hl #[O] #[O] (by rw [iz #[O] #[O]]; simp) hx ?_))
 try dsimp only
 refine ae (bG (s:={ s with toks:=s.toks+1 }) ho hd (x:=rawInt (i:Int)) rfl ?_);show wpAny _ _ (setField (.ref it) 1 (rawInt ((i:Int) - 1)) >>= _) _ _ _;refine ae (eD (s:={ s with toks:=s.toks+1 }) ho hd #[M] (ak ⟨x,rfl,ak (hQ _ ?_ (db ..))⟩));exact⟨_,cR _ ho (fq (dn hd _)),(iN ..).trans hc,by rw [dn hd]; simp⟩
theorem zcq {it l:Addr} {Q:Option Value→Shared→Prop} (hh:A.handled=none) (hit:s.heap.IsRvd it l (-1)) (hQ:∀ h',kM it s.heap h'→Q none { s with heap:=h' }):wpAny (model prog w) A (pyNext (.ref it)) Q E s:=by
 obtain⟨o,ho,hc,hd⟩:=id hit; unfold pyNext;refine ae (c6 (bD (name:=bF "__next__") hit.typeIs F.slot_rvd_next
  (bJ F.slot_rvd_next hit.typeIs F.entry_rvd_next ?_ (F.args_rvd_next_1 _))))
 unfold Builtin.«reversed.__next__»;refine ae (ck (a:=(bg it,[])) rfl ?_); try dsimp only
 refine ae (bG ho hd (x:=.ref l) rfl ?_); refine ae (bG ho hd (x:=rawInt (-1)) rfl ?_);show wpAny _ _ (if (-1:Int) < 0 then _ else _) _ _ s; rw [if_pos #[D]];refine ae (cr ?_);refine ae (ae (m:=setField (.ref it) 1 (rawInt (-1))) (eD ho hd #[M] ?_));have hd2:=dn hd (·.setIfInBounds 1 (rawInt (-1)));have uz:=cR (iH (·.setIfInBounds 1 (rawInt (-1)))) ho (fq hd2);refine eD uz hd2 #[M] ?_
 try dsimp only
 refine ae ?_; show wpAny _ _ (newExc (.type "StopIteration") [] >>= _) _ _ _;refine ae ?_;simp only [newExc,newTuple];refine ae (cE ?_ (by size_fits)); refine ae (m:=firstArgMember _ _) (ck (a:=dh) (by first | rfl | (simp only [firstArgMember]; rfl)) ?_);refine cE ?_ (by size_fits); simp only [raiseNew];refine ae (jU ?_); first | rw [show A.in1.handled=none from hh] | rw [hh]
 refine ae (ak (kN ?_)); refine ae (eH (T:="StopIteration") (b:=true) ⟨_,aB _ rfl,rfl⟩ gj ?_);exact ak (hQ _ ((((db ..).extBut.trans (db ..).extBut).push _).push _))
theorem zbZ {it l:Addr} {i:Int} {Q:Value→Shared→Prop} (hit:s.heap.IsRvd it l i) (h:Q (.ref it) s):wpAny (model prog w) A (pyIter (.ref it)) Q E s:=by
 refine iO hit.typeIs F.slot_rvd_iter (bJ F.slot_rvd_iter hit.typeIs F.entry_rvd_iter ?_ (F.args_rvd_iter_1 _));show wpAny _ _ (ret (.ref it)) _ _ s; exact ak ⟨_,rfl,"reversed",_,hit.typeIs,F.slot_rvd_next.lookup,h⟩
end
section
variable {prog:Program} {w:World} {A:Around} {E:Value→Shared→Prop} {s:Shared}
theorem zhq {it t:Addr} {i:Nat} {items:Array Value} {x:Value} {Q:Value→Shared→Prop} (hit:s.heap.IsTupleIter it t i) (ht:s.heap.IsTuple t items) (hx:items[i]? = some x)
  (hQ:∀ h',h'.IsTupleIter it t (i+1)→bw it s.heap h'→Q x { s with heap:=h' }):wpAny (model prog w) A (bp (.ref it)) Q E s:=by
 obtain⟨o,ho,hc,hd⟩:=id hit; obtain⟨ot,Dj,_,nt,Dk⟩:=ht;unfold bp; refine ae (bD (name:=bF "__next__") hit.typeIs d7 (bJ d7 hit.typeIs iC ?_ (ip _)));show wpAny _ _ (field (.ref it) 0 >>= _) _ _ s; refine ae (bG ho hd (x:=.ref t) rfl ?_); show wpAny _ _ (if (bg t == dh)=true then _ else _) _ _ _; rw [if_neg (by exact aR)];refine ae (bG ho hd (x:=.int _ 0) rfl ?_); refine ae (m:=seqItems? _) (cG Dj Dk ?_); simp only [cD,hx];have hn:=cR (iH (·.setIfInBounds 1 (rawInt ((i+1:Nat):Int)))) ho (fq (dn hd _));refine ae (eD ho hd #[M] (ak ⟨x,rfl,ak (hQ _ ⟨_,hn,(iN ..).trans hc,?_⟩ (db ..))⟩)); rw [dn hd]; simp [rawInt]
theorem zdW {it t:Addr} {i:Nat} {items:Array Value} {Q:Value→Shared→Prop} (hh:A.handled=none) (hit:s.heap.IsTupleIter it t i) (ht:s.heap.IsTuple t items) (hx:items[i]? = none)
  (hE:∀ h' e,kM it s.heap h'→(∃ o,h'.get? e=some o∧o.cls = .type "StopIteration")→E (.ref e) { s with heap:=h' }):wpAny (model prog w) A (bp (.ref it)) Q E s:=by
 obtain⟨o,ho,hc,hd⟩:=id hit; obtain⟨ot,Dj,_,nt,Dk⟩:=ht;unfold bp; refine ae (bD (name:=bF "__next__") hit.typeIs d7 (bJ d7 hit.typeIs iC ?_ (ip _)));show wpAny _ _ (field (.ref it) 0 >>= _) _ _ s; refine ae (bG ho hd (x:=.ref t) rfl ?_); show wpAny _ _ (if (bg t == dh)=true then _ else _) _ _ _; rw [if_neg (by exact aR)];refine ae (bG ho hd (x:=.int _ 0) rfl ?_); refine ae (m:=seqItems? _) (cG Dj Dk ?_); simp only [cD,hx];refine ae (cr (ae (eD ho hd #[M] ?_))); show wpAny _ _ (newExc (.type "StopIteration") [] >>= _) _ _ _; refine ae ?_;simp only [newExc,newTuple]; refine ae (cE ?_ (by size_fits)); refine ae (m:=firstArgMember _ _) (ck (a:=dh) (by first | rfl | (simp only [firstArgMember]; rfl)) ?_);refine cE ?_ (by size_fits); simp only [raiseNew]; refine ae (jU ?_); first | rw [show A.in1.handled=none from hh] | rw [hh]
 refine ae (ak (kN ?_)); exact hE _ _ (((db ..).extBut.push _).push _) ⟨_,aB _ rfl,rfl⟩
end
theorem Draws.tuple {prog:Program} {w:World} {A:Around} (hh:A.handled=none) (it t:Addr) (mB:t≠it) (items:Array Value):Draws prog w A it [it,t] items.size (fun i v=>items[i]? = some v) (fun i h=>h.IsTupleIter it t i∧h.IsTuple t items) where
 live:=fun i h st=>st.1.imp fun o r=>r.1
 frame:=fun i h h' st kk=>⟨st.1.at fun o=>kk it #[M] o,st.2.at fun o=>kk t #[M] o⟩
 item:=fun i s Q E hi st hQ=>zhq st.1 st.2 (x:=items[i]) (by simp [hi]) fun h' a b=>hQ _ h' s.toks (by simp [hi]) ⟨a,st.2.extBut b.extBut mB⟩ b
 done:=fun s Q E st hE=>zdW hh st.1 st.2 #[M] hE
def zbA (t:Addr):Obj:={ cls:=.type "tuple_iterator",data:=.fields #[.ref t,.int 0 0] }
def zgo (it:Addr):Obj:={ cls:=.type "enumerate",data:=.fields #[.none,.bool false,.ref it,rawInt 0,.none,.none] }
open AutoSeq1 (wpAny_loadPart') in
theorem zhr (l:Addr) (items:Array Value) (n:Nat) (Dl:Option Addr) (sl:Array (Option Value)) :
  Meets (Builtin.«enumerate.__new__» ⟨[.type "enumerate",.ref l],[]⟩) (fun _ R s=>s.heap.get? l=some { cls:=.type "tuple",dict:=Dl,data:=.seq items n,slots:=sl } ∧
   R (.ok (.ret (.ref (s.heap.push (zbA l)).objs.size))) { s with heap:=(s.heap.push (zbA l)).push (zgo s.heap.objs.size) }) :=
 .of_wp fun prog w A R s h=>by
  obtain⟨hp,g,d,tk,os⟩:=s; obtain⟨hl,h⟩:=h; have hT:Heap.IsTuple (jm ⟨hp,g,d,tk,os⟩) l items:=⟨_,hl,rfl,n,rfl⟩;have AB:=sub_enumerate; wp_walk using fc hl;refine wpAny_stack_any fun st=>ak ?_; split
  ·rename_i c _ _ _ _ _; cases (c == k8 "enumerate") <;> (wp_walk using fc hl,eZ hT; exact⟨_,rfl,h⟩)
  ·wp_walk using fc hl,eZ hT; exact⟨_,rfl,h⟩
theorem zcr {prog:Program} {w:World} {A:Around} {E:Value→Shared→Prop} {s:Shared} {l:Addr} {items:Array Value} {Q:Value→Shared→Prop} (hL:s.heap.IsTuple l items)
  (h:∀ h',IsEnum h' (s.heap.objs.size+1) s.heap.objs.size 0 .none→h'.IsTupleIter s.heap.objs.size l 0→h'.objs.size=s.heap.objs.size+2 →
   (∀ b o,s.heap.get? b=some o→h'.get? b=some o)→Q (.ref (s.heap.objs.size+1)) { s with heap:=h' }):wpAny (model prog w) A (call (.type "enumerate") [.ref l]) Q E s:=by
 obtain⟨⟨c,Dl,dt,sl⟩,hl,hc,n,hd⟩:=hL; replace hc:c = .type "tuple":=hc; replace hd:dt = .seq items n:=hd; subst hc hd;refine iX kq #[D] (jn _) (jx _) (fun obj=>hJ obj _) jy (zhr l items n Dl sl) ⟨hl,?_⟩;have hz:(s.heap.push (zbA l)).objs.size=s.heap.objs.size+1:=bM ..;have he:=aB (s.heap.push (zbA l)) (o:=zgo s.heap.objs.size) rfl;show _∧_;rw [hz] at he ⊢;exact⟨⟨_,he,rfl⟩,h _ he ⟨_,aj _ (aB _ rfl),rfl,rfl⟩ (by rw [bM,hz]) fun b o x=>aj _ (aj _ x)⟩
end PySem
namespace L2
open PySem PySem.Spec PyProof.Rows
theorem zj7 {P:Program} {w:World} {K:ah} {tg:Expr} (a it:Addr) (n:Nat):Turn P w K tg (zhp (me K) a n) [it] it (fun i h=>i≤n∧h.IsRvd it a ((n:Int) - 1 - (i:Int))) where
 mem:=by simp
 obj:=fun i h st b hb=>by
  have z:b=it:=by simpa using hb
  subst z;obtain⟨_,o,e,c,d⟩:=st;exact⟨o,e,fun v z=>by rw [d] at z; cases z⟩
 keep:=fun i h h' st k=>⟨st.1,st.2.at fun o e=>k it #[M] o e⟩
 item:=by
  intro X hP hw hK hc i lR s σ H E I hf st hg;subst hP hw hK;obtain⟨sE,xs,hq,hl⟩:=hg;obtain⟨lU,rv,p,hz⟩:=I.tuple hq;have lY:=rv.length;have o9:=a7;obtain⟨x,hx⟩:∃ x,xs[n - 1 - i]? = some x:=⟨xs[n - 1 - i]'#[O],#[M]⟩;obtain⟨u,hu,ru⟩:=rv.get hx;obtain⟨f0,f1,f2,f3,f4,f5⟩:=hf it #[M];have e:(n:Int) - 1 - (i:Int)=((n - 1 - i:Nat):Int):=by lia
  have hit:=st.2;rw [e] at hit;refine zcn hit p (x:=u) (by simpa using hu) #[O] fun h' lV sb=>?_
  have I1:Inv X lR σ H { s with heap:=h',toks:=s.toks+1 }:=I.turned (t':=s.toks+1) (fun b o hb e=>(sb.2 b hb).trans e) f0 f1 f3 f4 f5;have e2:((n - 1 - i:Nat):Int) - 1=(n:Int) - 1 - ((i+1:Nat):Int):=by lia
  rw [e2] at lV;obtain⟨o,eo,c,d⟩:=id lV;exact⟨u,rfl,zez (s:={ s with heap:=h',toks:=s.toks+1 }) eo c d #[D] ⟨x,H,I1,ru,⟨rfl,fun ys hy=>by rw [I.tuple_inj hy hq]; exact hx⟩,⟨sE,lV⟩,fun b hb=>(hf b hb).1⟩⟩
 done:=by
  intro X hP hw hK hc i lR s σ H E I hf st hg;subst hP hw hK;obtain⟨f0,f1,f2,f3,f4,f5⟩:=hf it #[M];have sE:n≤i:=hg;have e:(n:Int) - 1 - (i:Int) = -1:=by have:=st.1; lia
  have hit:=st.2;rw [e] at hit;exact zcq (I.ok.hd hc) hit fun h' eb=>⟨rfl,I.turned (t':=s.toks) (fun b o hb e=>eb b o hb e) f0 f1 f3 f4 f5⟩
 self:=fun _ _ _ _ _ st h=>zbZ st.2 h
theorem zgp {X:Cx} {tg:Expr} {lR:List (Addr×Obj)} {σ:St} {H1:Hp} {s1:Shared} {R:It→Hp→Prop} {l:Addr} {xs:List V} (I1:Inv X lR σ H1 s1) (hq:me X.K H1 l xs) (q:R (zhp (me X.K) l xs.length) H1) :
  wpAny (model X.prog X.w) X.A (call (.type "reversed") [.ref l]) (fun v s2=>wpAny (model X.prog X.w) X.A (pyIter v) (PIE X lR σ tg R) X.xe s2) X.xe s1:=by
 obtain⟨lU,rv,pl,hz⟩:=I1.tuple hq;have lY:=rv.length;have o9:=a7;refine zeF pl (by rw [az]; lia) ?_;have I2:Inv X lR σ H1 { s1 with heap:=s1.heap.push (zgn l ((lU.toArray.size:Int) - 1)),toks:=s1.toks+1+1 }:=I1.kept fun b o e=>aj _ e
 have hr:(s1.heap.push (zgn l ((lU.toArray.size:Int) - 1))).IsRvd s1.heap.objs.size l ((xs.length:Int) - 1 - ((0:Nat):Int)):=by
  refine⟨_,aB _ rfl,rfl,?_⟩;have e1:(lU.toArray.size:Int) - 1=(xs.length:Int) - 1 - ((0:Nat):Int):=by rw [az,lY]; lia
  show jf #[.ref l,rawInt ((lU.toArray.size:Int) - 1)]=_;rw [e1]
 refine zbZ hr ?_;refine⟨_,[s1.heap.objs.size],_,zhp (me X.K) l xs.length,H1,rfl,I2,zj7 l s1.heap.objs.size xs.length,⟨bz _,hr⟩,fun b hb=>?_,q⟩;have z:b=s1.heap.objs.size:=by simpa using hb
 subst z;exact I1.fpOk (ag _) (I1.hok.fresh (ag _))
theorem zhs {X:Cx} {tg:Expr} {lR:List (Addr×Obj)} {σ:St} {H1:Hp} {s1:Shared} {R:It→Hp→Prop} {l:Addr} {xs:List V} (I1:Inv X lR σ H1 s1) (hq:lT X.K H1 l xs) (q:R (zhp (lT X.K) l xs.length) H1) :
  wpAny (model X.prog X.w) X.A (call (.type "reversed") [.ref l]) (fun v s2=>wpAny (model X.prog X.w) X.A (pyIter v) (PIE X lR σ tg R) X.xe s2) X.xe s1:=by
 obtain⟨lU,rv,pl,hz⟩:=I1.list hq;have lY:=rv.length;refine call_reversed_list pl.isList ?_;have I2:Inv X lR σ H1 { s1 with heap:=s1.heap.push (revObj l ((lU.toArray.size:Int) - 1)) }:=I1.kept (t':=s1.toks) fun b o e=>aj _ e
 have hr:(s1.heap.push (revObj l ((lU.toArray.size:Int) - 1))).IsRevIter s1.heap.objs.size l ((xs.length:Int) - 1 - ((0:Nat):Int)):=by
  refine⟨_,aB _ rfl,rfl,?_⟩;have e1:(lU.toArray.size:Int) - 1=(xs.length:Int) - 1 - ((0:Nat):Int):=by rw [az,lY]; lia
  show jf #[.ref l,rawInt ((lU.toArray.size:Int) - 1)]=_;rw [e1]
 refine jJ hr ?_;refine⟨_,[s1.heap.objs.size],_,zhp (lT X.K) l xs.length,H1,rfl,I2,zj6 l s1.heap.objs.size xs.length,⟨bz _,hr⟩,fun b hb=>?_,q⟩;have z:b=s1.heap.objs.size:=by simpa using hb
 subst z;exact I1.fpOk (ag _) (I1.hok.fresh (ag _))
def zqt (K:ah) (ta:TA):TI:=fun σ H R=>ta σ H fun vs H1=>∃ a xs,vs = [.ref a]∧((lT K H1 a xs∧R (zhp (lT K) a xs.length) H1)∨(me K H1 a xs∧R (zhp (me K) a xs.length) H1))
theorem zoN {X:Cx} {tg:Expr} {p pos:Pos} {a:Expr} {ta:TA} (hg:Gl X "reversed") (hm:X.mg "reversed" = none) (ha:PA X [a] ta) (hs:starEach [a] X.env = [(false,eval a X.env)]:=by rfl) :
  PI X tg (.Call (.Name "reversed" p) [a] [] pos) (zqt X.K ta):=by
 intro lR s σ H R I h;refine Call_ (zaV I hg hm boot_reversed (bn (thn (ha pos lR s σ H _ I h) fun us s1 ⟨vs,H1,I1,r1,q1⟩=>?_) hs rfl));obtain⟨l,xs,e,hq⟩:=q1;subst e;cases r1 with
 | cons r rr =>
  cases rr;cases r;rcases hq with ⟨hq,q⟩ | ⟨hq,q⟩
  ·exact zhs I1 hq q
  ·exact zgp I1 hq q
theorem zin {P:Program} {w:World} {K:ah} {es:List Expr} {k:Nat} {pos:Pos} (a it e:Addr) (yX:e≠it) (hai:a≠it) (hae:a≠e):Turn P w K (.Tuple es k pos) (zk8 (me K) a) [e,it] e (fun i h=>(∃ old,IsEnum h e it i old)∧h.IsTupleIter it a i) where
 mem:=by simp
 obj:=fun i h st b hb=>by
  obtain⟨⟨old,he⟩,o,ho,hc,hd⟩:=st;rcases aH.mp hb with z | z
  ·subst z;exact⟨_,he,fun v z=>by cases z⟩
  ·have z:b=it:=by simpa using z
   subst z;exact⟨o,ho,fun v z=>by rw [hd] at z; cases z⟩
 keep:=fun i h h' st kk=>⟨st.1.imp fun old he=>kk e #[M] _ he,st.2.at fun o eo=>kk it #[M] o eo⟩
 item:=by
  intro X hP hw hK hc i lR s σ H E I hf st hg;subst hP hw hK;obtain⟨xs,x,hq,hx⟩:=hg;obtain⟨⟨old,he⟩,hit⟩:=st;obtain⟨lU,rv,p,hz⟩:=I.tuple hq;obtain⟨u,hu,ru⟩:=rv.get hx;have wA:e < s.heap.objs.size:=aF he;have hits:it < s.heap.objs.size:=by obtain⟨o,ho,_⟩:=hit; exact aF ho
  have mj:i < lU.toArray.size:=by
   have:=(aw.mp hu).1;simpa using this
  have hh:X.A.in1.handled=none:=by simp [I.ok.hd hc]
  refine wpAny_pyNext_enum_itemD (Draws.tuple hh it a hai lU.toArray) he ⟨hit,(show s.heap.IsTuple a lU.toArray from p)⟩ mj yX (by simp [yX,cQ hae]) fun u' h' tk hPu sC uN hT hsz kk=>?_
  obtain⟨sL,htup'⟩:=uN;have eu:u'=u:=by
   have e1:lU[i]? = some u':=by simpa using hPu
   rw [hu] at e1;exact (aS e1).symm
  subst eu;have k1:∀ b o,b∉[e,it]→s.heap.get? b=some o→h'.get? b=some o:=fun b o hb eo=>kk b o (fun z=>hb (by simp [z])) (fun z=>hb (by simp [z])) eo
  have wY:∀ b∈[e,it],∃ o,h'.get? b=some o:=fun b hb=>by
   rcases aH.mp hb with z | z
   ·subst z; exact⟨_,sC⟩
   ·have z:b=it:=by simpa using z
    subst z;obtain⟨o,eo,_⟩:=sL;exact⟨o,eo⟩
  have I1:Inv X lR σ (lW H s.heap.objs.size (.tup [.int i,x])) { s with heap:=h',toks:=tk+1 } :=
   I.turnedNew k1 hf wY (ag _) ⟨zaE,_,.cons ⟨tk,rfl⟩ (.cons ru .nil),zbd hT⟩
  refine⟨_,rfl,fN sC fun vB sM nL=>?_⟩;have fr:∀ b∈[e,it],lW H s.heap.objs.size (.tup [.int i,x]) b=none:=fun b hb=>by
   have mj:b < s.heap.objs.size:=by
    rcases aH.mp hb with z | z
    ·subst z; exact wA
    ·have z:b=it:=by simpa using z
     subst z; exact hits
   rw [zl (bh mj)];exact (hf b hb).1
  have I2:Inv X lR σ (lW H s.heap.objs.size (.tup [.int i,x])) { s with heap:=vB,toks:=tk+1 } :=
   Inv.turnedL (s:={ s with heap:=h',toks:=tk+1 }) (ch:=[e]) (t':=tk+1) I1 (fun b o hb eo=>nL.extBut b o (by simpa using hb) eo) (fun b hb=>by
    have z:b=e:=by simpa using hb
    subst z;exact⟨fr b #[M],(hf b #[M]).2⟩) (fun b hb=>by
    have z:b=e:=by simpa using hb
    subst z;exact⟨_,sM⟩)
  refine⟨.ref s.heap.objs.size,_,I2,rfl,⟨_,x,I.fresh,rfl,rfl,fun ys hy=>by rw [I.tuple_inj hy hq]; exact hx⟩,⟨⟨_,by simpa using sM⟩,sL.extBut nL.extBut (cQ yX)⟩,fr⟩
 done:=by
  intro X hP hw hK hc i lR s σ H E I hf st hg;subst hP hw hK;obtain⟨xs,hq,hx⟩:=hg;obtain⟨⟨old,he⟩,hit⟩:=st;obtain⟨lU,rv,p,hz⟩:=I.tuple hq;have hl:=rv.length;obtain⟨f0,f1,f2,f3,f4,f5⟩:=hf it #[M];have hT:s.TypeIs (.ref e) "enumerate":=⟨_,he,rfl⟩; have hh:X.A.in1.handled=none:=by simp [I.ok.hd hc]
  unfold pyNext; refine ae (c6 (bD (name:=bF "__next__") hT dq (bJ dq hT gF ?_ (gr _))));show wpAny _ _ (field (.ref e) 2 >>= _) _ _ _; refine ae (bG he rfl (x:=.ref it) rfl ?_);refine ae (zdW hh hit (show s.heap.IsTuple a lU.toArray from p) (by simp; lia) fun h' x AD uL=>?_);obtain⟨o,ho,hc⟩:=uL;refine ae (eH (T:="StopIteration") (b:=true) ⟨o,ho,hc⟩ gj ?_); exact ak ⟨rfl,I.turned (t':=s.toks) (fun b o hb e=>AD b o hb e) f0 f1 f3 f4 f5⟩
 self:=fun _ _ _ _ _ st h=>by
  obtain⟨⟨old,he⟩,_⟩:=st;exact d9 he h
theorem zk9 {X:Cx} {es:List Expr} {k:Nat} {oE p pos:Pos} {a:Expr} {ta:TA} (hg:Gl X "enumerate") (hm:X.mg "enumerate" = none) (ha:PA X [a] ta) (hs:starEach [a] X.env = [(false,eval a X.env)]:=by rfl) :
  PI X (.Tuple es k oE) (.Call (.Name "enumerate" p) [a] [] pos) (iEn (me X.K) ta):=by
 intro lR s σ H R I h;refine Call_ (zaV I hg hm jv (bn (thn (ha pos lR s σ H _ I h) fun us s1 ⟨vs,H1,I1,r1,q1⟩=>?_) hs rfl));obtain⟨l,xs,e,hq,q⟩:=q1;subst e;cases r1 with
 | cons r rr =>
  cases rr;cases r;obtain⟨lU,rv,pl,hz⟩:=I1.tuple hq;have mj:l < s1.heap.objs.size:=by obtain⟨_,e,_⟩:=pl; exact aF e
  refine zcr (show s1.heap.IsTuple l lU.toArray from pl) fun h' he hi hsz kk=>?_
  have I2:Inv X lR σ H1 { s1 with heap:=h' }:=I1.kept (t':=s1.toks) kk;refine d9 he ?_; refine⟨_,[s1.heap.objs.size+1,s1.heap.objs.size],_,zk8 (me X.K) l,H1,rfl,I2,zin l s1.heap.objs.size (s1.heap.objs.size+1) (gL _) (bh mj) (bh (d8 mj)),⟨⟨_,he⟩,hi⟩,fun b hb=>?_,q⟩;have hle:s1.heap.objs.size≤b:=by
   rcases aH.mp hb with z | z
   ·rw [z]; exact fP _
   ·have z:b=s1.heap.objs.size:=by simpa using z
    rw [z]; exact ag _
  exact I1.fpOk hle (I1.hok.fresh hle)
inductive EqD (K:ah) (H:Hp):Nat→V→V→Bool→Prop where
 | flat {d:Nat} {x y:V} (hx:zi5 x=true) (hy:zi5 y=true):EqD K H d x y (eqV x y)
 | same {d:Nat} {a:Addr}:EqD K H d (.ref a) (.ref a) true
 | lists {d:Nat} {a b:Addr} {xs ys:List V} {e:Nat→Bool} (mB:a≠b) (ha:lT K H a xs) (hb:lT K H b ys) (hl:xs.length=ys.length)
   (he:∀ (j:Nat) x y,xs[j]? = some x→ys[j]? = some y→EqD K H d x y (e j)):EqD K H (d+1) (.ref a) (.ref b) ((au xs.length).all e)
 | lens {d:Nat} {a b:Addr} {xs ys:List V} (mB:a≠b) (ha:lT K H a xs) (hb:lT K H b ys) (hl:xs.length≠ys.length):EqD K H (d+1) (.ref a) (.ref b) false
 | tups {d:Nat} {a b:Addr} {xs ys:List V} {e:Nat→Bool} (mB:a≠b) (ha:me K H a xs) (hb:me K H b ys)
   (he:∀ (j:Nat) x y,xs[j]? = some x→ys[j]? = some y→EqD K H d x y (e j)):EqD K H (d+1) (.ref a) (.ref b) ((au (min xs.length ys.length)).all e && xs.length == ys.length)
theorem zG.getE {xs:List V} {us:List Value} (r:zG xs us) {j:Nat} (h:j < us.toArray.size):∃ x,xs[j]? = some x∧RelV x us.toArray[j]:=by
 have hl:=r.length;have hj:j < xs.length:=by rw [hl]; simpa using h
 obtain⟨u,hu,ru⟩:=r.get (i:=j) (x:=xs[j]) #[M];refine⟨xs[j],#[M],?_⟩;have:us.toArray[j]=u:=by
  have h2:j < us.length:=by simpa using h
  rw [ai h2] at hu;simpa using aS hu
 rw [this];exact ru
theorem EqD.at {X:Cx} {lR:List (Addr×Obj)} {σ:St} {H:Hp} {s:Shared} (I:Inv X lR σ H s) {d:Nat} {x y:V} {b:Bool} (h:EqD X.K H d x y b) :
  ∀ (A:Around) (u v:Value),RelV x u→RelV y v→A.units+d < cLine→SeqAt.EqAt A s u v b:=by
 induction h with
 | flat hx hy=>exact fun A u v rx ry _=>zoH rx ry hx hy
 | same=>intro A u v rx ry _; cases rx; cases ry; exact la _
 | lists mB ha hb hl he ih =>
  intro A u v rx ry hu;cases rx; cases ry;obtain⟨is1,r1,p1,_⟩:=I.list ha;obtain⟨is2,r2,p2,_⟩:=I.list hb;have l1:=r1.length;have l2:=r2.length;refine iD mB ?_;have q:=SeqAt.RcAt.lists (A:=A) p1.isList p2.isList (by simp only [az]; lia) #[O] fun j h1 h2=>by
   obtain⟨x,hx,rx⟩:=r1.getE h1;obtain⟨y,hy,ry⟩:=r2.getE h2;exact ih j x y hx hy A.in1 _ _ rx ry (by simp only [fK]; lia)
  rw [az,← l1] at q;exact q
 | lens mB ha hb hl =>
  intro A u v rx ry hu;cases rx; cases ry;obtain⟨is1,r1,p1,_⟩:=I.list ha;obtain⟨is2,r2,p2,_⟩:=I.list hb;have l1:=r1.length;have l2:=r2.length;exact iD mB (SeqAt.RcAt.lists_lengths p1.isList p2.isList (by simp only [az,bne_iff_ne]; lia) #[O])
 | tups mB ha hb he ih =>
  intro A u v rx ry hu;cases rx; cases ry;obtain⟨is1,r1,p1,_⟩:=I.tuple ha;obtain⟨is2,r2,p2,_⟩:=I.tuple hb;have l1:=r1.length;have l2:=r2.length;refine iD mB ?_;have q:=SeqAt.RcAt.tuples (A:=A) (s:=s) p1 p2 #[O] fun j h1 h2=>by
   obtain⟨x,hx,rx⟩:=r1.getE h1;obtain⟨y,hy,ry⟩:=r2.getE h2;exact ih j x y hx hy A.in1 _ _ rx ry (by simp only [fK]; lia)
  rw [az,az,← l1,← l2] at q;exact q
theorem zla {K:ah} {H:Hp} {ms ns:List Int}:∀ (j:Nat) x y,(ms.map V.int)[j]? = some x→(ns.map V.int)[j]? = some y→EqD K H 8 x y ((fun j=>decide (ms[j]? = ns[j]?)) j):=fun j x y hx hy=>by
 rw [af] at hx hy;cases h1:ms[j]? with
 | none=>rw [h1] at hx; cases hx
 | some m =>
  cases h2:ns[j]? with
  | none=>rw [h2] at hy; cases hy
  | some n =>
   rw [h1] at hx; rw [h2] at hy;cases hx; cases hy;have e:eqV (.int m) (.int n)=decide (some m=some n):=by
    show (m == n)=_;rw [cN]; simp
   show EqD K H 8 (.int m) (.int n) (decide (ms[j]? = ns[j]?));rw [h1,h2,← e];exact EqD.flat rfl rfl
theorem zht {X:Cx}:zbc X (.type "range") (fun xs H Q=>∃ j:Int,xs = [.int j]∧∀ l,H l=none→Q (.ref l) (lW H l (.rng 0 j))):=by
 intro lR s σ H xs us Q I r h;obtain⟨j,rfl,q⟩:=h;obtain⟨u,rfl,t,rfl⟩:=vals1 r;refine call_range_1 ?_;exact⟨.ref s.heap.objs.size,_,I.laid (o:=.rng 0 j) (fun b o e=>aj _ e) (ag _) ⟨_,_,_,aB _ rfl⟩,rfl,q _ I.fresh⟩
def zbR (lo:Int) (n:Nat):List Int:=(au n).map fun (i:Nat)=>lo+(i:Int)
theorem zcW (lo:Int) (n:Nat):(zbR lo n).length=n:=by simp [zbR]
theorem zfk {acc:Array Value} {lo:Int} {n:Nat} (h:ItemsOf (fun i v=>∃ t,v = .int (lo+(i:Nat)*1) t) acc n):zG ((zbR lo n).map V.int) acc.toList:=by
 obtain⟨hsz,hv⟩:=h;have go:∀ (us:List Value) (k:Nat),(∀ (j:Nat) v,us[j]? = some v→∃ t,v = .int (lo+((k+j:Nat):Int)) t)→zG (((au us.length).map fun (i:Nat)=>V.int (lo+((k+i:Nat):Int)))) us:=by
  intro us;induction us with
  | nil=>intro k _; exact .nil
  | cons u us ih =>
   intro k hu;rw [bm,gG,bO,cL];refine .cons ?_ ?_
   ·obtain⟨t,e⟩:=hu 0 u rfl;exact⟨t,e⟩
   ·have:=ih (k+1) fun j v e=>by
     obtain⟨t,z⟩:=hu (j+1) v (by simpa using e);exact⟨t,by rw [z]; congr 1; lia⟩
    have e2:(fun (i:Nat)=>V.int (lo+((k+1+i:Nat):Int)))=((fun (i:Nat)=>V.int (lo+((k+i:Nat):Int))) ∘ lM):=by
     funext i;show V.int _=V.int _;congr 2;show ((k+1+i:Nat):Int)=((k+(i+1):Nat):Int);lia
    rw [← e2];exact this
 have h1:=go acc.toList 0 fun j v e=>by
  obtain⟨t,z⟩:=hv j v (by simpa using e);exact⟨t,by rw [z]; simp⟩
 have e1:acc.toList.length=n:=by simpa using hsz
 rw [e1] at h1;unfold zbR;rw [cL];have e2:(V.int ∘ fun (i:Nat)=>lo+(i:Int))=fun (i:Nat)=>V.int (lo+((0+i:Nat):Int)):=by
  funext i;show V.int (lo+(i:Int))=V.int (lo+((0+i:Nat):Int));rw [cw]
 rw [e2];exact h1
theorem zfl {X:Cx} (hc:X.calm=true):zbc X (.type "list") (fun xs H Q=>∃ p hi,xs = [.ref p]∧H p=some (.rng 0 hi)∧0≤hi∧hi≤1000∧∀ l,H l=none→Q (.ref l) (lW H l (.lst ((zbR 0 hi.toNat).map V.int)))):=by
 intro lR s σ H xs us Q I r h;obtain⟨p,hi,rfl,hp,h0,h1,q⟩:=h;obtain⟨u,rfl,rx⟩:=vals1 r;cases rx;obtain⟨t,u',v,e⟩:=(show zao X.prog X.w H s.heap p (.rng 0 hi) from I.hok p _ hp);have o9:=a7;refine call_list_range (n:=hi.toNat) (I.ok.hd hc) (show IsRange s.heap p 0 hi 1 t u' v from e) (small_one #[O] #[O] #[O] #[O]) (by rw [rangeSize_one]; split <;> lia) #[O] fun h' tk Dm c' kk ho Dp=>?_
 have hv:=zfk (lo:=0) (n:=hi.toNat) Dp;refine⟨.ref s.heap.objs.size,_,I.laid kk (ag _) ?_,rfl,q _ I.fresh⟩;exact⟨by rw [ab,zcW]; lia,Dm.toList,c',hv,by simpa using ho⟩
def zqu (K:ah) (tl:TE):TI:=fun σ H R=>tl σ H fun x H1=>∃ a,x = .ref a∧(((∃ xs,lT K H1 a xs)∧R (Itl K a) H1)∨((∃ xs,me K H1 a xs)∧R (Itt K a) H1))
theorem zlb {X:Cx} {tg l:Expr} {tl:TE} (hl:PE X l tl):PI X tg l (zqu X.K tl):=by
 intro lR s σ H R I h;refine thn (hl lR s σ H _ I h) fun v s1 ⟨x,H1,I1,r1,q1⟩=>?_
 obtain⟨a,e,q⟩:=q1;subst e;cases r1;rcases q with ⟨⟨xs,hq⟩,q⟩ | ⟨⟨xs,hq⟩,q⟩
 ·obtain⟨lU,rv,p,hz⟩:=I1.list hq;refine fk p.isList ?_;refine⟨s1.heap.objs.size,[s1.heap.objs.size],_,_,H1,rfl,I1.kept (t':=s1.toks) fun b o e=>aj _ e,zfx a _,⟨_,aB _ rfl,rfl,rfl⟩,fun b hb=>?_,q⟩;have e:b=s1.heap.objs.size:=by simpa using hb
  subst e;exact I1.fpOk (ag _) (I1.hok.fresh (ag _))
 ·obtain⟨lU,rv,p,hz⟩:=I1.tuple hq;refine eZ (show s1.heap.IsTuple a lU.toArray from p) ?_;refine⟨s1.heap.objs.size,[s1.heap.objs.size],_,_,H1,rfl,I1.kept (t':=s1.toks) fun b o e=>aj _ e,zeA a _,⟨_,aB _ rfl,rfl,rfl⟩,fun b hb=>?_,q⟩;have e:b=s1.heap.objs.size:=by simpa using hb
  subst e;exact I1.fpOk (ag _) (I1.hok.fresh (ag _))
def intsOf:List Expr→Option (List Int)
 | []=>some []
 | .Constant (.int i) _ _ :: r=>(intsOf r).map (i :: ·)
 | _=>none
def zfK (ns:List Int):TA:=fun _ H Q=>Q (ns.map V.int) H
theorem zlc {X:Cx}:∀ (es:List Expr) (ns:List Int),intsOf es=some ns→PA X es (zfK ns):=by
 intro es;induction es with
 | nil =>
  intro ns h;have e:ns = []:=(aS h).symm;subst e;exact zd
 | cons e r ih =>
  intro ns h;unfold intsOf at h;split at h
  ·rename_i heq
   cases heq
  ·rename_i i j p r' heq
   injection heq with e1 e2
   subst e1 e2;cases hr:intsOf r with
   | none=>rw [hr] at h; cases h
   | some ms =>
    rw [hr] at h;have e:i :: ms=ns:=aS h;subst e;exact za zh (ih ms hr)
  ·cases h
theorem zmX {X:Cx} {es:List Expr} {ns:List Int} (h:intsOf es=some ns):PA X es (zfK ns):=zlc es ns h
theorem zhu {X:Cx} {i:Int} {j:Nat} {p:Pos} {es:List Expr} {t:TA} (hr:PA X es t):PA X (.Constant (.int i) j p :: es) (zn5 (tC (.int i)) t):=za zh hr
theorem zld {X:Cx} {i:Nat} {x:Str} {pos' oF qm:Pos} {rest:List Stmt} {u:TS} {es:List Expr} {ns:List Int} (h:intsOf es=some ns) (hN:X.N.Nodup) (hi:X.N[i]? = some x) (hx:Loc X.env.scope x)
  (hf:X.fn x=true∨X.env.scope.names.lookup x=some .local) (hr:PSs X rest u):PSs X (.Assign [.Name x pos'] (.List es oF) qm :: rest) (zpC (zic (zmQ (zfK ns)) (zaO i)) u):=by
 have h1:PE X (.List es oF) (zmQ (zfK ns)):=@zaC X es (zfK ns) oF (@zmX X es ns h);have h2:PS X (.Assign [.Name x pos'] (.List es oF) qm) (zic (zmQ (zfK ns)) (zaO i)):=zn hN hi hx h1 (by rfl) hf;exact ze h2 hr
section
variable {X:Cx} {K:ah}
theorem za5 (hK:X.K=K):IxR X (zpO K):=by subst hK; exact zM
theorem zle (hK:X.K=K):SlR X (zpQ K):=by subst hK; exact zcB
def zpT (K:ah):List V→Hp→VK→Prop:=fun xs H Q=>∃ p ys,xs = [.ref p]∧(lT K H p ys∨me K H p ys)∧Q (.int ys.length) H
theorem zbm (hK:X.K=K):zbc X (.builtin "len") (zpT K):=by subst hK; exact zJ
theorem zaa {es:List Expr} {k:Nat} {t:TGs} {n:Nat} {pos:Pos} (hK:X.K=K) (hc:X.calm=true) (h:PGs X es t)
  (hn:(assignEach es X.env).length=n:=by rfl) (oC:(assignEach es X.env).findIdx? (·.1)=none:=by rfl):PG X (.Tuple es k pos) (zhe K n t):=by subst hK; exact zaW hc h hn oC
theorem zoO {o e:Expr} {es:List Expr} {to:TE} {t:TA} {name:Str} {apos ni:Pos} {T id:String} {r:V→List V→Hp→VK→Prop} (hK:X.K=K) (pa:PlainAttrs T) (slot:Slot T name id) (CY:typeOf (.builtin id)=pure (.type "method_descriptor")) (hm:MtR X id r) (ho:PE X o to) (ha:PA X (e :: es) t)
  (vL:attributeBase o name X.env (eval o X.env)=eval o X.env:=by rfl)
  (yc:((backTo ni (starEach (e :: es) X.env)).all (fun x=>!x.1) && (backToKw ni (keywordEach [] X.env)).all (fun x=>x.1.isSome)
   && decide ((e :: es).length+([]:List Keyword).length+(if ([]:List Keyword).isEmpty then 0 else 1) < 30))=true:=by rfl)
  (vM:(apos.endLine == ni.line)=true:=by rfl) (hs:starEach (e :: es) X.env=(false,eval e X.env) :: starEach es X.env:=by rfl) (tT:(backTo ni (starEach es X.env)).any (·.1)=false:=by rfl) :
  PE X (.Call (.Attribute o name apos) (e :: es) [] ni) (tBM K T r to t):=by subst hK; exact zi6 pa slot CY hm ho ha vL yc vM hs tT
end
end L2
end
section
namespace My
def Cg (p a b:Int):Prop:=∃ k,a=b+p*k
theorem Cg.refl (p a:Int):Cg p a a:=⟨0,by grind⟩
theorem Cg.symm {p a b:Int} (h:Cg p a b):Cg p b a:=by obtain⟨k,e⟩:=h; exact⟨-k,by grind⟩
theorem Cg.trans {p a b c:Int} (h:Cg p a b) (h':Cg p b c):Cg p a c:=by
 obtain⟨k,e⟩:=h; obtain⟨l,e'⟩:=h'; exact⟨k+l,by grind⟩
theorem Cg.add {p a b c d:Int} (h:Cg p a b) (h':Cg p c d):Cg p (a+c) (b+d):=by
 obtain⟨k,e⟩:=h; obtain⟨l,e'⟩:=h'; exact⟨k+l,by grind⟩
theorem Cg.sub {p a b c d:Int} (h:Cg p a b) (h':Cg p c d):Cg p (a - c) (b - d):=by
 obtain⟨k,e⟩:=h; obtain⟨l,e'⟩:=h'; exact⟨k - l,by grind⟩
theorem Cg.mul {p a b c d:Int} (h:Cg p a b) (h':Cg p c d):Cg p (a*c) (b*d):=by
 obtain⟨k,e⟩:=h; obtain⟨l,e'⟩:=h';exact⟨k*d+b*l+p*k*l,by subst e e'; grind⟩
theorem Cg.of_eq {p a b:Int} (h:a=b):Cg p a b:=h ▸ Cg.refl p a
theorem Cg.emod (p a:Int):Cg p (a % p) a:=⟨-(a / p),by have:=Int.emod_add_mul_ediv a p; grind⟩
theorem Cg.mod_eq {p a b:Int} (h:Cg p a b):a % p=b % p:=by
 obtain⟨k,e⟩:=h; rw [e,Int.add_mul_emod_self_left]
theorem Cg.of_mod {p a b:Int} (h:a % p=b % p):Cg p a b:=(Cg.emod p a).symm.trans (h ▸ Cg.emod p b)
theorem Cg.eq {p a b:Int} (h:Cg p a b) (ha:0≤a) (ha':a < p) (hb:0≤b) (uO:b < p):a=b:=by
 have:=h.mod_eq
 rwa [cF ha ha',cF hb uO] at this
def zS (p x:Int):List Int→Int
 | []=>0
 | c :: r=>(c+x*zS p x r) % p
theorem zcC {p x:Int} (hp:0 < p):∀ l,0≤zS p x l
 | []=>bP 0
 | _ :: _=>aU _ #[O]
theorem zcD {p x:Int} (hp:0 < p):∀ l,zS p x l < p
 | []=>hp
 | _ :: _=>aO _ hp
theorem zaL (p x c:Int) (r:List Int):Cg p (zS p x (c :: r)) (c+x*zS p x r):=Cg.emod _ _
def lv (p x:Int):Int→Int→List Int→Int
 | mf,_,[]=>mf
 | mf,power,c :: r=>lv p x ((mf+c*power) % p) (power*x % p) r
theorem zn8 {p x:Int}:∀ (l:List Int) (mf power:Int),Cg p (lv p x mf power l) (mf+power*zS p x l)
 | [],mf,power=>Cg.of_eq (by show mf=mf+power*0; grind)
 | c :: r,mf,power=>by
  have h1:=zn8 (p:=p) (x:=x) r ((mf+c*power) % p) (power*x % p);refine h1.trans ?_;have h2:Cg p ((mf+c*power) % p+power*x % p*zS p x r) (mf+c*power+power*x*zS p x r):=(Cg.emod p _).add ((Cg.emod p (power*x)).mul (Cg.refl p _));refine h2.trans ?_;have h3:Cg p (mf+power*(c+x*zS p x r)) (mf+power*zS p x (c :: r)):=(Cg.refl p _).add ((Cg.refl p _).mul (zaL p x c r).symm);refine (Cg.of_eq ?_).trans h3;grind
theorem zlf {p x:Int} (hp:0 < p):∀ (l:List Int) (mf power:Int),0≤mf→mf < p→0≤lv p x mf power l∧lv p x mf power l < p
 | [],mf,power,h1,h2=>⟨h1,h2⟩
 | c :: r,mf,power,h1,h2=>zlf hp r _ _ (aU _ #[O]) (aO _ hp)
theorem zjc {p x:Int} (hp:0 < p) (l:List Int):lv p x 0 1 l=zS p x l:=by
 obtain⟨a,b⟩:=zlf (x:=x) hp l 0 1 (bP _) hp;exact ((zn8 l 0 1).trans (Cg.of_eq (by grind))).eq a b (zcC hp l) (zcD hp l)
def zr:List Int:=[5,7,11,13,17,19,23,29,31,37,41,43,47,53,59,61,67,71,73,79,83,89,97]
def zcE (p:Int):Nat→Int→Int→Int→Int
 | 0,prod,_,_=>prod
 | n+1,prod,sq,left=>if 0 < left then zcE p n (if left % 2=1 then prod*sq % p else prod) (sq*sq % p) (left / 2) else prod
def inv (p h:Int):Int:=zcE p 7 1 (h % p) (p - 2)
def zqv:Bool:=zr.all fun p=>(au p.toNat).all fun h=>h == 0 || (inv p h*h) % p == 1
theorem zj8:zqv=true:=by decide +kernel
theorem zy {p:Int} (hp:p∈zr):5≤p∧p≤97:=by
 have:zr.all (fun p=>decide (5≤p∧p≤97))=true:=by decide +kernel
 have:=fJ.mp this p hp;simpa using this
theorem zgq {p h:Int} (hp:p∈zr) (h0:0 < h) (h1:h < p):Cg p (inv p h*h) 1:=by
 have e:=fJ.mp (fJ.mp zj8 p hp) h.toNat (aJ.mpr #[O]);have hh:((h.toNat:Nat):Int)=h:=by lia
 have:h.toNat≠0:=by lia
 simp only [li,beq_iff_eq,hh,this,false_or] at e;have hr:=zy hp;exact Cg.of_mod (by rw [e,cF #[O] #[O]])
def trF (p r:Int) (high low:Int):Int:=(high - r*low) % p
def zde (p r:Int) (v:List Int):List Int:=cH (trF p r) (0 :: v) (v++[0])
theorem zcF (p r:Int) (v:List Int):(zde p r v).length=v.length+1:=by simp [zde]
theorem zhv {α β γ:Type} {f:α→β→γ}:∀ {as:List α} {bs:List β} {c:γ},c∈cH f as bs→∃ a b,c=f a b
 | [],_,c,h=>by simp at h
 | _ :: _,[],c,h=>by simp at h
 | a :: as,b :: bs,c,h=>by
  rcases aH.mp h with e | e
  ·exact⟨a,b,e⟩
  ·exact zhv e
structure Pts (p:Int) (lZ:List (Int×Int)):Prop where
 nd:(lZ.map (·.1)).Nodup
 rg:∀ q∈lZ,0≤q.1∧q.1 < p∧0≤q.2∧q.2 < p
end My
end
section
namespace My
open PySem L2 PyProof.Rows
section
variable {K:ah}
theorem zlg {ns:List Int} {k:Int} (h0:0≤k) (h1:k < ns.length):∃ c:Int,ns[k.toNat]? = some c∧atI (ns.map V.int) k=some (.int c):=by
 have mj:k.toNat < ns.length:=by lia
 have e:atI (ns.map V.int) ((k.toNat:Nat):Int)=some (.int ns[k.toNat]):=zax (by simp [af,ai mj]);have hk:((k.toNat:Nat):Int)=k:=by lia
 rw [hk] at e;exact⟨ns[k.toNat],#[M],e⟩
theorem zei {ns:List Int} {k:Int} (h0:0≤k) (h1:k < ns.length):∃ c:Int,atI (ns.map V.int) k=some (.int c):=let ⟨c,_,e⟩:=zlg h0 h1; ⟨c,e⟩
theorem zb {H:Hp} {a:Addr} {o:HO} (h:H a=none):zq H (lW H a o):=fun b u e=>by rw [zl (zB e h)]; exact e
theorem zat {H H':Hp} {a:Addr} {o:HO} (s:zq H H') (h:H a=none):zq H (lW H' a o):=fun b u e=>by rw [zl (zB e h)]; exact s b u e
theorem zay {n:Nat} (h:n≤10000):n < sizeLine:=by rw [a7]; lia
def zj9 (K:ah):Sp:=fun vs H Q _=>∃ (a:Addr) (ns:List Int) (k:Int),vs = [.ref a,.int k]∧lT K H a (ns.map V.int)∧ns.length≤63∧0≤k∧k≤1000∧∀ c:Int,Q (.int c) H
def zjd (many:Nat) (base:Int) (ds:List Int):Prop:=ds.length=many∧∀ d∈ds,0≤d∧d < base
def zio (K:ah):Sp:=fun vs H Q _=>∃ (a:Addr) (ns:List Int) (k many base:Int),vs = [.ref a,.int k,.int many,.int base]∧lT K H a (ns.map V.int)∧ns.length≤63∧0≤k∧k≤1000∧0≤many∧many≤1000∧0 < base∧base < 1073741824 ∧
 ∀ (l:Addr) (ds:List Int) (H':Hp),H l=none→zq H H'→zjd many.toNat base ds→H' l=some (.lst (ds.map V.int))→Q (.ref l) H'
abbrev zmY:List V:=[.int 2147483647,.int 2147483629,.int 2147483587,.int 2147483579,.int 2147483563,.int 2147483549,.int 2147483543,.int 2147483497]
theorem zmZ {m:Int} (h0:0≤m) (h1:m < 8):∃ q:Int,atI zmY m=some (.int q)∧0 < q∧q < 2147483648:=by
 have:m=0∨m=1∨m=2∨m=3∨m=4∨m=5∨m=6∨m=7:=by lia
 rcases this with e | e | e | e | e | e | e | e <;> subst e <;> exact⟨_,rfl,#[D],#[D]⟩
theorem zeG (j:Int):∃ q:Int,atI zmY (j % 8)=some (.int q)∧0 < q∧q < 2147483648:=zmZ (aU _ #[D]) (aO _ #[D])
theorem gY {i:Nat} {x:V} {σ:L2.St} {H:Hp} {A B:L2.St→Hp→Prop} (h:A (σ.set i (some x)) H):zaO i x σ H (fun σ2 H2=>zmW σ2 H2 fun b H3=>if b=true then A σ2 H3 else B σ2 H3):=by
 show (if true=true then A (σ.set i (some x)) H else B (σ.set i (some x)) H);rw [if_pos rfl];exact h
structure CodeOk (mk mn p k:Int) (pl:List Int):Prop where
 pr:p∈zr
 k1:1≤k
 kk:k≤mk
 kl:k≤pl.length
 ln:(pl.length:Int)≤mn
 nd:pl.Nodup
 rg:∀ x∈pl,0≤x∧x < p
def zka (K:ah):Sp:=fun vs H Q _=>∃ (a:Addr) (ns:List Int) (at' mk mn:Int),vs = [.ref a,.int at',.int mk,.int mn]∧lT K H a (ns.map V.int)∧ns.length≤63∧0≤at'∧at'≤1000∧1≤mk∧mk≤5∧mk≤mn∧mn≤16 ∧
 ∀ (c tt:Addr) (p k:Int) (pl:List Int) (H':Hp),H c=none→zq H H'→CodeOk mk mn p k pl→H' c=some (.tup [.int p,.int k,.ref tt])→H' tt=some (.tup (pl.map V.int))→Q (.ref c) H'
theorem zoP {x y m:Int} (h0:0≤m) (h1:m < 2):∃ z:Int,atI [V.int x,V.int y] m=some (.int z)∧(z=x∨z=y):=by
 have:m=0∨m=1:=by lia
 rcases this with e | e <;> subst e
 ·exact⟨x,rfl,.inl rfl⟩
 ·exact⟨y,rfl,.inr rfl⟩
theorem zlh {ns:List Int} {k:Int} (h0:0≤k) (h1:k < ns.length):∃ c:Int,c∈ns∧atI (ns.map V.int) k=some (.int c):=by
 obtain⟨c,e,h⟩:=zlg h0 h1;exact⟨c,aI e,h⟩
theorem zfL {α β:Type} (f:α→β):∀ (l:List α) (k:Nat),(l.map f).eraseIdx k=(l.eraseIdx k).map f
 | [],_=>rfl
 | _ :: _,0=>rfl
 | a :: l,k+1=>by show f a :: (l.map f).eraseIdx k=f a :: (l.eraseIdx k).map f; rw [zfL f l k]
theorem zeH {α:Type}:∀ {l:List α} {k:Nat} {x:α},l[k]? = some x→(x :: l.eraseIdx k).Perm l
 | [],_,_,h=>by simp at h
 | a :: l,0,x,h=>by
  have e:a=x:=by simpa using h
  subst e;exact List.Perm.refl _
 | a :: l,k+1,x,h=>by
  have ih:=zeH (l:=l) (k:=k) (x:=x) (by simpa using h);exact (List.Perm.swap a x _).trans (ih.cons a)
theorem zm0 {p:Int} {xs ls:List Int} {k:Nat} {x:Int} (h:ls[k]? = some x) (nd:(xs++ls).Nodup) (rg:∀ y∈xs++ls,0≤y∧y < p):((xs++[x])++ls.eraseIdx k).Nodup∧∀ y∈(xs++[x])++ls.eraseIdx k,0≤y∧y < p:=by
 have hp:((xs++[x])++ls.eraseIdx k).Perm (xs++ls):=by
  rw [bf];exact (zeH h).append_left xs
 exact⟨hp.nodup_iff.mpr nd,fun y hy=>rg y (hp.mem_iff.mp hy)⟩
theorem zkb (p:Int):(zbR 0 p.toNat).Nodup∧∀ y∈zbR 0 p.toNat,0≤y∧y < p:=by
 unfold zbR;constructor
 ·rw [cM,b7];exact (cM.mp (eI (n:=p.toNat))).imp fun {a b} yY=>by lia
 ·intro y hy;obtain⟨i,hi,e⟩:=av.mp hy;have:=aJ.mp hi;lia
def zdX (K:ah):Sp:=fun vs H Q _=>∃ (p x:Int) (a:Addr) (cs:List Int),vs = [.int p,.ref a,.int x]∧(lT K H a (cs.map V.int)∨me K H a (cs.map V.int))∧0 < p∧p≤97∧0≤x∧x < p∧Q (.int (zS p x cs)) H
def ziq (K:ah):Sp:=zdX K
theorem zfM {cs:List Int} {i:Nat} {c:Int} (hi:i < cs.length) (h:cs[cs.length - 1 - i]? = some c):cs.drop (cs.length - (i+1))=c :: cs.drop (cs.length - i):=by
 have e:cs.length - (i+1)=cs.length - 1 - i:=by lia
 have mj:cs.length - 1 - i < cs.length:=by lia
 rw [e,dv mj];have:cs[cs.length - 1 - i]=c:=by
  rw [ai mj] at h;exact aS h
 rw [this];congr 2;lia
theorem zam {cs:List Int} {j:Nat} {x:V} (h:(cs.map V.int)[j]? = some x):∃ c,x = .int c∧cs[j]? = some c:=by
 rw [af] at h;cases e:cs[j]? with
 | none=>rw [e] at h; cases h
 | some c=>rw [e] at h; exact⟨c,(aS h).symm,rfl⟩
theorem zje {p x mf power c:Int} {cs:List Int} {i:Nat} (h:cs[i]? = some c):lv p x mf power (cs.drop i)=lv p x ((mf+c*power) % p) (power*x % p) (cs.drop (i+1)):=by
 obtain⟨mj,e⟩:=aw.mp h;rw [dv mj,e];rfl
def zir (K:ah):Sp:=fun vs H Q _=>∃ (p h:Int),vs = [.int p,.int h]∧p∈zr∧0≤h∧h < p∧Q (.int (inv p h)) H
def zoQ (σ:L2.St):Nat:=match (σ[4]?:Option (Option V)) with
 | some (some (V.int l))=>l.toNat
 | _=>0
theorem zgr {p prod sq left:Int} {n:Nat} (h0:0 < left) (h1:left < 2 ^ (n+1)):zcE p (n+1) prod sq left=zcE p n (if left % 2=1 then prod*sq % p else prod) (sq*sq % p) (left / 2):=by
 show (if 0 < left then _ else _)=_;rw [if_pos h0]
theorem zhw {p prod sq:Int}:∀ n,zcE p n prod sq 0=prod
 | 0=>rfl
 | n+1=>by show (if (0:Int) < 0 then _ else prod)=prod; rw [if_neg #[D]]
theorem gY2 {K:ah} {i j:Nat} {T:Addr} {x y:V} {σ:L2.St} {H:Hp} {A B:L2.St→Hp→Prop} (hT:me K H T [x,y]) (h:A ((σ.set i (some x)).set j (some y)) H) :
  zhe K 2 (zbX (zaO i) (zbX (zaO j) zib)) (.ref T) σ H (fun σ2 H2=>zmW σ2 H2 fun b H3=>if b=true then A σ2 H3 else B σ2 H3):=by
 refine⟨T,_,rfl,hT,rfl,x,_,rfl,y,_,rfl,rfl,?_⟩;show (if true=true then A ((σ.set i (some x)).set j (some y)) H else B ((σ.set i (some x)).set j (some y)) H);rw [if_pos rfl];exact h
theorem zhx {f:Int→Int→Int} {as bs:List Int} {i:Nat} {x y:Int} (hx:as[i]? = some x) (hy:bs[i]? = some y):(cH f as bs).take (i+1)=(cH f as bs).take i++[f x y]:=by
 have e:(cH f as bs)[i]? = some (f x y):=by rw [jz,hx,hy]
 rw [iP,e,jV]
theorem zli (n:Nat):(aq n [V.int 0]).flatten=(aq n (0:Int)).map V.int:=by
 induction n with
 | zero=>rfl
 | succ n ih=>rw [cC,dI,ih,cC]; rfl
theorem zgs {n j:Nat} (h:j < n):ixN n (j:Int)=some j:=by
 unfold ixN;rw [if_pos #[O],if_pos #[O]];rfl
theorem zN {bs:List Addr} {i:Nat} {x:V} (h:(bs.map V.ref)[i]? = some x):∃ b,x = .ref b∧bs[i]? = some b:=by
 rw [af] at h;cases e:bs[i]? with
 | none=>rw [e] at h; cases h
 | some b=>rw [e] at h; exact⟨b,(aS h).symm,rfl⟩
theorem take_snoc {α:Type} {l:List α} {i:Nat} {x:α} (h:l[i]? = some x):l.take (i+1)=l.take i++[x]:=by
 rw [iP,h,jV]
theorem zlj {f:Int→Int→Int} {as bs:List Int} {n:Nat} (h1:n≤as.length) (h2:n≤bs.length) (h3:as.length≤n∨bs.length≤n):(cH f as bs).length=n:=by
 rw [j3];lia
theorem zfN {a b:Addr} {as bs:List Int} {n:Nat} {f:Int→Int→Int} {g:TG} {ts:TT} {te:TE} {σ0:L2.St} {Q:VK} {H:Hp} (ha:H a=some (.lst (as.map V.int))) (hb:H b=some (.lst (bs.map V.int))) (h1:n≤as.length) (h2:n≤bs.length) (h3:as.length≤n∨bs.length≤n) (hn:n≤10000)
  (hs:∀ (i:Nat) (x y:Int) (H1:Hp) (T:Addr) (R:VK) (B:L2.St→Hp→Prop),as[i]? = some x→bs[i]? = some y→zq H H1→H1 T=none→R (.int (f x y)) (lW H1 T (.tup [.int x,.int y]))→g (.ref T) σ0 (lW H1 T (.tup [.int x,.int y])) fun σ2 H2=>ts σ2 H2 fun b H3=>if b=true then te σ2 H3 R else B σ2 H3)
  (hd:∀ D H1,zq H H1→H1 D=none→Q (.ref D) (lW H1 D (.lst ((cH f as bs).map V.int)))):cGo g ts te σ0 (zj4 (lT K) (lT K) a b) Q H:=by
 have hl:=zlj (f:=f) h1 h2 h3;refine zK (n:=n) (fun i ys H'=>ys=((cH f as bs).take i).map V.int∧zq H H') ⟨#[M],fun _ _ e=>e⟩ ?_ ?_ ?_ ?_
 ·rintro i ys H3 hi ⟨_,s3⟩;obtain⟨x,hx⟩:∃ x,as[i]? = some x:=⟨as[i]'#[O],#[M]⟩;obtain⟨y,hy⟩:∃ y,bs[i]? = some y:=⟨bs[i]'#[O],#[M]⟩;exact⟨_,_,.int x,.int y,lT.of (s3 _ _ ha),lT.of (s3 _ _ hb),by rw [af,hx]; rfl,by rw [af,hy]; rfl⟩
 ·rintro ys H3 ⟨_,s3⟩;exact⟨_,_,lT.of (s3 _ _ ha),lT.of (s3 _ _ hb),by rw [ab,ab]; exact h3⟩
 ·rintro i x ys H3 H4 hi ⟨rfl,s3⟩ ⟨T,u,v,hT,rfl,rfl,hu,hv⟩;obtain⟨x,rfl,hx⟩:=zam (hu _ (lT.of (s3 _ _ ha)));obtain⟨y,rfl,hy⟩:=zam (hv _ (lT.of (s3 _ _ hb)));refine hs i x y H3 T _ _ hx hy s3 hT ⟨zay ?_,?_,s3.trans (zb hT)⟩
  ·rw [ab];exact aW (eQ _ _) #[O]
  ·rw [zhx hx hy,ap];rfl
 ·rintro ys H3 D ⟨rfl,s3⟩ hD;rw [aN #[O]];exact hd D H3 s3 hD
theorem za0 {a:Addr} {xs fs:List V} {g:TG} {ts:TT} {te:TE} {σ0:L2.St} {Q:VK} {H:Hp} (ha:lT K H a xs) (hl:fs.length=xs.length) (hn:xs.length≤10000)
  (hs:∀ (i:Nat) (x y:V) (R:VK) (B:L2.St→Hp→Prop),xs[i]? = some x→fs[i]? = some y→R y H→g x σ0 H fun σ2 H2=>ts σ2 H2 fun b H3=>if b=true then te σ2 H3 R else B σ2 H3)
  (hd:∀ D,H D=none→Q (.ref D) (lW H D (.lst fs))):cGo g ts te σ0 (Itl K a) Q H:=by
 refine zK (n:=xs.length) (fun i ys H'=>ys=fs.take i∧H'=H) ⟨#[M],rfl⟩ ?_ ?_ ?_ ?_
 ·rintro i ys H3 hi ⟨_,rfl⟩;exact⟨_,xs[i],ha,#[M]⟩
 ·rintro ys H3 ⟨_,rfl⟩;exact⟨_,ha,ag _⟩
 ·rintro i x ys H3 H4 hi ⟨rfl,rfl⟩ ⟨rfl,hx⟩;have hy:fs[i]? = some fs[i]:=by simp
  refine hs i x fs[i] _ _ (hx _ ha) hy ⟨zay (aW (eQ _ _) #[O]),?_,rfl⟩;rw [take_snoc hy]
 ·rintro ys H3 D ⟨rfl,rfl⟩ hD;rw [aN #[O]];exact hd D hD
theorem zdK {a:Addr} {xs fs:List V} {g:TG} {ts:TT} {te:TE} {σ0:L2.St} {Q:VK} {H:Hp} (ha:me K H a xs) (hl:fs.length=xs.length) (hn:xs.length≤10000)
  (hs:∀ (i:Nat) (x y:V) (R:VK) (B:L2.St→Hp→Prop),xs[i]? = some x→fs[i]? = some y→R y H→g x σ0 H fun σ2 H2=>ts σ2 H2 fun b H3=>if b=true then te σ2 H3 R else B σ2 H3)
  (hd:∀ D,H D=none→Q (.ref D) (lW H D (.lst fs))):cGo g ts te σ0 (Itt K a) Q H:=by
 refine zK (n:=xs.length) (fun i ys H'=>ys=fs.take i∧H'=H) ⟨#[M],rfl⟩ ?_ ?_ ?_ ?_
 ·rintro i ys H3 hi ⟨_,rfl⟩;exact⟨_,xs[i],ha,#[M]⟩
 ·rintro ys H3 ⟨_,rfl⟩;exact⟨_,ha,ag _⟩
 ·rintro i x ys H3 H4 hi ⟨rfl,rfl⟩ ⟨rfl,hx⟩;have hy:fs[i]? = some fs[i]:=by simp
  refine hs i x fs[i] _ _ (hx _ ha) hy ⟨zay (aW (eQ _ _) #[O]),?_,rfl⟩;rw [take_snoc hy]
 ·rintro ys H3 D ⟨rfl,rfl⟩ hD;rw [aN #[O]];exact hd D hD
theorem zhy {ms:List Int} {f:Int→V} {i:Nat} {x y:V} (hx:(ms.map V.int)[i]? = some x) (hy:(ms.map f)[i]? = some y):∃ c,ms[i]? = some c∧x = .int c∧y=f c:=by
 obtain⟨c,rfl,hc⟩:=zam hx;rw [af,hc] at hy;exact⟨c,hc,rfl,(aS hy).symm⟩
def zgt (K:ah):Sp:=fun vs H Q _=>∃ (a:Addr) (ns:List Int),vs = [.ref a]∧lT K H a (ns.map V.int)∧ns.length≤63∧∀ H',Q (.bl true) H'
end
end My
end
section
namespace PySem
abbrev IsZ (h:Heap) (z TI TO:Addr) (f0 f1:Value):Prop:=h.get? z=some { cls:=.type "zip",dict:=none,data:=.fields #[f0,f1,.bool false,.ref TI,.ref TO],slots:=#[] }
def ZF (f0 f1:Value):Prop:=(f0 = .none∨∃ a t,f0 = .int a t)∧∃ b,f1 = .bool b
structure Zap (z TI TO i1 i2:Addr) (qO qP:List Addr):Prop where
 zTI:TI≠z
 zTO:TO≠z
 z1:i1≠z
 z2:i2≠z
 TT:TI≠TO
 T1:TI≠i1
 T2:TI≠i2
 O1:TO≠i1
 O2:TO≠i2
 ii:i1≠i2
 a1:z∉qO
 a2:TO∉qO
 a3:i2∉qO
 b1:z∉qP
 b2:TO∉qP
 b3:i1∉qP
section
variable {prog:Program} {w:World} {A:Around} {E:Value→Shared→Prop} {s:Shared}
theorem zkc {a:Addr} {Q:Option Obj→Shared→Prop} (h:Q (s.heap.get? a) s):wpAny (model prog w) A (loadIfAlive a) Q E s:=fun _ _ _=>h
theorem zlk {z TI TO:Addr} {f0 f1:Value} {Q:Bool→Shared→Prop} (hz:IsZ s.heap z TI TO f0 f1) (hf:ZF f0 f1) (h1:Q true s)
  (h2:∀ h',IsZ h' z TI TO f0 (.bool true)→bw z s.heap h'→Q false { s with heap:=h' }):wpAny (model prog w) A (bY (.ref z)) Q E s:=by
 obtain⟨hf,b,rfl⟩:=hf;unfold bY; rcases hf with rfl | ⟨a,t,rfl⟩
 ·exact ae (bG hz rfl (x:=.none) rfl (ak h1))
 ·refine ae (bG hz rfl (x:=.int a t) rfl ?_);refine ae (zkc ?_);cases s.heap.get? a.toNat with
  | none=>exact ak h1
  | some o =>
   refine ae (bG hz rfl (x:=.bool b) rfl ?_);cases b with
   | true=>exact ak (h2 s.heap hz ⟨rfl,fun _ _=>rfl⟩)
   | false=>exact ae (bR hz #[M] fun h' a' b'=>ak (h2 h' a' b'))
theorem zjf {z TI TO i1 i2:Addr} {qO qP:List Addr} {n1 n2 k1 k2:Nat} {P1 P2:Nat→Value→Prop} {S1 S2:Nat→Heap→Prop} {f0 f1 a b:Value} {Q:Value→Shared→Prop} (D1:Draws prog w A i1 qO n1 P1 S1) (D2:Draws prog w A i2 qP n2 P2 S2) (Z:Zap z TI TO i1 i2 qO qP)
  (hz:IsZ s.heap z TI TO f0 f1) (hf:ZF f0 f1) (uP:IsPair s.heap TI (.ref i1) (.ref i2)) (vC:IsPair s.heap TO a b) (n5:S1 k1 s.heap) (mQ:S2 k2 s.heap) (l1:k1 < n1) (l2:k2 < n2)
  (hQ:∀ x y h' tk g0 g1 a' b',P1 k1 x→P2 k2 y→IsZ h' z TI TO g0 g1→ZF g0 g1→IsPair h' TI (.ref i1) (.ref i2)→IsPair h' TO a' b'→S1 (k1+1) h'→S2 (k2+1) h'→IsPair h' s.heap.objs.size x y→h'.objs.size=s.heap.objs.size+1 →
   (∀ c o,c≠z→c≠TO→c≠i1→c≠i2→s.heap.get? c=some o→h'.get? c=some o)→Q (.ref s.heap.objs.size) { s with heap:=h',toks:=tk }):wpAny (model prog w) A (Builtin.«zip.__next__» ⟨[.ref z],[]⟩) (fun fin s'=>∃ v,fin = .done (.ret v)∧Q v s') E s:=by
 obtain⟨hp,g,d,B8,os⟩:=s;show wpAny _ _ (field (.ref z) 2 >>= _) _ _ _; refine ae (bG hz rfl (x:=.bool false) rfl ?_); show wpAny _ _ (field (.ref z) 3 >>= _) _ _ _;refine ae (bG hz rfl (x:=.ref TI) rfl ?_); refine ae (cG uP rfl ?_);show wpAny _ _ (bY (.ref z) >>= _) _ _ _; refine ae (zlk hz hf ?_ fun h0 hz0 tN=>?_)
 ·simp only [if_true];refine ae (cr (ae (bG hz rfl (x:=.ref TO) rfl ?_)));refine ae (bR hz #[M] fun ha xJ sN=>?_);replace xJ:IsZ ha z TI TO .ellipsis f1:=xJ;replace sN:bw z hp ha:=sN;refine ae ?_;simp only [kU,lj,fb,iq]; refine ae (ae (iI ?_)); show wpAny _ _ (bp (.ref i1) >>= _) _ _ _;refine ae (D1.item k1 _ _ _ l1 (D1.frame _ _ _ n5 fun c hc o e=>sN.extBut c o (fun q=>Z.a1 (q ▸ hc)) e) fun x hb AE px AF nM=>ak ?_);replace nM:bw i1 ha hb:=nM;have vQ:IsPair hb TO a b:=nM.extBut _ _ Z.O1 (sN.extBut _ _ Z.zTO vC);refine ae (cG vQ rfl (ae (hU vQ fun hc wZ uQ=>?_)));replace wZ:IsPair hc TO x b:=wZ;replace uQ:bw TO hb hc:=uQ;refine ae (fj (ak (ae (ae (iI ?_))))); show wpAny _ _ (bp (.ref i2) >>= _) _ _ _;refine ae (D2.item k2 _ _ _ l2 (D2.frame _ _ _ mQ fun c qh o e=>uQ.extBut c o (fun q=>Z.b2 (q ▸ qh)) (nM.extBut c o (fun q=>Z.b3 (q ▸ qh)) (sN.extBut c o (fun q=>Z.b1 (q ▸ qh)) e))) fun y hd Dq py Dr rB=>ak ?_);replace rB:bw i2 hc hd:=rB;have w8:IsPair hd TO x b:=rB.extBut _ _ Z.O2 wZ;refine ae (cG w8 rfl (ae (hU w8 fun he xa yh=>?_)));replace xa:IsPair he TO x y:=xa;replace yh:bw TO hd he:=yh;refine ae (fj (ak (ak ?_))); refine ae (cG xa rfl (ae (ir ?_)));have hsz:he.objs.size=hp.objs.size:=by rw [yh.1,rB.1,uQ.1,nM.1,sN.1]
  have hze:IsZ he z TI TO .ellipsis f1:=yh.extBut _ _ Z.zTO.symm (rB.extBut _ _ Z.z2.symm (uQ.extBut _ _ Z.zTO.symm (nM.extBut _ _ Z.z1.symm xJ)));have kk:∀ c o,c≠z→c≠TO→c≠i1→c≠i2→hp.get? c=some o→he.get? c=some o:=fun c o c1 c2 c3 c4 e=>yh.extBut _ _ c2 (rB.extBut _ _ c4 (uQ.extBut _ _ c2 (nM.extBut _ _ c3 (sN.extBut _ _ c1 e))))
  have Ds:S1 (k1+1) he:=D1.frame _ _ _ AF fun c qh o e=>yh.extBut c o (fun q=>Z.a2 (q ▸ qh)) (rB.extBut c o (fun q=>Z.a3 (q ▸ qh)) (uQ.extBut c o (fun q=>Z.a2 (q ▸ qh)) e))
  have Dt:S2 (k2+1) he:=D2.frame _ _ _ Dr fun c qh o e=>yh.extBut c o (fun q=>Z.b2 (q ▸ qh)) e
  have zlt:z < he.objs.size:=aF hze;show wpAny _ _ (cW (.ref z) (.ref he.objs.size) >>= _) _ _ _;refine ae ?_;unfold cW; have uR:IsZ (he.push { cls:=.type "tuple",data:=.seq #[x,y] }) z TI TO .ellipsis f1:=aj _ hze;refine ae (bR uR #[M] fun h7 Du xK=>?_);replace Du:IsZ h7 z TI TO (rawInt he.objs.size) f1:=Du;refine bR Du #[M] fun h8 B9 Dv=>ak ⟨_,rfl,?_⟩
  replace B9:IsZ h8 z TI TO (rawInt he.objs.size) (.bool false):=B9;have up:∀ c o,c≠z→he.get? c=some o→h8.get? c=some o:=fun c o c1 e=>Dv.extBut _ _ c1 (xK.extBut _ _ c1 (aj _ e))
  have AG:IsPair h8 he.objs.size x y:=Dv.extBut _ _ (fY zlt) (xK.extBut _ _ (fY zlt) (aB _ rfl));have vR:h8.objs.size=he.objs.size+1:=by rw [Dv.1,xK.1,bM]
  show Q (.ref he.objs.size) _;rw [hsz] at B9 AG vR ⊢;exact hQ x y h8 Dq _ _ _ _ px py B9 ⟨.inr ⟨_,_,rfl⟩,_,rfl⟩ (up _ _ Z.zTI (kk _ _ Z.zTI Z.TT Z.T1 Z.T2 uP)) (up _ _ Z.zTO xa) (D1.frame _ _ _ Ds fun c qh o e=>up c o (fun q=>Z.a1 (q ▸ qh)) e) (D2.frame _ _ _ Dt fun c qh o e=>up c o (fun q=>Z.b1 (q ▸ qh)) e) AG vR fun c o c1 c2 c3 c4 e=>up c o c1 (kk c o c1 c2 c3 c4 e)
 ·simp only [bq,if_false]; replace tN:bw z hp h0:=tN;rw [show (#[bg i1,bg i2]:Array Value) = [bg i1,bg i2].toArray from rfl];simp only [kr,fb,iq];refine ae (ae (ae (bV ?_))); show wpAny _ _ (bp (.ref i1) >>= _) _ _ _;refine ae (D1.item k1 _ _ _ l1 (D1.frame _ _ _ n5 fun c hc o e=>tN.extBut c o (fun q=>Z.a1 (q ▸ hc)) e) fun x hb AE px AF nM=>ak (ak ?_));replace nM:bw i1 h0 hb:=nM;refine ae (ae (bV ?_)); show wpAny _ _ (bp (.ref i2) >>= _) _ _ _;refine ae (D2.item k2 _ _ _ l2 (D2.frame _ _ _ mQ fun c qh o e=>nM.extBut c o (fun q=>Z.b3 (q ▸ qh)) (tN.extBut c o (fun q=>Z.b1 (q ▸ qh)) e)) fun y hd Dq py Dr rB=>ak (ak (ak ?_)));replace rB:bw i2 hb hd:=rB;show wpAny _ _ (newTuple [x,y] >>= _) _ _ _;refine ae (ir (ak ⟨_,rfl,?_⟩));have hsz:hd.objs.size=hp.objs.size:=by rw [rB.1,nM.1,tN.1]
  have kk:∀ c o,c≠z→c≠TO→c≠i1→c≠i2→hp.get? c=some o→hd.get? c=some o:=fun c o c1 c2 c3 c4 e=>rB.extBut _ _ c4 (nM.extBut _ _ c3 (tN.extBut _ _ c1 e))
  have Ca:IsZ hd z TI TO f0 (.bool true):=rB.extBut _ _ Z.z2.symm (nM.extBut _ _ Z.z1.symm hz0);have w8:IsPair hd TO a b:=rB.extBut _ _ Z.O2 (nM.extBut _ _ Z.O1 (tN.extBut _ _ Z.zTO vC));have Dw:S1 (k1+1) hd:=D1.frame _ _ _ AF fun c qh o e=>rB.extBut c o (fun q=>Z.a3 (q ▸ qh)) e
  have up:∀ c o,hd.get? c=some o→(hd.push { cls:=.type "tuple",data:=.seq #[x,y] }).get? c=some o:=fun c o e=>aj _ e
  have AG:IsPair (hd.push { cls:=.type "tuple",data:=.seq #[x,y] }) hd.objs.size x y:=aB _ rfl;have vR:(hd.push { cls:=.type "tuple",data:=.seq #[x,y] }).objs.size=hd.objs.size+1:=bM ..;show Q (.ref hd.objs.size) _;rw [hsz] at AG vR ⊢;exact hQ x y _ Dq _ _ _ _ px py (up _ _ Ca) ⟨hf.1,_,rfl⟩ (up _ _ (kk _ _ Z.zTI Z.TT Z.T1 Z.T2 uP)) (up _ _ w8) (D1.frame _ _ _ Dw fun c _ o e=>up c o e) (D2.frame _ _ _ Dr fun c _ o e=>up c o e) AG vR fun c o c1 c2 c3 c4 e=>up c o (kk c o c1 c2 c3 c4 e)
theorem zll {z TI TO i1 i2:Addr} {qO qP:List Addr} {n1 n2 k1 k2:Nat} {P1 P2:Nat→Value→Prop} {S1 S2:Nat→Heap→Prop} {f0 f1 a b:Value} {Q:Fin→Shared→Prop} (D1:Draws prog w A i1 qO n1 P1 S1) (D2:Draws prog w A i2 qP n2 P2 S2) (Z:Zap z TI TO i1 i2 qO qP)
  (hz:IsZ s.heap z TI TO f0 f1) (hf:ZF f0 f1) (uP:IsPair s.heap TI (.ref i1) (.ref i2)) (vC:IsPair s.heap TO a b) (n5:S1 k1 s.heap) (mQ:S2 k2 s.heap) (l1:k1=n1∨(k1 < n1∧k2=n2))
  (hE:∀ h' tk e,(∀ c o,c≠z→c≠TO→c≠i1→c≠i2→s.heap.get? c=some o→h'.get? c=some o)→(∃ o,h'.get? e=some o∧o.cls = .type "StopIteration")→E (.ref e) { s with heap:=h',toks:=tk }):wpAny (model prog w) A (Builtin.«zip.__next__» ⟨[.ref z],[]⟩) Q E s:=by
 obtain⟨hp,g,d,B8,os⟩:=s;have nz:∀ {h:Heap} {e:Addr} {o:Obj} {x y:Value},IsZ h z TI TO x y→h.get? e=some o→o.cls = .type "StopIteration"→e≠z:=fun h1 h2 h3 q=>by subst q; rw [h1] at h2; cases h2; simp at h3
 show wpAny _ _ (field (.ref z) 2 >>= _) _ _ _; refine ae (bG hz rfl (x:=.bool false) rfl ?_); show wpAny _ _ (field (.ref z) 3 >>= _) _ _ _;refine ae (bG hz rfl (x:=.ref TI) rfl ?_); refine ae (cG uP rfl ?_);show wpAny _ _ (bY (.ref z) >>= _) _ _ _; refine ae (zlk hz hf ?_ fun h0 hz0 tN=>?_)
 ·simp only [if_true];refine ae (cr (ae (bG hz rfl (x:=.ref TO) rfl ?_)));refine ae (bR hz #[M] fun ha xJ sN=>?_);replace xJ:IsZ ha z TI TO .ellipsis f1:=xJ;replace sN:bw z hp ha:=sN;refine ae ?_;simp only [kU,lj,fb,iq]; refine ae (ae (iI ?_)); show wpAny _ _ (bp (.ref i1) >>= _) _ _ _;have vS:S1 k1 ha:=D1.frame _ _ _ n5 fun c hc o e=>sN.extBut c o (fun q=>Z.a1 (q ▸ hc)) e
  rcases l1 with rfl | ⟨l1,rfl⟩
  ·refine ae (D1.done _ _ _ vS fun hb e nM ⟨oe,AH,AI⟩=>?_);have hzb:IsZ hb z TI TO .ellipsis f1:=nM _ _ Z.z1.symm xJ;exact bR hzb #[M] fun h3 _ tO=>hE h3 B8 e (fun c o c1 _ c3 _ x=>tO.extBut _ _ c1 (nM _ _ c3 (sN.extBut _ _ c1 x))) ⟨oe,tO.extBut _ _ (nz hzb AH AI) AH,AI⟩
  ·refine ae (D1.item k1 _ _ _ l1 vS fun x hb AE px AF nM=>ak ?_);replace nM:bw i1 ha hb:=nM;have vQ:IsPair hb TO a b:=nM.extBut _ _ Z.O1 (sN.extBut _ _ Z.zTO vC);refine ae (cG vQ rfl (ae (hU vQ fun hc wZ uQ=>?_)));replace uQ:bw TO hb hc:=uQ;refine ae (fj (ak (ae (ae (iI ?_))))); show wpAny _ _ (bp (.ref i2) >>= _) _ _ _;refine ae (D2.done _ _ _ (D2.frame _ _ _ mQ fun c qh o e=>uQ.extBut c o (fun q=>Z.b2 (q ▸ qh)) (nM.extBut c o (fun q=>Z.b3 (q ▸ qh)) (sN.extBut c o (fun q=>Z.b1 (q ▸ qh)) e))) fun hd e rB ⟨oe,AH,AI⟩=>?_);have Ca:IsZ hd z TI TO .ellipsis f1:=rB _ _ Z.z2.symm (uQ.extBut _ _ Z.zTO.symm (nM.extBut _ _ Z.z1.symm xJ));exact bR Ca #[M] fun h3 _ tO=>hE h3 AE e (fun c o c1 c2 c3 c4 x=>tO.extBut _ _ c1 (rB _ _ c4 (uQ.extBut _ _ c2 (nM.extBut _ _ c3 (sN.extBut _ _ c1 x))))) ⟨oe,tO.extBut _ _ (nz Ca AH AI) AH,AI⟩
 ·simp only [bq,if_false]; replace tN:bw z hp h0:=tN;rw [show (#[bg i1,bg i2]:Array Value) = [bg i1,bg i2].toArray from rfl];simp only [kr,fb,iq];refine ae (ae (ae (bV ?_))); show wpAny _ _ (bp (.ref i1) >>= _) _ _ _;have vS:S1 k1 h0:=D1.frame _ _ _ n5 fun c hc o e=>tN.extBut c o (fun q=>Z.a1 (q ▸ hc)) e
  rcases l1 with rfl | ⟨l1,rfl⟩
  ·exact ae (D1.done _ _ _ vS fun hb e nM he=>hE hb B8 e (fun c o c1 _ c3 _ x=>nM _ _ c3 (tN.extBut _ _ c1 x)) he)
  ·refine ae (D1.item k1 _ _ _ l1 vS fun x hb AE px AF nM=>ak (ak ?_));replace nM:bw i1 h0 hb:=nM;refine ae (ae (bV ?_)); show wpAny _ _ (bp (.ref i2) >>= _) _ _ _;exact ae (D2.done _ _ _ (D2.frame _ _ _ mQ fun c qh o e=>nM.extBut c o (fun q=>Z.b3 (q ▸ qh)) (tN.extBut c o (fun q=>Z.b1 (q ▸ qh)) e)) fun hd e rB he=>hE hd AE e (fun c o c1 _ c3 c4 x=>rB _ _ c4 (nM.extBut _ _ c3 (tN.extBut _ _ c1 x))) he)
theorem zm1 {e z TI TO i1 i2:Addr} {qO qP:List Addr} {n1 n2 i:Nat} {P1 P2:Nat→Value→Prop} {S1 S2:Nat→Heap→Prop} {f0 f1 a b old:Value} {Q:Option Value→Shared→Prop} (D1:Draws prog w A.in1.in1 i1 qO n1 P1 S1) (D2:Draws prog w A.in1.in1 i2 qP n2 P2 S2) (Z:Zap z TI TO i1 i2 qO qP)
  (he:IsEnum s.heap e z i old) (ez:e≠z) (eT:e≠TI) (eO:e≠TO) (e1:e≠i1) (e2:e≠i2) (ef1:e∉qO) (ef2:e∉qP)
  (hz:IsZ s.heap z TI TO f0 f1) (hf:ZF f0 f1) (uP:IsPair s.heap TI (.ref i1) (.ref i2)) (vC:IsPair s.heap TO a b) (n5:S1 i s.heap) (mQ:S2 i s.heap) (l1:i < n1) (l2:i < n2)
  (hQ:∀ x y h' tk g0 g1 a' b',P1 i x→P2 i y→IsEnumOut h' e z ((i:Int)+1) (.ref s.heap.objs.size) (s.heap.objs.size+1)→IsZ h' z TI TO g0 g1→ZF g0 g1→IsPair h' TI (.ref i1) (.ref i2)→IsPair h' TO a' b'→S1 (i+1) h'→S2 (i+1) h'→IsPair h' s.heap.objs.size x y →
   IsPair h' (s.heap.objs.size+1) (.int i tk) (.ref s.heap.objs.size)→h'.objs.size=s.heap.objs.size+2 →
   (∀ c o,c≠e→c≠z→c≠TO→c≠i1→c≠i2→s.heap.get? c=some o→h'.get? c=some o)→Q (some (.ref (s.heap.objs.size+1))) { s with heap:=h',toks:=tk+1 }):wpAny (model prog w) A (pyNext (.ref e)) Q E s:=by
 have hT:s.TypeIs (.ref e) "enumerate":=⟨_,he,rfl⟩; have uS:s.TypeIs (.ref z) "zip":=⟨_,hz,rfl⟩;unfold pyNext;refine ae (c6 (bD (name:=bF "__next__") hT dq (bJ dq hT gF ?_ (gr _))));obtain⟨hp,g,d,B8,os⟩:=s;show wpAny _ _ (field (.ref e) 2 >>= _) _ _ _; refine ae (bG he rfl (x:=.ref z) rfl (ae ?_));unfold bp; refine ae (bD (name:=bF "__next__") uS dC (bJ dC uS gN ?_ (gz _)));refine zjf D1 D2 Z hz hf uP vC n5 mQ l1 l2 fun x y h1 tk g0 g1 a' b' px py rO Dx yi yj yk yl qT ym kk=>ak ?_
 have Dy:IsEnum h1 e z i old:=kk _ _ ez eO e1 e2 he;have elt:e < hp.objs.size:=aF he;show wpAny _ _ (field (.ref e) 3 >>= _) _ _ ⟨h1,g,d,tk,os⟩; refine ae (bG Dy rfl (x:=rawInt i) rfl ?_);show wpAny _ _ (field (.ref e) 4 >>= _) _ _ ⟨h1,g,d,tk,os⟩; refine ae (bG Dy rfl (x:=.none) rfl ?_);show wpAny _ _ (mkInt i >>= _) _ _ ⟨h1,g,d,tk,os⟩; refine ae (wpAny_mkInt ?_);show wpAny _ _ (setField (.ref e) 3 (rawInt ((i:Int)+1)) >>= _) _ _ ⟨h1,g,d,tk+1,os⟩; refine ae (bR Dy #[M] fun h2 Dz oQ=>?_);replace oQ:bw e h1 h2:=oQ;replace Dz:IsEnum h2 e z ((i:Int)+1) old:=Dz;show wpAny _ _ (setField (.ref e) 4 .none >>= _) _ _ ⟨h2,g,d,tk+1,os⟩; refine ae (bR Dz #[M] fun h3 DA tO=>?_);replace tO:bw e h2 h3:=tO;replace DA:IsEnum h3 e z ((i:Int)+1) old:=DA;show wpAny _ _ (newTuple [.int i tk,.ref hp.objs.size] >>= _) _ _ ⟨h3,g,d,tk+1,os⟩; refine ae (ir ?_);have z3:h3.objs.size=hp.objs.size+1:=by rw [tO.1,oQ.1]; exact ym
 rw [z3];have Cb:IsEnum (h3.push { cls:=.type "tuple",data:=.seq #[.int i tk,.ref hp.objs.size] }) e z ((i:Int)+1) old:=aj _ DA;have DB:=aB h3 (o:={ cls:=.type "tuple",data:=.seq #[.int i tk,.ref hp.objs.size] }) rfl;rw [z3] at DB;have k4:∀ c o,c≠e→h1.get? c=some o→(h3.push { cls:=.type "tuple",data:=.seq #[.int i tk,.ref hp.objs.size] }).get? c=some o:=fun c o ce x=>aj _ (tO.extBut c o ce (oQ.extBut c o ce x))
 have z4:(h3.push { cls:=.type "tuple",data:=.seq #[.int i tk,.ref hp.objs.size] }).objs.size=hp.objs.size+2:=by rw [bM,z3]
 generalize h3.push { cls:=.type "tuple",data:=.seq #[.int i tk,.ref hp.objs.size] }=h4 at Cb DB k4 z4 ⊢;show wpAny _ _ (bY (.ref e) >>= _) _ _ ⟨h4,g,d,tk+1,os⟩;refine ae ?_;unfold bY; refine ae (bG Cb rfl (x:=.none) rfl (ak ?_));simp only [if_true]; refine ae (cr (ae (bG Cb rfl (x:=old) rfl ?_)));refine ae (bR Cb #[M] fun h5 DC Cc=>?_);replace Cc:bw e h4 h5:=Cc;replace DC:IsEnum h5 e z ((i:Int)+1) (.ref hp.objs.size):=DC;show wpAny _ _ (cW (.ref e) (.ref (hp.objs.size+1)) >>= _) _ _ ⟨h5,g,d,tk+1,os⟩;refine ae ?_;unfold cW; refine ae (bR DC #[M] fun h6 DD Cd=>?_);replace Cd:bw e h5 h6:=Cd;replace DD:IsEnumOut h6 e z ((i:Int)+1) (.ref hp.objs.size) (hp.objs.size+1):=DD;refine bR DD #[M] fun h7 DE xK=>?_
 replace xK:bw e h6 h7:=xK;replace DE:IsEnumOut h7 e z ((i:Int)+1) (.ref hp.objs.size) (hp.objs.size+1):=DE;have up:∀ c o,c≠e→h4.get? c=some o→h7.get? c=some o:=fun c o ce x=>xK.extBut c o ce (Cd.extBut c o ce (Cc.extBut c o ce x))
 have z7:h7.objs.size=hp.objs.size+2:=by rw [xK.1,Cd.1,Cc.1,z4]
 refine ae (fj (ak ⟨_,rfl,ak ?_⟩));exact hQ x y h7 tk g0 g1 a' b' px py DE (up _ _ ez.symm (k4 _ _ ez.symm rO)) Dx (up _ _ eT.symm (k4 _ _ eT.symm yi)) (up _ _ eO.symm (k4 _ _ eO.symm yj))
  (D1.frame _ _ _ yk fun c hc o x=>up c o (fun q=>ef1 (q ▸ hc)) (k4 c o (fun q=>ef1 (q ▸ hc)) x)) (D2.frame _ _ _ yl fun c hc o x=>up c o (fun q=>ef2 (q ▸ hc)) (k4 c o (fun q=>ef2 (q ▸ hc)) x))
  (up _ _ (fY elt) (k4 _ _ (fY elt) qT)) (up _ _ (fY (d8 elt)) DB) z7 fun c o ce cz cO c1 c2 x=>up c o ce (k4 c o ce (kk c o cz cO c1 c2 x))
theorem zoR {e z TI TO i1 i2:Addr} {qO qP:List Addr} {n1 n2 k:Nat} {i:Int} {P1 P2:Nat→Value→Prop} {S1 S2:Nat→Heap→Prop} {f0 f1 a b old:Value} {Q:Option Value→Shared→Prop} (D1:Draws prog w A.in1.in1 i1 qO n1 P1 S1) (D2:Draws prog w A.in1.in1 i2 qP n2 P2 S2) (Z:Zap z TI TO i1 i2 qO qP)
  (he:IsEnum s.heap e z i old) (hz:IsZ s.heap z TI TO f0 f1) (hf:ZF f0 f1) (uP:IsPair s.heap TI (.ref i1) (.ref i2)) (vC:IsPair s.heap TO a b) (n5:S1 k s.heap) (mQ:S2 k s.heap) (l1:k=n1∨(k < n1∧k=n2))
  (hQ:∀ h' tk,(∀ c o,c≠z→c≠TO→c≠i1→c≠i2→s.heap.get? c=some o→h'.get? c=some o)→Q none { s with heap:=h',toks:=tk }):wpAny (model prog w) A (pyNext (.ref e)) Q E s:=by
 have hT:s.TypeIs (.ref e) "enumerate":=⟨_,he,rfl⟩; have uS:s.TypeIs (.ref z) "zip":=⟨_,hz,rfl⟩;unfold pyNext;refine ae (c6 (bD (name:=bF "__next__") hT dq (bJ dq hT gF ?_ (gr _))));show wpAny _ _ (field (.ref e) 2 >>= _) _ _ _; refine ae (bG he rfl (x:=.ref z) rfl (ae ?_));unfold bp; refine ae (bD (name:=bF "__next__") uS dC (bJ dC uS gN ?_ (gz _)));refine zll D1 D2 Z hz hf uP vC n5 mQ l1 fun h' tk x kk ⟨o,ho,hc⟩=>?_
 exact ae (eH (T:="StopIteration") (b:=true) ⟨o,ho,hc⟩ gj (ak (hQ h' tk kk)))
end
def zgu (x y:Value):Obj:={ cls:=.type "tuple",data:=.seq #[x,y] }
def zpU (a b:Addr):Obj:={ cls:=.type "zip",data:=.fields #[.none,.bool false,.bool false,.ref a,.ref b] }
def itO (C:String) (l:Addr):Obj:={ cls:=.type C,data:=.fields #[.ref l,.int 0 0] }
abbrev zt2 (C:String) (h:Heap) (l1 l2:Addr):Heap:=(h.push (zbA l1)).push (itO C l2)
abbrev zt4 (C:String) (h:Heap) (l1 l2:Addr):Heap:=((zt2 C h l1 l2).push (zgu (.ref h.objs.size) (.ref (h.push (zbA l1)).objs.size))).push (zgu .none .none)
abbrev zt5 (C:String) (h:Heap) (l1 l2:Addr):Heap:=(zt4 C h l1 l2).push (zpU (zt2 C h l1 l2).objs.size ((zt2 C h l1 l2).push (zgu (.ref h.objs.size) (.ref (h.push (zbA l1)).objs.size))).objs.size)
def ItC (C:String) (h:Heap) (a l:Addr) (i:Nat):Prop:=∃ o,h.get? a=some o∧o.cls = .type C∧o.data = .fields #[.ref l,.int i 0]
structure SkH (C:String) (Is:Heap→Addr→Array Value→Prop):Prop where
 it:∀ {prog:Program} {w:World} {A:Around} {E:Value→Shared→Prop} {s:Shared} {l:Addr} {items:Array Value} {Q:Value→Shared→Prop},Is s.heap l items→Q (.ref s.heap.objs.size) { s with heap:=s.heap.push (itO C l) }→wpAny (model prog w) A (pyIter (.ref l)) Q E s
 pu:∀ {h:Heap} {l:Addr} {items:Array Value} (o:Obj),Is h l items→Is (h.push o) l items
 dr:∀ {prog:Program} {w:World} {A:Around},A.handled=none→∀ (it l:Addr),l≠it→∀ (items:Array Value),Draws prog w A it [it,l] items.size (fun i v=>items[i]? = some v) fun i h=>ItC C h it l i∧Is h l items
theorem skL:SkH "list_iterator" Heap.IsList:=⟨fun h q=>fk h q,fun o h=>Heap.IsList.push h o,fun hh it l ne items=>gk hh it l ne items⟩
theorem zhz {C:String} {Is:Heap→Addr→Array Value→Prop} (S:SkH C Is) (l1 l2:Addr) (xs ys:Array Value):Meets (Builtin.«zip.__new__» ⟨[.type "zip",.ref l1,.ref l2],[]⟩) (fun _ R s=>s.heap.IsTuple l1 xs∧Is s.heap l2 ys∧R (.ok (.ret (.ref (zt4 C s.heap l1 l2).objs.size))) { s with heap:=zt5 C s.heap l1 l2 }) :=
 .of_wp fun prog w A R s h=>by
  obtain⟨hp,g,d,tk,os⟩:=s; obtain⟨uM,qe,h⟩:=h; have AB:=sub_zip;have Ce:Heap.IsTuple (jm ⟨hp,g,d,tk,os⟩) l1 xs:=uM;have hL2:Is (jm ⟨hp.push { cls:=.type "tuple_iterator",data:=.fields #[.ref l1,.int 0 0] },g,d,tk,os⟩) l2 ys:=S.pu _ qe
  wp_walk using eZ Ce,S.it hL2
  exact⟨_,rfl,h⟩
section
variable {prog:Program} {w:World} {A:Around} {E:Value→Shared→Prop} {s:Shared}
theorem zeI {C:String} {Is:Heap→Addr→Array Value→Prop} (S:SkH C Is) {l1 l2:Addr} {xs ys:Array Value} {Q:Value→Shared→Prop} (uM:s.heap.IsTuple l1 xs) (qe:Is s.heap l2 ys)
  (h:∀ h' n,n=s.heap.objs.size→IsZ h' (n+4) (n+2) (n+3) .none (.bool false)→IsPair h' (n+2) (.ref n) (.ref (n+1))→IsPair h' (n+3) .none .none→h'.IsTupleIter n l1 0→ItC C h' (n+1) l2 0→h'.objs.size=n+5 →
   (∀ c o,s.heap.get? c=some o→h'.get? c=some o)→Q (.ref (n+4)) { s with heap:=h' }):wpAny (model prog w) A (call (.type "zip") [.ref l1,.ref l2]) Q E s:=by
 refine iX F.called_zip #[D] (F.typeCall_zip_2 _ _) (F.newCall_zip_2 _ _) (fun obj=>F.args_object_init_3 obj _ _) F.entry_zip_new (zhz S l1 l2 xs ys) ⟨uM,qe,?_⟩;have z1:(s.heap.push (zbA l1)).objs.size=s.heap.objs.size+1:=bM ..;have z2:(zt2 C s.heap l1 l2).objs.size=s.heap.objs.size+2:=by rw [bM,z1]
 have z3:((zt2 C s.heap l1 l2).push (zgu (.ref s.heap.objs.size) (.ref (s.heap.push (zbA l1)).objs.size))).objs.size=s.heap.objs.size+3:=by rw [bM,z2]
 have z4:(zt4 C s.heap l1 l2).objs.size=s.heap.objs.size+4:=by rw [bM,z3]
 have g5:=aB (zt4 C s.heap l1 l2) (o:=zpU (zt2 C s.heap l1 l2).objs.size ((zt2 C s.heap l1 l2).push (zgu (.ref s.heap.objs.size) (.ref (s.heap.push (zbA l1)).objs.size))).objs.size) rfl;have g4:(zt5 C s.heap l1 l2).get? _=some _:=aj _ (aB ((zt2 C s.heap l1 l2).push (zgu (.ref s.heap.objs.size) (.ref (s.heap.push (zbA l1)).objs.size))) (o:=zgu .none .none) rfl);have g3:(zt5 C s.heap l1 l2).get? _=some _:=aj _ (aj _ (aB (zt2 C s.heap l1 l2) (o:=zgu (.ref s.heap.objs.size) (.ref (s.heap.push (zbA l1)).objs.size)) rfl));have g2:(zt5 C s.heap l1 l2).get? _=some _:=aj _ (aj _ (aj _ (aB (s.heap.push (zbA l1)) (o:=itO C l2) rfl)));have g1:(zt5 C s.heap l1 l2).get? s.heap.objs.size=some (zbA l1):=aj _ (aj _ (aj _ (aj _ (aB _ rfl))));have z5:(zt5 C s.heap l1 l2).objs.size=s.heap.objs.size+5:=by rw [bM,z4]
 have k5:∀ c o,s.heap.get? c=some o→(zt5 C s.heap l1 l2).get? c=some o:=fun c o x=>aj _ (aj _ (aj _ (aj _ (aj _ x))))
 show _∧_;rw [z4] at g5 ⊢;rw [z3] at g4;rw [z2] at g3;rw [z1] at g2;refine⟨⟨_,g5,rfl⟩,h _ _ rfl ?_ ?_ g4 ⟨_,g1,rfl,rfl⟩ ⟨_,g2,rfl,rfl⟩ z5 k5⟩
 ·have:IsZ (zt5 C s.heap l1 l2) (s.heap.objs.size+4) (zt2 C s.heap l1 l2).objs.size ((zt2 C s.heap l1 l2).push (zgu (.ref s.heap.objs.size) (.ref (s.heap.push (zbA l1)).objs.size))).objs.size .none (.bool false):=g5;rw [z2,z3] at this;exact this
 ·have:IsPair (zt5 C s.heap l1 l2) (s.heap.objs.size+2) (.ref s.heap.objs.size) (.ref (s.heap.push (zbA l1)).objs.size):=g3;rw [z1] at this;exact this
theorem zis {l1 l2:Addr} {xs ys:Array Value} {Q:Value→Shared→Prop} (uM:s.heap.IsTuple l1 xs) (qe:s.heap.IsList l2 ys)
  (h:∀ h' n,n=s.heap.objs.size→IsZ h' (n+4) (n+2) (n+3) .none (.bool false)→IsPair h' (n+2) (.ref n) (.ref (n+1))→IsPair h' (n+3) .none .none→h'.IsTupleIter n l1 0→h'.IsListIter (n+1) l2 0→h'.objs.size=n+5 →
   (∀ c o,s.heap.get? c=some o→h'.get? c=some o)→Q (.ref (n+4)) { s with heap:=h' }):wpAny (model prog w) A (call (.type "zip") [.ref l1,.ref l2]) Q E s:=zeI skL uM qe h
end
open AutoSeq1 (wpAny_loadPart') in
theorem zhA (z TI TO:Addr) (f0:Value):Meets (Builtin.«enumerate.__new__» ⟨[.type "enumerate",.ref z],[]⟩) (fun _ R s=>IsZip s.heap z TI TO f0∧R (.ok (.ret (.ref s.heap.objs.size))) { s with heap:=s.heap.push (zgo z) }) :=
 .of_wp fun prog w A R s h=>by
  obtain⟨hp,g,d,tk,os⟩:=s; obtain⟨hz,h⟩:=h;have hZ:IsZip (jm ⟨hp,g,d,tk,os⟩) z TI TO f0:=hz;have AB:=sub_enumerate; wp_walk using fc hz;refine wpAny_stack_any fun st=>ak ?_; split
  ·rename_i c _ _ _ _ _; cases (c == k8 "enumerate") <;> (wp_walk using fc hz,gM hZ; exact⟨_,rfl,h⟩)
  ·wp_walk using fc hz,gM hZ; exact⟨_,rfl,h⟩
theorem zit {prog:Program} {w:World} {A:Around} {E:Value→Shared→Prop} {s:Shared} {z TI TO:Addr} {f0:Value} {Q:Value→Shared→Prop} (hz:IsZip s.heap z TI TO f0)
  (h:∀ h',IsEnum h' s.heap.objs.size z 0 .none→h'.objs.size=s.heap.objs.size+1→(∀ b o,s.heap.get? b=some o→h'.get? b=some o)→Q (.ref s.heap.objs.size) { s with heap:=h' }):wpAny (model prog w) A (call (.type "enumerate") [.ref z]) Q E s:=by
 refine iX kq #[D] (jn _) (jx _) (fun obj=>hJ obj _) jy (zhA z TI TO f0) ⟨hz,?_⟩;have he:=aB s.heap (o:=zgo z) rfl;exact⟨⟨_,he,rfl⟩,h _ he (bM ..) fun b o x=>aj _ x⟩
end PySem
end
section
namespace L2
open PySem PySem.Spec PyProof.Rows
def zm2 (rn rq:Hp→Addr→List V→Prop) (a b:Addr):It :=
 ⟨fun i H=>∃ xs ys x y,rn H a xs∧rq H b ys∧xs[i]? = some x∧ys[i]? = some y,
  fun i H x H'=>∃ T1 T2 u v,H T1=none∧H T2=none∧T1≠T2∧x = .ref T2∧H'=lW (lW H T1 (.tup [u,v])) T2 (.tup [.int i,.ref T1])∧(∀ xs,rn H a xs→xs[i]? = some u)∧∀ ys,rq H b ys→ys[i]? = some v,
  fun i H=>∃ xs ys,rn H a xs∧rq H b ys∧xs.length=i⟩
abbrev zeJ (n:Nat):List Addr:=[n+5,n+4,n+2,n+3,n,n+1]
abbrev zoS (n a b:Nat) (i:Nat) (h:Heap):Prop:=(∃ old,IsEnum h (n+5) (n+4) i old)∧(∃ f0 f1,IsZ h (n+4) (n+2) (n+3) f0 f1∧ZF f0 f1)∧IsPair h (n+2) (.ref n) (.ref (n+1))∧(∃ u v,IsPair h (n+3) u v)∧h.IsTupleIter n a i∧h.IsListIter (n+1) b i
theorem nq {x y:Nat} (h:x≠y):@Ne Addr x y:=h
theorem nl {x y:Nat} (h:x < y):@LT.lt Nat _ x y:=h
theorem nm2 {c x y:Nat} (h1:c≠x) (h2:c≠y):¬ @Membership.mem Addr (List Addr) _ [x,y] c:=fun h=>by
 rcases aH.mp h with e | e
 ·exact h1 e
 ·exact h2 (bS.mp e)
theorem zcG {n a b:Nat} (ha:a < n) (hb:b < n):Zap (n+4) (n+2) (n+3) n (n+1) [n,a] [n+1,b] :=
 ⟨nq #[O],nq #[O],nq #[O],nq #[O],nq #[O],nq #[O],nq #[O],nq #[O],nq #[O],nq #[O],nm2 #[O] #[O],nm2 #[O] #[O],nm2 #[O] #[O],nm2 #[O] #[O],nm2 #[O] #[O],nm2 #[O] #[O]⟩
theorem zm3 {P:Program} {w:World} {K:ah} {es:List Expr} {k:Nat} {pos:Pos} (a b n:Nat) (ha:a < n) (hb:b < n):Turn P w K (.Tuple es k pos) (zm2 (me K) (lT K) a b) (zeJ n) (n+5) (zoS n a b) where
 mem:=by simp
 obj:=fun i h st c hc=>by
  obtain⟨⟨old,h0⟩,⟨f0,f1,h1,_⟩,h2,⟨u,v,h3⟩,⟨o4,e4,_,d4⟩,⟨o5,e5,_,d5⟩⟩:=st;simp only [zeJ,aH,aZ,or_false] at hc;rcases hc with z | z | z | z | z | z <;> subst z
  ·exact⟨_,h0,fun v z=>by cases z⟩
  ·exact⟨_,h1,fun v z=>by cases z⟩
  ·exact⟨_,h2,fun v z=>by cases z⟩
  ·exact⟨_,h3,fun v z=>by cases z⟩
  ·exact⟨_,e4,fun v z=>by rw [d4] at z; cases z⟩
  ·exact⟨_,e5,fun v z=>by rw [d5] at z; cases z⟩
 keep:=fun i h h' st kk=>by
  obtain⟨⟨old,h0⟩,⟨f0,f1,h1,hf⟩,h2,⟨u,v,h3⟩,h4,h5⟩:=st;exact⟨⟨old,kk _ #[M] _ h0⟩,⟨f0,f1,kk _ #[M] _ h1,hf⟩,kk _ #[M] _ h2,⟨u,v,kk _ #[M] _ h3⟩,h4.at fun o eo=>kk _ #[M] o eo,h5.at fun o eo=>kk _ #[M] o eo⟩
 item:=by
  intro X hP hw hK hc i lR s σ H E I hf st hg;subst hP hw hK;obtain⟨xs,ys,x,y,pE,n4,hx,hy⟩:=hg;obtain⟨⟨old,h0⟩,⟨f0,f1,h1,uR⟩,h2,⟨u0,v0,h3⟩,h4,h5⟩:=st;obtain⟨mP,rA,p1,rO⟩:=I.tuple pE;obtain⟨mJ,rP,p2,tM⟩:=I.list n4;obtain⟨u,hu,ru⟩:=rA.get hx;obtain⟨v,hv,rv⟩:=rP.get hy;have wA:n+5 < s.heap.objs.size:=aF h0;have hh:X.A.in1.in1.handled=none:=by simp [I.ok.hd hc]
  have qf:i < mP.toArray.size:=by have:=(aw.mp hu).1; simpa using this
  have qg:i < mJ.toArray.size:=by have:=(aw.mp hv).1; simpa using this
  refine zm1 (Draws.tuple hh n a (nq #[O]) mP.toArray) (gk hh (n+1) b (nq #[O]) mJ.toArray) (zcG ha hb) h0 (nq #[O]) (nq #[O]) (nq #[O]) (nq #[O]) (nq #[O]) (nm2 #[O] #[O]) (nm2 #[O] #[O]) h1 uR h2 h3 ⟨h4,(show s.heap.IsTuple a mP.toArray from p1)⟩ ⟨h5,p2.isList⟩ qf qg
   fun x' y' h' tk g0 g1 a' b' px py eo ez AJ e2 e3 t4 t5 pp pe hsz kk=>?_
  have eu:x'=u:=by
   have e1:mP[i]? = some x':=by simpa using px
   rw [hu] at e1; exact (aS e1).symm
  have ev:y'=v:=by
   have e1:mJ[i]? = some y':=by simpa using py
   rw [hv] at e1; exact (aS e1).symm
  subst eu ev;have ch:∀ c∈[n+5,n+4,n+3,n,n+1],c∈zeJ n:=fun c md=>by
   simp only [zeJ,aH,aZ,or_false] at md ⊢;rcases md with z | z | z | z | z <;> subst z <;> simp
  have k1:∀ c o,c∉[n+5,n+4,n+3,n,n+1]→s.heap.get? c=some o→h'.get? c=some o:=fun c o md eo=>by
   simp only [aH,aZ,or_false,not_or] at md;exact kk c o md.1 md.2.1 md.2.2.1 md.2.2.2.1 md.2.2.2.2 eo
  have wY:∀ c∈[n+5,n+4,n+3,n,n+1],∃ o,h'.get? c=some o:=fun c md=>by
   simp only [aH,aZ,or_false] at md;rcases md with z | z | z | z | z <;> subst z
   ·exact⟨_,eo⟩
   ·exact⟨_,ez⟩
   ·exact⟨_,e3⟩
   ·obtain⟨o,e,_⟩:=t4.1; exact⟨o,e⟩
   ·obtain⟨o,e,_⟩:=t5.1; exact⟨o,e⟩
  have I1:Inv X lR σ (lW H s.heap.objs.size (.tup [x,y])) { s with heap:=h',toks:=tk+1 } :=
   I.turnedNew k1 (fun c md=>hf c (ch c md)) wY (ag _) ⟨zaE,_,.cons ru (.cons rv .nil),zbd pp⟩
  have uJ:H (s.heap.objs.size+1)=none:=I.hok.fresh (fP _);have DF:lW H s.heap.objs.size (.tup [x,y]) (s.heap.objs.size+1)=none:=by rw [zl (gL _)]; exact uJ
  obtain⟨_,a1,a2,a3,a4,a5⟩:=I.fpOk (H':=H) (fP s.heap.objs.size) uJ;have I1':Inv X lR σ (lW (lW H s.heap.objs.size (.tup [x,y])) (s.heap.objs.size+1) (.tup [.int i,.ref s.heap.objs.size])) { s with heap:=h',toks:=tk+1 } :=
   I1.track DF (aW I.sz (fP _)) (cQ a1) a4 a5 ⟨zaE,_,.cons ⟨tk,rfl⟩ (.cons rfl .nil),zbd pe⟩
  refine⟨_,rfl,fN eo fun vB sM nL=>?_⟩;have fr:∀ c∈zeJ n,lW (lW H s.heap.objs.size (.tup [x,y])) (s.heap.objs.size+1) (.tup [.int i,.ref s.heap.objs.size]) c=none:=fun c md=>by
   have mj:c < s.heap.objs.size:=by
    simp only [zeJ,aH,aZ,or_false] at md;rcases md with z | z | z | z | z | z <;> subst z <;> exact nl #[O]
   rw [zl (bh (d8 mj)),zl (bh mj)];exact (hf c md).1
  have I2:Inv X lR σ (lW (lW H s.heap.objs.size (.tup [x,y])) (s.heap.objs.size+1) (.tup [.int i,.ref s.heap.objs.size])) { s with heap:=vB,toks:=tk+1 } :=
   Inv.turnedL (s:={ s with heap:=h',toks:=tk+1 }) (ch:=[n+5]) (t':=tk+1) I1' (fun c o md eo=>nL.extBut c o (by simpa using md) eo) (fun c md=>by
    have z:c=n+5:=by simpa using md
    subst z;exact⟨fr _ #[M],(hf _ #[M]).2⟩) (fun c md=>by
    have z:c=n+5:=by simpa using md
    subst z;exact⟨_,sM⟩)
  have up:∀ c o,c≠n+5→h'.get? c=some o→vB.get? c=some o:=fun c o md e=>nL.extBut c o md e
  exact⟨.ref (s.heap.objs.size+1),_,I2,rfl,⟨_,_,x,y,I.fresh,uJ,bh (kS _),rfl,rfl,fun zs hz=>by rw [I.tuple_inj hz pE]; exact hx,fun zs hz=>by rw [I.list_inj hz n4]; exact hy⟩,
   ⟨⟨_,by simpa using sM⟩,⟨g0,g1,up _ _ (nq #[O]) ez,AJ⟩,up _ _ (nq #[O]) e2,⟨_,_,up _ _ (nq #[O]) e3⟩,t4.1.at fun o e=>up _ o (nq #[O]) e,t5.1.at fun o e=>up _ o (nq #[O]) e⟩,fr⟩
 done:=by
  intro X hP hw hK hc i lR s σ H E I hf st hg;subst hP hw hK;obtain⟨xs,ys,pE,n4,hx⟩:=hg;obtain⟨⟨old,h0⟩,⟨f0,f1,h1,uR⟩,h2,⟨u0,v0,h3⟩,h4,h5⟩:=st;obtain⟨mP,rA,p1,rO⟩:=I.tuple pE;obtain⟨mJ,rP,p2,tM⟩:=I.list n4;have hh:X.A.in1.in1.handled=none:=by simp [I.ok.hd hc]
  have uM:=rA.length;refine zoR (Draws.tuple hh n a (nq #[O]) mP.toArray) (gk hh (n+1) b (nq #[O]) mJ.toArray) (zcG ha hb) h0 h1 uR h2 h3 ⟨h4,(show s.heap.IsTuple a mP.toArray from p1)⟩ ⟨h5,p2.isList⟩ (.inl (by rw [az]; lia)) fun h' tk kk=>⟨rfl,?_⟩
  have sub:∀ c∈[n+4,n+3,n,n+1],c∈zeJ n:=fun c md=>by
   simp only [zeJ,aH,aZ,or_false] at md ⊢;rcases md with z | z | z | z <;> subst z <;> simp
  have k1:∀ c o,c∉[n+4,n+3,n,n+1]→s.heap.get? c=some o→h'.get? c=some o:=fun c o md e=>by
   simp only [aH,aZ,or_false,not_or] at md;exact kk c o md.1 md.2.1 md.2.2.1 md.2.2.2 e
  have sH:∀ d u',H d=some u'→d∉[n+4,n+3,n,n+1]:=fun d u' e' hd=>by rw [(hf d (sub d hd)).1] at e'; cases e'
  refine I.step (g':=s.gens) (d':=s.drawn) (t':=tk) (ch:=[n+4,n+3,n,n+1]) (fun c md=>?_) (fun c o _ _ nV e _=>k1 c o nV e) (fun c o _ _ nV e _=>⟨o.slots,k1 c o nV e⟩) (fun _ _ _ _ n=>n)
   (fun c o nV e=>⟨o,k1 c o nV e⟩) (fun _ _ e=>e) (fun _ _ _ e=>e) (fun c ps e=>⟨#[],by rw [e]; simp⟩) (fun m hm=>?_) (fun c u e=>?_) I.bare
  ·obtain⟨_,a1,_,a3,a4,a5⟩:=hf c (sub c md);exact⟨a3,a1,a4,a5⟩
  ·obtain⟨o,vt,ep,ho,r⟩:=hm;exact⟨o,vt,ep,k1 _ o (fun z=>(hf _ (sub _ z)).2.1 rfl) ho,r⟩
  ·refine (I.hok c u e).stay (fun d v' hd q=>k1 d v' ?_ q) (fun _ q=>q) fun _ _ q=>q
   rcases hd with z | z
   ·rw [z]; exact sH c u e
   ·exact sH d _ z
 self:=fun _ _ _ _ _ st h=>by
  obtain⟨⟨old,he⟩,_⟩:=st;exact d9 he h
def iEZ (rn rq:Hp→Addr→List V→Prop) (ta:TA):TI:=fun σ H R=>ta σ H fun vs H1=>∃ a b xs ys,vs = [.ref a,.ref b]∧rn H1 a xs∧rq H1 b ys∧R (zm2 rn rq a b) H1
theorem ziu {X:Cx} {es:List Expr} {k:Nat} {oE p p2 pos oF:Pos} {a b:Expr} {ta:TA} (hg:Gl X "enumerate") (hm:X.mg "enumerate" = none) (xb:Gl X "zip") (rQ:X.mg "zip" = none) (ha:PA X [a,b] ta) (hs:starEach [a,b] X.env = [(false,eval a X.env),(false,eval b X.env)]:=by rfl) (oQ:starEach [b] X.env = [(false,eval b X.env)]:=by rfl)
  (tO:starEach [.Call (.Name "zip" p2) [a,b] [] oF] X.env = [(false,eval (.Call (.Name "zip" p2) [a,b] [] oF) X.env)]:=by rfl) :
  PI X (.Tuple es k oE) (.Call (.Name "enumerate" p) [.Call (.Name "zip" p2) [a,b] [] oF] [] pos) (iEZ (me X.K) (lT X.K) ta):=by
 intro lR s σ H R I h;refine Call_ (zaV I hg hm jv (bn ?_ tO rfl));rw [tO];show wpAny _ _ (spliced ((false,eval (.Call (.Name "zip" p2) [a,b] [] oF) X.env) :: [])) _ _ s;refine dR ?_;refine Call_ (zaV I xb rQ kT (bn (thn (ha oF lR s σ H _ I h) fun us s1 ⟨vs,H1,I1,r1,q1⟩=>?_) (by rw [hs,oQ]) (by rw [oQ]; rfl)));obtain⟨l1,l2,xs,ys,e,pE,n4,q⟩:=q1;subst e;cases r1 with
 | cons r rr =>
  cases rr with
  | cons r' rr =>
   cases rr;cases r;cases r';obtain⟨mP,rA,vP,rO⟩:=I1.tuple pE;obtain⟨mJ,rP,wB,tM⟩:=I1.list n4;have qf:l1 < s1.heap.objs.size:=by obtain⟨_,e,_⟩:=vP; exact aF e
   have qg:l2 < s1.heap.objs.size:=by obtain⟨_,_,e,_⟩:=wB; exact aF e
   refine zis (show s1.heap.IsTuple l1 mP.toArray from vP) wB.isList fun h' n hn b1 b2 b3 b4 b5 b6 kk=>?_
   refine fm ?_;refine zit b1 fun h2 he hsz wC=>?_
   have I2:Inv X lR σ H1 { s1 with heap:=h2 }:=I1.kept (t':=s1.toks) fun c o e=>wC c o (kk c o e)
   refine d9 he ?_; have e5:h'.objs.size=n+5:=b6;have AD:IsEnum h2 (n+5) (n+4) 0 .none:=by rw [← e5]; exact he
   refine⟨_,zeJ n,zoS n l1 l2,zm2 (me X.K) (lT X.K) l1 l2,H1,rfl,I2,?_,⟨⟨_,AD⟩,⟨_,_,wC _ _ b1,.inl rfl,_,rfl⟩,wC _ _ b2,⟨_,_,wC _ _ b3⟩,b4.at fun o e=>wC _ o e,b5.at fun o e=>wC _ o e⟩,fun c hc=>?_,q⟩
   ·show Turn X.prog X.w X.K (.Tuple es k oE) (zm2 (me X.K) (lT X.K) l1 l2) (zeJ n) h'.objs.size (zoS n l1 l2);rw [e5];exact zm3 l1 l2 n (by rw [hn]; exact qf) (by rw [hn]; exact qg)
   ·have hle:s1.heap.objs.size≤c:=by
     simp only [zeJ,aH,aZ,or_false] at hc;rw [← hn];rcases hc with z | z | z | z | z | z <;> subst z
     all_goals first | exact gO _ _ | exact ag _
    exact I1.fpOk hle (I1.hok.fresh hle)
theorem zdf:∀ (bs:List Bool),(au bs.length).all (fun i=>bs.getD i false)=bs.all id
 | []=>rfl
 | b :: bs=>by
  rw [bm,gG,lG,List.all_map,lG];have ih:=zdf bs;have e:((fun i=>(b :: bs).getD i false) ∘ lM)=fun i=>bs.getD i false:=by funext i; rfl
  rw [e,ih];rfl
theorem zkd {X:Cx} (hc:X.calm=true):zbc X (.builtin "all") (fun xs H Q=>∃ (p:Addr) (bs:List Bool),xs = [.ref p]∧lT X.K H p (bs.map V.bl)∧Q (.bl (bs.all id)) H):=by
 intro lR s σ H xs us Q I r h;obtain⟨p,bs,rfl,hq,q⟩:=h;obtain⟨u,rfl,rx⟩:=vals1 r;cases rx;obtain⟨lU,rv,pl,hz⟩:=I.list hq;have hl:=rv.length;rw [ab] at hl;have mj:p < s.heap.objs.size:=by obtain⟨_,_,e,_⟩:=pl; exact aF e
 refine call_all_walk (fk pl.isList ?_);refine⟨s.heap.objs.size,_,_,lU.toArray.size,_,_,fun i=>bs.getD i false,rfl,lq (by simp [I.ok.hd hc]) s.heap.objs.size p (bh mj) lU.toArray,⟨⟨_,aB _ rfl,rfl,rfl⟩,pl.isList.push _⟩,fun i v s' Q' E' hP hQ=>?_,fun h' tk kk=>?_⟩
 ·have e1:lU[i]? = some v:=by simpa using hP
  obtain⟨hi,_⟩:=aw.mp e1;have nK:i < bs.length:=by lia
  obtain⟨u,hu,ru⟩:=rv.get (i:=i) (x:=V.bl bs[i]) (by rw [af,ai nK]; rfl);rw [e1] at hu;cases hu;have ru:v=k7 bs[i]:=ru;subst ru;have e2:bs.getD i false=bs[i]:=by simp [nK]
  have hQ:Q' (bs.getD i false) s':=hQ;rw [e2] at hQ;exact dH hQ
 ·rw [az,← hl,zdf];exact⟨.bl (bs.all id),H,I.kept fun b o e=>kk b o (fun z=>by
   have z:b=s.heap.objs.size:=by simpa using z
   exact absurd (aF e) (by rw [z]; exact cb _)) (aj _ e),rfl,q⟩
theorem ziv {K:ah} {i j:Nat}:∀ (x:V) (σ:St) (H:Hp) (Q Q':St→Hp→Prop),(∀ σ' H',Q σ' H'→Q' σ' H')→zhe K 2 (zbX (zaO i) (zbX (zaO j) zib)) x σ H Q→zhe K 2 (zbX (zaO i) (zbX (zaO j) zib)) x σ H Q':=fun x σ H Q Q' hq ⟨a,xs,e1,h1,h2,v,r,e3,v2,r2,e4,e5,h⟩=>⟨a,xs,e1,h1,h2,v,r,e3,v2,r2,e4,e5,hq _ _ h⟩
end L2
end
section
namespace My
open PySem L2 PyProof.Rows
section
variable {K:ah}
def zqC (H:Hp):V→Option (List V)
 | .ref a=>match H a with
  | some (.lst xs)=>some xs
  | _=>none
 | _=>none
def zbS (H:Hp) (c tt:Addr) (p k:Int) (pl:List Int):Prop:=H c=some (.tup [.int p,.int k,.ref tt])∧H tt=some (.tup (pl.map V.int))
theorem zbS.same {H H':Hp} {c tt:Addr} {p k:Int} {pl:List Int} (s:zq H H') (h:zbS H c tt p k pl):zbS H' c tt p k pl:=⟨s _ _ h.1,s _ _ h.2⟩
theorem zke {a:Addr} {xs:List V} {kp:V→Bool} {f:V→V} {g:TG} {ts:TT} {te:TE} {σ0:L2.St} {Q:VK} {H:Hp} (ha:lT K H a xs) (hn:xs.length≤10000)
  (hs:∀ (i:Nat) (x:V) (R:VK) (B:Hp→Prop),xs[i]? = some x→(if kp x=true then R (f x) H else B H)→g x σ0 H fun σ2 H2=>ts σ2 H2 fun b H3=>if b=true then te σ2 H3 R else B H3)
  (hd:∀ D,H D=none→Q (.ref D) (lW H D (.lst ((xs.filter kp).map f)))):cGo g ts te σ0 (Itl K a) Q H:=by
 refine zK (n:=xs.length) (fun i ys H'=>ys=((xs.take i).filter kp).map f∧H'=H) ⟨#[M],rfl⟩ ?_ ?_ ?_ ?_
 ·rintro i ys H3 hi ⟨_,rfl⟩;exact⟨_,xs[i],ha,#[M]⟩
 ·rintro ys H3 ⟨_,rfl⟩;exact⟨_,ha,ag _⟩
 ·rintro i x ys H3 H4 hi ⟨rfl,rfl⟩ ⟨rfl,hx⟩;refine hs i x _ _ (hx _ ha) ?_;rw [take_snoc (hx _ ha),cX,ap];by_cases h:kp x=true
  ·rw [if_pos h];refine⟨zay ?_,?_,rfl⟩
   ·rw [ab];exact aW (cT _ _) (aW (eQ _ _) #[O])
   ·congr 1;simp [h]
  ·rw [if_neg h];refine⟨?_,rfl⟩;simp [h]
 ·rintro ys H3 D ⟨rfl,rfl⟩ hD;rw [cY];exact hd D hD
def pY:Option Int→V
 | none=>.non
 | some i=>.int i
def zfO (p:Int) (pl:List Int) (rw:List (Option Int)) (nj:List Int) (j:Nat):Bool:=match pl[j]?,rw[j]? with
 | some x,some (some i)=>decide (i=zS p x nj)
 | _,_=>false
def zeK (p:Int) (pl:List Int) (rw:List (Option Int)) (nj:List Int) (n:Nat):List Int:=((au n).filter (zfO p pl rw nj)).map fun (j:Nat)=>(j:Int)
theorem zfP {p:Int} {pl:List Int} {rw:List (Option Int)} {nj:List Int} {n:Nat}:zeK p pl rw nj (n+1)=zeK p pl rw nj n++if zfO p pl rw nj n then [(n:Int)] else []:=by
 unfold zeK;rw [bU,cX,ap];congr 1;by_cases h:zfO p pl rw nj n=true
 ·rw [if_pos h]; simp [h]
 ·rw [if_neg h]; simp [h]
theorem zhB (p:Int) (pl:List Int) (rw:List (Option Int)) (nj:List Int) (n:Nat):(zeK p pl rw nj n).length≤n:=by
 unfold zeK;rw [ab];exact aW (cT _ _) (by rw [aD]; exact ag _)
theorem zgv {rw:List (Option Int)} {j:Nat} {x:V} (h:(rw.map pY)[j]? = some x):∃ o,x=pY o∧rw[j]? = some o:=by
 rw [af] at h;cases e:rw[j]? with
 | none=>rw [e] at h; cases h
 | some c=>rw [e] at h; exact⟨c,(aS h).symm,rfl⟩
end
section
variable {K:ah}
def zm4 (K:ah):Sp:=fun vs H Q _=>∃ (c tt ra po:Addr) (p k:Int) (pl nj:List Int) (rw:List (Option Int)),vs = [.ref c,.ref ra,.ref po]∧zbS H c tt p k pl∧H ra=some (.lst (rw.map pY))∧rw.length=pl.length∧H po=some (.tup (nj.map V.int))∧0 < p∧p≤97∧(∀ x∈pl,0≤x∧x < p)∧pl.length≤100 ∧
 ∀ (l:Addr) (H':Hp),H l=none→zq H H'→H' l=some (.lst ((zeK p pl rw nj pl.length).map V.int))→Q (.ref l) H'
theorem zlm (o:Option Int) (z:Int):zoD (pY o) (.int z)=true:=by cases o <;> rfl
theorem zln {p:Int} {pl:List Int} {rw:List (Option Int)} {nj:List Int} {j:Nat} {x:Int} {o:Option Int} (hx:pl[j]? = some x) (ho:rw[j]? = some o):zfO p pl rw nj j=decide (pY o = .int (zS p x nj)):=by
 unfold zfO;rw [hx,ho];cases o with
 | none=>rfl
 | some i=>simp [pY]
end
end My
end
section
namespace PySem
section
variable {prog:Program} {w:World} {A:Around} {E:Value→Shared→Prop} {s:Shared}
theorem zjg {z TI TO i1 i2:Addr} {qO qP:List Addr} {n1 n2 k1 k2:Nat} {P1 P2:Nat→Value→Prop} {S1 S2:Nat→Heap→Prop} {f0 f1 a b:Value} {Q:Option Value→Shared→Prop} (D1:Draws prog w A.in1 i1 qO n1 P1 S1) (D2:Draws prog w A.in1 i2 qP n2 P2 S2) (Z:Zap z TI TO i1 i2 qO qP)
  (hz:IsZ s.heap z TI TO f0 f1) (hf:ZF f0 f1) (uP:IsPair s.heap TI (.ref i1) (.ref i2)) (vC:IsPair s.heap TO a b) (n5:S1 k1 s.heap) (mQ:S2 k2 s.heap) (l1:k1 < n1) (l2:k2 < n2)
  (hQ:∀ x y h' tk g0 g1 a' b',P1 k1 x→P2 k2 y→IsZ h' z TI TO g0 g1→ZF g0 g1→IsPair h' TI (.ref i1) (.ref i2)→IsPair h' TO a' b'→S1 (k1+1) h'→S2 (k2+1) h'→IsPair h' s.heap.objs.size x y→h'.objs.size=s.heap.objs.size+1 →
   (∀ c o,c≠z→c≠TO→c≠i1→c≠i2→s.heap.get? c=some o→h'.get? c=some o)→Q (some (.ref s.heap.objs.size)) { s with heap:=h',toks:=tk }):wpAny (model prog w) A (pyNext (.ref z)) Q E s:=by
 have uS:s.TypeIs (.ref z) "zip":=⟨_,hz,rfl⟩;unfold pyNext;refine ae (c6 (bD (name:=bF "__next__") uS dC (bJ dC uS gN ?_ (gz _))));exact zjf D1 D2 Z hz hf uP vC n5 mQ l1 l2 fun x y h1 tk g0 g1 a' b' px py rO Dx yi yj yk yl qT ym kk=>ak (hQ x y h1 tk g0 g1 a' b' px py rO Dx yi yj yk yl qT ym kk)
theorem zlo {z TI TO i1 i2:Addr} {qO qP:List Addr} {n1 n2 k1 k2:Nat} {P1 P2:Nat→Value→Prop} {S1 S2:Nat→Heap→Prop} {f0 f1 a b:Value} {Q:Option Value→Shared→Prop} (D1:Draws prog w A.in1 i1 qO n1 P1 S1) (D2:Draws prog w A.in1 i2 qP n2 P2 S2) (Z:Zap z TI TO i1 i2 qO qP)
  (hz:IsZ s.heap z TI TO f0 f1) (hf:ZF f0 f1) (uP:IsPair s.heap TI (.ref i1) (.ref i2)) (vC:IsPair s.heap TO a b) (n5:S1 k1 s.heap) (mQ:S2 k2 s.heap) (l1:k1=n1∨(k1 < n1∧k2=n2))
  (hQ:∀ h' tk,(∀ c o,c≠z→c≠TO→c≠i1→c≠i2→s.heap.get? c=some o→h'.get? c=some o)→Q none { s with heap:=h',toks:=tk }):wpAny (model prog w) A (pyNext (.ref z)) Q E s:=by
 have uS:s.TypeIs (.ref z) "zip":=⟨_,hz,rfl⟩;unfold pyNext;refine ae (c6 (bD (name:=bF "__next__") uS dC (bJ dC uS gN ?_ (gz _))));refine zll D1 D2 Z hz hf uP vC n5 mQ l1 fun h' tk x kk ⟨o,ho,hc⟩=>?_
 exact ae (eH (T:="StopIteration") (b:=true) ⟨o,ho,hc⟩ gj (ak (hQ h' tk kk)))
theorem zgw {z TI TO:Addr} {f0 f1:Value} {Q:Value→Shared→Prop} (hz:IsZ s.heap z TI TO f0 f1) (h:Q (.ref z) s):wpAny (model prog w) A (pyIter (.ref z)) Q E s:=by
 have hT:s.TypeIs (.ref z) "zip":=⟨_,hz,rfl⟩; refine iO hT F.slot_zip_iter (bJ F.slot_zip_iter hT F.entry_zip_iter ?_ (F.args_zip_iter_1 _));show wpAny _ _ (ret (.ref z)) _ _ s; exact ak ⟨_,rfl,"zip",_,hT,F.slot_zip_next.lookup,h⟩
theorem zpV {elts:List Expr} {x1} {pos:Pos} {z TI TO T:Addr} {f0 f1:Value} {Q:Unit→Shared→Prop} (hz:IsZ s.heap z TI TO f0 f1) (hf:ZF f0 f1)
  (hQ:∀ h' g0,IsZ h' z TI TO g0 f1→ZF g0 f1→bw z s.heap h'→Q () { s with heap:=h' }):wpAny (model prog w) A (letOwnedTupleGo (.Tuple elts x1 pos) (.ref z) (.ref T)) Q E s:=by
 unfold letOwnedTupleGo; refine ae (wpAny_load hz ?_);show wpAny _ _ (if _ then _ else _) Q E s;split
 ·refine ae (cr ?_); show wpAny _ _ (setField (.ref z) 0 .none) Q E s;exact bR hz #[M] fun h' Cf nW=>hQ h' .none Cf ⟨.inl rfl,hf.2⟩ nW
 ·exact ak (hQ s.heap f0 hz hf ⟨rfl,fun _ _=>rfl⟩)
end
end PySem
namespace L2
open PySem PySem.Spec PyProof.Rows
def zoT (rn rq:Hp→Addr→List V→Prop) (a b:Addr):It :=
 ⟨(zj4 rn rq a b).go,(zj4 rn rq a b).yld,fun i H=>∃ xs ys,rn H a xs∧rq H b ys∧(xs.length=i∨(i < xs.length∧ys.length=i))⟩
abbrev zbT (n:Nat):List Addr:=[n+4,n+2,n+3,n,n+1]
abbrev zpW (C:String) (n a b:Nat) (i:Nat) (h:Heap):Prop:=(∃ f0 f1,IsZ h (n+4) (n+2) (n+3) f0 f1∧ZF f0 f1)∧IsPair h (n+2) (.ref n) (.ref (n+1))∧(∃ u v,IsPair h (n+3) u v)∧h.IsTupleIter n a i∧ItC C h (n+1) b i
structure Sk (C:String) (Is:Heap→Addr→Array Value→Prop) (Sq:ah→Hp→Addr→List V→Prop):Prop where
 h:SkH C Is
 inv:∀ {X:Cx} {lR:List (Addr×Obj)} {σ:St} {H:Hp} {s:Shared} {a:Addr} {xs:List V},Inv X lR σ H s→Sq X.K H a xs→∃ lU:List Value,zG xs lU∧Is s.heap a lU.toArray∧a < s.heap.objs.size
 inj:∀ {X:Cx} {lR:List (Addr×Obj)} {σ:St} {H:Hp} {s:Shared} {a:Addr} {xs ys:List V},Inv X lR σ H s→Sq X.K H a xs→Sq X.K H a ys→xs=ys
theorem sqL:Sk "list_iterator" Heap.IsList lT:=⟨skL,fun I h=>let ⟨lU,r,p,_⟩:=I.list h; ⟨lU,r,p.isList,by obtain⟨_,_,e,_⟩:=p; exact aF e⟩,fun I h h'=>I.list_inj h h'⟩
theorem zlp {C:String} {Is:Heap→Addr→Array Value→Prop} {Sq:ah→Hp→Addr→List V→Prop} (S:Sk C Is Sq) {P:Program} {w:World} {K:ah} {es:List Expr} {k:Nat} {pos:Pos} (a b n:Nat) (ha:a < n) (hb:b < n):Turn P w K (.Tuple es k pos) (zoT (me K) (Sq K) a b) (zbT n) (n+4) (zpW C n a b) where
 mem:=by simp
 obj:=fun i h st c hc=>by
  obtain⟨⟨f0,f1,h1,_⟩,h2,⟨u,v,h3⟩,⟨o4,e4,_,d4⟩,⟨o5,e5,_,d5⟩⟩:=st;simp only [zbT,aH,aZ,or_false] at hc;rcases hc with z | z | z | z | z <;> subst z
  ·exact⟨_,h1,fun v z=>by cases z⟩
  ·exact⟨_,h2,fun v z=>by cases z⟩
  ·exact⟨_,h3,fun v z=>by cases z⟩
  ·exact⟨_,e4,fun v z=>by rw [d4] at z; cases z⟩
  ·exact⟨_,e5,fun v z=>by rw [d5] at z; cases z⟩
 keep:=fun i h h' st kk=>by
  obtain⟨⟨f0,f1,h1,hf⟩,h2,⟨u,v,h3⟩,h4,h5⟩:=st;obtain⟨o5,e5,r5⟩:=h5;exact⟨⟨f0,f1,kk _ #[M] _ h1,hf⟩,kk _ #[M] _ h2,⟨u,v,kk _ #[M] _ h3⟩,h4.at fun o eo=>kk _ #[M] o eo,o5,kk _ #[M] _ e5,r5⟩
 item:=by
  intro X hP hw hK hc i lR s σ H E I hf st hg;subst hP hw hK;obtain⟨xs,ys,x,y,pE,n4,hx,hy⟩:=hg;obtain⟨⟨f0,f1,h1,uR⟩,h2,⟨u0,v0,h3⟩,h4,h5⟩:=st;obtain⟨mP,rA,p1,rO⟩:=I.tuple pE;obtain⟨mJ,rP,p2,_⟩:=S.inv I n4;obtain⟨u,hu,ru⟩:=rA.get hx;obtain⟨v,hv,rv⟩:=rP.get hy;have wA:n+4 < s.heap.objs.size:=aF h1;have hh:X.A.in1.handled=none:=by simp [I.ok.hd hc]
  have qf:i < mP.toArray.size:=by have:=(aw.mp hu).1; simpa using this
  have qg:i < mJ.toArray.size:=by have:=(aw.mp hv).1; simpa using this
  refine zjg (Draws.tuple hh n a (nq #[O]) mP.toArray) (S.h.dr hh (n+1) b (nq #[O]) mJ.toArray) (zcG ha hb) h1 uR h2 h3 ⟨h4,(show s.heap.IsTuple a mP.toArray from p1)⟩ ⟨h5,p2⟩ qf qg
   fun x' y' h' tk g0 g1 a' b' px py ez AJ e2 e3 t4 t5 pp hsz kk=>?_
  have eu:x'=u:=by
   have e1:mP[i]? = some x':=by simpa using px
   rw [hu] at e1; exact (aS e1).symm
  have ev:y'=v:=by
   have e1:mJ[i]? = some y':=by simpa using py
   rw [hv] at e1; exact (aS e1).symm
  subst eu ev;have ch:∀ c∈[n+4,n+3,n,n+1],c∈zbT n:=fun c md=>by
   simp only [zbT,aH,aZ,or_false] at md ⊢;rcases md with z | z | z | z <;> subst z <;> simp
  have k1:∀ c o,c∉[n+4,n+3,n,n+1]→s.heap.get? c=some o→h'.get? c=some o:=fun c o md eo=>by
   simp only [aH,aZ,or_false,not_or] at md;exact kk c o md.1 md.2.1 md.2.2.1 md.2.2.2 eo
  have wY:∀ c∈[n+4,n+3,n,n+1],∃ o,h'.get? c=some o:=fun c md=>by
   simp only [aH,aZ,or_false] at md;rcases md with z | z | z | z <;> subst z
   ·exact⟨_,ez⟩
   ·exact⟨_,e3⟩
   ·obtain⟨o,e,_⟩:=t4.1; exact⟨o,e⟩
   ·obtain⟨o,e,_⟩:=t5.1; exact⟨o,e⟩
  have I1:Inv X lR σ (lW H s.heap.objs.size (.tup [x,y])) { s with heap:=h',toks:=tk } :=
   I.turnedNew k1 (fun c md=>hf c (ch c md)) wY (ag _) ⟨zaE,_,.cons ru (.cons rv .nil),zbd pp⟩
  refine⟨_,rfl,zpV (s:={ s with heap:=h',toks:=tk }) ez AJ fun vB g2 vO AK nL=>?_⟩;have fr:∀ c∈zbT n,lW H s.heap.objs.size (.tup [x,y]) c=none:=fun c md=>by
   have mj:c < s.heap.objs.size:=by
    simp only [zbT,aH,aZ,or_false] at md;rcases md with z | z | z | z | z <;> subst z <;> exact nl #[O]
   rw [zl (bh mj)];exact (hf c md).1
  have I2:Inv X lR σ (lW H s.heap.objs.size (.tup [x,y])) { s with heap:=vB,toks:=tk } :=
   Inv.turnedL (s:={ s with heap:=h',toks:=tk }) (ch:=[n+4]) (t':=tk) I1 (fun c o md eo=>nL.extBut c o (by simpa using md) eo) (fun c md=>by
    have z:c=n+4:=by simpa using md
    subst z;exact⟨fr _ #[M],(hf _ #[M]).2⟩) (fun c md=>by
    have z:c=n+4:=by simpa using md
    subst z;exact⟨_,vO⟩)
  have up:∀ c o,c≠n+4→h'.get? c=some o→vB.get? c=some o:=fun c o md e=>nL.extBut c o md e
  exact⟨.ref s.heap.objs.size,_,I2,rfl,⟨_,x,y,I.fresh,rfl,rfl,fun zs hz=>by rw [I.tuple_inj hz pE]; exact hx,fun zs hz=>by rw [S.inj I hz n4]; exact hy⟩,
   ⟨⟨g2,g1,vO,AK⟩,up _ _ (nq #[O]) e2,⟨_,_,up _ _ (nq #[O]) e3⟩,t4.1.at fun o e=>up _ o (nq #[O]) e,⟨t5.1.choose,up _ _ (nq #[O]) t5.1.choose_spec.1,t5.1.choose_spec.2⟩⟩,fr⟩
 done:=by
  intro X hP hw hK hc i lR s σ H E I hf st hg;subst hP hw hK;obtain⟨xs,ys,pE,n4,hx⟩:=hg;obtain⟨⟨f0,f1,h1,uR⟩,h2,⟨u0,v0,h3⟩,h4,h5⟩:=st;obtain⟨mP,rA,p1,rO⟩:=I.tuple pE;obtain⟨mJ,rP,p2,_⟩:=S.inv I n4;have hh:X.A.in1.handled=none:=by simp [I.ok.hd hc]
  have uM:=rA.length;have qe:=rP.length;refine zlo (Draws.tuple hh n a (nq #[O]) mP.toArray) (S.h.dr hh (n+1) b (nq #[O]) mJ.toArray) (zcG ha hb) h1 uR h2 h3 ⟨h4,(show s.heap.IsTuple a mP.toArray from p1)⟩ ⟨h5,p2⟩ (by rw [az,az]; lia) fun h' tk kk=>⟨rfl,?_⟩
  have sub:∀ c∈[n+4,n+3,n,n+1],c∈zbT n:=fun c md=>by
   simp only [zbT,aH,aZ,or_false] at md ⊢;rcases md with z | z | z | z <;> subst z <;> simp
  have k1:∀ c o,c∉[n+4,n+3,n,n+1]→s.heap.get? c=some o→h'.get? c=some o:=fun c o md e=>by
   simp only [aH,aZ,or_false,not_or] at md;exact kk c o md.1 md.2.1 md.2.2.1 md.2.2.2 e
  have sH:∀ d u',H d=some u'→d∉[n+4,n+3,n,n+1]:=fun d u' e' hd=>by rw [(hf d (sub d hd)).1] at e'; cases e'
  refine I.step (g':=s.gens) (d':=s.drawn) (t':=tk) (ch:=[n+4,n+3,n,n+1]) (fun c md=>?_) (fun c o _ _ nV e _=>k1 c o nV e) (fun c o _ _ nV e _=>⟨o.slots,k1 c o nV e⟩) (fun _ _ _ _ n=>n)
   (fun c o nV e=>⟨o,k1 c o nV e⟩) (fun _ _ e=>e) (fun _ _ _ e=>e) (fun c ps e=>⟨#[],by rw [e]; simp⟩) (fun m hm=>?_) (fun c u e=>?_) I.bare
  ·obtain⟨_,a1,_,a3,a4,a5⟩:=hf c (sub c md);exact⟨a3,a1,a4,a5⟩
  ·obtain⟨o,vt,ep,ho,r⟩:=hm;exact⟨o,vt,ep,k1 _ o (fun z=>(hf _ (sub _ z)).2.1 rfl) ho,r⟩
  ·refine (I.hok c u e).stay (fun d v' hd q=>k1 d v' ?_ q) (fun _ q=>q) fun _ _ q=>q
   rcases hd with z | z
   ·rw [z]; exact sH c u e
   ·exact sH d _ z
 self:=fun _ _ _ _ _ st h=>by
  obtain⟨⟨f0,f1,hz,_⟩,_⟩:=st;exact zgw hz h
def iZq (rn rq:Hp→Addr→List V→Prop) (ta:TA):TI:=fun σ H R=>ta σ H fun vs H1=>∃ a b xs ys,vs = [.ref a,.ref b]∧rn H1 a xs∧rq H1 b ys∧R (zoT rn rq a b) H1
theorem zlq {C:String} {Is:Heap→Addr→Array Value→Prop} {Sq:ah→Hp→Addr→List V→Prop} (S:Sk C Is Sq) {X:Cx} {es:List Expr} {k:Nat} {oE p pos:Pos} {a b:Expr} {ta:TA} (hg:Gl X "zip") (hm:X.mg "zip" = none) (ha:PA X [a,b] ta) (hs:starEach [a,b] X.env = [(false,eval a X.env),(false,eval b X.env)]:=by rfl) (oQ:starEach [b] X.env = [(false,eval b X.env)]:=by rfl) :
  PI X (.Tuple es k oE) (.Call (.Name "zip" p) [a,b] [] pos) (iZq (me X.K) (Sq X.K) ta):=by
 intro lR s σ H R I h;refine Call_ (zaV I hg hm kT (bn (thn (ha pos lR s σ H _ I h) fun us s1 ⟨vs,H1,I1,r1,q1⟩=>?_) (by rw [hs,oQ]) (by rw [oQ]; rfl)));obtain⟨l1,l2,xs,ys,e,pE,n4,q⟩:=q1;subst e;cases r1 with
 | cons r rr =>
  cases rr with
  | cons r' rr =>
   cases rr;cases r;cases r';obtain⟨mP,rA,vP,rO⟩:=I1.tuple pE;obtain⟨mJ,rP,wB,qg⟩:=S.inv I1 n4;have qf:l1 < s1.heap.objs.size:=by obtain⟨_,e,_⟩:=vP; exact aF e
   refine zeI S.h (show s1.heap.IsTuple l1 mP.toArray from vP) wB fun h' n hn b1 b2 b3 b4 b5 b6 kk=>?_
   have I2:Inv X lR σ H1 { s1 with heap:=h' }:=I1.kept (t':=s1.toks) kk;refine zgw b1 ?_;refine⟨_,zbT n,zpW C n l1 l2,zoT (me X.K) (Sq X.K) l1 l2,H1,rfl,I2,zlp S l1 l2 n (by rw [hn]; exact qf) (by rw [hn]; exact qg),⟨⟨_,_,b1,.inl rfl,_,rfl⟩,b2,⟨_,_,b3⟩,b4,b5⟩,fun c hc=>?_,q⟩;have hle:s1.heap.objs.size≤c:=by
    simp only [zbT,aH,aZ,or_false] at hc;rw [← hn];rcases hc with z | z | z | z | z <;> subst z
    all_goals first | exact gO _ _ | exact ag _
   exact I1.fpOk hle (I1.hok.fresh hle)
theorem zlr {X:Cx} {es:List Expr} {k:Nat} {oE p pos:Pos} {a b:Expr} {ta:TA} (hg:Gl X "zip") (hm:X.mg "zip" = none) (ha:PA X [a,b] ta) (hs:starEach [a,b] X.env = [(false,eval a X.env),(false,eval b X.env)]:=by rfl) (oQ:starEach [b] X.env = [(false,eval b X.env)]:=by rfl) :
  PI X (.Tuple es k oE) (.Call (.Name "zip" p) [a,b] [] pos) (iZq (me X.K) (lT X.K) ta):=zlq sqL hg hm ha hs oQ
section
variable {P:Program} {w:World} {outer:List Env} {H H':Hp} {h h' B:Heap} {e C:Addr}
theorem zoU {o:HO} {a:Addr} (x:zao P w H h a o):∃ ob,h.get? a=some ob:=by
 cases o with
 | lst xs=>obtain⟨_,_,_,_,e⟩:=x; exact⟨_,e⟩
 | tup xs=>obtain⟨_,_,_,o,e,_⟩:=x; exact⟨_,e⟩
 | dK l8=>obtain⟨_,_,_,_,o,_,_,e,_⟩:=x; exact⟨_,e⟩
 | dT l8=>obtain⟨_,_,_,_,o,_,_,e,_⟩:=x; exact⟨_,e⟩
 | set S n=>obtain⟨o,_,_,_,e,_⟩:=x; exact⟨_,e⟩
 | ins C dx fs=>obtain⟨_,_,_,e,_⟩:=x; exact⟨_,e⟩
 | own y=>obtain⟨_,e⟩:=x; exact⟨_,e⟩
 | xd fs=>obtain⟨_,⟨_,_,_,e,_⟩,_⟩:=x; exact⟨_,e⟩
 | rng lo hi=>obtain⟨_,_,_,e⟩:=x; exact⟨_,e⟩
 | frz ob u=>obtain⟨e,_⟩:=x; exact⟨_,e⟩
 | tbl ps=>exact⟨_,(show h.get? a=some _ from x)⟩
 | met f y=>exact⟨_,(show h.get? a=some _ from x)⟩
 | ext φ=>obtain⟨_,⟨_,e⟩,_⟩:=x; exact⟨_,e⟩
end
def zkf (hi:Int) (n:Nat):It:=⟨fun i _=>i < n,fun i H x H'=>H'=H∧x = .int (hi - i),fun i _=>n≤i⟩
theorem zhC {P:Program} {w:World} {K:ah} {tg:Expr} (it:Addr) (lo:Int) (n:Nat):Turn P w K tg (zkf lo n) [it] it (fun i h=>IsRangeIter h it (lo+(i:Nat)*(-1)) ((n:Int) - (i:Nat)) (-1)) where
 mem:=by simp
 obj:=fun i h st b hb=>by
  have e:b=it:=by simpa using hb
  subst e;exact⟨_,st,fun v z=>by
   have z':jf _=Data.cell v:=z;cases z'⟩
 keep:=fun i h h' st k=>k it #[M] _ st
 item:=by
  intro X hP hw hK hc i lR s σ H E I hf st hg;subst hP hw hK;obtain⟨f0,f1,f2,f3,f4,f5⟩:=hf it #[M];have W:=Walks.range (prog:=X.prog) (w:=X.w) (I.ok.hd hc) it lo (-1) n;refine W.item i s _ _ hg st fun v h' tk hv lV kk=>?_
  obtain⟨t,rfl⟩:=hv;have I1:Inv X lR σ H { s with heap:=h',toks:=tk }:=I.turned (fun b o hb e=>kk b o (by simpa using hb) e) f0 f1 f3 f4 f5;refine⟨_,rfl,zez (s:={ s with heap:=h',toks:=tk }) (n:="range_iterator") lV rfl rfl #[D] ⟨.int (lo - i),H,I1,⟨t,?_⟩,⟨rfl,rfl⟩,lV,fun b hb=>(hf b hb).1⟩⟩;rw [show lo+(i:Int)*(-1)=lo - i by lia]
 done:=by
  intro X hP hw hK hc i lR s σ H E I hf st hg;subst hP hw hK;obtain⟨f0,f1,f2,f3,f4,f5⟩:=hf it #[M];exact jg (I.ok.hd hc) st (by have:n≤i:=hg; lia) fun h' eb=>⟨rfl,I.turned (t':=s.toks) (fun b o hb e=>eb b o hb e) f0 f1 f3 f4 f5⟩
 self:=fun _ _ _ _ _ st h=>gD st h
section
variable {X:Cx} {tg:Expr}
theorem ziw {hi:Int} {n:Nat} {g:TG} {tb:TS} {D:Ends} {σ:St} {H:Hp} (Pv:Nat→St→Hp→Prop) (h0:Pv 0 σ H)
  (hs:∀ i σ H,i < n→Pv i σ H→g (.int (hi - i)) σ H fun σ2 H2=>tb { D with nx:=Pv (i+1),ct:=Pv (i+1),bk:=D.nx } σ2 H2) (hd:∀ σ H,Pv n σ H→D.nx σ H) :
  ∃ W:Nat→Nat→St→Hp→Prop,(∃ m,W 0 m σ H)∧∀ i m σ H,W i m σ H →
   ((zkf hi n).stop i H∧D.nx σ H)∨((zkf hi n).go i H∧∃ N:St→Hp→Prop,(∀ σ' H',N σ' H'→∃ m',m' < m∧W (i+1) m' σ' H')∧∀ x H',(zkf hi n).yld i H x H'→g x σ H' fun σ2 H2=>tb { D with nx:=N,ct:=N,bk:=D.nx } σ2 H2):=by
 refine⟨fun i m σ H=>m=n - i∧i≤n∧Pv i σ H,⟨n,#[M],bz _,h0⟩,?_⟩;rintro i m σ H ⟨rfl,hi,p⟩;by_cases mj:i < n
 ·refine .inr ⟨mj,Pv (i+1),fun σ' H' p'=>⟨n - (i+1),#[O],rfl,mj,p'⟩,fun x H' y=>?_⟩;obtain⟨e,y⟩:=y;subst e y;exact hs i σ _ mj p
 ·have e:i=n:=by lia
  subst e;exact .inl ⟨ag _,hd σ H p⟩
end
section
variable {κ:Type} [DecidableEq κ]
def zc2 (l8:List (κ×V)) (k:κ):Option V:=(l8.find? fun kv=>decide (kv.1=k)).map (·.2)
def putK (l8:List (κ×V)) (k:κ) (v:V):List (κ×V) :=
 if (l8.any fun kv=>decide (kv.1=k))=true then l8.map (fun kv=>if kv.1=k then (kv.1,v) else kv) else l8++[(k,v)]
theorem zeL {p:κ×V} {r:List (κ×V)} {k:κ} (e:p.1=k):zc2 (p :: r) k=some p.2:=by simp [zc2,fe,e]
theorem zeM {p:κ×V} {r:List (κ×V)} {k:κ} (e:¬ p.1=k):zc2 (p :: r) k=zc2 r k:=by simp [zc2,fe,e]
theorem zeN (k:κ):∀ l8:List (κ×V),(l8.any fun kv=>decide (kv.1=k))=(zc2 l8 k).isSome
 | []=>rfl
 | p :: r=>by
  rw [iJ];by_cases e:p.1=k
  ·simp only [zeL e,decide_eq_true e,Bool.true_or,ko]
  ·rw [zeM e,decide_eq_false e,Bool.false_or]; exact zeN k r
theorem zhD (l8:List (κ×V)) (k:κ) (v:V):(putK l8 k v).length≤l8.length+1:=by
 unfold putK;split
 ·rw [ab]; lia
 ·rw [aA,bm,ic]; lia
theorem zls {l8:List (κ×V)} {k:κ} (v:V) (h:zc2 l8 k=none):putK l8 k v=l8++[(k,v)]:=by
 unfold putK;rw [zeN,h];exact if_neg #[D]
theorem zhb.isSome_eq {o:Option V} {u:Option Value} (r:zhb o u):o.isSome=u.isSome:=by
 cases o with
 | none=>cases u with
  | none=>rfl
  | some _=>exact (show False from r).elim
 | some _=>cases u with
  | none=>exact (show False from r).elim
  | some _=>rfl
theorem zhb.getD {o:Option V} {u:Option Value} {d:V} {d':Value} (r:zhb o u) (rd:RelV d d'):RelV (o.getD d) (u.getD d'):=by
 cases o with
 | none=>cases u with
  | none=>exact rd
  | some _=>exact (show False from r).elim
 | some _=>cases u with
  | none=>exact (show False from r).elim
  | some _=>exact r
theorem KV.val {l8:List (κ×V)} {vs:List (κ×Value)} (r:KV l8 vs) (k:κ):zhb (zc2 l8 k) (valueAt vs k):=by
 unfold KV at r;induction r with
 | nil=>exact lr
 | @cons p q ps qs h t ih =>
  obtain⟨h1,h2⟩:=h;by_cases e:p.1=k
  ·have e':q.1=k:=h1.symm.trans e;have b:valueAt (q :: qs) k=some q.2:=by simp [valueAt,fe,e']
   rw [zeL e,b]; exact h2
  ·have e':¬ q.1=k:=fun z=>e (h1.trans z)
   have b:valueAt (q :: qs) k=valueAt qs k:=by simp [valueAt,fe,e']
   rw [zeM e,b]; exact ih
end
theorem zn9 {P:Program} {w:World} {k:Key} {u:Value} (r:RelV (kV k) u):(zaw P w).is k u=true:=by
 cases k with
 | inl i=>obtain⟨t,e⟩:=(show ∃ t,u=iB i t from r); subst e; exact zg9 P w i t
 | inr x=>obtain⟨t,e⟩:=(show ∃ t,u=lD x t from r); subst e; exact zha P w x t
theorem zfQ {P:Program} {w:World}:∀ {ks:List Key} {us:List Value},zG (ks.map kV) us→ItemsAre (zaw P w) ks us
 | [],_,r=>by rw [fo] at r; cases r; exact .nil
 | k :: ks,_,r=>by
  rw [bO] at r;cases r with
  | cons h t=>exact .cons (zn9 h) (zfQ t)
abbrev KT (H:Hp):List (List Key×V)→List (List Key×Addr×Value)→Prop:=Paired fun p q=>p.1=q.1∧H q.2.1=some (.tup (p.1.map kV))∧RelV p.2 q.2.2
theorem KT.val {H:Hp} {l8:List (List Key×V)} {xs:List (List Key×Addr×Value)} (r:KT H l8 xs) (k:List Key):zhb (zc2 l8 k) ((atKey xs k).map (·.2)):=by
 induction r with
 | nil=>exact lr
 | @cons p q ps qs h t ih =>
  obtain⟨h1,_,h2⟩:=h;by_cases e:p.1=k
  ·have e':q.1=k:=h1.symm.trans e;have b:atKey (q :: qs) k=some q.2:=by simp [atKey,fe,e']
   rw [zeL e,b]; exact h2
  ·have e':¬ q.1=k:=fun z=>e (h1.trans z)
   have b:atKey (q :: qs) k=atKey qs k:=by simp [atKey,fe,e']
   rw [zeM e,b]; exact ih
theorem KT.repl {H:Hp} {l8:List (List Key×V)} {xs:List (List Key×Addr×Value)} (r:KT H l8 xs) (k:List Key) {y:V} {u:Value} (ry:RelV y u) :
  KT H (l8.map fun kv=>if kv.1=k then (kv.1,y) else kv) (xs.map (putAt k u)):=by
 induction r with
 | nil=>exact .nil
 | @cons p q ps qs h t ih =>
  rw [bO,bO];refine .cons ?_ ih;obtain⟨h1,h2,h3⟩:=h;unfold putAt;by_cases e:p.1=k
  ·rw [if_pos e,if_pos (h1.symm.trans e)]; exact⟨h1,h2,ry⟩
  ·rw [if_neg e,if_neg (fun z=>e (h1.trans z))]; exact⟨h1,h2,h3⟩
theorem KT.put {H:Hp} {l8:List (List Key×V)} {xs:List (List Key×Addr×Value)} (r:KT H l8 xs) (k:List Key) {b:Addr} {y:V} {u:Value} (hb:H b=some (.tup (k.map kV))) (ry:RelV y u) :
  KT H (putK l8 k y) (storedH xs k b u):=by
 have e:(l8.any fun kv=>decide (kv.1=k))=(atKey xs k).isSome:=by
  rw [zeN,(r.val k).isSome_eq,Option.isSome_map]
 unfold putK storedH;rw [e];by_cases q:(atKey xs k).isSome=true
 ·rw [if_pos q,if_pos q]; exact r.repl k ry
 ·rw [if_neg q,if_neg q]; exact bZ r ⟨rfl,hb,ry⟩
theorem KT.keeps {H H':Hp} {l8:List (List Key×V)} {xs:List (List Key×Addr×Value)} (r:KT H l8 xs) (ht:∀ b ys,H b=some (.tup ys)→H' b=some (.tup ys)):KT H' l8 xs :=
 Paired.mapP r fun _ _ z=>⟨z.1,ht _ _ z.2.1,z.2.2⟩
section
variable {P:Program} {w:World} {H:Hp} {h:Heap} {a:Addr}
theorem zoa {u:HO} (ok:HOk P w H h) (e:Rd H a u):zao P w H h a u:=e.ok ok
theorem zob {l8:List (Key×V)} (ok:HOk P w H h) (e:Rd H a (.dK l8)):l8.length≤sizeLine∧(a == sysModules)=false∧∃ vs,KV l8 vs∧h.DictOf (zaw P w) a vs :=
 show zao P w H h a (.dK l8) from zoa ok e
theorem zix {ks:List Key} (ok:HOk P w H h) (e:H a=some (.tup (ks.map kV))):(tupleKind (zaw P w)).is h ks a:=by
 obtain⟨_,lU,r,o,h1,h2,n,h3⟩:=(show zao P w H h a (.tup (ks.map kV)) from ok a _ e);exact⟨o,lU.toArray,n,h1,h2,h3,by simpa using zfQ r⟩
theorem zlu {l8:List (List Key×V)} (ok:HOk P w H h) (e:Rd H a (.dT l8)):l8.length≤sizeLine∧(a == sysModules)=false ∧
  ∃ xs,KT H l8 xs∧h.DictOfH (tupleKind (zaw P w)) a xs:=by
 obtain⟨z,y,xs,r,o,es,ep,h1,h2,h3,h4,h5⟩:=(show zao P w H h a (.dT l8) from zoa ok e);refine⟨z,y,xs,r,o,es,ep,h1,h2,h3,h4,fun x hx=>?_,h5⟩;have all:∀ {l:List (List Key×V)} {m:List (List Key×Addr×Value)},KT H l m→∀ x∈m,(tupleKind (zaw P w)).is h x.1 x.2.1:=by
  intro l m q;induction q with
  | nil=>intro x hx; exact nomatch hx
  | @cons p q ps qs hq t ih =>
   intro x hx;rcases aH.mp hx with e | hx
   ·subst e;exact zix ok (by rw [← hq.1]; exact hq.2.1)
   ·exact ih x hx
 exact all r x hx
theorem zpX {l8:List (List Key×V)} (ok:HOk P w H h) (e:H a=some (.dT l8)):l8.length≤sizeLine∧(a == sysModules)=false ∧
  ∃ xs,KT H l8 xs∧h.DictOfH (tupleKind (zaw P w)) a xs:=zlu ok (.inl e)
end
def zpY (H:Hp) (a:Addr) (y:V) (r:Option V):Prop :=
 (∃ l8 k,Rd H a (.dK l8)∧y=kV k∧r=zc2 l8 k)∨∃ l8 k b,Rd H a (.dT l8)∧y = .ref b∧H b=some (.tup (k.map kV))∧r=zc2 l8 k
section
variable {X:Cx} {lR:List (Addr×Obj)} {σ:St} {H:Hp} {s:Shared} {a:Addr} {y v:V} {u r:Value} {o:Option V} {A:Around} {E:Value→Shared→Prop}
theorem Inv.big (I:Inv X lR σ H s):sysModules < s.heap.objs.size:=by
 have h:mainGlobals < s.heap.objs.size:=(I.mod.glob.keeps I.bk).lt;exact Nat.lt_trans #[D] h
theorem zm5 {h':Heap} {t':Nat} {ob:HO} (I:Inv X lR σ H s) (mu:Mut (H a)) (hs:bw a s.heap h') (he:∃ q,h'.get? a=some q) (new:zao X.prog X.w (lW H a ob) h' a ob) :
  Inv X lR σ (lW H a ob) { s with heap:=h',toks:=t' } :=
 I.write (x:=a) (e:=a) mu (.inl rfl) (fun b q hb z=>(hs.2 b hb).trans z) he new
end
theorem zlv {P:Program} {w:World} {H:Hp} (h:Heap) (hb:sysModules < h.objs.size):zao P w H (h.push { cls:=.type "dict",data:=.dict #[] }) h.objs.size (.dT []) :=
 ⟨bz _,beq_eq_false_iff_ne.mpr (cQ (bh hb)),[],.nil,_,#[],0,aB _ rfl,⟨rfl,rfl,rfl⟩,rfl,rfl,lB⟩
structure M2 (X:Cx) (o:Expr) (m:Str) (apos:Pos) (e f:Expr) (ni:Pos):Prop where
 base:attributeBase o m X.env (eval o X.env)=eval o X.env
 few:((backTo ni (starEach [e,f] X.env)).all (fun x=>!x.1) && (backToKw ni (keywordEach [] X.env)).all (fun x=>x.1.isSome)
  && decide (([e,f]:List Expr).length+([]:List Keyword).length+(if ([]:List Keyword).isEmpty then 0 else 1) < 30))=true
 line:(apos.endLine == ni.line)=true
 trees:backTo ni (starEach [e,f] X.env) = [(false,eval e X.env),(false,eval f X.env)]
def IsD (H:Hp) (a:Addr):Prop:=(∃ l8,Rd H a (.dK l8))∨∃ l8,Rd H a (.dT l8)
theorem zoV {X:Cx} {lR:List (Addr×Obj)} {σ:St} {H:Hp} {s:Shared} {a:Addr} (I:Inv X lR σ H s) (d:IsD H a) :
  s.TypeIs (.ref a) "dict"∧(∀ b,bg a = .ref b→∃ ob,s.heap.get? b=some ob∧ob.dict=none)∧(a == sysModules)=false:=by
 rcases d with ⟨l8,e⟩ | ⟨l8,e⟩
 ·obtain⟨_,hd,vs,_,dd⟩:=zob I.hok e;refine⟨dd.typeIs,fun b q=>?_,hd⟩;cases q;obtain⟨ob,_,_,h1,h2,_⟩:=dd;exact⟨ob,h1,h2.2.1⟩
 ·obtain⟨_,hd,xs,_,dd⟩:=zlu I.hok e;refine⟨dd.typeIs,fun b q=>?_,hd⟩;cases q;obtain⟨ob,_,_,h1,h2,_⟩:=dd;exact⟨ob,h1,h2.2.1⟩
section
variable {X:Cx} {lR:List (Addr×Obj)} {σ:St} {H:Hp} {s:Shared} {a:Addr} {y d:V} {u r:Value} {o:Option V} {A:Around} {E:Value→Shared→Prop}
theorem zoW {Q:Value→Shared→Prop} (hu:A.units+1 < cLine) (I:Inv X lR σ H s) (g:zpY H a y o) (ry:RelV y u) (rd:RelV d r) (h:∀ w' s',Inv X lR σ H s'→RelV (o.getD d) w'→Q w' s') :
  wpAny (model X.prog X.w) A (call (.builtin "dict.get") [.ref a,u,r]) Q E s:=by
 rcases g with ⟨l8,k,e,ey,l⟩ | ⟨l8,k,b,e,ey,eb,l⟩
 ·subst ey;obtain⟨z,hd,vs,rel,dd⟩:=zob I.hok e;refine call_meetsIn gV dd.typeIs jo (i8 _ _ _) (meets_dict_get_default (zaw X.prog X.w) a (zn9 ry) hd r) ⟨_,dd.mapOf,h _ _ (I.tok _) ?_⟩;rw [l];exact (rel.val k).getD rd
 ·subst ey;cases (show u=bg b from ry);obtain⟨z,hd,xs,rel,dd⟩:=zlu I.hok e;refine call_meetsIn gV dd.typeIs jo (i8 _ _ _) (meetsH_dict_get_default (tupleKind (zaw X.prog X.w)) a b hd r) ⟨kt hu,k,xs,zix I.hok eb,dd,h _ _ (I.tok _) ?_⟩;rw [l];exact (rel.val k).getD rd
end
def zoX (td ty tx:TE):TE:=fun σ H Q=>td σ H fun x H1=>∃ a,x = .ref a∧IsD H1 a∧ty σ H1 fun y H2=>tx σ H2 fun z H3=>∃ o,zpY H3 a y o∧Q (o.getD z) H3
section
variable {X:Cx} {o e f:Expr} {apos ni:Pos} {td ty tx:TE}
theorem zlw (hu:X.A.units+1 < cLine) (ho:PE X o td) (he:PE X e ty) (hf:PE X f tx) (m:M2 X o "get" apos e f ni):PE X (.Call (.Attribute o "get" apos) [e,f] [] ni) (zoX td ty tx):=by
 intro lR s σ H Q I h;refine wpAny_Call_method m.base m.few m.line PySem.F.plainAttrs_dict gV PySem.F.type_dict_get (thn (ho lR s σ H _ I h) fun u s1 ⟨x,H1,I1,rx,a,ex,d,q1⟩=>?_);subst ex;obtain rfl:u=bg a:=rx;obtain⟨t1,t2,_⟩:=zoV I1 d;refine⟨t1,t2,?_⟩;rw [m.trees];refine jk rfl (jH (dR (thn (he lR s1 σ H1 _ I1 q1) fun iv s2 ⟨y,H2,I2,ry,q2⟩ =>
  dR (thn (hf lR s2 σ H2 _ I2 q2) fun fv s3 ⟨z,H3,I3,rz,ov,g,q3⟩=>fm ?_))))
 exact zoW hu I3 g ry rz fun w' s4 I4 yb=>⟨_,H3,I4,yb,q3⟩
end
theorem zhE:∀ {ns:List Int} {us:List Value},zG (ns.map V.int) us→∃ ps:List (Int×Tok),us=ps.map (fun p=>iB p.1 p.2)∧ps.map (·.1)=ns
 | [],_,r=>by cases r; exact⟨[],rfl,rfl⟩
 | n :: ns,_,r=>by
  cases r with
  | cons r1 r2 =>
   obtain⟨ps,e1,e2⟩:=zhE r2;obtain⟨t,rfl⟩:=r1;exact⟨(n,t) :: ps,by rw [e1]; rfl,by rw [← e2]; rfl⟩
theorem zkg {X:Cx} (hc:X.calm=true):zbc X (.builtin "sum") (fun xs H Q=>∃ (p:Addr) (ns:List Int),xs = [.ref p]∧lT X.K H p (ns.map V.int)∧Q (.int ns.sum) H):=by
 intro lR s σ H xs us Q I r h;obtain⟨p,ns,rfl,hq,q⟩:=h;obtain⟨u,rfl,rx⟩:=vals1 r;cases rx;obtain⟨lU,rv,pl,hz⟩:=I.list hq;obtain⟨ps,e1,e2⟩:=zhE rv;subst e1 e2;have hl:s.heap.IsList p (intItems ps.toArray):=by
  have:=pl.isList;simpa [intItems] using this
 refine sum_intListG (xs:=ps.toArray) (by simp [I.ok.hd hc]) hl fun h' tk t' kk=>⟨.int (ps.map (·.1)).sum,H,I.kept kk,⟨t',?_⟩,q⟩
 rw [preSum_eq,aN #[M]]
end L2
namespace PySem
open PyProof.Rows
end PySem
namespace L2
open PySem PySem.Spec PyProof.Rows
end L2
namespace My
open PySem L2 PyProof.Rows
section
variable {K:ah}
structure RowAt (K:ah) (H:Hp) (r:Addr) (n:Nat) (rw:List (Option Int)):Prop where
 at':lT K H r (rw.map pY)
 len:rw.length=n
end
end My
end
section
namespace Srt
open PySem PyProof.Rows
def Vk (val:Keyed→Int) (xs:Array Keyed) (i:Nat):Int:=match xs[i]? with
 | some p=>val p
 | none=>0
theorem z0 {val:Keyed→Int} {xs ys:Array Keyed} {i j:Nat} (h:xs[i]? = ys[j]?):Vk val xs i=Vk val ys j:=by unfold Vk; rw [h]
theorem zU {val:Keyed→Int} {xs:Array Keyed} {i:Nat} {p:Keyed} (h:xs[i]? = some p):Vk val xs i=val p:=by unfold Vk; rw [h]
def SIn (val:Keyed→Int) (xs:Array Keyed) (lo hi:Nat):Prop:=∀ i j,lo≤i→i≤j→j < hi→Vk val xs i≤Vk val xs j
def DIn (val:Keyed→Int) (xs:Array Keyed) (lo hi:Nat):Prop:=∀ i j,lo≤i→i≤j→j < hi→Vk val xs j≤Vk val xs i
structure SB (κ:SortKind) (a₀:Array Keyed) (st:SortSt):Prop where
 perm:(arrOf st).Perm a₀
 kind:kindOf st=κ
 failed:failedOf st=none
theorem SB.size {κ:SortKind} {a₀:Array Keyed} {st:SortSt} (h:SB κ a₀ st):(arrOf st).size=a₀.size:=h.perm.size_eq
theorem SB.mem {κ:SortKind} {a₀:Array Keyed} {st:SortSt} (h:SB κ a₀ st) {i:Nat} (hi:i < a₀.size):∃ p,(arrOf st)[i]? = some p∧p∈a₀.toList:=by
 (have nK:i < (arrOf st).size:=by rw [h.size]; exact hi)
 exact⟨(arrOf st)[i],getElem?_pos _ i nK,(fO.mp h.perm).mem_iff.mp #[M]⟩
structure SF (κ:SortKind) (a₀:Array Keyed) (lo:Nat) (st₀ st:SortSt):Prop where
 b:SB κ a₀ st
 low:∀ k,k < lo→(arrOf st)[k]? = (arrOf st₀)[k]?
 pend:pendingOf st=pendingOf st₀
theorem SF.refl {κ:SortKind} {a₀:Array Keyed} {lo:Nat} {st:SortSt} (h:SB κ a₀ st):SF κ a₀ lo st st:=⟨h,fun _ _=>rfl,rfl⟩
theorem SF.setArr {κ:SortKind} {a₀:Array Keyed} {lo:Nat} {st₀ st:SortSt} (h:SF κ a₀ lo st₀ st) {xs:Array Keyed} (hp:xs.Perm (arrOf st)) (hl:∀ k,k < lo→xs[k]? = (arrOf st)[k]?):SF κ a₀ lo st₀ (setArr st xs) :=
 ⟨⟨hp.trans h.b.perm,h.b.kind,h.b.failed⟩,fun k hk=>(hl k hk).trans (h.low k hk),h.pend⟩
section
variable {prog:Program} {w:World} {A:Around} {E:Value→Shared→Prop} {s:Shared} {a₀:Array Keyed} {κ:SortKind} {val:Keyed→Int}
def Cmp (prog:Program) (w:World) (A:Around) (s:Shared) (κ:SortKind) (val:Keyed→Int) (a₀:Array Keyed):Prop :=
 ∀ x y,x∈a₀.toList→y∈a₀.toList→∀ (Q:Bool→Shared→Prop) (E:Value→Shared→Prop),Q (decide (val x < val y)) s→wpAny (model prog w) A (keyLt' κ x.1 y.1) Q E s
theorem zlx {st:SortSt} {x y:Keyed} {Q:Option Bool→SortSt→Prop} (hC:Cmp prog w A s κ val a₀) (hk:kindOf st=κ) (hx:x∈a₀.toList) (hy:y∈a₀.toList) (h:Q (some (decide (val x < val y))) st) :
  wpS (model prog w) A E s (lt' x y) Q st:=by
 rw [lt'_eq];refine ao (ft ?_);rw [hk];refine ao (iu (c6 (hC x y hx hy _ _ ⟨rfl,?_⟩)));exact ar h
theorem zR {st:SortSt} {arr:Array Keyed} {i:Nat} {p:Keyed} {Q:Keyed→SortSt→Prop} (hi:arr[i]? = some p) (h:Q p st):wpS (model prog w) A E s (elem' arr i) Q st:=by
 rw [elem'_eq,hi];exact ar h
theorem zeO {st:SortSt} {i j:Nat} {Q:Option Bool→SortSt→Prop} (hC:Cmp prog w A s κ val a₀) (hB:SB κ a₀ st) (hi:i < a₀.size) (hj:j < a₀.size) (h:Q (some (decide (Vk val (arrOf st) i < Vk val (arrOf st) j))) st) :
  (wpS (model prog w) A E s (ltAt' i j) Q st):=by
 obtain⟨x,ex,mx⟩:=hB.mem hi;obtain⟨y,ey,my⟩:=hB.mem hj;rw [ltAt'_eq];refine ao (ft ?_)
 (show wpS _ _ _ _ (do let x ← elem' (arrOf st) i; let y ← elem' (arrOf st) j; lt' x y) Q st)
 refine ao (zR ex (ao (zR ey (zlx hC hB.kind mx my ?_))));rw [zU ex,zU ey] at h;exact h
theorem zjh {st:SortSt} {i j:Nat} {Q:Unit→SortSt→Prop} (h:Q () (setArr st (mirror (arrOf st) i j ((j - i) / 2)))) :
  (wpS (model prog w) A E s (reverseSlice' i j) Q st):=by
 ((rw [reverseSlice'_eq]; exact dO h))
theorem zeP {xs:Array Keyed} {i j:Nat} (hj:j≤xs.size) (k:Nat):Vk val (mirror xs i j ((j - i) / 2)) k=if i≤k∧k < j then Vk val xs (i+j - 1 - k) else Vk val xs k:=by
 (have e:=j4 (i:=i) hj k)
 by_cases h1:i≤k∧k < j
 ·rw [if_pos h1] at e ⊢; exact z0 e
 ·rw [if_neg h1] at e ⊢; exact z0 e
theorem zbp {xs:Array Keyed} {i j:Nat} (hj:j≤xs.size) (heq:∀ k,i≤k→k < j→Vk val xs k=Vk val xs (j - 1)) (k:Nat):Vk val (mirror xs i j ((j - i) / 2)) k=Vk val xs k:=by
 rw [zeP hj];split
 ·(rw [heq _ #[O] #[O],heq k #[O] #[O]])
 ·rfl
theorem zcb {xs:Array Keyed} {lo i j:Nat} (hj:j≤xs.size) (hi:lo≤i):∀ k,k < lo→(mirror xs i j ((j - i) / 2))[k]? = xs[k]?:=fun k hk=>by
 rw [j4 hj,if_neg #[O]]
theorem ziy {xs:Array Keyed} {lo src d:Nat} (hs:src < xs.size) (hd:d≤src) (hl:lo≤src - d):∀ k,k < lo→(bubble xs src d)[k]? = xs[k]?:=fun k hk=>by
 rw [getElem?_bubble hs d hd,if_neg #[O],if_neg #[O]]
def zly (lo a mh:Nat):StateT SortSt Sem AscSt :=
 forIn [a:mh] ((none,a):AscSt) fun _ st=>do
  let x ← ltAt' (lo+st.snd) (lo+st.snd - 1)
  match x with
  | some rR=>if rR=true then pure (gm (none,st.snd)) else pure (cI (none,st.snd+1))
  | _=>pure (gm (some none,st.snd))
def zhF (lo n mh:Nat):StateT SortSt Sem (Option Nat):=do
 reverseSlice' lo (lo+n)
 let st ← zly lo n mh
 match st.fst with
 | some r=>pure r
 | none=>pure (some st.snd)
def zji (lo n mh:Nat):StateT SortSt Sem DescSt :=
 forIn [n:mh] ((none,n,0):DescSt) fun _ st=>do
  let x ← ltAt' (lo+st.snd.fst) (lo+st.snd.fst - 1)
  match x with
  | some rR =>
   if rR=true then
    if st.snd.snd > 0 then do
     reverseSlice' (lo+st.snd.fst - (st.snd.snd+1)) (lo+st.snd.fst)
     pure (cI (none,st.snd.fst+1,0))
    else pure (cI (none,st.snd.fst+1,0))
   else do
    let x ← ltAt' (lo+st.snd.fst - 1) (lo+st.snd.fst)
    match x with
    | some yn =>
     if yn=true then pure (gm (none,st.snd.fst,st.snd.snd))
     else pure (cI (none,st.snd.fst+1,st.snd.snd+1))
    | _=>pure (gm (some none,st.snd.fst,st.snd.snd))
  | _=>pure (gm (some none,st.snd.fst,st.snd.snd))
def zhG (lo n mh:Nat):StateT SortSt Sem (Option Nat):=do
 liftM (rule "list.sort.descending-run"); let st ← zji lo (n+1) mh
 match st.fst with
 | some r=>pure r
 | none =>
  if st.snd.snd > 0 then do
   reverseSlice' (lo+st.snd.fst - (st.snd.snd+1)) (lo+st.snd.fst)
   zhF lo st.snd.fst mh
  else zhF lo st.snd.fst mh
theorem zgx (lo mh:Nat):countRun' lo mh=(do
  let st ← zly lo 1 mh
  match st.fst with
  | some r=>pure r
  | none =>
   if (st.snd == mh)=true then pure (some st.snd)
   else if st.snd > 1 then do
    let x ← ltAt' lo (lo+st.snd - 1)
    match x with
    | some AM=>if AM=true then pure (some st.snd) else do
      reverseSlice' lo (lo+st.snd)
      zhG lo st.snd mh
    | _=>pure none
   else zhG lo st.snd mh):=by
 rw [countRun'_eq];unfold zhG zhF zji zly;dsimp only;refine congrArg (bind _) ?_;funext c;obtain⟨r,n⟩:=c;cases r with
 | some r=>rfl
 | none =>
  dsimp only;split
  ·rfl
  ·split
   ·congr 1;funext x;cases x with
    | none=>rfl
    | some AM =>
     dsimp only;split
     ·rfl
     ·congr 1;funext _r;congr 1; funext _u; congr 1; congr 1; funext s2; obtain⟨r2,n2,q2⟩:=s2;cases r2 with
      | some r2=>rfl
      | none =>
       dsimp only;split
       ·congr 1; funext _v; congr 1; funext _w; congr 1; funext s3; obtain⟨r3,n3⟩:=s3; cases r3 <;> rfl
       ·congr 1; funext _w; congr 1; funext s3; obtain⟨r3,n3⟩:=s3; cases r3 <;> rfl
   ·congr 1; funext _u; congr 1; congr 1; funext s2; obtain⟨r2,n2,q2⟩:=s2;cases r2 with
    | some r2=>rfl
    | none =>
     dsimp only;split
     ·congr 1; funext _v; congr 1; funext _w; congr 1; funext s3; obtain⟨r3,n3⟩:=s3; cases r3 <;> rfl
     ·congr 1; funext _w; congr 1; funext s3; obtain⟨r3,n3⟩:=s3; cases r3 <;> rfl
theorem zoc {st₀ st:SortSt} {lo a mh:Nat} {Q:AscSt→SortSt→Prop} (hC:Cmp prog w A s κ val a₀) (hn:lo+mh≤a₀.size) (ha:1≤a) (han:a≤mh) (hB:SF κ a₀ lo st₀ st)
  (hs:SIn val (arrOf st) lo (lo+a))
  (h:∀ n,a≤n→n≤mh→SIn val (arrOf st) lo (lo+n)→(n=mh∨Vk val (arrOf st) (lo+n) < Vk val (arrOf st) (lo+n - 1))→Q (none,n) st) :
  wpS (model prog w) A E s (zly lo a mh) Q st:=by
 unfold zly;refine b8 (I:=fun x c lV=>lV=st∧c=(none,x)∧SIn val (arrOf st) lo (lo+x)) ?step ?fin ⟨rfl,rfl,hs⟩
 case fin =>
  rintro c lV ⟨rfl,rfl,nW⟩
  (rw [show max a mh=mh by lia] at nW ⊢)
  (exact h mh han (ag _) nW (.inl rfl))
 case step =>
  (rintro x c lV DG Ci ⟨rfl,rfl,nW⟩)
  dsimp only;refine ao (zeO hC hB.b #[O] #[O] ?_);by_cases nE:Vk val (arrOf lV) (lo+x) < Vk val (arrOf lV) (lo+x - 1)
  ·(simp only [nE,decide_true,if_true])
   (exact ar (h x DG #[O] nW (.inr nE)))
  ·(simp only [nE,decide_false,bq,if_false])
   refine ar ⟨rfl,rfl,fun i j sO qp hj=>?_⟩;by_cases AN:j < lo+x
   ·exact nW i j sO qp AN
   ·have pD:j=lo+x:=by lia
    subst pD;by_cases nK:i=lo+x
    ·(subst nK; exact bP _)
    ·exact b9 (nW i (lo+x - 1) sO #[O] #[O]) (lu.mp nE)
theorem zlz {st₀ st:SortSt} {lo n mh:Nat} {Q:Option Nat→SortSt→Prop} (hC:Cmp prog w A s κ val a₀) (hn:lo+mh≤a₀.size) (h1:1≤n) (xc:n≤mh) (hB:SF κ a₀ lo st₀ st)
  (hs:DIn val (arrOf st) lo (lo+n)) (h:∀ m lV,SF κ a₀ lo st₀ lV→1≤m→m≤mh→SIn val (arrOf lV) lo (lo+m)→Q (some m) lV) :
  wpS (model prog w) A E s (zhF lo n mh) Q st:=by
 unfold zhF;have hsz:lo+n≤(arrOf st).size:=by rw [hB.b.size]; lia
 refine ao (zjh ?_);have oS:=hB.setArr (jp (arrOf st) lo (lo+n) ((lo+n - lo) / 2)) (zcb hsz (ag _));refine ao (zoc hC hn h1 xc oS ?_ fun m vD rQ Cj _=>ar (h m _ oS #[O] rQ Cj));intro i j sO qp hj;show Vk val (mirror (arrOf st) lo (lo+n) ((lo+n - lo) / 2)) i≤Vk val (mirror (arrOf st) lo (lo+n) ((lo+n - lo) / 2)) j;rw [zeP hsz,zeP hsz,if_pos #[O],if_pos #[O]];exact hs _ _ #[O] #[O] #[O]
theorem zoY {st₀ st:SortSt} {lo n mh:Nat} {Q:DescSt→SortSt→Prop} (hC:Cmp prog w A s κ val a₀) (hn:lo+mh≤a₀.size) (h1:1≤n) (xc:n≤mh) (hB:SF κ a₀ lo st₀ st)
  (hs:DIn val (arrOf st) lo (lo+n))
  (h:∀ m tU lV,SF κ a₀ lo st₀ lV→n≤m→m≤mh→DIn val (arrOf lV) lo (lo+m)→tU+1≤m→(∀ i,lo+m - (tU+1)≤i→i < lo+m→Vk val (arrOf lV) i=Vk val (arrOf lV) (lo+m - 1))→Q (none,m,tU) lV) :
  wpS (model prog w) A E s (zji lo n mh) Q st:=by
 unfold zji;refine b8 (I:=fun x c lV=>∃ tU,c=(none,x,tU)∧SF κ a₀ lo st₀ lV∧DIn val (arrOf lV) lo (lo+x)∧tU+1≤x ∧
   (∀ i,lo+x - (tU+1)≤i→i < lo+x→Vk val (arrOf lV) i=Vk val (arrOf lV) (lo+x - 1))) ?step ?fin ⟨0,rfl,hB,hs,#[O],fun i h1 h2=>by congr 1; lia⟩
 case fin =>
  (rintro c lV ⟨tU,rfl,oS,nW,hq,he⟩)
  (rw [show max n mh=mh by lia] at nW hq he ⊢)
  (exact h mh tU lV oS xc (ag _) nW hq he)
 case step =>
  (rintro x c lV DG Ci ⟨tU,rfl,oS,nW,hq,he⟩)
  dsimp only;have hsz:lo+x≤(arrOf lV).size:=by rw [oS.b.size]; lia
  refine ao (zeO hC oS.b #[O] #[O] ?_);by_cases nE:Vk val (arrOf lV) (lo+x) < Vk val (arrOf lV) (lo+x - 1)
  ·(simp only [nE,decide_true,if_true])
   have step1:∀ xs:Array Keyed,(∀ k,Vk val xs k=Vk val (arrOf lV) k)→DIn val xs lo (lo+(x+1)):=by
    intro xs hk i j sO qp hj;rw [hk,hk];by_cases AN:j < lo+x
    ·exact nW i j sO qp AN
    ·have pD:j=lo+x:=by lia
     subst pD;by_cases nK:i=lo+x
     ·(subst nK; exact bP _)
     ·exact b9 (fu nE) (nW i (lo+x - 1) sO #[O] #[O])
   by_cases vT:tU > 0
   ·rw [if_pos vT];refine ao (zjh (ar ⟨0,rfl,oS.setArr (jp _ _ _ _) (zcb hsz #[O]),step1 _ (zbp hsz he),#[O],fun i h1 h2=>by congr 1; lia⟩))
   ·rw [if_neg vT]
    (exact ar ⟨0,rfl,oS,step1 _ (fun _=>rfl),#[O],fun i h1 h2=>by congr 1; lia⟩)
  ·(simp only [nE,decide_false,bq,if_false])
   refine ao (zeO hC oS.b #[O] #[O] ?_);by_cases uC:Vk val (arrOf lV) (lo+x - 1) < Vk val (arrOf lV) (lo+x)
   ·(simp only [uC,decide_true,if_true])
    (exact ar (h x tU lV oS DG #[O] nW hq he))
   ·(simp only [uC,decide_false,bq,if_false])
    have AO:Vk val (arrOf lV) (lo+x)=Vk val (arrOf lV) (lo+x - 1):=by lia
    refine ar ⟨tU+1,rfl,oS,fun i j sO qp hj=>?_,#[O],fun i h1 h2=>?_⟩
    ·by_cases AN:j < lo+x
     ·exact nW i j sO qp AN
     ·have pD:j=lo+x:=by lia
      subst pD;by_cases nK:i=lo+x
      ·(subst nK; exact bP _)
      ·rw [AO]; exact nW i (lo+x - 1) sO #[O] #[O]
    ·rw [show lo+(x+1) - 1=lo+x by lia];by_cases hix:i=lo+x
     ·subst hix; rfl
     ·(rw [AO]; exact he i #[O] #[O])
theorem zjj {st₀ st:SortSt} {lo n mh:Nat} {Q:Option Nat→SortSt→Prop} (hC:Cmp prog w A s κ val a₀) (hn:lo+mh≤a₀.size) (xc:n+1≤mh) (hB:SF κ a₀ lo st₀ st)
  (hs:DIn val (arrOf st) lo (lo+(n+1))) (h:∀ m lV,SF κ a₀ lo st₀ lV→1≤m→m≤mh→SIn val (arrOf lV) lo (lo+m)→Q (some m) lV) :
  wpS (model prog w) A E s (zhG lo n mh) Q st:=by
 unfold zhG
 (refine ao (iu (cr ⟨rfl,?_⟩)))
 refine ao (zoY hC hn #[O] xc hB hs fun m tU lV oS vD rQ nW hq he=>?_);dsimp only;have hsz:lo+m≤(arrOf lV).size:=by rw [oS.b.size]; lia
 by_cases vT:tU > 0
 ·rw [if_pos vT];refine ao (zjh (zlz hC hn #[O] rQ (oS.setArr (jp _ _ _ _) (zcb hsz #[O])) ?_ h));intro i j sO qp hj;show Vk val (mirror (arrOf lV) _ _ _) j≤Vk val (mirror (arrOf lV) _ _ _) i;rw [zbp hsz he,zbp hsz he];exact nW i j sO qp hj
 ·rw [if_neg vT];exact zlz hC hn #[O] rQ oS nW h
theorem zm6 {st₀ st:SortSt} {lo mh:Nat} {Q:Option Nat→SortSt→Prop} (hC:Cmp prog w A s κ val a₀) (hn:lo+mh≤a₀.size) (h1:1≤mh) (hB:SF κ a₀ lo st₀ st)
  (h:∀ m lV,SF κ a₀ lo st₀ lV→1≤m→m≤mh→SIn val (arrOf lV) lo (lo+m)→Q (some m) lV) :
  wpS (model prog w) A E s (countRun' lo mh) Q st:=by
 rw [zgx];refine ao (zoc hC hn (ag 1) h1 hB (fun i j sO qp hj=>(by
   have e:i=j:=by lia
   rw [e];exact bP _)) fun n vU uJ wD hor=>?_)
 dsimp only;by_cases xc:n=mh
 ·(rw [if_pos (by simpa using xc)])
  (exact ar (h n st hB vU uJ wD))
 ·(rw [if_neg (by simpa using xc)])
  have mj:Vk val (arrOf st) (lo+n) < Vk val (arrOf st) (lo+n - 1):=hor.resolve_left xc;by_cases hgt:n > 1
  ·rw [if_pos hgt];refine ao (zeO hC hB.b #[O] #[O] ?_);by_cases xM:Vk val (arrOf st) lo < Vk val (arrOf st) (lo+n - 1)
   ·(simp only [xM,decide_true,if_true])
    (exact ar (h n st hB vU uJ wD))
   ·(simp only [xM,decide_false,bq,if_false])
    have hsz:lo+n≤(arrOf st).size:=by rw [hB.b.size]; lia
    have qS:∀ k,lo≤k→k < lo+n→Vk val (arrOf st) k=Vk val (arrOf st) (lo+n - 1):=by
     intro k vE hk;have a1:=wD lo k (ag _) vE hk;have a2:=wD k (lo+n - 1) vE #[O] #[O];lia
    refine ao (zjh (zjj hC hn #[O] (hB.setArr (jp _ _ _ _) (zcb hsz (ag _))) ?_ h));intro i j sO qp hj;show Vk val (mirror (arrOf st) _ _ _) j≤Vk val (mirror (arrOf st) _ _ _) i;rw [zbp hsz qS,zbp hsz qS];by_cases hjn:j < lo+n
    ·(rw [qS i #[O] #[O],qS j #[O] hjn]; exact bP _)
    ·have pD:j=lo+n:=by lia
     subst pD;by_cases nK:i=lo+n
     ·(subst nK; exact bP _)
     ·(rw [qS i #[O] #[O]]; exact fu mj)
  ·rw [if_neg hgt];have DH:n=1:=by lia
   subst DH;refine zjj hC hn #[O] hB ?_ h;intro i j sO qp hj;by_cases nK:i=j
   ·(subst nK; exact bP _)
   ·have yo:i=lo:=by lia
    have xf:j=lo+1:=by lia
    subst yo; subst xf;exact fu mj
theorem zhH {xs:Array Keyed} {src d:Nat} (hs:src < xs.size) (hd:d≤src) (k:Nat) :
  Vk val (bubble xs src d) k=if k=src - d then Vk val xs src else if src - d < k∧k≤src then Vk val xs (k - 1) else Vk val xs k:=by
 (have e:=getElem?_bubble hs d hd k)
 by_cases h1:k=src - d
 ·rw [if_pos h1] at e ⊢; exact z0 e
 ·rw [if_neg h1] at e ⊢
  (by_cases h2:src - d < k∧k≤src)
  ·rw [if_pos h2] at e ⊢; exact z0 e
  ·rw [if_neg h2] at e ⊢; exact z0 e
theorem zpZ {st₀ st:SortSt} {lo n ok:Nat} {Q:Bool→SortSt→Prop} (hC:Cmp prog w A s κ val a₀) (hn:lo+n≤a₀.size) (hok:ok≤n) (hB:SF κ a₀ lo st₀ st) (hs:SIn val (arrOf st) lo (lo+ok))
  (h:∀ lV,SF κ a₀ lo st₀ lV→SIn val (arrOf lV) lo (lo+n)→Q true lV):wpS (model prog w) A E s (binarySort' lo n ok) Q st:=by
 rw [binarySort'_eq];refine ao (dm (b8 (I:=fun k c lV=>c=(none,())∧SF κ a₀ lo st₀ lV∧SIn val (arrOf lV) lo (lo+min k n))
  (Q:=fun c lV=>c=(none,())∧SF κ a₀ lo st₀ lV∧SIn val (arrOf lV) lo (lo+n)) ?step ?fin ?init) ?post)
 case post =>
  rintro c lV ⟨rfl,oS,nW⟩
  (exact ar (h lV oS nW))
 case init =>
  refine⟨rfl,hB,fun i j sO qp hj=>?_⟩;by_cases h1:ok=0
  ·have e:i=j:=by lia
   rw [e]; exact bP _
  ·exact hs i j sO qp #[O]
 case fin =>
  rintro c lV ⟨hc,oS,nW⟩;refine⟨hc,oS,?_⟩
  (rwa [show min (max (max ok 1) n) n=n by lia] at nW)
 case step =>
  (rintro k c lV hak Ck ⟨rfl,oS,nW⟩)
  (rw [show min k n=k by lia] at nW)
  have hk:lo+k < a₀.size:=#[O]; refine ao (dm (b8 (I:=fun x c n8=>n8=lV∧∃ l r,c=(none,l,r)∧l≤r∧r≤k∧r - l≤k - x ∧
    (∀ i,i < l→Vk val (arrOf lV) (lo+i)≤Vk val (arrOf lV) (lo+k))∧(∀ i,r≤i→i < k→Vk val (arrOf lV) (lo+k) < Vk val (arrOf lV) (lo+i)))
   (Q:=fun c n8=>n8=lV∧∃ l r,c=(none,l,r)∧l≤k∧(∀ i,i < l→Vk val (arrOf lV) (lo+i)≤Vk val (arrOf lV) (lo+k))∧(∀ i,l≤i→i < k→Vk val (arrOf lV) (lo+k) < Vk val (arrOf lV) (lo+i))) ?istep ?ifin ?iinit) ?ipost)
  case iinit=>(exact⟨rfl,0,k,rfl,#[O],#[O],#[O],fun i hi=>by lia,fun i h1 h2=>by lia⟩)
  case ifin =>
   (rintro c n8 ⟨rfl,l,r,rfl,yZ,DI,hm,ql,xg⟩)
   have:l=r:=by lia
   subst this
   (exact⟨rfl,l,l,rfl,DI,ql,xg⟩)
  case istep =>
   (rintro x c n8 _ hxk ⟨rfl,l,r,rfl,yZ,DI,hm,ql,xg⟩)
   dsimp only;by_cases pZ:l≥r
   ·rw [if_pos pZ];have:l=r:=by lia
    subst this
    (exact ar ⟨rfl,l,l,rfl,DI,ql,xg⟩)
   ·rw [if_neg pZ];refine ao (zeO hC oS.b hk #[O] ?_);by_cases nE:Vk val (arrOf n8) (lo+k) < Vk val (arrOf n8) (lo+(l+r) / 2)
    ·(simp only [nE,decide_true,if_true])
     (refine ar ⟨rfl,l,(l+r) / 2,rfl,#[O],#[O],#[O],ql,fun i h1 h2=>?_⟩)
     exact Int.lt_of_lt_of_le nE (nW _ _ #[O] #[O] #[O])
    ·(simp only [nE,decide_false,bq,if_false])
     (refine ar ⟨rfl,(l+r) / 2+1,r,rfl,#[O],#[O],#[O],fun i h1=>?_,xg⟩)
     exact b9 (nW (lo+i) (lo+(l+r) / 2) #[O] #[O] #[O]) (lu.mp nE)
  case ipost =>
   (rintro c n8 ⟨rfl,l,r,rfl,hlk,ql,xg⟩)
   show wpS _ _ _ _ (do moveDown' (lo+k) (lo+l); pure (cI (none,()))) _ _;rw [moveDown'_eq];have DJ:lo+k < (arrOf n8).size:=by rw [oS.b.size]; exact hk
   refine ao (dO (ar ⟨rfl,oS.setArr (bubble_perm _ _ _) (ziy DJ #[O] #[O]),?_⟩))
   (rw [show min (k+1) n=k+1 by lia])
   intro i j sO qp hj;show Vk val (bubble (arrOf n8) (lo+k) (lo+k - (lo+l))) i≤Vk val (bubble (arrOf n8) (lo+k) (lo+k - (lo+l))) j;rw [zhH DJ #[O],zhH DJ #[O],show lo+k - (lo+k - (lo+l))=lo+l by lia];have DK:∀ i,lo≤i→i < lo+l→Vk val (arrOf n8) i≤Vk val (arrOf n8) (lo+k):=fun i h1 h2=>by
    have:=ql (i - lo) #[O]
    rwa [show lo+(i - lo)=i by lia] at this
   have DL:∀ i,lo+l≤i→i < lo+k→Vk val (arrOf n8) (lo+k) < Vk val (arrOf n8) i:=fun i h1 h2=>by
    have:=xg (i - lo) #[O] #[O]
    rwa [show lo+(i - lo)=i by lia] at this
   repeat' split
   all_goals first
    | (exfalso; lia)
    | exact bP _
    | exact DK _ #[O] #[O]
    | exact fu (DL _ #[O] #[O])
    | exact nW _ _ #[O] #[O] #[O]
end
end Srt
end
section
namespace Srt
open PySem PyProof.Rows
def zm7:Bool→Keyed→Array Keyed→Nat→Nat→Nat→StateT SortSt Sem (Option Nat):=sortPriv% PySem.Builtin.gallop
def zlA:Array Keyed→Array Keyed→StateT SortSt Sem (Array Keyed):=sortPriv% PySem.Builtin.mergeLo
def zlB:Array Keyed→Array Keyed→StateT SortSt Sem (Array Keyed):=sortPriv% PySem.Builtin.mergeHi
def zcX:Nat→StateT SortSt Sem Unit:=sortPriv% PySem.Builtin.setMinGallop
theorem zgy {M:Model} {A:Around} {E:Value→Shared→Prop} {s:Shared} {α:Type} {m:StateT SortSt Sem α} {Q:α→SortSt→Prop} {st:SortSt} (h:wpAny M A (m st) (fun r s'=>s'=s∧Q r.1 r.2) E s):wpS M A E s m Q st:=h
theorem zgz {M:Model} {A:Around} {E:Value→Shared→Prop} {s:Shared} {α:Type} {m:StateT SortSt Sem α} {Q:α→SortSt→Prop} {st:SortSt} (h:wpS M A E s m Q st):wpAny M A (m st) (fun r s'=>s'=s∧Q r.1 r.2) E s:=h
section
variable {prog:Program} {w:World} {A:Around} {E:Value→Shared→Prop} {s:Shared} {a₀:Array Keyed} {κ:SortKind} {val:Keyed→Int}
def bB (val:Keyed→Int) (left:Bool) (key:Keyed) (arr:Array Keyed) (base i:Nat):Bool:=if left then decide (Vk val arr (base+i) < val key) else !decide (val key < Vk val arr (base+i))
theorem zdg {left:Bool} {key:Keyed} {arr:Array Keyed} {base n i j:Nat} (hs:SIn val arr base (base+n)) (qp:i≤j) (hj:j < n) (h:bB val left key arr base j=true):bB val left key arr base i=true:=by
 have:=hs (base+i) (base+j) #[O] #[O] #[O];unfold bB at h ⊢;cases left <;> simp at h ⊢ <;> lia
theorem zcs {st:SortSt} {left:Bool} {key:Keyed} {arr:Array Keyed} {base i:Nat} {Q:Option Bool→SortSt→Prop} {p:Keyed} (hC:Cmp prog w A s κ val a₀) (hk:kindOf st=κ) (qr:key∈a₀.toList) (he:arr[base+i]? = some p) (hp:p∈a₀.toList)
  (h:Q (some (bB val left key arr base i)) st):wpS (model prog w) A E s (do
   let x ← elem' arr (base+i)
   if left then lt' x key else do
    let r ← lt' key x
    return r.map (!·)) Q st:=by
 refine ao (zR he ?_);unfold bB at h;rw [zU he] at h;cases left with
 | true=>exact zlx hC hk hp qr h
 | false=>exact ao (zlx hC hk qr hp (ar h))
abbrev zm8:=Option (Option Nat)×Nat×Nat
theorem zlC {st:SortSt} {left:Bool} {key:Keyed} {arr:Array Keyed} {base n lo hi:Nat} {f:Nat→zm8→StateT SortSt Sem (ForInStep zm8)} (hs:SIn val arr base (base+n)) (hlh:lo≤hi) (hhn:hi≤n)
  (h1:∀ i,i < lo→bB val left key arr base i=true) (h2:∀ i,hi≤i→i < n→bB val left key arr base i=false)
  (hf:∀ (x l r:Nat) (R:ForInStep zm8→SortSt→Prop),r≤n→(l≥r→R (.done (none,l,r)) st)→(l < r→R (if bB val left key arr base (l+(r - l) / 2)=true then .yield (none,l+(r - l) / 2+1,r) else .yield (none,l,l+(r - l) / 2)) st)→wpS (model prog w) A E s (f x (none,l,r)) R st) :
  wpS (model prog w) A E s (forIn [0:n] ((none,lo,hi):zm8) f) (fun c lV=>lV=st∧∃ l,c=(none,l,l)∧l≤n∧(∀ i,i < l→bB val left key arr base i=true)∧(∀ i,l≤i→i < n→bB val left key arr base i=false)) st:=by
 refine b8 (I:=fun x c lV=>lV=st∧∃ l r,c=(none,l,r)∧l≤r∧r≤n∧r - l≤n - x∧(∀ i,i < l→bB val left key arr base i=true)∧(∀ i,r≤i→i < n→bB val left key arr base i=false)) ?step ?fin ⟨rfl,lo,hi,rfl,hlh,hhn,#[O],h1,h2⟩
 case fin =>
  rintro c lV ⟨rfl,l,r,rfl,yZ,yp,hm,a1,a2⟩;have:l=r:=by lia
  subst this;exact⟨rfl,l,rfl,yp,a1,a2⟩
 case step =>
  rintro x c lV _ Ci ⟨rfl,l,r,rfl,yZ,yp,hm,a1,a2⟩;refine hf x l r _ yp (fun pZ=>?_) (fun mj=>?_)
  ·have:l=r:=by lia
   subst this;exact⟨rfl,l,rfl,yp,a1,a2⟩
  ·cases hb:bB val left key arr base (l+(r - l) / 2) with
   | true =>
    rw [if_pos rfl];exact⟨rfl,l+(r - l) / 2+1,r,rfl,#[O],yp,#[O],fun i hi=>zdg hs #[O] #[O] hb,a2⟩
   | false =>
    rw [if_neg #[D]];refine⟨rfl,l,l+(r - l) / 2,rfl,#[O],#[O],#[O],a1,fun i hi sE=>?_⟩;cases e:bB val left key arr base i with
    | false=>rfl
    | true=>rw [zdg hs hi sE e] at hb; cases hb
theorem zbq {st:SortSt} {left:Bool} {key:Keyed} {arr:Array Keyed} {base n hint:Nat} {Q:Option Nat→SortSt→Prop} (hC:Cmp prog w A s κ val a₀) (hk:kindOf st=κ) (qr:key∈a₀.toList)
  (ha:∀ i,i < n→∃ p,arr[base+i]? = some p∧p∈a₀.toList) (hs:SIn val arr base (base+n)) (hh:hint < n)
  (h:∀ k,k≤n→(∀ i,i < k→bB val left key arr base i=true)→(∀ i,k≤i→i < n→bB val left key arr base i=false)→Q (some k) st) :
  wpS (model prog w) A E s (zm7 left key arr base n hint) Q st:=by
 refine zgy ?_
 wp_delta
 wp_delta
 refine zgz ?_;dsimp only;obtain⟨p,ep,mp⟩:=ha hint hh;refine ao (zcs hC hk qr ep mp ?_);dsimp only;have up:∀ {i j:Nat},i≤j→j < n→bB val left key arr base i=false→bB val left key arr base j=false:=fun {i j} qp hj h=>by
  cases e:bB val left key arr base j with
  | false=>rfl
  | true=>rw [zdg hs qp hj e] at h; cases h
 cases hr:bB val left key arr base hint with
 | true =>
  simp only [if_true];refine ao (dm (b8 (I:=fun x c lV=>lV=st∧∃ l o,c=(none,l,o)∧l < o∧x+1≤o∧hint+l < n∧bB val left key arr base (hint+l)=true)
   (Q:=fun c lV=>lV=st∧∃ l o,c=(none,l,o)∧l < o∧hint+l < n∧bB val left key arr base (hint+l)=true∧(hint+o < n→bB val left key arr base (hint+o)=false)) ?step ?fin ⟨rfl,0,1,rfl,#[O],#[O],hh,hr⟩) ?post)
  case fin =>
   rintro c lV ⟨rfl,l,o,rfl,ql,hx,hl,hb⟩;exact⟨rfl,l,o,rfl,ql,hl,hb,fun z=>by lia⟩
  case step =>
   rintro x c lV _ Ci ⟨rfl,l,o,rfl,ql,hx,hl,hb⟩;dsimp only;by_cases pZ:o≥n - hint
   ·rw [if_pos pZ];exact ar ⟨rfl,l,o,rfl,ql,hl,hb,fun z=>by lia⟩
   ·rw [if_neg pZ];obtain⟨p,ep,mp⟩:=ha (hint+o) #[O];refine ao (zcs hC hk qr ep mp ?_);dsimp only;cases tP:bB val left key arr base (hint+o) with
    | true =>
     rw [if_neg #[D]];exact ar ⟨rfl,o,2*o+1,rfl,#[O],#[O],#[O],tP⟩
    | false =>
     rw [if_pos #[D]];exact ar ⟨rfl,l,o,rfl,ql,hl,hb,fun _=>tP⟩
  case post =>
   rintro c lV ⟨rfl,l,o,rfl,ql,hl,hb,tP⟩;dsimp only;refine ao (dm (zlC (val:=val) (left:=left) (key:=key) (arr:=arr) (base:=base) hs #[O] #[O] (fun i hi=>zdg hs #[O] hl hb) (fun i hi sE=>(by
    by_cases ho:hint+o < n
    ·exact up #[O] sE (tP ho)
    ·lia)) (fun x l' r' R yp k1 k2=>?_)) ?_)
   ·dsimp only;by_cases pZ:l'≥r'
    ·rw [if_pos pZ];exact ar (k1 pZ)
    ·rw [if_neg pZ];obtain⟨p,ep,mp⟩:=ha (l'+(r' - l') / 2) #[O];refine ao (zcs hC hk qr ep mp ?_);have k3:=k2 #[O];dsimp only;cases xN:bB val left key arr base (l'+(r' - l') / 2) with
     | true=>rw [xN] at k3; rw [if_pos rfl] at k3 ⊢; exact ar k3
     | false=>rw [xN] at k3; rw [if_neg #[D]] at k3 ⊢; exact ar k3
   ·rintro c n8 ⟨rfl,l,rfl,hl,b1,b2⟩;exact ar (h l hl b1 b2)
 | false =>
  (simp only [bq,if_false])
  refine ao (dm (b8 (I:=fun x c lV=>lV=st∧∃ l o,c=(none,l,o)∧l < o∧x+1≤o∧l≤hint∧bB val left key arr base (hint - l)=false)
   (Q:=fun c lV=>lV=st∧∃ l o,c=(none,l,o)∧l < o∧l≤hint∧bB val left key arr base (hint - l)=false∧(o≤hint→bB val left key arr base (hint - o)=true)) ?step ?fin ⟨rfl,0,1,rfl,#[O],#[O],#[O],hr⟩) ?post)
  case fin =>
   rintro c lV ⟨rfl,l,o,rfl,ql,hx,hl,hb⟩;exact⟨rfl,l,o,rfl,ql,hl,hb,fun z=>by lia⟩
  case step =>
   rintro x c lV _ Ci ⟨rfl,l,o,rfl,ql,hx,hl,hb⟩;dsimp only;by_cases pZ:o≥hint+1
   ·rw [if_pos pZ];exact ar ⟨rfl,l,o,rfl,ql,hl,hb,fun z=>by lia⟩
   ·rw [if_neg pZ];obtain⟨p,ep,mp⟩:=ha (hint - o) #[O];refine ao (zcs hC hk qr ep mp ?_);dsimp only;cases tP:bB val left key arr base (hint - o) with
    | false =>
     rw [if_neg #[D]];exact ar ⟨rfl,o,2*o+1,rfl,#[O],#[O],#[O],tP⟩
    | true =>
     rw [if_pos rfl];exact ar ⟨rfl,l,o,rfl,ql,hl,hb,fun _=>tP⟩
  case post =>
   rintro c lV ⟨rfl,l,o,rfl,ql,hl,hb,tP⟩;dsimp only;refine ao (dm (zlC (val:=val) (left:=left) (key:=key) (arr:=arr) (base:=base) hs #[O] #[O] (fun i hi=>(by
    by_cases ho:o≤hint
    ·exact zdg hs #[O] #[O] (tP ho)
    ·lia)) (fun i hi sE=>up hi sE hb) (fun x l' r' R yp k1 k2=>?_)) ?_)
   ·dsimp only;by_cases pZ:l'≥r'
    ·rw [if_pos pZ];exact ar (k1 pZ)
    ·rw [if_neg pZ];obtain⟨p,ep,mp⟩:=ha (l'+(r' - l') / 2) #[O];refine ao (zcs hC hk qr ep mp ?_);have k3:=k2 #[O];dsimp only;cases xN:bB val left key arr base (l'+(r' - l') / 2) with
     | true=>rw [xN] at k3; rw [if_pos rfl] at k3 ⊢; exact ar k3
     | false=>rw [xN] at k3; rw [if_neg #[D]] at k3 ⊢; exact ar k3
   ·rintro c n8 ⟨rfl,l,rfl,hl,b1,b2⟩;exact ar (h l hl b1 b2)
end
end Srt
end
section
namespace Srt
open PySem PyProof.Rows
abbrev zak (st:SortSt) (g:Nat):SortSt:=lw (kindOf st) (arrOf st) (pendingOf st) g (failedOf st)
theorem zdL (g:Nat):zcX g=modify fun s=>zak s g:=rfl
def Le (val:Keyed→Int) (xs ys:List Keyed):Prop:=∀ x∈xs,∀ y∈ys,val x≤val y
def Ris (val:Keyed→Int) (xs:List Keyed):Prop:=xs.Pairwise fun x y=>val x≤val y
theorem zar {val:Keyed→Int} {xs ys:List Keyed}:Ris val (xs++ys)↔Ris val xs∧Ris val ys∧Le val xs ys:=jM
structure MI (val:Keyed→Int) (T o l r:List Keyed):Prop where
 perm:(o++l++r).Perm T
 so:Ris val o
 sl:Ris val l
 sr:Ris val r
 ol:Le val o l
 or':Le val o r
def Good (val:Keyed→Int) (T res:List Keyed):Prop:=res.Perm T∧Ris val res
section
variable {val:Keyed→Int} {T o l l1 l2 r r1 r2:List Keyed}
theorem Le.left {xs ys zs:List Keyed} (h:Le val (xs++ys) zs):Le val xs zs:=fun x hx y hy=>h x (ba _ hx) y hy
theorem Le.right {xs ys zs:List Keyed} (h:Le val (xs++ys) zs):Le val ys zs:=fun x hx y hy=>h x (aP _ hx) y hy
theorem Le.app {xs ys zs:List Keyed} (h1:Le val xs zs) (h2:Le val ys zs):Le val (xs++ys) zs:=fun x hx y hy=>by
 rcases bi.mp hx with h | h
 ·exact h1 x h y hy
 ·exact h2 x h y hy
theorem Le.app' {xs ys zs:List Keyed} (h1:Le val xs ys) (h2:Le val xs zs):Le val xs (ys++zs):=fun x hx y hy=>by
 rcases bi.mp hy with h | h
 ·exact h1 x hx y h
 ·exact h2 x hx y h
theorem Le.sub {xs ys zs:List Keyed} (h1:Le val xs (ys++zs)):Le val xs ys∧Le val xs zs:=⟨fun x hx y hy=>h1 x hx y (ba _ hy),fun x hx y hy=>h1 x hx y (aP _ hy)⟩
theorem MI.takeA (h:MI val T o (l1++l2) r) (hle:Le val l1 r):MI val T (o++l1) l2 r:=by
 obtain⟨a1,a2,a3⟩:=zar.mp h.sl;obtain⟨b1,b2⟩:=h.ol.sub;exact⟨by have:=h.perm; simpa [bf] using this,zar.mpr ⟨h.so,a1,b1⟩,a2,h.sr,b2.app a3,h.or'.app hle⟩
theorem MI.takeB (h:MI val T o l (r1++r2)) (hle:Le val r1 l):MI val T (o++r1) l r2:=by
 obtain⟨a1,a2,a3⟩:=zar.mp h.sr;obtain⟨b1,b2⟩:=h.or'.sub;refine⟨?_,zar.mpr ⟨h.so,a1,b1⟩,h.sl,a2,h.ol.app hle,b2.app a3⟩;refine fT ?_ h.perm;have:(r1++l++r2).Perm (l++r1++r2):=List.perm_append_comm.append_right _;simpa [bf] using this.append_left o
theorem MI.doneA (h:MI val T o l []):Good val T (o++l):=⟨by have:=h.perm; simpa using this,zar.mpr ⟨h.so,h.sl,h.ol⟩⟩
theorem MI.doneB (h:MI val T o [] r):Good val T (o++r):=⟨by have:=h.perm; simpa using this,zar.mpr ⟨h.so,h.sr,h.or'⟩⟩
theorem MI.last (h:MI val T o l r) (hle:Le val r l):Good val T (o++r++l):=by
 refine⟨fT ?_ h.perm,?_⟩
 ·rw [bf,bf];exact List.perm_append_comm.append_left o
 ·exact zar.mpr ⟨zar.mpr ⟨h.so,h.sr,h.or'⟩,h.sl,h.ol.app hle⟩
end
section
variable {val:Keyed→Int} {T:List Keyed} {a b out:Array Keyed} {ia ib:Nat}
abbrev MA (val:Keyed→Int) (T:List Keyed) (a b out:Array Keyed) (ia ib:Nat):Prop:=MI val T out.toList (a.toList.drop ia) (b.toList.drop ib)
theorem zej {xs:Array Keyed} {i:Nat} {p:Keyed} (h:xs[i]? = some p):xs.toList.drop i=p :: xs.toList.drop (i+1):=by
 have hi:i < xs.toList.length:=by
  have:=(dk.mp h).1;simpa using this
 rw [dv hi];congr 1;have:=(dk.mp h).2;simpa using this
theorem zdh {xs:Array Keyed} (h:SIn val xs 0 xs.size):∀ i,Ris val (xs.toList.drop i):=by
 have all:Ris val xs.toList:=by
  unfold Ris
  (rw [cP])
  intro i j hi hj qp
  (have nK:i < xs.size:=by simpa using hi)
  (have pD:j < xs.size:=by simpa using hj)
  have:=h i j (bz _) #[O] pD;rw [zU (getElem?_pos xs i nK),zU (getElem?_pos xs j pD)] at this;simpa using this
 exact fun i=>fw (List.drop_sublist _ _) all
theorem zek {xs:Array Keyed} {i:Nat} {p q:Keyed} (h:SIn val xs 0 xs.size) (hp:xs[i]? = some p) (hq:q∈xs.toList.drop i):val p≤val q:=by
 have:=zdh h i;rw [zej hp] at this hq;rcases (aH.mp hq) with rfl | hq
 ·exact bP _
 ·exact List.rel_of_pairwise_cons this hq
theorem MA.pushB {y x:Keyed} (h:MA val T a b out ia ib) (sa:SIn val a 0 a.size) (hy:b[ib]? = some y) (hx:a[ia]? = some x) (hle:val y≤val x):MA val T a b (out.push y) ia (ib+1):=by
 unfold MA at h ⊢;rw [zej hy] at h;have:=MI.takeB (r1:=[y]) h fun p hp q hq=>by
  rw [bS.mp hp];exact b9 hle (zek sa hx hq)
 simpa using this
theorem MA.pushA {y x:Keyed} (h:MA val T a b out ia ib) (sb:SIn val b 0 b.size) (hy:b[ib]? = some y) (hx:a[ia]? = some x) (hle:val x≤val y):MA val T a b (out.push x) (ia+1) ib:=by
 unfold MA at h ⊢;rw [zej hx] at h;have:=MI.takeA (l1:=[x]) h fun p hp q hq=>by
  rw [bS.mp hp];exact b9 hle (zek sb hy hq)
 simpa using this
theorem zlD (xs:Array Keyed) (i k:Nat):xs.toList.drop i=(xs.extract i (i+k)).toList++xs.toList.drop (i+k):=by
 rw [dD];have:(xs.toList.extract i (i+k))=(xs.toList.drop i).take k:=by
  simp [dw] <;> lia
 rw [this,← jA,cU]
theorem zel {xs:Array Keyed} {i k:Nat} {p:Keyed} (h:p∈(xs.extract i (i+k)).toList):∃ j,j < k∧xs[i+j]? = some p:=by
 have e0:(xs.extract i (i+k)).toList=(xs.toList.drop i).take k:=by
  rw [dD];simp [dw] <;> lia
 rw [e0] at h
 (obtain⟨j,hj,e⟩:=eU h)
 have sF:j < k∧j < (xs.toList.drop i).length:=by
  rw [aL] at hj;lia
 refine⟨j,sF.1,?_⟩;rw [← bI,← ff,ai sF.2,← e,kF]
theorem MA.takeA {y:Keyed} {k:Nat} (h:MA val T a b out ia ib) (sb:SIn val b 0 b.size) (hy:b[ib]? = some y) (hle:∀ i,i < k→Vk val a (ia+i)≤val y):MA val T a b (out++a.extract ia (ia+k)) (ia+k) ib:=by
 unfold MA at h ⊢;rw [zlD a ia k] at h;have:=MI.takeA h fun p hp q hq=>by
  obtain⟨j,hj,e⟩:=zel hp;have:=hle j hj;rw [zU e] at this;exact b9 this (zek sb hy hq)
 simpa using this
theorem MA.takeB {x:Keyed} {k:Nat} (h:MA val T a b out ia ib) (sa:SIn val a 0 a.size) (hx:a[ia]? = some x) (hle:∀ i,i < k→Vk val b (ib+i)≤val x):MA val T a b (out++b.extract ib (ib+k)) ia (ib+k):=by
 unfold MA at h ⊢;rw [zlD b ib k] at h;have:=MI.takeB h fun p hp q hq=>by
  obtain⟨j,hj,e⟩:=zel hp;have:=hle j hj;rw [zU e] at this;exact b9 this (zek sa hx hq)
 simpa using this
theorem zcH (xs:Array Keyed) (i:Nat):(xs.extract i xs.size).toList=xs.toList.drop i:=by
 rw [dD];simp only [dw]
 (exact aN #[M])
theorem MA.doneB (h:MA val T a b out ia ib) (e:ib=b.size):Good val T (out++a.extract ia a.size++b.extract ib b.size).toList:=by
 unfold MA at h;rw [show b.toList.drop ib = [] from dP (by simp [e])] at h;have:=h.doneA;rw [bT,bT,zcH,zcH,show b.toList.drop ib = [] from dP (by simp [e]),bX];exact this
theorem MA.doneA (h:MA val T a b out ia ib) (e:ia=a.size):Good val T (out++a.extract ia a.size++b.extract ib b.size).toList:=by
 unfold MA at h;rw [show a.toList.drop ia = [] from dP (by simp [e])] at h;have:=h.doneB;rw [bT,bT,zcH,zcH,show a.toList.drop ia = [] from dP (by simp [e]),bX];exact this
theorem MA.last (h:MA val T a b out ia ib) (e:ia+1=a.size) (hl:∀ i,i < b.size→Vk val b i≤Vk val a (a.size - 1)):Good val T (out++b.extract ib b.size++a.extract ia a.size).toList:=by
 unfold MA at h;have hx:a[ia]? = some (a[ia]'#[O]):=getElem?_pos a ia #[O];have:=h.last fun p hp q hq=>by
  rw [zej hx,show a.toList.drop (ia+1) = [] from dP (by simp [e])] at hq;rw [bS.mp hq];obtain⟨j,hj,ej⟩:=eU (jN hp);have pD:j < b.size:=by simpa using hj
  have:=hl j pD;rw [zU (getElem?_pos b j pD),show a.size - 1=ia by lia,zU hx] at this;rw [← ej];simpa using this
 rw [bT,bT,zcH,zcH];exact this
end
end Srt
end
section
namespace Srt
open PySem PyProof.Rows
section
variable {prog:Program} {w:World} {A:Around} {E:Value→Shared→Prop} {s:Shared} {a₀:Array Keyed} {κ:SortKind} {val:Keyed→Int}
theorem zdi {st:SortSt} {g:Nat} {Q:Unit→SortSt→Prop} (h:Q () (zak st g)):wpS (model prog w) A E s (zcX g) Q st:=by
 rw [zdL];exact dO h
theorem zap {xs:Array Keyed} {i:Nat} (h:i < xs.size):∃ p,xs[i]? = some p∧p∈xs.toList:=⟨xs[i],getElem?_pos xs i h,#[M]⟩
theorem zcc {key:Keyed} {arr:Array Keyed} {base i:Nat} (h:bB val true key arr base i=true):Vk val arr (base+i) < val key:=by
 unfold bB at h;simpa using h
theorem zdj {key:Keyed} {arr:Array Keyed} {base i:Nat} (h:bB val false key arr base i=true):Vk val arr (base+i)≤val key:=by
 unfold bB at h;simp at h;lia
theorem zc3 {key:Keyed} {arr:Array Keyed} {base i:Nat} (h:bB val true key arr base i=false):val key≤Vk val arr (base+i):=by
 unfold bB at h;simp at h;lia
theorem zem {key:Keyed} {arr:Array Keyed} {base i:Nat} (h:bB val false key arr base i=false):val key < Vk val arr (base+i):=by
 unfold bB at h;simp at h;exact h
theorem SIn.sub {xs:Array Keyed} {lo hi lo' nK:Nat} (h:SIn val xs lo hi) (h1:lo≤lo') (h2:nK≤hi):SIn val xs lo' nK:=fun i j a b c=>h i j #[O] b #[O]
theorem zt {σ α:Type} {M:Model} {c:Prop} {inst:Decidable c} {x y:StateT σ Sem α} {Q:α→σ→Prop} {st:σ} (h:c) (k:wpS M A E s x Q st):wpS M A E s (@ite _ c inst x y) Q st:=by rw [if_pos h]; exact k
theorem zu {σ α:Type} {M:Model} {c:Prop} {inst:Decidable c} {x y:StateT σ Sem α} {Q:α→σ→Prop} {st:σ} (h:¬ c) (k:wpS M A E s y Q st):wpS M A E s (@ite _ c inst x y) Q st:=by rw [if_neg h]; exact k
theorem zaT {σ α:Type} {M:Model} {c:Prop} {inst:Decidable c} {x y:StateT σ Sem α} {Q:α→σ→Prop} {st:σ} (h:c→wpS M A E s x Q st) (k:¬ c→wpS M A E s y Q st):wpS M A E s (@ite _ c inst x y) Q st:=by
 by_cases hc:c
 ·rw [if_pos hc]; exact h hc
 ·rw [if_neg hc]; exact k hc
theorem zkh {st:SortSt} {a b:Array Keyed} {Q:Array Keyed→SortSt→Prop} (hC:Cmp prog w A s κ val a₀) (hk:kindOf st=κ) (ma:∀ p∈a.toList,p∈a₀.toList) (mb:∀ p∈b.toList,p∈a₀.toList)
  (sa:SIn val a 0 a.size) (sb:SIn val b 0 b.size) (h1:1≤a.size) (h2:1≤b.size) (hf:Vk val b 0≤Vk val a 0) (hl:∀ i,i < b.size→Vk val b i≤Vk val a (a.size - 1))
  (h:∀ out g,Good val (a.toList++b.toList) out.toList→Q out (zak st g)):wpS (model prog w) A E s (zlA a b) Q st:=by
 refine zgy ?_
 wp_delta
 wp_delta
 refine zgz ?_
 (refine ao (iu (cr ⟨rfl,?_⟩)))
 obtain⟨y0,wF,DM⟩:=zap (xs:=b) (i:=0) #[O];obtain⟨x0,wG,DN⟩:=zap (xs:=a) (i:=0) #[O];refine ao (zR wF ?_);have I0:MA val (a.toList++b.toList) a b #[] 0 0:=⟨#[M],iL,zdh sa 0,zdh sb 0,fun x hx=>by simp at hx,fun x hx=>by simp at hx⟩;have I1:MA val (a.toList++b.toList) a b #[y0] 0 1:=I0.pushB sa wF wG (by rw [zU wF,zU wG] at hf; exact hf);dsimp only;by_cases tV:1=b.size
 ·refine zt (by simpa using tV) ?_;exact ar (h _ (gallopOf st) (I1.doneB tV))
 refine zu (by simpa using tV) ?_;by_cases vF:0+1=a.size
 ·refine zt (by simpa using vF) ?_;exact ar (h _ (gallopOf st) (I1.last #[O] hl))
 refine zu (by simpa using vF) ?_;refine ao (ft ?_);refine ao (dm (b8 (I:=fun x c lV=>∃ g out ia ib mg,lV=zak st g∧c=(none,out,ia,ib,mg)∧MA val (a.toList++b.toList) a b out ia ib∧ia+1 < a.size∧ib < b.size∧x+1≤ia+ib)
  (Q:=fun c lV=>∃ g r o,lV=zak st g∧c=(some r,o)∧Good val (a.toList++b.toList) r.toList) ?step ?fin ⟨gallopOf st,#[y0],0,1,gallopOf st,rfl,rfl,I1,#[O],#[O],#[O]⟩) ?post)
 case post =>
  rintro c lV ⟨g,r,o,rfl,rfl,hG⟩;exact ar (h _ g hG)
 case fin =>
  rintro c lV ⟨g,out,ia,ib,mg,rfl,rfl,hI,b1,b2,b3⟩;lia
 case step =>
  rintro x c lV _ hx ⟨g,out,ia,ib,mg,rfl,rfl,hI,b1,b2,b3⟩;dsimp only;refine ao (dm (b8 (I:=fun x c lV=>lV=zak st g∧∃ mC n6 nX ac bc,c=(none,mC,n6,nX,ac,bc)∧MA val (a.toList++b.toList) a b mC n6 nX∧n6+1 < a.size∧nX < b.size∧ia+ib+x≤n6+nX)
   (Q:=fun c lV=>lV=zak st g∧((∃ r o,c=(some r,o)∧Good val (a.toList++b.toList) r.toList)∨∃ mC n6 nX ac bc,c=(none,mC,n6,nX,ac,bc)∧MA val (a.toList++b.toList) a b mC n6 nX∧n6+1 < a.size∧nX < b.size∧ia+ib+1≤n6+nX)) ?step1 ?fin1 ⟨rfl,out,ia,ib,0,0,rfl,hI,b1,b2,#[O]⟩) ?post1)
  case fin1 =>
   rintro c lV ⟨rfl,mC,n6,nX,ac,bc,rfl,hI,b1,b2,b3⟩;exact⟨rfl,.inr ⟨mC,n6,nX,ac,bc,rfl,hI,b1,b2,#[O]⟩⟩
  case step1 =>
   rintro x1 c lV _ xO ⟨rfl,mC,n6,nX,ac,bc,rfl,hI,b1,b2,b3⟩;dsimp only;obtain⟨y,ey,my⟩:=zap (xs:=b) (i:=nX) #[O];obtain⟨z,ez,mz⟩:=zap (xs:=a) (i:=n6) #[O];refine ao (zR ey (ao (zR ez (ao (zlx hC hk (mb y my) (ma z mz) ?_)))));dsimp only;by_cases AQ:val y < val z
   ·refine zt (by simpa using AQ) ?_;refine ao (zR ey ?_);have p4:=hI.pushB sa ey ez #[O];by_cases e1:nX+1=b.size
    ·refine zt (by simpa using e1) ?_;exact ar ⟨rfl,.inl ⟨_,_,rfl,p4.doneB e1⟩⟩
    refine zu (by simpa using e1) ?_;refine zaT (fun _=>?_) (fun _=>?_)
    ·exact ar ⟨rfl,.inr ⟨_,_,_,_,_,rfl,p4,b1,#[O],#[O]⟩⟩
    ·exact ar ⟨rfl,_,_,_,_,_,rfl,p4,b1,#[O],#[O]⟩
   ·refine zu (by simpa using AQ) ?_;refine ao (zR ez ?_);have p4:=hI.pushA sb ey ez #[O];by_cases e1:n6+1+1=a.size
    ·refine zt (by simpa using e1) ?_;exact ar ⟨rfl,.inl ⟨_,_,rfl,p4.last e1 hl⟩⟩
    refine zu (by simpa using e1) ?_;refine zaT (fun _=>?_) (fun _=>?_)
    ·exact ar ⟨rfl,.inr ⟨_,_,_,_,_,rfl,p4,#[O],b2,#[O]⟩⟩
    ·exact ar ⟨rfl,_,_,_,_,_,rfl,p4,#[O],b2,#[O]⟩
  case post1 =>
   rintro c lV ⟨rfl,hc⟩;rcases hc with ⟨r,o,rfl,hG⟩ | ⟨yq,DO,DP,DQ,DR,rfl,DS,c1,c2,c3⟩
   ·exact ar ⟨g,r,_,rfl,rfl,hG⟩
   dsimp only
   (refine ao (iu (cr ⟨rfl,?_⟩)))
   refine ao (dm (b8 (I:=fun x c lV=>∃ g mC n6 nX mg ac bc,lV=zak st g∧c=(none,mC,n6,nX,mg,ac,bc)∧MA val (a.toList++b.toList) a b mC n6 nX∧n6+1 < a.size∧nX < b.size∧DO+DP≤n6+nX)
    (Q:=fun c lV=>∃ g,lV=zak st g∧((∃ r o,c=(some r,o)∧Good val (a.toList++b.toList) r.toList)∨∃ mC n6 nX mg ac bc,c=(none,mC,n6,nX,mg,ac,bc)∧MA val (a.toList++b.toList) a b mC n6 nX∧n6+1 < a.size∧nX < b.size∧DO+DP≤n6+nX)) ?step2 ?fin2 ⟨g,yq,DO,DP,_,DQ,DR,rfl,rfl,DS,c1,c2,ag _⟩) ?post2)
   case fin2 =>
    rintro c lV ⟨g,mC,n6,nX,mg,ac,bc,rfl,rfl,hI,b1,b2,b3⟩;exact⟨g,rfl,.inr ⟨mC,n6,nX,mg,ac,bc,rfl,hI,b1,b2,b3⟩⟩
   case post2 =>
    rintro c lV ⟨g,rfl,hc⟩;rcases hc with ⟨r,o,rfl,hG⟩ | ⟨yr,ia2,ib2,mg2,ac2,bc2,rfl,p4,d1,d2,d3⟩
    ·exact ar ⟨g,r,_,rfl,rfl,hG⟩
    dsimp only;refine ao (zdi (ar ⟨_,yr,ia2,ib2,_,rfl,rfl,p4,d1,d2,#[O]⟩))
   case step2 =>
    rintro x2 c lV _ wH ⟨g,mC,n6,nX,DT,ac,bc,rfl,rfl,hI,b1,b2,b3⟩;dsimp only;obtain⟨y,ey,my⟩:=zap (xs:=b) (i:=nX) #[O];by_cases wN:DT > 1
    all_goals
     first
      | refine zt wN ?_
      | refine zu wN ?_
     refine ao (zdi (ao (zR ey (ao (zbq hC hk (mb y my) (fun i hi=>(by
      obtain⟨p,ep,mp⟩:=zap (xs:=a) (i:=n6+i) #[O];exact⟨p,ep,ma p mp⟩)) (sa.sub #[O] #[O]) #[O] fun k Cm pB wI=>?_)))))
     dsimp only;have p4:=hI.takeA (k:=k) sb ey fun i hi=>zdj (pB i hi)
     by_cases vE:k > 0
     ·refine zt vE ?_;by_cases e1:n6+k+1=a.size
      ·refine zt (by simpa using e1) ?_;exact ar ⟨_,rfl,.inl ⟨_,_,rfl,p4.last e1 hl⟩⟩
      refine zu (by simpa using e1) ?_;by_cases e2:n6+k=a.size
      ·refine zt (by simpa using e2) ?_;exact ar ⟨_,rfl,.inl ⟨_,_,rfl,p4.doneA e2⟩⟩
      refine zu (by simpa using e2) ?_;refine ao (zR ey ?_);obtain⟨z,ez,mz⟩:=zap (xs:=a) (i:=n6+k) #[O];have tW:=p4.pushB sa ey ez (by have:=zem (wI k (ag _) #[O]); rw [zU ez] at this; lia);by_cases e3:nX+1=b.size
      ·refine zt (by simpa using e3) ?_;exact ar ⟨_,rfl,.inl ⟨_,_,rfl,tW.doneB e3⟩⟩
      refine zu (by simpa using e3) ?_;refine ao (zR ez (ao (zbq hC hk (ma z mz) (fun i hi=>(by
       obtain⟨p,ep,mp⟩:=zap (xs:=b) (i:=nX+1+i) #[O];exact⟨p,ep,mb p mp⟩)) (sb.sub #[O] #[O]) #[O] fun j xf sF vV=>?_)))
      dsimp only;have uU:=tW.takeB (k:=j) sa ez fun i hi=>fu (zcc (sF i hi))
      by_cases qU:j > 0
      ·refine zt qU ?_;by_cases e4:nX+1+j=b.size
       ·refine zt (by simpa using e4) ?_;exact ar ⟨_,rfl,.inl ⟨_,_,rfl,uU.doneB e4⟩⟩
       refine zu (by simpa using e4) ?_;obtain⟨y2,qt,xh⟩:=zap (xs:=b) (i:=nX+1+j) #[O];refine ao (zR ez ?_);have oT:=uU.pushA sb qt ez (by have:=zc3 (vV j (ag _) #[O]); rw [zU qt] at this; exact this);by_cases e9:n6+k+1+1=a.size
       ·refine zt (by simpa using e9) ?_;exact ar ⟨_,rfl,.inl ⟨_,_,rfl,oT.last e9 hl⟩⟩
       refine zu (by simpa using e9) ?_;refine zaT (fun _=>?_) (fun _=>?_)
       ·exact ar ⟨_,rfl,.inr ⟨_,_,_,_,_,_,rfl,oT,#[O],#[O],#[O]⟩⟩
       ·exact ar ⟨_,_,_,_,_,_,_,rfl,rfl,oT,#[O],#[O],#[O]⟩
      ·refine zu qU ?_;have yt:j=0:=by lia
       subst yt;obtain⟨y2,qt,xh⟩:=zap (xs:=b) (i:=nX+1) #[O];refine ao (zR ez ?_);have oT:=tW.pushA sb qt ez (by have:=zc3 (vV 0 (ag _) #[O]); rw [dS,zU qt] at this; exact this);by_cases e9:n6+k+1+1=a.size
       ·refine zt (by simpa using e9) ?_;exact ar ⟨_,rfl,.inl ⟨_,_,rfl,oT.last e9 hl⟩⟩
       refine zu (by simpa using e9) ?_;refine zaT (fun _=>?_) (fun _=>?_)
       ·exact ar ⟨_,rfl,.inr ⟨_,_,_,_,_,_,rfl,oT,#[O],#[O],#[O]⟩⟩
       ·exact ar ⟨_,_,_,_,_,_,_,rfl,rfl,oT,#[O],#[O],#[O]⟩
     ·refine zu vE ?_;have DU:k=0:=by lia
      subst DU;refine ao (zR ey ?_);obtain⟨z,ez,mz⟩:=zap (xs:=a) (i:=n6) #[O];have tW:=hI.pushB sa ey ez (by have:=zem (wI 0 (ag _) #[O]); rw [dS,zU ez] at this; lia);by_cases e3:nX+1=b.size
      ·refine zt (by simpa using e3) ?_;exact ar ⟨_,rfl,.inl ⟨_,_,rfl,tW.doneB e3⟩⟩
      refine zu (by simpa using e3) ?_;refine ao (zR ez (ao (zbq hC hk (ma z mz) (fun i hi=>(by
       obtain⟨p,ep,mp⟩:=zap (xs:=b) (i:=nX+1+i) #[O];exact⟨p,ep,mb p mp⟩)) (sb.sub #[O] #[O]) #[O] fun j xf sF vV=>?_)))
      dsimp only;have uU:=tW.takeB (k:=j) sa ez fun i hi=>fu (zcc (sF i hi))
      by_cases qU:j > 0
      ·refine zt qU ?_;by_cases e4:nX+1+j=b.size
       ·refine zt (by simpa using e4) ?_;exact ar ⟨_,rfl,.inl ⟨_,_,rfl,uU.doneB e4⟩⟩
       refine zu (by simpa using e4) ?_;obtain⟨y2,qt,xh⟩:=zap (xs:=b) (i:=nX+1+j) #[O];refine ao (zR ez ?_);have oT:=uU.pushA sb qt ez (by have:=zc3 (vV j (ag _) #[O]); rw [zU qt] at this; exact this);by_cases e9:n6+1+1=a.size
       ·refine zt (by simpa using e9) ?_;exact ar ⟨_,rfl,.inl ⟨_,_,rfl,oT.last e9 hl⟩⟩
       refine zu (by simpa using e9) ?_;refine zaT (fun _=>?_) (fun _=>?_)
       ·exact ar ⟨_,rfl,.inr ⟨_,_,_,_,_,_,rfl,oT,#[O],#[O],#[O]⟩⟩
       ·exact ar ⟨_,_,_,_,_,_,_,rfl,rfl,oT,#[O],#[O],#[O]⟩
      ·refine zu qU ?_;have yt:j=0:=by lia
       subst yt;obtain⟨y2,qt,xh⟩:=zap (xs:=b) (i:=nX+1) #[O];refine ao (zR ez ?_);have oT:=tW.pushA sb qt ez (by have:=zc3 (vV 0 (ag _) #[O]); rw [dS,zU qt] at this; exact this);by_cases e9:n6+1+1=a.size
       ·refine zt (by simpa using e9) ?_;exact ar ⟨_,rfl,.inl ⟨_,_,rfl,oT.last e9 hl⟩⟩
       refine zu (by simpa using e9) ?_;refine zaT (fun _=>?_) (fun _=>?_)
       ·exact ar ⟨_,rfl,.inr ⟨_,_,_,_,_,_,rfl,oT,#[O],#[O],#[O]⟩⟩
       ·exact ar ⟨_,_,_,_,_,_,_,rfl,rfl,oT,#[O],#[O],#[O]⟩
end
end Srt
end
section
namespace Srt
open PySem PyProof.Rows
structure MH (val:Keyed→Int) (T l r o:List Keyed):Prop where
 perm:(l++r++o).Perm T
 so:Ris val o
 sl:Ris val l
 sr:Ris val r
 lo:Le val l o
 ro:Le val r o
section
variable {val:Keyed→Int} {T o l l1 l2 r r1 r2:List Keyed}
theorem MH.takeA (h:MH val T (l1++l2) r o) (hle:Le val r l2):MH val T l1 r (l2++o):=by
 obtain⟨a1,a2,a3⟩:=zar.mp h.sl;refine⟨?_,zar.mpr ⟨a2,h.so,h.lo.right⟩,a1,h.sr,a3.app' h.lo.left,hle.app' h.ro⟩;refine fT ?_ h.perm;have:(r++l2).Perm (l2++r):=List.perm_append_comm;have:=(this.append_left l1).append_right o;simpa [bf] using this
theorem MH.takeB (h:MH val T l (r1++r2) o) (hle:Le val l r2):MH val T l r1 (r2++o):=by
 obtain⟨a1,a2,a3⟩:=zar.mp h.sr;exact⟨by have:=h.perm; simpa [bf] using this,zar.mpr ⟨a2,h.so,h.ro.right⟩,h.sl,a1,hle.app' h.lo,a3.app' h.ro.left⟩
theorem MH.doneA (h:MH val T [] r o):Good val T (r++o):=⟨by have:=h.perm; simpa using this,zar.mpr ⟨h.sr,h.so,h.ro⟩⟩
theorem MH.doneB (h:MH val T l [] o):Good val T (l++o):=⟨by have:=h.perm; simpa using this,zar.mpr ⟨h.sl,h.so,h.lo⟩⟩
theorem MH.first (h:MH val T l r o) (hle:Le val r l):Good val T (r++l++o):=by
 refine⟨fT (List.perm_append_comm.append_right _) h.perm,?_⟩;exact zar.mpr ⟨zar.mpr ⟨h.sr,h.sl,hle⟩,h.so,h.ro.app h.lo⟩
end
section
variable {val:Keyed→Int} {T:List Keyed} {a b out:Array Keyed} {na nb:Nat}
abbrev MB (val:Keyed→Int) (T:List Keyed) (a b out:Array Keyed) (na nb:Nat):Prop:=MH val T (a.toList.take na) (b.toList.take nb) out.toList.reverse
theorem zjk {xs:Array Keyed} {n:Nat} {p:Keyed} (h:xs[n]? = some p):xs.toList.take (n+1)=xs.toList.take n++[p]:=by
 rw [List.take_succ,bI,h];rfl
theorem zhI {xs:Array Keyed} (h:SIn val xs 0 xs.size) (i:Nat):Ris val (xs.toList.take i):=by
 have:=zdh h 0;rw [fz] at this;exact fw (gw _ _) this
theorem zeQ {xs:Array Keyed} {n:Nat} {p:Keyed} (h:p∈xs.toList.take n):∃ j,j < n∧j < xs.size∧xs[j]? = some p:=by
 (obtain⟨j,hj,e⟩:=eU h)
 have sF:j < n∧j < xs.toList.length:=by
  rw [aL] at hj;lia
 refine⟨j,sF.1,by simpa using sF.2,?_⟩;rw [← bI,ai sF.2,← e,kF]
theorem zen {xs:Array Keyed} {n:Nat} {p q:Keyed} (h:SIn val xs 0 xs.size) (hp:xs[n]? = some p) (hq:q∈xs.toList.take (n+1)):val q≤val p:=by
 obtain⟨j,hj,tL,e⟩:=zeQ hq;have hn:=(dk.mp hp).1;have:=h j n (bz _) #[O] hn;rw [zU e,zU hp] at this;exact this
theorem MB.pushA {y x:Keyed} (h:MB val T a b out (na+1) nb) (sb:SIn val b 0 b.size) (hn:1≤nb) (hy:b[nb - 1]? = some y) (hx:a[na]? = some x) (hle:val y≤val x):MB val T a b (out.push x) na nb:=by
 unfold MB at h ⊢;rw [zjk hx] at h;have:=MH.takeA h fun p hp q hq=>by
  rw [bS.mp hq];exact b9 (zen sb hy (by rw [show nb - 1+1=nb by lia]; exact hp)) hle
 simpa using this
theorem MB.pushB {y x:Keyed} (h:MB val T a b out na (nb+1)) (sa:SIn val a 0 a.size) (hn:1≤na) (hy:b[nb]? = some y) (hx:a[na - 1]? = some x) (hle:val x≤val y):MB val T a b (out.push y) na nb:=by
 unfold MB at h ⊢;rw [zjk hy] at h;have:=MH.takeB h fun p hp q hq=>by
  rw [bS.mp hq];exact b9 (zen sa hx (by rw [show na - 1+1=na by lia]; exact hp)) hle
 simpa using this
theorem zjl (xs:Array Keyed) {i n:Nat} (h:i≤n):xs.toList.take n=xs.toList.take i++(xs.extract i n).toList:=by
 rw [dD];simp only [dw];rw [← cU i (xs.toList.take n),List.take_take,dE h,List.drop_take]
theorem MB.takeA {y:Keyed} {at':Nat} (h:MB val T a b out na nb) (sb:SIn val b 0 b.size) (pf:at'≤na) (hn:1≤nb) (hy:b[nb - 1]? = some y) (hle:∀ i,at'≤i→i < na→val y≤Vk val a i):MB val T a b (out++(a.extract at' na).reverse) at' nb:=by
 unfold MB at h ⊢;rw [zjl a pf] at h;have:=MH.takeA h fun p hp q hq=>by
  have n4:q∈(a.extract at' (at'+(na - at'))).toList:=by rw [show at'+(na - at')=na by lia]; exact hq
  obtain⟨j,hj,e⟩:=zel n4;have:=hle (at'+j) #[O] #[O];rw [zU e] at this;exact b9 (zen sb hy (by rw [show nb - 1+1=nb by lia]; exact hp)) this
 simpa using this
theorem MB.takeB {x:Keyed} {at':Nat} (h:MB val T a b out na nb) (sa:SIn val a 0 a.size) (pf:at'≤nb) (hn:1≤na) (hx:a[na - 1]? = some x) (hle:∀ i,at'≤i→i < nb→val x≤Vk val b i):MB val T a b (out++(b.extract at' nb).reverse) na at':=by
 unfold MB at h ⊢;rw [zjl b pf] at h;have:=MH.takeB h fun p hp q hq=>by
  have n4:q∈(b.extract at' (at'+(nb - at'))).toList:=by rw [show at'+(nb - at')=nb by lia]; exact hq
  obtain⟨j,hj,e⟩:=zel n4;have:=hle (at'+j) #[O] #[O];rw [zU e] at this;exact b9 (zen sa hx (by rw [show na - 1+1=na by lia]; exact hp)) this
 simpa using this
theorem zb0 (xs:Array Keyed) (n:Nat):(xs.extract 0 n).toList=xs.toList.take n:=by
 rw [dD];simp [dw]
theorem MB.doneA (h:MB val T a b out na nb) (e:na=0):Good val T (a.extract 0 na++b.extract 0 nb++out.reverse).toList:=by
 unfold MB at h;subst e;have:=MH.doneA h;rw [bT,bT,zb0,zb0,gn,lg,ie];exact this
theorem MB.doneB (h:MB val T a b out na nb) (e:nb=0):Good val T (a.extract 0 na++b.extract 0 nb++out.reverse).toList:=by
 unfold MB at h;subst e;have:=MH.doneB h;rw [bT,bT,zb0,zb0,gn,bX,ie];exact this
theorem MB.first (h:MB val T a b out na nb) (e:nb=1) (sa:SIn val a 0 a.size) (h2:1≤b.size) (hf:Vk val b 0≤Vk val a 0):Good val T (b.extract 0 nb++a.extract 0 na++out.reverse).toList:=by
 unfold MB at h;subst e;have:=MH.first h fun p hp q hq=>by
  obtain⟨j,hj,tL,ej⟩:=zeQ hp;have qU:j=0:=by lia
  subst qU;obtain⟨i,hi,his,ei⟩:=zeQ hq;have:=sa 0 i (bz _) (bz _) his;rw [zU ei] at this;rw [zU ej] at hf;lia
 rw [bT,bT,zb0,zb0,ie];exact this
end
section
variable {prog:Program} {w:World} {A:Around} {E:Value→Shared→Prop} {s:Shared} {a₀:Array Keyed} {κ:SortKind} {val:Keyed→Int}
theorem zki {st:SortSt} {a b:Array Keyed} {Q:Array Keyed→SortSt→Prop} (hC:Cmp prog w A s κ val a₀) (hk:kindOf st=κ) (ma:∀ p∈a.toList,p∈a₀.toList) (mb:∀ p∈b.toList,p∈a₀.toList)
  (sa:SIn val a 0 a.size) (sb:SIn val b 0 b.size) (h1:1≤a.size) (h2:1≤b.size) (hf:Vk val b 0≤Vk val a 0) (hl:∀ i,i < b.size→Vk val b i≤Vk val a (a.size - 1))
  (h:∀ out g,Good val (a.toList++b.toList) out.toList→Q out (zak st g)):wpS (model prog w) A E s (zlB a b) Q st:=by
 refine zgy ?_
 wp_delta
 wp_delta
 refine zgz ?_
 (refine ao (iu (cr ⟨rfl,?_⟩)))
 obtain⟨x0,wG,DN⟩:=zap (xs:=a) (i:=a.size - 1) #[O];obtain⟨y0,wF,DM⟩:=zap (xs:=b) (i:=b.size - 1) #[O];refine ao (zR wG ?_);have I0:MB val (a.toList++b.toList) a b #[] (a.size - 1+1) b.size:=by
  refine⟨?_,iL,zhI sa _,zhI sb _,fun x _ y hy=>by simp at hy,fun x _ y hy=>by simp at hy⟩;rw [show a.size - 1+1=a.size by lia,aN #[M],aN #[M]];simp
 have I1:MB val (a.toList++b.toList) a b #[x0] (a.size - 1) b.size:=I0.pushA sb h2 wF wG (by have:=hl (b.size - 1) #[O]; rw [zU wF,zU wG] at this; exact this);dsimp only;by_cases vF:a.size - 1=0
 ·refine zt (by simpa using vF) ?_;exact ar (h _ (gallopOf st) (I1.doneA vF))
 refine zu (by simpa using vF) ?_;by_cases tV:b.size=1
 ·refine zt (by simpa using tV) ?_;exact ar (h _ (gallopOf st) (I1.first tV sa h2 hf))
 refine zu (by simpa using tV) ?_;refine ao (ft ?_);refine ao (dm (b8 (I:=fun x c lV=>∃ g out na nb mg,lV=zak st g∧c=(none,na,nb,out,mg)∧MB val (a.toList++b.toList) a b out na nb∧1≤na∧2≤nb∧na≤a.size∧nb≤b.size∧x+na+nb+1≤a.size+b.size)
  (Q:=fun c lV=>∃ g r o,lV=zak st g∧c=(some r,o)∧Good val (a.toList++b.toList) r.toList) ?step ?fin ⟨gallopOf st,#[x0],a.size - 1,b.size,gallopOf st,rfl,rfl,I1,#[O],#[O],#[O],#[O],#[O]⟩) ?post)
 case post =>
  rintro c lV ⟨g,r,o,rfl,rfl,hG⟩;exact ar (h _ g hG)
 case fin =>
  rintro c lV ⟨g,out,na,nb,mg,rfl,rfl,hI,b1,b2,b3⟩;lia
 case step =>
  rintro x c lV _ hx ⟨g,out,na,nb,mg,rfl,rfl,hI,b1,b2,b4,b5,b3⟩;dsimp only;refine ao (dm (b8 (I:=fun x c lV=>lV=zak st g∧∃ mC oG oH ac bc,c=(none,oG,oH,mC,ac,bc)∧MB val (a.toList++b.toList) a b mC oG oH∧1≤oG∧2≤oH∧oG≤a.size∧oH≤b.size∧x+oG+oH≤na+nb)
   (Q:=fun c lV=>lV=zak st g∧((∃ r o,c=(some r,o)∧Good val (a.toList++b.toList) r.toList)∨∃ mC oG oH ac bc,c=(none,oG,oH,mC,ac,bc)∧MB val (a.toList++b.toList) a b mC oG oH∧1≤oG∧2≤oH∧oG≤a.size∧oH≤b.size∧1+oG+oH≤na+nb)) ?step1 ?fin1 ⟨rfl,out,na,nb,0,0,rfl,hI,b1,b2,b4,b5,#[O]⟩) ?post1)
  case fin1 =>
   rintro c lV ⟨rfl,mC,oG,oH,ac,bc,rfl,hI,b1,b2,b4,b5,b3⟩;exact⟨rfl,.inr ⟨mC,oG,oH,ac,bc,rfl,hI,b1,b2,b4,b5,#[O]⟩⟩
  case step1 =>
   rintro x1 c lV _ xO ⟨rfl,mC,oG,oH,ac,bc,rfl,hI,b1,b2,b4,b5,b3⟩;dsimp only;obtain⟨n1,rfl⟩:∃ n1,oG=n1+1:=⟨oG - 1,#[O]⟩;obtain⟨m1,rfl⟩:∃ m1,oH=m1+1:=⟨oH - 1,#[O]⟩;simp only [bN];obtain⟨y,ey,my⟩:=zap (xs:=b) (i:=m1) #[O];obtain⟨z,ez,mz⟩:=zap (xs:=a) (i:=n1) #[O];refine ao (zR ey (ao (zR ez (ao (zlx hC hk (mb y my) (ma z mz) ?_)))));dsimp only;by_cases AQ:val y < val z
   ·refine zt (by simpa using AQ) ?_;refine ao (zR ez ?_);have p4:=hI.pushA sb #[O] ey ez #[O];by_cases e1:n1=0
    ·refine zt (by simpa using e1) ?_;exact ar ⟨rfl,.inl ⟨_,_,rfl,p4.doneA e1⟩⟩
    refine zu (by simpa using e1) ?_;refine zaT (fun _=>?_) (fun _=>?_)
    ·exact ar ⟨rfl,.inr ⟨_,_,_,_,_,rfl,p4,#[O],#[O],#[O],#[O],#[O]⟩⟩
    ·exact ar ⟨rfl,_,_,_,_,_,rfl,p4,#[O],#[O],#[O],#[O],#[O]⟩
   ·refine zu (by simpa using AQ) ?_;refine ao (zR ey ?_);have p4:=hI.pushB sa #[O] ey ez #[O];by_cases e1:m1=1
    ·refine zt (by simpa using e1) ?_;exact ar ⟨rfl,.inl ⟨_,_,rfl,p4.first e1 sa h2 hf⟩⟩
    refine zu (by simpa using e1) ?_;refine zaT (fun _=>?_) (fun _=>?_)
    ·exact ar ⟨rfl,.inr ⟨_,_,_,_,_,rfl,p4,#[O],#[O],#[O],#[O],#[O]⟩⟩
    ·exact ar ⟨rfl,_,_,_,_,_,rfl,p4,#[O],#[O],#[O],#[O],#[O]⟩
  case post1 =>
   rintro c lV ⟨rfl,hc⟩;rcases hc with ⟨r,o,rfl,hG⟩ | ⟨yq,DV,DW,DQ,DR,rfl,DS,c1,c2,c4,c5,c3⟩
   ·exact ar ⟨g,r,_,rfl,rfl,hG⟩
   dsimp only
   (refine ao (iu (cr ⟨rfl,?_⟩)))
   refine ao (dm (b8 (I:=fun x c lV=>∃ g mC oG oH mg ac bc,lV=zak st g∧c=(none,oG,oH,mC,mg,ac,bc)∧MB val (a.toList++b.toList) a b mC oG oH∧1≤oG∧2≤oH∧oG≤a.size∧oH≤b.size∧oG+oH≤DV+DW)
    (Q:=fun c lV=>∃ g,lV=zak st g∧((∃ r o,c=(some r,o)∧Good val (a.toList++b.toList) r.toList)∨∃ mC oG oH mg ac bc,c=(none,oG,oH,mC,mg,ac,bc)∧MB val (a.toList++b.toList) a b mC oG oH∧1≤oG∧2≤oH∧oG≤a.size∧oH≤b.size∧oG+oH≤DV+DW)) ?step2 ?fin2 ⟨g,yq,DV,DW,_,DQ,DR,rfl,rfl,DS,c1,c2,c4,c5,ag _⟩) ?post2)
   case fin2 =>
    rintro c lV ⟨g,mC,oG,oH,mg,ac,bc,rfl,rfl,hI,b1,b2,b4,b5,b3⟩;exact⟨g,rfl,.inr ⟨mC,oG,oH,mg,ac,bc,rfl,hI,b1,b2,b4,b5,b3⟩⟩
   case post2 =>
    rintro c lV ⟨g,rfl,hc⟩;rcases hc with ⟨r,o,rfl,hG⟩ | ⟨yr,na2,nb2,mg2,ac2,bc2,rfl,p4,d1,d2,d4,d5,d3⟩
    ·exact ar ⟨g,r,_,rfl,rfl,hG⟩
    dsimp only;refine ao (zdi (ar ⟨_,yr,na2,nb2,_,rfl,rfl,p4,d1,d2,d4,d5,#[O]⟩))
   case step2 =>
    rintro x2 c lV _ wH ⟨g,mC,oG,oH,DT,ac,bc,rfl,rfl,hI,b1,b2,b4,b5,b3⟩;dsimp only;obtain⟨m1,rfl⟩:∃ m1,oH=m1+1:=⟨oH - 1,#[O]⟩;simp only [bN];obtain⟨y,ey,my⟩:=zap (xs:=b) (i:=m1) #[O];by_cases wN:DT > 1
    all_goals
     first
      | refine zt wN ?_
      | refine zu wN ?_
     refine ao (zdi (ao (zR ey (ao (zbq hC hk (mb y my) (fun i hi=>(by
      obtain⟨p,ep,mp⟩:=zap (xs:=a) (i:=0+i) #[O];exact⟨p,ep,ma p mp⟩)) (sa.sub #[O] #[O]) #[O] fun k Cm pB wI=>?_)))))
     dsimp only;have p4:=hI.takeA (at':=k) sb Cm #[O] ey fun i h1 h2=>fu (by have:=zem (wI i h1 h2); rwa [cw] at this)
     by_cases vE:oG - k > 0
     ·refine zt vE ?_;by_cases e1:k=0
      ·refine zt (by simpa using e1) ?_;exact ar ⟨_,rfl,.inl ⟨_,_,rfl,p4.doneA e1⟩⟩
      refine zu (by simpa using e1) ?_;obtain⟨n1,rfl⟩:∃ n1,k=n1+1:=⟨k - 1,#[O]⟩;simp only [bN];refine ao (zR ey ?_);obtain⟨z,ez,mz⟩:=zap (xs:=a) (i:=n1) #[O];have tW:=p4.pushB sa #[O] ey (show a[n1+1 - 1]? = some z by rw [bN]; exact ez) (by have:=zdj (pB n1 #[O]); rw [cw,zU ez] at this; exact this);by_cases e3:m1=1
      ·refine zt (by simpa using e3) ?_;exact ar ⟨_,rfl,.inl ⟨_,_,rfl,tW.first e3 sa h2 hf⟩⟩
      refine zu (by simpa using e3) ?_;refine ao (zR ez (ao (zbq hC hk (ma z mz) (fun i hi=>(by
       obtain⟨p,ep,mp⟩:=zap (xs:=b) (i:=0+i) #[O];exact⟨p,ep,mb p mp⟩)) (sb.sub #[O] #[O]) #[O] fun j xf sF vV=>?_)))
      dsimp only;have uU:=tW.takeB (at':=j) sa xf #[O] (show a[n1+1 - 1]? = some z by rw [bN]; exact ez) fun i h1 h2=>(by have:=zc3 (vV i h1 h2); rwa [cw] at this)
      by_cases qU:m1 - j > 0
      ·refine zt qU ?_;by_cases e4:j=1
       ·refine zt (by simpa using e4) ?_;exact ar ⟨_,rfl,.inl ⟨_,_,rfl,uU.first e4 sa h2 hf⟩⟩
       refine zu (by simpa using e4) ?_;by_cases e5:j=0
       ·refine zt (by simpa using e5) ?_;exact ar ⟨_,rfl,.inl ⟨_,_,rfl,uU.doneB e5⟩⟩
       refine zu (by simpa using e5) ?_;obtain⟨y2,qt,xh⟩:=zap (xs:=b) (i:=j - 1) #[O];refine ao (zR ez ?_);have oT:=uU.pushA sb #[O] qt ez (by have:=zcc (sF (j - 1) #[O]); rw [cw,zU qt] at this; lia);by_cases e9:n1=0
       ·refine zt (by simpa using e9) ?_;exact ar ⟨_,rfl,.inl ⟨_,_,rfl,oT.doneA e9⟩⟩
       refine zu (by simpa using e9) ?_;refine zaT (fun _=>?_) (fun _=>?_)
       ·exact ar ⟨_,rfl,.inr ⟨_,_,_,_,_,_,rfl,oT,#[O],#[O],#[O],#[O],#[O]⟩⟩
       ·exact ar ⟨_,_,_,_,_,_,_,rfl,rfl,oT,#[O],#[O],#[O],#[O],#[O]⟩
      ·refine zu qU ?_;have DX:j=m1:=by lia
       subst DX;obtain⟨y2,qt,xh⟩:=zap (xs:=b) (i:=j - 1) #[O];refine ao (zR ez ?_);have oT:=tW.pushA sb #[O] qt ez (by have:=zcc (sF (j - 1) #[O]); rw [cw,zU qt] at this; lia);by_cases e9:n1=0
       ·refine zt (by simpa using e9) ?_;exact ar ⟨_,rfl,.inl ⟨_,_,rfl,oT.doneA e9⟩⟩
       refine zu (by simpa using e9) ?_;refine zaT (fun _=>?_) (fun _=>?_)
       ·exact ar ⟨_,rfl,.inr ⟨_,_,_,_,_,_,rfl,oT,#[O],#[O],#[O],#[O],#[O]⟩⟩
       ·exact ar ⟨_,_,_,_,_,_,_,rfl,rfl,oT,#[O],#[O],#[O],#[O],#[O]⟩
     ·refine zu vE ?_;have Ck:k=oG:=by lia
      subst Ck;obtain⟨n1,rfl⟩:∃ n1,k=n1+1:=⟨k - 1,#[O]⟩;simp only [bN];refine ao (zR ey ?_);obtain⟨z,ez,mz⟩:=zap (xs:=a) (i:=n1) #[O];have tW:=hI.pushB sa #[O] ey (show a[n1+1 - 1]? = some z by rw [bN]; exact ez) (by have:=zdj (pB n1 #[O]); rw [cw,zU ez] at this; exact this);by_cases e3:m1=1
      ·refine zt (by simpa using e3) ?_;exact ar ⟨_,rfl,.inl ⟨_,_,rfl,tW.first e3 sa h2 hf⟩⟩
      refine zu (by simpa using e3) ?_;refine ao (zR ez (ao (zbq hC hk (ma z mz) (fun i hi=>(by
       obtain⟨p,ep,mp⟩:=zap (xs:=b) (i:=0+i) #[O];exact⟨p,ep,mb p mp⟩)) (sb.sub #[O] #[O]) #[O] fun j xf sF vV=>?_)))
      dsimp only;have uU:=tW.takeB (at':=j) sa xf #[O] (show a[n1+1 - 1]? = some z by rw [bN]; exact ez) fun i h1 h2=>(by have:=zc3 (vV i h1 h2); rwa [cw] at this)
      by_cases qU:m1 - j > 0
      ·refine zt qU ?_;by_cases e4:j=1
       ·refine zt (by simpa using e4) ?_;exact ar ⟨_,rfl,.inl ⟨_,_,rfl,uU.first e4 sa h2 hf⟩⟩
       refine zu (by simpa using e4) ?_;by_cases e5:j=0
       ·refine zt (by simpa using e5) ?_;exact ar ⟨_,rfl,.inl ⟨_,_,rfl,uU.doneB e5⟩⟩
       refine zu (by simpa using e5) ?_;obtain⟨y2,qt,xh⟩:=zap (xs:=b) (i:=j - 1) #[O];refine ao (zR ez ?_);have oT:=uU.pushA sb #[O] qt ez (by have:=zcc (sF (j - 1) #[O]); rw [cw,zU qt] at this; lia);by_cases e9:n1=0
       ·refine zt (by simpa using e9) ?_;exact ar ⟨_,rfl,.inl ⟨_,_,rfl,oT.doneA e9⟩⟩
       refine zu (by simpa using e9) ?_;refine zaT (fun _=>?_) (fun _=>?_)
       ·exact ar ⟨_,rfl,.inr ⟨_,_,_,_,_,_,rfl,oT,#[O],#[O],#[O],#[O],#[O]⟩⟩
       ·exact ar ⟨_,_,_,_,_,_,_,rfl,rfl,oT,#[O],#[O],#[O],#[O],#[O]⟩
      ·refine zu qU ?_;have DX:j=m1:=by lia
       subst DX;obtain⟨y2,qt,xh⟩:=zap (xs:=b) (i:=j - 1) #[O];refine ao (zR ez ?_);have oT:=tW.pushA sb #[O] qt ez (by have:=zcc (sF (j - 1) #[O]); rw [cw,zU qt] at this; lia);by_cases e9:n1=0
       ·refine zt (by simpa using e9) ?_;exact ar ⟨_,rfl,.inl ⟨_,_,rfl,oT.doneA e9⟩⟩
       refine zu (by simpa using e9) ?_;refine zaT (fun _=>?_) (fun _=>?_)
       ·exact ar ⟨_,rfl,.inr ⟨_,_,_,_,_,_,rfl,oT,#[O],#[O],#[O],#[O],#[O]⟩⟩
       ·exact ar ⟨_,_,_,_,_,_,_,rfl,rfl,oT,#[O],#[O],#[O],#[O],#[O]⟩
end
end Srt
end
section
namespace Srt
open PySem PyProof.Rows
def wb (sa:Nat) (l:List (Keyed×Nat)) (xs:Array Keyed):Array Keyed:=l.foldl (fun a (p,j)=>a.setIfInBounds (sa+j) p) xs
theorem zlE (sa:Nat):∀ (l:List Keyed) (n:Nat) (xs:Array Keyed) (k:Nat),sa+n+l.length≤xs.size→(wb sa (l.zipIdx n) xs)[k]? = if sa+n≤k∧k < sa+n+l.length then l[k - (sa+n)]? else xs[k]?
 | [],n,xs,k,h=>by
  rw [if_neg (by simp only [ic]; lia)];rfl
 | p :: l,n,xs,k,h=>by
  have hl:(p :: l).length=l.length+1:=rfl;rw [hl] at h ⊢;show (wb sa (l.zipIdx (n+1)) (xs.setIfInBounds (sa+n) p))[k]? = _;rw [zlE sa l (n+1) _ k (by rw [Array.size_setIfInBounds]; lia)];by_cases h1:sa+(n+1)≤k∧k < sa+(n+1)+l.length
  ·rw [if_pos h1,if_pos #[O],show k - (sa+n)=k - (sa+(n+1))+1 by lia,cK]
  ·rw [if_neg h1,Array.getElem?_setIfInBounds];by_cases h2:sa+n=k
   ·rw [if_pos h2,if_pos #[O],if_pos #[O],show k - (sa+n)=0 by lia];rfl
   ·rw [if_neg h2,if_neg #[O]]
theorem zm9 {sa:Nat} {m xs:Array Keyed} (h:sa+m.size≤xs.size):(wb sa m.toList.zipIdx xs).toList=xs.toList.take sa++m.toList++xs.toList.drop (sa+m.size):=by
 have hm:m.toList.length=m.size:=by simp
 have hx:xs.toList.length=xs.size:=by simp
 refine c9 fun k=>?_
 rw [bI,zlE sa m.toList 0 xs k (by rw [hm]; lia),hm,dS];by_cases h1:k < sa
 ·rw [if_neg #[O],bf,be (by rw [aL]; lia),bW h1,bI]
 ·by_cases h2:k < sa+m.size
  ·rw [if_pos #[O],bf,bK (by rw [aL]; lia),aL,hx,show min sa xs.size=sa by lia,be #[O]]
  ·rw [if_neg #[O],bK (by rw [aA,aL]; lia),aA,aL,hx,show min sa xs.size=sa by lia,hm,ff,show sa+m.size+(k - (sa+m.size))=k by lia,bI]
theorem zkj (xs:List Keyed) {i j k:Nat} (h1:i≤j) (h2:j≤k):xs=xs.take i++((xs.drop i).take (j - i)++(xs.drop j).take (k - j))++xs.drop k:=by
 have e1:xs.drop i=(xs.drop i).take (j - i)++xs.drop j:=by
  have:=(cU (j - i) (xs.drop i)).symm
  rwa [jA,show i+(j - i)=j by lia] at this
 have e2:xs.drop j=(xs.drop j).take (k - j)++xs.drop k:=by
  have:=(cU (k - j) (xs.drop j)).symm
  rwa [jA,show j+(k - j)=k by lia] at this
 have e0:=(cU i xs).symm;rw [e1,e2] at e0;rw [bf,bf];exact e0
theorem zdk (xs:Array Keyed) (i j:Nat):(xs.extract i j).toList=(xs.toList.drop i).take (j - i):=by
 rw [dD]
theorem zna {sa sb e:Nat} {m xs:Array Keyed} (h1:sa≤sb) (h2:sb≤e) (h3:e≤xs.size) (hp:m.toList.Perm ((xs.extract sa sb).toList++(xs.extract sb e).toList)):(wb sa m.toList.zipIdx xs).Perm xs:=by
 have y4:m.size=e - sa:=by
  have:=hp.length_eq;rw [aA,zdk,zdk,aL,aL,fF,fF] at this;have hx:xs.toList.length=xs.size:=by simp
  have hm:m.toList.length=m.size:=by simp
  lia
 rw [fO,zm9 #[O],show sa+m.size=e by lia];refine fT ((hp.append_left _).append_right _) ?_;rw [zdk,zdk,← zkj xs.toList h1 h2]
section
variable {prog:Program} {w:World} {A:Around} {E:Value→Shared→Prop} {s:Shared} {a₀:Array Keyed} {κ:SortKind} {val:Keyed→Int}
theorem zc4 {xs:Array Keyed} {i j k:Nat} (h:k < j - i) (hj:j≤xs.size):(xs.extract i j)[k]? = xs[i+k]?:=by
 rw [← bI,zdk,bW h,ff,bI]
theorem zdl {xs:Array Keyed} {i j:Nat} (hj:j≤xs.size):(xs.extract i j).size=j - i:=by rw [Array.size_extract,dE hj]
theorem zjm {xs:Array Keyed} {i j:Nat} (hj:j≤xs.size) (h:SIn val xs i j):SIn val (xs.extract i j) 0 (xs.extract i j).size:=by
 rw [zdl hj];intro p q _ hpq hq;rw [z0 (zc4 #[O] hj),z0 (zc4 hq hj)];exact h _ _ #[O] #[O] #[O]
theorem zeo {xs:Array Keyed} {i j:Nat} (hj:j≤xs.size) {p:Keyed} (h:p∈(xs.extract i j).toList):∃ k,i≤k∧k < j∧xs[k]? = some p:=by
 obtain⟨k,hk,e⟩:=eU h;have vw:k < j - i:=by
  rwa [bu,zdl hj] at hk
 refine⟨i+k,#[O],#[O],?_⟩;rw [← zc4 vw hj,← bI,ai hk,e]
theorem zkk {st:SortSt} {i sa na pw sb nb pw2:Nat} {Q:Bool→SortSt→Prop} (hC:Cmp prog w A s κ val a₀) (hB:SB κ a₀ st) (e1:(pendingOf st)[i]? = some (sa,na,pw)) (e2:(pendingOf st)[i+1]? = some (sb,nb,pw2))
  (nM:sb=sa+na) (hna:1≤na) (hnb:1≤nb) (hsz:sb+nb≤a₀.size) (sA:SIn val (arrOf st) sa (sa+na)) (sB:SIn val (arrOf st) sb (sb+nb))
  (h:∀ lV,SB κ a₀ lV→pendingOf lV=((pendingOf st).setIfInBounds i (sa,na+nb,pw)).eraseIdxIfInBounds (i+1)→(∀ k,(k < sa∨sb+nb≤k)→(arrOf lV)[k]? = (arrOf st)[k]?)→SIn val (arrOf lV) sa (sb+nb)→Q true lV) :
  wpS (model prog w) A E s (mergeAt' i) Q st:=by
 refine zgy ?_
 wp_delta
 wp_delta
 refine zgz ?_;refine ao (ft ?_);rw [e1,e2];dsimp only;have AR:=hB.size;obtain⟨y0,wF,DM⟩:=hB.mem (i:=sb) #[O];generalize yu:(sortPriv% PySem.Builtin.SortState.mk) (kindOf st) (arrOf st) (((pendingOf st).setIfInBounds i (sa,na+nb,pw)).eraseIdxIfInBounds (i+1)) (gallopOf st) (failedOf st)=n5;have vW:SB κ a₀ n5:=by subst yu; exact⟨hB.perm,hB.kind,hB.failed⟩
 have qT:pendingOf n5=((pendingOf st).setIfInBounds i (sa,na+nb,pw)).eraseIdxIfInBounds (i+1):=by subst yu; rfl
 have vF:arrOf n5=arrOf st:=by subst yu; rfl
 have xi:∀ n,n < a₀.size→∃ p,(arrOf st)[n]? = some p∧p∈a₀.toList:=fun n hn=>hB.mem hn
 refine ao (show wpS _ _ _ _ (set n5) _ st from dO (f:=fun _=>n5) ?_);refine ao (zR wF (ao (zbq (arr:=arrOf st) hC vW.kind DM (fun j hj=>xi (sa+j) #[O]) sA #[O] fun k Cm pB wI=>?_)));dsimp only;have AS:∀ j,sa≤j→j < sa+k→Vk val (arrOf st) j≤Vk val (arrOf st) sb:=fun j h1 h2=>by
  have:=zdj (pB (j - sa) #[O])
  rwa [show sa+(j - sa)=j by lia,← zU (val:=val) wF] at this
 by_cases vE:na - k=0
 ·rw [if_pos (by simpa using vE)];refine ar (h n5 vW qT (fun _ _=>by rw [vF]) ?_);rw [vF];intro p q h1 h2 h3;by_cases hq:q < sa+na
  ·exact sA p q h1 h2 hq
  ·by_cases hp:p < sa+na
   ·exact b9 (AS p h1 #[O]) (sB sb q #[O] #[O] h3)
   ·exact sB p q #[O] h2 h3
 rw [if_neg (by simpa using vE)];have AU:sa+k+(na - k) - 1=sa+na - 1:=by lia
 rw [AU];obtain⟨x0,wG,DN⟩:=hB.mem (i:=sa+na - 1) #[O];refine ao (zR wG (ao (zbq (arr:=arrOf st) hC vW.kind DN (fun j hj=>xi (sb+j) #[O]) sB #[O] fun m vD rQ Cn=>?_)));dsimp only;have xP:∀ j,sb+m≤j→j < sb+nb→Vk val (arrOf st) (sa+na - 1)≤Vk val (arrOf st) j:=fun j h1 h2=>by
  have:=zc3 (Cn (j - sb) #[O] #[O])
  rwa [show sb+(j - sb)=j by lia,← zU (val:=val) wG] at this
 have DY:∀ j,sb≤j→j < sb+m→Vk val (arrOf st) j < Vk val (arrOf st) (sa+na - 1):=fun j h1 h2=>by
  have:=zcc (rQ (j - sb) #[O])
  rwa [show sb+(j - sb)=j by lia,← zU (val:=val) wG] at this
 by_cases hm0:m=0
 ·rw [if_pos (by simpa using hm0)];refine ar (h n5 vW qT (fun _ _=>by rw [vF]) ?_);rw [vF];intro p q h1 h2 h3;by_cases hq:q < sa+na
  ·exact sA p q h1 h2 hq
  ·by_cases hp:p < sa+na
   ·exact b9 (sA p (sa+na - 1) h1 #[O] #[O]) (xP q #[O] h3)
   ·exact sB p q #[O] h2 h3
 rw [if_neg (by simpa using hm0)];have zx:(arrOf st).size=a₀.size:=AR;have z1:=zdl (xs:=arrOf st) (i:=sa+k) (j:=sb) #[O];have z2:=zdl (xs:=arrOf st) (i:=sb) (j:=sb+m) #[O];have hf:Vk val ((arrOf st).extract sb (sb+m)) 0≤Vk val ((arrOf st).extract (sa+k) sb) 0:=by
  rw [z0 (zc4 #[O] #[O]),z0 (zc4 (xs:=arrOf st) (i:=sa+k) (j:=sb) (k:=0) #[O] #[O])];have:=zem (wI k (ag _) #[O]);rw [← zU (val:=val) wF] at this;simp only [dS] at this ⊢;lia
 have hl:∀ j,j < ((arrOf st).extract sb (sb+m)).size→Vk val ((arrOf st).extract sb (sb+m)) j≤Vk val ((arrOf st).extract (sa+k) sb) (((arrOf st).extract (sa+k) sb).size - 1):=by
  intro j hj;rw [z2] at hj;rw [z1,z0 (zc4 #[O] #[O]),z0 (zc4 (xs:=arrOf st) (i:=sa+k) (j:=sb) #[O] #[O])];have:=DY (sb+j) #[O] #[O];rw [show sa+k+(sb - (sa+k) - 1)=sa+na - 1 by lia];lia
 have fin:∀ (out:Array Keyed) (g:Nat),Good val (((arrOf st).extract (sa+k) sb).toList++((arrOf st).extract sb (sb+m)).toList) out.toList →
   wpS (model prog w) A E s (do
    modify fun s=>setArr s (out.toList.zipIdx.foldl (fun a (p,j)=>a.setIfInBounds (sa+k+j) p) (arrOf s))
    let s' ← get
    pure (failedOf s').isNone) Q (zak n5 g):=by
  intro out g hG;refine ao (dO (ao (ft ?_)));have y4:out.size=sb+m - (sa+k):=by
   have:=hG.1.length_eq;rw [aA] at this;have e1:out.toList.length=out.size:=by simp
   have e2:((arrOf st).extract (sa+k) sb).toList.length=sb - (sa+k):=by rw [bu,z1]
   have e3:((arrOf st).extract sb (sb+m)).toList.length=sb+m - sb:=by rw [bu,z2]
   lia
  have uD:=zna (xs:=arrOf st) (sa:=sa+k) (sb:=sb) (e:=sb+m) #[O] #[O] #[O] hG.1;have pf:∀ n,(wb (sa+k) out.toList.zipIdx (arrOf st))[n]? = if sa+k≤n∧n < sb+m then out[n - (sa+k)]? else (arrOf st)[n]?:=fun n=>by
   have:=zlE (sa+k) out.toList 0 (arrOf st) n (by rw [bu]; lia);rw [bu,dS,y4,show sa+k+(sb+m - (sa+k))=sb+m by lia,bI] at this;exact this
  have Ai:(failedOf (setArr (zak n5 g) (wb (sa+k) out.toList.zipIdx (arrOf st)))).isNone=true:=by
   show (failedOf n5).isNone=true;rw [vW.failed];rfl
  have DZ:arrOf (zak n5 g)=arrOf st:=vF;show wpS _ _ _ _ (pure (failedOf (setArr (zak n5 g) (wb (sa+k) out.toList.zipIdx (arrOf (zak n5 g))))).isNone) Q (setArr (zak n5 g) (wb (sa+k) out.toList.zipIdx (arrOf (zak n5 g))));rw [DZ,Ai];refine ar (h _ ⟨uD.trans hB.perm,vW.kind,vW.failed⟩ qT (fun n hn=>?_) ?_)
  ·show (wb (sa+k) out.toList.zipIdx (arrOf st))[n]? = _;rw [pf,if_neg #[O]]
  ·show SIn val (wb (sa+k) out.toList.zipIdx (arrOf st)) sa (sb+nb);have sE:∀ n,sa+k≤n→n < sb+m→∃ q,sa+k≤q∧q < sb+m∧Vk val (wb (sa+k) out.toList.zipIdx (arrOf st)) n=Vk val (arrOf st) q:=fun n h1 h2=>by
    have ho:n - (sa+k) < out.size:=by lia
    have uz:out[n - (sa+k)]? = some out[n - (sa+k)]:=getElem?_pos out _ ho;have rS:out[n - (sa+k)]∈((arrOf st).extract (sa+k) sb).toList++((arrOf st).extract sb (sb+m)).toList:=hG.1.mem_iff.mp #[M];have hv:Vk val (wb (sa+k) out.toList.zipIdx (arrOf st)) n=val out[n - (sa+k)]:=zU (by rw [pf,if_pos ⟨h1,h2⟩,uz]);rcases bi.mp rS with rS | rS
    ·obtain⟨q,q1,q2,q3⟩:=zeo #[O] rS;exact⟨q,q1,#[O],by rw [hv,zU q3]⟩
    ·obtain⟨q,q1,q2,q3⟩:=zeo #[O] rS;exact⟨q,#[O],q2,by rw [hv,zU q3]⟩
   have pF:∀ n,¬ (sa+k≤n∧n < sb+m)→Vk val (wb (sa+k) out.toList.zipIdx (arrOf st)) n=Vk val (arrOf st) n:=fun n hn=>z0 (by rw [pf,if_neg hn])
   intro p q h1 h2 h3;by_cases hp:p < sa+k
   ·rw [pF p #[O]];by_cases hq:q < sa+k
    ·rw [pF q #[O]];exact sA p q h1 h2 #[O]
    ·have key:∀ q',sa+k≤q'→q' < sb+nb→Vk val (arrOf st) p≤Vk val (arrOf st) q':=fun q' a1 a2=>by
      by_cases qi:q' < sb
      ·exact sA p q' h1 #[O] #[O]
      ·exact b9 (AS p h1 hp) (sB sb q' #[O] #[O] a2)
     by_cases n4:q < sb+m
     ·obtain⟨q',q1,q2,q3⟩:=sE q #[O] n4;rw [q3];exact key q' q1 #[O]
     ·rw [pF q #[O]];exact key q #[O] h3
   ·by_cases oK:p < sb+m
    ·by_cases n4:q < sb+m
     ·have AV:p - (sa+k) < out.size:=by lia
      have uz:q - (sa+k) < out.size:=by lia
      rw [zU (p:=out[p - (sa+k)]) (by rw [pf,if_pos #[O]]; exact getElem?_pos out _ AV),zU (p:=out[q - (sa+k)]) (by rw [pf,if_pos #[O]]; exact getElem?_pos out _ uz)];by_cases hpq:p=q
      ·subst hpq;exact bP _
      ·have:=cP.mp hG.2 (p - (sa+k)) (q - (sa+k)) (by simpa using AV) (by simpa using uz) #[O];simpa using this
     ·obtain⟨p',p1,p2,p3⟩:=sE p #[O] oK;rw [p3,pF q #[O]];by_cases rN:p' < sb
      ·exact b9 (sA p' (sa+na - 1) #[O] #[O] #[O]) (xP q #[O] h3)
      ·exact sB p' q #[O] #[O] h3
    ·rw [pF p #[O],pF q #[O]];exact sB p q #[O] h2 h3
 have ma:∀ p∈((arrOf st).extract (sa+k) sb).toList,p∈a₀.toList:=fun p hp=>by
  obtain⟨q,q1,q2,q3⟩:=zeo #[O] hp;obtain⟨p',e,m'⟩:=xi q #[O];rw [q3] at e;cases e;exact m'
 have mb:∀ p∈((arrOf st).extract sb (sb+m)).toList,p∈a₀.toList:=fun p hp=>by
  obtain⟨q,q1,q2,q3⟩:=zeo #[O] hp;obtain⟨p',e,m'⟩:=xi q #[O];rw [q3] at e;cases e;exact m'
 have ss1:=zjm (val:=val) (xs:=arrOf st) (i:=sa+k) (j:=sb) #[O] (sA.sub #[O] #[O]);have ss2:=zjm (val:=val) (xs:=arrOf st) (i:=sb) (j:=sb+m) #[O] (sB.sub #[O] #[O]);by_cases hle:na - k≤m
 ·rw [if_pos hle];exact ao (zkh (a:=(arrOf st).extract (sa+k) sb) (b:=(arrOf st).extract sb (sb+m)) hC vW.kind ma mb ss1 ss2 #[O] #[O] hf hl fin)
 ·rw [if_neg hle];exact ao (zki (a:=(arrOf st).extract (sa+k) sb) (b:=(arrOf st).extract sb (sb+m)) hC vW.kind ma mb ss1 ss2 #[O] #[O] hf hl fin)
end
end Srt
end
section
namespace Srt
open PySem PyProof.Rows
def Runs (val:Keyed→Int) (xs:Array Keyed):List (Nat×Nat×Nat)→Nat→Nat→Prop
 | [],lo,hi=>lo=hi
 | (s,n,_) :: r,lo,hi=>s=lo∧1≤n∧SIn val xs lo (lo+n)∧Runs val xs r (lo+n) hi
section
variable {val:Keyed→Int}
theorem Runs.le {xs:Array Keyed}:∀ {p:List (Nat×Nat×Nat)} {lo hi:Nat},Runs val xs p lo hi→lo+p.length≤hi
 | [],lo,hi,h=>by
  have h:lo=hi:=h;simp only [ic];lia
 | (s,n,w) :: r,lo,hi,h=>by
  obtain⟨_,h1,_,h2⟩:=h;have:=h2.le;simp only [bm];lia
theorem Runs.append {xs:Array Keyed}:∀ {p q:List (Nat×Nat×Nat)} {lo hi:Nat},Runs val xs (p++q) lo hi↔∃ mid,Runs val xs p lo mid∧Runs val xs q mid hi
 | [],q,lo,hi=>⟨fun h=>⟨lo,rfl,h⟩,fun ⟨mid,h1,h2⟩=>by
   have h1:lo=mid:=h1;subst h1;exact h2⟩
 | (s,n,w) :: p,q,lo,hi=>by
  constructor
  ·rintro⟨h1,h2,h3,h4⟩;obtain⟨mid,h5,h6⟩:=Runs.append.mp h4;exact⟨mid,⟨h1,h2,h3,h5⟩,h6⟩
  ·rintro⟨mid,⟨h1,h2,h3,h5⟩,h6⟩;exact⟨h1,h2,h3,Runs.append.mpr ⟨mid,h5,h6⟩⟩
theorem Runs.keep {xs ys:Array Keyed}:∀ {p:List (Nat×Nat×Nat)} {lo hi:Nat},Runs val xs p lo hi→(∀ k,lo≤k→k < hi→ys[k]? = xs[k]?)→Runs val ys p lo hi
 | [],lo,hi,h,_=>h
 | (s,n,w) :: p,lo,hi,h,e=>by
  obtain⟨h1,h2,h3,h4⟩:=h;have:=h4.le;refine⟨h1,h2,fun i j a b c=>?_,h4.keep fun k a b=>e k #[O] b⟩;rw [z0 (e i #[O] #[O]),z0 (e j #[O] #[O])];exact h3 i j a b c
theorem zlF {α:Type} (p q:List α) (x y v:α):((p++x :: y :: q).toArray.setIfInBounds p.length v).eraseIdxIfInBounds (p.length+1)=(p++v :: q).toArray:=by
 simp [Array.eraseIdxIfInBounds];rw [List.eraseIdx_append_of_length_le #[O],show p.length+1 - p.length=1 by lia];rfl
theorem zhJ {α:Type} (q:List α) (z:α) (f:α→α):(q++[z]).toArray.modify ((q++[z]).toArray.size - 1) f=(q++[f z]).toArray:=by
 apply Array.ext';simp;induction q with
 | nil=>rfl
 | cons a q ih =>
  show (a :: (q++[z])).modify (q.length+1) f=a :: (q++[f z]);rw [List.modify_succ_cons,ih]
theorem zjn {xs:Array Keyed} {p:List (Nat×Nat×Nat)} {n:Nat} (hl:p.length≤1) (hn:1≤n) (h:Runs val xs p 0 n):SIn val xs 0 n:=by
 match p,hl,h with
 | [],_,h =>
  have h:0=n:=h;lia
 | [(a,b,c)],_,h =>
  obtain⟨_,_,h3,h4⟩:=h;have h4:0+b=n:=h4;rw [← h4];exact h3
 | _ :: _ :: _,hl,_=>simp at hl
theorem zkl {α:Type} {p:List α} {j:Nat} (h:j+2≤p.length):∃ pre x y post,p=pre++x :: y :: post∧pre.length=j:=by
 refine⟨p.take j,p[j],p[j+1],p.drop (j+2),?_,by rw [aL]; lia⟩;have e1:=(cU j p).symm;rw [dv (show j < p.length by lia),dv (show j+1 < p.length by lia)] at e1;exact e1
end
section
variable {prog:Program} {w:World} {A:Around} {E:Value→Shared→Prop} {s:Shared} {a₀:Array Keyed} {κ:SortKind} {val:Keyed→Int}
theorem zeR {st:SortSt} {pre post:List (Nat×Nat×Nat)} {x y:Nat×Nat×Nat} {hi:Nat} {Q:Bool→SortSt→Prop} (hC:Cmp prog w A s κ val a₀) (hB:SB κ a₀ st) (hp:pendingOf st=(pre++x :: y :: post).toArray) (hR:Runs val (arrOf st) (pre++x :: y :: post) 0 hi) (xg:hi≤a₀.size)
  (h:∀ lV v,SB κ a₀ lV→pendingOf lV=(pre++v :: post).toArray→(∀ k,hi≤k→(arrOf lV)[k]? = (arrOf st)[k]?)→Runs val (arrOf lV) (pre++v :: post) 0 hi→Q true lV) :
  wpS (model prog w) A E s (mergeAt' pre.length) Q st:=by
 obtain⟨sa,na,pw⟩:=x;obtain⟨sb,nb,pw2⟩:=y;obtain⟨mid,r1,r2⟩:=Runs.append.mp hR;obtain⟨rfl,q1,q2,rfl,q4,q5,r3⟩:=r2;have hle:=r3.le;refine zkk (i:=pre.length) (sa:=sa) (na:=na) (pw:=pw) (sb:=sa+na) (nb:=nb) (pw2:=pw2) hC hB (by rw [hp]; simp) (by rw [hp]; simp) rfl q1 q4 #[O] q2 q5 fun lV oS rN hk hs=>?_
 refine h lV (sa,na+nb,pw) oS (by rw [rN,hp,zlF]) (fun k vw=>hk k #[O]) ?_;refine Runs.append.mpr ⟨sa,r1.keep fun k _ b=>hk k #[O],rfl,#[O],?_,?_⟩
 ·rw [← Nat.add_assoc];exact hs
 ·rw [← Nat.add_assoc];exact r3.keep fun k a b=>hk k #[O]
theorem znb {n:Nat} {c:Prop} [Decidable c] (h:¬ n≤1):(if c then n - 2 - 1 else n - 2)+2≤n:=by
 by_cases hc:c
 ·rw [if_pos hc];lia
 ·rw [if_neg hc];lia
theorem zlG {st:SortSt} {p:List (Nat×Nat×Nat)} {j hi:Nat} {Q:Bool→SortSt→Prop} (hj:j+2≤p.length) (hC:Cmp prog w A s κ val a₀) (hB:SB κ a₀ st) (hp:pendingOf st=p.toArray) (hR:Runs val (arrOf st) p 0 hi) (xg:hi≤a₀.size)
  (h:∀ lV p',SB κ a₀ lV→pendingOf lV=p'.toArray→Runs val (arrOf lV) p' 0 hi→p'.length+1=p.length→Q true lV):wpS (model prog w) A E s (mergeAt' j) Q st:=by
 obtain⟨pre,x,y,post,rfl,rfl⟩:=zkl hj;exact zeR hC hB hp hR xg fun lV v a b _ d=>h lV _ a b d (by simp only [aA,bm]; lia)
theorem zoZ {st:SortSt} {Q:Unit→SortSt→Prop} (hC:Cmp prog w A s κ val a₀) (hB:SB κ a₀ st) (hp:pendingOf st = #[]) (h2:1≤a₀.size)
  (h:∀ lV,SB κ a₀ lV→SIn val (arrOf lV) 0 a₀.size→Q () lV):wpS (model prog w) A E s sortRuns' Q st:=by
 rw [sortRuns'_eq];refine ao (ft ?_);dsimp only;rw [hB.size];generalize minRun' a₀.size a₀.size 0=mr;refine ao (dm (b8 (I:=fun x c lV=>∃ lo p,c=(none,lo)∧SB κ a₀ lV∧pendingOf lV=p.toArray∧Runs val (arrOf lV) p 0 lo∧lo≤a₀.size∧min x a₀.size≤lo)
  (Q:=fun c lV=>∃ p,c=(none,a₀.size)∧SB κ a₀ lV∧pendingOf lV=p.toArray∧Runs val (arrOf lV) p 0 a₀.size) ?step ?fin ⟨0,[],rfl,hB,hp,rfl,#[O],#[O]⟩) ?post)
 case fin =>
  rintro c lV ⟨lo,p,rfl,oS,rN,hR,ql,hx⟩;have:lo=a₀.size:=by lia
  subst this;exact⟨p,rfl,oS,rN,hR⟩
 case step =>
  rintro x c lV _ hx ⟨lo,p,rfl,oS,rN,hR,ql,AW⟩;dsimp only;by_cases pZ:lo≥a₀.size
  ·rw [if_pos pZ];have:lo=a₀.size:=by lia
   subst this;exact ar ⟨p,rfl,oS,rN,hR⟩
  rw [if_neg pZ];refine ao (zm6 hC #[O] #[O] (SF.refl oS) fun m n5 yw vD rQ D4=>?_);dsimp only;by_cases hmr:m < mr
  ·rw [if_pos hmr]
   (refine ao (iu (cr ⟨rfl,?_⟩)))
   refine ao (zpZ hC #[O] #[O] yw D4 fun mQ y6 oQ=>?_);rw [if_neg #[D]];have vU:1≤min (a₀.size - lo) mr:=by lia
   have uJ:lo+min (a₀.size - lo) mr≤a₀.size:=by lia
   generalize min (a₀.size - lo) mr=n at oQ vU uJ ⊢;refine ao (ft ?_);have qT:pendingOf mQ=p.toArray:=y6.pend.trans rN;have wJ:Runs val (arrOf mQ) p 0 lo:=hR.keep fun k _ b=>y6.low k b
   rcases fA p with rfl | ⟨q,z,rfl⟩
   ·rw [qT];show wpS _ _ _ _ (do
     modify fun s=>setPending s ((pendingOf s).push (lo,n,0)); pure (cI (none,lo+n))) _ _
    refine ao (dO (ar ⟨lo+n,[(lo,n,0)],rfl,⟨y6.b.perm,y6.b.kind,y6.b.failed⟩,?_,?_,#[O],#[O]⟩))
    ·show (pendingOf mQ).push _=_;rw [qT];rfl
    ·have h0:0=lo:=wJ;subst h0;exact⟨rfl,vU,oQ,rfl⟩
   obtain⟨s1,n1,w1⟩:=z;rw [qT,du,show ((q++[(s1,n1,w1)]).toArray).back? = some (s1,n1,w1) by simp];rw [du] at qT wJ;dsimp only;generalize power' a₀.size (2*s1+n1) (2*s1+n1+n1+n) a₀.size=pw;refine ao (dm (b8 (I:=fun _ c lV=>c=(none,())∧∃ q' z,SB κ a₀ lV∧pendingOf lV=(q'++[z]).toArray∧Runs val (arrOf lV) (q'++[z]) 0 lo∧(∀ k,lo≤k→(arrOf lV)[k]? = (arrOf mQ)[k]?))
    (Q:=fun c lV=>c=(none,())∧∃ q' z,SB κ a₀ lV∧pendingOf lV=(q'++[z]).toArray∧Runs val (arrOf lV) (q'++[z]) 0 lo∧(∀ k,lo≤k→(arrOf lV)[k]? = (arrOf mQ)[k]?)) ?_ (fun _ _ hh=>hh) ⟨rfl,q,(s1,n1,w1),y6.b,qT,wJ,fun _ _=>rfl⟩) ?_)
   ·rintro x2 c mQ _ wH ⟨rfl,q',z,qQ,oK,sG,pB⟩;refine ao (ft ?_);rcases fA q' with rfl | ⟨q2,y,rfl⟩
    ·rw [oK,if_neg #[M]];exact ar ⟨rfl,[],z,qQ,oK,sG,pB⟩
    rw [du,bf] at oK sG;have yx:(pendingOf mQ).size - 2=q2.length:=by rw [oK]; simp
    have D6:(if (pendingOf mQ).size > 1 then (pendingOf mQ)[(pendingOf mQ).size - 2]? else none)=some y:=by
     rw [if_pos (by rw [oK]; simp),yx,oK];simp
    rw [D6];obtain⟨y1,y2,y3⟩:=y;dsimp only;by_cases ho:y3≤pw
    ·rw [if_pos ho];exact ar ⟨rfl,q2++[(y1,y2,y3)],z,qQ,by rw [oK,bf],by rw [bf]; exact sG,pB⟩
    ·rw [if_neg ho,yx];refine ao (zeR hC qQ oK sG #[O] fun Aj v AY vG wI AZ=>?_);rw [if_neg #[D]];exact ar ⟨rfl,q2,v,AY,vG,AZ,fun k hk=>(wI k hk).trans (pB k hk)⟩
   ·rintro c mQ ⟨rfl,q',z,qQ,oK,sG,pB⟩;obtain⟨z1,z2,z3⟩:=z;dsimp only;refine ao (dO (ao (dO (ar ⟨lo+n,q'++[(z1,z2,pw),(lo,n,0)],rfl,⟨qQ.perm,qQ.kind,qQ.failed⟩,?_,?_,#[O],#[O]⟩))))
    ·show ((pendingOf mQ).modify ((pendingOf mQ).size - 1) fun x=>(x.fst,x.2.fst,pw)).push (lo,n,0)=_;rw [oK,zhJ];simp
    ·show Runs val (arrOf mQ) _ _ _;obtain⟨mid,r1,r2⟩:=Runs.append.mp sG;obtain⟨e1,e2,e3,e4⟩:=r2;have e4:mid+z2=lo:=e4;refine Runs.append.mpr ⟨mid,r1,e1,e2,e3,e4.symm,vU,?_,?_⟩
     ·intro i j a1 a2 a3;rw [z0 (pB i #[O]),z0 (pB j #[O])];exact oQ i j #[O] a2 #[O]
     ·show mid+z2+n=lo+n;lia
  ·rw [if_neg hmr];have uJ:lo+m≤a₀.size:=by lia
   refine ao (ft ?_);have qT:pendingOf n5=p.toArray:=yw.pend.trans rN;have wJ:Runs val (arrOf n5) p 0 lo:=hR.keep fun k _ b=>yw.low k b
   rcases fA p with rfl | ⟨q,z,rfl⟩
   ·rw [qT];show wpS _ _ _ _ (do
     modify fun s=>setPending s ((pendingOf s).push (lo,m,0))
     pure (cI (none,lo+m))) _ _
    refine ao (dO (ar ⟨lo+m,[(lo,m,0)],rfl,⟨yw.b.perm,yw.b.kind,yw.b.failed⟩,?_,?_,#[O],#[O]⟩))
    ·show (pendingOf n5).push _=_;rw [qT];rfl
    ·have h0:0=lo:=wJ;subst h0;exact⟨rfl,vD,D4,rfl⟩
   obtain⟨s1,n1,w1⟩:=z;rw [qT,du,show ((q++[(s1,n1,w1)]).toArray).back? = some (s1,n1,w1) by simp];rw [du] at qT wJ;dsimp only;generalize power' a₀.size (2*s1+n1) (2*s1+n1+n1+m) a₀.size=pw;refine ao (dm (b8 (I:=fun _ c lV=>c=(none,())∧∃ q' z,SB κ a₀ lV∧pendingOf lV=(q'++[z]).toArray∧Runs val (arrOf lV) (q'++[z]) 0 lo∧(∀ k,lo≤k→(arrOf lV)[k]? = (arrOf n5)[k]?))
    (Q:=fun c lV=>c=(none,())∧∃ q' z,SB κ a₀ lV∧pendingOf lV=(q'++[z]).toArray∧Runs val (arrOf lV) (q'++[z]) 0 lo∧(∀ k,lo≤k→(arrOf lV)[k]? = (arrOf n5)[k]?)) ?_ (fun _ _ hh=>hh) ⟨rfl,q,(s1,n1,w1),yw.b,qT,wJ,fun _ _=>rfl⟩) ?_)
   ·rintro x2 c mQ _ wH ⟨rfl,q',z,qQ,oK,sG,pB⟩;refine ao (ft ?_);rcases fA q' with rfl | ⟨q2,y,rfl⟩
    ·rw [oK,if_neg #[M]];exact ar ⟨rfl,[],z,qQ,oK,sG,pB⟩
    rw [du,bf] at oK sG;have yx:(pendingOf mQ).size - 2=q2.length:=by rw [oK]; simp
    have D6:(if (pendingOf mQ).size > 1 then (pendingOf mQ)[(pendingOf mQ).size - 2]? else none)=some y:=by
     rw [if_pos (by rw [oK]; simp),yx,oK];simp
    rw [D6];obtain⟨y1,y2,y3⟩:=y;dsimp only;by_cases ho:y3≤pw
    ·rw [if_pos ho];exact ar ⟨rfl,q2++[(y1,y2,y3)],z,qQ,by rw [oK,bf],by rw [bf]; exact sG,pB⟩
    ·rw [if_neg ho,yx];refine ao (zeR hC qQ oK sG #[O] fun Aj v AY vG wI AZ=>?_);rw [if_neg #[D]];exact ar ⟨rfl,q2,v,AY,vG,AZ,fun k hk=>(wI k hk).trans (pB k hk)⟩
   ·rintro c mQ ⟨rfl,q',z,qQ,oK,sG,pB⟩;obtain⟨z1,z2,z3⟩:=z;dsimp only;refine ao (dO (ao (dO (ar ⟨lo+m,q'++[(z1,z2,pw),(lo,m,0)],rfl,⟨qQ.perm,qQ.kind,qQ.failed⟩,?_,?_,#[O],#[O]⟩))))
    ·show ((pendingOf mQ).modify ((pendingOf mQ).size - 1) fun x=>(x.fst,x.2.fst,pw)).push (lo,m,0)=_;rw [oK,zhJ];simp
    ·show Runs val (arrOf mQ) _ _ _;obtain⟨mid,r1,r2⟩:=Runs.append.mp sG;obtain⟨e1,e2,e3,e4⟩:=r2;have e4:mid+z2=lo:=e4;refine Runs.append.mpr ⟨mid,r1,e1,e2,e3,e4.symm,vD,?_,?_⟩
     ·intro i j a1 a2 a3;rw [z0 (pB i #[O]),z0 (pB j #[O])];exact D4 i j #[O] a2 #[O]
     ·show mid+z2+m=lo+m;lia
 case post =>
  rintro c n5 ⟨p,rfl,vW,qT,wJ⟩;dsimp only;have oR:=wJ.le;refine ao (dm (b8 (I:=fun x c lV=>c=(none,())∧∃ p,SB κ a₀ lV∧pendingOf lV=p.toArray∧Runs val (arrOf lV) p 0 a₀.size∧p.length≤max 1 (a₀.size - x))
   (Q:=fun c lV=>c=(none,())∧SB κ a₀ lV∧SIn val (arrOf lV) 0 a₀.size) ?_ ?_ ⟨rfl,p,vW,qT,wJ,#[O]⟩) ?_)
  ·rintro x c mQ _ hx ⟨rfl,p2,qQ,oK,sG,qe⟩;refine ao (ft ?_);have hsz:(pendingOf mQ).size=p2.length:=by rw [oK]; simp
   rw [hsz];by_cases hle:p2.length≤1
   ·rw [if_pos hle];exact ar ⟨rfl,qQ,zjn hle h2 sG⟩
   rw [if_neg hle];refine ao (zlG (p:=p2) (znb hle) hC qQ oK sG (ag _) fun Aj p3 AY vG AZ hl3=>?_);rw [if_neg #[D]];exact ar ⟨rfl,p3,AY,vG,AZ,#[O]⟩
  ·rintro c mQ ⟨rfl,p2,qQ,oK,sG,qe⟩;exact⟨rfl,qQ,zjn #[O] h2 sG⟩
  ·rintro c mQ ⟨rfl,qQ,hS⟩;exact ar (h mQ qQ hS)
end
end Srt
end
section
namespace Srt
open PySem PyProof.Rows
def num (B:Int):List Int→Int
 | []=>0
 | n :: r=>n*B ^ r.length+num B r
theorem num_rng {B:Int} (hB:1≤B):∀ {ns:List Int},(∀ n∈ns,0≤n∧n < B)→0≤num B ns∧num B ns < B ^ ns.length
 | [],_=>by simp [num]
 | n :: r,h=>by
  obtain⟨h1,h2⟩:=num_rng hB (ns:=r) fun m hm=>h m (aG _ hm)
  obtain⟨a,b⟩:=h n #[M];have hp:0 < B ^ r.length:=Int.pow_pos #[O];have e:B ^ (n :: r).length=B ^ r.length*B:=by rw [bm,fB]
  show 0≤n*B ^ r.length+num B r∧n*B ^ r.length+num B r < _;rw [e];have h3:0≤n*B ^ r.length:=Int.mul_nonneg a #[O];have h4:n*B ^ r.length≤(B - 1)*B ^ r.length:=dF #[O] #[O];have h5:(B - 1)*B ^ r.length=B ^ r.length*B - B ^ r.length:=by rw [Int.sub_mul,kO,iY]
  lia
def zhK:List Int→List Int→Bool
 | [],[]=>false
 | [],_ :: _=>true
 | _ :: _,[]=>false
 | x :: xs,y :: ys=>if x=y then zhK xs ys else decide (x < y)
theorem zcI (x y:Int) (xs ys:List Int):zhK (x :: xs) (y :: ys)=if x=y then zhK xs ys else decide (x < y):=rfl
theorem zjo {B:Int} (hB:1≤B):∀ {ms ns:List Int},ms.length=ns.length→(∀ n∈ms,0≤n∧n < B)→(∀ n∈ns,0≤n∧n < B)→zhK ms ns=decide (num B ms < num B ns)
 | [],[],_,_,_=>by simp [zhK,num]
 | [],_ :: _,h,_,_=>by simp at h
 | _ :: _,[],h,_,_=>by simp at h
 | m :: ms,n :: ns,hl,h1,h2=>by
  have BZ:ms.length=ns.length:=by simpa using hl
  have ih:=zjo hB BZ (fun x hx=>h1 x (aG _ hx)) (fun x hx=>h2 x (aG _ hx));obtain⟨a1,a2⟩:=num_rng hB fun x hx=>h1 x (aG m hx)
  obtain⟨b1,b2⟩:=num_rng hB fun x hx=>h2 x (aG n hx)
  rw [zcI];show _=decide (m*B ^ ms.length+num B ms < n*B ^ ns.length+num B ns);rw [BZ] at a2 ⊢;have hp:0 < B ^ ns.length:=Int.pow_pos #[O];by_cases e:m=n
  ·rw [if_pos e,ih,e];rw [cN];simp only [decide_eq_true_eq];lia
  ·rw [if_neg e,cN];simp only [decide_eq_true_eq];have key:∀ x y:Int,x < y→x*B ^ ns.length+B ^ ns.length≤y*B ^ ns.length:=fun x y hxy=>by
    have:=dF (show x+1≤y by lia) (show 0≤B ^ ns.length by lia);rw [Int.add_mul,kO] at this;exact this
   constructor
   ·intro h;have:=key m n h;lia
   ·intro h;rcases kG m n with h3 | h3 | h3
    ·exact h3
    ·exact absurd h3 e
    ·have:=key n m h3;lia
section
variable {prog:Program} {w:World} {A:Around} {E:Value→Shared→Prop} {s:Shared}
theorem zjp {Q:Bool→Shared→Prop} {fin:Bool}:∀ {xs ys:List Value} {ms ns:List Int} (i:Nat),IntsAre xs ms→IntsAre ys ns→ms.length=ns.length→Q (if ms=ns then fin else zhK ms ns) s→PySem.W.KatLex prog w A true fin Q (xs.zip ys) i s
 | [],[],[],[],i,_,_,_,h=>PySem.W.kat_nil (by simpa using h)
 | _ :: _,_,[],_,_,hx,_,_,_=>by cases hx
 | [],_,_ :: _,_,_,hx,_,_,_=>by cases hx
 | _,[],_,_ :: _,_,_,hy,_,_=>by cases hy
 | _,_ :: _,_,[],_,_,hy,_,_=>by cases hy
 | x :: xs,y :: ys,m :: ms,n :: ns,i,hx,hy,hl,h=>by
  cases hx with
  | cons _ t hx =>
   cases hy with
   | cons _ u hy =>
    refine PySem.W.kat_cons (wpAny_eqBool_int ?_);by_cases e:m=n
    ·rw [show (m == n)=true by simpa using e];refine PySem.W.kat_yes (zjp (i+1) hx hy (by simpa using hl) ?_);subst e;rw [zcI,if_pos rfl] at h;simpa using h
    ·rw [show (m == n)=false by simpa using e];have mB:¬ (m :: ms=n :: ns):=fun z=>e (List.cons.inj z).1
     rw [if_neg mB,zcI,if_neg e] at h;refine PySem.W.kat_no ?_;by_cases hi:i=0
     ·subst hi;exact oneLt_int h
     ·have hb:(true && i == 0)=false:=by simp [hi]
      rw [hb];exact PySem.W.kat_one _ _ (wpAny_lt_int h)
end
end Srt
end
section
namespace PySem
open PyProof.Rows
def zkm (h:Heap) (d:Addr) (es:Array DictEntry) (ep:Nat):Prop:=∃ o,h.get? d=some o∧o.ExactDict∧o.data = .dict es ep
theorem zkm.typeIs {s:Shared} {d:Addr} {es:Array DictEntry} {ep:Nat} (x:zkm s.heap d es ep):s.TypeIs (.ref d) "dict":=let ⟨o,ho,hc,_⟩:=x; ⟨o,ho,hc.1⟩
section
variable {prog:Program} {w:World} {A:Around} {E:Value→Shared→Prop} {s:Shared} {it d:Addr} {i ep:Nat} {es:Array DictEntry}
theorem zlH {Q:Value→Shared→Prop} (hd:(d == sysModules)=false) (hm:zkm s.heap d es ep) (hQ:Q (.ref s.heap.objs.size) { s with heap:=s.heap.push { cls:=.type "dict_keyiterator",data:=.fields #[.ref d,.int 0 0,.int es.size 0,.int ep 0] } }):wpAny (model prog w) A (pyIter (.ref d)) Q E s:=by
 have hT:=hm.typeIs;obtain⟨o,ho,hc,Ba⟩:=id hm;refine iO hT kW (bJ kW hT F.entry_dict_iter ?_ (F.args_dict_iter_1 _)); unfold Builtin.«dict.__iter__» Builtin.Dict.dictSlotNone;refine ae (ae (jB hT ?_)); show wpAny _ _ (pure (bg d)) _ _ s;refine ak ?_; show wpAny _ _ (jC d >>= _) _ _ s; unfold jC;rw [if_neg (show ¬ ((d == sysModules)=true) by rw [hd]; decide)];refine ae (ak (ae (iQ ho Ba (ae (jc ho Ba (ae (cE (ak ⟨_,rfl,"dict_keyiterator",_,⟨_,aB _ rfl,rfl⟩,F.slot_dict_keyiterator_next.lookup,?_⟩))))))));simpa [rawInt] using hQ
theorem zlI {e:DictEntry} {Q:Option Value→Shared→Prop} (hit:s.heap.IsKeyIter it d i es.size ep) (hm:zkm s.heap d es ep) (he:es[i]? = some e)
  (hQ:∀ h',h'.IsKeyIter it d (i+1) es.size ep→bw it s.heap h'→Q (some e.key) { s with heap:=h' }):wpAny (model prog w) A (pyNext (.ref it)) Q E s:=by
 (obtain⟨o,ho,hc,hd⟩:=id hit)
 obtain⟨od,Bb,uI,Bc⟩:=id hm;have mj:i < es.size:=(dk.mp he).1;have yz:iw "dict_keyiterator" = false:=by decide +kernel
 unfold pyNext; refine ae (c6 (bD (name:=bF "__next__") hit.typeIs dM (bJ dM hit.typeIs il ?_ (ig _))));refine ae (ak (ae (ae (ae (dJ hit.typeIs (ak (ae (wpAny_fieldsOf ho hd ?_))))))));simp only [yz,bq,if_false]; show wpAny _ _ (if (bg d == dh)=true then _ else _) _ _ s;rw [if_neg (show ¬ ((bg d == dh)=true) from fun z=>aR z)];refine ae (ak (ae (iQ Bb Bc ?_)));rw [if_neg (show ¬ ((((es.size:Nat):Int) != ((es.size:Nat):Int))=true) by simp)];refine ae (ak (ae (jc Bb Bc ?_)));rw [if_neg #[M]]; refine ak ?_;simp only [show ¬ ((i:Int) < 0) by lia,if_false,cD,he];refine ae (ae (dJ hit.typeIs (ak (ae (jD hit.typeIs ?_)))));show wpAny _ _ (setField (.ref it) 1 (rawInt ((i:Int)+1)) >>= _) _ _ s; refine ae (eD ho hd #[M] ?_);have sL:(s.heap.update it (iH (·.setIfInBounds 1 (rawInt ((i:Int)+1))))).IsKeyIter it d (i+1) es.size ep:=⟨_,cR _ ho (fq (dn hd _)),(iN ..).trans hc,by rw [dn hd]; simp [rawInt]⟩;refine ae (bV (ae (jD (s:={ s with heap:=s.heap.update it (iH (·.setIfInBounds 1 (rawInt ((i:Int)+1)))) }) sL.typeIs ?_)));show wpAny _ _ (pure e.key) _ _ _; exact ak (ak ⟨_,rfl,ak (hQ _ sL (db ..))⟩)
theorem znc {Q:Option Value→Shared→Prop} (hh:A.handled=none) (hit:s.heap.IsKeyIter it d i es.size ep) (hm:zkm s.heap d es ep) (he:es.size≤i) (hQ:∀ h',kM it s.heap h'→Q none { s with heap:=h' }):wpAny (model prog w) A (pyNext (.ref it)) Q E s:=by
 (obtain⟨o,ho,hc,hd⟩:=id hit)
 obtain⟨od,Bb,uI,Bc⟩:=id hm;have yz:iw "dict_keyiterator" = false:=by decide +kernel
 unfold pyNext; refine ae (c6 (bD (name:=bF "__next__") hit.typeIs dM (bJ dM hit.typeIs il ?_ (ig _))));refine ae (ak (ae (ae (ae (dJ hit.typeIs (ak (ae (wpAny_fieldsOf ho hd ?_))))))));simp only [yz,bq,if_false]; show wpAny _ _ (if (bg d == dh)=true then _ else _) _ _ s;rw [if_neg (show ¬ ((bg d == dh)=true) from fun z=>aR z)];refine ae (ak (ae (iQ Bb Bc ?_)));rw [if_neg (show ¬ ((((es.size:Nat):Int) != ((es.size:Nat):Int))=true) by simp)];refine ae (ak (ae (jc Bb Bc ?_)));rw [if_neg #[M]]; refine ak ?_;simp only [show ¬ ((i:Int) < 0) by lia,if_false,cD,Array.getElem?_eq_none he];refine ae (ae (dJ hit.typeIs (ak ?_)));show wpAny _ _ (setField (.ref it) 0 .none >>= _) _ _ s; refine ae (eD ho hd #[M] ?_);show wpAny _ _ (newExc (.type "StopIteration") [] >>= _) _ _ _; simp only [newExc,newTuple];refine ae (ae (cE (ae (m:=firstArgMember _ _) (ck (a:=dh) (by first | rfl | (simp only [firstArgMember]; rfl)) (cE ?_ (by size_fits)))) (by size_fits)));simp only [raiseNew]; refine ae (jU ?_); rw [show A.in1.handled=none from hh];refine ae (ak (kN ?_)); refine ae (eH (T:="StopIteration") (b:=true) ⟨_,aB _ rfl,rfl⟩ gj ?_)
 (exact ak (hQ _ (((db ..).extBut.push _).push _)))
end
end PySem
end
section
namespace Srt
open PySem PyProof.Rows
section
variable {prog:Program} {w:World} {A:Around} {E:Value→Shared→Prop} {s:Shared} {κ:SortKind} {val:Keyed→Int}
theorem zdM {vs:List Value} {p:Keyed} (h:p∈(pairsOf vs).toList):p.1∈vs∧p.2=p.1:=by
 rw [jE] at h;obtain⟨i,hi,e⟩:=eU h;rw [List.getElem_zip] at e;rw [← e];exact⟨dN _,rfl⟩
theorem zo0 {vs:List Value} {xs:Array Keyed} (hp:xs.Perm (pairsOf vs)) (hs:SIn val xs 0 (pairsOf vs).size):(xs.map (·.2)).toList.Perm vs∧(xs.map (·.2)).toList.Pairwise fun x y=>val (x,x)≤val (y,y):=by
 (have hl:xs.toList.Perm (vs.zip vs):=by rw [← jE]; exact fO.mp hp)
 have hm:∀ p∈xs.toList,p=(p.2,p.2):=fun p rN=>by
  have:=zdM (by rw [jE]; exact hl.mem_iff.mp rN);exact lN this.2.symm rfl
 constructor
 ·rw [kX];refine (hl.map (·.2)).trans ?_;rw [show (vs.zip vs).map (·.2)=vs from List.map_snd_zip (ag _)]
 ·rw [kX,b7,cP];intro i j hi hj qp
  (have nK:i < xs.size:=by simpa using hi)
  (have pD:j < xs.size:=by simpa using hj)
  have h1:=hs i j (bz _) #[O] (by rw [← hp.size_eq]; exact pD);rw [zU (getElem?_pos xs i nK),zU (getElem?_pos xs j pD)] at h1;have e1:=hm xs.toList[i] (dN _);have e2:=hm xs.toList[j] (dN _);rw [← e1,← e2];simpa using h1
theorem zkn {a:Addr} {vs:List Value} {n:Nat} {P:PySem.Fin→Shared→Prop} (ho:s.heap.get? a=some (seqObj "list" vs.toArray n)) (lY:vs.length≤sizeLine)
  (sI:∀ h',(∀ b o,b≠a→s.heap.get? b=some o→h'.get? b=some o)→2≤vs.length→∀ (Q:SortKind→Shared→Prop) (E:Value→Shared→Prop),Q κ { s with heap:=h' }→wpAny (model prog w) A (keyKind' vs.toArray) Q E { s with heap:=h' })
  (sP:∀ h',(∀ b o,b≠a→s.heap.get? b=some o→h'.get? b=some o)→Cmp prog w A { s with heap:=h' } κ val (pairsOf vs))
  (h:∀ out:Array Value,out.toList.Perm vs→(out.toList.Pairwise fun x y=>val (x,x)≤val (y,y))→P (.done (.ret .none)) { s with heap:=sortedHeap s.heap a vs out }):wpAny (model prog w) A (Builtin.«list.sort» ⟨[.ref a],[]⟩) P E s:=by
 rw [list_sort_plain]
 (have ha:a < s.heap.objs.size:=aF ho)
 have hz:vs.toArray.size=vs.length:=az;refine ae (listItems_at ho rfl (ae (jW ho rfl ?_ (hsz:=by rw [hz]; exact lY))))
 (obtain⟨e1,AV⟩:∃ e1,(s.heap.update a (dA fun _=>#[])).get? a=some (seqObj "list" #[] e1):=⟨_,get?_update_seq ho (fun _=>#[])⟩)
 refine ae (kP AV rfl (ae (ir (ae (wpAny_newList (bV ?_))) (hsz:=lY))));have Cp:(((s.heap.update a (dA fun _=>#[])).push (seqObj "tuple" vs.toArray 0)).push (seqObj "list" #[] 0)).get? a=some (seqObj "list" #[] e1):=aj _ (aj _ AV);have hk6:∀ b o,b≠a→s.heap.get? b=some o→(((s.heap.update a (dA fun _=>#[])).push (seqObj "tuple" vs.toArray 0)).push (seqObj "list" #[] 0)).get? b=some o:=fun b o hb e=>aj _ (aj _ ((j5 _ _ _ _ hb).trans e))
 (show wpAny (model prog w) A _ P E { s with heap:=((s.heap.update a (dA fun _=>#[])).push (seqObj "tuple" vs.toArray 0)).push (seqObj "list" #[] 0) })
 dsimp only;have hcm:=sP _ hk6;have fin:∀ lV:SortSt,SB κ (pairsOf vs) lV∨(arrOf lV=pairsOf vs∧failedOf lV=none)→SIn val (arrOf lV) 0 (pairsOf vs).size →
   P (.done (.ret .none)) { s with heap:=sortedHeap s.heap a vs ((arrOf lV).map (·.2)) }:=fun lV hB hs=>by
  have hp:(arrOf lV).Perm (pairsOf vs):=by
   rcases hB with hB | hB
   ·exact hB.perm
   ·rw [hB.1]
  obtain⟨b1,b2⟩:=zo0 hp hs;exact h _ b1 b2
 (by_cases h2:vs.toArray.size < 2)
 ·rw [if_pos h2,if_pos h2];refine ae (ak ?_); rw [StateT.run_pure]; refine ae (ak ?_);dsimp only;refine ae (kP Cp rfl (ae (jW Cp rfl ?_ (hsz2:=by rw [lC]; show (pairsOf vs).size≤_; rw [iZ]; lia))))
  (simp only [bne_self_eq_false,bq,if_false])
  refine ak (fin (lw general' (vs.toArray.zip vs.toArray) #[] 7 none) (.inr ⟨rfl,rfl⟩) fun i j _ qp hj=>?_);have e:i=j:=by rw [iZ] at hj; lia
  rw [e];exact bP _
 ·rw [if_neg h2,if_neg h2];refine ae (sI _ hk6 #[O] _ _ ?_);refine ae (c7 (zoZ (a₀:=pairsOf vs) (κ:=κ) (val:=val) (st:=lw κ (vs.toArray.zip vs.toArray) #[] 7 none) (Q:=fun _ lV=>SB κ (pairsOf vs) lV∧SIn val (arrOf lV) 0 (pairsOf vs).size)
   hcm ⟨Array.Perm.refl _,rfl,rfl⟩ rfl (by rw [iZ]; lia) fun lV a1 a2=>⟨a1,a2⟩) ?_ fun _ _ e=>e)
  rintro⟨⟨⟩,lV⟩ s' ⟨rfl,hB,hs⟩;dsimp only;refine ae (kP Cp rfl (ae (jW Cp rfl ?_ (hsz2:=aW (kj ((lC ..).trans (hB.perm.size_eq.trans (iZ _)))) #[O]))));rw [hB.failed]
  (simp only [bne_self_eq_false,bq,if_false])
  exact ak (fin lV (.inl hB) hs)
theorem zko {v:Value} {vs:List Value} {Q:Value→Shared→Prop} (lY:vs.length≤sizeLine)
  (D7:∀ R:List Value→Shared→Prop,(∀ (h':Heap) (tk:Nat),(∀ b o,s.heap.get? b=some o→h'.get? b=some o)→R vs { s with heap:=h',toks:=tk })→wpAny (model prog w) A.in1 (collect v) R E s)
  (sI:∀ s',(∀ b o,s.heap.get? b=some o→s'.heap.get? b=some o)→2≤vs.length→∀ (A':Around) (Q:SortKind→Shared→Prop) (E:Value→Shared→Prop),Q κ s'→wpAny (model prog w) A' (keyKind' vs.toArray) Q E s')
  (sP:∀ s' A',(∀ b o,s.heap.get? b=some o→s'.heap.get? b=some o)→Cmp prog w A' s' κ val (pairsOf vs))
  (h:∀ (h':Heap) (tk:Nat) (out:Array Value) (e:Nat) (D:Addr),(∀ b o,s.heap.get? b=some o→h'.get? b=some o)→(∀ b o,s.heap.get? b=some o→b < D)→h'.get? D=some (seqObj "list" out e)→out.toList.Perm vs→(out.toList.Pairwise fun x y=>val (x,x)≤val (y,y))→Q (.ref D) { s with heap:=h',toks:=tk }) :
  wpAny (model prog w) A (call (.builtin "sorted") [v]) Q E s:=by
 refine Calls.call_function_entry kind_sorted plain_sorted entry_sorted (args_sorted1 _) ?_; unfold Builtin.«sorted»;refine ae (m:=checkCount "sorted" 1 1 _) (ak (ae (c7 (D7 (fun us s'=>us=vs∧∃ (h':Heap) (tk:Nat),s' = { s with heap:=h',toks:=tk }∧∀ b o,s.heap.get? b=some o→h'.get? b=some o) fun h' tk k=>⟨rfl,h',tk,rfl,k⟩) ?_ fun _ _ e=>e)));rintro us s' ⟨rfl,h1,tk,rfl,kk⟩;refine ae (wpAny_newList ?_ (hsz:=lY));have Ah:(h1.push (seqObj "list" us.toArray 0)).get? h1.objs.size=some (seqObj "list" us.toArray 0):=aB _ rfl;have kn:∀ b o,s.heap.get? b=some o→b≠h1.objs.size:=fun b o e=>bh (aF (kk b o e))
 refine ae (bV (bJ slot_list_sort ⟨_,Ah,rfl⟩ entry_list_sort (zkn (κ:=κ) (val:=val) Ah lY (fun h' hk h2 Q E hq=>sI _ (fun b o e=>hk b o (kn b o e) (aj _ (kk b o e))) h2 _ Q E hq) (fun h' hk=>sP _ _ fun b o e=>hk b o (kn b o e) (aj _ (kk b o e))) fun out a1 a2=>⟨_,rfl,?_⟩) (args_list_sort _)));obtain⟨e,he⟩:=sortedHeap_at (out:=out) Ah;refine ak ⟨_,rfl,h _ tk out e h1.objs.size (fun b o x=>?_) (fun b o x=>aF (kk _ _ x)) he a1 a2⟩;rw [sortedHeap_old (kn b o x) (by rw [bM]; exact d8 (aF (kk _ _ x)))];exact aj _ (kk _ _ x)
end
end Srt
end
section
namespace L2
open PySem PySem.Spec PyProof.Rows PySem.Builtin.Str
theorem Inv.above {X:Cx} {lR:List (Addr×Obj)} {σ:St} {H:Hp} {s:Shared} {h':Heap} {tk:Nat} {D:Addr} {o:HO} (I:Inv X lR σ H s) (k:∀ b o,s.heap.get? b=some o→h'.get? b=some o) (hD:∀ b o,s.heap.get? b=some o→b < D)
  (new:zao X.prog X.w (lW H D o) h' D o):H D=none∧Inv X lR σ (lW H D o) { s with heap:=h',toks:=tk }:=by
 have hn:H D=none:=by
  cases e:H D with
  | none=>rfl
  | some u =>
   obtain⟨ob,z⟩:=zoU (I.hok D u e);exact absurd (hD D ob z) (cb _)
 have hL:X.env.locals < D:=by
  obtain⟨m,⟨o,es,ep,ho,_⟩,_⟩:=I.loc;exact hD _ _ ho
 have I1:Inv X lR σ H { s with heap:=h',toks:=tk }:=I.kept k;refine⟨hn,I1.track hn (fX (iE I.ok.above hL)) (bh hL) (fun x c e z=>?_) (fun p hp z=>?_) new⟩
 ·obtain⟨v,oc,q,_⟩:=I.cell x c e;exact absurd (hD c oc q) (by rw [z]; exact cb _)
 ·exact absurd (hD p.1 _ (I.pin p hp).1) (by rw [z]; exact cb _)
end L2
end
section
namespace L2
open PySem PySem.Spec PyProof.Rows Srt
def zlJ (xs:List V):List Int:=xs.filterMap fun x=>match x with
 | .int n=>some n
 | _=>none
theorem zkp (ns:List Int):zlJ (ns.map V.int)=ns:=by
 unfold zlJ;rw [List.filterMap_map];induction ns with
 | nil=>rfl
 | cons n ns ih =>
  rw [fQ];simp only [Function.comp];rw [ih]
def zdm (H:Hp) (v:Value):List Int:=match v with
 | .ref a=>(match H a with
  | some (.tup xs)=>zlJ xs
  | _=>[])
 | _=>[]
theorem zeS {H:Hp} {a:Addr} {ns:List Int} (h:H a=some (.tup (ns.map V.int))):zdm H (.ref a)=ns:=by
 unfold zdm;simp only [h];exact zkp ns
def znd (H:Hp) (k:Nat) (B:Int) (ps:List (Addr×List Int)):Prop:=∀ q∈ps,H q.1=some (.tup (q.2.map V.int))∧q.2.length=k∧∀ n∈q.2,0≤n∧n < B
theorem zfR:∀ {ps:List (Addr×List Int)} {us:List Value},zG (ps.map fun q=>V.ref q.1) us→us=ps.map fun q=>bg q.1
 | [],_,r=>by cases r; rfl
 | q :: ps,_,r=>by
  cases r with
  | cons r1 r2 =>
   cases r1;rw [zfR r2];rfl
theorem zdn:∀ (ps:List (Addr×List Int)),zG (ps.map fun q=>V.ref q.1) (ps.map fun q=>bg q.1)
 | []=>.nil
 | q :: ps=>.cons rfl (zdn ps)
section
variable {X:Cx} {lR:List (Addr×Obj)} {σ:St} {H:Hp} {s:Shared} {k:Nat} {B:Int} {ps:List (Addr×List Int)}
theorem zgA (I:Inv X lR σ H s) {q:Addr×List Int} (h:H q.1=some (.tup (q.2.map V.int))):∃ o lU n,s.heap.get? q.1=some o∧o.cls = .type "tuple"∧o.data = .seq lU n∧IntsAre lU.toList q.2:=by
 obtain⟨lU,r,⟨o,ho,hc,n,hd⟩,hz⟩:=I.tuple (me.of h);exact⟨o,lU.toArray,n,ho,hc,hd,by simpa using intsAre_of r⟩
theorem zo1 (I:Inv X lR σ H s) (hT:znd H k B ps) (hk:1≤k) {s':Shared} (kk:∀ b o,s.heap.get? b=some o→s'.heap.get? b=some o):∃ fs:List Value,PySem.W.KatTups s'.heap (ps.map fun q=>bg q.1) fs∧fs.length=ps.length∧∀ v∈fs,∃ n t,v=iB n t:=by
 induction ps with
 | nil=>exact⟨[],trivial,rfl,fun v hv=>by cases hv⟩
 | cons q ps ih =>
  obtain⟨fs,h1,h2,h3⟩:=ih fun q' qi=>hT q' (aG _ qi)
  obtain⟨hq,hl,_⟩:=hT q #[M];obtain⟨o,lU,n,ho,hc,hd,hi⟩:=zgA I hq;have lY:=hi.length;obtain⟨m,ms,e⟩:∃ m ms,q.2=m :: ms:=by
   cases e:q.2 with
   | nil=>rw [e] at hl; simp at hl; lia
   | cons m ms=>exact⟨m,ms,rfl⟩
  rw [e] at hi;cases e2:lU.toList with
  | nil=>rw [e2] at hi; cases hi
  | cons f fr =>
   rw [e2] at hi;cases hi with
   | cons _ t hi =>
    refine⟨.int m t :: fs,lQ (kk _ _ ho) hc hd ?_ h1,by simp [h2],fun v hv=>?_⟩
    ·rw [← bI,e2];rfl
    ·rcases (aH.mp hv) with rfl | hv
     ·exact⟨m,t,rfl⟩
     ·exact h3 v hv
theorem zfS:∀ ms:List Int,zhK ms ms=false
 | []=>rfl
 | m :: ms=>by rw [zcI,if_pos rfl,zfS ms]
theorem zo2 (I:Inv X lR σ H s) (hT:znd H k B ps) (hB:1≤B) {s':Shared} {A':Around} (kk:∀ b o,s.heap.get? b=some o→s'.heap.get? b=some o) :
  Cmp X.prog X.w A' s' (tuples' true) (fun p=>num B (zdm H p.1)) (pairsOf (ps.map fun q=>bg q.1)):=by
 intro x y hx hy Q E hQ;obtain⟨qx,mx,ex⟩:=av.mp (zdM hx).1;obtain⟨qy,my,ey⟩:=av.mp (zdM hy).1;obtain⟨xO,wH,hx3⟩:=hT qx mx;obtain⟨hy1,Cq,hy3⟩:=hT qy my;obtain⟨ox,ix,nx,gx,cx,dx,ax⟩:=zgA I xO;obtain⟨oy,iy,ny,gy,cy,dy,ay⟩:=zgA I hy1;have ev:decide ((fun p:Keyed=>num B (zdm H p.1)) x < (fun p:Keyed=>num B (zdm H p.1)) y)=zhK qx.2 qy.2:=by
  rw [zjo hB (wH.trans Cq.symm) hx3 hy3,← zeS xO,← zeS hy1];simp only [ex,ey]
 rw [ev] at hQ;rw [← ex,← ey];refine PySem.W.kat_lt (kk _ _ gx) dx (kk _ _ gy) dy (zjp 0 ax ay (wH.trans Cq.symm) ?_);have hsz:decide (ix.size < iy.size)=false:=by
  have e1:=ax.length;have e2:=ay.length;rw [bu] at e1 e2;exact decide_eq_false #[O]
 rw [hsz];by_cases e:qx.2=qy.2
 ·rw [if_pos e];rw [e,zfS] at hQ;exact hQ
 ·rw [if_neg e];exact hQ
theorem zlK (hT:znd H k B ps) {out:Array Value} (hp:out.toList.Perm (ps.map fun q=>bg q.1)) (hs:out.toList.Pairwise fun x y=>num B (zdm H x)≤num B (zdm H y)) :
  ∃ tQ:List (Addr×List Int),tQ.Perm ps∧(tQ.Pairwise fun a b=>num B a.2≤num B b.2)∧out.toList=tQ.map fun q=>bg q.1:=by
 let g:Value→Addr×List Int:=fun v=>match v with
  | .ref a=>(a,zdm H (.ref a))
  | _=>(0,[])
 have hg:∀ q∈ps,g (.ref q.1)=q:=fun q hq=>lN rfl (zeS (hT q hq).1)
 have hv:∀ v∈out.toList,∃ q∈ps,v = .ref q.1:=fun v hv=>by
  obtain⟨q,hq,e⟩:=av.mp (hp.mem_iff.mp hv);exact⟨q,hq,e.symm⟩
 refine⟨out.toList.map g,?_,?_,?_⟩
 ·refine (hp.map g).trans ?_;rw [cL];have:ps.map (g ∘ fun q=>bg q.1)=ps:=by
   conv=>rhs; rw [← List.map_id ps]
   exact de fun q hq=>hg q hq
  rw [this]
 ·rw [b7];refine f' (fun {x y} hx hy h=>?_) hs;obtain⟨q,hq,rfl⟩:=hv x hx;obtain⟨q',qi,rfl⟩:=hv y hy;exact h
 ·rw [cL]
  conv=>lhs; rw [← List.map_id out.toList]
  refine de fun v wK=>?_
  obtain⟨q,hq,rfl⟩:=hv v wK;rfl
end
theorem zkq {M:Model} {h:Heap} {n:Int} {t:Tok}:PySem.W.Looks M h (typeOf (.int n t)) (.type "int"):=PySem.W.Looks.of_pure rfl
theorem zgB {X:Cx}:zbc X (.builtin "sorted") (fun xs H Q=>∃ (p:Addr) (k:Nat) (B:Int) (ps:List (Addr×List Int)),xs = [.ref p]∧lT X.K H p (ps.map fun q=>V.ref q.1)∧znd H k B ps∧1≤k∧1≤B ∧
  ∀ (l:Addr) (tQ:List (Addr×List Int)),H l=none→tQ.Perm ps→(tQ.Pairwise fun a b=>num B a.2≤num B b.2)→Q (.ref l) (lW H l (.lst (tQ.map fun q=>V.ref q.1)))):=by
 intro lR s σ H xs us Q I r h;obtain⟨p,k,B,ps,rfl,hq,hT,hk,hB,q⟩:=h;obtain⟨u,rfl,rx⟩:=vals1 r;cases rx;obtain⟨lU,rv,pl,hz⟩:=I.list hq;have ev:=zfR rv;subst ev;rw [ab] at hz;refine zko (vs:=ps.map fun q=>bg q.1) (κ:=tuples' true) (val:=fun p=>num B (zdm H p.1)) (by rw [ab]; exact hz) (fun R hR=>?_) (fun s' kk h2 A' Q' E' qi=>?_) (fun s' A' kk=>zo2 I hT hB kk) fun h' tk out e D kk hD D8 hp hs=>?_
 ·exact collect_list pl.isList (hR _ _ fun b o e=>(j5 _ _ _ _ (bh (aF e))).trans (aj _ e)) (by rw [ab]; exact hz)
 ·obtain⟨fs,k1,k2,k3⟩:=zo1 I hT hk kk;exact PySem.W.kat_kind (T:=.type "int") k1 (by rw [ab] at h2; lia) (fun v hv=>by obtain⟨n,t,rfl⟩:=k3 v hv; exact zkq) rfl qi
 ·obtain⟨tQ,p1,p2,p3⟩:=zlK hT hp hs;have hl:=p1.length_eq;obtain⟨hn,I2⟩:=I.above (tk:=tk) (D:=D) (o:=.lst (tQ.map fun q=>V.ref q.1)) kk hD ⟨by rw [ab]; lia,tQ.map fun q=>bg q.1,e,zdn tQ,by rw [← p3]; exact D8⟩;exact⟨.ref D,_,I2,rfl,q D tQ hn p1 p2⟩
end L2
end
section
namespace L2
open PySem PySem.Spec PyProof.Rows
section
variable {X:Cx} {elt t1 i1 t2 i2:Expr} {f1 f2:List Expr} {scope:Scope} {pos:Pos} {N':List Str} {ix:List (Option Nat)} {y8 xj:List Nat} {g1 g2:TG} {Cr y9:TT} {te:TE} {Cs Aa:TI}
theorem zlL (hc:X.calm=true) (Bd:GS xj g2) (xk:∀ s₃ H₃ ex lR,PI (zF X N' scope s₃ H₃ ex lR) t2 i2 Aa)
  (xb:∀ s₃ H₃ ex lR,PG (zF X N' scope s₃ H₃ ex lR) t2 g2) (Be:∀ s₃ H₃ ex lR,zdc (zF X N' scope s₃ H₃ ex lR) f2 y9) (he:∀ s₃ H₃ ex lR,PE (zF X N' scope s₃ H₃ ex lR) elt te)
  (oQ:∀ s₃ H₃ ex lR x,foldedSetIterable i2 (zF X N' scope s₃ H₃ ex lR).env x=pure x) :
  ∀ s₃ H₃ ex lR D,PM (zF X N' scope s₃ H₃ ex lR) D xj ((fun D env=>zi8 (.ListComp elt [⟨t1,i1,f1,0⟩,⟨t2,i2,f2,0⟩] scope pos) i2 1 (.ref D) env) D (zF X N' scope s₃ H₃ ex lR).env) (zja Aa g2 y9 (zi9 te)):=by
 intro s₃ H₃ ex lR D;have h:=zoL (Y:=zF X N' scope s₃ H₃ ex lR) (D:=D) (js:=xj) (js':=[]) (elt:=elt) (gens:=[⟨t1,i1,f1,0⟩,⟨t2,i2,f2,0⟩]) (scope:=scope) (pos:=pos) (d:=1) (p:=i2.pos) hc rfl Bd (fun _ _ z=>by cases z) (xk s₃ H₃ ex lR) (xb s₃ H₃ ex lR) (Be s₃ H₃ ex lR) (zil rfl (he s₃ H₃ ex lR)) rfl (fun it=>zoM it D _) (oQ s₃ H₃ ex lR);rw [bX] at h;exact h
theorem zjq (SC:CompSc X N' ix scope) (hc:X.calm=true) (D9:GS y8 g1) (Bd:GS xj g2) (pC:∀ j∈y8,j∉xj) (tL:∀ j∈y8++xj,ix[j]? = some none) (D':PI X t1 i1 Cs)
  (Ea:∀ s₃ H₃ ex lR,PG (zF X N' scope s₃ H₃ ex lR) t1 g1) (Eb:∀ s₃ H₃ ex lR,zdc (zF X N' scope s₃ H₃ ex lR) f1 Cr) (xk:∀ s₃ H₃ ex lR,PI (zF X N' scope s₃ H₃ ex lR) t2 i2 Aa)
  (xb:∀ s₃ H₃ ex lR,PG (zF X N' scope s₃ H₃ ex lR) t2 g2) (Be:∀ s₃ H₃ ex lR,zdc (zF X N' scope s₃ H₃ ex lR) f2 y9) (he:∀ s₃ H₃ ex lR,PE (zF X N' scope s₃ H₃ ex lR) elt te)
  (hs:∀ x,foldedSetIterable i1 X.env x=pure x:=by intro _; rfl) (oQ:∀ s₃ H₃ ex lR x,foldedSetIterable i2 (zF X N' scope s₃ H₃ ex lR).env x=pure x:=by intros; rfl) :
  PE X (.ListComp elt [⟨t1,i1,f1,0⟩,⟨t2,i2,f2,0⟩] scope pos) (zgm ix Cs g1 Cr (zja Aa g2 y9 (zi9 te))) :=
 zho SC hc D9 pC tL D' Ea Eb (zlL hc Bd xk xb Be he oQ) (fun it D env=>zk7 it D env) hs
theorem ziz {i:Nat} {x:Str} {pos' qm:Pos} (hN:X.N.Nodup) (wX:X.N[i]? = some x) (hx:Loc X.env.scope x) (SC:CompSc X N' ix scope) (hc:X.calm=true) (D9:GS y8 g1) (Bd:GS xj g2) (pC:∀ j∈y8,j∉xj) (tL:∀ j∈y8++xj,ix[j]? = some none) (D':PI X t1 i1 Cs)
  (Ea:∀ s₃ H₃ ex lR,PG (zF X N' scope s₃ H₃ ex lR) t1 g1) (Eb:∀ s₃ H₃ ex lR,zdc (zF X N' scope s₃ H₃ ex lR) f1 Cr) (xk:∀ s₃ H₃ ex lR,PI (zF X N' scope s₃ H₃ ex lR) t2 i2 Aa)
  (xb:∀ s₃ H₃ ex lR,PG (zF X N' scope s₃ H₃ ex lR) t2 g2) (Be:∀ s₃ H₃ ex lR,zdc (zF X N' scope s₃ H₃ ex lR) f2 y9) (he:∀ s₃ H₃ ex lR,PE (zF X N' scope s₃ H₃ ex lR) elt te)
  (AA:swapsWith (.ListComp elt [⟨t1,i1,f1,0⟩,⟨t2,i2,f2,0⟩] scope pos) (some (.Name x pos')) qm.line X.env=pure true:=by rfl)
  (hs:∀ x,foldedSetIterable i1 X.env x=pure x:=by intro _; rfl) (oQ:∀ s₃ H₃ ex lR x,foldedSetIterable i2 (zF X N' scope s₃ H₃ ex lR).env x=pure x:=by intros; rfl) (hf:X.fn x=true∨X.env.scope.names.lookup x=some .local:=by first | exact .inl rfl | exact .inr rfl | assumption) :
  PS X (.Assign [.Name x pos'] (.ListComp elt [⟨t1,i1,f1,0⟩,⟨t2,i2,f2,0⟩] scope pos) qm) (zic (zgm ix Cs g1 Cr (zja Aa g2 y9 (zi9 te))) (zaO i)) :=
 zdV hN wX hx SC hc D9 pC tL D' Ea Eb (zlL hc Bd xk xb Be he oQ) (fun it D env=>zk7 it D env) AA hs hf
end
theorem zdY {J:It} {n:Nat} {g:TG} {ts:TT} {tm:TM} {σ0:St} {Q:List V→Hp→Prop} {ys:List V} {H:Hp} (Pv:Nat→List V→Hp→Prop) (h0:Pv 0 ys H) (As:∀ i ys H,i < n→Pv i ys H→J.go i H) (oC:∀ ys H,Pv n ys H→J.stop n H)
  (hs:∀ i x ys H H',i < n→Pv i ys H→J.yld i H x H'→g x σ0 H' fun σ2 H2=>ts σ2 H2 fun b H3=>if b=true then tm ys σ2 H3 (Pv (i+1)) else Pv (i+1) ys H3)
  (hd:∀ ys H,Pv n ys H→Q ys H):cIn g ts tm σ0 J Q ys H:=by
 refine⟨fun i m ys H=>m=n - i∧i≤n∧Pv i ys H,⟨n,#[M],bz _,h0⟩,?_⟩;rintro i m ys H ⟨rfl,hi,p⟩;by_cases mj:i < n
 ·exact .inr ⟨As i ys H mj p,Pv (i+1),fun sJ H' p'=>⟨n - (i+1),#[O],rfl,mj,p'⟩,fun x H' y=>hs i x ys H H' mj p y⟩
 ·have e:i=n:=by lia
  subst e;exact .inl ⟨oC ys H p,hd ys H p⟩
def zo3 (sc:Scope) (x:Str):Bool:=match sc.names.lookup x with
 | some .local=>true
 | some .cell=>true
 | some .free=>true
 | _=>false
theorem zne {sc:Scope} {x:Str} (h:zo3 sc x=true):Vis sc x:=by
 unfold zo3 at h;unfold Vis;cases e:sc.names.lookup x with
 | none=>rw [e] at h; cases h
 | some k=>cases k <;> simp_all
def pvB (N:List Str) (sc:Scope) (i:Nat) (x:Str):Bool:=decide (N[i]? = some x) && zo3 sc x && !(x == ("__debug__" : Str)) && !(x == ("__classdict__" : Str))
theorem pvx {X:Cx} (i:Nat) {x:Str} {pos:Pos} (h:pvB X.N X.env.scope i x=true):PE X (.Name x pos) (zpz i):=by
 unfold pvB at h;simp only [fI,Bool.not_eq_true',decide_eq_true_eq] at h;exact zov h.1.1.1 (zne h.1.1.2) h.1.2 h.2
end L2
end
section
namespace My
open PySem L2 PyProof.Rows
theorem Paired.get {α β:Type} {F:α→β→Prop}:∀ {l₁:List α} {l₂:List β},Paired F l₁ l₂→∀ {i:Nat} {a:α},l₁[i]? = some a→∃ b,l₂[i]? = some b∧F a b
 | _,_,.nil,i,a,h=>by simp at h
 | _,_,.cons r t,0,a,h=>by
  (simp only [gu,iR] at h)
  subst h;exact⟨_,rfl,r⟩
 | _,_,.cons r t,i+1,a,h=>by
  rw [cK] at h;obtain⟨b,hb,f⟩:=Paired.get t h;exact⟨b,by rw [cK]; exact hb,f⟩
def quo (p r:Int):List Int→List Int
 | []=>[]
 | [_]=>[]
 | _ :: d :: cs=>zS p r (d :: cs) :: quo p r (d :: cs)
theorem zjr (p r:Int):∀ (c:Int) (cs:List Int),(quo p r (c :: cs)).length=cs.length
 | _,[]=>rfl
 | _,d :: cs=>by
  show (quo p r (d :: cs)).length+1=cs.length+1;rw [zjr p r d cs]
theorem zlM {p r x:Int}:∀ d:List Int,Cg p (zS p x d - zS p r d) ((x - r)*zS p x (quo p r d))
 | []=>Cg.of_eq (by show (0:Int) - 0=(x - r)*0; lia)
 | [c]=>by
  have h1:Cg p (zS p x [c]) (c+x*0):=zaL p x c [];have h2:Cg p (zS p r [c]) (c+r*0):=zaL p r c [];refine (h1.sub h2).trans (Cg.of_eq ?_);show c+x*0 - (c+r*0)=(x - r)*0;lia
 | c :: d :: cs=>by
  have h1:=zaL p x c (d :: cs);have h2:=zaL p r c (d :: cs);have ih:=zlM (p:=p) (r:=r) (x:=x) (d :: cs);have h3:Cg p (zS p x (quo p r (c :: d :: cs))) (zS p r (d :: cs)+x*zS p x (quo p r (d :: cs))):=zaL p x _ _;have h4:=(Cg.refl p (x - r)).mul h3;have h5:=(Cg.refl p x).mul ih;refine (h1.sub h2).trans (Cg.symm (h4.trans ?_));refine (Cg.of_eq (show _=(x - r)*zS p r (d :: cs)+x*((x - r)*zS p x (quo p r (d :: cs))) by grind)).trans ?_;refine ((Cg.refl p ((x - r)*zS p r (d :: cs))).add h5.symm).trans (Cg.of_eq (by grind))
theorem zhL {p r:Int}:∀ d:List Int,Cg p (zS p r d) 0→(∀ c∈quo p r d,Cg p c 0)→∀ c∈d,Cg p c 0
 | [],_,_,c,hc=>by cases hc
 | [a],h,_,c,hc=>by
  obtain rfl:c=a:=by simpa using hc
  have h1:Cg p (zS p r [c]) (c+r*0):=zaL p r c [];exact ((Cg.of_eq #[O]).trans h1.symm).trans h
 | a :: d :: cs,h,hq,c,hc=>by
  have h0:Cg p (zS p r (d :: cs)) 0:=hq _ aV;rcases (aH.mp hc) with rfl | hc
  ·have h1:=zaL p r c (d :: cs);have h2:=(Cg.refl p r).mul h0;have h3:=(h1.symm.trans h).sub h2;exact (Cg.of_eq #[O]).trans (h3.trans (Cg.of_eq #[O]))
  ·exact zhL (d :: cs) h0 (fun c hc=>hq c (aG _ hc)) c hc
theorem zfT {p a y:Int} (hp:p∈zr) (ha0:a % p≠0) (h:Cg p (a*y) 0):Cg p y 0:=by
 have rp:=zy hp;have g0:=aU a (show p≠0 by lia);have g1:=aO a (show 0 < p by lia);have hi:=zgq hp (h:=a % p) #[O] g1;have h1:Cg p (inv p (a % p)*(a % p)*y) (1*y):=hi.mul (Cg.refl p y);have h2:Cg p (inv p (a % p)*(a % p)*y) (inv p (a % p)*(a*y)):=by
  have:=((Cg.refl p (inv p (a % p))).mul (Cg.emod p a)).mul (Cg.refl p y);exact this.trans (Cg.of_eq (by grind))
 have h3:=(Cg.refl p (inv p (a % p))).mul h;exact (Cg.of_eq #[O]).trans (h1.symm.trans (h2.trans (h3.trans (Cg.of_eq #[O]))))
theorem zeT {p:Int} (hp:p∈zr):∀ (n:Nat) (d xs:List Int),d.length=n→n≤xs.length→xs.Nodup→(∀ x∈xs,0≤x∧x < p)→(∀ x∈xs,Cg p (zS p x d) 0)→∀ c∈d,Cg p c 0
 | 0,d,xs,hd,_,_,_,_,c,hc=>by
  rw [gv] at hd;subst hd;cases hc
 | n+1,d,[],hd,hx,_,_,_,c,hc=>by simp at hx
 | n+1,[],r :: xs,hd,hx,_,_,_,c,hc=>by cases hc
 | n+1,a :: cs,r :: xs,hd,hx,pb,Bf,hz,c,hc=>by
  have rp:=zy hp;obtain⟨r0,r1⟩:=Bf r aV;have hr:=hz r aV;refine zhL (a :: cs) hr (zeT hp n (quo p r (a :: cs)) xs (by rw [zjr]; simpa using hd) (by simpa using hx) (dY.mp pb).2 (fun x h=>Bf x (aG _ h)) fun x h=>?_) c hc;obtain⟨x0,x1⟩:=Bf x (aG _ h);have mB:x≠r:=fun e=>(dY.mp pb).1 (e ▸ h)
  have he:=zlM (p:=p) (r:=r) (x:=x) (a :: cs);have h0:=(hz x (aG _ h)).sub hr;refine zfT hp (a:=x - r) (fun e=>?_) (he.symm.trans (h0.trans (Cg.of_eq #[O])));have:Cg p x r:=by
   have h1:Cg p (x - r) 0:=Cg.of_mod (by rw [e]; simp);have h2:=h1.add (Cg.refl p r);exact (Cg.of_eq #[O]).trans (h2.trans (Cg.of_eq #[O]))
  exact mB (this.eq x0 x1 r0 r1)
def hit (p:Int) (q:List Int) (a:Int×Int):Bool:=decide (zS p a.1 q=a.2)
def hits (p:Int) (q:List Int) (lZ:List (Int×Int)):Nat:=(lZ.filter (hit p q)).length
def IsP (p:Int) (k:Nat) (q:List Int):Prop:=q.length=k∧∀ c∈q,0≤c∧c < p
def mK:List Int→List (Option Int)→List (Int×Int)
 | x :: pl,some y :: rw=>(x,y) :: mK pl rw
 | _ :: pl,none :: rw=>mK pl rw
 | _,_=>[]
theorem zeU:∀ {pl:List Int} {rw:List (Option Int)} {i:Nat} {x:Int} {o:Option Int},pl[i]? = some x→rw[i]? = some o→mK (pl.take (i+1)) (rw.take (i+1))=mK (pl.take i) (rw.take i)++(match o with | some y=>[(x,y)] | none=>[])
 | [],_,i,x,o,h,_=>by simp at h
 | _ :: _,[],i,x,o,_,h=>by simp at h
 | a :: pl,b :: rw,0,x,o,h1,h2=>by
  simp only [gu,iR] at h1 h2;subst h1 h2;cases b <;> rfl
 | a :: pl,b :: rw,i+1,x,o,h1,h2=>by
  rw [cK] at h1 h2;have ih:=zeU h1 h2;cases b with
  | none=>exact ih
  | some y =>
   show (a,y) :: mK (pl.take (i+1)) (rw.take (i+1))=(a,y) :: mK (pl.take i) (rw.take i)++_;rw [ih];rfl
theorem zcd:∀ (pl:List Int) (rw:List (Option Int)),(mK pl rw).length≤pl.length
 | [],rw=>by unfold mK; simp
 | a :: pl,[]=>by unfold mK; simp
 | a :: pl,none :: rw=>by
  have:=zcd pl rw;show (mK pl rw).length≤pl.length+1;lia
 | a :: pl,some y :: rw=>by
  have:=zcd pl rw;show (mK pl rw).length+1≤pl.length+1;lia
theorem zcJ:∀ {pl:List Int} {rw:List (Option Int)} {a:Int×Int},a∈mK pl rw→a.1∈pl∧some a.2∈rw
 | [],_,a,h=>by unfold mK at h; cases h
 | _ :: _,[],a,h=>by unfold mK at h; cases h
 | x :: pl,none :: rw,a,h=>by
  obtain⟨h1,h2⟩:=zcJ (pl:=pl) (rw:=rw) h;exact⟨aG _ h1,aG _ h2⟩
 | x :: pl,some y :: rw,a,h=>by
  rcases (aH.mp h) with rfl | h
  ·exact⟨aV,aV⟩
  ·obtain⟨h1,h2⟩:=zcJ (pl:=pl) (rw:=rw) h;exact⟨aG _ h1,aG _ h2⟩
theorem zgC:∀ (pl:List Int) (rw:List (Option Int)),((mK pl rw).map (·.1)).Sublist pl
 | [],_=>by unfold mK; exact kY _
 | _ :: _,[]=>by unfold mK; exact kY _
 | x :: pl,none :: rw=>(zgC pl rw).cons _
 | x :: pl,some y :: rw=>(zgC pl rw).cons_cons _
theorem zgD {p:Int} {pl:List Int} {rw:List (Option Int)} (h1:pl.Nodup) (h2:∀ x∈pl,0≤x∧x < p) (h3:∀ z,some z∈rw→0≤z∧z < p):Pts p (mK pl rw) :=
 ⟨(zgC pl rw).nodup h1,fun q hq=>⟨(h2 _ (zcJ hq).1).1,(h2 _ (zcJ hq).1).2,(h3 _ (zcJ hq).2).1,(h3 _ (zcJ hq).2).2⟩⟩
theorem zhM {p:Int} {pl:List Int} {rw:List (Option Int)} {q:List Int} (hl:rw.length=pl.length):∀ n,n≤pl.length→(zeK p pl rw q n).length=hits p q (mK (pl.take n) (rw.take n))
 | 0,_=>by simp [zeK,hits,mK]
 | n+1,hn=>by
  have ih:=zhM (p:=p) (q:=q) hl n #[O];have e1:pl[n]? = some pl[n]:=ai #[O];have e2:rw[n]? = some rw[n]:=ai #[O];rw [zfP,aA,ih,zeU e1 e2];unfold hits;rw [cX,aA];congr 1;unfold zfO;rw [e1,e2];cases rw[n] with
  | none=>rfl
  | some y =>
   show (if decide (y=zS p pl[n] q)=true then [(n:Int)] else []).length=([(pl[n],y)].filter (hit p q)).length;by_cases e:y=zS p pl[n] q
   ·rw [cm (by simp [hit,e])];simp [e]
   ·rw [cn (by simp [hit]; exact fun z=>e z.symm)];simp [e]
theorem znf {p:Int} {pl:List Int} {rw:List (Option Int)} {q:List Int} (hl:rw.length=pl.length):(zeK p pl rw q pl.length).length=hits p q (mK pl rw):=by
 have:=zhM (p:=p) (q:=q) hl pl.length (ag _);rw [cY,aN #[O]] at this;exact this
def zp0 (p:Int) (k:Nat) (qs:List (List Int)):Prop:=(∀ q∈qs,IsP p k q)∧qs.Pairwise fun a b=>Srt.num p a < Srt.num p b
theorem zjs {B:Int} (hB:1≤B):∀ {a b:List Int},a.length=b.length→(∀ n∈a,0≤n∧n < B)→(∀ n∈b,0≤n∧n < B)→Srt.num B a=Srt.num B b→a=b
 | [],[],_,_,_,_=>rfl
 | c :: a,d :: b,h,ha,hb,e=>by
  have h':a.length=b.length:=by simpa using h
  have ra:=Srt.num_rng hB (ns:=a) fun n hn=>ha n (aG _ hn)
  have rb:=Srt.num_rng hB (ns:=b) fun n hn=>hb n (aG _ hn)
  have e':c*B ^ a.length+Srt.num B a=d*B ^ b.length+Srt.num B b:=e;rw [← h'] at e' rb;generalize B ^ a.length=M at e' ra rb;have hM:0 < M:=by lia
  have uI:c=d:=by
   have e2:(c - d)*M=Srt.num B b - Srt.num B a:=by
    rw [Int.sub_mul];lia
   rcases (kG c d) with mj | heq | hgt
   ·have:(c - d)*M≤(-1)*M:=dF #[O] #[O];lia
   ·exact heq
   ·have:1*M≤(c - d)*M:=dF #[O] #[O];lia
  subst uI;rw [zjs hB h' (fun n hn=>ha n (aG _ hn)) (fun n hn=>hb n (aG _ hn)) #[O]]
 | [],_ :: _,h,_,_,_=>by simp at h
 | _ :: _,[],h,_,_,_=>by simp at h
theorem zng {p:Int} (hp:1≤p) {k:Nat} {qs:List (List Int)} (h1:∀ q∈qs,IsP p k q) (h2:qs.Nodup) (h3:qs.Pairwise fun a b=>Srt.num p a≤Srt.num p b):zp0 p k qs:=by
 refine⟨h1,?_⟩;have h4:=h3.and h2;refine f' (fun {a b} ha hb h=>?_) h4;have mB:Srt.num p a≠Srt.num p b:=fun e=>h.2 (zjs hp ((h1 a ha).1.trans (h1 b hb).1.symm) (h1 a ha).2 (h1 b hb).2 e)
 have:=h.1;lia
def sm:Nat→(Nat→Int)→Int
 | 0,_=>0
 | n+1,f=>sm n f+f n
theorem zW {f g:Nat→Int}:∀ {n:Nat},(∀ i,i < n→f i=g i)→sm n f=sm n g
 | 0,_=>rfl
 | n+1,h=>by
  show sm n f+f n=sm n g+g n;rw [zW (n:=n) fun i hi=>h i #[O],h n #[O]]
theorem zlN {p:Int} {f g:Nat→Int}:∀ {n:Nat},(∀ i,i < n→Cg p (f i) (g i))→Cg p (sm n f) (sm n g)
 | 0,_=>Cg.refl _ _
 | n+1,h=>(zlN (n:=n) fun i hi=>h i #[O]).add (h n #[O])
theorem zgE {f g:Nat→Int}:∀ n:Nat,sm n (fun i=>f i+g i)=sm n f+sm n g
 | 0=>rfl
 | n+1=>by
  show sm n (fun i=>f i+g i)+(f n+g n)=sm n f+f n+(sm n g+g n);rw [zgE n];lia
theorem zbU {c:Int} {f:Nat→Int}:∀ n:Nat,sm n (fun i=>c*f i)=c*sm n f
 | 0=>by show (0:Int)=c*0; lia
 | n+1=>by
  show sm n (fun i=>c*f i)+c*f n=c*(sm n f+f n);rw [zbU n,jq]
theorem zbC {f:Nat→Int}:∀ {n:Nat},(∀ i,i < n→f i=0)→sm n f=0
 | 0,_=>rfl
 | n+1,h=>by
  show sm n f+f n=0;rw [zbC (n:=n) fun i hi=>h i #[O],h n #[O]];rfl
theorem zlO {f:Nat→Int} {j:Nat}:∀ {n:Nat},j < n→(∀ i,i < n→i≠j→f i=0)→sm n f=f j
 | 0,hj,_=>by lia
 | n+1,hj,h=>by
  show sm n f+f n=f j;by_cases e:j=n
  ·subst e;rw [zbC fun i hi=>h i #[O] #[O]];lia
  ·rw [zlO (n:=n) #[O] fun i hi mB=>h i #[O] mB,h n #[O] #[O]];lia
theorem zcK {f:Nat→Int}:∀ n:Nat,sm (n+1) f=f 0+sm n (fun i=>f (i+1))
 | 0=>by show (0:Int)+f 0=f 0+0; lia
 | n+1=>by
  show sm (n+1) f+f (n+1)=f 0+(sm n (fun i=>f (i+1))+f (n+1));rw [zcK n];lia
theorem zgF {f:Nat→Nat→Int} (m:Nat):∀ n:Nat,sm n (fun i=>sm m (fun j=>f i j))=sm m (fun j=>sm n fun i=>f i j)
 | 0=>(zbC fun _ _=>rfl).symm
 | n+1=>by
  show sm n (fun i=>sm m (fun j=>f i j))+sm m (fun j=>f n j)=sm m (fun j=>sm n (fun i=>f i j)+f n j);rw [zgF m n,← zgE]
theorem zdo {f:Nat→Int} {m:Nat}:∀ {n:Nat},m≤n→(∀ i,m≤i→i < n→f i=0)→sm n f=sm m f
 | 0,h,_=>by rw [show m=0 by lia]
 | n+1,h,hz=>by
  by_cases e:m=n+1
  ·rw [e]
  ·show sm n f+f n=_;rw [zdo (n:=n) #[O] fun i h1 h2=>hz i h1 #[O],hz n #[O] #[O]];lia
def gl (w:List Int) (y:Nat):Int:=w.getD y 0
theorem zaF {w:List Int} {y:Nat} {c:Int} (h:w[y]? = some c):gl w y=c:=by
 unfold gl;rw [aK,h];rfl
theorem zc5 {w:List Int} {y:Nat} (h:w.length≤y):gl w y=0:=by
 unfold gl;rw [aK,cg h];rfl
theorem zbe {w:List Int} {y:Nat} (h:y < w.length):w[y]? = some (gl w y):=by
 rw [ai h,zaF (ai h)]
theorem ziA {w:List Int} {p:Int} (hp:0 < p) (h:∀ c∈w,0≤c∧c < p) (y:Nat):0≤gl w y∧gl w y < p:=by
 by_cases hy:y < w.length
 ·exact h _ (aI (zbe hy))
 ·rw [zc5 #[O]];lia
theorem zo4 {f:Int→Int} {w:List Int} {y:Nat} (h:y < w.length):gl (w.map f) y=f (gl w y):=zaF (by rw [af,zbe h]; rfl)
theorem zlP {f:Int→Int→Int} {v w:List Int} {y:Nat} (h:y < v.length) (h':y < w.length):gl (cH f v w) y=f (gl v y) (gl w y):=zaF (by rw [jz,zbe h,zbe h'])
theorem zlQ {v w:List Int} (hl:v.length=w.length) (h:∀ y,y < v.length→gl v y=gl w y):v=w:=by
 refine c9 fun y=>?_
 by_cases hy:y < v.length
 ·rw [zbe hy,zbe #[O],h y hy]
 ·rw [cg #[O],cg #[O]]
theorem zjt {p x:Int}:∀ q:List Int,Cg p (zS p x q) (sm q.length fun i=>gl q i*x ^ i)
 | []=>Cg.refl _ _
 | c :: q=>by
  refine (zaL p x c q).trans ?_;rw [bm,zcK];have e:sm q.length (fun i=>gl (c :: q) (i+1)*x ^ (i+1))=x*sm q.length (fun i=>gl q i*x ^ i):=by
   rw [← zbU];refine zW fun i _=>?_
   show gl q i*x ^ (i+1)=_;rw [fB];grind
  rw [e];refine Cg.add (Cg.of_eq ?_) ((Cg.refl p x).mul (zjt q));show c=c*x ^ 0;rw [Int.pow_zero,kL]
theorem zeV {p x:Int} {q:List Int} {n:Nat} (h:q.length≤n):Cg p (zS p x q) (sm n fun i=>gl q i*x ^ i):=by
 rw [zdo h fun i h1 _=>by rw [zc5 h1,cc]];exact zjt q
def vx (vs:List (List Int)) (i x:Nat):Int:=gl (vs.getD i []) x
def Rel (p:Int) (L N:Nat) (vs:List (List Int)) (u:Nat→Int):Prop:=∀ x,x < L→Cg p (u x) (sm N fun i=>u (L+i)*vx vs i x)
theorem Rel.sub {p:Int} {L N:Nat} {vs:List (List Int)} {u w r:Nat→Int} (hu:Rel p L N vs u) (hw:Rel p L N vs w) (t:Int) (hr:∀ y,y < L+N→Cg p (r y) (u y - t*w y)):Rel p L N vs r:=fun x hx=>by
 refine (hr x #[O]).trans (((hu x hx).sub ((Cg.refl p t).mul (hw x hx))).trans ?_);have e:sm N (fun i=>u (L+i)*vx vs i x) - t*sm N (fun i=>w (L+i)*vx vs i x)=sm N (fun i=>(u (L+i) - t*w (L+i))*vx vs i x):=by
  rw [show ∀ a b:Int,a - t*b=a+(-t)*b by intros; grind,← zbU,← zgE];exact zW fun i _=>by grind
 rw [e];exact zlN fun i hi=>(hr (L+i) #[O]).symm.mul (Cg.refl _ _)
structure Ech (p:Int) (L N m:Nat) (vs:List (List Int)) (cl:List (Nat×List Int)):Prop where
 ln:cl.length=m
 one:∀ (j:Nat) (a:Nat×List Int),cl[j]? = some a→a.1 < L∧a.2.length=L+N∧(∀ c∈a.2,0≤c∧c < p)∧Rel p L N vs (gl a.2)∧gl a.2 a.1=1∧∀ i,j < i→i < N→gl a.2 (L+i)=0
 up:∀ (j j':Nat) (a a':Nat×List Int),cl[j]? = some a→cl[j']? = some a'→j < j'→gl a'.2 a.1=0
 ii:∀ u:Nat→Int,Rel p L N vs u→(∀ i,m≤i→i < N→Cg p (u (L+i)) 0)→(∀ a∈cl,Cg p (u a.1) 0)→∀ i,i < N→Cg p (u (L+i)) 0
theorem Ech.start (p:Int) (L N:Nat) (vs:List (List Int)):Ech p L N 0 vs [] where
 ln:=rfl
 one:=fun _ _ h=>by simp at h
 up:=fun _ _ _ _ h=>by simp at h
 ii:=fun u _ h _ i hi=>h i (bz _) hi
structure Wh (p:Int) (L N m:Nat) (vs:List (List Int)) (cl:List (Nat×List Int)) (w:List Int):Prop where
 ln:w.length=L+N
 rg:∀ c∈w,0≤c∧c < p
 rel:Rel p L N vs (gl w)
 top:gl w (L+m)=1
 up:∀ j,m < j→j < N→gl w (L+j)=0
 z:∀ a∈cl,gl w a.1=0
theorem zhN {p:Int} (hp:p∈zr) {L N m:Nat} {vs:List (List Int)} {v:List Int} (hm:m < N) (hv:vs[m]? = some v) (hl:v.length=L) (hr:∀ c∈v,0≤c∧c < p):Wh p L N m vs [] ((v++aq N 0).set (L+m) 1):=by
 have rp:=zy hp;have yA:∀ y,y < L→gl ((v++aq N 0).set (L+m) 1) y=gl v y:=fun y hy=>zaF (by
  rw [eA #[O],be #[O],zbe #[O]])
 have oI:gl ((v++aq N 0).set (L+m) 1) (L+m)=1:=zaF (by
  rw [gC (by rw [aA,a8]; lia)])
 have hz:∀ j,j < N→j≠m→gl ((v++aq N 0).set (L+m) 1) (L+j)=0:=fun j hj mB=>zaF (by
  rw [eA #[O],bK #[O],c8];rw [if_pos #[O]])
 refine⟨by rw [fS,aA,a8,hl],fun c hc=>?_,fun x hx=>?_,oI,fun j h1 h2=>hz j h2 #[O],fun a ha=>by cases ha⟩
 ·rcases fU hc with h | rfl
  ·rcases (bi.mp h) with h | h
   ·exact hr c h
   ·rw [List.eq_of_mem_replicate h]; lia
  ·lia
 ·rw [yA x hx,zlO (j:=m) hm fun i hi mB=>by rw [hz i hi mB,cc],oI,kO];unfold vx;rw [aK,hv];exact Cg.refl _ _
theorem zju {p:Int} (hp:p∈zr) {L N m i:Nat} {vs:List (List Int)} {cl:List (Nat×List Int)} {w:List Int} {a:Nat×List Int} (E:Ech p L N m vs cl) (hm:m < N) (ha:cl[i]? = some a) (W:Wh p L N m vs (cl.take i) w) :
  Wh p L N m vs (cl.take (i+1)) (cH (fun x y=>(x - gl w a.1*y) % p) w a.2):=by
 have rp:=zy hp;obtain⟨a1,a2,a3,a4,a5,a6⟩:=E.one i a ha;have Bg:i < m:=by rw [← E.ln]; exact (aw.mp ha).1
 have hg:∀ y,y < L+N→gl (cH (fun x y=>(x - gl w a.1*y) % p) w a.2) y=(gl w y - gl w a.1*gl a.2 y) % p:=fun y hy=>zlP (by rw [W.ln]; exact hy) #[O]
 refine⟨by rw [j3,W.ln,a2,Nat.min_self],fun c hc=>?_,W.rel.sub a4 (gl w a.1) fun y hy=>by rw [hg y hy]; exact Cg.emod _ _,?_,fun j h1 h2=>?_,fun b hb=>?_⟩
 ·obtain⟨x,y,rfl⟩:=zhv hc;exact⟨aU _ #[O],aO _ #[O]⟩
 ·rw [hg _ #[O],W.top,a6 m Bg hm,eJ,ku];exact cF #[O] #[O]
 ·rw [hg _ #[O],W.up j h1 h2,a6 j #[O] h2,eJ];rfl
 ·rw [take_snoc ha] at hb;rcases (bi.mp hb) with hb | hb
  ·obtain⟨j,hj⟩:=eC hb;have Bh:j < i:=by
    have:=(aw.mp hj).1;rw [aL] at this;lia
   have pD:cl[j]? = some b:=by rw [bW Bh] at hj; exact hj
   have tV:=(E.one j b pD).1;rw [hg _ #[O],W.z b hb,E.up j i b a pD ha Bh,eJ];rfl
  ·obtain rfl:b=a:=by simpa using hb
   rw [hg _ #[O],a5,kL,Int.sub_self];rfl
theorem zhO {p:Int} (hp:p∈zr) {L N m:Nat} {vs:List (List Int)} {cl:List (Nat×List Int)} {w:List Int} {ld:Nat} (E:Ech p L N m vs cl) (hm:m < N) (W:Wh p L N m vs cl w) (Ct:ld < L) (h0:gl w ld≠0) :
  Ech p L N (m+1) vs (cl++[(ld,w.map fun x=>x*inv p (gl w ld) % p)]):=by
 have rp:=zy hp;obtain⟨g0,g1⟩:=ziA (show 0 < p by lia) W.rg ld;have hi:=zgq hp (h:=gl w ld) #[O] g1;have hg:∀ y,y < L+N→gl (w.map fun x=>x*inv p (gl w ld) % p) y=gl w y*inv p (gl w ld) % p:=fun y hy=>zo4 (f:=fun x=>x*inv p (gl w ld) % p) (by rw [W.ln]; exact hy)
 have pf:∀ j a,(cl++[(ld,w.map fun x=>x*inv p (gl w ld) % p)])[j]? = some a→(j < m∧cl[j]? = some a)∨(j=m∧a=(ld,w.map fun x=>x*inv p (gl w ld) % p)):=fun j a h=>by
  by_cases hj:j < m
  ·rw [be (by rw [E.ln]; exact hj)] at h;exact .inl ⟨hj,h⟩
  ·rw [bK (by rw [E.ln]; lia),E.ln] at h;have qU:j - m=0:=by
    have:=(aw.mp h).1;simp at this;lia
   rw [qU] at h;exact .inr ⟨#[O],(by simpa using h.symm)⟩
 refine⟨by rw [aA,E.ln]; rfl,fun j a h=>?_,fun j j' a a' h h' mj=>?_,fun u hu hup hz i nK=>?_⟩
 ·rcases pf j a h with ⟨_,h⟩ | ⟨rfl,rfl⟩
  ·exact E.one j a h
  ·refine⟨Ct,by rw [ab,W.ln],fun c hc=>?_,?_,?_,fun i h1 h2=>?_⟩
   ·obtain⟨x,_,rfl⟩:=av.mp hc;exact⟨aU _ #[O],aO _ #[O]⟩
   ·refine Rel.sub (u:=fun _=>0) (fun x _=>Cg.of_eq (zbC fun i _=>cc _).symm) W.rel (-inv p (gl w ld)) fun y hy=>?_
    rw [hg y hy];exact (Cg.emod _ _).trans (Cg.of_eq (by grind))
   ·rw [hg ld #[O]];have h2:Cg p (gl w ld*inv p (gl w ld)) 1:=(Cg.of_eq (iY _ _)).trans hi;rw [h2.mod_eq];exact cF #[O] #[O]
   ·rw [hg _ #[O],W.up i h1 h2,cc];rfl
 ·rcases pf j' a' h' with ⟨pD,h'⟩ | ⟨rfl,rfl⟩
  ·rcases pf j a h with ⟨_,h⟩ | ⟨rfl,_⟩
   ·exact E.up j j' a a' h h' mj
   ·lia
  ·rcases pf j a h with ⟨_,h⟩ | ⟨rfl,_⟩
   ·have:=(E.one j a h).1;rw [hg _ #[O],W.z a (aI h),cc];rfl
   ·lia
 ·have hru:Rel p L N vs (fun y=>u y - u (L+m)*gl w y):=hu.sub W.rel (u (L+m)) fun y _=>Cg.refl _ _
  have qS:=E.ii (fun y=>u y - u (L+m)*gl w y) hru (fun i h1 h2=>by
   by_cases e:i=m
   ·subst e;show Cg p (u (L+i) - u (L+i)*gl w (L+i)) 0;rw [W.top];exact Cg.of_eq #[O]
   ·show Cg p (u (L+i) - u (L+m)*gl w (L+i)) 0;rw [W.up i #[O] h2,eJ,ku];exact hup i #[O] h2) (fun a ha=>by
   show Cg p (u a.1 - u (L+m)*gl w a.1) 0;rw [W.z a ha,eJ,ku];exact hz a (ba _ ha))
  have Bi:Cg p (u ld - u (L+m)*gl w ld) 0:=(hru ld Ct).trans ((zlN (g:=fun _=>0) fun i hi=>((qS i hi).mul (Cg.refl _ _)).trans (Cg.of_eq (cc _))).trans (Cg.of_eq (zbC fun _ _=>rfl)));have sQ:=hz (ld,_) (aP _ (bS.mpr rfl));have hc:Cg p (gl w ld*u (L+m)) 0:=by
   have:=sQ.sub Bi;exact (Cg.of_eq (by show gl w ld*u (L+m)=u ld - (u ld - u (L+m)*gl w ld); grind)).trans (this.trans (Cg.of_eq #[O]))
  have hc0:Cg p (u (L+m)) 0:=zfT hp (by rw [cF g0 g1]; exact h0) hc;have:=qS i nK;have h3:=this.add (hc0.mul (Cg.refl p (gl w (L+i))));exact (Cg.of_eq (by show u (L+i)=u (L+i) - u (L+m)*gl w (L+i)+u (L+m)*gl w (L+i); lia)).trans (h3.trans (Cg.of_eq #[O]))
def Indep (p:Int) (L:Nat) (vs:List (List Int)):Prop:=∀ u:Nat→Int,(∀ x,x < L→Cg p (sm vs.length fun i=>u i*vx vs i x) 0)→∀ i,i < vs.length→Cg p (u i) 0
def Dep (p:Int) (L:Nat) (vs:List (List Int)) (c:List Int):Prop:=∀ x,x < L→Cg p (sm vs.length fun i=>gl c i*vx vs i x) 0
theorem zlR {p:Int} {L:Nat} {vs:List (List Int)} {cl:List (Nat×List Int)} (E:Ech p L vs.length vs.length vs cl):Indep p L vs:=fun u hu i hi=>by
 have h:=E.ii (fun y=>if y < L then sm vs.length (fun i=>u i*vx vs i y) else u (y - L)) (fun x hx=>?_) (fun i h1 h2=>by lia) (fun a ha=>?_) i hi
 ·rw [if_neg #[O],dL] at h;exact h
 ·dsimp only;rw [if_pos hx];refine Cg.of_eq (zW fun i _=>?_);rw [if_neg #[O],dL]
 ·obtain⟨j,hj⟩:=eC ha;have:=(E.one j a hj).1;rw [if_pos this];exact hu _ this
theorem zlS {p:Int} {L m:Nat} {vs:List (List Int)} {cl:List (Nat×List Int)} {w:List Int} (W:Wh p L vs.length m vs cl w) (hm:m < vs.length) (hz:∀ x,x < L→gl w x=0) :
  IsP p (m+1) ((w.drop L).take (m+1))∧gl ((w.drop L).take (m+1)) m=1∧Dep p L vs ((w.drop L).take (m+1)):=by
 have hg:∀ i,i≤m→gl ((w.drop L).take (m+1)) i=gl w (L+i):=fun i hi=>zaF (by
  rw [bW #[O],ff];exact zbe (by rw [W.ln]; lia))
 have hl:((w.drop L).take (m+1)).length=m+1:=by
  rw [aL,fF,W.ln];lia
 refine⟨⟨hl,fun c hc=>W.rg c (jN (jO hc))⟩,by rw [hg m (ag _)]; exact W.top,fun x hx=>?_⟩;have h:=W.rel x hx;rw [hz x hx] at h;refine Cg.trans (Cg.of_eq (zW fun i hi=>?_)) h.symm;by_cases e:i≤m
 ·rw [hg i e]
 ·rw [W.up i #[O] hi,zc5 #[O]]
def PtB (H:Hp):List Addr→List (Int×Int)→Prop:=Paired fun b q=>H b=some (.tup [.int q.1,.int q.2])
theorem PtB.same {H H':Hp} (s:zq H H') {bs:List Addr} {lZ:List (Int×Int)} (h:PtB H bs lZ):PtB H' bs lZ:=dQ (fun _ _ z=>s _ _ z) h
def zbf (H:Hp):List Addr→List (List Int)→Prop:=Paired fun r q=>H r=some (.tup (q.map V.int))
theorem zbf.same {H H':Hp} (s:zq H H') {rs:List Addr} {qs:List (List Int)} (h:zbf H rs qs):zbf H' rs qs:=dQ (fun _ _ z=>s _ _ z) h
theorem zbf.of {H:Hp}:∀ {ps:List (Addr×List Int)},(∀ q∈ps,H q.1=some (.tup (q.2.map V.int)))→zbf H (ps.map (·.1)) (ps.map (·.2))
 | [],_=>.nil
 | a :: ps,h=>.cons (h a aV) (zbf.of fun q hq=>h q (aG _ hq))
def znh (K:ah):Sp:=fun vs H Q _=>∃ (c tt r:Addr) (p k:Int) (pl:List Int) (rw:List (Option Int)),vs = [.ref c,.ref r]∧zbS H c tt p k pl∧RowAt K H r pl.length rw∧pl.length≤1000 ∧
 ∀ (l:Addr) (bs:List Addr) (H':Hp),H l=none→zq H H'→H' l=some (.lst (bs.map V.ref))→PtB H' bs (mK pl rw)→Q (.ref l) H'
theorem zcY {α β:Type} {F:α→β→Prop}:∀ {a:List α} {b:List β} {c:List α} {d:List β},Paired F a b→Paired F c d→Paired F (a++c) (b++d)
 | _,_,_,_,.nil,h=>h
 | _,_,_,_,.cons r t,h=>.cons r (zcY t h)
end My
end
section
namespace L2
open PySem PySem.Spec PyProof.Rows
def Itd (d:Addr) (o:Obj) (l8:List (List Key×V)):It :=
 ⟨fun i H=>H d=some (.frz o (.dT l8))∧i < l8.length,fun i H x H'=>H'=H∧∃ a k,x = .ref a∧(l8.map (·.1))[i]? = some k∧H a=some (.tup (k.map kV)),fun i H=>H d=some (.frz o (.dT l8))∧l8.length≤i⟩
theorem zlT {P:Program} {w:World} {H:Hp} {h:Heap} {d:Addr} {o:Obj} {l8:List (List Key×V)} {es:Array DictEntry} {ep:Nat} (hd:o.data = .dict es ep) (x:zao P w H h d (.frz o (.dT l8))) :
  zkm h d es ep∧es.size=l8.length∧∀ (i:Nat) (e:DictEntry),es[i]? = some e→∃ a k,e.key = .ref a∧(l8.map (·.1))[i]? = some k∧H a=some (.tup (k.map kV)):=by
 obtain⟨ho,_,_,xs,hp,o',vt,BY,sC,hx,he,wA,pb⟩:=x;have e1:o'=o:=by rw [ho] at sC; exact (aS sC).symm
 subst e1;rw [he] at hd;cases hd;have hl:es.toList.length=l8.length:=by rw [wA,ab]; exact (aQ hp).symm
 refine⟨⟨o',ho,hx,he⟩,by simpa using hl,fun i e h=>?_⟩;have h':es.toList[i]? = some e:=by rw [bI]; exact h
 rw [wA,af] at h';cases wX:xs[i]? with
 | none=>rw [wX] at h'; cases h'
 | some x =>
  rw [wX] at h';have AD:e=entryOfKey (tupleKind (zaw P w)) x:=(aS h').symm;have key:∀ {l8:List (List Key×V)} {xs:List (List Key×Addr×Value)},Paired (fun (p:List Key×V) (q:List Key×Addr×Value)=>p.1=q.1∧H q.2.1=some (.tup (p.1.map kV))∧RelV p.2 q.2.2) l8 xs→∀ (i:Nat) x,xs[i]? = some x→∃ p,l8[i]? = some p∧H x.2.1=some (.tup (p.1.map kV)):=by
   intro l8 xs hp;induction hp with
   | nil=>intro i x h; simp at h
   | cons h1 _ ih =>
    intro i x h;cases i with
    | zero =>
     (simp only [gu,iR] at h)
     subst h;exact⟨_,rfl,h1.2.1⟩
    | succ i =>
     rw [cK] at h;obtain⟨p,hp,hh⟩:=ih i x h;exact⟨p,by rw [cK]; exact hp,hh⟩
  obtain⟨p,rN,hh⟩:=key hp i x wX;exact⟨x.2.1,p.1,by rw [AD]; rfl,by rw [af,rN]; rfl,hh⟩
theorem zni {P:Program} {w:World} {K:ah} {tg:Expr} (d it:Addr) (o:Obj) (l8:List (List Key×V)) (es:Array DictEntry) (ep:Nat) (hd:o.data = .dict es ep):Turn P w K tg (Itd d o l8) [it] it (fun i h=>h.IsKeyIter it d i es.size ep) where
 mem:=by simp
 obj:=fun i h st b hb=>by
  have e:b=it:=by simpa using hb
  subst e;obtain⟨o,e,c,d⟩:=st;exact⟨o,e,fun v z=>by rw [d] at z; cases z⟩
 keep:=fun i h h' st k=>st.at fun o e=>k it #[M] o e
 item:=by
  intro X hP hw hK hc i lR s σ H E I hf st hg;subst hP hw hK;obtain⟨hq,hi⟩:=hg;obtain⟨yB,hsz,qr⟩:=zlT hd (I.hok d _ hq);have nK:i < es.size:=by lia
  obtain⟨a,k,he,hk,ha⟩:=qr i es[i] (getElem?_pos es i nK);obtain⟨f0,f1,f2,f3,f4,f5⟩:=hf it #[M];refine zlI st yB (getElem?_pos es i nK) fun h' lV sb=>?_
  have I1:Inv X lR σ H { s with heap:=h' }:=I.turned (t':=s.toks) (fun b o hb e=>(sb.2 b hb).trans e) f0 f1 f3 f4 f5;obtain⟨o,e,c,d⟩:=id lV;exact⟨_,rfl,zez (s:={ s with heap:=h' }) e c d #[D] ⟨.ref a,H,I1,by rw [he]; rfl,⟨rfl,a,k,rfl,hk,ha⟩,lV,fun b hb=>(hf b hb).1⟩⟩
 done:=by
  intro X hP hw hK hc i lR s σ H E I hf st hg;subst hP hw hK;obtain⟨hq,hi⟩:=hg;obtain⟨yB,hsz,qr⟩:=zlT hd (I.hok d _ hq);obtain⟨f0,f1,f2,f3,f4,f5⟩:=hf it #[M];exact znc (I.ok.hd hc) st yB #[O] fun h' eb=>⟨rfl,I.turned (t':=s.toks) (fun b o hb e=>eb b o hb e) f0 f1 f3 f4 f5⟩
 self:=fun _ _ _ _ _ st h=>wpAny_pyIter_keyiter st h
theorem Inv.frzT {X:Cx} {lR:List (Addr×Obj)} {σ:St} {H:Hp} {s:Shared} {d:Addr} {o:Obj} {l8:List (List Key×V)} (I:Inv X lR σ H s) (hd:H d=some (.dT l8)) (ho:s.heap.get? d=some o):Inv X lR σ (lW H d (.frz o (.dT l8))) s:=by
 have ne:∀ b u,H b=some u→(∀ k,u≠.dT k)→b≠d:=fun b u e n z=>by subst z; rw [hd] at e; exact n l8 (aS e).symm
 have nn:∀ b,H b=none→b≠d:=fun b e z=>by subst z; rw [hd] at e; cases e
 have up:∀ b,H b=none→lW H d (.frz o (.dT l8)) b=none:=fun b e=>by rw [zl (nn b e)]; exact e
 refine⟨I.ok,I.os,I.bare,⟨I.base.keep,I.base.slot,fun b u e n hx=>up b (I.base.free b u e n hx),I.base.there,fun b xs e=>?_,fun b u xs e=>?_,fun b ps e=>?_⟩,I.loc,I.cell,up _ I.free,fun x c e=>up _ (I.freeC x c e),fun p rN=>?_,fun b u e=>?_,I.len⟩
 ·have:=I.base.tups b xs e;rw [zl (ne b _ this fun k z=>by cases z)];exact this
 ·have:=I.base.frzs b u xs e;rw [zl (ne b _ this fun k z=>by cases z)];exact this
 ·obtain⟨more,q⟩:=I.base.tbls b ps e;exact⟨more,by rw [zl (ne b _ q fun k z=>by cases z)]; exact q⟩
 ·obtain⟨a1,a2,a3⟩:=I.pin p rN;exact⟨a1,up _ a2,a3⟩
 ·have stay:∀ {u:HO} {b:Addr},zao X.prog X.w H s.heap b u→zao X.prog X.w (lW H d (.frz o (.dT l8))) s.heap b u:=fun {u b} x=>x.stay (fun c v _ q=>q) (fun c q=>by rw [zl (ne c _ q fun k z=>by cases z)]; exact q) fun c xs q=>by rw [zl (ne c _ q fun k z=>by cases z)]; exact q
  by_cases hb:b=d
  ·subst hb;rw [zc] at e;cases e;exact⟨ho,stay (I.hok b _ hd)⟩
  ·rw [zl hb] at e;exact stay (I.hok b u e)
def iDT (tl:TE):TI:=fun σ H R=>tl σ H fun x H1=>∃ d l8,x = .ref d∧H1 d=some (.dT l8)∧∀ o,R (Itd d o l8) (lW H1 d (.frz o (.dT l8)))
theorem zp1 {X:Cx} {tg l:Expr} {tl:TE} (hl:PE X l tl):PI X tg l (iDT tl):=by
 intro lR s σ H R I h;refine thn (hl lR s σ H _ I h) fun v s1 ⟨x,H1,I1,r1,q1⟩=>?_
 obtain⟨d,l8,e,hd,q⟩:=q1;subst e;cases r1;obtain⟨hz,hs,xs,hp,o,es,ep,ho,hx,he,wA,pb⟩:=I1.hok d _ hd;have I2:=I1.frzT hd ho;refine zlH (es:=es) (ep:=ep) hs ⟨o,ho,hx,he⟩ ?_;refine⟨s1.heap.objs.size,[s1.heap.objs.size],_,_,_,rfl,I2.kept (t':=s1.toks) fun b o e=>aj _ e,zni d _ o l8 es ep he,⟨_,aB _ rfl,rfl,rfl⟩,fun b hb=>?_,q o⟩;have e:b=s1.heap.objs.size:=by simpa using hb
 subst e;exact I2.fpOk (ag _) (I2.hok.fresh (ag _))
def zo5 (K:ah):R2:=fun x y H Q=>∃ a b xs ys,x = .ref a∧y = .ref b∧me K H a xs∧me K H b ys∧ys≠[]∧xs.length+ys.length≤sizeLine ∧
 (xs = []→Q (.ref b) H)∧(xs≠[]→∀ p,H p=none→Q (.ref p) (lW H p (.tup (xs++ys))))
theorem zkr {X:Cx} {K:ah} (hK:X.K=K):OpR X (binaryOp .Add) (zo5 K):=by
 subst hK;intro lR s σ H x y v u Q I rx ry h;obtain⟨a,b,xs,ys,rfl,rfl,ha,hb,hy,hz,q1,q2⟩:=h;by_cases hx:xs = []
 ·cases rx;cases ry;obtain⟨lU,r1,p1,_⟩:=I.tuple ha;obtain⟨mJ,r2,p2,_⟩:=I.tuple hb;obtain⟨⟨cls,dd,data,sl⟩,ho,hc,n,hd⟩:=id p1;obtain⟨⟨CW,B2,data2,B3⟩,uz,wM,n2,hd2⟩:=id p2;simp only at hc hd wM hd2;subst hc hd wM hd2;exact kf ⟨_,ho,rfl⟩ ⟨_,uz,rfl⟩ iU jT gE gq (f9 _ _)
   (tuple_addW0 a b lU.toArray mJ.toArray n n2 dd B2 sl B3 (by simp [r1.nil_iff.mpr hx])) ⟨ho,uz,⟨.ref b,H,I,rfl,q1 hx⟩⟩
 ·exact zmS lR s σ H _ _ v u Q I rx ry ⟨a,b,xs,ys,rfl,rfl,ha,hb,hx,hz,fun z=>absurd z hy,fun _=>q2 hx⟩
end L2
end
section
namespace My
open PySem L2 PyProof.Rows
end My
end
section
namespace L2
open PySem PySem.Spec PyProof.Rows
theorem znj {X:Cx} {K:ah} {tg l:Expr} {tl:TE} (hK:X.K=K) (hl:PE X l tl):PI X tg l (zpF K tl):=by subst hK; exact zif hl
end L2
end
section
namespace HT
open PySem PySem.Spec PyProof.Rows
end HT
namespace L2
open PySem PySem.Spec PyProof.Rows
theorem zhP {X:Cx} {K:ah} {tg l:Expr} {tl:TE} (hK:X.K=K) (hl:PE X l tl):PI X tg l (zn1 K tl):=by subst hK; exact zX hl
def zp2:R2:=fun x y H Q=>∃ a b xs ys,x = .ref a∧y = .ref b∧H a=some (.tup xs)∧H b=some (.tup ys)∧xs.length+ys.length≤sizeLine∧ys≠[]∧∀ p H',zq H H'→H' p=some (.tup (xs++ys))→Q (.ref p) H'
theorem znk {X:Cx}:OpR X (binaryOp .Add) zp2:=by
 intro lR s σ H x y v u Q I rx ry h;obtain⟨a,b,xs,ys,rfl,rfl,ha,hb,hz,hy,q⟩:=h;refine zkr rfl lR s σ H _ _ v u Q I rx ry ⟨a,b,xs,ys,rfl,rfl,me.of ha,me.of hb,hy,hz,fun e=>?_,fun _ p hp=>q p _ (fun b o z=>by rw [zl (fun e=>by rw [e,hp] at z; cases z)]; exact z) zc⟩;subst e;exact q b H (fun _ _ e=>e) hb
end L2
end
section
namespace My
open PySem L2 PyProof.Rows
def ziB (K:ah):Sp:=fun vs H Q _=>∃ (p tm:Int) (a b:Addr) (as bs:List Int),vs = [.int p,.ref a,.int tm,.ref b]∧H a=some (.lst (as.map V.int))∧H b=some (.lst (bs.map V.int))∧as.length=bs.length∧as.length≤1000∧0 < p∧0≤tm∧tm < 1000 ∧
 ∀ (l:Addr) (H':Hp),H l=none→zq H H'→H' l=some (.lst ((cH (fun x y=>(x - tm*y) % p) as bs).map V.int))→Q (.ref l) H'
def LsA (H:Hp):List Addr→List (List Int)→Prop:=Paired fun b v=>H b=some (.lst (v.map V.int))
theorem LsA.same {H H':Hp} (s:zq H H') {bs:List Addr} {vv:List (List Int)} (h:LsA H bs vv):LsA H' bs vv:=dQ (fun _ _ z=>s _ _ z) h
def ClA (ca:Addr) (H:Hp):List Addr→List (Nat×List Int)→Prop:=Paired fun b a=>∃ wa,H b=some (.tup [.int (a.1:Int),.ref wa])∧H wa=some (.lst (a.2.map V.int))∧wa≠ca
theorem ClA.same {ca:Addr} {H H':Hp} (s:zq H H') {bs:List Addr} {cl:List (Nat×List Int)} (h:ClA ca H bs cl):ClA ca H' bs cl:=dQ (fun _ _ ⟨wa,z1,z2,z3⟩=>⟨wa,s _ _ z1,s _ _ z2,z3⟩) h
theorem ClA.put {ca:Addr} {H:Hp} {bs:List Addr} {cl:List (Nat×List Int)} {xs:List V} {o:HO} (h:ClA ca H bs cl) (hf:H ca=some (.lst xs)):ClA ca (lW H ca o) bs cl:=dQ (fun b _ ⟨wa,z1,z2,z3⟩=>⟨wa,by
 rw [zl (fun e=>by rw [e,hf] at z1; cases z1)]; exact z1,by rw [zl z3]; exact z2,z3⟩) h
theorem znl {xs:List V} {a b:Nat} (h:b≤xs.length):zcU xs (some (a:Int)) (some (b:Int))=(xs.drop a).take (b - a):=by
 unfold zcU;rw [HT.sIx_nat,HT.sIx_nat];by_cases ha:a≤xs.length
 ·rw [dE ha,dE h]
 ·rw [show min a xs.length=xs.length by lia,dE h,jr (ag _),jr (show xs.length≤a by lia),lH,lH]
theorem zo6 {a b:List Int} (x:Nat):gl (a++b) x=if x < a.length then gl a x else gl b (x - a.length):=by
 unfold gl;rw [aK,aK,aK];by_cases h:x < a.length
 ·rw [if_pos h,be h]
 ·rw [if_neg h,bK #[O]]
end My
end
section
namespace L2
open PySem PySem.Spec PyProof.Rows
theorem zdN {X:Cx} (hc:X.calm=true):zbc X (.builtin "max") (fun xs H Q=>∃ (p:Addr) (ns:List Int),xs = [.ref p]∧lT X.K H p (ns.map V.int)∧ns≠[]∧∀ M:Int,M∈ns→(∀ a∈ns,a≤M)→Q (.int M) H):=by
 intro lR s σ H xs us Q I r h;obtain⟨p,ns,rfl,hq,hn,q⟩:=h;obtain⟨u,rfl,rx⟩:=vals1 r;cases rx;obtain⟨lU,rv,pl,hz⟩:=I.list hq;have hi:IntsAre lU ns:=by simpa using intsAre_of rv
 (obtain⟨xs,e⟩:=hi.allInts.items)
 have uA:ns=xs.toList.map (·.1):=by rw [← hi.numsOf,← jX,← e]
 have hsz:0 < xs.size:=by
  have h3:=im.mpr hn;rw [uA,ab,bu] at h3;exact h3
 have hl:=pl.isList;rw [e] at hl;refine max_intList (I.ok.hd hc) hl hsz fun v h' tk hv hk=>?_
 (obtain⟨t,rfl⟩:=iA hv)
 (obtain⟨h1,h2⟩:=argBest_gt (numAt xs) (xs.size - 1))
 refine⟨.int _,H,I.kept hk,⟨_,rfl⟩,q _ ?_ fun a ha=>?_⟩
 ·(rw [uA,i3]; exact getD_mem (by rw [ab,bu]; lia))
 ·rw [uA] at ha
  (obtain⟨j,hj,rfl⟩:=mem_getD ha)
  (rw [ab,bu] at hj)
  (rw [← i3]; exact h2 j #[O])
end L2
end
section
namespace PySem
open PyProof.Rows
section
variable {prog:Program} {w:World} {A:Around} {E:Value→Shared→Prop} {s:Shared}
theorem zeW {id:String} {b:Builtin} {args:List Value} {kw:List (Str×Value)} {Q:Value→Shared→Prop} (hk:builtinKind id=none) (hp:plainId id=true) (hb:entryFor table id=some b) (ha:argsOk id ⟨args,kw⟩)
  (hc:wpAny (model prog w) A.in1 (b ⟨args,kw⟩) (fun fin s'=>match fin with
   | .done fl=>(match (Except.ok fl:Result) with | .ok (.ret v)=>Q v s' | .ok _=>False | .error e=>E e s')
   | .again c'=>c'.quiet=true∧codeAny (model prog w) A c' (fun r s'=>match r with | .ok (.ret v)=>Q v s' | .ok _=>False | .error e=>E e s') s') E s):wpAny (model prog w) A (call (.builtin id) args kw) Q E s:=by
 refine (wpAny_call (codeAny_call_builtin hp hb ?_))
 (simp only [checkBuiltinCall,hk])
 cases hs:Manifest.signature? id with
 | none=>exact (ak hc)
 | some sg =>
  have a2:Bind.checkArgs id sg ⟨args,kw⟩=pure ():=by simpa only [argsOk,hs] using ha
  simp only [a2];exact (ak hc)
def Mm (nm lp:String) (op:CmpOp):Prop:=(nm = "max"∧lp = "max.loop"∧op = .Gt)∨(nm = "min"∧lp = "min.loop"∧op = .Lt)
theorem zlU {nm lp:String} {op:CmpOp} (hb:Mm nm lp op) (x d:Value):argsOk nm ⟨[x],[(bF "default",d)]⟩:=by rcases hb with ⟨rfl,_,_⟩ | ⟨rfl,_,_⟩ <;> (unfold argsOk; kernel_rfl)
theorem znm {nm lp:String} {op:CmpOp} {R:Result→Shared→Prop} {I:Addr} {fp wr:List Addr} {n:Nat} {P:Nat→Value→Prop} {St:Nat→Heap→Prop} {kw:List (Str×Value)} (hb:Mm nm lp op) (W:Walks prog w A.in1 I fp wr n P St) (bt:Nat→Nat→Bool) (sP:CmpOf prog w A.in1 op P bt) (S:Addr) (Ab:S∉fp) :
  ∀ (k j:Nat) (s:Shared) (vb:Value) (c:Nat),n - (j+1)=k→j+1≤n→St (j+1) s.heap→P (argBest bt j) vb→s.heap.get? S=some { cls:=.type "list",dict:=none,data:=.seq #[vb,vb] c,slots:=#[] }→(∀ v h' tk,P (argBest bt (n - 1)) v→(∀ b o,b∉wr→b≠S→s.heap.get? b=some o→h'.get? b=some o)→R (.ok (.ret v)) { s with heap:=h',toks:=tk })→codeAny (model prog w) A (.builtin lp ⟨[.ref I,.none,.ref S],kw⟩) R s:=by
 have hw:S∉wr:=fun h=>Ab (W.sub _ h)
 have e1:(toString "max"++toString ".loop" : String) = "max.loop":=by decide
 have e2:(toString "min"++toString ".loop" : String) = "min.loop":=by decide
 intro k;induction k with
 | zero =>
  (intro j s vb c hk hj oC Bj hS hR)
  obtain rfl:j+1=n:=by lia
  rcases hb with ⟨rfl,rfl,rfl⟩ | ⟨rfl,rfl,rfl⟩
  case' inl=>(have en:=gP; have pl:=gQ; have ee:=e1)
  case' inr=>(have en:=gR; have pl:=gS; have ee:=e2)
  all_goals
   (refine fg en ?_
    rw [dG pl _];show wpAny _ A.in1 (seqItems? (bg S) >>= _) _ _ s; refine (ae (cG hS rfl ?_));show wpAny _ A.in1 (tryCatch (pyNext (bg I)) _ >>= _) _ _ s; refine (ae (eE (W.done s _ _ oC fun h' tk q=>?_)));show wpAny _ A.in1 (updateSeq S (fun _=>(#[]:Array Value)) >>= _) _ _ _; refine (ae (jd (q S _ hw hS) rfl (ae (fj (ak ?_)))));exact (hR vb _ tk Bj fun b o h1 h2 e=>(cA _ _ (cQ h2)).trans (q b o h1 e)))
 | succ k ih =>
  (intro j s vb c hk hj oC Bj hS hR)
  (have mj:j+1 < n:=by lia)
  rcases hb with ⟨rfl,rfl,rfl⟩ | ⟨rfl,rfl,rfl⟩
  case' inl=>(have en:=gP; have pl:=gQ; have ee:=e1)
  case' inr=>(have en:=gR; have pl:=gS; have ee:=e2)
  all_goals
   (refine fg en ?_
    rw [dG pl _];show wpAny _ A.in1 (seqItems? (bg S) >>= _) _ _ s; refine (ae (cG hS rfl ?_));show wpAny _ A.in1 (tryCatch (pyNext (bg I)) _ >>= _) _ _ s; refine (ae (eE (W.item (j+1) s _ _ mj oC fun v h' tk hP uN q=>?_)));have Ec:=q S _ hw hS
    first
     | show wpAny _ A.in1 (tryCatch (holding [v,v] (richCompare CmpOp.Gt v vb >>= _)) _ >>= _) _ _ _; refine (ae (eE (bV (ae (sP (j+1) (argBest bt j) v vb _ _ _ hP Bj ?_)))))
     | show wpAny _ A.in1 (tryCatch (holding [v,v] (richCompare CmpOp.Lt v vb >>= _)) _ >>= _) _ _ _; refine (ae (eE (bV (ae (sP (j+1) (argBest bt j) v vb _ _ _ hP Bj ?_)))))
    refine (ae (bV (dH (ae (fj (ak ?_))))));cases eb:bt (j+1) (argBest bt j)
    ·(simp only [bq,if_false])
     refine (ae (fj ?_));rw [ee];refine (ak ⟨eY pl _,ih (j+1) _ vb c #[O] mj uN (by simp only [argBest,eb,bq,if_false]; exact Bj) Ec fun v' h2 Bk p2 q2=>?_⟩);exact (hR v' h2 Bk p2 fun b o i1 i2 e=>q2 b o i1 i2 (q b o i1 e))
    ·simp only [if_true];refine (ae (jd Ec rfl (ae (fj ?_))));rw [ee];refine (ak ⟨eY pl _,ih (j+1) _ v _ #[O] mj (W.frame _ _ _ uN fun b Ed o e=>?_) (by simp only [argBest,eb,if_true]; exact hP) (cR _ Ec rfl) fun v' h2 Bk p2 q2=>?_⟩)
     ·exact (cA _ _ (fun h:S=b=>Ab (h ▸ Ed))).trans e
     ·exact (hR v' h2 Bk p2 fun b o i1 i2 e=>q2 b o i1 i2 ((cA _ _ (cQ i2)).trans (q b o i1 e))))
theorem zlV {nm lp:String} {op:CmpOp} {R:Result→Shared→Prop} {I:Addr} {fp wr:List Addr} {n:Nat} {P:Nat→Value→Prop} {St:Nat→Heap→Prop} {ds:Str} {d:Value} (hb:Mm nm lp op) (W:Walks prog w A.in1 I fp wr n P St) (bt:Nat→Nat→Bool) (sP:CmpOf prog w A.in1 op P bt) (S:Addr) (Ab:S∉fp) {c:Nat} (oC:St 0 s.heap) (hS:s.heap.get? S=some { cls:=.type "list",dict:=none,data:=.seq #[] c,slots:=#[] })
  (hR:∀ v h' tk,(0 < n→P (argBest bt (n - 1)) v)→(n=0→v=d)→(∀ b o,b∉wr→b≠S→s.heap.get? b=some o→h'.get? b=some o)→R (.ok (.ret v)) { s with heap:=h',toks:=tk }) :
  codeAny (model prog w) A (.builtin lp ⟨[.ref I,.none,.ref S],[(ds,d)]⟩) R s:=by
 have hw:S∉wr:=fun h=>Ab (W.sub _ h)
 have e1:(toString "max"++toString ".loop" : String) = "max.loop":=by decide
 have e2:(toString "min"++toString ".loop" : String) = "min.loop":=by decide
 have L:=@znm prog w A nm lp op R I fp wr n P St [(ds,d)] hb W bt sP S Ab;rcases hb with ⟨rfl,rfl,rfl⟩ | ⟨rfl,rfl,rfl⟩
 case' inl=>(have en:=gP; have pl:=gQ; have ee:=e1)
 case' inr=>(have en:=gR; have pl:=gS; have ee:=e2)
 all_goals
  (refine fg en ?_
   rw [dG pl _];show wpAny _ A.in1 (seqItems? (bg S) >>= _) _ _ s; refine (ae (cG hS rfl ?_));rcases Nat.eq_zero_or_pos n with hn | hn
   ·show wpAny _ A.in1 (tryCatch (pyNext (bg I)) _ >>= _) _ _ s; refine (ae (eE (W.done s _ _ (hn ▸ oC) fun h' tk q=>?_)));show wpAny _ A.in1 (rule _ >>= fun _=>pure (Fin.done (Flow.ret d))) _ _ _
    (refine ae (cr (ak ?_)))
    exact hR d h' tk #[O] (fun _=>rfl) fun b o i1 _ e=>q b o i1 e
   ·show wpAny _ A.in1 (tryCatch (pyNext (bg I)) _ >>= _) _ _ s; refine (ae (eE (W.item 0 s _ _ hn oC fun v h' tk hP uN q=>?_)));show wpAny _ A.in1 (updateSeq S (fun _=>(#[v,v]:Array Value)) >>= _) _ _ _; refine (ae (jd (q S _ hw hS) rfl ?_));rw [ee];refine (ak ⟨eY pl _,L _ 0 _ v _ rfl hn (W.frame _ _ _ uN fun b Ed o e=>?_) hP (cR _ (q S _ hw hS) rfl) fun v' h2 Bk p2 q2=>?_⟩)
    ·exact (cA _ _ (fun h:S=b=>Ab (h ▸ Ed))).trans e
    ·exact (hR v' h2 Bk (fun _=>p2) #[O] fun b o i1 i2 e=>q2 b o i1 i2 ((cA _ _ (cQ i2)).trans (q b o i1 e))))
theorem zlW {nm lp:String} {op:CmpOp} {x d:Value} {Q:Value→Shared→Prop} (hb:Mm nm lp op)
  (h:wpAny (model prog w) A.in1 (pyIter x) (fun it s₂=>∃ I fp wr n P St bt,it = .ref I∧Walks prog w A.in1 I fp wr n P St∧St 0 s₂.heap∧(∀ b∈fp,b < s₂.heap.objs.size)∧CmpOf prog w A.in1 op P bt ∧
   ∀ v h' tk,(0 < n→P (argBest bt (n - 1)) v)→(n=0→v=d)→(∀ b o,b∉wr→s₂.heap.get? b=some o→h'.get? b=some o)→Q v { s₂ with heap:=h',toks:=tk }) E s) :
  wpAny (model prog w) A (call (.builtin nm) [x] [(bF "default",d)]) Q E s:=by
 have aa:=zlU hb x d;have uO:=hb;have e1:(toString "max"++toString ".loop" : String) = "max.loop":=by decide
 have e2:(toString "min"++toString ".loop" : String) = "min.loop":=by decide
 rcases hb with ⟨rfl,rfl,rfl⟩ | ⟨rfl,rfl,rfl⟩
 case' inl=>(have en:=gP; have pl:=gQ; have ee:=e1)
 case' inr=>(have en:=gR; have pl:=gS; have ee:=e2)
 case' inl =>
  refine zeW F.kind_max F.plain_max F.entry_max aa ?_;show wpAny _ A.in1 (dU "max" ["key","default"] 0 ⟨[],[(bF "default",d)]⟩ >>= _) _ _ s;refine ae (ck (show dU "max" ["key","default"] 0 ⟨[],[(bF "default",d)]⟩=pure [none,some d] by kernel_rfl) ?_)
 case' inr =>
  refine zeW F.kind_min F.plain_min F.entry_min aa ?_;show wpAny _ A.in1 (dU "min" ["key","default"] 0 ⟨[],[(bF "default",d)]⟩ >>= _) _ _ s;refine ae (ck (show dU "min" ["key","default"] 0 ⟨[],[(bF "default",d)]⟩=pure [none,some d] by kernel_rfl) ?_)
 all_goals
  (refine (ae (ak (ae (c7 h (fun it s₂ h2=>?_) fun _ _ e=>e))))
   obtain⟨I,fp,wr,n,P,St,bt,rfl,W,oC,yC,hc,q⟩:=h2;refine (ae (cE ?_));rw [ee];refine (ak ⟨eY pl _,zlV uO W bt hc s₂.heap.objs.size (fun hm=>cb _ (yC _ hm)) (W.frame _ _ _ oC fun b _ o e=>aj _ e) (aB _ rfl) fun v h' tk p1 p2 hk=>?_⟩);exact (q v h' tk p1 p2 fun b o i1 e=>hk b o i1 (bh (aF e)) (aj _ e)))
end
end PySem
namespace L2
open PySem PySem.Spec PyProof.Rows
def zqw (K:ah) (gt:Bool) (d:Int) (td:TE):TE:=fun σ H Q=>td σ H fun x H1=>∃ (p:Addr) (ns:List Int),x = .ref p∧lT K H1 p (ns.map V.int) ∧
 ∀ M:Int,(ns = []→M=d)→(ns≠[]→M∈ns∧∀ a∈ns,if gt=true then a≤M else M≤a)→Q (.int M) H1
def mmN (gt:Bool):String:=if gt=true then "max" else "min"
theorem zqx (gt:Bool):Mm (mmN gt) (if gt=true then "max.loop" else "min.loop") (if gt=true then .Gt else .Lt):=by cases gt <;> simp [Mm,mmN]
theorem zp3 {prog:Program} {w:World} {A:Around} (gt:Bool) (xs:Array (Int×Tok)):CmpOf prog w A (if gt=true then .Gt else .Lt) (fun i v=>(intItems xs)[i]? = some v) (fun i j=>if gt=true then decide (numAt xs i > numAt xs j) else decide (numAt xs i < numAt xs j)):=by
 cases gt
 ·exact CmpOf.ints_lt (numAt xs) (fun _ _=>iA)
 ·exact CmpOf.ints_gt (numAt xs) (fun _ _=>iA)
theorem zo7 (gt:Bool) (f:Nat→Int):∀ n,argBest (fun i j=>if gt=true then decide (f i > f j) else decide (f i < f j)) n≤n∧∀ j,j≤n→if gt=true then f j≤f (argBest (fun i j=>if gt=true then decide (f i > f j) else decide (f i < f j)) n) else f (argBest (fun i j=>if gt=true then decide (f i > f j) else decide (f i < f j)) n)≤f j:=by
 cases gt
 ·exact fun n=>argBest_lt f n
 ·exact fun n=>argBest_gt f n
theorem ziC {X:Cx} (gt:Bool) {x:Str} {elt ev:Expr} {gs:List Comprehension} {sc:Scope} {cp:Pos} {d:Int} {td:TE} {p pos kp:Pos} (hc:X.calm=true) (hx:bootBuiltins x=some (.builtin (mmN gt))) (hg:Gl X x) (hm:X.mg x=none) (hv:PE X ev (tC (.int d))) (ho:PE X (.ListComp elt gs sc cp) td)
  (hn:x≠"__name__":=by decide) (xZ:(x == ("__debug__" : Str))=false:=by decide) :
  PE X (.Call (.Name x p) [.ListComp elt gs sc cp] [⟨some "default",ev,kp⟩] pos) (zqw X.K gt d td):=by
 intro lR s σ H Q I h;refine fZ (zaV I hg hm hx ?_ hn xZ);refine callWith_kw ?_;show wpAny _ _ (spliced ((false,eval (.ListComp elt gs sc cp) X.env) :: [])) _ _ s;refine dR (thn (ho lR s σ H _ I h) fun v s1 ⟨y,H1,I1,r1,q⟩=>?_);refine fm (kws_cons (thn (hv lR s1 σ H1 (fun z H2=>z = .int d∧H2=H1) I1 ⟨rfl,rfl⟩) fun u s2 ⟨z,H2,I2,r2,e1,e2⟩=>kws_nil ?_));subst e1 e2;obtain⟨a,ns,rfl,hq,q⟩:=q;cases r1;obtain⟨lU,rv,pl,hz⟩:=I2.list hq;have hi:IntsAre lU ns:=by simpa using intsAre_of rv
 obtain⟨xs,ex⟩:=hi.allInts.items;have uA:ns=xs.toList.map (·.1):=by rw [← hi.numsOf,← jX,← ex]
 have hl:=pl.isList;rw [ex] at hl;show wpAny _ _ (call (.builtin (mmN gt)) [.ref a] [(bF "default",u)]) _ _ _;refine zlW (zqx gt) (iter_intList hl fun s₂ e st yC hlI=>?_);subst e;refine⟨_,_,_,_,_,_,_,rfl,lq (A:=X.A.in1) (I2.ok.hd hc) _ a hlI (intItems xs),st,yC,zp3 gt xs,fun v h' tk p1 p2 hk=>?_⟩
 (have hsz:(intItems xs).size=xs.size:=by simp [intItems])
 have lY:ns.length=xs.size:=by rw [uA,ab,bu]
 have I3:Inv X lR σ H2 { s2 with heap:=h',toks:=tk }:=I2.kept (old_kept hk);obtain⟨t2,rfl⟩:=r2;by_cases h0:xs.size=0
 ·obtain rfl:=p2 (by rw [hsz]; exact h0);refine⟨.int d,H2,I3,⟨_,rfl⟩,q d (fun _=>rfl) fun mB=>absurd (List.eq_nil_of_length_eq_zero #[O]) mB⟩
 ·have wK:=p1 #[O];rw [hsz] at wK;obtain⟨t,rfl⟩:=iA wK;obtain⟨h1,h2⟩:=zo7 gt (numAt xs) (xs.size - 1);refine⟨.int _,H2,I3,⟨_,rfl⟩,q _ (fun h=>by rw [h] at lY; simp at lY; lia) fun _=>⟨?_,fun b hb=>?_⟩⟩
  ·(rw [uA,i3]; exact getD_mem (by rw [ab,bu]; lia))
  ·rw [uA] at hb;obtain⟨j,hj,rfl⟩:=mem_getD hb
   (rw [ab,bu] at hj)
   (rw [← i3]; exact h2 j #[O])
theorem zks {X:Cx} (hc:X.calm=true):zbc X (.builtin "min") (fun xs H Q=>∃ (p:Addr) (ns:List Int),xs = [.ref p]∧lT X.K H p (ns.map V.int)∧ns≠[]∧∀ M:Int,M∈ns→(∀ a∈ns,M≤a)→Q (.int M) H):=by
 intro lR s σ H xs us Q I r h;obtain⟨p,ns,rfl,hq,hn,q⟩:=h;obtain⟨u,rfl,rx⟩:=vals1 r;cases rx;obtain⟨lU,rv,pl,hz⟩:=I.list hq;have hi:IntsAre lU ns:=by simpa using intsAre_of rv
 (obtain⟨xs,e⟩:=hi.allInts.items)
 have uA:ns=xs.toList.map (·.1):=by rw [← hi.numsOf,← jX,← e]
 have hsz:0 < xs.size:=by
  have h3:=im.mpr hn;rw [uA,ab,bu] at h3;exact h3
 have hl:=pl.isList;rw [e] at hl;refine min_intList (I.ok.hd hc) hl hsz fun v h' tk hv hk=>?_
 (obtain⟨t,rfl⟩:=iA hv)
 (obtain⟨h1,h2⟩:=argBest_lt (numAt xs) (xs.size - 1))
 refine⟨.int _,H,I.kept hk,⟨_,rfl⟩,q _ ?_ fun a ha=>?_⟩
 ·(rw [uA,i3]; exact getD_mem (by rw [ab,bu]; lia))
 ·rw [uA] at ha
  (obtain⟨j,hj,rfl⟩:=mem_getD ha)
  (rw [ab,bu] at hj)
  (rw [← i3]; exact h2 j #[O])
end L2
end
section
namespace My
open PySem L2 PyProof.Rows
theorem ziD {S:List Nat}:∀ {l:List Nat},l.Nodup→l.length≤(l.filter fun i=>decide (i∉S)).length+S.length:=by
 induction S with
 | nil =>
  intro l _;rw [List.filter_eq_self.mpr #[M]];exact ag _
 | cons a S ih =>
  intro l hl;have h1:=ih hl;have h2:l.filter (fun i=>decide (i∉a :: S))=(l.filter fun i=>decide (i∉S)).filter (fun i=>i != a):=by
   rw [List.filter_filter];refine kH fun i _=>?_
   by_cases e:i=a <;> by_cases e2:i∈S <;> simp [e,e2]
  have h3:=List.Nodup.erase_eq_filter (hl.filter fun i=>decide (i∉S)) a;have h4:(l.filter fun i=>decide (i∉S)).length≤((l.filter fun i=>decide (i∉S)).erase a).length+1:=by
   rw [List.length_erase];split <;> lia
  rw [h2,← h3,bm];lia
end My
end
section
namespace L2
open PySem PySem.Spec PyProof.Rows
theorem zct {X:Cx} {K:ah} (hK:X.K=K):zbc X (.type "tuple") (fun xs H Q=>∃ p ys,xs = [.ref p]∧((lT K H p ys∧∀ l,H l=none→Q (.ref l) (lW H l (.tup ys)))∨(me K H p ys∧Q (.ref p) H))):=by subst hK; exact zaQ
end L2
end
section
namespace PySem
theorem zd7:typeLookup (.type "zip") "__getattr__" = pure none:=by rw [dZ,cS]; kernel_rfl
theorem zgG:typeLookup (.type "zip") "keys" = pure none:=by rw [dZ,cS]; kernel_rfl
theorem zlX:entryFor table "zip.__getattribute__" = some Builtin.«object.__getattribute__»:=entryFor_alias (id':="object.__getattribute__") (by kernel_rfl) #[N] #[N] (by kernel_rfl)
theorem zlY (a:Addr) (xs:Array Value) (u:Tok) :
  Meets (Builtin.«object.__getattribute__» ⟨[.ref a,.str "keys" u],[]⟩) (fun A R s=>s.heap.get? a=some { cls:=.type "zip",dict:=none,data:=.fields xs,slots:=#[] }∧raisesAttr (.ref a) "keys" A R s) :=
 Meets.of_wp fun prog w A R s tN=>by
  (obtain⟨hp,g,d,tk,os⟩:=s)
  obtain⟨hx,hs⟩:=tN;have hT:(⟨hp,g,d,tk,os⟩:Shared).TypeIs (.ref a) "zip":=⟨_,hx,rfl⟩;have hmiss:=zgG
  (unfold Builtin.«object.__getattribute__»); repeat (any_goals (first | assumption | wp_step))
  exact wpAny_raiseAttrError hs.1 hs.2 (attrMsg_fits #[N] (by rw [a7]; decide))
theorem znn {prog:Program} {w:World} {A:Around} {E:Value→Shared→Prop} {s:Shared} {a:Addr} {xs:Array Value} {Q:Option Value→Shared→Prop}
  (hx:s.heap.get? a=some { cls:=.type "zip",dict:=none,data:=.fields xs,slots:=#[] }) (hA:A.handled=none)
  (h:∀ h' tk,(∀ b o,s.heap.get? b=some o→h'.get? b=some o)→Q none { s with heap:=h',toks:=tk }) :
  wpAny (model prog w) A (getAttr? (.ref a) "keys") Q E s:=by
 (obtain⟨hp,g,d,tk,os⟩:=s)
 have hT:∀ tk',(⟨hp,g,d,tk',os⟩:Shared).TypeIs (.ref a) "zip":=fun _=>⟨_,hx,rfl⟩
 have f1:=sub_AttributeError;have f3:=F.slot_zip_getattribute.lookup;have f4:=F.slot_zip_getattribute.bind (.ref a);have f5:=zd7
 (unfold getAttr? getAttrBy? getAttrBy)
 repeat (any_goals (first | assumption | exact hT _ | ((with_reducible show wpAny _ _ (call (jY "zip.__getattribute__") _ _) _ _ _); refine fH F.slot_zip_getattribute (hT _) zlX (F.args_zip_getattribute_2 _ _) (zlY a xs _) ⟨hx,hA,fun h' tk' e uL=>?_⟩) | wp_step))
 (obtain⟨t',u',he⟩:=uL.there)
 (show wpAny _ _ (getattributeRaised _ _ _ _ _ _ _) _ _ _)
 unfold getattributeRaised; repeat (any_goals (first | assumption | wp_step))
 exact h _ _ uL.keeps
end PySem
end
section
namespace PySem
theorem zhQ:entryFor table "dict.update.loop" = some Builtin.«dict.update.loop»:=entryFor_of_tree (by kernel_rfl)
theorem zdp:plainId "dict.update.loop" = true:=by decide +kernel
end PySem
namespace L2
open PySem PySem.Spec PyProof.Rows
abbrev zqy (n a b:Nat) (i:Nat) (h:Heap):Prop:=(∃ f0 f1,IsZ h (n+4) (n+2) (n+3) f0 f1∧ZF f0 f1)∧IsPair h (n+2) (.ref n) (.ref (n+1))∧(∃ u v,IsPair h (n+3) u v)∧h.IsListIter n a i∧h.IsListIter (n+1) b i
theorem zkt {κ:Type} [DecidableEq κ] {l8:List (κ×V)} {k:κ} (h:k∉l8.map (·.1)):zc2 l8 k=none:=by
 unfold zc2;rw [Option.map_eq_none_iff,List.find?_eq_none];intro kv hkv e;have e:kv.1=k:=of_decide_eq_true e;exact h (av.mpr ⟨kv,hkv,e⟩)
theorem zlZ {κ:Type} {ks:List κ} {ys:List V} {i:Nat} {k:κ} {y:V} (hk:ks[i]? = some k) (hy:ys[i]? = some y):(ks.zip ys).take (i+1)=(ks.zip ys).take i++[(k,y)]:=by
 have:(ks.zip ys)[i]? = some (k,y):=by rw [fV]; exact⟨hk,hy⟩
 rw [iP,this,jV]
theorem zno {κ:Type} {ks:List κ} {ys:List V} {i:Nat} {k:κ} (pb:ks.Nodup) (hk:ks[i]? = some k):k∉((ks.zip ys).take i).map (·.1):=by
 intro h;obtain⟨q,hq,e⟩:=av.mp h;obtain⟨j,hj⟩:=ci.mp hq;have Bh:j < i:=by
  have:=(aw.mp hj).1;rw [aL] at this;lia
 rw [bW Bh] at hj;have hkj:ks[j]? = some k:=by
  have pD:(ks.zip ys)[j]? = some (q.1,q.2):=hj;rw [fV] at pD;rw [pD.1,e]
 have h1:=(aw.mp hkj).1;have h2:=(aw.mp hk).1;exact cP.mp pb j i h1 h2 Bh (by rw [(aw.mp hkj).2,(aw.mp hk).2])
theorem znp {α β:Type} {R:α→β→Prop} {as:List α} {bs:List β} (h:Paired R as bs):∀ {i:Nat} {x:α},as[i]? = some x→∃ y,bs[i]? = some y∧R x y:=by
 induction h with
 | nil=>intro i x e; simp at e
 | cons h1 _ ih =>
  intro i x e;cases i with
  | zero=>cases e; exact⟨_,rfl,h1⟩
  | succ i=>exact ih (by simpa using e)
theorem zch {n c:Nat} (h:c∈[n+4,n+3,n,n+1]):c∈zbT n:=by
 simp only [zbT,aH,aZ,or_false] at h ⊢;rcases h with z | z | z | z <;> subst z <;> simp
theorem zp4 {X:Cx} {lR:List (Addr×Obj)} {σ:St} {H:Hp} {s:Shared} {h':Heap} {tk n:Nat} (I:Inv X lR σ H s) (hf:∀ c∈zbT n,zbP X lR H c) (k1:∀ c o,c∉[n+4,n+3,n,n+1]→s.heap.get? c=some o→h'.get? c=some o):Inv X lR σ H { s with heap:=h',toks:=tk }:=by
 have sH:∀ d u',H d=some u'→d∉[n+4,n+3,n,n+1]:=fun d u' e' hd=>by rw [(hf d (zch hd)).1] at e'; cases e'
 refine I.step (g':=s.gens) (d':=s.drawn) (t':=tk) (ch:=[n+4,n+3,n,n+1]) (fun c md=>?_) (fun c o _ _ nV e _=>k1 c o nV e) (fun c o _ _ nV e _=>⟨o.slots,k1 c o nV e⟩) (fun _ _ _ _ n=>n)
  (fun c o nV e=>⟨o,k1 c o nV e⟩) (fun _ _ e=>e) (fun _ _ _ e=>e) (fun c ps e=>⟨#[],by rw [e]; simp⟩) (fun m hm=>?_) (fun c u e=>?_) I.bare
 ·obtain⟨_,a1,_,a3,a4,a5⟩:=hf c (zch md);exact⟨a3,a1,a4,a5⟩
 ·obtain⟨o,vt,ep,ho,r⟩:=hm;exact⟨o,vt,ep,k1 _ o (fun z=>(hf _ (zch z)).2.1 rfl) ho,r⟩
 ·refine (I.hok c u e).stay (fun d v' hd q=>k1 d v' ?_ q) (fun _ q=>q) fun _ _ q=>q
  rcases hd with z | z
  ·rw [z]; exact sH c u e
  ·exact sH d _ z
theorem zku {X:Cx} {lR:List (Addr×Obj)} {σ:St} {H:Hp} {s:Shared} {a b:Addr} {l8:List (List Key×V)} {k:List Key} {v:V} {r:Value} {A:Around} {E:Value→Shared→Prop} {Q:Unit→Shared→Prop} (hu:A.units+1 < cLine) (I:Inv X lR σ H s) (e:H a=some (.dT l8)) (eb:H b=some (.tup (k.map kV))) (l:l8.length < sizeLine) (rv:RelV v r)
  (h:∀ s',(∀ c o,c≠a→s.heap.get? c=some o→s'.heap.get? c=some o)→Inv X lR σ (lW H a (.dT (putK l8 k v))) s'→Q () s'):wpAny (model X.prog X.w) A.in1 (dictSet a (.ref b) r) Q E s:=by
 obtain⟨z,hd,xs,rel,dd⟩:=zpX I.hok e;have hz:xs.length≤sizeLine:=by rw [← aQ rel]; exact z
 have hl:(putK l8 k v).length≤sizeLine:=by have:=zhD l8 k v; lia
 refine wpAny_dictSet_heap (hsz:=hz) (kt hu) (zix I.hok eb) dd fun h' dd' hs=>h _ (fun c o hc eo=>hs.extBut c o hc eo) ?_
 obtain⟨q,es,ep,hq,h2,h3,h4,_,h5⟩:=dd';refine zm5 I (by rw [e]; exact lr) hs ⟨q,hq⟩ ⟨hl,hd,_,(rel.put k eb rv).keeps fun c ys ec=>?_,q,es,ep,hq,h2,h3,h4,h5⟩;rw [zl (zpy ec e (fun z=>nomatch z))];exact ec
def KyA (H:Hp):List V→List (List Key)→Prop:=Paired fun x k=>∃ c,x = .ref c∧H c=some (.tup (k.map kV))
theorem znq {X:Cx} {lR:List (Addr×Obj)} {σ:St} {A:Around} {R:Result→Shared→Prop} {H0:Hp} {a b n D:Nat} {xs ys:List V} {ks:List (List Key)} (hh:A.handled=none) (hu:A.units+1 < cLine) (ha:a < n) (hb:b < n)
  (hD:H0 D=none) (hfD:D∉zbT n) (pE:lT X.K H0 a xs) (n4:lT X.K H0 b ys) (hk:KyA H0 xs ks) (pb:ks.Nodup) (hf:∀ c∈zbT n,zbP X lR H0 c)
  (hR:∀ s' H',Inv X lR σ H' s'→zq H0 H'→H' D=some (.dT (ks.zip ys))→R (.ok (.ret .none)) s') :
  ∀ (m i:Nat) (t:Tok) (s:Shared) (H:Hp),i+m=min xs.length ys.length→Inv X lR σ H s→zq H0 H→(∀ c∈zbT n,H c=none)→zqy n a b i s.heap→H D=some (.dT ((ks.zip ys).take i)) →
   codeAny (model X.prog X.w) A (.builtin "dict.update.loop" ⟨[.ref D,.ref (n+4),.int i t,.none],[]⟩) R s:=by
 intro m;induction m with
 | zero =>
  intro i t s H hi I hs hn st Ee;obtain⟨⟨f0,f1,h1,uR⟩,h2,⟨u0,v0,h3⟩,h4,h5⟩:=st;obtain⟨mP,rA,p1,rO⟩:=I.list (hs.seq pE);obtain⟨mJ,rP,p2,tM⟩:=I.list (hs.seq n4);have uM:=rA.length;have qe:=rP.length;refine fg zhQ ?_;rw [dG zdp _];show wpAny _ A.in1 (pyNext (.ref (n+4)) >>= _) _ _ s;have Bl:A.in1.in1.handled=none:=by simp [hh]
  refine ae (zlo (gk Bl n a (nq #[O]) mP.toArray) (gk Bl (n+1) b (nq #[O]) mJ.toArray) (zcG ha hb) h1 uR h2 h3 ⟨h4,p1.isList⟩ ⟨h5,p2.isList⟩ (by rw [az,az]; lia) fun h' tk kk=>?_);show wpAny _ A.in1 (Builtin.Dict.addKeywords D [] >>= _) _ _ _
  (refine ae (ak (ak ?_)))
  have I1:Inv X lR σ H { s with heap:=h',toks:=tk }:=zp4 I (fun c hc=>⟨hn c hc,(hf c hc).2⟩) fun c o md e=>by
   simp only [aH,aZ,or_false,not_or] at md;exact kk c o md.1 md.2.1 md.2.2.1 md.2.2.2 e
  refine hR _ _ I1 hs ?_;rw [Ee,aN];rw [lx,← aQ hk];lia
 | succ m ih =>
  intro i t s H hi I hs hn st Ee;obtain⟨⟨f0,f1,h1,uR⟩,h2,⟨u0,v0,h3⟩,h4,h5⟩:=st;obtain⟨mP,rA,p1,rO⟩:=I.list (hs.seq pE);obtain⟨mJ,rP,p2,tM⟩:=I.list (hs.seq n4);have uM:=rA.length;have qe:=rP.length;have hx:xs[i]? = some (xs[i]'#[O]):=ai _;have hy:ys[i]? = some (ys[i]'#[O]):=ai _;generalize xs[i]'#[O]=x at hx;generalize ys[i]'#[O]=y at hy;obtain⟨u,huu,ru⟩:=rA.get hx;obtain⟨v,hv,rv⟩:=rP.get hy;refine fg zhQ ?_;rw [dG zdp _];show wpAny _ A.in1 (pyNext (.ref (n+4)) >>= _) _ _ s;have Bl:A.in1.in1.handled=none:=by simp [hh]
  refine ae (zjg (gk Bl n a (nq #[O]) mP.toArray) (gk Bl (n+1) b (nq #[O]) mJ.toArray) (zcG ha hb) h1 uR h2 h3 ⟨h4,p1.isList⟩ ⟨h5,p2.isList⟩ (by rw [az]; lia) (by rw [az]; lia)
   fun x' y' h' tk g0 g1 a' b' px py ez AJ e2 e3 t4 t5 pp hsz kk=>?_)
  have eu:x'=u:=by
   have e1:mP[i]? = some x':=by simpa using px
   rw [huu] at e1; exact (aS e1).symm
  have ev:y'=v:=by
   have e1:mJ[i]? = some y':=by simpa using py
   rw [hv] at e1; exact (aS e1).symm
  subst eu ev;obtain⟨k,hki,kc,rfl,C6⟩:=znp hk hx;cases ru;have hff:∀ c∈zbT n,zbP X lR H c:=fun c hc=>⟨hn c hc,(hf c hc).2⟩
  have wA:n+4 < s.heap.objs.size:=aF h1;have k1:∀ c o,c∉[n+4,n+3,n,n+1]→s.heap.get? c=some o→h'.get? c=some o:=fun c o md eo=>by
   simp only [aH,aZ,or_false,not_or] at md;exact kk c o md.1 md.2.1 md.2.2.1 md.2.2.2 eo
  have I1:Inv X lR σ H { s with heap:=h',toks:=tk }:=zp4 I hff k1;show wpAny _ A.in1 (holding [.ref s.heap.objs.size] _ >>= _) _ _ _
  (refine ae (bV ?_))
  (refine ae (eE ?_))
  unfold Builtin.Dict.pairItems;have hT:({ s with heap:=h',toks:=tk }:Shared).TypeIs (.ref s.heap.objs.size) "tuple":=⟨_,pp,rfl⟩
  (refine ae (kx hT ?_))
  rw [if_pos #[D]];refine ae (cG pp rfl (ak ?_));show wpAny _ A.in1 (holding [.ref kc,y'] (dictSet D (.ref kc) y')) _ _ _;have mj:((ks.zip ys).take i).length < sizeLine:=by
   rw [aL];lia
  refine bV (zku (A:=A) hu I1 Ee (hs _ _ C6) mj rv fun s2 k2 I2=>?_);rw [zls _ (zkt (zno pb hki)),← zlZ hki hy] at I2;have nD:∀ c,c∈zbT n→c≠D:=fun c hc z=>hfD (by rw [← z]; exact hc)
  refine ak ⟨eY zdp _,?_⟩;show codeAny _ A (.builtin "dict.update.loop" ⟨[.ref D,.ref (n+4),.int ((i+1:Nat):Int) _,.none],[]⟩) R s2;refine ih (i+1) _ s2 _ #[O] I2 (fun c o e=>?_) (fun c hc=>?_) ?_ zc
  ·rw [zl (zB e hD)];exact hs c o e
  ·rw [zl (nD c hc)];exact hn c hc
  ·exact⟨⟨g0,g1,k2 _ _ (nD _ #[M]) ez,AJ⟩,k2 _ _ (nD _ #[M]) e2,⟨_,_,k2 _ _ (nD _ #[M]) e3⟩,t4.1.at fun o e=>k2 _ o (nD _ #[M]) e,t5.1.at fun o e=>k2 _ o (nD _ #[M]) e⟩
def tDZ (K:ah) (ta:TA):TE:=fun σ H Q=>ta σ H fun vs H1=>∃ a b xs ys ks,vs = [.ref a,.ref b]∧lT K H1 a xs∧lT K H1 b ys∧KyA H1 xs ks∧ks.Nodup∧∀ D H',H1 D=none→zq H1 H'→H' D=some (.dT (ks.zip ys))→Q (.ref D) H'
theorem ziE {X:Cx} {p p2 pos oF:Pos} {a b:Expr} {ta:TA} (hu:X.A.units+2 < cLine) (hc:X.calm=true) (hg:Gl X "dict") (hm:X.mg "dict" = none) (xb:Gl X "zip") (rQ:X.mg "zip" = none) (ha:PA X [a,b] ta) (hs:starEach [a,b] X.env = [(false,eval a X.env),(false,eval b X.env)]:=by rfl) (oQ:starEach [b] X.env = [(false,eval b X.env)]:=by rfl)
  (tO:starEach [.Call (.Name "zip" p2) [a,b] [] oF] X.env = [(false,eval (.Call (.Name "zip" p2) [a,b] [] oF) X.env)]:=by rfl) :
  PE X (.Call (.Name "dict" p) [.Call (.Name "zip" p2) [a,b] [] oF] [] pos) (tDZ X.K ta):=by
 intro lR s σ H Q I h;refine Call_ (zaV I hg hm boot_dict (bn ?_ tO rfl));rw [tO];show wpAny _ _ (spliced ((false,eval (.Call (.Name "zip" p2) [a,b] [] oF) X.env) :: [])) _ _ s;refine dR ?_;refine Call_ (zaV I xb rQ kT (bn (thn (ha oF lR s σ H _ I h) fun us s1 ⟨vs,H1,I1,r1,q1⟩=>?_) (by rw [hs,oQ]) (by rw [oQ]; rfl)));obtain⟨l1,l2,xs,ys,ks,e,pE,n4,Cu,pb,q⟩:=q1;subst e;cases r1 with
 | cons r rr =>
  cases rr with
  | cons r' rr =>
   cases rr;cases r;cases r';obtain⟨mP,rA,vP,rO⟩:=I1.list pE;obtain⟨mJ,rP,wB,tM⟩:=I1.list n4;have qf:l1 < s1.heap.objs.size:=by obtain⟨_,_,e,_⟩:=vP; exact aF e
   have qg:l2 < s1.heap.objs.size:=by obtain⟨_,_,e,_⟩:=wB; exact aF e
   refine call_zip_2 vP.isList wB.isList fun h' b1 b2 b3 b4 b5 b6 kk=>?_
   refine fm ?_;have I2:Inv X lR σ H1 { s1 with heap:=h' }:=I1.kept (t':=s1.toks) kk;have yC:∀ c∈zbT s1.heap.objs.size,zbP X lR H1 c:=fun c hc=>by
    have hle:s1.heap.objs.size≤c:=by
     simp only [zbT,aH,aZ,or_false] at hc;rcases hc with z | z | z | z | z <;> subst z
     all_goals first | exact gO _ _ | exact ag _
    exact I1.fpOk hle (I1.hok.fresh hle)
   generalize hn:s1.heap.objs.size=n at b1 b2 b3 b4 b5 b6 qf qg yC ⊢;refine callType_codes (Q₁:=fun obj s₁=>obj = .ref h'.objs.size∧s₁ = { s1 with heap:=h'.push { cls:=.type "dict",data:=.dict #[] } }) F.kt_called_dict (F.kt_typeCall_dict_1 _) F.entry_dict_init (kt_code_dict_new _ ⟨rfl,rfl⟩) ?_;rintro obj s₁ ⟨rfl,rfl⟩;have Ef:∀ c o,h'.get? c=some o→(h'.push { cls:=.type "dict",data:=.dict #[] }).get? c=some o:=fun c o e=>aj _ e
   have I3:Inv X lR σ (lW H1 h'.objs.size (.dT [])) { s1 with heap:=h'.push { cls:=.type "dict",data:=.dict #[] } } :=
    I2.laid (a:=h'.objs.size) (o:=.dT []) (t':=s1.toks) Ef (ag _) (zlv h' I2.big)
   have hT:({ s1 with heap:=h'.push { cls:=.type "dict",data:=.dict #[] } }:Shared).TypeIs (.ref h'.objs.size) "dict":=⟨_,aB _ rfl,rfl⟩;refine⟨hT,F.args_dict_init_2 _ _,?_⟩
   (unfold Builtin.«dict.__init__»; refine ae ?_; unfold Builtin.Dict.selfAndRest)
   (refine ae (jB hT ?_))
   show wpAny _ _ (pure (h'.objs.size,[bg (n+4)])) _ _ _;refine (ak ?_);show wpAny _ _ (i9 "dict.__init__" h'.objs.size (.ref (n+4)) [] .none) _ _ _
   (unfold i9)
   have Bm:=Ef _ _ b1;have uS:({ s1 with heap:=h'.push { cls:=.type "dict",data:=.dict #[] } }:Shared).TypeIs (.ref (n+4)) "zip":=⟨_,Bm,rfl⟩;refine ae (kx uS ?_);rw [if_pos #[D]];have hh:X.A.handled=none:=I.ok.hd hc;refine ae (znn Bm (by simp [hh]) fun h2 tk wC=>?_);rw [if_pos (by rfl)];refine ae (cr ?_);have I4:Inv X lR σ (lW H1 h'.objs.size (.dT [])) { s1 with heap:=h2,toks:=tk }:=Inv.kept (s:={ s1 with heap:=h'.push { cls:=.type "dict",data:=.dict #[] } }) (t':=tk) I3 wC;refine ae (zgw (wC _ _ Bm) (ak ⟨eY zdp _,?_⟩));have D0:H1 h'.objs.size=none:=I2.hok.fresh (ag _);have up:∀ c o,h'.get? c=some o→h2.get? c=some o:=fun c o e=>wC c o (Ef c o e)
   refine znq (X:=X) (lR:=lR) (σ:=σ) (A:=X.A.in1) (H0:=H1) (a:=l1) (b:=l2) (n:=n) (D:=h'.objs.size) (xs:=xs) (ys:=ys) (ks:=ks) (by simp [hh]) (by simp only [fK]; lia) qf qg D0 ?_ pE n4 Cu pb yC (fun s' H' I' e1 e2=>?_) (min xs.length ys.length) 0 _ _ _ #[O] I4 (fun c o e=>?_) (fun c hc=>?_) ?_ ?_
   ·rw [b6];simp
   ·exact⟨rfl,.ref h'.objs.size,_,I',rfl,q _ _ D0 e1 e2⟩
   ·rw [zl (zB e D0)];exact e
   ·rw [zl]
    ·exact (yC c hc).1
    ·rw [b6];simp only [zbT,aH,aZ,or_false] at hc;rcases hc with z | z | z | z | z <;> subst z <;> exact nq #[O]
   ·exact⟨⟨_,_,up _ _ b1,.inl rfl,_,rfl⟩,up _ _ b2,⟨_,_,up _ _ b3⟩,b4.at fun o e=>up _ o e,b5.at fun o e=>up _ o e⟩
   ·rw [gn];exact zc
end L2
end
section
namespace PySem
theorem zdq:typeLookup (.type "list") (dunderI "add")=pure (some (.builtin "list.__iadd__")):=by rw [dZ,cS]; kernel_rfl
theorem zfm:seqSlot? (.type "list") (dunderI "add")=pure (some (.builtin "list.__iadd__")):=by
 unfold seqSlot?;rw [zdq]
 kernel_rfl
theorem zgH:fillsInplaceSlot (.type "list") "add" (Operator.Add == .Add)=pure false:=by
 unfold fillsInplaceSlot;show (typeLookup (.type "list") (dunderI "add") >>= fun fi=>pure (fi.isSome && !isSeqSlot fi))=pure false;rw [zdq]
 kernel_rfl
theorem zkv {M:Model} {A:Around} {E:Value→Shared→Prop} {s:Shared} {a b:Value} {Q:Value→Shared→Prop} (ha:s.TypeIs a "list") (hb:s.TypeIs b "list")
  (hc:wpAny M A (call (.builtin "list.__iadd__") [a,b]) Q E s):wpAny M A (inplaceOp .Add a b) Q E s:=by
 (unfold inplaceOp; refine bV ?_)
 refine ae (kx ha (ae (ck zgH ?_)))
 (show wpAny M A (if false=true then _ else _) Q E s)
 rw [if_neg aR];refine ae (wpAny_binaryOp1_none (nm:="add") ha hb noFill_list_add ?_);refine ae (ck zfm ?_);exact (ae (cr hc))
end PySem
namespace L2
open PySem PySem.Spec PyProof.Rows
def zo8:R2:=fun x y H Q=>∃ l b xs zs,x = .ref l∧y = .ref b∧H l=some (.lst xs)∧H b=some (.lst zs)∧xs.length+zs.length≤sizeLine∧Q (.ref l) (lW H l (.lst (xs++zs)))
theorem zl0 {X:Cx}:OpR X (inplaceOp .Add) zo8:=by
 intro lR s σ H x y v u Q I rx ry h;obtain⟨l,b,xs,zs,rfl,rfl,hH,hB,hz,q⟩:=h;cases rx;cases ry;obtain⟨z,lU,n,r,hl,e⟩:=I.lstM hH;obtain⟨z2,mJ,n2,r2,qe,e2⟩:=I.lstM hB;have hsz:lU.toArray.size+mJ.toArray.size≤sizeLine:=by rw [az,az]; lia
 have vN:¬ (!lU.toArray.isEmpty && eG (lU.toArray.size+mJ.toArray.size))=true:=by
  rw [zhm hsz,Bool.and_false];exact aR
 refine zkv ⟨_,e,rfl⟩ ⟨_,e2,rfl⟩ (fH F.slot_list_iadd ⟨_,e,rfl⟩ F.entry_list_iadd (F.args_list_iadd_2 _ _)
  (AutoSeq1.list___iadd___list_list_0 l lU.toArray n b mJ.toArray n2 vN (by rw [az]; lia) #[O]) ⟨e,e2,?_⟩)
 refine⟨.ref l,_,I.lset (its':=lU++mJ) hH e #[M] (r.append r2) ?_,rfl,q⟩;rw [aA];lia
end L2
end
section
namespace My
open PySem L2 PyProof.Rows
def sh (b:Int):Nat→(Nat→Int)→Nat→Int
 | 0,_,_=>0
 | n+1,l,0=>l 0+b*sh b n (fun t=>l (t+1)) 0
 | n+1,l,j+1=>sh b n (fun t=>l (t+1)) j+b*sh b n (fun t=>l (t+1)) (j+1)
theorem zgI {b:Int}:∀ {n:Nat} {l:Nat→Int} {j:Nat},n≤j→sh b n l j=0
 | 0,_,_,_=>by simp [sh]
 | n+1,l,0,h=>by lia
 | n+1,l,j+1,h=>by
  rw [sh,zgI #[O],zgI #[O]]; simp
theorem zeX {b:Int}:∀ {n:Nat} {u v:Nat→Int} {j:Nat},sh b n (fun t=>u t+v t) j=sh b n u j+sh b n v j
 | 0,_,_,_=>by simp [sh]
 | n+1,u,v,0=>by
  have h:=zeX (b:=b) (n:=n) (u:=fun t=>u (t+1)) (v:=fun t=>v (t+1)) (j:=0);simp only [sh,h]; grind
 | n+1,u,v,j+1=>by
  have h:=zeX (b:=b) (n:=n) (u:=fun t=>u (t+1)) (v:=fun t=>v (t+1)) (j:=j);have h':=zeX (b:=b) (n:=n) (u:=fun t=>u (t+1)) (v:=fun t=>v (t+1)) (j:=j+1);simp only [sh,h,h']; grind
theorem zce {b c:Int}:∀ {n:Nat} {u:Nat→Int} {j:Nat},sh b n (fun t=>c*u t) j=c*sh b n u j
 | 0,_,_=>by simp [sh]
 | n+1,u,0=>by
  have h:=zce (b:=b) (c:=c) (n:=n) (u:=fun t=>u (t+1)) (j:=0);simp only [sh,h]; grind
 | n+1,u,j+1=>by
  have h:=zce (b:=b) (c:=c) (n:=n) (u:=fun t=>u (t+1)) (j:=j);have h':=zce (b:=b) (c:=c) (n:=n) (u:=fun t=>u (t+1)) (j:=j+1);simp only [sh,h,h']; grind
theorem zcZ {b:Int}:∀ {n:Nat} {u v:Nat→Int} {j:Nat},(∀ t,t < n→u t=v t)→sh b n u j=sh b n v j
 | 0,_,_,_,_=>by simp [sh]
 | n+1,u,v,0,h=>by
  rw [sh,sh,h 0 #[O],zcZ (n:=n) (v:=fun t=>v (t+1)) fun t ht=>h (t+1) #[O]]
 | n+1,u,v,j+1,h=>by
  have e:=fun i=>zcZ (b:=b) (n:=n) (u:=fun t=>u (t+1)) (v:=fun t=>v (t+1)) (j:=i) fun t ht=>h (t+1) #[O]
  rw [sh,sh,e j,e (j+1)]
theorem zc0 {p b b':Int} (hb:Cg p b b'):∀ {n:Nat} {u v:Nat→Int} {j:Nat},(∀ t,t < n→Cg p (u t) (v t))→Cg p (sh b n u j) (sh b' n v j)
 | 0,_,_,_,_=>by simp only [sh]; exact Cg.refl _ _
 | n+1,u,v,0,h=>by
  simp only [sh];exact (h 0 #[O]).add (hb.mul (zc0 hb fun t ht=>h (t+1) #[O]))
 | n+1,u,v,j+1,h=>by
  simp only [sh];exact (zc0 hb fun t ht=>h (t+1) #[O]).add (hb.mul (zc0 hb fun t ht=>h (t+1) #[O]))
theorem zgJ {b:Int}:∀ {n:Nat} {f:Nat→Int} {j:Nat},f n=0→sh b (n+1) f j=sh b n f j
 | 0,f,0,h=>by simp [sh,h]
 | 0,f,j+1,h=>by simp [sh]
 | n+1,f,0,h=>by
  rw [sh,zgJ (n:=n) (f:=fun t=>f (t+1)) h]; simp only [sh]
 | n+1,f,j+1,h=>by
  have e:=fun i=>zgJ (b:=b) (n:=n) (f:=fun t=>f (t+1)) (j:=i) h
  rw [sh,e j,e (j+1)]; simp only [sh]
theorem znr {b:Int} {n:Nat} {f:Nat→Int} {j:Nat}:∀ {m:Nat},n≤m→(∀ t,n≤t→t < m→f t=0)→sh b m f j=sh b n f j
 | m,h,z=>by
  induction m with
  | zero =>
   obtain rfl:n=0:=by lia
   rfl
  | succ m ih =>
   by_cases e:n=m+1
   ·rw [e]
   ·rw [zgJ (z m #[O] #[O])];exact ih #[O] fun t h1 h2=>z t h1 #[O]
theorem zep:∀ {n:Nat} {l:Nat→Int} {j:Nat},j < n→sh 0 n l j=l j
 | 0,_,_,h=>by lia
 | n+1,l,0,_=>by simp [sh]
 | n+1,l,j+1,h=>by
  rw [sh,zep (n:=n) (l:=fun t=>l (t+1)) #[O]]; simp
theorem zjv {b b':Int}:∀ {n:Nat} {l:Nat→Int} {j:Nat},sh b' n (sh b n l) j=sh (b+b') n l j
 | 0,_,_=>by simp [sh]
 | n+1,l,j=>by
  have hz:sh b n (fun t=>l (t+1)) n=0:=zgI (ag _);have ih:=fun i=>zjv (b:=b) (b':=b') (n:=n) (l:=fun t=>l (t+1)) (j:=i)
  have e:sh b' (n+1) (sh b (n+1) l) j=sh b' (n+1) (fun t=>(if t=0 then l 0 else sh b n (fun t=>l (t+1)) (t - 1))+b*sh b n (fun t=>l (t+1)) t) j:=by
   refine zcZ fun t _=>?_
   cases t <;> simp [sh]
  rw [e,zeX,zce,zgJ hz,ih];cases j with
  | zero =>
   simp only [sh,if_true];have e2:sh b' n (fun t=>if t+1=0 then l 0 else sh b n (fun t=>l (t+1)) (t+1 - 1)) 0=sh (b+b') n (fun t=>l (t+1)) 0:=by
    rw [← ih]; exact zcZ fun t _=>by simp
   rw [e2]; grind
  | succ j =>
   simp only [sh];have e2:∀ i,sh b' n (fun t=>if t+1=0 then l 0 else sh b n (fun t=>l (t+1)) (t+1 - 1)) i=sh (b+b') n (fun t=>l (t+1)) i:=fun i=>by
    rw [← ih]; exact zcZ fun t _=>by simp
   rw [e2,e2]; grind
def vl:Nat→(Nat→Int)→Int→Int
 | 0,_,_=>0
 | n+1,l,y=>l 0+y*vl n (fun t=>l (t+1)) y
theorem zod {y:Int}:∀ {n:Nat} {u v:Nat→Int},(∀ t,t < n→u t=v t)→vl n u y=vl n v y
 | 0,_,_,_=>rfl
 | n+1,u,v,h=>by rw [vl,vl,h 0 #[O],zod (v:=fun t=>v (t+1)) fun t ht=>h (t+1) #[O]]
theorem zl1 {c y:Int}:∀ {n:Nat} {u:Nat→Int},vl n (fun t=>c*u t) y=c*vl n u y
 | 0,_=>by simp [vl]
 | n+1,u=>by
  have h:=zl1 (c:=c) (y:=y) (n:=n) (u:=fun t=>u (t+1));simp only [vl,h]; grind
def ch:Nat→Nat→Int
 | _,0=>1
 | 0,_+1=>0
 | t+1,j+1=>ch t j+ch t (j+1)
theorem zeq:∀ {t j:Nat},t < j→ch t j=0
 | _,0,h=>by lia
 | 0,j+1,_=>rfl
 | t+1,j+1,h=>by rw [ch,zeq #[O],zeq #[O]]; rfl
theorem zb1 {b:Int}:∀ {n:Nat} {l:Nat→Int} {j:Nat},sh b n l j=sm n fun t=>ch t j*b ^ (t - j)*l t
 | 0,_,_=>rfl
 | n+1,l,0=>by
  rw [sh,zb1,zcK,← zbU];congr 1
  ·simp [ch]
  ·exact zW fun i _=>by simp only [ch,eK]; grind
 | n+1,l,j+1=>by
  rw [sh,zb1,zb1,zcK,← zbU,← zgE];have e0:ch 0 (j+1)*b ^ (0 - (j+1))*l 0=0:=by simp [ch]
  rw [e0,cZ];refine zW fun i _=>?_
  have e1:i+1 - (j+1)=i - j:=by lia
  rw [ch,e1];by_cases h:j+1≤i
  ·have e2:i - j=(i - (j+1))+1:=by lia
   rw [e2,fB]; grind
  ·rw [zeq (t:=i) (j:=j+1) #[O]]; simp
def hs (b:Int):Nat→(Nat→Int)→Nat→Int
 | 0,_,_=>0
 | n+1,l,0=>l 0+b*hs b n (fun t=>l (t+1)) 0
 | n+1,l,j+1=>hs b n (fun t=>l (t+1)) j
theorem zcf {b:Int}:∀ {n:Nat} {l:Nat→Int} {j:Nat},n≤j→hs b n l j=0
 | 0,_,_,_=>by simp [hs]
 | n+1,l,0,h=>by lia
 | n+1,l,j+1,h=>by rw [hs,zcf #[O]]
theorem zdr {b:Int}:∀ {n:Nat} {l:Nat→Int} {j:Nat},j < n→hs b n l j=l j+b*hs b n l (j+1)
 | 0,_,_,h=>by lia
 | n+1,l,0,h=>by simp only [hs]
 | n+1,l,j+1,h=>by
  rw [hs,zdr (n:=n) (l:=fun t=>l (t+1)) #[O]]; rfl
theorem zjw {b:Int}:∀ {n:Nat} {l:Nat→Int},sh b (n+1) l 0=hs b (n+1) l 0∧∀ j,sh b (n+1) l (j+1)=sh b n (fun t=>hs b (n+1) l (t+1)) j
 | 0,l=>by simp [sh,hs]
 | n+1,l=>by
  obtain⟨h0,h1⟩:=zjw (b:=b) (n:=n) (l:=fun t=>l (t+1));refine⟨?_,fun j=>?_⟩
  ·rw [sh,h0]; simp only [hs]
  ·rw [sh];have e:sh b (n+1) (fun t=>hs b (n+2) l (t+1)) j=sh b (n+1) (fun t=>hs b (n+1) (fun t=>l (t+1)) t) j:=zcZ fun t _=>by rw [hs]
   rw [e];cases j with
   | zero=>rw [h0,h1 0]; simp only [sh]
   | succ j=>rw [h1 j,h1 (j+1)]; simp only [sh]
def qo (b:Int) (n:Nat) (l:Nat→Int):Nat→Nat→Int
 | 0=>l
 | f+1=>fun t=>hs b (n - f) (qo b n l f) (t+1)
theorem zoe {b:Int} {n:Nat} {l:Nat→Int}:∀ {f:Nat},f≤n→∀ j,sh b n l (f+j)=sh b (n - f) (qo b n l f) j
 | 0,_,j=>by rw [cw]; rfl
 | f+1,h,j=>by
  have ih:=zoe (b:=b) (n:=n) (l:=l) (f:=f) #[O] (j+1);have e:f+1+j=f+(j+1):=by lia
  have e2:n - f=(n - (f+1))+1:=by lia
  rw [e,ih,e2,(zjw).2 j];refine zcZ fun t _=>?_
  rw [qo,e2]
theorem zl2 {b:Int} {n:Nat} {l:Nat→Int} {f:Nat} (h:f < n):sh b n l f=hs b (n - f) (qo b n l f) 0:=by
 have ih:=zoe (b:=b) (n:=n) (l:=l) (f:=f) #[O] 0;have e2:n - f=(n - (f+1))+1:=by lia
 rw [dS] at ih;rw [ih,e2,(zjw).1]
theorem zns {a b:Int} {n w:Nat} {g:Nat→Nat→Int} {j i:Nat}:sh b n (fun t=>sh a w (fun s=>g t s) i) j=sh a w (fun s=>sh b n (fun t=>g t s) j) i:=by
 rw [zb1,zb1];have e1:(fun t=>ch t j*b ^ (t - j)*sh a w (fun s=>g t s) i)=fun t=>sm w fun s=>(ch t j*b ^ (t - j))*(ch s i*a ^ (s - i)*g t s):=by
  funext t; rw [zb1,← zbU]
 have e2:(fun s=>ch s i*a ^ (s - i)*sh b n (fun t=>g t s) j)=fun s=>sm n fun t=>(ch t j*b ^ (t - j))*(ch s i*a ^ (s - i)*g t s):=by
  funext s; rw [zb1,← zbU];exact zW fun t _=>by grind
 rw [e1,e2,zgF]
def mv (a b:Int) (n w:Nat) (c:Nat→Nat→Int) (j i:Nat):Int:=sh a w (fun s=>sh b n (fun t=>c t s) j) i
theorem zof {p a a' b b':Int} {n w:Nat} {c d:Nat→Nat→Int} {j i:Nat} (ha:Cg p a a') (hb:Cg p b b') (h:∀ t s,t < n→s < w→Cg p (c t s) (d t s)):Cg p (mv a b n w c j i) (mv a' b' n w d j i) :=
 zc0 ha fun s hs=>zc0 hb fun t ht=>h t s ht hs
theorem zog {a b:Int} {n w:Nat} {c:Nat→Nat→Int} {j i:Nat}:mv a b n w c j i=sm n fun t=>sm w fun s=>c t s*ch t j*ch s i*a ^ (s - i)*b ^ (t - j):=by
 unfold mv;rw [zb1,← zgF];refine zW fun s _=>?_
 rw [zb1,← zbU];exact zW fun t _=>by grind
theorem zjx {y:Int}:∀ {n:Nat} {l:Nat→Int},vl n l y=sm n fun t=>l t*y ^ t
 | 0,_=>rfl
 | n+1,l=>by
  rw [vl,zjx,zcK,← zbU];congr 1
  ·simp
  ·exact zW fun t _=>by rw [fB]; grind
theorem znt {p a a' b b':Int} {n w:Nat} {c d:Nat→Nat→Int} (ha:Cg p (a+a') 0) (hb:Cg p (b+b') 0) (hd:∀ t s,t < n→s < w→Cg p (d t s) (mv a b n w c t s)) {j i:Nat} (hj:j < n) (hi:i < w):Cg p (mv a' b' n w d j i) (c j i):=by
 refine (zof (Cg.refl _ _) (Cg.refl _ _) hd).trans ?_;have e:mv a' b' n w (fun t s=>mv a b n w c t s) j i=mv (a+a') (b+b') n w c j i:=by
  unfold mv;have e1:(fun s=>sh b' n (fun t=>sh a w (fun s=>sh b n (fun t=>c t s) t) s) j)=sh a w (fun s=>sh (b+b') n (fun t=>c t s) j):=by
   funext s;rw [zns];refine zcZ fun s _=>?_
   exact zjv (b:=b) (b':=b') (l:=fun t=>c t s)
  rw [e1,zjv]
 rw [show (mv a b n w c)=(fun t s=>mv a b n w c t s) from rfl,e];refine (zof ha hb fun _ _ _ _=>Cg.refl _ _).trans (Cg.of_eq ?_);unfold mv;rw [zep hi,zep (l:=fun t=>c t i) hj]
theorem zp5 {p a b:Int} {n w:Nat} {c:Nat→Nat→Int} {j i:Nat} (hj:j < n) (hi:i < w) (hc:¬ Cg p (c j i) 0):∃ t s,t < n∧s < w∧¬ Cg p (mv a b n w c t s) 0:=by
 refine bH fun h=>hc ?_
 have z:∀ t s,t < n→s < w→Cg p (0:Int) (mv a b n w c t s):=fun t s ht hs=>bH fun q=>h ⟨t,s,ht,hs,fun e=>q e.symm⟩
 have e:=znt (p:=p) (a:=a) (a':=-a) (b:=b) (b':=-b) (c:=c) (d:=fun _ _=>0) (Cg.of_eq #[O]) (Cg.of_eq #[O]) z hj hi;refine e.symm.trans (Cg.of_eq ?_);rw [zog];exact zbC fun t _=>zbC fun s _=>by simp
def zw (n w:Nat) (g:Nat→Nat→Int):List (List Int):=(au n).map fun j=>(au w).map fun i=>g j i
theorem zag {n w j:Nat} {g:Nat→Nat→Int} (h:j < n):(zw n w g)[j]? = some ((au w).map fun i=>g j i):=by
 unfold zw;rw [af,aY h];rfl
theorem za1 {n w:Nat} {g g':Nat→Nat→Int} (h:∀ j i,j < n→i < w→g j i=g' j i):zw n w g=zw n w g':=by
 unfold zw;refine de fun j hj=>de fun i hi=>?_
 exact h j i (aJ.mp hj) (aJ.mp hi)
theorem zkw {n w j:Nat} {g:Nat→Nat→Int} {v:Nat→Int}:(zw n w g).set j ((au w).map v)=zw n w (fun j' i=>if j'=j then v i else g j' i):=by
 refine c9 fun k=>?_
 rw [List.getElem?_set];by_cases hk:k < n
 ·rw [zag hk,zag hk];by_cases e:j=k
  ·subst e;have hl:j < (zw n w g).length:=by unfold zw; rw [ab,aD]; exact hk
   simp [hl]
  ·simp [e,cQ e]
 ·have h1:(zw n w g)[k]? = none:=cB.mpr (by unfold zw; rw [ab,aD]; lia);have h2:(zw n w (fun j' i=>if j'=j then v i else g j' i))[k]? = none:=cB.mpr (by unfold zw; rw [ab,aD]; lia);have h3:(zw n w g).length=n:=by unfold zw; rw [ab,aD]
  rw [h1,h2,h3];split
  ·rw [if_neg #[O]]
  ·rfl
theorem zkx {w:Nat} {u v:Nat→Int} {f:Int→Int→Int}:cH f ((au w).map u) ((au w).map v)=(au w).map fun i=>f (u i) (v i):=by
 rw [List.zipWith_map,List.zipWith_self]
def rst (p b:Int) (n:Nat) (c:Nat→Nat→Int) (f idx j i:Nat):Int :=
 (if j < f then sh b n (fun t=>c t i) j else if n≤idx+1+j then hs b (n - f) (qo b n (fun t=>c t i) f) (j - f) else qo b n (fun t=>c t i) f (j - f)) % p
theorem zky {p b:Int} {n:Nat} {c:Nat→Nat→Int} {j i:Nat} (hj:j < n):rst p b n c 0 0 j i=c j i % p:=by
 unfold rst;rw [if_neg #[O]];split
 ·rw [eK,eK,zdr hj,zcf #[O]];simp [qo]
 ·rfl
theorem zl3 {p b:Int} {n:Nat} {c:Nat→Nat→Int} {j i:Nat} (hj:j < n):rst p b n c n 0 j i=sh b n (fun t=>c t i) j % p:=by
 unfold rst;rw [if_pos hj]
theorem zl4 {p b:Int} {n f:Nat} {c:Nat→Nat→Int} {j i:Nat} (hf:f < n) (hj:j < n):rst p b n c f (n - 1 - f) j i=rst p b n c (f+1) 0 j i:=by
 unfold rst;by_cases h1:j < f
 ·rw [if_pos h1,if_pos #[O]]
 ·rw [if_neg h1,if_pos #[O]];by_cases h2:j=f
  ·subst h2;rw [if_pos #[O],fC,zl2 hf]
  ·rw [if_neg #[O]];have e1:j - f=(j - (f+1))+1:=by lia
   have e2:qo b n (fun t=>c t i) (f+1) (j - (f+1))=hs b (n - f) (qo b n (fun t=>c t i) f) (j - f):=by rw [e1]; rfl
   split
   ·rw [zdr (n:=n - (f+1)) (j:=j - (f+1)) #[O],zcf (n:=n - (f+1)) (j:=j - (f+1)+1) #[O],e2]; simp
   ·rw [e2]
theorem zl5 {p b:Int} {n f idx:Nat} {c:Nat→Nat→Int} {j i:Nat} (hi:idx < n - 1 - f) (hj:j < n):rst p b n c f (idx+1) j i=if j=n - 2 - idx then (rst p b n c f idx (n - 2 - idx) i+b*rst p b n c f idx (n - 2 - idx+1) i) % p else rst p b n c f idx j i:=by
 by_cases h:j=n - 2 - idx
 ·rw [if_pos h,← h];unfold rst;rw [if_neg #[O],if_pos #[O],if_neg #[O],if_neg #[O],if_neg #[O],if_pos #[O],zdr #[O]];have e:j+1 - f=j - f+1:=by lia
  rw [e];exact ((Cg.emod p _).symm.add ((Cg.refl p b).mul (Cg.emod p _).symm)).mod_eq
 ·rw [if_neg h];unfold rst;split
  ·rfl
  ·by_cases h2:n≤idx+1+j
   ·rw [if_pos h2,if_pos #[O]]
   ·rw [if_neg h2,if_neg #[O]]
theorem zl6 {l:List Nat} {d:Nat} (h:l.Nodup) (hl:∀ x∈l,x < d):l.length≤d:=by
 have h1:=ziD (S:=au d) h;rw [jt.mpr (fun x hx=>by have:=hl x hx; simpa using this),aD] at h1;simpa using h1
theorem zjy {p:Int} (hp:p∈zr) {L N m:Nat} {vs:List (List Int)} {cl:List (Nat×List Int)} (E:Ech p L N m vs cl) (hm:m < N) {w0:List Int} (W0:Wh p L N m vs [] w0):∀ i,i≤cl.length→∃ w,Wh p L N m vs (cl.take i) w
 | 0,_=>⟨w0,by rw [gn]; exact W0⟩
 | i+1,hi=>by
  obtain⟨w,W⟩:=zjy hp E hm W0 i #[O];exact⟨_,zju hp E hm (ai #[O]) W⟩
theorem zl7 {p:Int} (hp:p∈zr) {L:Nat} {vs:List (List Int)} (hv:∀ v∈vs,v.length=L∧∀ c∈v,0≤c∧c < p) (hI:Indep p L vs):∀ m,m≤vs.length→∃ cl,Ech p L vs.length m vs cl
 | 0,_=>⟨[],Ech.start p L vs.length vs⟩
 | m+1,hm=>by
  have rp:=zy hp;obtain⟨cl,E⟩:=zl7 hp hv hI m #[O];have hvm:vs[m]? = some (vs[m]'#[O]):=ai #[O];obtain⟨h1,h2⟩:=hv _ (aI hvm);obtain⟨w,W⟩:=zjy hp E #[O] (zhN hp (N:=vs.length) #[O] hvm h1 h2) cl.length (ag _);rw [cY] at W;by_cases hz:∀ x,x < L→gl w x=0
  ·exfalso;obtain⟨_,d2,d3⟩:=zlS W #[O] hz;have:=hI _ d3 m #[O];rw [d2] at this;have:=this.eq #[O] #[O] (bP _) #[O];lia
  ·obtain⟨x,hx⟩:=Classical.not_forall.mp hz;obtain⟨xO,wH⟩:=Classical.not_imp.mp hx;exact⟨_,zhO hp E #[O] W xO wH⟩
theorem zl8 {p:Int} (hp:p∈zr) {L:Nat} {vs:List (List Int)} (hv:∀ v∈vs,v.length=L∧∀ c∈v,0≤c∧c < p) (hI:Indep p L vs):vs.length≤L:=by
 obtain⟨cl,E⟩:=zl7 hp hv hI vs.length (ag _);have hn:(cl.map (·.1)).Nodup:=by
  rw [cM,b7,cP];intro i j hi hj qp e;have h1:=E.up i j _ _ (ai hi) (ai hj) qp;have h2:=(E.one j _ (ai hj)).2.2.2.2.1;rw [e,h2] at h1;cases h1
 have:=zl6 hn fun x hx=>by
  obtain⟨a,ha,rfl⟩:=av.mp hx;obtain⟨j,hj⟩:=eC ha;exact (E.one j a hj).1
 rw [ab,E.ln] at this;exact this
abbrev Tm:=Nat×Nat
def cf (x:Int) (n u:Nat):Int:=ch n u*x ^ (n - u)
theorem zgK (x:Int) (n:Nat):cf x n 0=x ^ n:=by
 unfold cf;cases n <;> simp [ch]
theorem znu (x:Int) (n u:Nat):cf x (n+1) (u+1)=cf x n u+x*cf x n (u+1):=by
 unfold cf;by_cases h:u < n
 ·rw [show n+1 - (u+1)=n - u by lia,show n - u=(n - (u+1))+1 by lia,fB];show (ch n u+ch n (u+1))*_=_;grind
 ·have h1:ch n (u+1)=0:=zeq #[O];rw [show n+1 - (u+1)=n - u by lia];show (ch n u+ch n (u+1))*_=_;rw [h1];simp
structure Co where
 x:Int
 y:Int
 u:Nat
 v:Nat
def cv (t:Tm) (c:Co):Int:=cf c.x t.1 c.u*cf c.y t.2 c.v
def pco (q:Int×Int×Nat):List Co:=(au q.2.2).flatMap fun u=>(au (q.2.2 - u)).map fun v=>⟨q.1,q.2.1,u,v⟩
def cos (lZ:List (Int×Int×Nat)):List Co:=lZ.flatMap pco
def zaG (p:Int) (lZ:List (Int×Int×Nat)) (t:Tm):List Int:=(cos lZ).map fun c=>cv t c % p
def tz (k:Nat) (t:Tm):Nat:=t.1+(k - 1)*t.2
def tms (k s:Nat):List Tm:=(au (s / (k - 1)+1)).map fun j=>(s - (k - 1)*j,j)
def zO (k s:Nat):List Tm:=(au s).flatMap (tms k)
theorem zbH (k s:Nat):zO k (s+1)=zO k s++tms k s:=by
 unfold zO;rw [bU,df];simp
theorem zcL {k s:Nat} (hk:2≤k) {t:Tm}:t∈tms k s↔tz k t=s:=by
 unfold tms tz;have k1:0 < k - 1:=by lia
 constructor
 ·intro h;obtain⟨j,hj,rfl⟩:=av.mp h;have hj:=aJ.mp hj;have:(k - 1)*j≤s:=by
   have:=(cj k1).mp (show j≤s / (k - 1) by lia);rw [cV]; exact this
  show s - (k - 1)*j+(k - 1)*j=s;lia
 ·intro h;refine av.mpr ⟨t.2,aJ.mpr ?_,?_⟩
  ·have:t.2≤s / (k - 1):=(cj k1).mpr (by rw [cV]; lia);lia
  ·have:s - (k - 1)*t.2=t.1:=by lia
   rw [this]
theorem zaM {k s:Nat} (hk:2≤k) {t:Tm}:t∈zO k s↔tz k t < s:=by
 unfold zO;rw [bQ];constructor
 ·rintro⟨z,hz,h⟩;rw [(zcL hk).mp h];exact aJ.mp hz
 ·intro h;exact⟨tz k t,aJ.mpr h,(zcL hk).mpr rfl⟩
theorem zkz (k s:Nat):(tms k s).Nodup:=by
 unfold tms;rw [cM,b7];refine ed ?_ eI;intro a b h e;exact h (congrArg lO e)
theorem za2 {k:Nat} (hk:2≤k):∀ s,(zO k s).Nodup
 | 0=>by simp [zO]
 | s+1=>by
  rw [zbH,gA];refine⟨za2 hk s,zkz k s,fun a ha b hb e=>?_⟩;subst e;have h1:=(zaM hk).mp ha;have h2:=(zcL hk).mp hb;lia
theorem zcg {k:Nat} (hk:2≤k):∀ s,(zO k s).Pairwise fun a b=>tz k a≤tz k b
 | 0=>by simp [zO]
 | s+1=>by
  rw [zbH,jM];refine⟨zcg hk s,?_,fun a ha b hb=>?_⟩
  ·refine f' (R:=fun _ _=>True) ?_ (List.pairwise_of_forall fun _ _=>trivial);intro a b ha hb _;rw [(zcL hk).mp ha,(zcL hk).mp hb];exact ag _
  ·have h1:=(zaM hk).mp ha;have h2:=(zcL hk).mp hb;lia
theorem zfU (k:Nat):∀ s,s≤(zO k s).length
 | 0=>bz _
 | s+1=>by
  rw [zbH,aA];have:=zfU k s;have h:1≤(tms k s).length:=by unfold tms; rw [ab,aD]; exact Nat.le_add_left _ _
  lia
theorem zfV (k:Nat) {a:Nat}:∀ {b},a≤b→zO k a <+: zO k b
 | 0,h=>by
  obtain rfl:a=0:=by lia
  exact kZ _
 | b+1,h=>by
  by_cases e:a=b+1
  ·rw [e];exact kZ _
  ·exact (zfV k (show a≤b by lia)).trans (by rw [zbH]; exact List.prefix_append _ _)
def lsum (l:List Tm) (f:Tm→Int):Int:=(l.map f).sum
theorem zl9 (f:Tm→Int):lsum [] f=0:=rfl
theorem zbg (a:Tm) (l:List Tm) (f:Tm→Int):lsum (a :: l) f=f a+lsum l f:=by simp [lsum]
theorem zdZ (l m:List Tm) (f:Tm→Int):lsum (l++m) f=lsum l f+lsum m f:=by simp [lsum]
theorem zgL {p:Int} {f g:Tm→Int}:∀ {l:List Tm},(∀ t∈l,Cg p (f t) (g t))→Cg p (lsum l f) (lsum l g)
 | [],_=>Cg.refl p _
 | a :: l,h=>by
  rw [zbg,zbg];exact (h a aV).add (zgL fun t ht=>h t (aG _ ht))
theorem zma {l m:List Int} (h:l.Perm m):l.sum=m.sum:=by
 induction h with
 | nil=>rfl
 | cons a _ ih=>simp [ih]
 | swap a b l=>simp only [gI]; lia
 | trans _ _ h1 h2=>rw [h1,h2]
theorem zkA {l m:List Tm} {f:Tm→Int} (h:l.Perm m):lsum l f=lsum m f:=zma (h.map f)
theorem zdO {l m:List Tm} {f:Tm→Int} (hl:l.Nodup) (hm:m.Nodup) (h:∀ t,t∈l↔t∈m):lsum l f=lsum m f:=zkA ((List.perm_ext_iff_of_nodup hl hm).mpr h)
theorem zgM {f:Tm→Int} {g:Nat→Int}:∀ {l:List Tm} {n:Nat},n=l.length→(∀ i t,l[i]? = some t→g i=f t)→sm n g=lsum l f
 | [],_,rfl,_=>rfl
 | a :: l,_,rfl,h=>by
  rw [zbg,bm,zcK,h 0 a rfl,zgM rfl fun i t e=>h (i+1) t (by simpa using e)]
def gps (k s:Nat):List Tm:=(au (s / (k - 1)+1)).flatMap fun j=>(au (s - (k - 1)*j+1)).map fun i=>(i,j)
theorem znv {k s:Nat} (hk:2≤k) {t:Tm}:t∈gps k s↔tz k t≤s:=by
 unfold gps tz;have k1:0 < k - 1:=by lia
 rw [bQ];constructor
 ·rintro⟨j,hj,h⟩
  (obtain⟨i,hi,rfl⟩:=av.mp h)
  have hj:=aJ.mp hj;have hi:=aJ.mp hi;have:(k - 1)*j≤s:=by
   have:=(cj k1).mp (show j≤s / (k - 1) by lia);rw [cV]; exact this
  show i+(k - 1)*j≤s;lia
 ·intro h;refine⟨t.2,aJ.mpr ?_,av.mpr ⟨t.1,aJ.mpr #[O],rfl⟩⟩;have:t.2≤s / (k - 1):=(cj k1).mpr (by rw [cV]; lia);lia
theorem zkB (k s:Nat):(gps k s).Nodup:=by
 unfold gps;rw [cM,List.pairwise_flatMap];refine⟨fun j _=>?_,?_⟩
 ·rw [b7];refine ed ?_ eI;intro a b h e;exact h (congrArg Prod.fst e)
 ·refine ed ?_ eI;intro a b h x hx y hy e;obtain⟨i,_,rfl⟩:=av.mp hx;obtain⟨i',_,rfl⟩:=av.mp hy;exact h (congrArg lO e)
theorem znw {k s:Nat} (hk:2≤k) (f:Tm→Int):lsum (gps k s) f=lsum (zO k (s+1)) f :=
 zdO (zkB k s) (za2 hk _) fun t=>by rw [znv hk,zaM hk]; lia
def znx (p:Int) (L m:Nat) (vs:List (List Int)):Prop:=∀ u:Nat→Int,(∀ x,x < L→Cg p (sm m fun i=>u i*vx vs i x) 0)→∀ i,i < m→Cg p (u i) 0
theorem zny {p:Int} {L N m:Nat} {vs:List (List Int)} {cl:List (Nat×List Int)} (hm:m≤N) (E:Ech p L N m vs cl):znx p L m vs:=fun u hu i hi=>by
 have key:∀ y,sm N (fun i=>(if i < m then u i else 0)*vx vs i y)=sm m (fun i=>u i*vx vs i y):=fun y=>by
  rw [zdo hm (f:=fun i=>(if i < m then u i else 0)*vx vs i y) (fun i h1 _=>by rw [if_neg #[O]]; simp)];exact zW fun i hi=>by rw [if_pos hi]
 have h:=E.ii (fun y=>if y < L then sm m (fun i=>u i*vx vs i y) else if y - L < m then u (y - L) else 0) (fun x hx=>?_) (fun i h1 h2=>?_) (fun a ha=>?_) i #[O]
 ·rw [if_neg #[O],dL,if_pos hi] at h;exact h
 ·dsimp only;rw [if_pos hx,← key];refine Cg.of_eq (zW fun i _=>?_);have e:(if L+i < L then sm m (fun i_1=>u i_1*vx vs i_1 (L+i)) else if L+i - L < m then u (L+i - L) else 0)=if i < m then u i else 0:=by rw [if_neg #[O],dL]
  rw [e]
 ·rw [if_neg #[O],dL,if_neg #[O]];exact Cg.refl p 0
 ·obtain⟨j,hj⟩:=eC ha;have:=(E.one j a hj).1;rw [if_pos this];exact hu _ this
theorem zo9 {p:Int} {lZ:List (Int×Int×Nat)} {t:Tm} {x:Nat} {c:Co} (h:(cos lZ)[x]? = some c):gl (zaG p lZ t) x=cv t c % p:=zaF (by unfold zaG; rw [af,h]; rfl)
theorem zjz (p:Int) (lZ:List (Int×Int×Nat)) (t:Tm):(zaG p lZ t).length=(cos lZ).length:=by unfold zaG; rw [ab]
theorem znA {p:Int} (p0:0 < p) {lZ:List (Int×Int×Nat)} {t:Tm}:∀ c∈zaG p lZ t,0≤c∧c < p:=fun c hc=>by
 unfold zaG at hc;obtain⟨d,_,rfl⟩:=av.mp hc;exact⟨aU _ #[O],aO _ p0⟩
theorem zmb {p:Int} {lZ:List (Int×Int×Nat)} {ts:List Tm} {i x:Nat} {t:Tm} {c:Co} (ht:ts[i]? = some t) (h:(cos lZ)[x]? = some c):vx (ts.map (zaG p lZ)) i x=cv t c % p:=by
 unfold vx;rw [aK,af,ht];exact zo9 h
structure Lst (p:Int) (k:Nat) (lZ:List (Int×Int×Nat)) (size:Nat) (g:Tm→Int):Prop where
 rg:∀ t,0≤g t∧g t < p
 top:∃ t,tz k t=size∧g t≠0
 out:∀ t,size < tz k t→g t=0
 ok:∀ c∈cos lZ,Cg p (lsum (zO k (size+1)) fun t=>g t*cv t c) 0
 least:∀ h:Tm→Int,(∀ c∈cos lZ,Cg p (lsum (zO k size) fun t=>h t*cv t c) 0)→∀ t,tz k t < size→Cg p (h t) 0
 few:(zO k size).length≤(cos lZ).length
def gof (ts:List Tm) (c:List Int) (t:Tm):Int:=(jl t (ts.zip c)).getD 0
theorem ziF:∀ {ts:List Tm} {c:List Int} {i:Nat} {t:Tm},ts.Nodup→ts[i]? = some t→gof ts c t=gl c i
 | [],_,_,_,_,h=>(by simp at h)
 | a :: ts,[],i,t,_,_=>by
  show (jl t ([]:List (Tm×Int))).getD 0=_;rw [zc5 #[M]];rfl
 | a :: ts,b :: c,0,t,_,h=>by
  cases h;unfold gof;rw [dW,bj,beq_self_eq_true];rfl
 | a :: ts,b :: c,i+1,t,hn,h=>by
  (have xW:=dY.mp hn)
  have h':ts[i]? = some t:=by simpa using h
  have ne:t≠a:=fun e=>xW.1 (by rw [← e]; exact aI h')
  have:=ziF (c:=c) xW.2 h';unfold gof at this ⊢;rw [dW,bj,show (t == a)=false by simpa using ne,this];unfold gl;simp
theorem zjA:∀ {ts:List Tm} {c:List Int} {t:Tm},gof ts c t≠0→∃ i,i < c.length∧ts[i]? = some t
 | [],_,_,h=>absurd rfl h
 | a :: ts,[],t,h=>absurd rfl h
 | a :: ts,b :: c,t,h=>by
  by_cases e:t=a
  ·exact⟨0,#[M],by rw [e]; rfl⟩
  ·unfold gof at h;rw [dW,bj,show (t == a)=false by simpa using e] at h;obtain⟨i,h1,h2⟩:=zjA (ts:=ts) (c:=c) (t:=t) h;exact⟨i+1,by simpa using h1,by simpa using h2⟩
theorem znB {p:Int} (p0:0 < p) {ts:List Tm} {c:List Int} (hc:∀ z∈c,0≤z∧z < p) (t:Tm):0≤gof ts c t∧gof ts c t < p:=by
 unfold gof;cases h:jl t (ts.zip c) with
 | none=>exact⟨bP _,p0⟩
 | some z =>
  have:(t,z)∈ts.zip c:=by
   clear hc;induction ts generalizing c with
   | nil=>simp at h
   | cons a ts ih =>
    cases c with
    | nil=>simp at h
    | cons b c =>
     rw [dW,bj] at h;cases e:(t == a) with
     | true =>
      rw [e] at h;cases h;rw [show t=a by simpa using e];exact aV
     | false =>
      rw [e] at h;exact aG _ (ih h)
  exact hc z (gX this).2
theorem zbL {f:Tm→Int} {q:Tm→Bool}:∀ {l:List Tm},(∀ t∈l,q t=false→f t=0)→lsum l f=lsum (l.filter q) f
 | [],_=>rfl
 | a :: l,h=>by
  have ih:=zbL (l:=l) (f:=f) (q:=q) fun t ht=>h t (aG _ ht)
  cases e:q a with
  | true=>rw [cm e,zbg,zbg,ih]
  | false=>rw [cn (by rw [e]; simp),zbg,h a aV e,ih]; lia
theorem zdP {k:Nat} {l:List Tm} (h:l.Pairwise fun a b=>tz k a≤tz k b) {i j:Nat} {a b:Tm} (ha:l[i]? = some a) (hb:l[j]? = some b) (qp:i≤j):tz k a≤tz k b:=by
 by_cases e:i=j
 ·subst e;rw [ha] at hb;cases hb;exact ag _
 ·obtain⟨h1,e1⟩:=aw.mp ha;obtain⟨h2,e2⟩:=aw.mp hb;have:=cP.mp h i j h1 h2 #[O];rw [e1,e2] at this;exact this
theorem zpa {p:Int} (p0:0 < p) {k:Nat} (hk:2≤k) {lZ:List (Int×Int×Nat)} {S:Nat} {ts:List Tm} (tR:ts=(zO k S).take ((cos lZ).length+1)) {c:List Int} {m:Nat} (hc:IsP p (m+1) c) {top:Tm} (oI:ts[m]? = some top) (h1:gl c m=1)
  (hD:Dep p (cos lZ).length (ts.map (zaG p lZ)) c) (hI:znx p (cos lZ).length m (ts.map (zaG p lZ))):Lst p k lZ (tz k top) (gof ts c):=by
 have qR:ts <+: zO k S:=by rw [tR]; exact List.take_prefix _ _
 have pb:ts.Nodup:=ga qR.sublist (za2 hk S);have Cv:ts.Pairwise fun a b=>tz k a≤tz k b:=fw qR.sublist (zcg hk S)
 have hmt:m < ts.length:=(aw.mp oI).1;have hml:m < (cos lZ).length+1:=by
  rw [tR,aL] at hmt;lia
 have sE:∀ t,gof ts c t≠0→∃ i,i≤m∧ts[i]? = some t:=fun t ht=>by
  obtain⟨i,h1,h2⟩:=zjA ht;exact⟨i,by rw [hc.1] at h1; lia,h2⟩
 have Eg:tz k top < S:=(zaM hk).mp (qR.sublist.subset (aI oI));have yD:∀ F:Tm→Int,lsum (zO k (tz k top+1)) (fun t=>gof ts c t*F t)=lsum ts (fun t=>gof ts c t*F t):=fun F=>by
  rw [zbL (l:=zO k (tz k top+1)) (q:=fun t=>decide (gof ts c t≠0)) fun t _ e=>by
    rw [show gof ts c t=0 by simpa using e]; simp,
   zbL (l:=ts) (q:=fun t=>decide (gof ts c t≠0)) fun t _ e=>by
    rw [show gof ts c t=0 by simpa using e]; simp]
  refine zdO (ga io (za2 hk _)) (ga io pb) fun t=>?_
  rw [bv,bv,zaM hk];constructor
  ·rintro⟨_,h⟩;obtain⟨i,_,hi⟩:=sE t (by simpa using h);exact⟨aI hi,h⟩
  ·rintro⟨_,h⟩;obtain⟨i,Bg,hi⟩:=sE t (by simpa using h);exact⟨iS (zdP Cv hi oI Bg),h⟩
 have Bn:zO k (tz k top) <+: zO k S:=zfV k (fX Eg);have hM:(zO k (tz k top)).length≤m:=by
  refine iV fun mj=>?_
  have hS:(zO k S)[m]? = some top:=by
   obtain⟨r,hr⟩:=qR;rw [← hr,be hmt];exact oI
  obtain⟨r,hr⟩:=Bn;rw [← hr,be mj] at hS;have:=(zaM hk).mp (aI hS);lia
 have Eh:∀ i t,(zO k (tz k top))[i]? = some t→ts[i]? = some t:=fun i t e=>by
  have hi:=(aw.mp e).1;obtain⟨r,hr⟩:=Bn;have hS:(zO k S)[i]? = some t:=by rw [← hr,be hi]; exact e
  obtain⟨r2,Bo⟩:=qR;rw [← Bo,be #[O]] at hS;exact hS
 refine⟨znB p0 hc.2,⟨top,rfl,by rw [ziF pb oI,h1]; decide⟩,fun t ht=>?_,fun d hd=>?_,fun h hh t ht=>?_,#[O]⟩
 ·refine bH fun mB=>?_
  obtain⟨i,Bg,hi⟩:=sE t mB;have:=zdP Cv hi oI Bg;lia
 ·rw [yD];obtain⟨x,hx⟩:=ci.mp hd;have uL:=(aw.mp hx).1;have:=hD x uL;rw [ab,zgM (l:=ts) (f:=fun t=>gof ts c t*(cv t d % p)) rfl fun i t e=>by rw [ziF pb e,zmb e hx]] at this;exact (zgL fun t _=>(Cg.refl p _).mul (Cg.emod p _).symm).trans this
 ·have hu:=hI (fun i=>if i < (zO k (tz k top)).length then h (ts.getD i (0,0)) else 0) (fun x hx=>?_)
  ·obtain⟨i,hi⟩:=ci.mp ((zaM hk).mpr ht);have hil:=(aw.mp hi).1;have:=hu i #[O];rw [if_pos hil,aK,Eh i t hi] at this;exact this
  ·have wH:(cos lZ)[x]? = some ((cos lZ)[x]'hx):=ai hx;rw [zdo hM fun i h2 _=>by rw [if_neg #[O]]; simp];rw [zgM (l:=zO k (tz k top)) (f:=fun t=>h t*(cv t ((cos lZ)[x]'hx) % p)) rfl fun i t e=>by
    rw [if_pos (aw.mp e).1,zmb (Eh i t e) wH,aK,Eh i t e];rfl]
   exact (zgL fun t _=>(Cg.refl p _).mul (Cg.emod p _)).trans (hh _ (dN hx))
def tri (w:Nat):Nat:=w*(w+1) / 2
theorem zmc (w:Nat):tri (w+1)=tri w+(w+1):=by
 unfold tri;rw [show (w+1)*(w+1+1)=w*(w+1)+2*(w+1) by grind,Nat.add_mul_div_left _ _ #[D]]
theorem zhR (n:Nat):∀ m,m≤n→((au m).map fun u=>n - u).sum+tri (n - m)=tri n
 | 0,_=>by simp
 | m+1,h=>by
  have ih:=zhR n m #[O];rw [bU,ap,List.sum_append];have:tri (n - m)=tri (n - (m+1))+(n - m):=by
   rw [show n - m=(n - (m+1))+1 by lia,zmc]
  (simp only [bO,fo,gI,List.sum_nil])
  lia
theorem znC (q:Int×Int×Nat):(pco q).length=tri q.2.2:=by
 unfold pco;rw [List.length_flatMap];have:=zhR q.2.2 q.2.2 (ag _);have e:(au q.2.2).map (fun u=>((au (q.2.2 - u)).map fun v=>(⟨q.1,q.2.1,u,v⟩:Co)).length)=(au q.2.2).map fun u=>q.2.2 - u:=de fun u _=>by rw [ab,aD]
 rw [e];have t0:tri (q.2.2 - q.2.2)=0:=by rw [fC]; rfl
 lia
def zcu (lZ:List (Int×Int×Nat)):Nat:=(lZ.map fun q=>tri q.2.2).sum
theorem zgN:∀ lZ,(cos lZ).length=zcu lZ
 | []=>rfl
 | q :: lZ=>by
  have ih:=zgN lZ;unfold cos zcu at ih ⊢;rw [gB,aA,znC,ih];simp
theorem znD {lZ:List (Int×Int×Nat)} {x y:Int} {w u v:Nat} (h:(x,y,w)∈lZ) (hu:u < w) (hv:v < w - u):(⟨x,y,u,v⟩:Co)∈cos lZ:=by
 unfold cos;refine bQ.mpr ⟨_,h,?_⟩;unfold pco;exact bQ.mpr ⟨u,aJ.mpr hu,av.mpr ⟨v,aJ.mpr hv,rfl⟩⟩
def zah (k s:Nat) (g:Tm→Int):List (List Int):=(au (s / (k - 1)+1)).map fun j=>(au (s - (k - 1)*j+1)).map fun i=>g (i,j)
theorem zbr (k s:Nat) (g:Tm→Int):(zah k s g).length=s / (k - 1)+1:=by unfold zah; rw [ab,aD]
theorem zeY {k s j:Nat} {g:Tm→Int} (h:j < s / (k - 1)+1):(zah k s g)[j]? = some ((au (s - (k - 1)*j+1)).map fun i=>g (i,j)):=by
 unfold zah;rw [af,aY h];rfl
theorem ziG {g:Tm→Int} {n j i:Nat} (h:i < n):gl ((au n).map fun i=>g (i,j)) i=g (i,j):=zaF (by rw [af,aY h]; rfl)
theorem zfW {f:Tm→Int} {n:Nat} {w:Nat→Nat}:lsum ((au n).flatMap fun j=>(au (w j)).map fun i=>(i,j)) f=sm n fun j=>sm (w j) fun i=>f (i,j):=by
 induction n with
 | zero=>rfl
 | succ n ih =>
  rw [bU,df,zdZ,ih];show _=sm n (fun j=>sm (w j) fun i=>f (i,j))+sm (w n) (fun i=>f (i,n));congr 1;have:∀ m,lsum ((au m).map fun i=>(i,n)) f=sm m fun i=>f (i,n):=by
   intro m;induction m with
   | zero=>rfl
   | succ m ih2 =>
    rw [bU,ap,zdZ,ih2];show _+lsum [(m,n)] f=sm m (fun i=>f (i,n))+f (m,n);rw [zbg,zl9];lia
  simp only [gB,i4,bX];exact this _
theorem zpb {k s:Nat} {f:Tm→Int}:lsum (gps k s) f=sm (s / (k - 1)+1) fun j=>sm (s - (k - 1)*j+1) fun i=>f (i,j):=zfW
section
variable {K:ah}
theorem LsA.off {H:Hp} {l:Addr} {ls:List Addr} {vv:List (List Int)} (h:LsA H ls vv) (hl:H l=some (.lst (ls.map V.ref))):∀ (i:Nat) (b:Addr),ls[i]? = some b→b≠l:=by
 rintro i b hb rfl;obtain⟨v,_,hv⟩:=Paired.get h hb;rw [hl] at hv;cases ls with
 | nil=>simp at hb
 | cons x r =>
  cases v with
  | nil=>simp at hv
  | cons y z=>simp at hv
theorem LsA.setAt {H:Hp} {l D:Addr} {ls:List Addr} {vv:List (List Int)} {v:List Int} {j:Nat} (h:LsA H ls vv) (hl:H l=some (.lst (ls.map V.ref))) (hD:H D=some (.lst (v.map V.int))) (hn:D≠l) {o:HO}:LsA (lW H l o) (ls.set j D) (vv.set j v):=by
 have off:=h.off hl;clear hl;induction h generalizing j with
 | nil=>cases j <;> exact .nil
 | @cons b u bs us h1 h2 ih =>
  cases j with
  | zero =>
   refine .cons (by rw [zl hn]; exact hD) ?_;have ih0:LsA (lW H l o) bs us:=by
    have:=ih (j:=bs.length) fun i b' hb=>off (i+1) b' (by simpa using hb)
    rw [i5 (ag _),i5 (by rw [aQ h2]; exact ag _)] at this;exact this
   exact ih0
  | succ j=>exact .cons (by rw [zl (off 0 b #[M])]; exact h1) (ih fun i b' hb=>off (i+1) b' (by simpa using hb))
theorem zpc {H H':Hp} {ls:List Addr} {vv:List (List Int)} {D:Addr} (hD:D∉ls) (k:∀ b o,b≠D→H b=some o→H' b=some o) (h:LsA H ls vv):LsA H' ls vv:=by
 induction h with
 | nil=>exact .nil
 | cons h1 _ ih=>exact .cons (k _ _ (fun e=>hD (by rw [← e]; exact aV)) h1) (ih fun z=>hD (aG _ z))
theorem zd0 {α β:Type} {R:α→β→Prop}:∀ {as:List α} {bs:List β} {x:α} {y:β},Paired R (as++[x]) (bs++[y])→Paired R as bs∧R x y
 | [],[],_,_,h=>by cases h with | cons h1 _=>exact⟨.nil,h1⟩
 | [],b :: bs,_,_,h=>by have:=aQ h; simp at this
 | a :: as,[],_,_,h=>by have:=aQ h; simp at this
 | a :: as,b :: bs,_,_,h=>by
  cases h with
  | cons h1 h2 =>
   obtain⟨p1,p2⟩:=zd0 h2;exact⟨.cons h1 p1,p2⟩
def trm (j:Nat) (r:List Int) (m:Nat):List (Int×Int):=((au m).filter fun i=>gl r i≠0).map fun i:Nat=>((i:Int),(j:Int))
def zae (rows:List (List Int)) (m:Nat):List (Int×Int):=(au m).flatMap fun j=>trm j (rows.getD j []) (rows.getD j []).length
theorem zds (j:Nat) (r:List Int) (m:Nat):trm j r (m+1)=if gl r m≠0 then trm j r m++[((m:Int),(j:Int))] else trm j r m:=by
 unfold trm;rw [bU,cX,ap];by_cases h:gl r m=0 <;> simp [h]
theorem zcM (rows:List (List Int)) (m:Nat):zae rows (m+1)=zae rows m++trm m (rows.getD m []) (rows.getD m []).length:=by
 unfold zae;rw [bU,df];simp
theorem zer (j:Nat) (r:List Int) (m:Nat):(trm j r m).length≤m:=by
 unfold trm;rw [ab];exact aW (cT _ _) #[M]
def szs (k:Int) (ts:List (Int×Int)):List Int:=ts.map fun q=>q.1+(k - 1)*q.2
theorem znE (k:Int) (ts:List (Int×Int)):(szs k ts).length=ts.length:=by simp [szs]
def RwA (H:Hp):List Addr→List (List Int)→Prop:=Paired fun b v=>H b=some (.lst (v.map V.int))∨H b=some (.tup (v.map V.int))
def wd (rows:List (List Int)):Nat:=rows.foldr (fun r m=>max r.length m) 0
theorem zfX {rows:List (List Int)} {r:List Int} (h:r∈rows):r.length≤wd rows:=by
 induction rows with
 | nil=>cases h
 | cons a l ih =>
  show r.length≤max a.length (wd l);rcases (aH.mp h) with rfl | h
  ·exact Nat.le_max_left _ _
  ·exact aW (ih h) (Nat.le_max_right _ _)
theorem zdQ:∀ {rows:List (List Int)},rows≠[]→∃ r∈rows,r.length=wd rows
 | [],h=>absurd rfl h
 | a :: l,_=>by
  by_cases e:l = []
  ·subst e; exact⟨a,aV,by show _=max a.length 0; lia⟩
  ·obtain⟨r,hr,er⟩:=zdQ e;by_cases h:wd l≤a.length
   ·exact⟨a,aV,by show _=max a.length (wd l); lia⟩
   ·exact⟨r,aG _ hr,by show _=max a.length (wd l); lia⟩
def zbh (rows:List (List Int)):List Int:=rows.map fun r=>(r.length:Int)
theorem zeZ (rows:List (List Int)):(zbh rows).length=rows.length:=by simp [zbh]
theorem zp6 {rows:List (List Int)} {M:Int} (h0:zbh rows = []→M=0) (h1:zbh rows≠[]→M∈zbh rows∧∀ a∈zbh rows,if true=true then a≤M else M≤a):M=(wd rows:Int):=by
 by_cases e:rows = []
 ·subst e; exact h0 rfl
 ·obtain⟨m1,m2⟩:=h1 (by simpa [zbh] using e);obtain⟨r,hr,rfl⟩:=av.mp m1;obtain⟨r',nC,e'⟩:=zdQ e;have b1:=zfX hr;have b2:=m2 _ (av.mpr ⟨r',nC,rfl⟩);rw [if_pos rfl] at b2;lia
theorem znF {xs:List V} {v:V}:atI (xs++[v]) (-1)=some v:=by
 unfold atI ixN;rw [if_neg #[D],if_pos (by rw [aA]; show -((xs.length+1:Nat):Int)≤-1; lia)];show (xs++[v])[(-1+((xs++[v]).length:Int)).toNat]? = some v;rw [aA,show (-1+((xs.length + [v].length:Nat):Int)).toNat=xs.length by show (-1+((xs.length+1:Nat):Int)).toNat=_; lia,bK (ag _),fC];rfl
end
theorem znG {p x:Int} {q:List Int} {n:Nat} (h:q.length≤n):Cg p (zS p x q) (vl n (gl q) x):=by
 rw [zjx];exact zeV h
theorem zfY (w:Nat):∀ n,((au n).flatMap fun j=>(au w).map fun i=>((i,j):Tm)).Nodup
 | 0=>by simp
 | n+1=>by
  rw [bU,df,gA];refine⟨zfY w n,?_,fun a ha b hb e=>?_⟩
  ·simp only [gB,i4,bX];exact List.Pairwise.map _ (fun a b yY e=>yY (congrArg Prod.fst e)) eI
  ·simp only [gB,i4,bX] at hb;obtain⟨j,hj,ha⟩:=bQ.mp ha;obtain⟨i,_,rfl⟩:=av.mp ha;obtain⟨i',_,rfl⟩:=av.mp hb;have:=aJ.mp hj;have:=congrArg lO e;simp only at this;lia
theorem zhS {k s:Nat} (hk:2≤k) {f:Tm→Int} (hf:∀ t,s < tz k t→f t=0):lsum (zO k (s+1)) f=sm (s+1) fun j=>sm (s+1) fun i=>f (i,j):=by
 rw [← zfW (n:=s+1) (w:=fun _=>s+1)];have nb:=zfY (s+1) (s+1);rw [zbL (q:=fun t=>decide (tz k t≤s)) (l:=(au (s+1)).flatMap fun j=>(au (s+1)).map fun i=>((i,j):Tm)) fun t _ ht=>hf t (by simpa using ht)];refine zdO (za2 hk _) (nb.filter _) fun t=>?_
 rw [zaM hk,bv,decide_eq_true_iff];constructor
 ·intro h;have h1:t.1≤tz k t:=gO _ _;have h2:t.2≤tz k t:=by
   have:1*t.2≤(k - 1)*t.2:=fL _ #[O];unfold tz;lia
  refine⟨bQ.mpr ⟨t.2,aJ.mpr #[O],av.mpr ⟨t.1,aJ.mpr #[O],rfl⟩⟩,#[O]⟩
 ·rintro⟨_,h⟩;lia
abbrev Ps:=Nat→Int
structure Add (B:Ps→Ps):Prop where
 a:∀ u v,B (fun i=>u i+v i)=fun i=>B u i+B v i
def shO (B:Ps→Ps):Nat→(Nat→Ps)→Nat→Ps
 | 0,_,_=>fun _=>0
 | n+1,F,0=>fun i=>F 0 i+B (shO B n (fun t=>F (t+1)) 0) i
 | n+1,F,j+1=>fun i=>shO B n (fun t=>F (t+1)) j i+B (shO B n (fun t=>F (t+1)) (j+1)) i
theorem Add.z {B:Ps→Ps} (h:Add B):B (fun _=>0)=fun _=>0:=by
 have:=h.a (fun _=>0) (fun _=>0);funext i;have e:=congrFun this i;have e2:(fun _:Nat=>(0:Int)+0)=fun _=>0:=by funext i; rfl
 rw [e2] at e;lia
theorem zdt {B:Ps→Ps} (h:Add B):∀ {n:Nat} {F:Nat→Ps} {j:Nat},n≤j→shO B n F j=fun _=>0
 | 0,_,_,_=>by simp [shO]
 | n+1,F,0,hj=>by lia
 | n+1,F,j+1,hj=>by
  rw [shO,zdt h #[O],zdt h #[O],h.z];funext i;simp
theorem zgO {B:Ps→Ps} (h:Add B):∀ {n:Nat} {F G:Nat→Ps} {j:Nat},shO B n (fun t i=>F t i+G t i) j=fun i=>shO B n F j i+shO B n G j i
 | 0,_,_,_=>by simp [shO]
 | n+1,F,G,0=>by
  have e:=zgO h (n:=n) (F:=fun t=>F (t+1)) (G:=fun t=>G (t+1)) (j:=0);simp only [shO];rw [e,h.a];funext i;dsimp only;lia
 | n+1,F,G,j+1=>by
  have e:=fun j=>zgO h (n:=n) (F:=fun t=>F (t+1)) (G:=fun t=>G (t+1)) (j:=j)
  simp only [shO];rw [e,e,h.a];funext i;dsimp only;lia
theorem zdu {B C:Ps→Ps} (hC:Add C) (hc:∀ l,C (B l)=B (C l)):∀ {n:Nat} {F:Nat→Ps} {j:Nat},shO B n (fun t=>C (F t)) j=C (shO B n F j)
 | 0,_,_=>by simp [shO,hC.z]
 | n+1,F,0=>by
  have e:=zdu hC hc (n:=n) (F:=fun t=>F (t+1)) (j:=0);simp only [shO];rw [e,← hc,← hC.a]
 | n+1,F,j+1=>by
  have e:=fun j=>zdu hC hc (n:=n) (F:=fun t=>F (t+1)) (j:=j)
  simp only [shO];rw [e,e,← hc,← hC.a]
theorem zcN {B:Ps→Ps} (h:Add B):∀ {n:Nat} {F:Nat→Ps} {j:Nat},F n=(fun _=>0)→shO B (n+1) F j=shO B n F j
 | 0,F,0,e=>by simp [shO,e,h.z]
 | 0,F,j+1,e=>by simp [shO,h.z]
 | n+1,F,0,e=>by
  rw [shO,zcN h (n:=n) (F:=fun t=>F (t+1)) e]; simp only [shO]
 | n+1,F,j+1,e=>by
  have g:=fun i=>zcN h (n:=n) (F:=fun t=>F (t+1)) (j:=i) e
  rw [shO,g j,g (j+1)]; simp only [shO]
theorem zmd {B:Ps→Ps} {n:Nat} {F G:Nat→Ps} {j:Nat} (h:∀ t,F t=G t):shO B n F j=shO B n G j:=by
 rw [funext h]
theorem zes {B B':Ps→Ps} (h:Add B) (h':Add B') (hc:∀ l,B (B' l)=B' (B l)):∀ {n:Nat} {F:Nat→Ps} {j:Nat},shO B' n (shO B n F) j=shO (fun l i=>B l i+B' l i) n F j
 | 0,_,_=>by simp [shO]
 | n+1,F,j=>by
  have hz:shO B n (fun t=>F (t+1)) n=fun _=>0:=zdt h (ag _)
  have ih:=fun i=>zes h h' hc (n:=n) (F:=fun t=>F (t+1)) (j:=i)
  have e:shO B' (n+1) (shO B (n+1) F) j=shO B' (n+1) (fun t i=>(if t=0 then F 0 else shO B n (fun t=>F (t+1)) (t - 1)) i+B (shO B n (fun t=>F (t+1)) t) i) j:=by
   refine zmd fun t=>?_
   cases t <;> simp [shO]
  rw [e,zgO h',zdu h hc (F:=shO B n (fun t=>F (t+1))),zcN h' hz,ih];have e2:∀ i,shO B' n (fun t=>if t+1=0 then F 0 else shO B n (fun t=>F (t+1)) (t+1 - 1)) i=shO (fun l i=>B l i+B' l i) n (fun t=>F (t+1)) i:=fun i=>by
   rw [← ih]; exact zmd fun t=>by simp
  cases j with
  | zero =>
   simp only [shO,if_true];rw [e2];funext i;lia
  | succ j =>
   simp only [shO];rw [e2,e2];funext i;lia
def Xl (l:Ps):Ps:=fun i=>if i=0 then 0 else l (i - 1)
def mq (a:Int):Nat→Ps→Ps→Ps
 | 0,_,_=>fun _=>0
 | n+1,b,l=>fun i=>b 0*l i+(Xl (mq a n (fun t=>b (t+1)) l) i+a*mq a n (fun t=>b (t+1)) l i)
theorem zgP (u v:Ps):Xl (fun i=>u i+v i)=fun i=>Xl u i+Xl v i:=by
 funext i;unfold Xl;split
 ·rfl
 ·rfl
theorem ziH (c:Int) (u:Ps):Xl (fun i=>c*u i)=fun i=>c*Xl u i:=by
 funext i;unfold Xl;split
 ·lia
 ·rfl
theorem zdR (a:Int):∀ (n:Nat) (b:Ps),Add (mq a n b)
 | 0,_=>⟨fun _ _=>by funext i; simp [mq]⟩
 | n+1,b=>⟨fun u v=>by
  have ih:=(zdR a n (fun t=>b (t+1))).a u v;funext i;simp only [mq];rw [ih,zgP];grind⟩
theorem zgQ (a c:Int):∀ (n:Nat) (b l:Ps),mq a n b (fun i=>c*l i)=fun i=>c*mq a n b l i
 | 0,_,_=>by funext i; simp [mq]
 | n+1,b,l=>by
  have ih:=zgQ a c n (fun t=>b (t+1)) l;funext i;simp only [mq];rw [ih,ziH];grind
def Dg (l:Ps) (w:Nat):Prop:=∀ i,w≤i→l i=0
theorem Dg.le {l:Ps} {w w':Nat} (h:Dg l w) (hw:w≤w'):Dg l w':=fun i hi=>h i #[O]
theorem ziI:∀ {n:Nat} {b l:Ps} {w:Nat},Dg l w→Dg (mq 0 n b l) (w+(n - 1))
 | 0,_,_,_,_=>fun i _=>by simp [mq]
 | n+1,b,l,w,h=>fun i hi=>by
  have ih:=ziI (n:=n) (b:=fun t=>b (t+1)) h;simp only [mq,cc,gb];rw [h i #[O],eJ,cZ];unfold Xl;split
  ·rfl
  ·cases n with
   | zero=>simp [mq]
   | succ n=>exact ih _ #[O]
theorem zme {a:Int}:∀ {w:Nat} {l:Ps},sh a (w+1) (Xl l)=fun i=>Xl (sh a w l) i+a*sh a w l i
 | w,l=>by
  funext i;have e:(fun t=>Xl l (t+1))=l:=by funext t; simp [Xl]
  cases i with
  | zero=>simp only [sh,e]; simp [Xl]
  | succ i=>simp only [sh,e]; simp [Xl]
theorem zgR {a c:Int} {w:Nat} {l:Ps}:sh a w (fun i=>c*l i)=fun i=>c*sh a w l i:=funext fun _=>zce
theorem zdv {a:Int} {w:Nat} {u v:Ps}:sh a w (fun i=>u i+v i)=fun i=>sh a w u i+sh a w v i:=funext fun _=>zeX
theorem zcO {a:Int} {w w':Nat} {l:Ps} (h:Dg l w) (hw:w≤w'):sh a w' l=sh a w l:=funext fun _=>znr hw fun t h1 _=>h t h1
theorem zoh {a:Int}:∀ {n:Nat} {b l:Ps} {w W:Nat},Dg l w→w+n≤W→sh a W (mq 0 n b l)=mq a n b (sh a W l)
 | 0,_,_,_,_,_,_=>by
  funext i;simp only [mq];rw [zb1];exact zbC fun t _=>by simp
 | n+1,b,l,w,W,h,hW=>by
  have ih:=zoh (a:=a) (n:=n) (b:=fun t=>b (t+1)) (w:=w) (W:=W) h #[O];have hd:Dg (mq 0 n (fun t=>b (t+1)) l) (W - 1):=(ziI h).le #[O];have e1:sh a W (Xl (mq 0 n (fun t=>b (t+1)) l))=fun i=>Xl (sh a W (mq 0 n (fun t=>b (t+1)) l)) i+a*sh a W (mq 0 n (fun t=>b (t+1)) l) i:=by
   have:=zme (a:=a) (w:=W - 1) (l:=mq 0 n (fun t=>b (t+1)) l);rw [show W - 1+1=W by lia] at this;rw [this,zcO hd (show W - 1≤W by lia)]
  have e2:mq 0 (n+1) b l=fun i=>b 0*l i+Xl (mq 0 n (fun t=>b (t+1)) l) i:=by
   funext i;simp only [mq,cc,gb]
  rw [e2,zdv,zgR,e1,ih];rfl
def Od (p:Int) (l:Ps) (r:Nat):Prop:=∀ i,i < r→Cg p (l i) 0
theorem Od.le {p:Int} {l:Ps} {r r':Nat} (h:Od p l r) (hr:r'≤r):Od p l r':=fun i hi=>h i #[O]
theorem Od.add {p:Int} {u v:Ps} {r:Nat} (h:Od p u r) (h':Od p v r):Od p (fun i=>u i+v i) r:=fun i hi=>((h i hi).add (h' i hi)).trans (Cg.of_eq #[M])
theorem Od.mul {p:Int} {u:Ps} {r:Nat} (c:Int) (h:Od p u r):Od p (fun i=>c*u i) r:=fun i hi=>((Cg.refl p c).mul (h i hi)).trans (Cg.of_eq #[M])
theorem Od.Xl {p:Int} {u:Ps} {r:Nat} (h:Od p u r):Od p (Xl u) (r+1):=fun i hi=>by
 unfold My.Xl;split
 ·exact Cg.refl _ _
 ·exact h _ #[O]
theorem Od.mq {p a:Int}:∀ {n:Nat} {b l:Ps} {r:Nat},Od p l r→Od p (mq a n b l) r
 | 0,_,_,_,_=>fun i _=>by simp only [My.mq]; exact Cg.refl _ _
 | n+1,b,l,r,h=>by
  have ih:=Od.mq (a:=a) (n:=n) (b:=fun t=>b (t+1)) h;exact (h.mul (b 0)).add ((ih.Xl.le (fP _)).add (ih.mul a))
theorem Od.less {p a:Int}:∀ {n:Nat} {b l:Ps} {r:Nat},Od p l r→Od p (fun i=>My.mq a n b l i + -(vl n b a)*l i) (r+1)
 | 0,b,l,r,_=>fun i _=>by simp only [My.mq,vl]; exact Cg.of_eq #[M]
 | n+1,b,l,r,h=>by
  have ih:=Od.less (a:=a) (n:=n) (b:=fun t=>b (t+1)) h;have e:(fun i=>My.mq a (n+1) b l i + -(vl (n+1) b a)*l i)=fun i=>My.Xl (My.mq a n (fun t=>b (t+1)) l) i+a*(My.mq a n (fun t=>b (t+1)) l i + -(vl n (fun t=>b (t+1)) a)*l i):=by
   funext i;simp only [My.mq,vl];grind
  rw [e];exact (Od.mq (a:=a) h).Xl.add (ih.mul a)
theorem zgS {p:Int} {B:Ps→Ps} (hB:∀ l r,Od p l r→Od p (B l) (r+1)):∀ {n:Nat} {F:Nat→Ps} {m v:Nat},(∀ t,Od p (F t) (m - t))→Od p (shO B n F v) (m - v)
 | 0,_,_,_,_=>fun i _=>by simp only [shO]; exact Cg.refl _ _
 | n+1,F,m,0,h=>by
  have ih:=zgS hB (n:=n) (F:=fun t=>F (t+1)) (m:=m - 1) (v:=0) fun t=>(h (t+1)).le #[O]
  exact (h 0).add ((hB _ _ ih).le #[O])
 | n+1,F,m,v+1,h=>by
  have ih:=fun v=>zgS hB (n:=n) (F:=fun t=>F (t+1)) (m:=m - 1) (v:=v) fun t=>(h (t+1)).le #[O]
  exact ((ih v).le #[O]).add ((hB _ _ (ih (v+1))).le #[O])
theorem zcv {k1:Nat} {b:Ps}:∀ {n:Nat} {F:Nat→Ps} {S v:Nat},(∀ t,Dg (F t) (S - k1*t))→Dg (shO (mq 0 (k1+1) b) n F v) (S - k1*v)
 | 0,_,_,_,_=>fun i _=>by simp [shO]
 | n+1,F,S,v,h=>by
  have h':∀ t,Dg (F (t+1)) (S - k1 - k1*t):=fun t=>(h (t+1)).le (by rw [fE]; lia)
  have ih:=fun v=>zcv (k1:=k1) (b:=b) (n:=n) (F:=fun t=>F (t+1)) (S:=S - k1) (v:=v) h'
  have hz:∀ v,S≤k1*(v+1)→(shO (mq 0 (k1+1) b) n (fun t=>F (t+1)) v)=fun _=>0:=fun v hv=>by
   funext i;exact ih v i (by rw [fE] at hv; lia)
  have hb:∀ v,Dg (mq 0 (k1+1) b (shO (mq 0 (k1+1) b) n (fun t=>F (t+1)) v)) (S - k1*v):=fun v=>by
   by_cases hv:S≤k1*(v+1)
   ·rw [hz v hv,(zdR 0 (k1+1) b).z];exact fun i _=>rfl
   ·exact (ziI (ih v)).le (by rw [fE] at hv; lia)
  cases v with
  | zero =>
   intro i hi;simp only [shO];rw [h 0 i hi,hb 0 i hi];rfl
  | succ v =>
   intro i hi;simp only [shO];rw [ih v i (by rw [fE] at hi; lia),hb (v+1) i hi];rfl
theorem ziJ {a:Int} {k1 W:Nat} {b:Ps}:∀ {n:Nat} {F:Nat→Ps} {S v:Nat},(∀ t,Dg (F t) (S - k1*t))→S+(k1+1)≤W→sh a W (shO (mq 0 (k1+1) b) n F v)=shO (mq a (k1+1) b) n (fun t=>sh a W (F t)) v
 | 0,F,_,_,_,_=>by
  funext i;simp only [shO];rw [zb1];exact zbC fun t _=>by simp
 | n+1,F,S,v,h,hW=>by
  have h':∀ t,Dg (F (t+1)) (S - k1 - k1*t):=fun t=>(h (t+1)).le (by rw [fE]; lia)
  have ih:=fun v=>ziJ (a:=a) (k1:=k1) (W:=W) (b:=b) (n:=n) (F:=fun t=>F (t+1)) (S:=S - k1) (v:=v) h' #[O]
  have hm:∀ v,sh a W (mq 0 (k1+1) b (shO (mq 0 (k1+1) b) n (fun t=>F (t+1)) v))=mq a (k1+1) b (sh a W (shO (mq 0 (k1+1) b) n (fun t=>F (t+1)) v)):=fun v =>
   zoh (w:=S) ((zcv (k1:=k1) (b:=b) (n:=n) (F:=fun t=>F (t+1)) (S:=S - k1) (v:=v) h').le #[O]) hW
  cases v with
  | zero =>
   simp only [shO];rw [zdv,hm,ih]
  | succ v =>
   simp only [shO];rw [zdv,hm,ih,ih]
theorem zfZ {c:Int}:∀ {n:Nat} {F:Nat→Ps} {v i:Nat},shO (fun l i=>c*l i) n F v i=sh c n (fun t=>F t i) v
 | 0,_,_,_=>by simp [shO,sh]
 | n+1,F,0,i=>by simp only [shO,sh]; rw [zfZ]
 | n+1,F,v+1,i=>by simp only [shO,sh]; rw [zfZ,zfZ]
theorem zmf {s:Nat} {G:Tm→Int} {X y:Int} {u v:Nat}:(sm (s+1) fun j=>sm (s+1) fun i=>G (i,j)*cv (i,j) ⟨X,y,u,v⟩)=sh y (s+1) (fun j=>sh X (s+1) (fun i=>G (i,j)) u) v:=by
 rw [zb1];refine zW fun j _=>?_
 rw [zb1,← zbU];refine zW fun i _=>?_
 unfold cv cf;grind
def qx (x0:Int) (n:Nat) (A:Ps):Ps:=fun j=>hs x0 n A (j+1)
theorem zoi {x0:Int} {n:Nat} {A:Ps}:Dg (qx x0 (n+1) A) n:=fun i hi=>zcf #[O]
theorem zoj {x0:Int} {n:Nat} {A:Ps} (hA:Dg A n) (i:Nat):A i=Xl (qx x0 n A) i + -x0*qx x0 n A i+(if i=0 then hs x0 n A 0 else 0):=by
 by_cases h:i < n
 ·have e:=zdr (b:=x0) (l:=A) h;unfold qx Xl;cases i with
  | zero=>simp only [if_true]; grind
  | succ i=>simp only [bN]; rw [if_neg #[O],if_neg #[O]]; grind
 ·rw [hA i #[O]];unfold qx Xl;rw [zcf (j:=i+1) #[O]];cases i with
  | zero=>simp only [if_true]; rw [zcf #[O]]; simp
  | succ i=>simp only [bN]; rw [if_neg #[O],if_neg #[O],zcf #[O]]; simp
theorem zkC {a:Int} {n:Nat} {A:Ps}:sh a (n+1) A 0=hs a (n+1) A 0:=(zjw).1
theorem zmg {p x0 x1:Int} {n W:Nat} {A:Ps} (hA:Dg A (n+1)) (hW:n+1≤W) (h0:Cg p (hs x0 (n+1) A 0) 0) (i:Nat):Cg p (sh x1 W A i) (Xl (sh x1 W (qx x0 (n+1) A)) i+(x1 - x0)*sh x1 W (qx x0 (n+1) A) i):=by
 have hd:Dg (qx x0 (n+1) A) (W - 1):=(zoi (x0:=x0) (n:=n) (A:=A)).le #[O];have e1:sh x1 W (Xl (qx x0 (n+1) A))=fun i=>Xl (sh x1 W (qx x0 (n+1) A)) i+x1*sh x1 W (qx x0 (n+1) A) i:=by
  have:=zme (a:=x1) (w:=W - 1) (l:=qx x0 (n+1) A);rw [show W - 1+1=W by lia] at this;rw [this,zcO hd (show W - 1≤W by lia)]
 have e2:Cg p (sh x1 W A i) (sh x1 W (fun i=>Xl (qx x0 (n+1) A) i + -x0*qx x0 (n+1) A i) i):=by
  refine zc0 (Cg.refl _ _) fun t _=>?_
  rw [zoj (x0:=x0) hA t];by_cases ht:t=0
  ·rw [if_pos ht];exact ((Cg.refl p _).add h0).trans (Cg.of_eq #[O])
  ·rw [if_neg ht];exact Cg.of_eq #[O]
 refine e2.trans (Cg.of_eq ?_);rw [zdv,zgR,e1];grind
theorem znH {p x0:Int} {n W m:Nat} {A:Ps} (hA:Dg A (n+1)) (hW:n+1≤W) (h0:Cg p (hs x0 (n+1) A 0) 0) (h:Od p (sh x0 W A) (m+1)):Od p (sh x0 W (qx x0 (n+1) A)) m:=fun i hi=>by
 have e:=(zmg (x1:=x0) hA hW h0 (i+1)).symm.trans (h (i+1) #[O]);unfold Xl at e;rw [if_neg #[O],bN] at e;exact (Cg.of_eq (by grind)).trans e
theorem zmh {p x0 x1 c:Int} {n W m:Nat} {A:Ps} (hA:Dg A (n+1)) (hW:n+1≤W) (h0:Cg p (hs x0 (n+1) A 0) 0) (hc:Cg p (c*(x1 - x0)) 1) (h:Od p (sh x1 W A) m):Od p (sh x1 W (qx x0 (n+1) A)) m:=by
 have key:∀ i,i < m→Cg p (sh x1 W (qx x0 (n+1) A) i) 0:=by
  intro i;induction i with
  | zero =>
   intro hi;have e:=(zmg (x1:=x1) hA hW h0 0).symm.trans (h 0 hi);unfold Xl at e;rw [if_pos rfl,cZ] at e;have e1:Cg p (c*((x1 - x0)*sh x1 W (qx x0 (n+1) A) 0)) (c*0):=(Cg.refl p c).mul e;have e2:Cg p (c*(x1 - x0)*sh x1 W (qx x0 (n+1) A) 0) (1*sh x1 W (qx x0 (n+1) A) 0):=hc.mul (Cg.refl _ _);exact (Cg.of_eq #[M]).trans (e2.symm.trans ((Cg.of_eq (by grind)).trans (e1.trans (Cg.of_eq #[M]))))
  | succ i ih =>
   intro hi;have yo:=ih #[O];have e:=(zmg (x1:=x1) hA hW h0 (i+1)).symm.trans (h (i+1) hi);unfold Xl at e;rw [if_neg #[O],bN] at e;have e0:Cg p ((x1 - x0)*sh x1 W (qx x0 (n+1) A) (i+1)) 0:=by
    have:=e.sub yo;exact (Cg.of_eq (by grind)).trans (this.trans (Cg.of_eq #[M]))
   have e1:Cg p (c*((x1 - x0)*sh x1 W (qx x0 (n+1) A) (i+1))) (c*0):=(Cg.refl p c).mul e0;have e2:Cg p (c*(x1 - x0)*sh x1 W (qx x0 (n+1) A) (i+1)) (1*sh x1 W (qx x0 (n+1) A) (i+1)):=hc.mul (Cg.refl _ _);exact (Cg.of_eq #[M]).trans (e2.symm.trans ((Cg.of_eq (by grind)).trans (e1.trans (Cg.of_eq #[M]))))
 exact key
theorem zkD {p:Int} (hp:p∈zr) {x y:Int} (hx:0≤x∧x < p) (hy:0≤y∧y < p) (mB:x≠y):∃ c,Cg p (c*(x - y)) 1:=by
 have rp:=zy hp;by_cases h:y < x
 ·exact⟨inv p (x - y),zgq hp #[O] #[O]⟩
 ·refine⟨inv p (x - y+p),?_⟩;have:=zgq hp (h:=x - y+p) #[O] #[O];refine Cg.trans ?_ this;exact (Cg.refl p _).mul (show Cg p (x - y) (x - y+p) from ⟨-1,#[O]⟩)
def wsum:List (Int×Nat)→Nat
 | []=>0
 | q :: r=>q.2+wsum r
theorem ze0 {p:Int} (hp:p∈zr) {W:Nat}:∀ (L:List (Int×Nat)) (n:Nat) (A:Ps),Dg A n→n≤W→L.Pairwise (fun a b=>a.1≠b.1)→(∀ q∈L,0≤q.1∧q.1 < p)→n≤wsum L→(∀ q∈L,Od p (sh q.1 W A) q.2)→∀ i,Cg p (A i) 0
 | [],n,A,hA,hW,hn,hr,nW,ho=>fun i=>by
  rw [hA i (by simp only [wsum] at nW; lia)]; exact Cg.refl _ _
 | (x,m) :: r,n,A,hA,hW,hn,hr,nW,ho=>by
  have hx:=hr (x,m) (.head _);simp only at hx;cases hn with
  | cons hd hn =>
  have nC:∀ q∈r,0≤q.1∧q.1 < p:=fun q hq=>hr q (.tail _ hq)
  induction m generalizing n A with
  | zero=>exact ze0 hp r n A hA hW hn nC (by simp only [wsum] at nW; lia) fun q hq=>ho q (.tail _ hq)
  | succ m ih =>
   cases n with
   | zero=>intro i; rw [hA i #[O]]; exact Cg.refl _ _
   | succ n =>
    have h0:Cg p (hs x (n+1) A 0) 0:=by
     have:=ho (x,m+1) (.head _) 0 #[M];simp only at this;rw [zcO hA hW,zkC] at this;exact this
    have hq:=ih (n:=n) (A:=qx x (n+1) A) zoi #[O] (hr:=fun q hq=>by
      cases hq with
      | head=>exact hx
      | tail _ hq=>exact nC q hq) (by simp only [wsum] at nW ⊢; lia) (fun q hq=>by
      cases hq with
      | head=>exact znH hA hW h0 (ho (x,m+1) (.head _))
      | tail _ hq =>
       obtain⟨c,hc⟩:=zkD hp (nC q hq) hx (cQ (hd q hq));exact zmh hA hW h0 hc (ho q (.tail _ hq))) hd
    intro i;rw [zoj (x0:=x) hA i];have e1:Cg p (Xl (qx x (n+1) A) i) 0:=by
     unfold Xl;split
     ·exact Cg.refl _ _
     ·exact hq _
    have e2:Cg p (-x*qx x (n+1) A i) (-x*0):=(Cg.refl p (-x)).mul (hq i);have e3:Cg p (if i=0 then hs x (n+1) A 0 else 0) 0:=by
     split
     ·exact h0
     ·exact Cg.refl _ _
    exact ((e1.add e2).add e3).trans (Cg.of_eq #[M])
theorem zhT {m:Nat}:∀ (l:List (Int×Int)),wsum (l.map fun q=>(q.1,m))=m*l.length
 | []=>rfl
 | q :: r=>by
  simp only [bO,wsum,bm,fE];rw [zhT r];lia
theorem zgT {p:Int} (hp:p∈zr) {k1 s m:Nat} {g:Tm→Int} {f:Ps} (pF:∀ t,s < tz (k1+1) t→g t=0) {lZ:List (Int×Int)} (hx:lZ.Pairwise fun a b=>a.1≠b.1) (hr:∀ q∈lZ,0≤q.1∧q.1 < p) (hf:∀ q∈lZ,Cg p (vl (k1+1) f q.1) q.2) (hw:∀ q∈lZ,∀ u v,u+v < m→Cg p (sh q.2 (s+1) (fun j=>sh q.1 (s+1) (fun i=>g (i,j)) u) v) 0) (hs:s < m*lZ.length) (i:Nat):Cg p (shO (mq 0 (k1+1) f) (s+1) (fun t i=>g (i,t)) 0 i) 0:=by
 obtain⟨F,eF⟩:∃ F:Nat→Ps,F=fun t i=>g (i,t):=⟨_,rfl⟩
 rw [← eF];have Ei:∀ i j,tz (k1+1) (i,j)=i+k1*j:=fun i j=>rfl
 have hF:∀ t,Dg (F t) (s+1 - k1*t):=fun t i hi=>by
  rw [eF];exact pF (i,t) (by rw [Ei]; lia)
 obtain⟨W,eW⟩:∃ W,W=s+1+(k1+1):=⟨_,rfl⟩;refine ze0 hp (W:=W) (lZ.map fun q=>(q.1,m)) (s+1) _ (zcv (v:=0) hF |>.le #[O]) #[O] (b7.mpr hx) (fun q hq=>?_) (by rw [zhT]; lia) (fun q hq=>?_) i
 ·obtain⟨q',qi,rfl⟩:=av.mp hq;exact hr q' qi
 ·obtain⟨⟨x0,y0⟩,qi,rfl⟩:=av.mp hq;have hf:=hf _ qi;have hw:=hw _ qi;dsimp only at hf hw ⊢;rw [ziJ (S:=s+1) hF #[O]];have aC:∀ d:Int,Add (fun (l:Ps) i=>d*l i):=fun d=>⟨fun u v=>by funext i; exact jq _ _ _⟩
  have aM:=zdR x0 (k1+1) f;have aE:Add (fun (l:Ps) i=>mq x0 (k1+1) f l i + -(vl (k1+1) f x0)*l i):=⟨fun u v=>by
   rw [aM.a];funext i;grind⟩
  obtain⟨z,ez⟩:∃ z,z=vl (k1+1) f x0:=⟨_,rfl⟩;have e6:mq x0 (k1+1) f=fun (l:Ps) i=>(fun (l:Ps) i=>z*l i) l i+(fun (l:Ps) i=>mq x0 (k1+1) f l i + -(vl (k1+1) f x0)*l i) l i:=by
   funext l i;rw [ez];grind
  have e7:shO (mq x0 (k1+1) f) (s+1) (fun t=>sh x0 W (F t)) 0=shO (fun (l:Ps) i=>mq x0 (k1+1) f l i + -(vl (k1+1) f x0)*l i) (s+1) (shO (fun (l:Ps) i=>z*l i) (s+1) (fun t=>sh x0 W (F t))) 0:=by
   rw [zes (aC z) aE fun l=>by
    funext i;have:=congrFun (zgQ x0 z (k1+1) f l) i;dsimp only at this ⊢;rw [this];grind]
   rw [← e6]
  rw [e7];have:=zgS (p:=p) (m:=m) (v:=0) (n:=s+1) (B:=fun (l:Ps) i=>mq x0 (k1+1) f l i + -(vl (k1+1) f x0)*l i) (F:=shO (fun (l:Ps) i=>z*l i) (s+1) (fun t=>sh x0 W (F t))) (fun l r hl=>Od.less hl) (fun t i hi=>?_)
  ·exact this
  rw [zfZ];have e8:(fun j=>sh x0 W (F j) i)=fun j=>sh x0 (s+1) (fun i=>g (i,j)) i:=by
   funext j;rw [zcO (w:=s+1) ((hF j).le #[O]) #[O],eF]
  rw [e8];exact (zc0 (by rw [ez]; exact hf) fun _ _=>Cg.refl _ _).trans (hw i t #[O])
def AL (k:Nat) (f:Ps) (n:Nat) (F:Nat→Ps):Ps:=shO (mq 0 k f) n F 0
def Zr (p:Int) (l:Ps):Prop:=∀ i,Cg p (l i) 0
theorem zok:∀ {n:Nat} {f g:Ps} (l:Ps),(∀ i,i < n→f i=g i)→mq 0 n f l=mq 0 n g l
 | 0,_,_,_,_=>rfl
 | n+1,f,g,l,h=>by
  have ih:=zok (n:=n) (f:=fun t=>f (t+1)) (g:=fun t=>g (t+1)) l fun i hi=>h (i+1) #[O]
  funext i;simp only [mq];rw [ih,h 0 #[O]]
theorem zol {k n:Nat} {f g:Ps} {F:Nat→Ps} (h:∀ i,i < k→f i=g i):AL k f n F=AL k g n F:=by
 unfold AL;have:mq 0 k f=mq 0 k g:=funext fun l=>zok l h
 rw [this]
theorem zmi:∀ (n:Nat) (b l:Ps),Xl (mq 0 n b l)=mq 0 n b (Xl l)
 | 0,b,l=>by
  funext i;unfold Xl mq;split <;> rfl
 | n+1,b,l=>by
  have ih:=zmi n (fun t=>b (t+1)) l;have e:mq 0 (n+1) b l=fun i=>b 0*l i+Xl (mq 0 n (fun t=>b (t+1)) l) i:=by
   funext i;simp only [mq,cc,gb]
  have e2:mq 0 (n+1) b (Xl l)=fun i=>b 0*Xl l i+Xl (mq 0 n (fun t=>b (t+1)) (Xl l)) i:=by
   funext i;simp only [mq,cc,gb]
  rw [e,e2,zgP,ziH,ih]
theorem AX:Add Xl:=⟨zgP⟩
theorem zqz {k n:Nat} {f:Ps} {F:Nat→Ps}:AL k f n (fun j=>Xl (F j))=Xl (AL k f n F):=zdu AX (zmi k f)
theorem zqA {p:Int} {l:Ps}:Zr p (Xl l)↔Zr p l:=by
 constructor
 ·intro h i;have:=h (i+1);simpa [Xl] using this
 ·intro h i;unfold Xl;split
  ·exact Cg.refl _ _
  ·exact h _
theorem zdS {B:Ps→Ps}:∀ {n:Nat} {F G:Nat→Ps} {j:Nat},(∀ t,t < n→F t=G t)→shO B n F j=shO B n G j
 | 0,_,_,_,_=>rfl
 | n+1,F,G,0,h=>by
  simp only [shO];rw [h 0 #[O],zdS (n:=n) (F:=fun t=>F (t+1)) (G:=fun t=>G (t+1)) fun t ht=>h (t+1) #[O]]
 | n+1,F,G,j+1,h=>by
  simp only [shO];rw [zdS (n:=n) (F:=fun t=>F (t+1)) (G:=fun t=>G (t+1)) (j:=j) fun t ht=>h (t+1) #[O],zdS (n:=n) (F:=fun t=>F (t+1)) (G:=fun t=>G (t+1)) (j:=j+1) fun t ht=>h (t+1) #[O]]
theorem zgU {p:Int} {k n:Nat} {f:Ps}:∀ {s:Nat} {F:Nat→Ps},(∀ j i,j < n→i < s→F j i=0)→(Zr p (AL k f n F)↔Zr p (AL k f n fun j i=>F j (i+s)))
 | 0,F,_=>Iff.rfl
 | s+1,F,h=>by
  have e:AL k f n F=AL k f n fun j=>Xl fun i=>F j (i+1):=zdS fun t ht=>by
   funext i;unfold Xl;split
   ·next h0=>rw [h0]; exact h t 0 ht #[O]
   ·next h0 =>
    show F t i=F t (i - 1+1);rw [show i - 1+1=i by lia]
  rw [e,zqz,zqA,zgU (s:=s) (F:=fun j i=>F j (i+1)) fun j i hj hi=>h j (i+1) hj #[O]];have e2:(fun (j:Nat) (i:Nat)=>F j (i+s+1))=fun j i=>F j (i+(s+1)):=rfl
  rw [e2]
def nxc (b:Int) (n:Nat) (F:Nat→Ps) (j i:Nat):Int:=if i < j then 0 else sh b n (fun t=>F t (i - j)) j
def Xp:Nat→Ps→Ps
 | 0,l=>l
 | s+1,l=>Xl (Xp s l)
theorem zom:∀ (s:Nat) (l:Ps) (i:Nat),Xp s l i=if i < s then 0 else l (i - s)
 | 0,l,i=>by rw [if_neg #[O]]; rfl
 | s+1,l,i=>by
  show Xl (Xp s l) i=_;unfold Xl;split
  ·next h=>rw [h,if_pos #[O]]
  ·next h =>
   rw [zom s l (i - 1)];by_cases h1:i - 1 < s
   ·rw [if_pos h1,if_pos #[O]]
   ·rw [if_neg h1,if_neg #[O],show i - 1 - s=i - (s+1) by lia]
theorem zon {M:Ps→Ps} (hM:∀ l,Xl (M l)=M (Xl l)):∀ {n:Nat} {G:Nat→Ps},shO (fun l=>Xl (M l)) n G 0=shO M n (fun j=>Xp j (G j)) 0
 | 0,_=>rfl
 | n+1,G=>by
  have ih:=zon hM (n:=n) (G:=fun t=>G (t+1));have e:shO M n (fun t=>Xp (t+1) (G (t+1))) 0=Xl (shO M n (fun t=>Xp t (G (t+1))) 0):=zdu (C:=Xl) AX hM (F:=fun t=>Xp t (G (t+1)));simp only [shO];rw [ih];funext i;show G 0 i+Xl (M (shO M n (fun j=>Xp j (G (j+1))) 0)) i=G 0 i+M (shO M n (fun t=>Xp (t+1) (G (t+1))) 0) i;rw [e,hM]
theorem znI {k n:Nat} {f:Ps} {F:Nat→Ps}:AL (k+1) f n F=AL k (fun t=>f (t+1)) n (nxc (f 0) n F):=by
 have aC:Add (fun (l:Ps) i=>f 0*l i):=⟨fun u v=>by funext i; exact jq _ _ _⟩;have aM:=zdR 0 k fun t=>f (t+1)
 have aX:Add (fun l=>Xl (mq 0 k (fun t=>f (t+1)) l)):=⟨fun u v=>by rw [aM.a,zgP]⟩;have e:mq 0 (k+1) f=fun (l:Ps) i=>(fun (l:Ps) i=>f 0*l i) l i+(fun l=>Xl (mq 0 k (fun t=>f (t+1)) l)) l i:=by
  funext l i;simp only [mq,cc,gb]
 unfold AL;rw [e,← zes aC aX fun l=>by
  funext i;show f 0*Xl (mq 0 k (fun t=>f (t+1)) l) i=Xl (mq 0 k (fun t=>f (t+1)) (fun i=>f 0*l i)) i;rw [zgQ,ziH],zon (zmi k _)]
 refine zdS fun j hj=>?_
 funext i;rw [zom];unfold nxc;split
 ·rfl
 ·rw [zfZ]
theorem zp7 {p:Int} {n:Nat} {b l l':Ps} (h:∀ i,Cg p (l i) (l' i)) (i:Nat):Cg p (mq 0 n b l i) (mq 0 n b l' i):=by
 induction n generalizing b i with
 | zero=>exact Cg.refl _ _
 | succ n ih =>
  simp only [mq,cc,gb];refine ((Cg.refl p _).mul (h i)).add ?_;unfold Xl;split
  ·exact Cg.refl _ _
  ·exact ih _
theorem zoo {p:Int} {k n:Nat} {f:Ps} {F G:Nat→Ps} (h:∀ j i,j < n→Cg p (F j i) (G j i)) (i:Nat):Cg p (AL k f n F i) (AL k f n G i):=by
 unfold AL;induction n generalizing F G i with
 | zero=>exact Cg.refl _ _
 | succ n ih =>
  simp only [shO];exact (h 0 i #[O]).add (zp7 (fun i=>ih (fun j i hj=>h (j+1) i #[O]) i) i)
theorem zop {p:Int} {u v:Ps} (h:∀ i,Cg p (u i) (v i)):Zr p u↔Zr p v:=⟨fun z i=>(h i).symm.trans (z i),fun z i=>(h i).trans (z i)⟩
theorem zpd {k n:Nat} {f:Ps} {F:Nat→Ps}:AL (k+1) f n F 0=vl n (fun j=>F j 0) (f 0):=by
 unfold AL;induction n generalizing F with
 | zero=>rfl
 | succ n ih =>
  have ih:=ih (F:=fun t=>F (t+1));have e:∀ l:Ps,mq 0 (k+1) f l 0=f 0*l 0:=fun l=>by simp [mq,Xl]
  show F 0 0+mq 0 (k+1) f (shO (mq 0 (k+1) f) n (fun t=>F (t+1)) 0) 0=_;rw [e,ih];rfl
theorem zpe {n:Nat} {f:Ps} {F:Nat→Ps}:AL 0 f (n+1) F=F 0:=by
 unfold AL;funext i;simp [shO,mq]
theorem zp8 {p b:Int} {n:Nat} {l:Nat→Int} (h:∀ j,j < n→Cg p (sh b n l j) 0):∀ j,j < n→Cg p (l j) 0:=fun j hj=>by
 have e:sh (-b) n (sh b n l) j=l j:=by
  rw [zjv,show b + -b=0 by lia,zep hj]
 rw [← e];refine (zc0 (Cg.refl p (-b)) fun t ht=>h t ht).trans (Cg.of_eq ?_);have:=zce (b:=-b) (c:=0) (n:=n) (u:=fun _=>0) (j:=j);simpa using this
def cns (b:Int) (g:Ps):Ps:=fun i=>if i=0 then b else g (i - 1)
def apl (known:List Int) (g:Ps):Ps:=fun i=>if i < known.length then gl known i else g (i - known.length)
theorem zmj (known:List Int) (b:Int) (g:Ps):apl (known++[b]) g=apl known (cns b g):=by
 funext i;unfold apl cns;rw [aA,zo6];show (if i < known.length+1 then (if i < known.length then gl known i else gl [b] (i - known.length)) else g (i - (known.length+1)))=_;by_cases h:i < known.length
 ·rw [if_pos #[O],if_pos h,if_pos h]
 ·by_cases h1:i=known.length
  ·subst h1;rw [if_pos #[O],if_neg h,if_neg h,fC,if_pos rfl];rfl
  ·rw [if_neg #[O],if_neg h,if_neg #[O],show i - known.length - 1=i - (known.length+1) by lia]
structure RS (p:Int) (n:Nat) (F0:Nat→Ps) (s:Nat) (known:List Int) (w:Nat) (c:Nat→Nat→Int):Prop where
 kn:IsP p s known
 dg:∀ j i,w≤i→c j i=0
 rg:∀ j i,0≤c j i∧c j i < p
 nz:∃ j i,j < n∧i < w∧c j i≠0
 is:∀ m g,Zr p (AL (s+m) (apl known g) n F0)↔Zr p (AL m g n c)
def Lea (n w:Nat) (c:Nat→Nat→Int) (e:Nat):Prop:=(∀ j i,j < n→i < e→c j i=0)∧∃ j,j < n∧e < w∧c j e≠0
def zfn (p b:Int) (n e:Nat) (c:Nat→Nat→Int) (j i:Nat):Int:=if j < n∧j≤i then sh b n (fun t=>c t (i - j+e)) j % p else 0
theorem znJ {p:Int} (hp:p∈zr) {n:Nat} {F0:Nat→Ps} {s w:Nat} {known:List Int} {c:Nat→Nat→Int} (R:RS p n F0 s known w c) {e:Nat} (L:Lea n w c e) {b:Int} (hb:0≤b∧b < p):RS p n F0 (s+1) (known++[b]) (w - e+(n - 1)) (zfn p b n e c):=by
 have rp:=zy hp;have p0:0 < p:=by lia
 refine⟨⟨by rw [aA,R.kn.1]; rfl,fun x hx=>?_⟩,fun j i hi=>?_,fun j i=>?_,?_,fun m g=>?_⟩
 ·rcases bi.mp hx with h | h
  ·exact R.kn.2 x h
  ·rw [bS.mp h]; exact hb
 ·unfold zfn;split
  ·next h =>
   have e0:sh b n (fun t=>c t (i - j+e)) j=sh b n (fun _=>0) j:=zcZ fun t _=>R.dg t _ #[O]
   have e1:sh b n (fun _=>(0:Int)) j=0:=by
    have:=zce (b:=b) (c:=0) (n:=n) (u:=fun _=>0) (j:=j);simpa using this
   rw [e0,e1];rfl
  ·rfl
 ·unfold zfn;split
  ·exact⟨aU _ #[O],aO _ p0⟩
  ·lia
 ·obtain⟨j0,qU,Ej,mB⟩:=L.2;refine bH fun hno=>mB ?_
  have hz:∀ j,j < n→Cg p (sh b n (fun t=>c t e) j) 0:=fun j hj=>by
   have:zfn p b n e c j j=0:=bH fun h=>hno ⟨j,j,hj,#[O],h⟩
   unfold zfn at this;rw [if_pos ⟨hj,ag _⟩,fC,cw] at this;exact (Cg.emod p _).symm.trans (Cg.of_eq this)
  have:=zp8 hz j0 qU;obtain⟨a0,a1⟩:=R.rg j0 e;exact Cg.eq this a0 a1 (bP 0) p0
 ·have h1:=R.is (m+1) (cns b g);rw [show s+(m+1)=s+1+m by lia,← zmj] at h1;rw [h1,zgU (s:=e) L.1,znI];have eg:(fun t=>cns b g (t+1))=g:=by
   funext t;unfold cns;rw [if_neg #[O],bN]
  have eb:cns b g 0=b:=rfl;rw [eg,eb];refine zop fun i=>zoo (fun j i hj=>?_) i
  unfold nxc zfn;by_cases h:i < j
  ·rw [if_pos h,if_neg #[O]];exact Cg.refl _ _
  ·rw [if_neg h,if_pos ⟨hj,#[O]⟩];exact (Cg.emod p _).symm
theorem zpf {p:Int} {n w:Nat} {c:Nat→Nat→Int} {e m:Nat} {f:Ps} (L:Lea n w c e) (h:Zr p (AL (m+1) f n c)):Cg p (vl n (fun j=>c j e) (f 0)) 0:=by
 have h1:=(zgU (s:=e) L.1).mp h 0;rw [zpd] at h1;simpa using h1
theorem zpg {p:Int} (hp:p∈zr) {n:Nat} {F0:Nat→Ps} {s w:Nat} {known:List Int} {c:Nat→Nat→Int} (R:RS p (n+1) F0 s known w c):Zr p (AL s (gl known) (n+1) F0)↔∀ i,i < w→c 0 i=0:=by
 have rp:=zy hp;have h:=R.is 0 (fun _=>0);rw [zpe,dS] at h;have e:AL s (apl known fun _=>0) (n+1) F0=AL s (gl known) (n+1) F0:=zol fun i hi=>by
  unfold apl;rw [if_pos (by rw [R.kn.1]; exact hi)]
 rw [e] at h;rw [h];constructor
 ·intro z i _;obtain⟨a0,a1⟩:=R.rg 0 i;exact Cg.eq (z i) a0 a1 (bP 0) #[O]
 ·intro z i;by_cases hi:i < w
  ·rw [z i hi]; exact Cg.refl _ _
  ·rw [R.dg 0 i #[O]]; exact Cg.refl _ _
theorem znK {p:Int} {n:Nat} {F0:Nat→Ps} {s w m:Nat} {known f:List Int} {c:Nat→Nat→Int} (R:RS p n F0 s known w c) (hf:f.length=s+m) (hk:known=f.take s) (h:Zr p (AL (s+m) (gl f) n F0)):Zr p (AL m (fun i=>gl f (s+i)) n c):=by
 refine (R.is m _).mp ?_;have e:AL (s+m) (gl f) n F0=AL (s+m) (apl known fun i=>gl f (s+i)) n F0:=zol fun i hi=>by
  unfold apl;rw [R.kn.1];split
  ·next h1 =>
   rw [hk];unfold gl;rw [aK,aK,kz,if_pos h1]
  ·next h1 =>
   show gl f i=gl f (s+(i - s));rw [show s+(i - s)=i by lia]
 rw [← e];exact h
theorem zph {j:Nat} {r:List Int} {m:Nat} {q:Int×Int} (h:q∈trm j r m):∃ i:Nat,q=((i:Int),(j:Int))∧i < m∧gl r i≠0:=by
 unfold trm at h
 (obtain⟨i,hi,rfl⟩:=av.mp h)
 obtain⟨h1,h2⟩:=bv.mp hi;exact⟨i,rfl,aJ.mp h1,of_decide_eq_true h2⟩
theorem zjB {n w:Nat} {c:Nat→Nat→Int} {j i:Nat} (hj:j < n) (hi:i < w):gl ((zw n w c).getD j []) i=c j i:=by
 have e:(zw n w c).getD j []=(au w).map fun i=>c j i:=by rw [aK,zag hj]; rfl
 rw [e];exact zaF (by rw [af,aY hi]; rfl)
theorem zhU {n w:Nat} {c:Nat→Nat→Int} {j:Nat} (hj:j < n):((zw n w c).getD j []).length=w:=by
 rw [aK,zag hj];show ((au w).map fun i=>c j i).length=w;rw [ab,aD]
theorem zaH (n w:Nat) (g:Nat→Nat→Int):(zw n w g).length=n:=by unfold zw; rw [ab,aD]
theorem ze1 {n w:Nat} {c:Nat→Nat→Int} {r:List Int} (h:r∈zw n w c):r.length=w:=by
 unfold zw at h;obtain⟨j,_,rfl⟩:=av.mp h;rw [ab,aD]
theorem zcP {n w:Nat} {c:Nat→Nat→Int} {q:Int×Int}:q∈zae (zw n w c) n↔∃ i j:Nat,q=((i:Int),(j:Int))∧j < n∧i < w∧c j i≠0:=by
 unfold zae;rw [bQ];constructor
 ·rintro⟨j,hj,h⟩;have hj:=aJ.mp hj;rw [zhU hj] at h;obtain⟨i,rfl,h1,h2⟩:=zph h;rw [zjB hj h1] at h2;exact⟨i,j,rfl,hj,h1,h2⟩
 ·rintro⟨i,j,rfl,hj,hi,h⟩;refine⟨j,aJ.mpr hj,?_⟩;rw [zhU hj];unfold trm;exact av.mpr ⟨i,bv.mpr ⟨aJ.mpr hi,decide_eq_true (by rw [zjB hj hi]; exact h)⟩,rfl⟩
theorem zpi {n w:Nat} {c:Nat→Nat→Int} {M:Int} (h1:M∈(zae (zw n w c) n).map (·.1)) (h2:∀ a∈(zae (zw n w c) n).map (·.1),M≤a):∃ e:Nat,M=e∧Lea n w c e:=by
 obtain⟨q,hq,rfl⟩:=av.mp h1;obtain⟨i,j,rfl,hj,hi,hc⟩:=zcP.mp hq;refine⟨i,rfl,fun j' i' pD nK=>bH fun mB=>?_,j,hj,hi,hc⟩;have:=h2 _ (av.mpr ⟨_,zcP.mpr ⟨i',j',rfl,pD,#[O],mB⟩,rfl⟩);have:(i:Int)≤(i':Int):=this;lia
def zbV (n e:Nat) (c:Nat→Nat→Int):List Int:=(au n).map fun j=>c j e
theorem zdw (n e:Nat) (c:Nat→Nat→Int):(zbV n e c).length=n:=by unfold zbV; rw [ab,aD]
theorem zpj {n e j:Nat} {c:Nat→Nat→Int} (h:j < n):gl (zbV n e c) j=c j e:=zaF (by unfold zbV; rw [af,aY h]; rfl)
def nums (p:Int) (n e:Nat) (c:Nat→Nat→Int) (m:Nat):List Int:=((au m).map fun b:Nat=>(b:Int)).filter fun b=>decide (zS p b (zbV n e c)=0)
theorem zf0 (p:Int) (n e:Nat) (c:Nat→Nat→Int) (m:Nat):nums p n e c (m+1)=nums p n e c m++if zS p (m:Int) (zbV n e c)=0 then [(m:Int)] else []:=by
 unfold nums;rw [bU,ap,cX];congr 1;rw [bO,fo,List.filter_cons,fW];by_cases h:zS p (m:Int) (zbV n e c)=0
 ·rw [if_pos h,if_pos (decide_eq_true h)]
 ·rw [if_neg h,if_neg (by simpa using h)]
theorem zdx {p:Int} {n e m:Nat} {c:Nat→Nat→Int} {b:Int}:b∈nums p n e c m↔(0≤b∧b < m)∧zS p b (zbV n e c)=0:=by
 unfold nums;rw [bv,av];constructor
 ·rintro⟨⟨x,hx,rfl⟩,h⟩;have:=aJ.mp hx;exact⟨⟨#[O],#[O]⟩,of_decide_eq_true h⟩
 ·rintro⟨⟨h1,h2⟩,h⟩;exact⟨⟨b.toNat,aJ.mpr #[O],#[O]⟩,decide_eq_true h⟩
theorem ze2 (p:Int) (n e:Nat) (c:Nat→Nat→Int) (m:Nat):(nums p n e c m).Nodup:=jP _ (b7.mpr (ed (fun {a b} yY e=>yY #[O]) eI))
theorem zmk {p x:Int} {n e:Nat} {c:Nat→Nat→Int}:Cg p (zS p x (zbV n e c)) (vl n (fun j=>c j e) x):=by
 rw [zjx];refine (zeV (by rw [zdw]; exact ag _)).trans (Cg.of_eq (zW fun i hi=>?_));rw [zpj hi]
theorem zml {p:Int} (hp:p∈zr) {n w e m:Nat} {c:Nat→Nat→Int} (hm:(m:Int)≤p) (hr:∀ j i,0≤c j i∧c j i < p) (L:Lea n w c e):(nums p n e c m).length < n:=by
 have rp:=zy hp;refine bH fun pZ=>?_
 have hz:=zeT hp n (zbV n e c) (nums p n e c m) (zdw _ _ _) #[O] (ze2 p n e c m) (fun x hx=>?_) (fun x hx=>?_)
 ·obtain⟨j,hj,_,mB⟩:=L.2;have h1:=hz (c j e) (av.mpr ⟨j,aJ.mpr hj,rfl⟩);obtain⟨a0,a1⟩:=hr j e;exact mB (Cg.eq h1 a0 a1 (bP 0) #[O])
 ·have:=(zdx.mp hx).1;lia
 ·exact Cg.of_eq (zdx.mp hx).2
theorem ziK {α β:Type} {out:List (List α×β)} {done:List (List α)} {qs:List α} {L:List α} (f:α→β) (nd:(out.map (·.1)).Nodup) (hd:∀ o∈out,o.1.dropLast∈done) (hq:qs∉done) (hL:L.Nodup) :
  ((out++L.map fun q=>(qs++[q],f q)).map (·.1)).Nodup∧∀ o∈out++L.map (fun q=>(qs++[q],f q)),o.1.dropLast∈done++[qs]:=by
 constructor
 ·rw [ap,cL];have h1:(L.map ((fun x:List α×β=>x.1) ∘ fun q=>(qs++[q],f q))).Nodup:=b7.mpr (ed (fun {a b} yY e=>yY (by
   have e:qs++[a]=qs++[b]:=e;have:=List.append_cancel_left e;injection this)) hL)
  refine gA.mpr ⟨nd,h1,fun a ha b hb e=>?_⟩;obtain⟨o,ho,rfl⟩:=av.mp ha;obtain⟨q,qi,rfl⟩:=av.mp hb;have h1:=hd o ho;have e:o.1=qs++[q]:=e;rw [e,jQ] at h1;exact hq h1
 ·intro o ho;rcases bi.mp ho with h | h
  ·exact bi.mpr (.inl (hd o h))
  ·obtain⟨q,_,rfl⟩:=av.mp h;refine bi.mpr (.inr ?_);show (qs++[q]).dropLast∈[qs];rw [jQ];exact bS.mpr rfl
end My
end
section
namespace My
end My
end
section
namespace My
open PySem L2 PyProof.Rows
def zmm:Ps:=fun i=>if i=0 then 1 else 0
theorem zpk {k n:Nat} {f:Ps} {F:Nat→Ps}:∀ {m:Nat},n≤m→(∀ t,n≤t→F t=fun _=>0)→AL k f m F=AL k f n F:=fun {m} hm h=>by
 obtain⟨d,rfl⟩:∃ d,m=n+d:=⟨m - n,#[O]⟩;induction d with
 | zero=>rfl
 | succ d ih =>
  have e:AL k f (n+d+1) F=AL k f (n+d) F:=zcN (zdR 0 k f) (h (n+d) #[O]);rw [show n+(d+1)=n+d+1 by lia,e];exact ih #[O]
theorem zf1 {k s:Nat} (h2:2≤k) (h5:k≤5) (hs:s≤60):(s / (k - 1)+1) ^ k≤2000000:=by
 have:k=2∨k=3∨k=4∨k=5:=by lia
 rcases this with rfl | rfl | rfl | rfl
 ·exact aW (fR (show s / (2 - 1)+1≤61 by lia) 2) #[D]
 ·exact aW (fR (show s / (3 - 1)+1≤31 by lia) 3) #[D]
 ·exact aW (fR (show s / (4 - 1)+1≤21 by lia) 4) #[D]
 ·exact aW (fR (show s / (5 - 1)+1≤16 by lia) 5) #[D]
theorem zkE {k s j:Nat} {g:Tm→Int} (h:j < s / (k - 1)+1):(zah k s g).getD j []=(au (s - (k - 1)*j+1)).map fun i=>g (i,j):=by
 (rw [aK])
 unfold zah;rw [af,aY h];rfl
theorem zjC {p:Int} {k s:Nat} {lZ:List (Int×Int×Nat)} {g:Tm→Int} (L:Lst p k lZ s g) {j:Nat} (h:j < s / (k - 1)+1) (i:Nat):gl ((zah k s g).getD j []) i=g (i,j):=by
 rw [zkE h];by_cases hi:i < s - (k - 1)*j+1
 ·exact zaF (by rw [af,aY hi]; rfl)
 ·rw [zc5 (by rw [ab,aD]; lia)];refine (L.out (i,j) ?_).symm;show s < i+(k - 1)*j;lia
theorem zhV {k s:Nat} {g:Tm→Int} {r:List Int} (h:r∈zah k s g):r.length≤s+1:=by
 unfold zah at h;obtain⟨j,_,rfl⟩:=av.mp h;rw [ab,aD];lia
theorem zjD {p:Int} (hp:p∈zr) {k s:Nat} (hk:2≤k) {lZ:List (Int×Int×Nat)} {g:Tm→Int} (L:Lst p k lZ s g):∃ j i,¬ Cg p (gl ((zah k s g).getD j []) i) 0:=by
 obtain⟨⟨i,j⟩,ht,mB⟩:=L.top;have rp:=zy hp;have ht:i+(k - 1)*j=s:=ht;have hj:j < s / (k - 1)+1:=by
  have:j≤s / (k - 1):=(cj #[O]).mpr (by rw [cV]; lia);lia
 refine⟨j,i,fun hz=>mB ?_⟩;rw [zjC L hj] at hz;obtain⟨a0,a1⟩:=L.rg (i,j);exact Cg.eq hz a0 a1 (bP 0) #[O]
theorem zf2 {p:Int} (hp:p∈zr) {d s m:Nat} (hd:1≤d) {l:List (Int×Int)} (hP:Pts p l) {g:Tm→Int} (L:Lst p (d+1) (l.map fun q=>(q.1,q.2,m)) s g) {q:List Int} (hq:IsP p (d+1) q) (hs:s < m*hits p q l):Zr p (AL (d+1) (gl q) (s / d+1) fun j i=>gl ((zah (d+1) s g).getD j []) i):=by
 have rp:=zy hp;have h1:=zgT hp (k1:=d) (s:=s) (m:=m) (g:=g) (f:=gl q) L.out (lZ:=l.filter (hit p q)) (jP _ (b7.mp hP.nd)) (fun a ha=>?_) (fun a ha=>?_) (fun a ha u v huv=>?_) hs
 ·have e:AL (d+1) (gl q) (s+1) (fun t i=>g (i,t))=AL (d+1) (gl q) (s / d+1) (fun t i=>g (i,t)):=zpk (by have:=fh s d; lia) fun t ht=>by
   funext i;refine L.out (i,t) ?_;show s < i+d*t;have:s < t*d:=(Nat.div_lt_iff_lt_mul #[O]).mp #[O];rw [cV] at this;lia
  intro i;have h2:=h1 i;have h3:Cg p (AL (d+1) (gl q) (s+1) (fun t i=>g (i,t)) i) 0:=h2;rw [e] at h3;have e2:AL (d+1) (gl q) (s / d+1) (fun j i=>gl ((zah (d+1) s g).getD j []) i)=AL (d+1) (gl q) (s / d+1) (fun t i=>g (i,t)):=zdS fun t ht=>funext fun i=>zjC L ht i
  rw [e2];exact h3
 ·obtain⟨a1,_⟩:=bv.mp ha;obtain⟨x0,x1,_⟩:=hP.rg a a1;exact⟨x0,x1⟩
 ·obtain⟨_,a2⟩:=bv.mp ha;have a2:zS p a.1 q=a.2:=of_decide_eq_true a2;rw [← a2,zjx];exact (zeV (by rw [hq.1]; exact ag _)).symm
 ·obtain⟨a1,_⟩:=bv.mp ha;have yE:(⟨a.1,a.2,u,v⟩:Co)∈cos (l.map fun q=>(q.1,q.2,m)):=bQ.mpr ⟨(a.1,a.2,m),av.mpr ⟨a,a1,rfl⟩,bQ.mpr ⟨u,aJ.mpr (by show u < m; lia),av.mpr ⟨v,aJ.mpr (by show v < m - u; lia),rfl⟩⟩⟩;have h2:=L.ok _ yE;rw [zhS #[O] fun t ht=>by rw [L.out t ht,cc],zmf] at h2;exact h2
def wpl:List Int→Ps
 | []=>zmm
 | x :: xs=>fun i=>Xl (wpl xs) i + -x*wpl xs i
theorem zgV:∀ L:List Int,Dg (wpl L) (L.length+1)
 | []=>fun i hi=>by
  show zmm i=0;unfold zmm;rw [if_neg (by rw [ic] at hi; lia)]
 | x :: xs=>fun i hi=>by
  have ih:=zgV xs;rw [bm] at hi;show Xl (wpl xs) i + -x*wpl xs i=0;unfold Xl;rw [if_neg #[O],ih (i - 1) #[O],ih i #[O],eJ];rfl
theorem zjE:∀ L:List Int,wpl L L.length=1
 | []=>rfl
 | x :: xs=>by
  have ih:=zjE xs;show Xl (wpl xs) (xs.length+1) + -x*wpl xs (xs.length+1)=1;unfold Xl;rw [if_neg #[O],bN,ih,zgV xs (xs.length+1) (ag _),eJ];rfl
theorem zpl {X:Int} {x:Int} {xs:List Int} {W:Nat} (hW:xs.length+1≤W):sh X (W+1) (wpl (x :: xs))=fun i=>Xl (sh X W (wpl xs)) i+(X - x)*sh X W (wpl xs) i:=by
 have e:wpl (x :: xs)=fun i=>Xl (wpl xs) i+(fun i=>-x*wpl xs i) i:=rfl
 rw [e,zdv,zme,zgR];have e2:sh X (W+1) (wpl xs)=sh X W (wpl xs):=zcO (w:=W) ((zgV xs).le hW) #[O];rw [e2];funext i;show Xl (sh X W (wpl xs)) i+X*sh X W (wpl xs) i + -x*sh X W (wpl xs) i=_;grind
theorem zmn {p X:Int}:∀ (L:List Int) (W:Nat),L.length+1≤W→Od p (sh X W (wpl L)) (L.count X)
 | [],W,_=>fun i hi=>by rw [List.count_nil] at hi; lia
 | x :: xs,W,hW=>by
  obtain⟨W',rfl⟩:∃ W',W=W'+1:=⟨W - 1,by rw [bm] at hW; lia⟩;rw [bm] at hW;have ih:=zmn (p:=p) (X:=X) xs W' #[O];rw [zpl #[O]];by_cases h:x=X
  ·subst h;rw [List.count_cons_self];exact ih.Xl.add (fun i _=>Cg.of_eq (by rw [Int.sub_self,cc]))
  ·rw [List.count_cons_of_ne h];exact (ih.Xl.le #[O]).add (ih.mul _)
theorem zjF {B:Ps→Ps} (h:Add B):∀ {n:Nat} {F:Nat→Ps},shO B (n+1) F n=F n
 | 0,F=>by
  funext i;simp [shO,h.z]
 | n+1,F=>by
  have ih:=zjF h (n:=n) (F:=fun t=>F (t+1));have e:shO B (n+1) (fun t=>F (t+1)) (n+1)=fun _=>0:=zdt h (ag _)
  rw [shO,ih,e,h.z];funext i;simp
theorem ze3 {p:Int} {B:Ps→Ps} {m:Nat} (hB:∀ l,Od p l m→Od p (B l) m):∀ {n:Nat} {F:Nat→Ps} {v:Nat},(∀ t,Od p (F t) m)→Od p (shO B n F v) m
 | 0,F,v,_=>fun i _=>by simp [shO]; exact Cg.refl _ _
 | n+1,F,0,h=>by
  have ih:=ze3 hB (n:=n) (F:=fun t=>F (t+1)) (v:=0) fun t=>h (t+1)
  exact (h 0).add (hB _ ih)
 | n+1,F,v+1,h=>by
  have ih:=fun v=>ze3 hB (n:=n) (F:=fun t=>F (t+1)) (v:=v) fun t=>h (t+1)
  exact (ih v).add (hB _ (ih (v+1)))
theorem zmo {B:Ps→Ps} (h:Add B) {n:Nat} {F:Nat→Ps} {j:Nat}:∀ {m:Nat},n≤m→(∀ t,n≤t→F t=fun _=>0)→shO B m F j=shO B n F j:=fun {m} hm hF=>by
 obtain⟨d,rfl⟩:∃ d,m=n+d:=⟨m - n,#[O]⟩;induction d with
 | zero=>rfl
 | succ d ih =>
  rw [show n+(d+1)=n+d+1 by lia,zcN h (hF (n+d) #[O])];exact ih #[O]
theorem zmp {p X:Int}:∀ {n:Nat} {b l l':Ps},(∀ i,Cg p (l i) (l' i))→∀ i,Cg p (mq X n b l i) (mq X n b l' i)
 | 0,_,_,_,_,i=>Cg.refl _ _
 | n+1,b,l,l',h,i=>by
  have ih:=zmp (p:=p) (X:=X) (n:=n) (b:=fun t=>b (t+1)) h;simp only [mq];refine ((Cg.refl p _).mul (h i)).add (Cg.add ?_ ((Cg.refl p X).mul (ih i)));unfold Xl;split
  ·exact Cg.refl _ _
  ·exact ih _
theorem zet {p:Int} {B B':Ps→Ps} (hB:∀ l l',(∀ i,Cg p (l i) (l' i))→∀ i,Cg p (B l i) (B' l' i)):∀ {n:Nat} {F:Nat→Ps} {v:Nat} (i:Nat),Cg p (shO B n F v i) (shO B' n F v i)
 | 0,F,v,i=>Cg.refl _ _
 | n+1,F,0,i=>(Cg.refl p _).add (hB _ _ (fun i=>zet hB (n:=n) (F:=fun t=>F (t+1)) (v:=0) i) i)
 | n+1,F,v+1,i=>(zet hB (n:=n) (F:=fun t=>F (t+1)) (v:=v) i).add (hB _ _ (fun i=>zet hB (n:=n) (F:=fun t=>F (t+1)) (v:=v+1) i) i)
def zdy (p:Int) (q:List Int) (l:List (Int×Int)):List Int:=(l.filter fun a=>!hit p q a).map (·.1)
theorem zjG (p:Int) (q:List Int):∀ l:List (Int×Int),hits p q l+(zdy p q l).length=l.length
 | []=>rfl
 | a :: l=>by
  have ih:=zjG p q l;unfold hits zdy at ih ⊢;rw [ab] at ih ⊢;cases h:hit p q a
  ·rw [cn (by simp [h]),cm (by simp [h]),bm,bm];lia
  ·rw [cm h,cn (by simp [h]),bm,bm];lia
theorem zf3 {X:Int} {bad:List Int} (h:X∈bad):∀ m,m≤(aq m bad).flatten.count X
 | 0=>bz _
 | m+1=>by
  have ih:=zf3 h m;rw [cC,dI,List.count_append];have:=List.count_pos_iff.mpr h;lia
theorem zjH (bad:List Int):∀ m,(aq m bad).flatten.length=m*bad.length
 | 0=>by simp
 | m+1=>by
  rw [cC,dI,aA,zjH bad m,gZ];lia
theorem zf4 {p:Int} (hp:p∈zr) {d m s:Nat} (hd:1≤d) {q:List Int} (hq:IsP p (d+1) q) {l:List (Int×Int)} {g:Tm→Int} (L:Lst p (d+1) (l.map fun a=>(a.1,a.2,m)) s g):s≤m*(d+(zdy p q l).length):=by
 (refine bH fun hn=>?_)
 have rp:=zy hp;obtain⟨R,eR⟩:∃ R:List Int,R=(aq m (zdy p q l)).flatten:=⟨_,rfl⟩;have hRl:R.length=m*(zdy p q l).length:=by rw [eR,zjH]
 obtain⟨b,eb⟩:∃ b:Ps,b=fun t=>-(gl q t):=⟨_,rfl⟩
 obtain⟨F,eF⟩:∃ F:Nat→Ps,F=fun t=>if t=m then wpl R else fun _=>0:=⟨_,rfl⟩
 obtain⟨S,eS⟩:∃ S,S=R.length+1+d*m:=⟨_,rfl⟩;have hF:∀ t,Dg (F t) (S - d*t):=fun t i hi=>by
  rw [eF];show (if t=m then wpl R else fun _=>0) i=0;split
  ·next h=>subst h; exact zgV R i #[O]
  ·rfl
 have hFz:∀ t,m+1≤t→F t=fun _=>0:=fun t ht=>by
  rw [eF];show (if t=m then wpl R else fun _=>0)=_;rw [if_neg #[O]]
 have aM:=fun x=>zdR x (d+1) b
 obtain⟨h,eh⟩:∃ h:Tm→Int,h=fun t=>shO (mq 0 (d+1) b) (s+1) F t.2 t.1:=⟨_,rfl⟩
 have Ei:∀ i j,tz (d+1) (i,j)=i+d*j:=fun i j=>rfl
 have hmul:m*(d+(zdy p q l).length)=d*m+R.length:=by rw [hRl,Nat.mul_add,cV m d]
 have hmd:m≤d*m:=Nat.le_mul_of_pos_left m #[O];have hSs:S≤s:=by lia
 have y4:m+1≤s+1:=by lia
 have pF:∀ t,s≤tz (d+1) t→h t=0:=fun t ht=>by
  rw [eh];have ht:s≤t.1+d*t.2:=ht;exact zcv (S:=S) (v:=t.2) hF t.1 #[O]
 have oI:h (R.length,m)=1:=by
  rw [eh];show shO (mq 0 (d+1) b) (s+1) F m R.length=1;rw [zmo (aM 0) y4 hFz,zjF (aM 0),eF];show (if m=m then wpl R else fun _=>0) R.length=1;rw [if_pos rfl];exact zjE R
 obtain⟨s',rfl⟩:∃ s',s=s'+1:=⟨s - 1,#[O]⟩;have hz:=L.least h (fun co yE=>by
  rw [zhS (s:=s') #[O] fun t ht=>by rw [pF t #[O],cc]];obtain⟨q3,hq3,yE⟩:=bQ.mp yE;obtain⟨⟨X,Y⟩,ha,rfl⟩:=av.mp hq3;obtain⟨u,hu',yE⟩:=bQ.mp yE;obtain⟨v,wK,rfl⟩:=av.mp yE;have hu:u < m:=aJ.mp hu';have hv:v < m - u:=aJ.mp wK;rw [zmf];dsimp only;obtain⟨W,eW⟩:∃ W,W=s'+1+(d+1)+R.length+1:=⟨_,rfl⟩;have hH:∀ j,Dg (shO (mq 0 (d+1) b) (s'+1+1) F j) (S - d*j):=fun j=>zcv (v:=j) hF
  have e5:(fun j=>sh X (s'+1) (fun i=>h (i,j)) u)=fun j=>shO (mq X (d+1) b) (s'+1) (fun t=>sh X W (F t)) j u:=by
   funext j;have e50:shO (mq 0 (d+1) b) (s'+1+1) F j=shO (mq 0 (d+1) b) (s'+1) F j:=zcN (aM 0) (hFz (s'+1) #[O]);rw [← ziJ (S:=S) hF #[O],← e50,zcO (w:=s'+1) (w':=W) ((hH j).le #[O]) #[O],eh]
  rw [e5,← zfZ (F:=fun j=>shO (mq X (d+1) b) (s'+1) (fun t=>sh X W (F t)) j)];have aC:∀ d:Int,Add (fun (l:Ps) i=>d*l i):=fun d=>⟨fun u v=>by funext i; exact jq _ _ _⟩
  rw [zes (aM X) (aC Y) fun l=>zgQ X Y (d+1) b l];have hFW:∀ t,t≠m→Od p (sh X W (F t)) m:=fun t ht i _=>by
   have e:F t=fun _=>0:=by
    rw [eF];show (if t=m then wpl R else fun _=>0)=_;rw [if_neg ht]
   rw [e];have:=zce (b:=X) (c:=0) (n:=W) (u:=fun _=>0) (j:=i);simp only [cc] at this;rw [this];exact Cg.refl _ _
  cases hh:hit p q (X,Y) with
  | true =>
   have hY:zS p X q=Y:=of_decide_eq_true hh;have hz:Cg p Y (-(vl (d+1) b X)):=by
    have e2:vl (d+1) b X = -1*vl (d+1) (gl q) X:=by
     rw [← zl1,eb];exact zod fun t _=>by lia
    rw [e2,← hY];refine Cg.trans (znG (by rw [hq.1]; exact ag _)) (Cg.of_eq #[O])
   refine Cg.trans (zet (B':=fun l i=>mq X (d+1) b l i + -(vl (d+1) b X)*l i) (fun l l' hl i=>?_) u) (zgS (p:=p) (m:=m) (fun l r hl=>Od.less hl) (fun t=>?_) u #[O])
   ·exact (zmp hl i).add (hz.mul (hl i))
   ·by_cases ht:t=m
    ·intro i hi;lia
    ·exact (hFW t ht).le #[O]
  | false =>
   have hX:X∈zdy p q l:=av.mpr ⟨(X,Y),bv.mpr ⟨ha,by rw [hh]; rfl⟩,rfl⟩;refine ze3 (m:=m) (fun l hl=>(Od.mq hl).add (hl.mul Y)) (fun t=>?_) u hu;by_cases ht:t=m
   ·subst ht;rw [eF];show Od p (sh X W (if t=t then wpl R else fun _=>0)) t;rw [if_pos rfl];exact (zmn R W #[O]).le (by rw [eR]; exact zf3 hX t)
   ·exact hFW t ht) (R.length,m) (by rw [Ei]; lia)
 rw [oI] at hz;have:=Cg.eq hz #[D] #[O] (bP 0) #[O];cases this
end My
end
section
namespace My
open PySem PySem.Spec L2 PyProof.Rows
noncomputable def isAt (H:Hp) (q:List Int) (u:Value):Bool:=@decide (∃ b,u = .ref b∧H b=some (.tup (q.map V.int))) (ja _)
theorem zjI {p q:List Int} (h:some (HO.tup (p.map V.int))=some (HO.tup (q.map V.int))):p=q :=
 (List.map_inj_right fun a b z=>by simpa using z).mp (HO.tup.inj (aS h))
theorem zjJ {H:Hp} {q q':List Int} {b:Addr} (h:H b=some (.tup (q'.map V.int))):isAt H q (.ref b)=decide (q'=q):=by
 unfold isAt;rw [cN,@decide_eq_true_iff _ (ja _),decide_eq_true_iff];constructor
 ·rintro⟨b',eb,hb⟩;cases eb;exact zjI (h.symm.trans hb)
 ·rintro rfl;exact⟨b,rfl,h⟩
theorem zd1 {H:Hp} {q:List Int}:∀ {rs:List Addr} {qs:List (List Int)} {us:List Value},zbf H rs qs→zG (rs.map V.ref) us→us.any (isAt H q)=decide (q∈qs)
 | _,_,_,.nil,.nil=>by simp
 | r :: rs,q' :: qs,u :: us,.cons h t,.cons ru tu=>by
  have ih:=zd1 (q:=q) t tu;cases ru;rw [iJ,ih,zjJ h,cN,li,decide_eq_true_iff,decide_eq_true_iff,decide_eq_true_iff,aH];exact⟨fun z=>z.imp Eq.symm id,fun z=>z.imp Eq.symm id⟩
theorem zf5 {X:Cx} {K:ah} (hK:X.K=K) (hu:X.A.units+20 < cLine):OpR X (compareOp .NotIn) (fun x y H Q=>∃ (a l:Addr) (q:List Int) (rs:List Addr) (qs:List (List Int)),x = .ref a∧y = .ref l∧H a=some (.tup (q.map V.int))∧lT K H l (rs.map V.ref)∧zbf H rs qs∧Q (.bl (!decide (q∈qs))) H):=by
 subst hK;intro lR s σ H x y v u Q I rx ry h;obtain⟨a,l,q,rs,qs,rfl,rfl,ha,hl,hT,hQ⟩:=h;cases rx;cases ry;obtain⟨lU,r,pl,hz⟩:=I.list hl;refine SeqAt.notIn_listAt (isAt H q) pl.isList (fun w hw=>?_) ⟨.bl _,H,I,rfl,?_⟩
 ·have hw:w∈lU:=by simpa using hw
  obtain⟨j,hj⟩:=ci.mp hw;obtain⟨xf,sF⟩:=aw.mp hj;obtain⟨z,rO,rz⟩:=r.getE (j:=j) xf;obtain⟨b,rfl,hb⟩:=zN rO;obtain⟨q',qi,hH⟩:=Paired.get hT hb;have vV:lU.toArray[j]=w:=by simpa using sF
  rw [vV] at rz;cases rz;have hH:H b=some (.tup (q'.map V.int)):=hH;rw [zjJ hH];by_cases e:b=a
  ·subst e;rw [zjI (hH.symm.trans ha),decide_eq_true rfl];exact (EqD.same (K:=X.K) (H:=H) (d:=8) (a:=b)).at I X.A.in1 (.ref b) (.ref b) rfl rfl (by simp only [fK]; lia)
  ·have e2:=(EqD.tups (d:=8) e (me.of hH) (me.of ha) zla).at I X.A.in1 (.ref b) (.ref a) rfl rfl (by simp only [fK]; lia);have e4:((au (min (q'.map V.int).length (q.map V.int).length)).all (fun j=>decide (q'[j]? = q[j]?)) && (q'.map V.int).length == (q.map V.int).length)=decide (q'=q):=by
    rw [ab,ab,cN];simp only [fI,fJ,aJ,decide_eq_true_eq,beq_iff_eq];constructor
    ·rintro⟨h1,h2⟩;refine c9 fun j=>?_
     by_cases hj:j < q'.length
     ·exact h1 j #[O]
     ·rw [cg #[O],cg #[O]]
    ·rintro rfl;exact⟨fun _ _=>rfl,rfl⟩
   rw [← e4];exact e2
 ·rw [List.any_toArray,zd1 hT r];exact hQ
end My
end
section
namespace L2
open PySem PySem.Spec PyProof.Rows
theorem zdz:∀ (ns:List Int),(au ns.length).any (fun i=>ns.getD i 0 != 0)=ns.any (· != 0)
 | []=>rfl
 | b :: bs=>by
  rw [bm,gG,iJ,List.any_map,iJ];have ih:=zdz bs;have e:((fun i=>(b :: bs).getD i 0 != 0) ∘ lM)=fun i=>bs.getD i 0 != 0:=by funext i; rfl
  rw [e,ih];rfl
theorem zkF {X:Cx} {K:ah} (hK:X.K=K) (hc:X.calm=true):zbc X (.builtin "any") (fun xs H Q=>∃ (p:Addr) (ns:List Int),xs = [.ref p]∧lT K H p (ns.map V.int)∧Q (.bl (ns.any (· != 0))) H):=by
 subst hK;intro lR s σ H xs us Q I r h;obtain⟨p,bs,rfl,hq,q⟩:=h;obtain⟨u,rfl,rx⟩:=vals1 r;cases rx;obtain⟨lU,rv,pl,hz⟩:=I.list hq;have hl:=rv.length;rw [ab] at hl;have mj:p < s.heap.objs.size:=by obtain⟨_,_,e,_⟩:=pl; exact aF e
 refine call_any_walk (fk pl.isList ?_);refine⟨s.heap.objs.size,_,_,lU.toArray.size,_,_,fun i=>bs.getD i 0 != 0,rfl,lq (by simp [I.ok.hd hc]) s.heap.objs.size p (bh mj) lU.toArray,⟨⟨_,aB _ rfl,rfl,rfl⟩,pl.isList.push _⟩,fun i v s' Q' E' hP hQ=>?_,fun h' tk kk=>?_⟩
 ·have e1:lU[i]? = some v:=by simpa using hP
  obtain⟨hi,_⟩:=aw.mp e1;have nK:i < bs.length:=by lia
  obtain⟨u,hu,ru⟩:=rv.get (i:=i) (x:=V.int bs[i]) (by rw [af,ai nK]; rfl);rw [e1] at hu;cases hu;obtain⟨tk,ru⟩:=(show ∃ t,v=iB bs[i] t from ru);subst ru;have e2:bs.getD i 0=bs[i]:=by simp [nK]
  have hQ:Q' (bs.getD i 0 != 0) s':=hQ;rw [e2] at hQ;exact PyProof.Rows.truthy_int hQ
 ·rw [az,← hl,zdz];exact⟨.bl (bs.any (· != 0)),H,I.kept fun b o e=>kk b o (fun z=>by
   have z:b=s.heap.objs.size:=by simpa using z
   exact absurd (aF e) (by rw [z]; exact cb _)) (aj _ e),rfl,q⟩
end L2
end
section
namespace PySem
open PyProof.Rows
theorem zd8:isSubtype (.type "range_iterator") (.type "reversed")=pure false:=by rw [gi]; kernel_rfl
abbrev zhW (a b:Int):Obj:={ cls:=.type "range_iterator",data:=.fields #[rawInt (a+(bC a b 1 - 1)*1),rawInt (bC a b 1),rawInt (-1)] }
theorem zmq (r:Addr) (a b:Int) (t u v:Tok) (hs:(bo a && bo b && bo 1 && bo (-1) && bo (a - 1) && bo (bC a b 1))=true) :
  Meets (Builtin.«range.__reversed__» ⟨[.ref r],[]⟩) (fun _ R s=>s.heap.get? r=some { cls:=.type "range",dict:=none,data:=.fields #[.int a t,.int b u,.int 1 v],slots:=#[] }∧R (.ok (.ret (bg s.heap.objs.size))) { s with heap:=s.heap.push (zhW a b) }) :=
 .of_wp fun prog w A R s h=>by
  (obtain⟨hp,g,d,tk,os⟩:=s)
  obtain⟨hl,h⟩:=h
  wp_walk
  rw [hs];exact⟨_,rfl,h⟩
section
variable {prog:Program} {w:World} {A:Around} {E:Value→Shared→Prop} {s:Shared}
theorem znL {r:Addr} {a b:Int} {t u v:Tok} {Q:Value→Shared→Prop} (hr:IsRange s.heap r a b 1 t u v) (ha:-1000000≤a∧a < 1000000∧-1000000≤b∧b < 1000000)
  (h:Q (.ref s.heap.objs.size) { s with heap:=s.heap.push (zhW a b) }):wpAny (model prog w) A (call (.type "reversed") [.ref r]) Q E s:=by
 have hs:(bo a && bo b && bo 1 && bo (-1) && bo (a - 1) && bo (bC a b 1))=true:=by
  have hz:0≤bC a b 1∧bC a b 1≤2000000:=by
   (unfold bC)
   rw [if_pos #[D],Int.ediv_one];split <;> lia
  generalize bC a b 1=z at hz ⊢;unfold bo
  (simp only [fI,decide_eq_true_eq])
  lia
 (have hT:s.TypeIs (.ref r) "range":=⟨_,hr,rfl⟩)
 refine callType_other (U:="range_iterator") (Q₁:=fun obj s₁=>obj = .ref s.heap.objs.size∧s₁ = { s with heap:=s.heap.push (zhW a b) }) #[N] F.create_reversed ⟨_,_,F.mro_reversed⟩ F.made_reversed zd8 (jw _) ?_ ?_
 ·refine codeAny_of_tree ?_;show wpAny _ A.in1.in1 (do checkBuiltinCall "reversed.__new__" ⟨[.type "reversed",.ref r],[]⟩; again (.builtin "reversed.__new__" ⟨[.type "reversed",.ref r],[]⟩)) _ _ s;refine (ae (ck (jK _) (ak ⟨eY jR _,fg jL ?_⟩)))
  (rw [dG jR _])
  (unfold Builtin.«reversed.__new__»)
  refine (ae (ck (newClass_reversed _) ?_))
  try dsimp only
  refine (ae (ck (a:=()) (by first | rfl | kernel_rfl) (ae (ck (a:=()) (by first | rfl | kernel_rfl) ?_))))
  try dsimp only
  refine (ae (g7 hT F.slot_range_reversed.lookup ?_))
  try dsimp only
  refine (ae (ck (F.slot_range_reversed.bind _) ?_))
  try dsimp only
  show wpAny _ _ (if (jY "range.__reversed__" == dh)=true then _ else _) _ _ _;rw [if_neg (show ¬ ((jY "range.__reversed__" == dh)=true) from aR)];refine (ae (cr ?_));refine ae (m:=runValue (.call (.builtin "range.__reversed__") ⟨[.ref r],[]⟩)) (show wpAny _ _ (call (.builtin "range.__reversed__") [.ref r]) _ _ _ from fH F.slot_range_reversed hT F.entry_range_reversed (F.args_range_reversed_1 _) (zmq r a b t u v hs) ⟨hr,?_⟩)
  first
  | exact ak ⟨rfl,rfl⟩
  | exact ae (ak (ak ⟨rfl,rfl⟩))
 ·rintro obj s₁ ⟨rfl,rfl⟩
  (exact⟨⟨_,aB _ rfl,rfl⟩,h⟩)
end
end PySem
namespace L2
open PySem PySem.Spec PyProof.Rows
theorem zhX {X:Cx}:zbc X (.type "range") (fun xs H Q=>∃ i j:Int,xs = [.int i,.int j]∧∀ l,H l=none→Q (.ref l) (lW H l (.rng i j))):=by
 intro lR s σ H xs us Q I r h;obtain⟨i,j,rfl,q⟩:=h;cases r with
 | cons r1 r =>
  cases r with
  | cons r2 r =>
   cases r;obtain⟨t,rfl⟩:=r1;obtain⟨t',rfl⟩:=r2;refine call_range_2 ?_;exact⟨.ref s.heap.objs.size,_,I.laid (o:=.rng i j) (fun b o e=>aj _ e) (ag _) ⟨_,_,_,aB _ rfl⟩,rfl,q _ I.fresh⟩
def zp9 (ta:TA):TI:=fun σ H R=>ta σ H fun vs H1=>∃ (a:Addr) (i j:Int),vs = [.ref a]∧H1 a=some (.rng i j)∧(-1000000≤i∧i < 1000000∧-1000000≤j∧j < 1000000)∧R (zkf (i+((j - i).toNat:Int) - 1) (j - i).toNat) H1
theorem znM {X:Cx} {tg:Expr} {p pos:Pos} {a:Expr} {ta:TA} (hg:Gl X "reversed") (hm:X.mg "reversed" = none) (ha:PA X [a] ta) (hs:starEach [a] X.env = [(false,eval a X.env)]:=by rfl) :
  PI X tg (.Call (.Name "reversed" p) [a] [] pos) (zp9 ta):=by
 intro lR s σ H R I h;refine Call_ (zaV I hg hm boot_reversed (bn (thn (ha pos lR s σ H _ I h) fun us s1 ⟨vs,H1,I1,r1,q1⟩=>?_) hs rfl));obtain⟨l,i,j,e,hq,hb,q⟩:=q1;subst e;cases r1 with
 | cons r rr =>
  cases rr;cases r;obtain⟨t,u,v,hr⟩:=(show zao X.prog X.w H1 s1.heap l (.rng i j) from I1.hok l _ hq);refine znL hr hb ?_;have hsz:bC i j 1=((j - i).toNat:Int):=by
   (unfold bC)
   rw [if_pos #[D],Int.ediv_one];split <;> lia
  have I2:Inv X lR σ H1 { s1 with heap:=s1.heap.push (zhW i j) }:=I1.kept (t':=s1.toks) fun b o e=>aj _ e
  have hit:IsRangeIter (s1.heap.push (zhW i j)) s1.heap.objs.size ((i+((j - i).toNat:Int) - 1)+((0:Nat):Int)*(-1)) ((((j - i).toNat:Nat):Int) - ((0:Nat):Int)) (-1):=by
   have e1:(i+((j - i).toNat:Int) - 1)+((0:Nat):Int)*(-1)=i+(bC i j 1 - 1)*1:=by rw [hsz]; lia
   have e2:(((j - i).toNat:Nat):Int) - ((0:Nat):Int)=bC i j 1:=by rw [hsz]; lia
   rw [e1,e2];exact aB _ rfl
  refine gD hit ?_;refine⟨_,[s1.heap.objs.size],_,zkf (i+((j - i).toNat:Int) - 1) (j - i).toNat,H1,rfl,I2,zhC _ _ _,hit,fun b hb=>?_,q⟩;have z:b=s1.heap.objs.size:=by simpa using hb
  subst z;exact I1.fpOk (ag _) (I1.hok.fresh (ag _))
end L2
end
section
namespace My
open PySem L2 PyProof.Rows
def top (i:Nat):Stmt:=PySem.Challenge.pw_slipcurve_k39_whole_slips_make_curves_gr.main.body.getD i (.Pass ⟨0,0,0,0⟩)
abbrev zci:Stmt:=top 5
abbrev zcQ:Stmt:=top 6
abbrev za6:Stmt:=top 7
abbrev za7:Stmt:=top 9
abbrev zaz:Stmt:=top 10
abbrev zaN:Stmt:=top 11
abbrev zb2:Stmt:=top 12
abbrev zai:Stmt:=top 13
abbrev zbs:Stmt:=top 14
abbrev zaI:Stmt:=top 16
abbrev ze4:Stmt:=top 17
abbrev zbI:Stmt:=top 19
abbrev zcw:Stmt:=top 20
abbrev zbJ:Stmt:=top 21
abbrev zcx:Stmt:=top 22
abbrev zcy:Stmt:=top 23
abbrev zb3:Stmt:=top 24
abbrev zdA:Stmt:=top 25
abbrev zbt:Stmt:=top 26
abbrev zaR:Stmt:=top 27
abbrev zaf:Stmt:=top 28
abbrev za8:Stmt:=top 29
abbrev zbu:Stmt:=top 30
abbrev za3:Stmt:=top 32
abbrev za9:Stmt:=top 33
abbrev zbE:Stmt:=top 34
abbrev zbi:Stmt:=top 35
abbrev zcj:Stmt:=top 38
abbrev zaS:Stmt:=top 39
abbrev zb4:Stmt:=top 40
abbrev zdB:Stmt:=top 42
abbrev zcR:Stmt:=top 43
abbrev zcz:Stmt:=top 44
abbrev zcS:Stmt:=top 45
abbrev zb5:Stmt:=top 46
structure Adr where
 SlipError:Addr
 NoCurve:Addr
 NoPaper:Addr
 value_at:Addr
 inverse:Addr
 times_root:Addr
 moved_powers:Addr
 numbers_at:Addr
 vectors_of:Addr
 without:Addr
 first_relation:Addr
 first_sum:Addr
 heard_points:Addr
 fits:Addr
 width_of:Addr
 filled:Addr
 terms_of:Addr
 turned:Addr
 raised:Addr
 size_of:Addr
 moved:Addr
 weight_at:Addr
 first_terms:Addr
 least_curve:Addr
 check_curves:Addr
 curve_for:Addr
 without_x:Addr
 next_curve:Addr
 further:Addr
 roots_of:Addr
 paper_of:Addr
 paper_holds:Addr
 near_by:Addr
 l_cell:Addr
 l_draws:Addr
 l_code:Addr
 l_value:Addr
 law:Addr
structure Txt (K:ah) (mg:Str→Option Value) (t:Adr):Prop where
 len_:mg "len" = none
 range_:mg "range" = none
 list_:mg "list" = none
 tuple_:mg "tuple" = none
 min_:mg "min" = none
 max_:mg "max" = none
 int_:mg "int" = none
 all_:mg "all" = none
 zip_:mg "zip" = none
 enumerate_:mg "enumerate" = none
 sum_:mg "sum" = none
 dict_:mg "dict" = none
 reversed_:mg "reversed" = none
 sorted_:mg "sorted" = none
 any_:mg "any" = none
 ValueError_:mg "ValueError" = none
 g_MOST_PAPER_WEIGHT:∃ q,mg "MOST_PAPER_WEIGHT" = some (.int 4 q)
 x_SlipError:mg "SlipError" = some (.ref t.SlipError)
 x_NoCurve:mg "NoCurve" = some (.ref t.NoCurve)
 x_NoPaper:mg "NoPaper" = some (.ref t.NoPaper)
 sb:lI K t.SlipError (.type "BaseException")=some true
 m_value_at:mg "value_at" = some (.ref t.value_at)
 m_inverse:mg "inverse" = some (.ref t.inverse)
 m_times_root:mg "times_root" = some (.ref t.times_root)
 m_moved_powers:mg "moved_powers" = some (.ref t.moved_powers)
 m_numbers_at:mg "numbers_at" = some (.ref t.numbers_at)
 m_vectors_of:mg "vectors_of" = some (.ref t.vectors_of)
 m_without:mg "without" = some (.ref t.without)
 m_first_relation:mg "first_relation" = some (.ref t.first_relation)
 m_first_sum:mg "first_sum" = some (.ref t.first_sum)
 m_heard_points:mg "heard_points" = some (.ref t.heard_points)
 m_fits:mg "fits" = some (.ref t.fits)
 m_width_of:mg "width_of" = some (.ref t.width_of)
 m_filled:mg "filled" = some (.ref t.filled)
 m_terms_of:mg "terms_of" = some (.ref t.terms_of)
 m_turned:mg "turned" = some (.ref t.turned)
 m_raised:mg "raised" = some (.ref t.raised)
 m_size_of:mg "size_of" = some (.ref t.size_of)
 m_moved:mg "moved" = some (.ref t.moved)
 m_weight_at:mg "weight_at" = some (.ref t.weight_at)
 m_first_terms:mg "first_terms" = some (.ref t.first_terms)
 m_least_curve:mg "least_curve" = some (.ref t.least_curve)
 m_check_curves:mg "check_curves" = some (.ref t.check_curves)
 m_curve_for:mg "curve_for" = some (.ref t.curve_for)
 m_without_x:mg "without_x" = some (.ref t.without_x)
 m_next_curve:mg "next_curve" = some (.ref t.next_curve)
 m_further:mg "further" = some (.ref t.further)
 m_roots_of:mg "roots_of" = some (.ref t.roots_of)
 m_paper_of:mg "paper_of" = some (.ref t.paper_of)
 m_paper_holds:mg "paper_holds" = some (.ref t.paper_holds)
 m_near_by:mg "near_by" = some (.ref t.near_by)
 m_l_cell:mg "_law_cell" = some (.ref t.l_cell)
 m_l_draws:mg "_law_draws" = some (.ref t.l_draws)
 m_l_code:mg "_law_code" = some (.ref t.l_code)
 m_l_value:mg "_law_value" = some (.ref t.l_value)
 f_value_at:∃ fd,Fun K "value_at" "value_at" zci t.value_at fd∧Binds K fd ["p","polynomial","x"] []
 f_inverse:∃ fd,Fun K "inverse" "inverse" zcQ t.inverse fd∧Binds K fd ["p","number"] []
 f_times_root:∃ fd,Fun K "times_root" "times_root" za6 t.times_root fd∧Binds K fd ["p","polynomial","root"] []
 f_moved_powers:∃ fd,Fun K "moved_powers" "moved_powers" za7 t.moved_powers fd∧Binds K fd ["p","by","most","kept"] []
 f_numbers_at:∃ fd,Fun K "numbers_at" "numbers_at" zaz t.numbers_at fd∧Binds K fd ["p","terms","point"] []
 f_vectors_of:∃ fd,Fun K "vectors_of" "vectors_of" zaN t.vectors_of fd∧Binds K fd ["p","terms","points"] []
 f_without:∃ fd,Fun K "without" "without" zb2 t.without fd∧Binds K fd ["p","vector","times","other"] []
 f_first_relation:∃ fd,Fun K "first_relation" "first_relation" zai t.first_relation fd∧Binds K fd ["p","vectors"] []
 f_first_sum:∃ fd,Fun K "first_sum" "first_sum" zbs t.first_sum fd∧Binds K fd ["p","terms","points"] []
 f_heard_points:∃ fd,Fun K "heard_points" "heard_points" zaI t.heard_points fd∧Binds K fd ["code","row"] []
 f_fits:∃ fd,Fun K "fits" "fits" ze4 t.fits fd∧Binds K fd ["code","row","polynomial"] []
 f_width_of:∃ fd,Fun K "width_of" "width_of" zbI t.width_of fd∧Binds K fd ["curve"] []
 f_filled:∃ fd,Fun K "filled" "filled" zcw t.filled fd∧Binds K fd ["p","curve"] []
 f_terms_of:∃ fd,Fun K "terms_of" "terms_of" zbJ t.terms_of fd∧Binds K fd ["curve"] []
 f_turned:∃ fd,Fun K "turned" "turned" zcx t.turned fd∧Binds K fd ["lines","width"] []
 f_raised:∃ fd,Fun K "raised" "raised" zcy t.raised fd∧Binds K fd ["p","lines","by"] []
 f_size_of:∃ fd,Fun K "size_of" "size_of" zb3 t.size_of fd∧Binds K fd ["k","curve"] []
 f_moved:∃ fd,Fun K "moved" "moved" zdA t.moved fd∧Binds K fd ["p","curve","point"] []
 f_weight_at:∃ fd,Fun K "weight_at" "weight_at" zbt t.weight_at fd∧Binds K fd ["p","curve","point"] []
 f_first_terms:∃ fd,Fun K "first_terms" "first_terms" zaR t.first_terms fd∧Binds K fd ["k","many"] []
 f_least_curve:∃ fd,Fun K "least_curve" "least_curve" zaf t.least_curve fd∧Binds K fd ["p","k","points"] []
 f_check_curves:∃ fd,Fun K "check_curves" "check_curves" za8 t.check_curves fd∧Binds K fd ["k"] []
 f_curve_for:∃ fd,Fun K "curve_for" "curve_for" zbu t.curve_for fd∧Binds K fd ["code","row","m"] []
 f_without_x:∃ fd,Fun K "without_x" "without_x" za3 t.without_x fd∧Binds K fd ["lines"] []
 f_next_curve:∃ fd,Fun K "next_curve" "next_curve" za9 t.next_curve fd∧Binds K fd ["p","lines","number"] []
 f_further:∃ fd,Fun K "further" "further" zbE t.further fd∧Binds K fd ["p","known","lines"] []
 f_roots_of:∃ fd,Fun K "roots_of" "roots_of" zbi t.roots_of fd∧Binds K fd ["p","k","curve"] []
 f_paper_of:∃ fd,Fun K "paper_of" "paper_of" zcj t.paper_of fd∧Binds K fd ["code","row","t"] []
 f_paper_holds:∃ fd,Fun K "paper_holds" "paper_holds" zaS t.paper_holds fd∧Binds K fd ["code","row","t","paper"] []
 f_near_by:∃ fd,Fun K "near_by" "near_by" zb4 t.near_by fd∧Binds K fd ["code","row","t","paper"] []
 f_l_cell:∃ fd,Fun K "_law_cell" "_law_cell" zdB t.l_cell fd∧Binds K fd ["script","k"] []
 f_l_draws:∃ fd,Fun K "_law_draws" "_law_draws" zcR t.l_draws fd∧Binds K fd ["script","k","many","base"] []
 f_l_code:∃ fd,Fun K "_law_code" "_law_code" zcz t.l_code fd∧Binds K fd ["script","at","most_k","most_n"] []
 f_l_value:∃ fd,Fun K "_law_value" "_law_value" zcS t.l_value fd∧Binds K fd ["p","polynomial","x"] []
section
variable {P:Program} {w:World} {K:ah} {mg:Str→Option Value} {base:Heap} {t:Adr}
theorem zkG:FnScope ["script","k"] ["script","k"] (zg zdB):=#[S]
theorem zkH {fd:FuncData} (T:Txt K mg t) (F:Fun K "_law_cell" "_law_cell" zdB t.l_cell fd):FnOk P w K mg base CX0 1 t.l_cell fd ["script","k"] (zj9 K):=by
 refine F.ok zkG (fun vs H Q E h=>?_) (fun mM A outer s H vs Q E hr h=>?_)
 ·obtain⟨a,ns,k,rfl,_⟩:=h; rfl
 ·obtain⟨a,ns,k,rfl,hS,lY,k0,k1,q⟩:=h;refine⟨_,#[ze,#[zby,#[zT,#[zfz],#[pvx,1],#[zE,#[zJ],T.len_,da,#[za,#[pvx,0],#[zd]]],(zac _)],#[zk,#[zC,#[zY,#[zM],#[pvx,0],#[pvx,1]]]],#[zaq]],#[ze,#[zby,#[zT,#[zhh],#[zE,#[zJ],T.len_,da,#[za,#[pvx,0],#[zd]]],#[zh],(zac _)],#[zk,#[zC,#[zj,#[zH],#[zj,#[zQ],#[zh],#[pvx,1]],#[zh]]]],#[zaq]],#[zk,#[zC,#[zj,#[zH],#[zj,#[zL],#[zY,#[zM],#[pvx,0],#[zj,#[zL],#[pvx,1],#[zE,#[zJ],T.len_,da,#[za,#[pvx,0],#[zd]]]]],#[zh]],#[zj,#[zQ],#[zh],#[pvx,1]]]]]]],?_⟩;refine (lS rfl (lS rfl ⟨a,(lS rfl ⟨.inl hS,(lX rfl rfl (lS rfl ?_))⟩)⟩)); rw [ab];refine zbb (fun h=>?_) (fun h=>?_)
  ·have h:k < (ns.length:Int):=by simpa using h
   obtain⟨c,hc⟩:=zei k0 h;exact (lS rfl (lS rfl (ex4 a _ k _ ⟨rfl,rfl,hS,hc,q c⟩)))
  ·have h:¬ k < (ns.length:Int):=by simpa using h
   refine (lS rfl ⟨a,(lS rfl ⟨.inl hS,rfl,(lS rfl ?_)⟩)⟩);rw [ab];refine zbb (fun h2=>?_) (fun h2=>?_)
   ·exact (lS rfl (lX rfl rfl ⟨.inl ⟨#[D],#[D]⟩,(lX rfl rfl (q _))⟩))
   ·have h2:¬ V.int (ns.length:Int)=V.int 0:=by simpa using h2
    have Bp:0 < (ns.length:Int):=by
     have:(ns.length:Int)≠0:=fun z=>h2 (by rw [z])
     lia
    have m0:=aU k (show (ns.length:Int)≠0 by lia);have m1:=aO k Bp;obtain⟨c,hc⟩:=zei m0 m1;refine (lS rfl (lS rfl (lS rfl ⟨a,(lS rfl ⟨.inl hS,(lX rfl rfl ⟨by rw [ab]; exact Bp,a,_,_,_,rfl,rfl,hS,by rw [ab]; exact hc,(lX rfl rfl ⟨(by show (0:Int) < 1000003; decide),?_⟩)⟩)⟩)⟩)));exact (lS rfl (lX rfl rfl ⟨.inl ⟨#[D],#[D]⟩,(lX rfl rfl (q _))⟩))
theorem z8:FnScope ["script","k","many","base","primes","cell","rest","row","j","mash"] ["script","k","many","base"] (zg zcR):=#[S]
theorem ze5 {fd:FuncData} (T:Txt K mg t) (F:Fun K "_law_draws" "_law_draws" zcR t.l_draws fd):FnOk P w K mg base CX0 2 t.l_draws fd ["script","k","many","base"] (zio K):=by
 obtain⟨uV,sR,qu⟩:=T.f_l_cell;have vX:=zkH (P:=P) (w:=w) (base:=base) T sR;refine F.ok z8 (fun vs H Q E h=>?_) (fun mM A outer s H vs Q E hr h=>?_)
 ·obtain⟨a,ns,k,many,base,rfl,_⟩:=h;rfl
 ·obtain⟨a,ns,k,many,bs,rfl,hS,lY,k0,k1,m0,m1,b0,b1,q⟩:=h;refine⟨_,#[ze,#[zn,4,z8.nd,#[A],#[za4,#[zhu,#[zhu,#[zhu,#[zhu,#[zhu,#[za,#[zh],#[za,#[zh],#[za,#[zh],#[zd]]]]]]]]]]],#[ze,#[zn,5,z8.nd,#[A],#[zm,vX,(hr.mono #[D]),T.m_l_cell,sR.kp,qu,#[zI],#[za,#[pvx,0],#[za,#[pvx,1],#[zd]]]]],#[ze,#[zn,6,z8.nd,#[A],#[zh]],#[ze,#[zby,#[zT,#[zi1],#[pvx,5],#[zj,(@zoC _),#[zh],#[zh]],(zac _)],#[zk,#[zn,6,z8.nd,#[A],#[pvx,5]]],#[zaq]],#[ze,#[zn,7,z8.nd,#[A],#[zaC,#[zd]]],#[ze,#[zaX,bL,#[zZ,T.range_,#[za,#[pvx,2],#[zd]]],#[zf,8,z8.nd,#[A]],#[ze,#[zn,9,z8.nd,#[A],#[zj,#[zQ],#[zj,#[zL],#[pvx,5],#[zY,#[zgf],#[pvx,4],#[zj,#[zL],#[pvx,8],#[zh]]]],#[zj,#[zH],#[zh],#[zj,#[zQ],#[zj,#[zQ],#[zh],#[pvx,8]],#[pvx,8]]]]],#[ze,#[zn,9,z8.nd,#[A],#[zj,#[zH],#[zj,#[zH],#[pvx,9],#[zj,#[zQ],#[zj,#[zQ],#[zh],#[zj,#[zH],#[pvx,8],#[zh]]],#[zj,#[zH],#[pvx,8],#[zh]]]],#[zj,#[zQ],#[zh],#[pvx,1]]]],#[ze,#[zn,9,z8.nd,#[A],#[zj,#[zL],#[pvx,9],#[zY,#[zgf],#[pvx,4],#[zj,#[zL],#[zj,#[zH],#[zj,#[zQ],#[zh],#[pvx,8]],#[pvx,1]],#[zh]]]]],#[ze,#[zn,9,z8.nd,#[A],#[zj,#[zL],#[zj,#[zQ],#[zj,#[zQ],#[pvx,9],#[pvx,9]],#[pvx,9]],#[zY,#[zgf],#[pvx,4],#[zj,#[zL],#[zj,#[zH],#[pvx,8],#[zh]],#[zh]]]]],#[ze,#[zby,#[zT,#[zfA],#[pvx,6],#[zh],(zac _)],#[zk,#[zn,9,z8.nd,#[A],#[pvx,6]]],#[zaq]],#[ze,#[zc8,#[zi6,eX,gc,gd,#[zdI],#[pvx,7],#[za,#[zj,#[zL],#[pvx,9],#[pvx,3]],#[zd]]]],#[zk,#[zn,6,z8.nd,#[A],#[zj,#[zee],#[pvx,6],#[pvx,3]]]]]]]]]]],#[zk,#[zC,#[pvx,7]]]]]]]]],?_⟩;refine⟨by show 8≤sizeLine; rw [a7]; decide,fun tp ht=>?_⟩;have s1:zq H (lW H tp (.tup zmY)):=zb ht;refine (lS rfl (lS rfl (ex3 a ns k ⟨rfl,s1.seq hS,lY,k0,k1,fun c=>?_⟩)));refine (lS rfl (lX rfl rfl ⟨⟨#[D],#[D],#[D]⟩,(lX rfl rfl (lS rfl ?_))⟩));refine zbb (fun _=>(lS rfl ?_)) (fun _=>?_)
  all_goals
   refine⟨bz _,fun l hl=>?_⟩;have Bq:H l=none:=zq.free s1 hl;have p6:tp≠l:=zB zc hl;refine⟨_,rfl,many,rfl,#[O],#[O],zaZ (lo:=0) (n:=many.toNat) (fun i σ H'=>∃ (r:Int) (v8 v9:Option V) (ds:List Int),σ = [some (.ref a),some (.int k),some (.int many),some (.int bs),some (.ref tp),some (.int c),some (.int r),some (.ref l),v8,v9]∧zjd i bs ds∧zq H H'∧H' tp=some (.tup zmY)∧H' l=some (.lst (ds.map V.int)))
    ⟨_,none,none,[],rfl,⟨rfl,#[M]⟩,zat s1 Bq,by rw [zl p6]; exact zc,zc⟩ ?_ ?_⟩
   ·rintro i σ H2 hi ⟨r,v8,v9,ds,rfl,hd,s2,Br,xl⟩;obtain⟨q1,e1,q1p,q1l⟩:=zeG (0+(i:Int));obtain⟨q2,e2,q2p,q2l⟩:=zeG (3*(0+(i:Int))+k);obtain⟨q3,e3,q3p,q3l⟩:=zeG (0+(i:Int)+5);have c1:=aU c (show q1≠0 by lia);have c2:=aO c q1p;have nK:(i:Int) < 1000:=by lia
    refine (lS rfl (lS rfl (lS rfl (lX rfl rfl ⟨(by show (0:Int) < 8; decide),tp,_,_,_,rfl,rfl,me.of Br,e1,(lX rfl rfl ⟨q1p,(lS rfl (lX rfl rfl ⟨.inl ⟨#[D],#[D]⟩,(lS rfl (lX rfl rfl ⟨.inl ⟨#[O],#[O]⟩,(lX rfl rfl (lX rfl rfl ⟨.inl ⟨#[O],#[O]⟩,?_⟩))⟩))⟩))⟩)⟩))));refine (lS rfl (lS rfl (lX rfl rfl (lX rfl rfl ⟨.inl ⟨#[D],#[D]⟩,(lS rfl (lX rfl rfl (lX rfl rfl ⟨.inl ⟨#[O],#[O]⟩,(lX rfl rfl (lS rfl (lX rfl rfl ⟨.inl ⟨#[D],#[D]⟩,(lX rfl rfl ?_)⟩)))⟩)))⟩))));refine (lS rfl (lS rfl (lS rfl (lX rfl rfl ⟨.inl ⟨#[D],#[D]⟩,(lS rfl (lX rfl rfl (lX rfl rfl ⟨(by show (0:Int) < 8; decide),tp,_,_,_,rfl,rfl,me.of Br,e2,(lX rfl rfl ⟨q2p,?_⟩)⟩)))⟩))));generalize c % q1*(48271+2*(0+(i:Int))*(0+(i:Int)))+7919*(0+(i:Int)+1)*(0+(i:Int)+1)+104729*k=ms;have d1:=aU ms (show q2≠0 by lia);have d2:=aO ms q2p;refine (lS rfl (lS rfl (lX rfl rfl ⟨.inl ⟨#[O],#[O]⟩,(lS rfl (lX rfl rfl ⟨.inr ⟨#[O],#[O]⟩,(lS rfl (lS rfl (lX rfl rfl (lX rfl rfl ⟨(by show (0:Int) < 8; decide),tp,_,_,_,rfl,rfl,me.of Br,e3,(lX rfl rfl ⟨q3p,?_⟩)⟩))))⟩))⟩)));refine (lS rfl (lX rfl rfl (lS rfl ?_)));have Ac:=hd.1;refine zbb (fun _=>(lS rfl ?_)) (fun _=>?_)
    all_goals
     refine⟨_,rfl,.inl ⟨rfl,_,lT.of xl⟩,_,rfl,_,rfl,_,_,rfl,rfl,b0,l,_,_,rfl,rfl,xl,zay (by rw [ab]; lia),?_⟩;refine (lS rfl (lS rfl (lX rfl rfl ⟨⟨b0,b1⟩,?_⟩)));refine (ex4 _ _ _ (ds++[_]) ⟨rfl,⟨by rw [aA,Ac]; rfl,fun d hm=>?_⟩,zat s2 Bq,by rw [zl p6]; exact Br,by rw [zc,ap]; rfl⟩); rcases bi.mp hm with hm | hm
     ·exact hd.2 d hm
     ·have e:=bS.mp hm;rw [e];exact⟨aU _ #[O],aO _ b0⟩
   ·rintro σ H2 ⟨r,v8,v9,ds,rfl,hd,s2,Br,xl⟩;exact (lS rfl (q l ds H2 Bq s2 hd xl))
theorem zbj:FnScope ["script","at","most_k","most_n","plan","primes","p","k","many","left"] ["script","at","most_k","most_n"] (zg zcz):=#[S]
theorem zkI {fd:FuncData} (T:Txt K mg t) (F:Fun K "_law_code" "_law_code" zcz t.l_code fd):FnOk P w K mg base CX0 3 t.l_code fd ["script","at","most_k","most_n"] (zka K):=by
 obtain⟨qv,nF,nG⟩:=T.f_l_draws;have pG:=ze5 (P:=P) (w:=w) (base:=base) T nF;refine F.ok zbj (fun vs H Q E h=>?_) (fun mM A outer s H vs Q E hr h=>?_)
 ·obtain⟨a,ns,at',mk,mn,rfl,_⟩:=h;rfl
 ·obtain⟨a,ns,at',mk,mn,rfl,hS,lY,a0,a1,k1,k5,kn,n16,q⟩:=h;refine⟨_,#[ze,#[zn,4,zbj.nd,(cJ rfl),#[zm,pG,(hr.mono #[D]),T.m_l_draws,nF.kp,nG,#[zI],#[za,#[pvx,0],by exact #[za,#[pvx,1],#[za,#[zh],#[za,#[zh],#[zd]]]]]]],(by exact (@zld _ 5 _ _ _ _ _ _ _ [5,7,11,13,17,19,23,29,31,37,41,43,47,53,59,61,67,71,73,79,83,89,97] #[N] zbj.nd rfl #[A] (by first | exact .inl rfl | exact .inr rfl) (by exact #[ze,#[zn,6,zbj.nd,#[A],#[zY,#[zM],#[zaC,#[za,#[zY,#[zM],#[pvx,5],#[zj,#[zL],#[zY,#[zM],#[pvx,4],#[zh]],#[zh]]],#[za,#[zY,#[zM],#[pvx,5],#[zj,#[zL],#[zY,#[zM],#[pvx,4],#[zh]],#[zh]]],#[zd]]]],#[zj,#[zL],#[zY,#[zM],#[pvx,4],#[zh]],#[zh]]]],#[ze,#[zn,7,zbj.nd,#[A],#[zj,#[zH],#[zh],#[zj,#[zL],#[zY,#[zM],#[pvx,4],#[zh]],#[zE,#[zfB],T.min_,k6,#[za,#[pvx,2],#[za,#[pvx,6],#[zd]]]]]]],#[ze,#[zn,8,zbj.nd,#[A],#[zj,#[zH],#[pvx,7],#[zj,#[zL],#[zY,#[zM],#[pvx,4],#[zh]],#[zj,#[zH],#[zj,#[zaj],#[zE,#[zfB],T.min_,k6,#[za,#[pvx,3],#[za,#[pvx,6],#[zd]]]],#[pvx,7]],#[zh]]]]],#[ze,#[zn,9,zbj.nd,(cJ rfl),#[zas,(@zfl _ rfl),T.list_,boot_list,#[za,#[zas,(@zht _),T.range_,jG,#[za,#[pvx,6],#[zd]]],#[zd]]]],#[zk,#[zC,#[za4,#[za,#[pvx,6],#[za,#[pvx,7],#[za,#[zas,#[zaQ],T.tuple_,ij,#[za,#[zD,(CompSc.of (N':=["j","left","plan"]) (ix:=[none,some 9,some 4]) (zg zcz) ["script","at","most_k","most_n","plan","primes","p","k","many","left"] rfl rfl #[N]),#[z9],#[zZ,T.range_,#[za,#[pvx,8],#[zd]]],(fun _ _ _ _=>#[zf,0,(show (["j","left","plan"]:List Str).Nodup from #[N]),#[A]]),(fun _ _ _ _=>#[zo]),(fun _ _ _ _=>(@zoO _ (K) _ _ _ _ _ _ _ _ _ _ _ rfl eX PySem.F.slot_list_pop PySem.F.type_list_pop (@zk3 _) #[pvx,1] #[za,#[zj,#[zL],#[zY,#[za5,(K)],#[pvx,2],#[zj,#[zH],#[zh],#[pvx,0]]],#[zE,#[zbm,(K)],T.len_,da,#[za,#[pvx,1],#[zd]]]],#[zd]] (by rfl) (by rfl) (by rfl) (by rfl) (by rfl)))],#[zd]]],#[zd]]]]]]]]]]])))],?_⟩;refine (lS rfl (lS rfl (ex5 a ns at' 20 27720 ⟨rfl,hS,lY,a0,a1,#[D],#[D],#[D],#[D],fun l ds H1 hl s1 hd oR=>?_⟩)));have Ac:ds.length=20:=hd.1;have dat:∀ m:Int,0≤m→m < 20→∃ c:Int,atI (ds.map V.int) m=some (.int c):=fun m h0 h1=>zei h0 #[O]
  refine⟨by show 23≤sizeLine; rw [a7]; decide,fun pr Cw=>?_⟩;have Ek:l≠pr:=zB oR Cw;obtain⟨d0,ed0⟩:=dat 0 #[D] #[D];obtain⟨d1,ed1⟩:=dat 1 #[D] #[D];obtain⟨d2,ed2⟩:=dat 2 #[D] #[D];obtain⟨d3,ed3⟩:=dat 3 #[D] #[D];have oK:(lW H1 pr (.lst (zr.map V.int))) l=some (.lst (ds.map V.int)):=by rw [zl Ek]; exact oR
  obtain⟨p1,mp1,ep1⟩:=zlh (ns:=zr) (k:=d0 % 23) (aU _ #[D]) (aO _ #[D]);obtain⟨p2,mp2,ep2⟩:=zlh (ns:=zr) (k:=d0 % 3) (aU _ #[D]) (by have:=aO d0 (show (0:Int) < 3 by decide); have e:(zr.length:Int)=23:=rfl; lia);obtain⟨p,ep,hpp⟩:=zoP (x:=p1) (y:=p2) (m:=d1 % 2) (aU _ #[D]) (aO _ #[D]);have mp:p∈zr:=by rcases hpp with e | e <;> rw [e] <;> assumption
  have rp:=zy mp;refine⟨_,rfl,_,rfl,l,_,_,_,rfl,rfl,lT.of oK,ed0,_,_,rfl,rfl,(by show (0:Int) < 23; decide),pr,_,_,_,rfl,rfl,lT.of zc,ep1,
   _,rfl,_,rfl,l,_,_,_,rfl,rfl,lT.of oK,ed0,_,_,rfl,rfl,(by show (0:Int) < 3; decide),pr,_,_,_,rfl,rfl,lT.of zc,ep2,zaE,fun l2 qe=>?_⟩
  have El:l≠l2:=zB oK qe;have vG:(lW (lW H1 pr (.lst (zr.map V.int))) l2 (.lst [.int p1,.int p2])) l=some (.lst (ds.map V.int)):=by rw [zl El]; exact oK
  refine (lS rfl (ex4 l _ _ _ ⟨rfl,rfl,lT.of vG,ed1,(lX rfl rfl ⟨(by show (0:Int) < 2; decide),l2,_,_,_,rfl,rfl,lT.of zc,ep,?_⟩)⟩));have vD:(0:Int) < (if p < mk then p else mk):=by split <;> lia
  have rQ:(if p < mk then p else mk)≤mk:=by split <;> lia
  have Cn:(if p < mk then p else mk)≤p:=by split <;> lia
  refine⟨_,rfl,l,_,_,_,rfl,rfl,lT.of vG,ed2,_,rfl,_,rfl,_,_,rfl,_,_,rfl,rfl,vD,_,_,rfl,rfl,?_⟩;generalize (if p < mk then p else mk)=mm at vD rQ Cn ⊢;have vE:=aU d2 (show mm≠0 by lia);have Cm:=aO d2 vD;have vU:(if p < mn then p else mn)≤mn:=by split <;> lia
  have uJ:(if p < mn then p else mn)≤p:=by split <;> lia
  have hn3:mm≤(if p < mn then p else mn):=by split <;> lia
  refine (lS rfl (lS rfl (ex4 l _ _ _ ⟨rfl,rfl,lT.of vG,ed3,(lS rfl (lS rfl ⟨_,_,rfl,(lS rfl (lX rfl rfl (lX rfl rfl (lX rfl rfl ⟨#[O],(lX rfl rfl ?_)⟩))))⟩))⟩)));generalize (if p < mn then p else mn)=nn at vU uJ hn3 ⊢;have hq0:=aU d3 (show nn - (1+d2 % mm)+1≠0 by lia);have pE:=aO d3 (show 0 < nn - (1+d2 % mm)+1 by lia);refine (lS rfl ⟨p,rfl,fun r Bo=>⟨r,p,rfl,zc,#[O],#[O],fun lf Em=>?_⟩⟩);have yZ:l≠r:=zB vG Bo;have Bs:l≠lf:=by
   refine zB (H:=lW (lW (lW H1 pr (.lst (zr.map V.int))) l2 (.lst [.int p1,.int p2])) r (.rng 0 p)) (o:=.lst (ds.map V.int)) ?_ Em;rw [zl yZ]; exact vG
  have sA:zq H (lW (lW H1 pr (.lst (zr.map V.int))) l2 (.lst [.int p1,.int p2])):=(s1.trans (zb Cw)).trans (zb qe);have sB:=(sA.trans (zb (o:=.rng 0 p) Bo)).trans (zb (o:=.lst ((zbR 0 p.toNat).map V.int)) Em);have En:H lf=none:=(sA.trans (zb (o:=.rng 0 p) Bo)).free Em;obtain⟨nd0,rg0⟩:=zkb p;refine⟨_,rfl,_,rfl,_,rfl,_,rfl,#[O],#[O],zK (n:=(1+d2 % mm+d3 % (nn - (1+d2 % mm)+1)).toNat) (fun i ys H'=>∃ xs ls:List Int,ys=xs.map V.int∧xs.length=i∧zq H H'∧H' l=some (.lst (ds.map V.int))∧H' lf=some (.lst (ls.map V.int))∧ls.length+i=p.toNat∧(xs++ls).Nodup∧∀ y∈xs++ls,0≤y∧y < p)
   ⟨[],zbR 0 p.toNat,rfl,rfl,sB,by rw [zl Bs,zl yZ]; exact vG,zc,by rw [zcW]; rfl,by simpa using nd0,by simpa using rg0⟩ (fun i ys H' hi _=>hi) (fun ys H' _=>ag _) ?_ ?_⟩
  ·rintro i x ys H4 H5 hi ⟨xs,ls,rfl,AW,s4,yF,xm,uE,nd,rg⟩ ⟨rfl,rfl⟩;refine gY ?_;obtain⟨c,ec⟩:=dat (4+(0+(i:Int))) #[O] #[O];have lpos:0 < ls.length:=by lia
   have lm:((ls.map V.int).length:Int)=(ls.length:Int):=by rw [ab]
   have c0:=aU c (show (ls.length:Int)≠0 by lia);have c1:=aO c (show (0:Int) < ls.length by lia);have o9:=a7;obtain⟨y,ey⟩:∃ y,ls[(c % (ls.length:Int)).toNat]? = some y:=⟨ls[(c % (ls.length:Int)).toNat]'#[O],#[M]⟩;refine (lS rfl ⟨.inl ⟨rfl,_,lT.of xm⟩,(lS rfl (lS rfl (lX rfl rfl (ex4 l _ _ _ ⟨rfl,rfl,lT.of yF,ec,(lS rfl ⟨lf,(lS rfl ⟨.inl (lT.of xm),(lX rfl rfl ⟨(by rw [lm]; lia),lf,_,_,(c % (ls.length:Int)).toNat,.int y,rfl,rfl,xm,?_⟩)⟩)⟩)⟩))))⟩);rw [lm];refine⟨#[O],#[O],by rw [ab]; exact iz c0 c1,by rw [af,ey]; rfl,zay (by rw [ab]; lia),xs++[y],ls.eraseIdx (c % (ls.length:Int)).toNat,by rw [ap]; rfl,by rw [aA,AW]; rfl,zat s4 En,by rw [zl Bs]; exact yF,by rw [zc,zfL],?_,zm0 ey nd rg⟩;rw [List.length_eraseIdx];split <;> lia
  ·rintro ys H4 D ⟨xs,ls,rfl,AW,s4,yF,xm,uE,nd,rg⟩ hD;refine⟨D,(lS rfl (.inl ⟨lT.of zc,fun tt htt=>⟨by show 3≤sizeLine; rw [a7]; decide,fun c hc=>?_⟩⟩))⟩;have s5:=(s4.trans (zb (o:=.lst (xs.map V.int)) hD)).trans (zb (o:=.tup (xs.map V.int)) htt);refine q c tt p _ xs _ (s5.free hc) (s5.trans (zb hc)) ⟨mp,#[O],#[O],#[O],#[O],(gA.mp nd).1,fun y hy=>rg y (ba _ hy)⟩ zc ?_;rw [zl (zB zc hc)];exact zc
theorem zbk:FnScope ["p","polynomial","x","total","power","number"] ["p","polynomial","x"] (zg zcS):=#[S]
theorem ziL {fd:FuncData} (T:Txt K mg t) (F:Fun K "_law_value" "_law_value" zcS t.l_value fd):FnOk P w K mg base CX0 1 t.l_value fd ["p","polynomial","x"] (ziq K):=by
 refine F.ok zbk (fun vs H Q E h=>?_) (fun mM A outer s H vs Q E hr h=>?_)
 ·obtain⟨p,x,a,cs,rfl,_⟩:=h;rfl
 ·obtain⟨p,x,a,cs,rfl,hS,p0,p1,x0,x1,q⟩:=h;refine⟨_,#[ze,#[zn,3,zbk.nd,#[A],#[zh]],#[ze,#[zn,4,zbk.nd,#[A],#[zh]],#[ze,#[zaX,bL,#[zlb,#[pvx,1]],#[zf,5,zbk.nd,#[A]],#[ze,#[zn,3,zbk.nd,#[A],#[zj,#[zL],#[zj,#[zH],#[pvx,3],#[zj,#[zQ],#[pvx,5],#[pvx,4]]],#[pvx,0]]],#[zk,#[zn,4,zbk.nd,#[A],#[zj,#[zL],#[zj,#[zQ],#[pvx,4],#[pvx,2]],#[pvx,0]]]]]],#[zk,#[zC,#[pvx,3]]]]]],?_⟩;refine (lS rfl ⟨a,rfl,?_⟩);rcases hS with hS | hS
  ·refine .inl ⟨⟨_,hS⟩,zc9 (K:=K) (a:=a) (xs:=cs.map V.int) (fun i σ H'=>H'=H∧∃ (mf power:Int) (nb:Option V),σ = [some (.int p),some (.ref a),some (.int x),some (.int mf),some (.int power),nb]∧0≤power∧power≤97∧lv p x mf power (cs.drop i)=lv p x 0 1 cs)
    ⟨rfl,0,1,none,rfl,#[D],#[D],rfl⟩ (fun i σ H' _ ⟨e,_⟩=>by rw [e]; exact hS) ?_ ?_⟩
   ·rintro i y σ H1 hy ⟨rfl,mf,power,nb,rfl,w0,w1,hl⟩;obtain⟨c,rfl,hc⟩:=zam hy;have m0:=aU (power*x) (show p≠0 by lia);have m1:=aO (power*x) p0;refine (lS rfl (lS rfl (lS rfl (lX rfl rfl ⟨.inr ⟨#[O],#[O]⟩,(lX rfl rfl (lS rfl (lX rfl rfl ⟨p0,?_⟩)))⟩))));refine (lS rfl (lS rfl (lX rfl rfl ⟨.inl ⟨#[O],#[O]⟩,(lS rfl (lX rfl rfl ⟨p0,?_⟩))⟩)));exact⟨rfl,_,_,_,rfl,m0,#[O],(zje hc).symm.trans hl⟩
   ·rintro σ H1 ⟨rfl,mf,power,nb,rfl,w0,w1,hl⟩;rw [ab,gT] at hl;have hl:mf=lv p x 0 1 cs:=hl;rw [zjc p0] at hl;rw [← hl] at q;exact (lS rfl q)
  ·refine .inr ⟨⟨_,hS⟩,zmN (K:=K) (a:=a) (xs:=cs.map V.int) (fun i σ H'=>H'=H∧∃ (mf power:Int) (nb:Option V),σ = [some (.int p),some (.ref a),some (.int x),some (.int mf),some (.int power),nb]∧0≤power∧power≤97∧lv p x mf power (cs.drop i)=lv p x 0 1 cs)
    ⟨rfl,0,1,none,rfl,#[D],#[D],rfl⟩ (fun i σ H' _ ⟨e,_⟩=>by rw [e]; exact hS) ?_ ?_⟩
   ·rintro i y σ H1 hy ⟨rfl,mf,power,nb,rfl,w0,w1,hl⟩;obtain⟨c,rfl,hc⟩:=zam hy;have m0:=aU (power*x) (show p≠0 by lia);have m1:=aO (power*x) p0;refine (lS rfl (lS rfl (lS rfl (lX rfl rfl ⟨.inr ⟨#[O],#[O]⟩,(lX rfl rfl (lS rfl (lX rfl rfl ⟨p0,?_⟩)))⟩))));refine (lS rfl (lS rfl (lX rfl rfl ⟨.inl ⟨#[O],#[O]⟩,(lS rfl (lX rfl rfl ⟨p0,?_⟩))⟩)));exact⟨rfl,_,_,_,rfl,m0,#[O],(zje hc).symm.trans hl⟩
   ·rintro σ H1 ⟨rfl,mf,power,nb,rfl,w0,w1,hl⟩;rw [ab,gT] at hl;have hl:mf=lv p x 0 1 cs:=hl;rw [zjc p0] at hl;rw [← hl] at q;exact (lS rfl q)
theorem zbM:FnScope ["p","polynomial","x","value","number"] ["p","polynomial","x"] (zg zci):=#[S]
theorem zd2 {fd:FuncData} (T:Txt K mg t) (F:Fun K "value_at" "value_at" zci t.value_at fd):FnOk P w K mg base CX0 1 t.value_at fd ["p","polynomial","x"] (zdX K):=by
 refine F.ok zbM (fun vs H Q E h=>?_) (fun mM A outer s H vs Q E hr h=>?_)
 ·obtain⟨p,x,a,cs,rfl,_⟩:=h;rfl
 ·obtain⟨p,x,a,cs,rfl,hS,p0,p1,x0,x1,q⟩:=h;refine⟨_,#[ze,#[zn,3,zbM.nd,#[A],#[zh]],#[ze,#[zaX,bL,(@zoN _ _ _ _ _ _ rfl T.reversed_ #[za,#[pvx,1],#[zd]] (by rfl)),#[zf,4,zbM.nd,#[A]],#[zk,#[zn,3,zbM.nd,#[A],#[zj,#[zL],#[zj,#[zH],#[zj,#[zQ],#[pvx,3],#[pvx,2]],#[pvx,4]],#[pvx,0]]]]],#[zk,#[zC,#[pvx,3]]]]],?_⟩;refine (lS rfl ⟨a,cs.map V.int,rfl,?_⟩);rcases hS with hS | hS
  ·refine .inl ⟨hS,?_⟩;rw [ab];refine zik (n:=cs.length) (fun i σ H'=>H'=H∧∃ nb,σ = [some (.int p),some (.ref a),some (.int x),some (.int (zS p x (cs.drop (cs.length - i)))),nb]) ⟨rfl,none,by rw [eK,gT]; rfl⟩
    (fun i σ H' hi ⟨e,_⟩=>⟨hi,cs.map V.int,by rw [e]; exact hS,by rw [ab]⟩) (fun σ H' _=>ag _) ?_ ?_
   ·rintro i y σ H1 H2 hi ⟨rfl,nb,rfl⟩ ⟨rfl,hy⟩;obtain⟨c,rfl,hc⟩:=zam (hy _ hS);have v0:=zcC (x:=x) p0 (cs.drop (cs.length - i));have v1:=zcD (x:=x) p0 (cs.drop (cs.length - i));refine (lS rfl (lS rfl (lX rfl rfl ⟨.inl ⟨#[O],#[O]⟩,(lS rfl (lX rfl rfl (lS rfl (lX rfl rfl ⟨p0,?_⟩))))⟩)));refine⟨rfl,some (.int c),?_⟩;rw [zfM hi hc];show _ = [some (V.int p),_,_,some (V.int ((c+x*zS p x (cs.drop (cs.length - i))) % p)),_];rw [Int.add_comm c,iY x];rfl
   ·rintro σ H1 ⟨rfl,nb,rfl⟩;rw [fC,fz];exact (lS rfl q)
  ·refine .inr ⟨hS,?_⟩;rw [ab];refine zik (n:=cs.length) (fun i σ H'=>H'=H∧∃ nb,σ = [some (.int p),some (.ref a),some (.int x),some (.int (zS p x (cs.drop (cs.length - i)))),nb]) ⟨rfl,none,by rw [eK,gT]; rfl⟩
    (fun i σ H' hi ⟨e,_⟩=>⟨hi,cs.map V.int,by rw [e]; exact hS,by rw [ab]⟩) (fun σ H' _=>ag _) ?_ ?_
   ·rintro i y σ H1 H2 hi ⟨rfl,nb,rfl⟩ ⟨rfl,hy⟩;obtain⟨c,rfl,hc⟩:=zam (hy _ hS);have v0:=zcC (x:=x) p0 (cs.drop (cs.length - i));have v1:=zcD (x:=x) p0 (cs.drop (cs.length - i));refine (lS rfl (lS rfl (lX rfl rfl ⟨.inl ⟨#[O],#[O]⟩,(lS rfl (lX rfl rfl (lS rfl (lX rfl rfl ⟨p0,?_⟩))))⟩)));refine⟨rfl,some (.int c),?_⟩;rw [zfM hi hc];show _ = [some (V.int p),_,_,some (V.int ((c+x*zS p x (cs.drop (cs.length - i))) % p)),_];rw [Int.add_comm c,iY x];rfl
   ·rintro σ H1 ⟨rfl,nb,rfl⟩;rw [fC,fz];exact (lS rfl q)
theorem zaY:FnScope ["p","number","product","square","left"] ["p","number"] (zg zcQ):=#[S]
theorem ziM {fd:FuncData} (T:Txt K mg t) (F:Fun K "inverse" "inverse" zcQ t.inverse fd):FnOk P w K mg base CX0 1 t.inverse fd ["p","number"] (zir K):=by
 refine F.ok zaY (fun vs H Q E h=>?_) (fun mM A outer s H vs Q E hr h=>?_)
 ·obtain⟨p,h,rfl,_⟩:=h;rfl
 ·obtain⟨p,hh,rfl,mp,h0,h1,q⟩:=h;refine⟨_,#[ze,#[zn,2,zaY.nd,#[A],#[zh]],#[ze,#[zn,3,zaY.nd,#[A],#[zj,#[zL],#[pvx,1],#[pvx,0]]],#[ze,#[zn,4,zaY.nd,#[A],#[zj,#[zaj],#[pvx,0],#[zh]]],#[ze,#[zhf,bL,#[zT,#[zfA],#[pvx,4],#[zh],(zac _)],#[ze,#[zby,#[zT,#[zhh],#[zj,#[zL],#[pvx,4],#[zh]],#[zh],(zac _)],#[zk,#[zn,2,zaY.nd,#[A],#[zj,#[zL],#[zj,#[zQ],#[pvx,2],#[pvx,3]],#[pvx,0]]]],#[zaq]],#[ze,#[zn,3,zaY.nd,#[A],#[zj,#[zL],#[zj,#[zQ],#[pvx,3],#[pvx,3]],#[pvx,0]]],#[zk,#[zid,4,zaY.nd,#[A],#[zh],zkZ]]]]],#[zk,#[zC,#[pvx,2]]]]]]],?_⟩;have rp:=zy mp;have e0:=aU hh (show p≠0 by lia);have e1:=aO hh (show 0 < p by lia);refine (lS rfl (lS rfl (lX rfl rfl ⟨(by show 0 < p; lia),(lS rfl (lX rfl rfl ?_))⟩)));refine zkY (fun σ H'=>H'=H∧∃ (prod sq left:Int) (n:Nat),σ = [some (.int p),some (.int hh),some (.int prod),some (.int sq),some (.int left)]∧0≤prod∧prod < p∧0≤sq∧sq < p∧0≤left∧left < 2 ^ n∧zcE p n prod sq left=inv p hh) (fun σ _=>zoQ σ)
   ⟨rfl,1,hh % p,p - 2,7,rfl,#[O],#[O],e0,e1,#[O],#[O],rfl⟩ ?_ ?_
  ·rintro σ H1 ⟨rfl,prod,sq,left,n,rfl,b0,b1,s0,s1,l0,l1,hi⟩;refine (lS rfl (lX rfl rfl (lS rfl ?_)));refine zbb (fun hl=>?_) (fun hl=>?_)
   ·have hl:0 < left:=by simpa using hl
    obtain⟨m,rfl⟩:∃ m,n=m+1:=by
     cases n with
     | zero=>lia
     | succ m=>exact⟨m,rfl⟩
    rw [zgr hl l1] at hi;have l2:left / 2 < 2 ^ m:=by
     have:(2:Int) ^ (m+1)=2 ^ m*2:=fB ..;lia
    have m0:=aU (prod*sq) (show p≠0 by lia);have m1:=aO (prod*sq) (show 0 < p by lia);have n0:=aU (sq*sq) (show p≠0 by lia);have n1:=aO (sq*sq) (show 0 < p by lia);refine (lS rfl (lX rfl rfl ⟨(by show (0:Int) < 2; decide),rfl,(lS rfl ?_)⟩)); refine zbb (fun ho=>?_) (fun ho=>?_)
    ·have ho:left % 2=1:=by simpa using ho
     rw [if_pos ho] at hi;refine (lS rfl (lS rfl (lX rfl rfl ⟨.inl ⟨#[O],#[O]⟩,(lS rfl (lX rfl rfl ⟨(by show 0 < p; lia),?_⟩))⟩)));refine (lS rfl (lS rfl (lX rfl rfl ⟨.inl ⟨#[O],#[O]⟩,(lS rfl (lX rfl rfl ⟨(by show 0 < p; lia),?_⟩))⟩)));refine (lS rfl (lX rfl rfl ⟨⟨#[D],#[D]⟩,⟨rfl,_,_,_,m,rfl,m0,m1,n0,n1,#[O],l2,hi⟩,?_⟩));show (left / 2).toNat < left.toNat;lia
    ·have ho:¬ left % 2=1:=by simpa using ho
     rw [if_neg ho] at hi;refine (lS rfl (lS rfl (lX rfl rfl ⟨.inl ⟨#[O],#[O]⟩,(lS rfl (lX rfl rfl ⟨(by show 0 < p; lia),?_⟩))⟩)));refine (lS rfl (lX rfl rfl ⟨⟨#[D],#[D]⟩,⟨rfl,_,_,_,m,rfl,b0,b1,n0,n1,#[O],l2,hi⟩,?_⟩));show (left / 2).toNat < left.toNat;lia
   ·have hl:¬ 0 < left:=by simpa using hl
    have el:left=0:=by lia
    subst el;rw [zhw] at hi;rw [← hi] at q;exact (lS rfl q)
  ·rintro σ H1 Q1 Q2 hq ⟨v,e,i,j,e1,e2,k,e3,q⟩;exact⟨v,e,i,j,e1,e2,k,e3,hq _ _ q⟩
def ze6 (K:ah):Sp:=fun vs H Q _=>∃ (p r:Int) (a:Addr) (cs:List Int),vs = [.int p,.ref a,.int r]∧H a=some (.lst (cs.map V.int))∧cs.length≤1000∧0 < p∧-97≤r∧r≤97 ∧
 ∀ (l:Addr) (H':Hp),H l=none→zq H H'→H' l=some (.lst ((zde p r cs).map V.int))→Q (.ref l) H'
theorem zbW:FnScope ["p","polynomial","root","raised","kept"] ["p","polynomial","root"] (zg za6):=#[S]
theorem zfo {fd:FuncData} (T:Txt K mg t) (F:Fun K "times_root" "times_root" za6 t.times_root fd):FnOk P w K mg base CX0 1 t.times_root fd ["p","polynomial","root"] (ze6 K):=by
 refine F.ok zbW (fun vs H Q E h=>?_) (fun mM A outer s H vs Q E hr h=>?_)
 ·obtain⟨p,r,a,cs,rfl,_⟩:=h;rfl
 ·obtain⟨p,r,a,cs,rfl,ha,lY,p0,r0,r1,q⟩:=h;refine⟨_,#[ze,#[zn,3,zbW.nd,#[A],#[zj,#[zcp],#[zaC,#[za,#[zh],#[zd]]],#[pvx,1]]],#[ze,#[zn,4,zbW.nd,#[A],#[zj,#[zcp],#[pvx,1],#[zaC,#[za,#[zh],#[zd]]]]],#[zk,#[zC,#[zD,(CompSc.of (N':=["high","low","root","p"]) (ix:=[none,none,some 2,some 0]) (zg za6) ["p","polynomial","root","raised","kept"] rfl rfl #[N]),#[zaD,#[zp,#[zp,#[zal]]]],#[zeh,T.zip_,#[za,#[pvx,3],#[za,#[pvx,4],#[zd]]]],(fun _ _ _ _=>#[zaa,(K),2,#[zi,#[zf,0,(show (["high","low","root","p"]:List Str).Nodup from #[N]),#[A]],#[zi,#[zf,1,(show (["high","low","root","p"]:List Str).Nodup from #[N]),#[A]],#[zz]]]]),(fun _ _ _ _=>#[zo]),(fun _ _ _ _=>#[zj,#[zL],#[zj,#[zaj],#[pvx,0],#[zj,#[zQ],#[pvx,2],#[pvx,1]]],#[pvx,3]])]]]]],?_⟩;have o9:=a7;refine⟨by show 1≤sizeLine; lia,fun z hz=>(lS rfl (ex4 z a ([.int 0]) (cs.map V.int) ⟨rfl,rfl,zc,by rw [zl (zB ha hz)]; exact ha,by rw [ab]; show 1+cs.length≤sizeLine; lia,fun ra qV=>?_⟩))⟩;have s1:zq H (lW (lW H z (.lst [.int 0])) ra (.lst ([.int 0]++cs.map V.int))):=(zb hz).trans (zb qV);refine (lS rfl ⟨by show 1≤sizeLine; lia,fun z2 tM=>(ex4 a z2 (cs.map V.int) ([.int 0]) ⟨rfl,rfl,by rw [zl (zB (s1 _ _ ha) tM)]; exact s1 _ _ ha,zc,by rw [ab]; show cs.length+1≤sizeLine; lia,fun ke hke=>?_⟩)⟩);have s2:=s1.trans ((zb (o:=.lst [.int 0]) tM).trans (zb (o:=.lst (cs.map V.int++[.int 0])) hke));have tX:lW (lW (lW (lW H z (.lst [.int 0])) ra (.lst ([.int 0]++cs.map V.int))) z2 (.lst [.int 0])) ke (.lst (cs.map V.int++[.int 0])) ra=some (.lst ((0 :: cs).map V.int)) :=
   ((zb (o:=.lst [.int 0]) tM).trans (zb (o:=.lst (cs.map V.int++[.int 0])) hke)) _ _ zc
  have vY:lW (lW (lW (lW H z (.lst [.int 0])) ra (.lst ([.int 0]++cs.map V.int))) z2 (.lst [.int 0])) ke (.lst (cs.map V.int++[.int 0])) ke=some (.lst ((cs++[0]).map V.int)):=by rw [zc,ap]; rfl
  generalize lW (lW (lW (lW H z (.lst [.int 0])) ra (.lst ([.int 0]++cs.map V.int))) z2 (.lst [.int 0])) ke (.lst (cs.map V.int++[.int 0]))=H2 at s2 tX vY ⊢;refine (lS rfl (lS rfl (ex4 ra ke _ _ ⟨rfl,lT.of tX,lT.of vY,zK (n:=cs.length+1) (fun i ys H'=>ys=((zde p r cs).take i).map V.int∧zq H2 H') ⟨#[M],fun _ _ e=>e⟩ ?_ ?_ ?_ ?_⟩)))
  ·rintro i ys H3 hi ⟨_,s3⟩;obtain⟨x,hx⟩:∃ x,(0 :: cs)[i]? = some x:=⟨(0 :: cs)[i]'(by simpa using hi),#[M]⟩;obtain⟨y,hy⟩:∃ y,(cs++[0])[i]? = some y:=⟨(cs++[0])[i]'(by simpa using hi),#[M]⟩;exact⟨_,_,.int x,.int y,lT.of (s3 _ _ tX),lT.of (s3 _ _ vY),by rw [af,hx]; rfl,by rw [af,hy]; rfl⟩
  ·rintro ys H3 ⟨_,s3⟩;exact⟨_,_,lT.of (s3 _ _ tX),lT.of (s3 _ _ vY),.inl #[M]⟩
  ·rintro i x ys H3 H4 hi ⟨rfl,s3⟩ ⟨T,u,v,hT,rfl,rfl,hu,hv⟩;obtain⟨x,rfl,hx⟩:=zam (hu _ (lT.of (s3 _ _ tX)));obtain⟨y,rfl,hy⟩:=zam (hv _ (lT.of (s3 _ _ vY)));refine gY2 (me.of zc) ?_;refine (lS rfl (lS rfl (lS rfl (lX rfl rfl ⟨.inl ⟨#[O],#[O]⟩,(lX rfl rfl (lS rfl (lX rfl rfl ⟨p0,zay ?_,?_,s3.trans (zb hT)⟩)))⟩))))
   ·rw [ab];exact aW (eQ _ _) #[O]
   ·show _=(List.take (i+1) (cH (trF p r) (0 :: cs) (cs++[0]))).map V.int;rw [zhx hx hy,ap];rfl
  ·rintro ys H3 D ⟨rfl,s3⟩ hD;refine q D _ ((s2.trans s3).free hD) ((s2.trans s3).trans (zb hD)) ?_;rw [zc,aN (by rw [zcF]; exact ag _)]
theorem zaU:FnScope ["code","row","p","k","places"] ["code","row"] (zg zaI):=#[S]
theorem zcl {fd:FuncData} (T:Txt K mg t) (F:Fun K "heard_points" "heard_points" zaI t.heard_points fd):FnOk P w K mg base CX0 1 t.heard_points fd ["code","row"] (znh K):=by
 refine F.ok zaU (fun vs H Q E h=>?_) (fun mM A outer s H vs Q E hr h=>?_)
 ·obtain⟨c,tt,r,p,k,pl,rw,rfl,_⟩:=h;rfl
 ·obtain⟨c,tt,r,p,k,pl,rw,rfl,hc,nC,hn,q⟩:=h;refine⟨_,#[ze,#[zaP,#[pvx,0],#[zaW,#[zi,#[zf,2,zaU.nd,#[A]],#[zi,#[zf,3,zaU.nd,#[A]],#[zi,#[zf,4,zaU.nd,#[A]],#[zz]]]]]],#[zk,#[zC,#[zD,(CompSc.of (N':=["place","entry"]) (ix:=[none,none]) (zg zaI) ["code","row","p","k","places"] rfl rfl #[N]),#[zaD,#[zp,#[zp,#[zal]]]],(@zlr _ _ _ _ _ _ _ _ _ rfl T.zip_ #[za,#[pvx,4],#[za,#[pvx,1],#[zd]]] (by rfl) (by rfl)),(fun _ _ _ _=>#[zaa,(K),2,#[zi,#[zf,0,(show (["place","entry"]:List Str).Nodup from #[N]),#[A]],#[zi,#[zf,1,(show (["place","entry"]:List Str).Nodup from #[N]),#[A]],#[zz]]]]),(fun _ _ _ _=>#[zbo,#[zT,#[zge],#[pvx,1],#[zex],(zac _)]]),(fun _ _ _ _=>#[za4,#[za,#[pvx,0],#[za,#[pvx,1],#[zd]]]])]]]],?_⟩;have o9:=a7;have hl:=nC.len;refine⟨_,rfl,c,_,rfl,me.of hc.1,rfl,_,_,rfl,_,_,rfl,_,_,rfl,rfl,?_⟩;refine (lS rfl (lS rfl (ex4 tt r _ _ ⟨rfl,me.of hc.2,nC.at',zK (n:=pl.length) (fun i ys H'=>zq H H'∧∃ us:List Addr,ys=us.map V.ref∧PtB H' us (mK (pl.take i) (rw.take i))) ⟨fun _ _ e=>e,[],rfl,.nil⟩ ?_ ?_ ?_ ?_⟩)))
  ·rintro i ys H3 hi ⟨s3,_⟩;obtain⟨o,ho⟩:∃ o,rw[i]? = some o:=⟨rw[i]'#[O],#[M]⟩;exact⟨_,_,.int pl[i],pY o,me.of (s3 _ _ hc.2),s3.seq nC.at',by rw [af,ai hi]; rfl,by rw [af,ho]; rfl⟩
  ·rintro ys H3 ⟨s3,_⟩;exact⟨_,_,me.of (s3 _ _ hc.2),s3.seq nC.at',.inl (by rw [ab])⟩
  ·rintro i xx ys H3 H4 hi ⟨s3,us,rfl,mo⟩ ⟨T,u,v,hT,rfl,rfl,hu,hv⟩;obtain⟨x,rfl,hx⟩:=zam (hu _ (me.of (s3 _ _ hc.2)));obtain⟨o,rfl,ho⟩:=zgv (hv _ (s3.seq nC.at'));have v4:=zb (o:=.tup [.int x,pY o]) hT;have s4:=s3.trans v4;have hs:=zeU hx ho;have sQ:=mo.length;have hb:=zcd (pl.take i) (rw.take i);rw [aL] at hb;refine⟨T,_,rfl,me.of zc,rfl,_,_,rfl,_,_,rfl,rfl,?_⟩;refine (lS rfl ⟨rfl,(lS rfl ?_)⟩);cases o with
   | none =>
    refine zfh ⟨s4,us,rfl,?_⟩;rw [hs,bX];exact mo.same v4
   | some z =>
    refine zpS (lS rfl (lS rfl ⟨by show 2≤sizeLine; lia,fun T2 Cy=>⟨by rw [ab]; lia,s4.trans (zb Cy),us++[T2],by rw [ap]; rfl,?_⟩⟩));rw [hs];exact bZ (mo.same (v4.trans (zb Cy))) zc
  ·rintro ys H3 D ⟨s3,us,rfl,mo⟩ hD;rw [cY,aN #[O]] at mo;exact q D us _ (s3.free hD) (s3.trans (zb hD)) zc (mo.same (zb hD))
theorem zeu:FnScope ["code","row","polynomial","p","k","places"] ["code","row","polynomial"] (zg ze4):=#[S]
theorem znN {fd:FuncData} (T:Txt K mg t) (F:Fun K "fits" "fits" ze4 t.fits fd):FnOk P w K mg base CX0 2 t.fits fd ["code","row","polynomial"] (zm4 K):=by
 obtain⟨p7,mV,mW⟩:=T.f_value_at;have oU:=zd2 (P:=P) (w:=w) (base:=base) T mV;refine F.ok zeu (fun vs H Q E h=>?_) (fun mM A outer s H vs Q E hr h=>?_)
 ·obtain⟨c,tt,ra,po,p,k,pl,nj,rw,rfl,_⟩:=h;rfl
 ·obtain⟨c,tt,ra,po,p,k,pl,nj,rw,rfl,hc,qV,rT,Eo,p0,p1,oR,hn,q⟩:=h;refine⟨_,#[ze,#[zaP,#[pvx,0],#[zaW,#[zi,#[zf,3,zeu.nd,(cJ rfl)],#[zi,#[zf,4,zeu.nd,#[A]],#[zi,#[zf,5,zeu.nd,#[A]],#[zz]]]]]],#[zk,#[zC,#[zD,(CompSc.of (N':=["at","place","entry","p","polynomial"]) (ix:=[none,none,none,some 3,some 2]) (zg ze4) ["code","row","polynomial","p","k","places"] rfl rfl #[N]),#[zaD,#[zp,(@zj3 _ _ _ #[zaD,#[zp,#[zp,#[zal]]]] #[zal] ziv)]],(@ziu _ _ _ _ _ _ _ _ _ _ _ rfl T.enumerate_ rfl T.zip_ #[za,#[pvx,5],#[za,#[pvx,1],#[zd]]] (by rfl) (by rfl) (by rfl)),(fun _ _ _ _=>#[zaa,(K),2,#[zi,#[zf,0,(show (["at","place","entry","p","polynomial"]:List Str).Nodup from #[N]),#[A]],#[zi,#[zaa,(K),2,#[zi,#[zf,1,(show (["at","place","entry","p","polynomial"]:List Str).Nodup from #[N]),#[A]],#[zi,#[zf,2,(show (["at","place","entry","p","polynomial"]:List Str).Nodup from #[N]),#[A]],#[zz]]]],#[zz]]]]),(fun _ _ _ _=>#[zbo,#[zT,#[zhh],#[pvx,2],#[zm,oU,(hr.mono #[D]),T.m_value_at,mV.kp,mW,#[zI],#[za,#[pvx,3],#[za,#[pvx,4],#[za,#[pvx,1],#[zd]]]]],(zac _)]]),(fun _ _ _ _=>#[pvx,0])]]]],?_⟩;refine⟨_,rfl,c,_,rfl,me.of hc.1,rfl,_,_,rfl,_,_,rfl,_,_,rfl,rfl,?_⟩;refine (lS rfl (lS rfl (ex4 tt ra _ _ ⟨rfl,me.of hc.2,lT.of qV,zK (n:=pl.length) (fun i ys H'=>ys=(zeK p pl rw nj i).map V.int∧zq H H') ⟨rfl,fun _ _ e=>e⟩ ?_ ?_ ?_ ?_⟩)))
  ·rintro i ys H3 hi ⟨_,s3⟩;obtain⟨o,ho⟩:∃ o,rw[i]? = some o:=⟨rw[i]'#[O],#[M]⟩;exact⟨_,_,.int pl[i],pY o,me.of (s3 _ _ hc.2),lT.of (s3 _ _ qV),by rw [af,ai hi]; rfl,by rw [af,ho]; rfl⟩
  ·rintro ys H3 ⟨_,s3⟩;exact⟨_,_,me.of (s3 _ _ hc.2),lT.of (s3 _ _ qV),by rw [ab]⟩
  ·rintro i xx ys H3 H4 hi ⟨rfl,s3⟩ ⟨T1,T2,u,v,hT1,Cy,mB,rfl,rfl,hu,hv⟩;obtain⟨x,rfl,hx⟩:=zam (hu _ (me.of (s3 _ _ hc.2)));obtain⟨o,rfl,ho⟩:=zgv (hv _ (lT.of (s3 _ _ qV)));obtain⟨x0,x1⟩:=oR x (aI hx);have s4:zq H3 (lW (lW H3 T1 (.tup [.int x,pY o])) T2 (.tup [.int i,.ref T1])):=zat (zb hT1) Cy;refine⟨T2,_,rfl,me.of zc,rfl,_,_,rfl,_,_,rfl,T1,_,rfl,me.of (by rw [zl mB]; exact zc),rfl,_,_,rfl,_,_,rfl,rfl,rfl,?_⟩;refine (lS rfl (lS rfl (lS rfl (lS rfl (ex4 p x po nj ⟨rfl,.inr (me.of ((s3.trans s4) _ _ Eo)),p0,p1,x0,x1,zlm o _,(lS rfl ?_)⟩)))));rw [zfP,zln hx ho,ap];have lY:=zhB p pl rw nj i;refine zbb (fun h1=>(lS rfl ⟨zay (by rw [ab]; lia),?_,s3.trans s4⟩)) (fun h1=>⟨?_,s3.trans s4⟩)
   ·rw [if_pos h1];rfl
   ·rw [if_neg h1];simp
  ·rintro ys H3 D ⟨rfl,s3⟩ hD;exact q D _ (s3.free hD) (s3.trans (zb hD)) zc
end
section
variable {P:Program} {w:World} {K:ah} {mg:Str→Option Value} {base:Heap} {t:Adr}
theorem ziN:FnScope ["p","vector","times","other"] ["p","vector","times","other"] (zg zb2):=#[S]
theorem ziO {fd:FuncData} (T:Txt K mg t) (F:Fun K "without" "without" zb2 t.without fd):FnOk P w K mg base CX0 1 t.without fd ["p","vector","times","other"] (ziB K):=by
 refine F.ok ziN (fun vs H Q E h=>?_) (fun mM A outer s H vs Q E hr h=>?_)
 ·obtain⟨p,tm,a,b,as,bs,rfl,_⟩:=h;rfl
 ·obtain⟨p,tm,a,b,as,bs,rfl,ha,hb,hl,hn,p0,t0,t1,q⟩:=h;refine⟨_,#[zk,#[zC,#[zD,(CompSc.of (N':=["number","less","times","p"]) (ix:=[none,none,some 2,some 0]) (zg zb2) ["p","vector","times","other"] rfl rfl #[N]),#[zaD,#[zp,#[zp,#[zal]]]],#[zeh,T.zip_,#[za,#[pvx,1],#[za,#[pvx,3],#[zd]]]],(fun _ _ _ _=>#[zaa,(K),2,#[zi,#[zf,0,(show (["number","less","times","p"]:List Str).Nodup from #[N]),#[A]],#[zi,#[zf,1,(show (["number","less","times","p"]:List Str).Nodup from #[N]),#[A]],#[zz]]]]),(fun _ _ _ _=>#[zo]),(fun _ _ _ _=>#[zj,#[zL],#[zj,#[zaj],#[pvx,0],#[zj,#[zQ],#[pvx,2],#[pvx,1]]],#[pvx,3]])]]],?_⟩;have o9:=a7;refine (lS rfl (lS rfl (ex4 a b _ _ ⟨rfl,lT.of ha,lT.of hb,zfN (n:=as.length) (f:=fun x y=>(x - tm*y) % p) ha hb (ag _) #[O] (.inl (ag _)) #[O] ?_ ?_⟩)))
  ·intro j u w H6 T R B hu hv s6 hT hR;refine gY2 (me.of zc) ?_;exact (lS rfl (lS rfl (lS rfl (lX rfl rfl ⟨.inl ⟨#[O],#[O]⟩,(lX rfl rfl (lS rfl (lX rfl rfl ⟨p0,hR⟩)))⟩))))
  ·intro D H6 s6 hD;exact q D _ (s6.free hD) (s6.trans (zb hD)) zc
def zc6 (K:ah):Sp:=fun vs H Q _=>∃ (p:Int) (a:Addr) (ls:List Addr) (vv:List (List Int)) (L:Nat),vs = [.int p,.ref a]∧H a=some (.lst (ls.map V.ref))∧LsA H ls vv∧vv≠[]∧vv.length≤200∧L≤800∧(∀ v∈vv,v.length=L∧∀ c∈v,0≤c∧c < p)∧p∈zr ∧
 (∀ H',zq H H'→Indep p L vv→Q .non H')∧(∀ (l:Addr) (c:List Int) (m:Nat) (H':Hp),H l=none→zq H H'→H' l=some (.lst (c.map V.int))→IsP p (m+1) c→m < vv.length→gl c m=1→Dep p L vv c→znx p L m vv→Q (.ref l) H')
theorem zA:FnScope ["p","vectors","length","cleared","count","vector","whole","lead","other","leads","factor"] ["p","vectors"] (zg zai):=#[S]
theorem zdC {fd:FuncData} (T:Txt K mg t) (F:Fun K "first_relation" "first_relation" zai t.first_relation fd):FnOk P w K mg base CX0 2 t.first_relation fd ["p","vectors"] (zc6 K):=by
 obtain⟨tY,rC,pH⟩:=T.f_without;have uW:=ziO (P:=P) (w:=w) (base:=base) T rC;obtain⟨tZ,rD,pI⟩:=T.f_inverse;have uX:=ziM (P:=P) (w:=w) (base:=base) T rD;refine F.ok zA (fun vs H Q E h=>?_) (fun mM A outer s H vs Q E hr h=>?_)
 ·obtain⟨p,a,ls,vv,L,rfl,_⟩:=h;rfl
 ·obtain⟨p,a,ls,vv,L,rfl,ha,mO,mB,hN,hL,hvv,hp,qn,qs⟩:=h;refine⟨_,#[ze,#[zn,2,zA.nd,#[A],#[zE,#[zJ],T.len_,da,#[za,#[zY,#[zM],#[pvx,1],#[zh]],#[zd]]]],#[ze,#[zn,3,zA.nd,#[A],#[zaC,#[zd]]],#[ze,#[zaX,bL,#[zeE,T.enumerate_,#[za,#[pvx,1],#[zd]]],#[zaW,#[zi,#[zf,4,zA.nd,#[A]],#[zi,#[zf,5,zA.nd,#[A]],#[zz]]]],#[ze,#[zn,6,zA.nd,(cJ rfl),#[zj,#[zcp],#[pvx,5],#[zj,#[zeD],#[zaC,#[za,#[zh],#[zd]]],#[zE,#[zJ],T.len_,da,#[za,#[pvx,1],#[zd]]]]]],#[ze,#[zaP,#[zh],#[zgd,#[pvx,6],#[zj,#[zH],#[pvx,2],#[pvx,4]],set_list]],#[ze,#[zaX,bL,#[zX,#[pvx,3]],#[zaW,#[zi,#[zf,7,zA.nd,#[A]],#[zi,#[zf,8,zA.nd,#[A]],#[zz]]]],#[zk,#[zn,6,zA.nd,(cJ rfl),#[zm,uW,(hr.mono #[D]),T.m_without,rC.kp,pH,#[zI],#[za,#[pvx,0],by exact #[za,#[pvx,6],#[za,#[zY,#[zM],#[pvx,6],#[pvx,7]],#[za,#[pvx,8],#[zd]]]]]]]]],#[ze,#[zbG,9,zA.nd,#[A],(CompSc.of (N':=["at","whole"]) (ix:=[none,some 6]) (zg zai) ["p","vectors","length","cleared","count","vector","whole","lead","other","leads","factor"] rfl rfl #[N]),#[z9],#[zZ,T.range_,#[za,#[pvx,2],#[zd]]],(fun _ _ _ _=>#[zf,0,(show (["at","whole"]:List Str).Nodup from #[N]),#[A]]),(fun _ _ _ _=>#[zbo,#[zT,#[zn3],#[zY,#[za5,(K)],#[pvx,1],#[pvx,0]],#[zh],(zac _)]]),(fun _ _ _ _=>#[pvx,0])],#[ze,#[zby,#[zey,#[zhj,#[pvx,9],(fun _=>rfl)]],#[zk,#[zC,#[zbY,zcB,#[pvx,6],#[zb7,#[pvx,2]],#[zb7,#[zj,#[zH],#[zj,#[zH],#[pvx,2],#[pvx,4]],#[zh]]]]]],#[zaq]],#[ze,#[zn,10,zA.nd,(cJ rfl),#[zm,uX,(hr.mono #[D]),T.m_inverse,rD.kp,pI,#[zI],#[za,#[pvx,0],#[za,#[zY,#[zM],#[pvx,6],#[zY,#[zM],#[pvx,9],#[zh]]],#[zd]]]]],#[zk,#[zc8,#[zi6,eX,gc,gd,#[zdI],#[pvx,3],#[za,#[za4,#[za,#[zY,#[zM],#[pvx,9],#[zh]],#[za,#[zD,(CompSc.of (N':=["number","factor","p"]) (ix:=[none,some 10,some 0]) (zg zai) ["p","vectors","length","cleared","count","vector","whole","lead","other","leads","factor"] rfl rfl #[N]),#[z9],#[zX,#[pvx,6]],(fun _ _ _ _=>#[zf,0,(show (["number","factor","p"]:List Str).Nodup from #[N]),#[A]]),(fun _ _ _ _=>#[zo]),(fun _ _ _ _=>#[zj,#[zL],#[zj,#[zQ],#[pvx,0],#[pvx,1]],#[pvx,2]])],#[zd]]]],#[zd]]]]]]]]]]]],#[zk,#[zC,#[zex]]]]]],?_⟩;have o9:=a7;have rp:=zy hp;have p0:0 < p:=by lia
  have uE:=mO.length;have hN0:0 < vv.length:=im.mpr mB;obtain⟨l0,Ep⟩:∃ l0,ls[0]? = some l0:=⟨ls[0]'#[O],#[M]⟩;obtain⟨v0,hv0,Er⟩:=Paired.get mO Ep;have Es:=(hvv v0 (aI hv0)).1;refine (lS rfl (ex4 a _ _ (.ref l0) ⟨rfl,rfl,lT.of ha,zax (j:=0) (by rw [af,Ep]; rfl),l0,(lS rfl ⟨.inl (lT.of Er),?_⟩)⟩));rw [ab,Es];refine⟨by show 0≤sizeLine; lia,fun ca hca=>?_⟩;have u1:=zb (o:=.lst []) hca;refine⟨_,rfl,a,_,rfl,lT.of (u1 _ _ ha),zik (n:=vv.length) (fun i σ H'=>∃ (cs:List Addr) (cl:List (Nat×List Int)) (e4 e5 e6 e7 e8 e9 uF:Option V),σ = [some (.int p),some (.ref a),some (.int (L:Int)),some (.ref ca),e4,e5,e6,e7,e8,e9,uF]∧zq H H'∧H' ca=some (.lst (cs.map V.ref))∧ClA ca H' cs cl∧Ech p L vv.length i vv cl)
   ⟨[],[],none,none,none,none,none,none,none,rfl,u1,zc,.nil,Ech.start p L vv.length vv⟩ ?_ ?_ ?_ ?_⟩
  ·rintro i σ H1 hi ⟨cs,cl,e4,e5,e6,e7,e8,e9,uF,rfl,s1,_⟩;exact⟨_,.ref (ls[i]'#[O]),lT.of (s1 _ _ ha),by rw [af,ai #[O]]; rfl⟩
  ·rintro σ H1 ⟨cs,cl,e4,e5,e6,e7,e8,e9,uF,rfl,s1,_⟩;exact⟨_,lT.of (s1 _ _ ha),by rw [ab]; lia⟩
  ·rintro i x σ H1 H2 hi ⟨cs,cl,e4,e5,e6,e7,e8,e9,uF,rfl,s1,Bt,vz,E⟩ ⟨T,v,hT,rfl,rfl,hv⟩;obtain⟨lv,rfl,hlv⟩:=zN (hv _ (lT.of (s1 _ _ ha)));obtain⟨vec,Bu,hva⟩:=Paired.get mO hlv;obtain⟨vy,hvr⟩:=hvv vec (aI Bu);have t2:=zb (o:=.tup [.int (i:Int),.ref lv]) hT;refine⟨T,_,rfl,me.of zc,rfl,_,_,rfl,_,_,rfl,rfl,?_⟩;have s2:=s1.trans t2;have Et:=t2 _ _ Bt;have yG:=vz.same t2;generalize lW H1 T (.tup [.int (i:Int),.ref lv])=H2 at t2 s2 Et yG ⊢;refine (lS rfl ⟨by show 1≤sizeLine; lia,fun z hz=>(lS rfl ⟨a,(lS rfl ⟨.inl (lT.of ((s2.trans (zb hz)) _ _ ha)),z,_,[.int 0],rfl,rfl,zc,by rw [ab]; lia,by rw [ab]; lia,by rw [ab]; show 1*_≤sizeLine; lia,fun y hy=>?_⟩)⟩)⟩);rw [ab,zli,uE,cD];have t3:=(zb (o:=.lst [.int 0]) hz).trans (zb (o:=.lst ((aq vv.length (0:Int)).map V.int)) hy);have h3y:lW (lW H2 z (.lst [.int 0])) y (.lst ((aq vv.length (0:Int)).map V.int)) y=some (.lst ((aq vv.length (0:Int)).map V.int)):=zc;generalize lW (lW H2 z (.lst [.int 0])) y (.lst ((aq vv.length (0:Int)).map V.int))=H3 at t3 h3y ⊢;refine (ex4 lv y _ _ ⟨rfl,rfl,(s2.trans t3) _ _ hva,h3y,by rw [ab,ab,a8]; lia,fun wl yd=>?_⟩);rw [← ap];have t4:=zb (o:=.lst ((vec++aq vv.length (0:Int)).map V.int)) yd;refine (lS rfl (lS rfl (lS rfl (lX rfl rfl (ex4 wl _ _ (L+i) ⟨rfl,rfl,zc,?_,?_⟩)))))
   ·rw [← je];exact zgs (by rw [ab,aA,a8]; lia)
   have ew:((vec++aq vv.length (0:Int)).map V.int).set (L+i) (.int 1)=((vec++aq vv.length (0:Int)).set (L+i) 1).map V.int:=by rw [i6]
   rw [ew,zmL];have t4:=t3.trans (zb (o:=.lst (((vec++aq vv.length (0:Int)).set (L+i) 1).map V.int)) yd);have Eu:lW H3 wl (.lst (((vec++aq vv.length (0:Int)).set (L+i) 1).map V.int)) wl=some (.lst (((vec++aq vv.length (0:Int)).set (L+i) 1).map V.int)):=zc;have W0:=zhN hp (N:=vv.length) hi Bu vy hvr;have hwc:wl≠ca:=fun e=>by
    have:=t3 _ _ Et;rw [← e,yd] at this;cases this
   generalize lW H3 wl (.lst (((vec++aq vv.length (0:Int)).set (L+i) 1).map V.int))=H4 at t4 Eu ⊢;generalize (vec++aq vv.length (0:Int)).set (L+i) 1=w0 at W0 Eu ⊢;have s4:=s2.trans t4;have Cz:=t4 _ _ Et;have yH:=yG.same t4;have Bv:=yH.length;refine⟨_,rfl,ca,rfl,⟨_,lT.of Cz⟩,zc9 (K:=K) (a:=ca) (xs:=cs.map V.ref) (fun j σ H'=>∃ (wa:Addr) (w:List Int) (e7 e8:Option V),σ = [some (.int p),some (.ref a),some (.int (L:Int)),some (.ref ca),some (.int (i:Int)),some (.ref lv),some (.ref wa),e7,e8,e9,uF]∧zq H4 H'∧H' wa=some (.lst (w.map V.int))∧wa≠ca∧Wh p L vv.length i vv (cl.take j) w)
    ⟨wl,w0,_,_,rfl,fun _ _ e=>e,Eu,hwc,W0⟩ (fun j σ H' _ ⟨_,_,_,_,_,s5,_⟩=>lT.of (s5 _ _ Cz)) ?_ ?_⟩
   ·rintro j y σ H5 hy ⟨wa,w,e7,e8,rfl,s5,Bw,hwa,W⟩;obtain⟨b,rfl,hb⟩:=zN hy;obtain⟨aa,haa,oa,tV,tP,xN⟩:=Paired.get yH hb;obtain⟨o1,o2,o3,_⟩:=E.one j aa haa;refine⟨b,_,rfl,me.of (s5 _ _ tV),rfl,_,_,rfl,_,_,rfl,rfl,?_⟩;have hg:=ziA p0 W.rg aa.1;refine (lS rfl (lS rfl (lS rfl (lS rfl (ex4 wa _ _ (.int (gl w aa.1)) ⟨rfl,rfl,lT.of Bw,zax (by rw [af,zbe (by rw [W.ln]; lia)]; rfl),(lS rfl (ex6 p (gl w aa.1) wa oa w aa.2 ⟨rfl,Bw,s5 _ _ tP,by rw [W.ln,o2],by rw [W.ln]; lia,p0,hg.1,#[O],fun l H6 hl s6 Bx=>?_⟩))⟩)))));refine (ex4 l _ _ _ ⟨rfl,s5.trans s6,Bx,fun e=>?_,zju hp E hi haa W⟩);have:=s5 _ _ Cz;rw [← e,hl] at this;cases this
   ·rintro σ H5 ⟨wa,w,e7,e8,rfl,s5,Bw,hwa,W⟩;rw [ab,Bv,cY] at W;have h5c:=s5 _ _ Cz;have Ew:=yH.same s5;have s15:=s4.trans s5;refine (lS rfl (lS rfl ⟨#[O],#[O],?_⟩));rw [cD];refine zK (n:=L) (fun j ys H'=>H'=H5∧ys=(((au j).filter fun m=>decide (gl w m≠0)).map fun m:Nat=>(m:Int)).map V.int) ⟨rfl,rfl⟩ (fun j ys H' hj _=>hj) (fun ys H' _=>ag _) ?_ ?_
    ·rintro j xx ys H6 H7 hj ⟨rfl,rfl⟩ ⟨rfl,rfl⟩;have hgj:(w.map V.int)[j]? = some (.int (gl w j)):=by rw [af,zbe (by rw [W.ln]; lia)]; rfl
     refine (lS rfl (lS rfl (ex4 wa _ _ (.int (gl w j)) ⟨rfl,rfl,lT.of Bw,by rw [cZ]; exact zax hgj,rfl,(lS rfl ?_)⟩)));have CA:=cT (fun m=>decide (gl w m≠0)) (au j);rw [aD] at CA;rw [bU,cX,ap,ap];by_cases h0:gl w j=0
     ·refine zbb (fun h=>absurd h (by rw [h0]; simp)) (fun _=>⟨rfl,?_⟩);rw [cn (by simpa using h0),fW,fo,fo,bX]
     ·refine zbb (fun _=>(lS rfl ⟨zay (by rw [ab,ab]; lia),rfl,?_⟩)) (fun h=>absurd (by simpa using h0) h);rw [cm (by simpa using h0),fW,cZ];rfl
    ·rintro ys H6 D ⟨rfl,rfl⟩ hD;have t7:=zb (o:=.lst ((((au L).filter fun m=>decide (gl w m≠0)).map fun m:Nat=>(m:Int)).map V.int)) hD;have By:lW H6 D (.lst ((((au L).filter fun m=>decide (gl w m≠0)).map fun m:Nat=>(m:Int)).map V.int)) D=_:=zc;generalize lW H6 D (.lst ((((au L).filter fun m=>decide (gl w m≠0)).map fun m:Nat=>(m:Int)).map V.int))=H7 at t7 By ⊢;have s7:=s15.trans t7;have CB:=t7 _ _ Bw;have Ex:=t7 _ _ h5c;have Ey:=Ew.same t7;refine (lS rfl ⟨_,.inl ⟨_,lT.of By,rfl⟩,?_⟩);cases yI:(au L).filter fun m=>decide (gl w m≠0) with
     | nil =>
      refine zbb (fun _=>?_) (fun h=>absurd rfl h);have hz:∀ x,x < L→gl w x=0:=fun x hx=>by
       have:=jt.mp yI x (aJ.mpr hx);simpa using this
      refine (lS rfl (lS rfl (lS rfl (lS rfl (lS rfl (lX rfl rfl (lX rfl rfl (lS rfl ⟨wa,(lS rfl ⟨lT.of CB,fun l hl=>?_⟩)⟩))))))));have ec:zcU (w.map V.int) (some (L:Int)) (some ((L:Int)+(i:Int)+1))=((w.drop L).take (i+1)).map V.int:=by
       rw [show (L:Int)+(i:Int)+1=((L+i+1:Nat):Int) by lia,znl (by rw [ab,W.ln]; lia),← lJ,← gJ,show L+i+1 - L=i+1 by lia]
      rw [ec];obtain⟨d1,d2,d3⟩:=zlS W hi hz;exact qs l _ i _ (s7.free hl) (s7.trans (zb hl)) zc d1 hi d2 d3 (zny (fX hi) E)
     | cons ld lds =>
      refine zbb (fun h=>absurd h #[M]) (fun _=>?_);have hm:ld∈(au L).filter fun m=>decide (gl w m≠0):=by rw [yI]; exact aV
      (obtain⟨vD,rQ⟩:=bv.mp hm)
      have Ct:ld < L:=aJ.mp vD;have hg0:gl w ld≠0:=by simpa using rQ
      obtain⟨g0,g1⟩:=ziA p0 W.rg ld;rw [yI] at By;have xn:atI ((((ld :: lds).map fun m:Nat=>(m:Int))).map V.int) 0=some (.int (ld:Int)):=zax (j:=0) rfl;refine (lS rfl (lS rfl (lS rfl (ex4 D _ _ (.int (ld:Int)) ⟨rfl,rfl,lT.of By,xn,wa,_,_,.int (gl w ld),rfl,rfl,lT.of CB,zax (by rw [af,zbe (by rw [W.ln]; lia)]; rfl),p,gl w ld,rfl,hp,g0,g1,?_⟩))));refine (lS rfl ⟨.inl ⟨rfl,_,lT.of Ex⟩,(lS rfl (ex4 D _ _ (.int (ld:Int)) ⟨rfl,rfl,lT.of By,xn,(lS rfl ⟨wa,rfl,⟨_,lT.of CB⟩,za0 (fs:=(w.map fun x=>x*inv p (gl w ld) % p).map V.int) (lT.of CB) (by rw [ab,ab,ab]) (by rw [ab,W.ln]; lia) ?_ ?_⟩)⟩))⟩)
      ·intro j x y R B hx hy hR;obtain⟨n,rfl,hn⟩:=zam hx;obtain⟨n',rfl,xW⟩:=zam hy;rw [af,hn] at xW;cases xW;have hnr:=W.rg n (aI hn);exact gY (lS rfl (lS rfl (lX rfl rfl ⟨.inl ⟨#[O],#[O]⟩,(lS rfl (lX rfl rfl ⟨p0,hR⟩))⟩)))
      ·intro D2 rV;have t8:=zb (o:=.lst ((w.map fun x=>x*inv p (gl w ld) % p).map V.int)) rV;have h8D:lW H7 D2 (.lst ((w.map fun x=>x*inv p (gl w ld) % p).map V.int)) D2=some (.lst ((w.map fun x=>x*inv p (gl w ld) % p).map V.int)):=zc;have hDc:D2≠ca:=fun e=>by rw [e,Ex] at rV; cases rV
       generalize lW H7 D2 (.lst ((w.map fun x=>x*inv p (gl w ld) % p).map V.int))=H8 at t8 h8D ⊢;refine⟨by show 2≤sizeLine; lia,fun tb htb=>?_⟩;have t9:=zb (o:=.tup [.int (ld:Int),.ref D2]) htb;have CC:lW H8 tb (.tup [.int (ld:Int),.ref D2]) tb=some (.tup [.int (ld:Int),.ref D2]):=zc;have CD:=t9 _ _ (t8 _ _ Ex);have s9:=(s7.trans t8).trans t9;have Bz:=(Ey.same t8).same t9;have h9D:=t9 _ _ h8D;generalize lW H8 tb (.tup [.int (ld:Int),.ref D2])=H9 at t9 CC CD s9 Bz h9D ⊢;have Bq:=E.ln;refine (ex3 ca _ _ ⟨rfl,rfl,CD,by rw [ab,Bv,Bq]; lia,cs++[tb],_,_,_,_,_,_,_,_,rfl,zat s9 hca,by rw [zc,ap]; rfl,bZ (Bz.put CD) ⟨D2,?_,?_,hDc⟩,zhO hp E hi W Ct hg0⟩)
       ·rw [zl (fun e=>by rw [e,CD] at CC; cases CC)];exact CC
       ·rw [zl hDc];exact h9D
  ·rintro σ H1 ⟨cs,cl,e4,e5,e6,e7,e8,e9,uF,rfl,s1,Bt,vz,E⟩;exact qn H1 s1 (zlR E)
end
section
variable {P:Program} {w:World} {K:ah} {mg:Str→Option Value} {base:Heap} {t:Adr}
def pwr (p x:Int) (kept n:Nat):List Int:=(au kept).map fun u=>cf x n u % p
def pws (p x:Int) (kept n:Nat):List (List Int):=(au n).map (pwr p x kept)
theorem ze7 (p x:Int) (kept n:Nat):pws p x kept (n+1)=pws p x kept n++[pwr p x kept n]:=by
 unfold pws;rw [bU,ap];rfl
theorem zba (p x:Int) (kept n:Nat):(pwr p x kept n).length=kept:=by unfold pwr; rw [ab,aD]
theorem ze8 {p x:Int} {kept n u:Nat} (h:u < kept):gl (pwr p x kept n) u=cf x n u % p:=zaF (by unfold pwr; rw [af,aY h]; rfl)
theorem zmr {p x:Int} {kept n:Nat}:(zde p (-x) (pwr p x kept n)).take kept=pwr p x kept (n+1):=by
 refine zlQ (by rw [aL,zcF,zba,zba]; lia) fun u hu=>?_
 have hu:u < kept:=by rw [aL,zcF,zba] at hu; lia
 rw [ze8 hu];have e1:gl ((zde p (-x) (pwr p x kept n)).take kept) u=gl (zde p (-x) (pwr p x kept n)) u:=by
  unfold gl;rw [aK,aK,bW hu]
 rw [e1];unfold zde;rw [zlP (by rw [bm,zba]; lia) (by rw [aA,zba]; simp; lia)];have e2:gl (pwr p x kept n++[0]) u=cf x n u % p:=by
  rw [← ze8 hu];unfold gl;rw [aK,aK,be (by rw [zba]; exact hu)]
 rw [e2];show (_ - (-x)*_) % p=_;cases u with
 | zero =>
  show (0 - (-x)*(cf x n 0 % p)) % p=cf x (n+1) 0 % p;rw [zgK,zgK,fB];refine Cg.mod_eq ?_;refine (((Cg.refl p 0).sub ((Cg.refl p (-x)).mul (Cg.emod p _)))).trans (Cg.of_eq (by grind))
 | succ u =>
  have e3:gl (0 :: pwr p x kept n) (u+1)=cf x n u % p:=by
   rw [← ze8 (show u < kept by lia)];unfold gl;simp
  rw [e3,znu];refine Cg.mod_eq ?_;refine ((Cg.emod p _).sub ((Cg.refl p (-x)).mul (Cg.emod p _))).trans (Cg.of_eq (by grind))
theorem zms {p x:Int} (hp:1 < p) {kept:Nat} (hk:1≤kept):pwr p x kept 0=1 :: aq (kept - 1) 0:=by
 refine zlQ (by rw [zba,bm,a8]; lia) fun u hu=>?_
 rw [zba] at hu;rw [ze8 hu];cases u with
 | zero =>
  rw [zgK,Int.pow_zero];show (1:Int) % p=1;exact cF #[D] hp
 | succ u =>
  have e:cf x 0 (u+1)=0:=by show (0:Int)*_=0; simp
  rw [e,jZ];unfold gl;rw [aK,cK,c8,if_pos #[O]];rfl
def zd9 (K:ah):Sp:=fun vs H Q _=>∃ (p x:Int) (most kept:Nat),vs = [.int p,.int x,.int (most:Int),.int (kept:Int)]∧5≤p∧p≤97∧0≤x∧x < p∧most≤500∧1≤kept∧kept≤100 ∧
 ∀ (l:Addr) (ls:List Addr) (H':Hp),H l=none→zq H H'→H' l=some (.lst (ls.map V.ref))→LsA H' ls (pws p x kept (most+1))→Q (.ref l) H'
theorem zbx:FnScope ["p","by","most","kept","powers","power"] ["p","by","most","kept"] (zg za7):=#[S]
theorem zea {fd:FuncData} (T:Txt K mg t) (F:Fun K "moved_powers" "moved_powers" za7 t.moved_powers fd):FnOk P w K mg base CX0 2 t.moved_powers fd ["p","by","most","kept"] (zd9 K):=by
 obtain⟨qW,pg,nN⟩:=T.f_times_root;have rW:=zfo (P:=P) (w:=w) (base:=base) T pg;refine F.ok zbx (fun vs H Q E h=>?_) (fun mM A outer s H vs Q E hr h=>?_)
 ·obtain⟨p,x,most,kept,rfl,_⟩:=h;rfl
 ·obtain⟨p,x,most,kept,rfl,p5,t6,x0,x1,hm,k1,k2,q⟩:=h;refine⟨_,#[ze,#[zn,4,zbx.nd,#[A],#[zaC,#[za,#[zj,#[zcp],#[zaC,#[za,#[zh],#[zd]]],#[zj,#[zeD],#[zaC,#[za,#[zh],#[zd]]],#[zj,#[zaj],#[pvx,3],#[zh]]]],#[zd]]]],#[ze,#[zaX,bL,#[zZ,T.range_,#[za,#[pvx,2],#[zd]]],#[zf,5,zbx.nd,#[A]],#[zk,#[zc8,#[zi6,eX,gc,gd,#[zdI],#[pvx,4],#[za,#[zbY,zcB,#[zm,rW,(hr.mono #[D]),T.m_times_root,pg.kp,nN,#[zI],#[za,#[pvx,0],#[za,#[zY,#[zM],#[pvx,4],#[zn2,zk0,#[zh]]],#[za,#[zn2,zk0,#[pvx,1]],#[zd]]]]],#[zda],#[zb7,#[pvx,3]]],#[zd]]]]]],#[zk,#[zC,#[pvx,4]]]]],?_⟩;have o9:=a7;refine⟨by show 1≤sizeLine; lia,fun A1 hA1=>?_⟩;have u1:=zb (o:=.lst [V.int 1]) hA1;have v1:lW H A1 (.lst [V.int 1]) A1=some (.lst [V.int 1]):=zc;generalize lW H A1 (.lst [V.int 1])=H1 at u1 v1 ⊢;refine⟨by show 1≤sizeLine; lia,fun A2 hA2=>?_⟩;have u2:=u1.trans (zb (o:=.lst [V.int 0]) hA2);have v12:=(zb (o:=.lst [V.int 0]) hA2) _ _ v1;have v2:lW H1 A2 (.lst [V.int 0]) A2=some (.lst [V.int 0]):=zc;generalize lW H1 A2 (.lst [V.int 0])=H2 at u2 v12 v2 ⊢;have ek:((kept:Int) - 1).toNat=kept - 1:=by lia
  refine (lS rfl (lX rfl rfl (ex3 A2 _ _ ⟨rfl,rfl,v2,#[O],#[O],by rw [ek]; show 1*(kept - 1)≤sizeLine; lia,fun A3 hA3=>?_⟩)));rw [ek,eL];have w3:=zb (o:=.lst (aq (kept - 1) (V.int 0))) hA3;have v13:=w3 _ _ v12;have v3:lW H2 A3 (.lst (aq (kept - 1) (V.int 0))) A3=some (.lst (aq (kept - 1) (V.int 0))):=zc;have u3:=u2.trans w3;generalize lW H2 A3 (.lst (aq (kept - 1) (V.int 0)))=H3 at u3 v13 v3 ⊢;refine (ex4 A1 A3 _ _ ⟨rfl,rfl,v13,v3,by rw [a8]; show 1+(kept - 1)≤sizeLine; lia,fun A4 hA4=>?_⟩);have ez:[V.int 1]++aq (kept - 1) (V.int 0)=(pwr p x kept 0).map V.int:=by rw [zms #[O] k1,bO,ge]; rfl
  rw [ez];have u4:=u3.trans (zb (o:=.lst ((pwr p x kept 0).map V.int)) hA4);have v4:lW H3 A4 (.lst ((pwr p x kept 0).map V.int)) A4=some (.lst ((pwr p x kept 0).map V.int)):=zc;generalize lW H3 A4 (.lst ((pwr p x kept 0).map V.int))=H4 at u4 v4 ⊢;refine⟨by show 1≤sizeLine; lia,fun PW Ez=>?_⟩;have sw:=zb (o:=.lst [V.ref A4]) Ez;have CF:((most:Int)).toNat=most:=by lia
  refine (lS rfl (lS rfl ⟨#[O],#[O],zaZ (lo:=0) (n:=((most:Int)).toNat) (fun i σ H'=>∃ (e5:Option V),σ = [some (.int p),some (.int x),some (.int (most:Int)),some (.int (kept:Int)),some (.ref PW),e5]∧zq H H'∧∃ ls:List Addr,H' PW=some (.lst (ls.map V.ref))∧LsA H' ls (pws p x kept (i+1))) ⟨none,rfl,u4.trans sw,[A4],zc,.cons (sw _ _ v4) .nil⟩ ?_ ?_⟩))
  ·rintro i σ H5 hi ⟨e5,rfl,s5,ls,h5,mO⟩;have uE:ls.length=i+1:=by rw [aQ mO]; unfold pws; rw [ab,aD]
   rw [ze7] at mO;obtain⟨xo,b,rfl⟩:∃ xo b,ls=xo++[b]:=⟨_,_,(List.dropLast_concat_getLast (l:=ls) (fun e=>by rw [e] at uE; simp at uE)).symm⟩;obtain⟨hA,hB⟩:=zd0 mO;have pf:atI ((xo++[b]).map V.ref) (-1)=some (.ref b):=by rw [ap]; exact znF
   refine (lS rfl ⟨.inl ⟨rfl,_,lT.of h5⟩,(lS rfl (lS rfl (lS rfl (ex4 PW _ _ _ ⟨rfl,rfl,lT.of h5,pf,(lS rfl (lS rfl (ex4 p (-x) b _ ⟨rfl,hB,by rw [zba]; lia,#[O],#[O],#[O],fun l H6 hl s6 h6=>?_⟩)))⟩))))⟩);refine (lS rfl (lS rfl ⟨l,(lS rfl ⟨lT.of h6,fun z hz=>?_⟩)⟩));have ec:zcU ((zde p (-x) (pwr p x kept i)).map V.int) none (some (kept:Int))=(pwr p x kept (i+1)).map V.int:=by
    unfold zcU;rw [HT.sIx_nat,HT.sIx_none,fz,eK,ab,zcF,zba,dE #[O],← gJ,zmr]
   rw [ec];have sz:=zb (o:=.lst ((pwr p x kept (i+1)).map V.int)) hz;have h6P:=s6 _ _ h5;have h7P:=sz _ _ h6P;have zP:z≠PW:=(zB h6P hz).symm;refine (ex3 PW _ _ ⟨rfl,rfl,h7P,by rw [ab,uE]; lia,?_⟩);refine (lS rfl ⟨zat ((s5.trans s6).trans sz) (u4.free Ez),(xo++[b])++[z],by rw [zc]; simp,?_⟩);rw [ze7];refine bZ (zpc (D:=PW) (fun hm=>?_) (fun c o hc e=>by rw [zl hc]; exact e) (LsA.same (s6.trans sz) (by rw [ze7]; exact mO))) (by rw [zl zP]; exact zc);obtain⟨j,hj⟩:=ci.mp hm;exact LsA.off mO h5 j PW hj rfl
  ·rintro σ H5 ⟨e5,rfl,s5,ls,h5,mO⟩;rw [CF] at mO;exact (lS rfl (q PW ls _ (u4.free Ez) s5 h5 mO))
def tI (t:Tm):Int×Int:=((t.1:Int),(t.2:Int))
theorem zjK {ns:List Nat} {M:Int} (hM:M∈ns.map fun n:Nat=>(n:Int)) (yJ:∀ a∈ns.map (fun n:Nat=>(n:Int)),a≤M):∃ m:Nat,M=m∧m∈ns∧∀ n∈ns,n≤m:=by
 obtain⟨m,hm,rfl⟩:=av.mp hM;refine⟨m,rfl,hm,fun n hn=>?_⟩;have:=yJ _ (av.mpr ⟨n,hn,rfl⟩);lia
theorem zjL {K:ah} {H:Hp} {tl:Addr} {bs:List Addr} {ts:List Tm} (p6:H tl=some (.lst (bs.map V.ref))) (p8:PtB H bs (ts.map tI)) (lY:ts.length≤200) {g:TG} {tt:TT} {te:TE} {σ0:L2.St} {Q:VK} (f:Tm→Int)
  (hs:∀ (T:Addr) (t:Tm) (R:VK) (B:L2.St→Hp→Prop),t∈ts→me K H T [.int (t.1:Int),.int (t.2:Int)]→R (.int (f t)) H→g (.ref T) σ0 H fun σ2 H2=>tt σ2 H2 fun b H3=>if b=true then te σ2 H3 R else B σ2 H3)
  (hd:∀ D,H D=none→Q (.ref D) (lW H D (.lst ((ts.map f).map V.int)))):cGo g tt te σ0 (Itl K tl) Q H:=by
 have sS:bs.length=ts.length:=by rw [aQ p8,ab]
 refine za0 (fs:=(ts.map f).map V.int) (lT.of p6) (by rw [ab,ab,ab,sS]) (by rw [ab]; lia) (fun i x y R B hx hy hR=>?_) hd;obtain⟨b,rfl,xp⟩:=zN hx;obtain⟨q,hq,hT⟩:=Paired.get p8 xp;rw [af] at hq;obtain⟨t,ht,rfl⟩:=gH.mp hq;rw [af,af,ht] at hy;have hy:V.int (f t)=y:=by simpa using hy
 subst hy;exact hs b t R B (aI ht) (me.of hT) hR
def nAt (t:Tm) (x y p:Int) (w m:Nat):List Int:=(au m).flatMap fun u=>(au (w - u)).map fun v=>cv t ⟨x,y,u,v⟩ % p
theorem zhY (t:Tm) (x y p:Int) (w m:Nat):nAt t x y p w (m+1)=nAt t x y p w m++(au (w - m)).map fun v=>cv t ⟨x,y,m,v⟩ % p:=by
 unfold nAt;rw [bU,df];simp
theorem znO (t:Tm) (x y p:Int) (w:Nat):nAt t x y p w w=(pco (x,y,w)).map fun c=>cv t c % p:=by
 unfold nAt pco;rw [List.map_flatMap];congr 1;funext u;rw [cL];rfl
theorem zjM (t:Tm) (x y p:Int) (w:Nat):∀ m,(nAt t x y p w m).length≤w*m
 | 0=>by simp [nAt]
 | m+1=>by
  have ih:=zjM t x y p w m;rw [zhY,aA,ab,aD,fE];lia
theorem zmt {H:Hp} {l:Addr} {ls:List Addr} {p x:Int} {w n i u:Nat} (h:LsA H ls (pws p x w n)) (hi:i < n) (hu:u < w):∃ b,atI (ls.map V.ref) (i:Int)=some (.ref b)∧H b=some (.lst ((pwr p x w i).map V.int))∧atI ((pwr p x w i).map V.int) (u:Int)=some (.int (cf x i u % p)):=by
 have hl:ls.length=n:=by rw [aQ h]; unfold pws; rw [ab,aD]
 have hb:ls[i]? = some (ls[i]'#[O]):=ai #[O];obtain⟨v,hv,hvb⟩:=Paired.get h hb;unfold pws at hv;rw [af,aY hi] at hv;cases hv;refine⟨_,zax (by rw [af,hb]; rfl),hvb,zax ?_⟩;rw [af,zbe (by rw [zba]; exact hu),ze8 hu];rfl
def zfp (K:ah):Sp:=fun vs H Q _=>∃ (p:Int) (tl pt:Addr) (x y:Int) (w:Nat) (bs:List Addr) (ts:List Tm),vs = [.int p,.ref tl,.ref pt]∧5≤p∧p≤97∧0≤x∧x < p∧0≤y∧y < p∧1≤w∧w≤9∧H tl=some (.lst (bs.map V.ref))∧PtB H bs (ts.map tI)∧ts≠[]∧ts.length≤200∧(∀ t∈ts,t.1≤400∧t.2≤400)∧H pt=some (.tup [.int x,.int y,.int (w:Int)]) ∧
 ∀ (l:Addr) (ls:List Addr) (H':Hp),H l=none→zq H H'→H' l=some (.lst (ls.map V.ref))→LsA H' ls (ts.map fun t=>(pco (x,y,w)).map fun c=>cv t c % p)→Q (.ref l) H'
theorem zaB:FnScope ["p","terms","point","x","y","weight","by_x","by_y"] ["p","terms","point"] (zg zaz):=#[S]
theorem zfq {fd:FuncData} (T:Txt K mg t) (F:Fun K "numbers_at" "numbers_at" zaz t.numbers_at fd):FnOk P w K mg base CX0 3 t.numbers_at fd ["p","terms","point"] (zfp K):=by
 obtain⟨qj,mX,mN⟩:=T.f_moved_powers;have n9:=zea (P:=P) (w:=w) (base:=base) T mX;refine F.ok zaB (fun vs H Q E h=>?_) (fun mM A outer s H vs Q E hr h=>?_)
 ·obtain⟨p,tl,pt,x,y,wt,bs,ts,rfl,_⟩:=h;rfl
 ·obtain⟨p,tl,pt,x,y,wt,bs,ts,rfl,p5,t6,x0,x1,y0,y1,w1,w9,p6,p8,mB,lY,tR,hp,q⟩:=h;refine⟨_,#[ze,#[zaP,#[pvx,2],#[zaW,#[zi,#[zf,3,zaB.nd,#[A]],#[zi,#[zf,4,zaB.nd,#[A]],#[zi,#[zf,5,zaB.nd,(cJ rfl)],#[zz]]]]]],#[ze,#[zn,6,zaB.nd,(cJ rfl),#[zm,n9,(hr.mono #[D]),T.m_moved_powers,mX.kp,mN,#[zI],#[za,#[pvx,0],by exact #[za,#[pvx,3],#[za,#[zE,#[zdN],T.max_,jS,#[za,#[zD,(CompSc.of (N':=["i","j"]) (ix:=[none,none]) (zg zaz) ["p","terms","point","x","y","weight","by_x","by_y"] rfl rfl #[N]),#[zaD,#[zp,#[zp,#[zal]]]],#[zX,#[pvx,1]],(fun _ _ _ _=>#[zaa,(K),2,#[zi,#[zf,0,(show (["i","j"]:List Str).Nodup from #[N]),#[A]],#[zi,#[zf,1,(show (["i","j"]:List Str).Nodup from #[N]),#[A]],#[zz]]]]),(fun _ _ _ _=>#[zo]),(fun _ _ _ _=>#[pvx,0])],#[zd]]],#[za,#[pvx,5],#[zd]]]]]]],#[ze,#[zn,7,zaB.nd,(cJ rfl),#[zm,n9,(hr.mono #[D]),T.m_moved_powers,mX.kp,mN,#[zI],#[za,#[pvx,0],by exact #[za,#[pvx,4],#[za,#[zE,#[zdN],T.max_,jS,#[za,#[zD,(CompSc.of (N':=["i","j"]) (ix:=[none,none]) (zg zaz) ["p","terms","point","x","y","weight","by_x","by_y"] rfl rfl #[N]),#[zaD,#[zp,#[zp,#[zal]]]],#[zX,#[pvx,1]],(fun _ _ _ _=>#[zaa,(K),2,#[zi,#[zf,0,(show (["i","j"]:List Str).Nodup from #[N]),#[A]],#[zi,#[zf,1,(show (["i","j"]:List Str).Nodup from #[N]),#[A]],#[zz]]]]),(fun _ _ _ _=>#[zo]),(fun _ _ _ _=>#[pvx,1])],#[zd]]],#[za,#[pvx,5],#[zd]]]]]]],#[zk,#[zC,#[zD,(CompSc.of (N':=["i","j","weight","by_x","by_y","p"]) (ix:=[none,none,some 5,some 6,some 7,some 0]) (zg zaz) ["p","terms","point","x","y","weight","by_x","by_y"] rfl rfl #[N]),#[zaD,#[zp,#[zp,#[zal]]]],#[zX,#[pvx,1]],(fun _ _ _ _=>#[zaa,(K),2,#[zi,#[zf,0,(show (["i","j","weight","by_x","by_y","p"]:List Str).Nodup from #[N]),(cJ rfl)],#[zi,#[zf,1,(show (["i","j","weight","by_x","by_y","p"]:List Str).Nodup from #[N]),(cJ rfl)],#[zz]]]]),(fun _ _ _ _=>#[zo]),(fun _ _ _ _=>#[zjq,(CompSc.of (N':=["u","v","by_x","i","by_y","j","p","weight"]) (ix:=[none,none,some 3,some 0,some 4,some 1,some 5,some 2]) ({ kind:=.function,names:=[(".0",.local),("i",.cell),("j",.cell),("range",.globalImplicit),("by_x",.cell),("by_y",.cell),("p",.cell),("weight",.cell)],isGenerator:=false,isCoroutine:=false }) ["i","j","weight","by_x","by_y","p"] (by with_unfolding_all rfl) rfl #[N]),(zef (js:=[0]) (i:=0) #[D]),(zef (js:=[1]) (i:=1) #[D]),#[zZ,T.range_,#[za,#[pvx,2],#[zd]]],(fun _ _ _ _=>#[zf,0,(show (["u","v","by_x","i","by_y","j","p","weight"]:List Str).Nodup from #[N]),#[A]]),(fun _ _ _ _=>#[zo]),(fun _ _ _ _=>#[zZ,T.range_,#[za,#[zj,#[zaj],#[pvx,7],#[pvx,0]],#[zd]]]),(fun _ _ _ _=>#[zf,1,(show (["u","v","by_x","i","by_y","j","p","weight"]:List Str).Nodup from #[N]),#[A]]),(fun _ _ _ _=>#[zo]),(fun _ _ _ _=>#[zj,#[zL],#[zj,#[zQ],#[zY,#[za5,(K)],#[zY,#[za5,(K)],#[pvx,2],#[pvx,3]],#[pvx,0]],#[zY,#[za5,(K)],#[zY,#[za5,(K)],#[pvx,4],#[pvx,5]],#[pvx,1]]],#[pvx,6]]),(by intros; rfl)])]]]]]],?_⟩;have o9:=a7;have sS:bs.length=ts.length:=by rw [aQ p8,ab]
  refine⟨_,rfl,pt,_,rfl,me.of hp,rfl,_,_,rfl,_,_,rfl,_,_,rfl,rfl,?_⟩;refine⟨_,rfl,_,rfl,_,rfl,tl,rfl,⟨_,lT.of p6⟩,zjL p6 p8 lY (fun t=>(t.1:Int)) (fun T t R B ht hT hR=>gY2 hT ⟨_,rfl,hR⟩) fun D hD=>?_⟩;refine⟨D,ts.map fun t=>(t.1:Int),rfl,lT.of zc,by simpa using mB,fun M hM yJ=>?_⟩;obtain⟨mx,rfl,mx1,mx2⟩:=zjK (ns:=ts.map (·.1)) (by rw [cL]; exact hM) (by rw [cL]; exact yJ);have mx4:mx≤400:=by obtain⟨t,ht,rfl⟩:=av.mp mx1; exact (tR t ht).1
  have s0:=zb (o:=.lst ((ts.map fun t:Tm=>(t.1:Int)).map V.int)) hD;generalize lW H D (.lst ((ts.map fun t:Tm=>(t.1:Int)).map V.int))=H0 at s0 ⊢;refine (lS rfl (ex4 p x mx wt ⟨rfl,p5,t6,x0,x1,#[O],w1,#[O],fun l1 ls1 H1 uM s1 h1 g1=>?_⟩));have xq:=s0.trans s1;refine⟨_,rfl,_,rfl,_,rfl,tl,rfl,⟨_,lT.of (xq _ _ p6)⟩,zjL (xq _ _ p6) (p8.same xq) lY (fun t=>(t.2:Int)) (fun T t R B ht hT hR=>gY2 hT ⟨_,rfl,hR⟩) fun D2 rV=>?_⟩;refine⟨D2,ts.map fun t=>(t.2:Int),rfl,lT.of zc,by simpa using mB,fun M hM yJ=>?_⟩;obtain⟨my,rfl,my1,xh⟩:=zjK (ns:=ts.map (·.2)) (by rw [cL]; exact hM) (by rw [cL]; exact yJ);have my4:my≤400:=by obtain⟨t,ht,rfl⟩:=av.mp my1; exact (tR t ht).2
  have s2:=zb (o:=.lst ((ts.map fun t:Tm=>(t.2:Int)).map V.int)) rV;generalize lW H1 D2 (.lst ((ts.map fun t:Tm=>(t.2:Int)).map V.int))=H2 at s2 ⊢;refine (lS rfl (ex4 p y my wt ⟨rfl,p5,t6,y0,y1,#[O],w1,#[O],fun l2 CG H3 qe s3 h3 g3=>?_⟩));have EA:=s2.trans s3;have sA:=xq.trans EA;have h1:=EA _ _ h1;have g1:=g1.same EA;refine (lS rfl ⟨tl,rfl,⟨_,lT.of (sA _ _ p6)⟩,zK (n:=ts.length) (fun m ys H'=>zq H3 H'∧∃ us:List Addr,ys=us.map V.ref∧LsA H' us ((ts.take m).map fun t=>(pco (x,y,wt)).map fun c=>cv t c % p)) ⟨fun _ _ e=>e,[],rfl,.nil⟩ ?_ ?_ ?_ ?_⟩)
  ·rintro m ys H4 hm ⟨s4,_⟩;exact⟨_,.ref (bs[m]'#[O]),lT.of ((sA.trans s4) _ _ p6),by rw [af,ai #[O]]; rfl⟩
  ·rintro ys H4 ⟨s4,_⟩;exact⟨_,lT.of ((sA.trans s4) _ _ p6),by rw [ab]; lia⟩
  ·rintro m z ys H4 H5 hm ⟨s4,us,rfl,mo⟩ ⟨rfl,hx⟩;have sA4:=sA.trans s4;obtain⟨b,rfl,uY⟩:=zN (hx _ (lT.of (sA4 _ _ p6)));obtain⟨q',qi,hT⟩:=Paired.get (p8.same sA4) uY;rw [af] at qi;obtain⟨t,ht,rfl⟩:=gH.mp qi;have CH:=aI ht;have hz:us.length=m:=by rw [aQ mo,ab,aL]; lia
   have t1:t.1 < mx+1:=iS (mx2 _ (av.mpr ⟨t,CH,rfl⟩));have t2:t.2 < my+1:=iS (xh _ (av.mpr ⟨t,CH,rfl⟩));have h4x:=s4 _ _ h1;have h4y:=s4 _ _ h3;have g4x:=g1.same s4;have g4y:=g3.same s4;refine gY2 (me.of hT) ?_;have ew:((wt:Int)).toNat=wt:=by lia
   refine (lS rfl (lS rfl ⟨#[O],#[O],?_⟩));rw [ew];refine zdY (n:=wt) (fun u ys H'=>H'=H5∧ys=(nAt t x y p wt u).map V.int) ⟨rfl,rfl⟩ (fun i ys H' hi _=>hi) (fun ys H' _=>ag _) ?_ ?_
   ·rintro u xx ys H6 H7 hu ⟨rfl,rfl⟩ ⟨rfl,rfl⟩;rw [show ((0:Int)+(u:Int))=(u:Int) from cZ _];refine gY ?_;have ewu:((wt:Int) - (u:Int)).toNat=wt - u:=by lia
    refine (lS rfl (lS rfl (lX rfl rfl (lS rfl ⟨#[O],#[O],?_⟩))));rw [ewu];refine zdY (n:=wt - u) (fun v ys H'=>H'=H7∧ys=(nAt t x y p wt u++(au v).map fun v=>cv t ⟨x,y,u,v⟩ % p).map V.int) ⟨rfl,#[M]⟩ (fun i ys H' hi _=>hi) (fun ys H' _=>ag _) ?_ ?_
    ·rintro v yy ys H8 H9 hv ⟨rfl,rfl⟩ ⟨rfl,rfl⟩;rw [show ((0:Int)+(v:Int))=(v:Int) from cZ _];obtain⟨bx,ax1,ax2,ax3⟩:=zmt (l:=l1) g4x t1 hu;obtain⟨b2,ay1,ay2,ay3⟩:=zmt (l:=l2) g4y t2 (show v < wt by lia);have r0:=aU (cf x t.1 u) (show p≠0 by lia);have r1:=aO (cf x t.1 u) (show 0 < p by lia);have nl:=zjM t x y p wt u;have nm:wt*u≤9*9:=gp #[O] #[O];refine gY ?_;refine (lS rfl (lS rfl (ex4 l1 _ _ _ ⟨rfl,rfl,lT.of h4x,ax1,(lS rfl (ex4 bx _ _ _ ⟨rfl,rfl,lT.of ax2,ax3,(lS rfl (lS rfl (ex4 l2 _ _ _ ⟨rfl,rfl,lT.of h4y,ay1,(lS rfl (ex4 b2 _ _ _ ⟨rfl,rfl,lT.of ay2,ay3,(lX rfl rfl ⟨.inl ⟨#[O],#[O]⟩,(lS rfl (lX rfl rfl ⟨#[O],?_⟩))⟩)⟩))⟩)))⟩))⟩)));refine⟨by rw [ab,aA,ab,aD]; lia,rfl,?_⟩;rw [bU,ap,ap,ap,ap,bf];have:cf x t.1 u % p*(cf y t.2 v % p) % p=cv t ⟨x,y,u,v⟩ % p:=by unfold cv; rw [← Int.mul_emod]
     show _++(_++[V.int (cf x t.1 u % p*(cf y t.2 v % p) % p)])=_;rw [this];rfl
    ·rintro ys H8 ⟨rfl,rfl⟩;refine⟨rfl,?_⟩;rw [zhY]
   ·rintro ys H6 ⟨rfl,rfl⟩ D3 wy;refine⟨by rw [ab]; lia,s4.trans (zb wy),us++[D3],#[M],?_⟩;rw [take_snoc ht,ap];refine bZ (mo.same (zb wy)) ?_;rw [zc,znO]
  ·rintro ys H4 D3 ⟨s4,us,rfl,mo⟩ wy;rw [aN (ag _)] at mo;have sf:=sA.trans s4;exact q D3 us _ (sf.free wy) (sf.trans (zb wy)) zc (mo.same (zb wy))
def W3 (H:Hp):List Addr→List (Int×Int×Nat)→Prop:=Paired fun b q=>H b=some (.tup [.int q.1,.int q.2.1,.int (q.2.2:Int)])
theorem W3.same {H H':Hp} (s:zq H H') {bs:List Addr} {lZ:List (Int×Int×Nat)} (h:W3 H bs lZ):W3 H' bs lZ:=dQ (fun _ _ z=>s _ _ z) h
def zmu (p:Int) (lZ:List (Int×Int×Nat)):Prop:=∀ q∈lZ,0≤q.1∧q.1 < p∧0≤q.2.1∧q.2.1 < p∧1≤q.2.2∧q.2.2≤9
theorem zmv {p:Int} {lZ:List (Int×Int×Nat)} {q:Int×Int×Nat} {t:Tm}:zaG p (lZ++[q]) t=zaG p lZ t++(pco q).map fun c=>cv t c % p:=by
 unfold zaG cos;rw [df,ap];simp
theorem zpm {lZ:List (Int×Int×Nat)} (i:Nat):(cos (lZ.take i)).length≤(cos lZ).length:=by
 conv=>rhs; rw [← cU i lZ]
 unfold cos;rw [df,aA];lia
def zfr (K:ah):Sp:=fun vs H Q _=>∃ (p:Int) (tl pl:Addr) (bs cs:List Addr) (ts:List Tm) (lZ:List (Int×Int×Nat)),vs = [.int p,.ref tl,.ref pl]∧5≤p∧p≤97∧H tl=some (.lst (bs.map V.ref))∧PtB H bs (ts.map tI)∧ts≠[]∧ts.length≤200∧(∀ t∈ts,t.1≤400∧t.2≤400)∧H pl=some (.lst (cs.map V.ref))∧W3 H cs lZ∧zmu p lZ∧(cos lZ).length≤800∧lZ.length≤1000 ∧
 ∀ (l:Addr) (ls:List Addr) (H':Hp),H l=none→zq H H'→H' l=some (.lst (ls.map V.ref))→LsA H' ls (ts.map (zaG p lZ))→Q (.ref l) H'
theorem zbn:FnScope ["p","terms","points","vectors","point"] ["p","terms","points"] (zg zaN):=#[S]
theorem zfs {fd:FuncData} (T:Txt K mg t) (F:Fun K "vectors_of" "vectors_of" zaN t.vectors_of fd):FnOk P w K mg base CX0 4 t.vectors_of fd ["p","terms","points"] (zfr K):=by
 obtain⟨qX,ph,nO⟩:=T.f_numbers_at;have rX:=zfq (P:=P) (w:=w) (base:=base) T ph;refine F.ok zbn (fun vs H Q E h=>?_) (fun mM A outer s H vs Q E hr h=>?_)
 ·obtain⟨p,tl,pl,bs,cs,ts,lZ,rfl,_⟩:=h;rfl
 ·obtain⟨p,tl,pl,bs,cs,ts,lZ,rfl,p5,t6,p6,p8,mB,lY,tR,oR,xQ,hg,hL,hn,q⟩:=h;refine⟨_,#[ze,#[zbG,3,zbn.nd,#[A],(CompSc.of (N':=["term"]) (ix:=[none]) (zg zaN) ["p","terms","points","vectors","point"] rfl rfl #[N]),#[z9],#[zX,#[pvx,1]],(fun _ _ _ _=>#[zf,0,(show (["term"]:List Str).Nodup from #[N]),#[A]]),(fun _ _ _ _=>#[zo]),(fun _ _ _ _=>#[zaC,#[zd]])],#[ze,#[zaX,bL,#[zX,#[pvx,2]],#[zf,4,zbn.nd,#[A]],#[zk,#[zbG,3,zbn.nd,#[A],(CompSc.of (N':=["vector","numbers"]) (ix:=[none,none]) (zg zaN) ["p","terms","points","vectors","point"] rfl rfl #[N]),#[zaD,#[zp,#[zp,#[zal]]]],#[zeh,T.zip_,#[za,#[pvx,3],#[za,#[zm,rX,(hr.mono #[D]),T.m_numbers_at,ph.kp,nO,#[zI],#[za,#[pvx,0],#[za,#[pvx,1],#[za,#[pvx,4],#[zd]]]]],#[zd]]]],(fun _ _ _ _=>#[zaa,(K),2,#[zi,#[zf,0,(show (["vector","numbers"]:List Str).Nodup from #[N]),#[A]],#[zi,#[zf,1,(show (["vector","numbers"]:List Str).Nodup from #[N]),#[A]],#[zz]]]]),(fun _ _ _ _=>#[zo]),(fun _ _ _ _=>#[zj,#[zcp],#[pvx,0],#[pvx,1]])]]],#[zk,#[zC,#[pvx,3]]]]],?_⟩;have o9:=a7;have sS:bs.length=ts.length:=by rw [aQ p8,ab]
  have vz:=aQ xQ;refine (lS rfl ⟨tl,rfl,⟨_,lT.of p6⟩,zK (n:=ts.length) (fun m ys H'=>zq H H'∧∃ us:List Addr,ys=us.map V.ref∧LsA H' us ((ts.take m).map (zaG p []))) ⟨fun _ _ e=>e,[],rfl,.nil⟩ ?_ ?_ ?_ ?_⟩)
  ·rintro m ys H4 hm ⟨s4,_⟩;exact⟨_,.ref (bs[m]'#[O]),lT.of (s4 _ _ p6),by rw [af,ai #[O]]; rfl⟩
  ·rintro ys H4 ⟨s4,_⟩;exact⟨_,lT.of (s4 _ _ p6),by rw [ab]; lia⟩
  ·rintro m z ys H4 H5 hm ⟨s4,us,rfl,mo⟩ ⟨rfl,hx⟩;have hz:us.length=m:=by rw [aQ mo,ab,aL]; lia
   refine gY ?_;refine⟨bz _,fun D hD=>⟨by rw [ab]; lia,s4.trans (zb hD),us++[D],#[M],?_⟩⟩;have ht:ts[m]? = some (ts[m]'hm):=ai hm;rw [take_snoc ht,ap];exact bZ (mo.same (zb hD)) zc
  ·rintro ys H4 V0 ⟨s4,us,rfl,mo⟩ hV;rw [aN (ag _)] at mo;have sV:=s4.trans (zb (o:=.lst (us.map V.ref)) hV);refine (lS rfl ⟨pl,rfl,⟨_,lT.of (sV _ _ oR)⟩,zc9 (K:=K) (a:=pl) (xs:=cs.map V.ref) (fun i σ H'=>∃ (vl:Addr) (ls:List Addr) (e4:Option V),σ = [some (.int p),some (.ref tl),some (.ref pl),some (.ref vl),e4]∧zq H H'∧H vl=none∧H' vl=some (.lst (ls.map V.ref))∧LsA H' ls (ts.map (zaG p (lZ.take i)))) (ex3 V0 us none ⟨rfl,sV,s4.free hV,zc,mo.same (zb hV)⟩) ?_ ?_ ?_⟩)
   ·rintro i σ H' _ ⟨vl,ls,e4,rfl,s,_⟩;exact lT.of (s _ _ oR)
   ·rintro i x σ H5 hx ⟨vl,ls,e4,rfl,s5,vy,h5,mO⟩;obtain⟨b,rfl,hb⟩:=zN hx;obtain⟨⟨px,py,pw⟩,hq,BA⟩:=Paired.get xQ hb;obtain⟨g1,g2,g3,g4,g5,g6⟩:=hg _ (aI hq);refine (lS rfl (lS rfl (lS rfl (lS rfl (ex8 p tl b px py pw bs ts ⟨rfl,p5,t6,g1,g2,g3,g4,g5,g6,s5 _ _ p6,p8.same s5,mB,lY,tR,s5 _ _ BA,fun nl nls H6 hnl s6 h6 g6'=>?_⟩)))));have CI:=s6 _ _ h5;have EB:=mO.same s6;have l1:ls.length=ts.length:=by rw [aQ mO,ab]
    have l2:nls.length=ts.length:=by rw [aQ g6',ab]
    refine (ex4 vl nl _ _ ⟨rfl,lT.of CI,lT.of h6,zK (n:=ts.length) (fun m ys H'=>zq H6 H'∧∃ us:List Addr,ys=us.map V.ref∧LsA H' us ((ts.take m).map (zaG p (lZ.take (i+1))))) ⟨fun _ _ e=>e,[],rfl,.nil⟩ ?_ ?_ ?_ ?_⟩)
    ·rintro m ys H7 hm ⟨s7,_⟩;exact⟨_,_,.ref (ls[m]'#[O]),.ref (nls[m]'#[O]),lT.of (s7 _ _ CI),lT.of (s7 _ _ h6),by rw [af,ai #[O]]; rfl,by rw [af,ai #[O]]; rfl⟩
    ·rintro ys H7 ⟨s7,_⟩;exact⟨_,_,lT.of (s7 _ _ CI),lT.of (s7 _ _ h6),by rw [ab,ab]; lia⟩
    ·rintro m z ys H7 H8 hm ⟨s7,us,rfl,mo⟩ ⟨T,u,v,hT,rfl,rfl,hu,hv⟩;obtain⟨b1,rfl,tV⟩:=zN (hu _ (lT.of (s7 _ _ CI)));obtain⟨b2,rfl,tP⟩:=zN (hv _ (lT.of (s7 _ _ h6)));obtain⟨w1,hw1,EC⟩:=Paired.get EB tV;obtain⟨w2,hw2,ED⟩:=Paired.get g6' tP;have ht:ts[m]? = some (ts[m]'hm):=ai hm;rw [af,ht] at hw1 hw2;cases hw1;cases hw2;have hz:us.length=m:=by rw [aQ mo,ab,aL]; lia
     refine gY2 (me.of zc) ?_;have sT:=s7.trans (zb (o:=.tup [.ref b1,.ref b2]) hT);have BB:=mo.same (zb (o:=.tup [.ref b1,.ref b2]) hT);generalize lW H7 T (.tup [.ref b1,.ref b2])=H8 at sT BB ⊢;have lv:=zpm (lZ:=lZ) (i+1);have ev:zaG p (lZ.take (i+1)) (ts[m]'hm)=zaG p (lZ.take i) (ts[m]'hm)++(pco (px,py,pw)).map fun c=>cv (ts[m]'hm) c % p:=by rw [take_snoc hq,zmv]
     have lz:(zaG p (lZ.take i) (ts[m]'hm)).length+((pco (px,py,pw)).map fun c=>cv (ts[m]'hm) c % p).length=(cos (lZ.take (i+1))).length:=by rw [← aA,← ev,zjz]
     refine (lS rfl (lS rfl (ex4 b1 b2 _ _ ⟨rfl,rfl,sT _ _ EC,sT _ _ ED,(by simp only [ab] at lz ⊢; lia),fun D hD=>⟨by rw [ab]; lia,sT.trans (zb hD),us++[D],#[M],?_⟩⟩)));rw [take_snoc ht,ap];refine bZ (BB.same (zb hD)) ?_;rw [zc,ev,ap]
    ·rintro ys H7 D ⟨s7,us,rfl,mo⟩ hD;rw [aN (ag _)] at mo;have s57:=s6.trans s7;exact (ex3 D us _ ⟨rfl,(s5.trans s57).trans (zb hD),(s5.trans s57).free hD,zc,mo.same (zb hD)⟩)
   ·rintro σ H5 ⟨vl,ls,e4,rfl,s5,vy,h5,mO⟩;rw [ab,vz,aN (ag _)] at mO;exact (lS rfl (q vl ls _ vy s5 h5 mO))
def tK (t:Tm):List Key:=[gU (t.1:Int),gU (t.2:Int)]
theorem zmw {t u:Tm} (h:tK t=tK u):t=u:=by
 unfold tK at h;injection h with h1 h2
 injection h2 with h2 _
 have e1:(t.1:Int)=u.1:=kK h1;have e2:(t.2:Int)=u.2:=kK h2;exact lN #[O] #[O]
theorem zmx {ts:List Tm} (h:ts.Nodup):(ts.map tK).Nodup:=by
 rw [cM,b7];exact ed (fun mB e=>mB (zmw e)) h
theorem zpn {H:Hp} {bs:List Addr} {ts:List Tm} (h:PtB H bs (ts.map tI)):KyA H (bs.map V.ref) (ts.map tK):=by
 induction ts generalizing bs with
 | nil=>cases h; exact .nil
 | cons t ts ih =>
  cases h with
  | cons h1 h2=>exact .cons ⟨_,rfl,h1⟩ (ih h2)
def zgW (K:ah):Sp:=fun vs H Q _=>∃ (p:Int) (tl pl:Addr) (bs cs:List Addr) (ts:List Tm) (lZ:List (Int×Int×Nat)),vs = [.int p,.ref tl,.ref pl]∧p∈zr∧H tl=some (.lst (bs.map V.ref))∧PtB H bs (ts.map tI)∧ts.Nodup∧ts.length=(cos lZ).length+1∧ts.length≤200∧(∀ t∈ts,t.1≤400∧t.2≤400)∧H pl=some (.lst (cs.map V.ref))∧W3 H cs lZ∧zmu p lZ∧lZ.length≤1000 ∧
 ∀ (D:Addr) (c:List Int) (m:Nat) (H':Hp),H D=none→zq H H'→H' D=some (.dT ((ts.map tK).zip (c.map V.int)))→IsP p (m+1) c→m < ts.length→gl c m=1→Dep p (cos lZ).length (ts.map (zaG p lZ)) c→znx p (cos lZ).length m (ts.map (zaG p lZ))→Q (.ref D) H'
theorem zdD:FnScope ["p","terms","points","relation"] ["p","terms","points"] (zg zbs):=#[S]
theorem zgX {fd:FuncData} (T:Txt K mg t) (F:Fun K "first_sum" "first_sum" zbs t.first_sum fd):FnOk P w K mg base CX0 5 t.first_sum fd ["p","terms","points"] (zgW K):=by
 obtain⟨pj,nH,mR⟩:=T.f_first_relation;have pJ:=zdC (P:=P) (w:=w) (base:=base) T nH;obtain⟨qY,pk,nP⟩:=T.f_vectors_of;have rY:=zfs (P:=P) (w:=w) (base:=base) T pk;refine F.ok zdD (fun vs H Q E h=>?_) (fun mM A outer s H vs Q E hr h=>?_)
 ·obtain⟨p,tl,pl,bs,cs,ts,lZ,rfl,_⟩:=h;rfl
 ·obtain⟨p,tl,pl,bs,cs,ts,lZ,rfl,hp,p6,p8,pb,lY,qe,tR,oR,xQ,hg,hn,q⟩:=h;have hu:(A.deeper (envOfC (bF "first_sum") (zg zbs) s.heap.objs.size t.first_sum mM)).units+20 < cLine:=by have:=hr.units; lia
  refine⟨_,#[ze,#[zn,3,zdD.nd,#[A],#[zm,pJ,(hr.mono #[D]),T.m_first_relation,nH.kp,mR,#[zI],#[za,#[pvx,0],#[za,#[zm,rY,(hr.mono #[D]),T.m_vectors_of,pk.kp,nP,#[zI],#[za,#[pvx,0],#[za,#[pvx,1],#[za,#[pvx,2],#[zd]]]]],#[zd]]]]],#[zk,#[zC,(ziE (iE (j6 (show 2≤20 by decide) _) hu) rfl rfl T.dict_ rfl T.zip_ #[za,#[pvx,1],#[za,#[pvx,3],#[zd]]])]]],?_⟩;have o9:=a7;have rp:=zy hp;have mB:ts≠[]:=fun e=>by rw [e] at lY; simp at lY
  have hv:∀ v∈ts.map (zaG p lZ),v.length=(cos lZ).length∧∀ c∈v,0≤c∧c < p:=fun v hv=>by
   obtain⟨t,_,rfl⟩:=av.mp hv;exact⟨zjz p lZ t,znA #[O]⟩
  refine (lS rfl (lS rfl (lS rfl (lS rfl (ex7 p tl pl bs cs ts lZ ⟨rfl,#[O],#[O],p6,p8,mB,qe,tR,oR,xQ,hg,#[O],hn,fun vl vls H1 vy s1 h1 g1=>?_⟩)))));refine (ex5 p vl vls (ts.map (zaG p lZ)) ((cos lZ).length) ⟨rfl,h1,g1,by simpa using mB,by rw [ab]; exact qe,#[O],hv,hp,fun H2 s2 hI=>?_,fun l c m H2 hl s2 h2 hc hm EE hD hI=>?_⟩)
  ·have:=zl8 hp hv hI;rw [ab] at this;lia
  ·rw [ab] at hm;have uG:=s1.trans s2;exact (lS rfl (lS rfl (ex5 tl l _ _ _ ⟨rfl,lT.of (uG _ _ p6),lT.of h2,zpn (p8.same uG),zmx pb,fun D H3 wy s3 h3=>q D c m H3 (uG.free wy) (uG.trans s3) h3 hc hm EE hD hI⟩)))
def ze9 (K:ah):Sp:=fun vs H Q _=>∃ (k many:Nat),vs = [.int (k:Int),.int (many:Int)]∧2≤k∧k≤100∧many≤300 ∧
 ∀ (l:Addr) (us:List Addr) (S:Nat) (H':Hp),H l=none→zq H H'→H' l=some (.lst (us.map V.ref))→PtB H' us (((zO k S).take many).map tI)→S≤many→many≤(zO k S).length→Q (.ref l) H'
theorem zgY (k s:Nat):(tms k s).length=s / (k - 1)+1:=by unfold tms; rw [ab,aD]
theorem znP {H:Hp} {us:List Addr} {q:List (Int×Int)} (h:PtB H us q) (m:Nat):PtB H (us.take m) (q.take m):=by
 induction h generalizing m with
 | nil=>simp; exact .nil
 | cons h1 _ ih =>
  cases m with
  | zero=>exact .nil
  | succ m=>exact .cons h1 (ih m)
theorem zmy {H:Hp} {F:Addr} {xs:List V} {o:HO} {us:List Addr} {q:List (Int×Int)} (h:PtB H us q) (hF:H F=some (.lst xs)):PtB (lW H F o) us q:=dQ (fun b v z=>by rw [zl (fun e=>by rw [e,hF] at z; cases z)]; exact z) h
theorem zpo {H:Hp} {us vs:List Addr} {q r:List (Int×Int)} (h1:PtB H us q) (h2:PtB H vs r):PtB H (us++vs) (q++r):=by
 induction h1 with
 | nil=>exact h2
 | cons a _ ih=>exact .cons a ih
theorem zaJ:FnScope ["k","many","terms","size"] ["k","many"] (zg zaR):=#[S]
theorem zfa {fd:FuncData} (T:Txt K mg t) (F:Fun K "first_terms" "first_terms" zaR t.first_terms fd):FnOk P w K mg base CX0 1 t.first_terms fd ["k","many"] (ze9 K):=by
 refine F.ok zaJ (fun vs H Q E h=>?_) (fun mM A outer s H vs Q E hr h=>?_)
 ·obtain⟨k,many,rfl,_⟩:=h;rfl
 ·obtain⟨k,many,rfl,k2,BC,hm,q⟩:=h;refine⟨_,#[ze,#[zn,2,zaJ.nd,#[A],#[zaC,#[zd]]],#[ze,#[zn,3,zaJ.nd,(cJ rfl),#[zh]],#[ze,#[zhf,bL,#[zT,#[zfz],#[zE,#[zJ],T.len_,da,#[za,#[pvx,2],#[zd]]],#[pvx,1],(zac _)],#[ze,#[zid,2,zaJ.nd,#[A],#[zD,(CompSc.of (N':=["j","size","k"]) (ix:=[none,some 3,some 0]) (zg zaR) ["k","many","terms","size"] rfl rfl #[N]),#[z9],#[zZ,T.range_,#[za,#[zj,#[zH],#[zj,#[zee],#[pvx,3],#[zj,#[zaj],#[pvx,0],#[zh]]],#[zh]],#[zd]]],(fun _ _ _ _=>#[zf,0,(show (["j","size","k"]:List Str).Nodup from #[N]),#[A]]),(fun _ _ _ _=>#[zo]),(fun _ _ _ _=>#[za4,#[za,#[zj,#[zaj],#[pvx,1],#[zj,#[zQ],#[zj,#[zaj],#[pvx,2],#[zh]],#[pvx,0]]],#[za,#[pvx,0],#[zd]]]])],zl0],#[zk,#[zid,3,zaJ.nd,(cJ rfl),#[zh],zmP]]]],#[zk,#[zC,#[zbY,zcB,#[pvx,2],#[zda],#[zb7,#[pvx,1]]]]]]]],?_⟩;have o9:=a7;refine⟨bz _,fun TL hTL=>?_⟩;refine⟨fun μ σ H'=>∃ (S:Nat) (us:List Addr),μ=many+1 - S∧S≤many∧σ = [some (.int (k:Int)),some (.int (many:Int)),some (.ref TL),some (.int (S:Int))]∧zq H H'∧H' TL=some (.lst (us.map V.ref))∧PtB H' us ((zO k S).map tI),(ex3 (many+1) 0 ([]) ⟨rfl,bz _,rfl,zb hTL,zc,.nil⟩),?_⟩;rintro μ σ H1 ⟨S,us,rfl,hS,rfl,s1,h1,mo⟩;have sQ:us.length=(zO k S).length:=by rw [aQ mo,ab]
  have hSl:=zfU k S;refine (lS rfl ⟨TL,(lS rfl ⟨.inl (lT.of h1),(lS rfl (lX rfl rfl (lS rfl ?_)))⟩)⟩);rw [ab,sQ];refine zbb (fun mj=>?_) (fun pZ=>?_)
  ·have mj:=of_decide_eq_true mj;have mj:(zO k S).length < many:=by lia
   refine⟨fun σ' H'=>∃ m',m' < many+1 - S∧∃ (S:Nat) (us:List Addr),m'=many+1 - S∧S≤many∧σ' = [some (.int (k:Int)),some (.int (many:Int)),some (.ref TL),some (.int (S:Int))]∧zq H H'∧H' TL=some (.lst (us.map V.ref))∧PtB H' us ((zO k S).map tI),fun _ _ z=>z,?_⟩;have k1:0 < k - 1:=by lia
   have ek:((k:Int) - 1)=((k - 1:Nat):Int):=by lia
   have eN:((S:Int) / ((k:Int) - 1)+1)=((S / (k - 1)+1:Nat):Int):=by
    rw [ek];exact congrArg (· + 1) (i7 S (k - 1)).symm
   have hq:S / (k - 1)≤S:=fh _ _;refine (lS rfl (lS rfl (lS rfl (lX rfl rfl (lX rfl rfl ⟨⟨#[O],#[O]⟩,(lX rfl rfl ?_)⟩)))));refine⟨(S:Int) / ((k:Int) - 1)+1,rfl,by rw [eN]; exact b9 #[D] (kA _),by rw [eN]; exact kB (Int.ofNat_le.mpr (show S / (k - 1)+1≤301 from fG (aW hq #[O]))) #[D],?_⟩;rw [eN,cD];refine zK (n:=S / (k - 1)+1) (fun m ys H'=>zq H1 H'∧∃ vs:List Addr,ys=vs.map V.ref∧PtB H' vs (((tms k S).take m).map tI)) ⟨fun _ _ e=>e,[],rfl,.nil⟩ (fun i ys H' hi _=>hi) (fun ys H' _=>ag _) ?_ ?_
   ·rintro j x ys H2 H3 hj ⟨s2,vs,rfl,ua⟩ ⟨rfl,rfl⟩;rw [show ((0:Int)+(j:Int))=(j:Int) from cZ _];have tL:(k - 1)*j≤S:=by
     have:=(cj k1).mp (show j≤S / (k - 1) by lia);rw [cV]; exact this
    have vy:vs.length=j:=by rw [aQ ua,ab,aL,zgY]; lia
    have eV:(S:Int) - ((k:Int) - 1)*(j:Int)=((S - (k - 1)*j:Nat):Int):=by
     rw [ek,ly tL,ik]
    refine gY ?_;refine (lS rfl (lS rfl (lX rfl rfl (lS rfl (lX rfl rfl ⟨.inl ⟨#[O],#[O]⟩,(lX rfl rfl (lS rfl ⟨by show 2≤sizeLine; lia,fun T hT=>?_⟩))⟩)))));have CH:(tms k S)[j]? = some (S - (k - 1)*j,j):=by unfold tms; rw [af,aY hj]; rfl
    refine⟨by rw [ab]; lia,s2.trans (zb hT),vs++[T],#[M],?_⟩;rw [take_snoc CH,ap];refine bZ (ua.same (zb hT)) ?_;rw [zc];show some (HO.tup [V.int ((S:Int) - ((k:Int) - 1)*(j:Int)),V.int (j:Int)])=_;rw [eV];rfl
   ·rintro ys H2 D ⟨s2,vs,rfl,ua⟩ hD;rw [aN (by rw [zgY]; exact ag _)] at ua;have sD:=s2.trans (zb (o:=.lst (vs.map V.ref)) hD);have vy:vs.length=S / (k - 1)+1:=by rw [aQ ua,ab,zgY]
    refine (ex4 TL D _ _ ⟨rfl,rfl,sD _ _ h1,zc,by rw [ab,ab]; lia,?_⟩);refine (lS rfl (lX rfl rfl ?_));refine⟨many+1 - (S+1),#[O],S+1,us++vs,rfl,#[O],rfl,zat (s1.trans sD) hTL,by rw [zc,ap],?_⟩;rw [zbH,ap];have a1:=zmy (o:=.lst (us.map V.ref++vs.map V.ref)) (mo.same sD) (sD _ _ h1);have a2:=zmy (o:=.lst (us.map V.ref++vs.map V.ref)) (ua.same (zb (o:=.lst (vs.map V.ref)) hD)) (sD _ _ h1);exact zpo a1 a2
  ·have pZ:¬ (((zO k S).length:Int) < (many:Int)):=fun h=>pZ (decide_eq_true h)
   refine (lS rfl (lS rfl (lS rfl ⟨TL,(lS rfl ⟨lT.of h1,fun z hz=>?_⟩)⟩)));have ec:zcU (us.map V.ref) none (some (many:Int))=(us.take many).map V.ref:=by
    unfold zcU;rw [HT.sIx_nat,HT.sIx_none,fz,eK,ab,dE #[O],gJ]
   rw [ec];refine q z (us.take many) S _ (s1.free hz) (s1.trans (zb hz)) zc ?_ hS #[O];have:=(znP mo many).same (zb (o:=.lst ((us.take many).map V.ref)) hz);rw [← gJ] at this;exact this
theorem gY3 {K:ah} {i j l:Nat} {T:Addr} {x y z:V} {σ:L2.St} {H:Hp} {A B:L2.St→Hp→Prop} (hT:me K H T [x,y,z]) (h:A (((σ.set i (some x)).set j (some y)).set l (some z)) H) :
  zhe K 3 (zbX (zaO i) (zbX (zaO j) (zbX (zaO l) zib))) (.ref T) σ H (fun σ2 H2=>zmW σ2 H2 fun b H3=>if b=true then A σ2 H3 else B σ2 H3):=by
 refine⟨T,_,rfl,hT,rfl,x,_,rfl,y,_,rfl,z,_,rfl,rfl,?_⟩;show (if true=true then A (((σ.set i (some x)).set j (some y)).set l (some z)) H else B (((σ.set i (some x)).set j (some y)).set l (some z)) H);rw [if_pos rfl];exact h
theorem zmz (w:Nat):(w:Int)*((w:Int)+1) / 2=(tri w:Int):=by
 unfold tri;rw [show ((w:Int)*((w:Int)+1))=((w*(w+1):Nat):Int) by rw [ik]; rfl];exact (i7 _ 2).symm
theorem zhZ {α:Type} (f:α→Nat):∀ l:List α,(l.map fun q=>(f q:Int)).sum=((l.map f).sum:Int)
 | []=>rfl
 | a :: l=>by
  rw [bO,gI,bO,gI,zhZ f l];lia
theorem zjN:∀ {ts:List Tm} {c:List Int} {t:Tm},(zc2 ((ts.map tK).zip (c.map V.int)) (tK t)).getD (.int 0) = .int (gof ts c t)
 | [],_,_=>rfl
 | _ :: _,[],_=>rfl
 | a :: ts,b :: c,t=>by
  have ih:=zjN (ts:=ts) (c:=c) (t:=t);unfold zc2 gof at ih ⊢;rw [bO,bO,dW,dW,bj];by_cases e:t=a
  ·subst e;rw [List.find?_cons_of_pos #[M],beq_self_eq_true];rfl
  ·rw [List.find?_cons_of_neg (by simp; exact fun h=>e (zmw h).symm),show (t == a)=false by simpa using e];exact ih
theorem zgZ {k:Nat} (hk:2≤k) (t:Tm):(t.1:Int)+((k:Int) - 1)*(t.2:Int)=(tz k t:Int):=by
 unfold tz;rw [show ((k:Int) - 1)=((k - 1:Nat):Int) by lia,je,ik]
theorem zkJ {k s j:Nat} {g:Tm→Int} (h:j < s / (k - 1)+1):(zah k s g).take (j+1)=(zah k s g).take j++[(au (s - (k - 1)*j+1)).map fun i=>g (i,j)]:=take_snoc (zeY h)
def zfb (K:ah):Sp:=fun vs H Q _=>∃ (p:Int) (k:Nat) (pl:Addr) (cs:List Addr) (lZ:List (Int×Int×Nat)),vs = [.int p,.int (k:Int),.ref pl]∧p∈zr∧2≤k∧k≤100∧H pl=some (.lst (cs.map V.ref))∧W3 H cs lZ∧zmu p lZ∧(cos lZ).length≤199∧lZ.length≤1000 ∧
 ∀ (z r:Addr) (ls:List Addr) (size:Nat) (g:Tm→Int) (H':Hp),H z=none→zq H H'→H' z=some (.tup [.int (size:Int),.ref r])→H' r=some (.tup (ls.map V.ref))→zbf H' ls (zah k size g)→Lst p k lZ size g→size≤200→Q (.ref z) H'
theorem zaK:FnScope ["p","k","points","asked","found","size","lines"] ["p","k","points"] (zg zaf):=#[S]
theorem zfc {fd:FuncData} (T:Txt K mg t) (F:Fun K "least_curve" "least_curve" zaf t.least_curve fd):FnOk P w K mg base CX0 6 t.least_curve fd ["p","k","points"] (zfb K):=by
 obtain⟨rZ,p9,og⟩:=T.f_first_sum;have sU:=zgX (P:=P) (w:=w) (base:=base) T p9;obtain⟨qw,oM,nk⟩:=T.f_first_terms;have qZ:=zfa (P:=P) (w:=w) (base:=base) T oM;refine F.ok zaK (fun vs H Q E h=>?_) (fun mM A outer s H vs Q E hr h=>?_)
 ·obtain⟨p,k,pl,cs,lZ,rfl,_⟩:=h;rfl
 ·obtain⟨p,k,pl,cs,lZ,rfl,hp,k2,BC,oR,xQ,hg,hL,hn,q⟩:=h;have hu:(A.deeper (envOfC (bF "least_curve") (zg zaf) s.heap.objs.size t.least_curve mM)).units+20 < cLine:=by have:=hr.units; lia
  refine⟨_,#[ze,#[zn,3,zaK.nd,#[A],#[zE,(@zkg _ rfl),T.sum_,boot_sum,#[za,#[zD,(CompSc.of (N':=["x","y","weight"]) (ix:=[none,none,none]) (zg zaf) ["p","k","points","asked","found","size","lines"] rfl rfl #[N]),#[zaD,#[zp,#[zp,#[zp,#[zal]]]]],#[zX,#[pvx,2]],(fun _ _ _ _=>#[zaa,(K),3,#[zi,#[zf,0,(show (["x","y","weight"]:List Str).Nodup from #[N]),#[A]],#[zi,#[zf,1,(show (["x","y","weight"]:List Str).Nodup from #[N]),#[A]],#[zi,#[zf,2,(show (["x","y","weight"]:List Str).Nodup from #[N]),#[A]],#[zz]]]]]),(fun _ _ _ _=>#[zo]),(fun _ _ _ _=>#[zj,#[zee],#[zj,#[zQ],#[pvx,2],#[zj,#[zH],#[pvx,2],#[zh]]],#[zh]])],#[zd]]]],#[ze,#[zn,4,zaK.nd,(cJ rfl),#[zm,sU,(hr.mono #[D]),T.m_first_sum,p9.kp,og,#[zI],#[za,#[pvx,0],#[za,#[zm,qZ,(hr.mono #[D]),T.m_first_terms,oM.kp,nk,#[zI],#[za,#[pvx,1],#[za,#[zj,#[zH],#[pvx,3],#[zh]],#[zd]]]],#[za,#[pvx,2],#[zd]]]]]],#[ze,#[zn,5,zaK.nd,(cJ rfl),#[zE,#[zdN],T.max_,jS,#[za,#[zD,(CompSc.of (N':=["i","j","k"]) (ix:=[none,none,some 1]) (zg zaf) ["p","k","points","asked","found","size","lines"] rfl rfl #[N]),#[zaD,#[zp,#[zp,#[zal]]]],(@zp1 _ _ _ _ #[pvx,4]),(fun _ _ _ _=>#[zaa,(K),2,#[zi,#[zf,0,(show (["i","j","k"]:List Str).Nodup from #[N]),#[A]],#[zi,#[zf,1,(show (["i","j","k"]:List Str).Nodup from #[N]),#[A]],#[zz]]]]),(fun _ _ _ _=>#[zo]),(fun _ _ _ _=>#[zj,#[zH],#[pvx,0],#[zj,#[zQ],#[zj,#[zaj],#[pvx,2],#[zh]],#[pvx,1]]])],#[zd]]]],#[ze,#[zbG,6,zaK.nd,#[A],(CompSc.of (N':=["j","size","k","found"]) (ix:=[none,some 5,some 1,some 4]) (zg zaf) ["p","k","points","asked","found","size","lines"] rfl rfl #[N]),#[z9],#[zZ,T.range_,#[za,#[zj,#[zH],#[zj,#[zee],#[pvx,5],#[zj,#[zaj],#[pvx,1],#[zh]]],#[zh]],#[zd]]],(fun _ _ _ _=>#[zf,0,(show (["j","size","k","found"]:List Str).Nodup from #[N]),(cJ rfl)]),(fun _ _ _ _=>#[zo]),(fun _ _ _ _=>#[zas,(zct (K:=K) rfl),T.tuple_,ij,#[za,#[zD,(CompSc.of (N':=["i","found","j"]) (ix:=[none,some 3,some 0]) ({ kind:=.function,names:=[(".0",.local),("j",.cell),("tuple",.globalImplicit),("range",.globalImplicit),("found",.cell),("k",.cell),("size",.cell)],isGenerator:=false,isCoroutine:=false }) ["j","size","k","found"] (by with_unfolding_all rfl) rfl #[N]),#[z9],#[zZ,T.range_,#[za,#[zj,#[zH],#[zj,#[zaj],#[pvx,1],#[zj,#[zQ],#[zj,#[zaj],#[pvx,2],#[zh]],#[pvx,0]]],#[zh]],#[zd]]],(fun _ _ _ _=>#[zf,0,(show (["i","found","j"]:List Str).Nodup from #[N]),#[A]]),(fun _ _ _ _=>#[zo]),(fun _ _ _ _=>(@zlw _ _ _ _ _ _ _ _ _ (iE (j6 (show 1≤20 by decide) _) hu) #[pvx,1] #[za4,#[za,#[pvx,0],#[za,#[pvx,2],#[zd]]]] #[zh] ⟨rfl,rfl,rfl,rfl⟩))],#[zd]]])],#[zk,#[zC,#[za4,#[za,#[pvx,5],#[za,#[zas,#[zaQ],T.tuple_,ij,#[za,#[pvx,6],#[zd]]],#[zd]]]]]]]]]],?_⟩;have o9:=a7;have rp:=zy hp;have vz:=aQ xQ;refine (lS rfl ⟨pl,rfl,⟨_,lT.of oR⟩,za0 (fs:=(lZ.map fun q=>(tri q.2.2:Int)).map V.int) (lT.of oR) (by rw [ab,ab,ab,vz]) (by rw [ab]; lia) (fun i x y R B hx hy hR=>?_) (fun D0 hD0=>?_)⟩)
  ·obtain⟨b,rfl,hb⟩:=zN hx;obtain⟨⟨px,py,pw⟩,hq,BA⟩:=Paired.get xQ hb;have hw9:=(hg _ (aI hq)).2.2.2.2.2;rw [af,af,hq] at hy;have hy:V.int (tri pw:Int)=y:=by simpa using hy
   subst hy;refine gY3 (me.of BA) ?_;have hw9:pw≤9:=hw9;refine (lS rfl (lS rfl (lX rfl rfl (lX rfl rfl ⟨.inl ⟨#[O],#[O]⟩,(lX rfl rfl ⟨⟨#[D],#[D]⟩,?_⟩)⟩))));show R (.int ((pw:Int)*((pw:Int)+1) / 2)) _;rw [zmz];exact hR
  refine⟨D0,lZ.map fun q=>(tri q.2.2:Int),rfl,lT.of zc,?_⟩;rw [zhZ,show (lZ.map fun q=>tri q.2.2).sum=zcu lZ from rfl];have s0:=zb (o:=.lst ((lZ.map fun q=>(tri q.2.2:Int)).map V.int)) hD0;generalize lW H D0 (.lst ((lZ.map fun q=>(tri q.2.2:Int)).map V.int))=H0 at s0 ⊢;have hcn:=zgN lZ;refine (lS rfl (lS rfl (lS rfl (lX rfl rfl ⟨k,zcu lZ+1,rfl,k2,BC,#[O],fun tl us S H1 p6 s1 h1 p8 hS1 hS2=>?_⟩))));have xq:=s0.trans s1;have EF:∀ t∈(zO k S).take (zcu lZ+1),tz k t < S:=fun t ht=>(zaM k2).mp (jO ht)
  have tle:∀ t:Tm,t.1≤tz k t∧t.2≤tz k t:=fun t=>⟨by unfold tz; lia,by
   unfold tz;have:1*t.2≤(k - 1)*t.2:=fL _ #[O];lia⟩
  have pb:((zO k S).take (zcu lZ+1)).Nodup:=ga (gw _ _) (za2 k2 S);have lY:((zO k S).take (zcu lZ+1)).length=zcu lZ+1:=by rw [aL]; lia
  refine (lS rfl (ex7 p tl pl us cs ((zO k S).take (zcu lZ+1)) lZ ⟨rfl,hp,h1,p8,pb,by rw [lY,hcn],#[O],fun t ht=>?_,xq _ _ oR,xQ.same xq,hg,hn,fun D c m H2 hD s2 h2 hc hm EE hDp hI=>?_⟩))
  ·have:=EF t ht;have:=tle t;lia
  rw [lY] at hm;have s02:=xq.trans s2;have hDn:H D=none:=xq.free hD;obtain⟨top,oI⟩:∃ top,((zO k S).take (zcu lZ+1))[m]? = some top:=⟨((zO k S).take (zcu lZ+1))[m]'#[O],ai _⟩;have LS:=zpa (p:=p) #[O] k2 (lZ:=lZ) (S:=S) (ts:=(zO k S).take (zcu lZ+1)) (by rw [hcn]) hc oI EE hDp hI;have Cv:((zO k S).take (zcu lZ+1)).Pairwise fun a b=>tz k a≤tz k b:=fw (gw _ _) (zcg k2 S)
  have BD:=EF top (aI oI);generalize (zO k S).take (zcu lZ+1)=ts at *;have yG:c.length=m+1:=hc.1;have hzl:((ts.map tK).zip (c.map V.int)).length=m+1:=by rw [lx,ab,ab]; lia
  refine (lS rfl ⟨D,(lS rfl ⟨h2,fun o=>?_⟩)⟩);have s3:zq H (lW H2 D (.frz o (.dT ((ts.map tK).zip (c.map V.int))))):=zat s02 hDn;have h3:lW H2 D (.frz o (.dT ((ts.map tK).zip (c.map V.int)))) D=some (.frz o (.dT ((ts.map tK).zip (c.map V.int)))):=zc;generalize lW H2 D (.frz o (.dT ((ts.map tK).zip (c.map V.int))))=H3 at s3 h3 ⊢;refine zK (n:=m+1) (fun i ys H'=>H'=H3∧ys=((ts.take i).map fun t=>(tz k t:Int)).map V.int) ⟨rfl,rfl⟩ ?_ ?_ ?_ ?_
  ·rintro i ys H' hi ⟨rfl,_⟩;exact⟨h3,#[O]⟩
  ·rintro ys H' ⟨rfl,_⟩;exact⟨h3,#[O]⟩
  ·rintro i x ys H' H4 hi ⟨rfl,rfl⟩ ⟨rfl,a,ky,rfl,Cu,ha⟩;have CJ:ts[i]? = some (ts[i]'#[O]):=ai #[O];have ek:ky=tK (ts[i]'#[O]):=by
    rw [af] at Cu;obtain⟨q',qi,rfl⟩:=gH.mp Cu;have n4:((ts.map tK).zip (c.map V.int))[i]? = some (q'.1,q'.2):=qi;rw [fV,af,CJ] at n4;exact (aS n4.1).symm
   subst ek;generalize ts[i]'#[O]=tt at CJ ha;have htt:tz k tt < S:=EF tt (aI CJ);have:=tle tt;refine gY2 (me.of (xs:=[.int (tt.1:Int),.int (tt.2:Int)]) ha) ?_;refine (lS rfl (lS rfl (lX rfl rfl (lS rfl (lX rfl rfl ⟨.inl ⟨#[O],#[O]⟩,(lX rfl rfl ?_)⟩)))));refine⟨by rw [ab,ab,aL]; lia,rfl,?_⟩;show _++[V.int ((tt.1:Int)+((k:Int) - 1)*(tt.2:Int))]=_;rw [zgZ k2,take_snoc CJ,ap,ap];rfl
  rintro ys H' D2 ⟨rfl,rfl⟩ rV;refine⟨D2,(ts.take (m+1)).map fun t=>(tz k t:Int),rfl,lT.of zc,fun e=>?_,fun M hM yJ=>?_⟩
  ·have:(ts.take (m+1)).length=0:=by rw [← ab (f:=fun t=>(tz k t:Int)),e]; rfl
   rw [aL] at this;lia
  have eM:M=(tz k top:Int):=by
   obtain⟨t',ht',rfl⟩:=av.mp hM;obtain⟨i',nK⟩:=ci.mp ht';have EG:i' < m+1:=by have:=(aw.mp nK).1; rw [aL] at this; lia
   rw [bW EG] at nK;have b1:=zdP Cv nK oI #[O];have b2:=yJ (tz k top:Int) (av.mpr ⟨top,ci.mpr ⟨m,by rw [bW #[O]]; exact oI⟩,rfl⟩);lia
  subst eM;have w4:=zb (o:=.lst (((ts.take (m+1)).map fun t=>(tz k t:Int)).map V.int)) rV;have s4:=s3.trans w4;have h4:=w4 _ _ h3;generalize lW H' D2 (.lst (((ts.take (m+1)).map fun t=>(tz k t:Int)).map V.int))=H4 at s4 h4 ⊢;have k1:0 < k - 1:=by lia
  have ek1:((k:Int) - 1)=((k - 1:Nat):Int):=by lia
  obtain⟨sz,yx⟩:∃ sz,tz k top=sz:=⟨_,rfl⟩;rw [yx] at LS BD ⊢;have eN:((sz:Int) / ((k:Int) - 1)+1)=((sz / (k - 1)+1:Nat):Int):=by
   rw [ek1];exact congrArg (· + 1) (i7 sz (k - 1)).symm
  have EH:sz / (k - 1)≤sz:=fh _ _;have EI:=fun t=>zjN (ts:=ts) (c:=c) (t:=t)
  generalize (ts.map tK).zip (c.map V.int)=l8 at *;generalize gof ts c=g at *;refine (lS rfl (lS rfl (lX rfl rfl (lX rfl rfl ⟨⟨#[O],#[O]⟩,(lX rfl rfl ?_)⟩))));refine⟨(sz:Int) / ((k:Int) - 1)+1,rfl,by rw [eN]; exact b9 #[D] (kA _),by rw [eN]; exact kB (Int.ofNat_le.mpr (show sz / (k - 1)+1≤301 from fG (aW EH #[O]))) #[D],?_⟩;rw [eN,cD];refine zK (n:=sz / (k - 1)+1) (fun j ys H'=>zq H4 H'∧∃ us:List Addr,ys=us.map V.ref∧zbf H' us ((zah k sz g).take j)) ⟨fun _ _ e=>e,[],rfl,.nil⟩ (fun i ys H' hi _=>hi) (fun ys H' _=>ag _) ?_ ?_
  ·rintro j x ys H5 H6 hj ⟨s5,us,rfl,mo⟩ ⟨rfl,rfl⟩;rw [show ((0:Int)+(j:Int))=(j:Int) from cZ _];have tL:(k - 1)*j≤sz:=by
    have:=(cj k1).mp (show j≤sz / (k - 1) by lia);rw [cV]; exact this
   have sQ:us.length=j:=by rw [aQ mo,aL,zbr]; lia
   have eV:(sz:Int) - ((k:Int) - 1)*(j:Int)+1=((sz - (k - 1)*j+1:Nat):Int):=by
    rw [ek1,je,ly tL,ik];rfl
   refine gY ?_;refine (lS rfl (lS rfl (lX rfl rfl (lS rfl (lX rfl rfl ⟨.inl ⟨#[O],#[O]⟩,(lX rfl rfl (lX rfl rfl ?_))⟩)))));refine⟨(sz:Int) - ((k:Int) - 1)*(j:Int)+1,rfl,by rw [eV]; lia,by rw [eV]; lia,?_⟩;rw [eV,cD];refine zK (n:=sz - (k - 1)*j+1) (fun i ys H'=>zq H6 H'∧ys=((au i).map fun i=>g (i,j)).map V.int) ⟨fun _ _ e=>e,rfl⟩ (fun i ys H' hi _=>hi) (fun ys H' _=>ag _) ?_ ?_
   ·rintro i x ys H7 H8 hi ⟨s7,rfl⟩ ⟨rfl,rfl⟩;rw [show ((0:Int)+(i:Int))=(i:Int) from cZ _];have h7:=(s5.trans s7) _ _ h4;refine gY ?_;refine (lS rfl ⟨D,rfl,.inr ⟨l8,.inr ⟨o,h7⟩⟩,(lS rfl (lS rfl ⟨by show 2≤sizeLine; lia,fun T hT=>?_⟩))⟩);have wT:=zb (o:=.tup [.int (i:Int),.int (j:Int)]) hT;refine⟨_,.inr ⟨l8,tK (i,j),T,.inr ⟨o,wT _ _ h7⟩,rfl,zc,rfl⟩,?_⟩;rw [EI];refine⟨by rw [ab,ab,aD]; lia,s7.trans wT,?_⟩;rw [bU,ap,ap];rfl
   ·rintro ys H7 D5 ⟨s7,rfl⟩ hD5;refine⟨D5,(lS rfl (.inl ⟨lT.of zc,fun l hl=>?_⟩))⟩;have w7:=(s7.trans (zb (o:=.lst (((au (sz - (k - 1)*j+1)).map fun i=>g (i,j)).map V.int)) hD5)).trans (zb (o:=.tup (((au (sz - (k - 1)*j+1)).map fun i=>g (i,j)).map V.int)) hl);refine⟨by rw [ab]; lia,s5.trans w7,us++[l],#[M],?_⟩;rw [zkJ hj];exact bZ (mo.same w7) zc
  ·rintro ys H5 L1 ⟨s5,us,rfl,mo⟩ Ce;rw [aN (by rw [zbr]; exact ag _)] at mo;have w5:=s5.trans (zb (o:=.lst (us.map V.ref)) Ce);have xr:=mo.same (zb (o:=.lst (us.map V.ref)) Ce);refine (lS rfl (lS rfl ⟨L1,(lS rfl (.inl ⟨lT.of zc,fun r hr=>?_⟩))⟩));have w6:=w5.trans (zb (o:=.tup (us.map V.ref)) hr);have EJ:=xr.same (zb (o:=.tup (us.map V.ref)) hr);refine⟨by show 2≤sizeLine; lia,fun z hz=>?_⟩;have sf:=s4.trans w6;have wz:=zb (o:=.tup [.int (sz:Int),.ref r]) hz;exact q z r us sz g _ (sf.free hz) (sf.trans wz) zc (wz _ _ zc) (EJ.same wz) LS #[O]
def zeb (K:ah):Sp:=fun vs H Q _=>∃ (k:Nat),vs = [.int (k:Int)]∧2≤k∧Q .non H
theorem zec:FnScope ["k"] ["k"] (zg za8):=#[S]
theorem zcm {fd:FuncData} (T:Txt K mg t) (F:Fun K "check_curves" "check_curves" za8 t.check_curves fd):FnOk P w K mg base CX0 1 t.check_curves fd ["k"] (zeb K):=by
 refine F.ok zec (fun vs H Q E h=>?_) (fun mM A outer s H vs Q E hr h=>?_)
 ·obtain⟨k,rfl,_⟩:=h;rfl
 ·obtain⟨k,rfl,h1,q⟩:=h;refine⟨_,#[zk,#[zby,#[zT,#[zfz],#[pvx,0],#[zh],(zac _)],#[zdH],#[zaq]]],?_⟩;refine (lS rfl (lX rfl rfl (lS rfl ?_)));exact zbb (fun h=>absurd (of_decide_eq_true h) #[O]) (fun _=>q)
def wpt (m:Nat) (l:List (Int×Int)):List (Int×Int×Nat):=l.map fun q=>(q.1,q.2,m)
theorem zh0 (m:Nat):∀ l,zcu (wpt m l)=l.length*tri m
 | []=>by simp [zcu,wpt]
 | a :: l=>by
  have ih:=zh0 m l;unfold zcu wpt at ih ⊢
  (simp only [bO,gI,bm])
  rw [ih,Nat.add_mul];lia
def zg0 (K:ah):Sp:=fun vs H Q _=>∃ (c tt r:Addr) (p:Int) (k m:Nat) (pl:List Int) (rw:List (Option Int)),vs = [.ref c,.ref r,.int (m:Int)]∧zbS H c tt p k pl∧H r=some (.lst (rw.map pY))∧rw.length=pl.length∧pl.length≤16∧p∈zr∧pl.Nodup∧(∀ x∈pl,0≤x∧x < p)∧(∀ z,some z∈rw→0≤z∧z < p)∧2≤k∧k≤100∧1≤m∧m≤9∧(mK pl rw).length*tri m≤199 ∧
 ∀ (z r:Addr) (ls:List Addr) (size:Nat) (g:Tm→Int) (H':Hp),H z=none→zq H H'→H' z=some (.tup [.int (size:Int),.ref r])→H' r=some (.tup (ls.map V.ref))→zbf H' ls (zah k size g)→Lst p k (wpt m (mK pl rw)) size g→size≤200→Q (.ref z) H'
theorem zbD:FnScope ["code","row","m","p","k","places"] ["code","row","m"] (zg zbu):=#[S]
theorem zdE {fd:FuncData} (T:Txt K mg t) (F:Fun K "curve_for" "curve_for" zbu t.curve_for fd):FnOk P w K mg base CX0 7 t.curve_for fd ["code","row","m"] (zg0 K):=by
 obtain⟨nY,mE,mF⟩:=T.f_check_curves;have mY:=zcm (P:=P) (w:=w) (base:=base) T mE;obtain⟨qz,oO,nr⟩:=T.f_least_curve;have q0:=zfc (P:=P) (w:=w) (base:=base) T oO;obtain⟨nZ,mG,mH⟩:=T.f_heard_points;have mZ:=zcl (P:=P) (w:=w) (base:=base) T mG;refine F.ok zbD (fun vs H Q E h=>?_) (fun mM A outer s H vs Q E hr h=>?_)
 ·obtain⟨c,tt,r,p,k,m,pl,rw,rfl,_⟩:=h;rfl
 ·obtain⟨c,tt,r,p,k,m,pl,rw,rfl,hc,qV,rT,hn,hp,pb,oR,uZ,h1,k1,m1,m9,hA,q⟩:=h;refine⟨_,#[ze,#[zaP,#[pvx,0],#[zaW,#[zi,#[zf,3,zbD.nd,#[A]],#[zi,#[zf,4,zbD.nd,#[A]],#[zi,#[zf,5,zbD.nd,#[A]],#[zz]]]]]],#[ze,#[zc8,#[zm,mY,(hr.mono #[D]),T.m_check_curves,mE.kp,mF,#[zI],#[za,#[pvx,4],#[zd]]]],#[zk,#[zC,#[zm,q0,(hr.mono #[D]),T.m_least_curve,oO.kp,nr,#[zI],#[za,#[pvx,3],#[za,#[pvx,4],#[za,#[zD,(CompSc.of (N':=["place","entry","m"]) (ix:=[none,none,some 2]) (zg zbu) ["code","row","m","p","k","places"] rfl rfl #[N]),#[zaD,#[zp,#[zp,#[zal]]]],#[zX,#[zm,mZ,(hr.mono #[D]),T.m_heard_points,mG.kp,mH,#[zI],#[za,#[pvx,0],#[za,#[pvx,1],#[zd]]]]],(fun _ _ _ _=>#[zaa,(K),2,#[zi,#[zf,0,(show (["place","entry","m"]:List Str).Nodup from #[N]),#[A]],#[zi,#[zf,1,(show (["place","entry","m"]:List Str).Nodup from #[N]),#[A]],#[zz]]]]),(fun _ _ _ _=>#[zo]),(fun _ _ _ _=>#[za4,#[za,#[pvx,0],#[za,#[pvx,1],#[za,#[pvx,2],#[zd]]]]])],#[zd]]]]]]]]],?_⟩;have o9:=a7;have rp:=zy hp;have hR:RowAt K H r pl.length rw:=⟨lT.of qV,rT⟩;have hP:=zgD pb oR uZ;have CK:=zcd pl rw;refine⟨_,rfl,c,_,rfl,me.of hc.1,rfl,_,_,rfl,_,_,rfl,_,_,rfl,rfl,?_⟩;refine (lS rfl ⟨k,rfl,h1,?_⟩);refine (lS rfl (lS rfl (lS rfl (lS rfl (ex7 c tt r p k pl rw ⟨rfl,hc,hR,#[O],fun l bs H1 uM s1 tS hB=>?_⟩)))));have sS:bs.length=(mK pl rw).length:=hB.length;refine⟨l,rfl,⟨_,lT.of tS⟩,zK (n:=bs.length) (fun i ys H'=>zq H1 H'∧∃ us:List Addr,ys=us.map V.ref∧W3 H' us (wpt m ((mK pl rw).take i))) ⟨fun _ _ e=>e,[],rfl,.nil⟩ ?_ ?_ ?_ ?_⟩
  ·rintro i ys H4 hi ⟨s4,_⟩;exact⟨_,.ref (bs[i]'#[O]),lT.of (s4 _ _ tS),by rw [af,ai #[O]]; rfl⟩
  ·rintro ys H4 ⟨s4,_⟩;exact⟨_,lT.of (s4 _ _ tS),by rw [ab]; exact ag _⟩
  ·rintro i z ys H4 H5 hi ⟨s4,us,rfl,mo⟩ ⟨rfl,hx⟩;obtain⟨b,rfl,uY⟩:=zN (hx _ (lT.of (s4 _ _ tS)));obtain⟨q',qi,hT⟩:=Paired.get (hB.same s4) uY;have hz:us.length=i:=by rw [aQ mo]; unfold wpt; rw [ab,aL]; lia
   refine gY2 (me.of hT) ?_;refine (lS rfl (lS rfl (lS rfl ⟨by show 3≤sizeLine; lia,fun T xR=>⟨by rw [ab]; lia,s4.trans (zb xR),us++[T],#[M],?_⟩⟩)));rw [take_snoc qi];unfold wpt;rw [ap];exact bZ (mo.same (zb xR)) zc
  ·rintro ys H4 D ⟨s4,us,rfl,mo⟩ hD;rw [aN #[O]] at mo;have w4:=s4.trans (zb (o:=.lst (us.map V.ref)) hD);refine (ex5 p k D us (wpt m (mK pl rw)) ⟨rfl,hp,h1,k1,zc,mo.same (zb hD),fun q' qi=>?_,by rw [zgN,zh0]; exact hA,by unfold wpt; rw [ab]; lia,fun z r' ls size g H5 hz s5 h5 h6 h7 hL hs=>?_⟩)
   ·obtain⟨a,ha,rfl⟩:=av.mp qi;obtain⟨g1,g2,g3,g4⟩:=hP.rg a ha;exact⟨g1,g2,g3,g4,m1,m9⟩
   ·have BE:=s1.trans w4;exact q z r' ls size g H5 (BE.free hz) (BE.trans s5) h5 h6 h7 hL hs
end
section
variable {P:Program} {w:World} {K:ah} {mg:Str→Option Value} {base:Heap} {t:Adr}
def zh1 (K:ah):Sp:=fun vs H Q _=>∃ (a:Addr) (bs:List Addr) (rows:List (List Int)),vs = [.ref a]∧(lT K H a (bs.map V.ref)∨me K H a (bs.map V.ref))∧RwA H bs rows∧rows.length≤1000 ∧
 ∀ H',zq H H'→Q (.int (wd rows)) H'
theorem zh2:FnScope ["curve"] ["curve"] (zg zbI):=#[S]
theorem zd3 {fd:FuncData} (T:Txt K mg t) (F:Fun K "width_of" "width_of" zbI t.width_of fd):FnOk P w K mg base CX0 1 t.width_of fd ["curve"] (zh1 K):=by
 refine F.ok zh2 (fun vs H Q E h=>?_) (fun mM A outer s H vs Q E hr h=>?_)
 ·obtain⟨a,bs,rows,rfl,_⟩:=h;rfl
 ·obtain⟨a,bs,rows,rfl,ha,hb,hn,q⟩:=h;refine⟨_,#[zk,#[zC,#[ziC,true,jS,T.max_,#[zh],#[zD,(CompSc.of (N':=["line"]) (ix:=[none]) (zg zbI) ["curve"] rfl rfl #[N]),#[z9],#[zlb,#[pvx,0]],(fun _ _ _ _=>#[zf,0,(show (["line"]:List Str).Nodup from #[N]),#[A]]),(fun _ _ _ _=>#[zo]),(fun _ _ _ _=>#[zE,#[zbm,(K)],T.len_,da,#[za,#[pvx,0],#[zd]]])]]]],?_⟩;have lY:=aQ hb;have el:∀ (i:Nat) (x y:V),(bs.map V.ref)[i]? = some x→((zbh rows).map V.int)[i]? = some y→∃ (b:Addr) (r:List Int),x = .ref b∧y = .int r.length∧(H b=some (.lst (r.map V.int))∨H b=some (.tup (r.map V.int))):=by
   intro i x y hx hy;obtain⟨b,rfl,xp⟩:=zN hx;unfold zbh at hy;rw [af,af] at hy;cases e:rows[i]? with
   | none=>rw [e] at hy; simp at hy
   | some r =>
    rw [e] at hy;obtain⟨v,hv,hr⟩:=Paired.get hb xp;rw [e] at hv;cases hv;exact⟨b,r,rfl,by simpa using hy.symm,hr⟩
  have fin:∀ D,H D=none→∃ (p:Addr) (ns:List Int),V.ref D = .ref p∧lT K (lW H D (.lst ((zbh rows).map V.int))) p (ns.map V.int)∧∀ M:Int,(ns = []→M=0)→(ns≠[]→M∈ns∧∀ a∈ns,if true=true then a≤M else M≤a)→Q (.int M) (lW H D (.lst ((zbh rows).map V.int))):=fun D hD =>
   ⟨D,_,rfl,lT.of zc,fun M h0 h1=>by rw [zp6 h0 h1]; exact q _ (zb hD)⟩
  rcases ha with ha | ha
  ·refine (lS rfl ⟨a,rfl,.inl ⟨⟨_,ha⟩,za0 (fs:=(zbh rows).map V.int) ha (by simp [lY,zeZ]) (by simp; lia) (fun i x y R B hx hy hR=>?_) fin⟩⟩);obtain⟨b,r,rfl,rfl,hr⟩:=el i x y hx hy;exact (lS rfl ⟨b,(lS rfl ⟨hr.imp lT.of me.of,by rw [ab]; exact hR⟩)⟩)
  ·refine (lS rfl ⟨a,rfl,.inr ⟨⟨_,ha⟩,zdK (fs:=(zbh rows).map V.int) ha (by simp [lY,zeZ]) (by simp; lia) (fun i x y R B hx hy hR=>?_) fin⟩⟩);obtain⟨b,r,rfl,rfl,hr⟩:=el i x y hx hy;exact (lS rfl ⟨b,(lS rfl ⟨hr.imp lT.of me.of,by rw [ab]; exact hR⟩)⟩)
def zkK (K:ah):Sp:=fun vs H Q _=>∃ (p b:Int) (a:Addr) (bs:List Addr) (n w:Nat) (c:Nat→Nat→Int),vs = [.int p,.ref a,.int b]∧H a=some (.lst (bs.map V.ref))∧LsA H bs (zw n w c)∧n≤1000∧w≤1000∧5≤p∧p≤97∧0≤b∧b < p∧(∀ j i,j < n→i < w→0≤c j i∧c j i < p) ∧
 ∀ (l:Addr) (ls:List Addr) (H':Hp),H l=none→zq H H'→H' l=some (.lst (ls.map V.ref))→LsA H' ls (zw n w fun j i=>sh b n (fun t=>c t i) j % p)→Q (.ref l) H'
theorem zau (n w:Nat) (g:Nat→Nat→Int):(zw n w g).length=n:=by unfold zw; rw [ab,aD]
theorem zcT:FnScope ["p","lines","by","first","at"] ["p","lines","by"] (zg zcy):=#[S]
theorem zf6 {fd:FuncData} (T:Txt K mg t) (F:Fun K "raised" "raised" zcy t.raised fd):FnOk P w K mg base CX0 1 t.raised fd ["p","lines","by"] (zkK K):=by
 refine F.ok zcT (fun vs H Q E h=>?_) (fun mM A outer s H vs Q E hr h=>?_)
 ·obtain⟨p,b,a,bs,n,w',c,rfl,_⟩:=h;rfl
 ·obtain⟨p,b,a,bs,n,wi,c,rfl,ha,hb,hn,hw,p5,t6,b0,b1,hc,q⟩:=h;refine⟨_,#[ze,#[zn,1,zcT.nd,#[A],#[zas,(@zgh _),T.list_,boot_list,#[za,#[pvx,1],#[zd]]]],#[ze,#[zaX,bL,#[zZ,T.range_,#[za,#[zE,#[zJ],T.len_,da,#[za,#[pvx,1],#[zd]]],#[zd]]],#[zf,3,zcT.nd,#[A]],#[zk,#[zaX,bL,(@znM _ _ _ _ _ _ rfl T.reversed_ #[za,#[zas,(@zhX _),T.range_,jG,#[za,#[pvx,3],#[za,#[zj,#[zaj],#[zE,#[zJ],T.len_,da,#[za,#[pvx,1],#[zd]]],#[zh]],#[zd]]]],#[zd]] (by rfl)),#[zf,4,zcT.nd,#[A]],#[zk,#[zaP,#[zD,(CompSc.of (N':=["low","high","by","p"]) (ix:=[none,none,some 2,some 0]) (zg zcy) ["p","lines","by","first","at"] rfl rfl #[N]),#[zaD,#[zp,#[zp,#[zal]]]],#[zeh,T.zip_,#[za,#[zY,#[zM],#[pvx,1],#[pvx,4]],#[za,#[zY,#[zM],#[pvx,1],#[zj,#[zH],#[pvx,4],#[zh]]],#[zd]]]],(fun _ _ _ _=>#[zaa,(K),2,#[zi,#[zf,0,(show (["low","high","by","p"]:List Str).Nodup from #[N]),#[A]],#[zi,#[zf,1,(show (["low","high","by","p"]:List Str).Nodup from #[N]),#[A]],#[zz]]]]),(fun _ _ _ _=>#[zo]),(fun _ _ _ _=>#[zj,#[zL],#[zj,#[zH],#[pvx,0],#[zj,#[zQ],#[pvx,2],#[pvx,1]]],#[pvx,3]])],#[zgd,#[pvx,1],#[pvx,4],set_list]]]]]],#[zk,#[zC,#[pvx,1]]]]],?_⟩;have o9:=a7;have hz:∀ {H':Hp} {ls:List Addr} {g:Nat→Nat→Int},LsA H' ls (zw n wi g)→((ls.map V.ref).length:Int)=(n:Int):=fun h=>by rw [ab,aQ h,zau]
  refine (lS rfl ⟨a,(lS rfl ⟨.inl (lT.of ha),fun l hl=>?_⟩)⟩);refine (lS rfl ⟨l,(lS rfl ⟨.inl (lT.of zc),(lS rfl ?_)⟩)⟩);rw [hz hb];refine⟨#[O],#[O],zaZ (lo:=0) (n:=(n:Int).toNat) (fun f σ H'=>∃ (ls:List Addr) (e3 e4:Option V),σ = [some (.int p),some (.ref l),some (.int b),e3,e4]∧zq H H'∧H' l=some (.lst (ls.map V.ref))∧LsA H' ls (zw n wi (rst p b n c f 0))) (ex3 bs none none ⟨rfl,zb hl,zc,?_⟩) ?_ ?_⟩
  ·rw [za1 (g':=c) fun j i hj hi=>by rw [zky hj]; exact cF (hc j i hj hi).1 (hc j i hj hi).2];exact hb.same (zb hl)
  ·rintro f σ H1 hf ⟨ls,e3,e4,rfl,s1,tS,mO⟩;have hf:f < n:=by lia
   refine (lS rfl (lS rfl ⟨l,(lS rfl ⟨.inl (lT.of tS),(lX rfl rfl ?_)⟩)⟩));rw [hz mO];refine⟨0+(f:Int),(n:Int) - 1,rfl,fun r hr=>(ex3 r (0+(f:Int)) ((n:Int) - 1) ⟨rfl,zc,⟨#[O],#[O],#[O],#[O]⟩,?_⟩)⟩;have e0:(0+(f:Int))+((((n:Int) - 1 - (0+(f:Int))).toNat:Nat):Int) - 1=(n:Int) - 2:=by lia
   have e1:((n:Int) - 1 - (0+(f:Int))).toNat=n - 1 - f:=by lia
   rw [e0,e1];have rl:r≠l:=(zB tS hr).symm;refine ziw (hi:=(n:Int) - 2) (n:=n - 1 - f) (fun idx σ H'=>∃ (ls:List Addr) (e4:Option V),σ = [some (.int p),some (.ref l),some (.int b),some (.int (0+(f:Int))),e4]∧zq H H'∧H' l=some (.lst (ls.map V.ref))∧LsA H' ls (zw n wi (rst p b n c f idx))) ⟨ls,e4,rfl,s1.trans (zb hr),by rw [zl rl.symm]; exact tS,mO.same (zb hr)⟩ ?_ ?_
   ·rintro idx σ H2 hi ⟨ls,e4,rfl,s2,vH,mO⟩;have lY:ls.length=n:=by rw [aQ mO,zau]
    obtain⟨b1',tV⟩:∃ b',ls[n - 2 - idx]? = some b':=⟨ls[n - 2 - idx]'#[O],#[M]⟩;obtain⟨b2',tP⟩:∃ b',ls[n - 2 - idx+1]? = some b':=⟨ls[n - 2 - idx+1]'#[O],#[M]⟩;obtain⟨v1,g1,h1⟩:=Paired.get mO tV;obtain⟨v2,g2,h2⟩:=Paired.get mO tP;rw [zag #[O]] at g1 g2;cases g1;cases g2;have at1:atI (ls.map V.ref) ((n:Int) - 2 - (idx:Int))=some (.ref b1'):=by
     have e:(n:Int) - 2 - (idx:Int)=((n - 2 - idx:Nat):Int):=by lia
     rw [e]; exact zax (by rw [af,tV]; rfl)
    have at2:atI (ls.map V.ref) ((n:Int) - 2 - (idx:Int)+1)=some (.ref b2'):=by
     have e:(n:Int) - 2 - (idx:Int)+1=((n - 2 - idx+1:Nat):Int):=by lia
     rw [e]; exact zax (by rw [af,tP]; rfl)
    refine (lS rfl (lS rfl (ex4 l _ _ _ ⟨rfl,rfl,lT.of vH,at1,(lS rfl (lS rfl (lX rfl rfl (ex4 l _ _ _ ⟨rfl,rfl,lT.of vH,at2,b1',b2',_,_,rfl,lT.of h1,lT.of h2,zfN (n:=wi) (f:=fun x y=>(x+b*y) % p) h1 h2 #[M] #[M] (.inl #[M]) #[O] ?_ ?_⟩))))⟩)))
    ·intro j u w H6 T R B hu hv s6 hT hR;refine gY2 (me.of zc) ?_;exact (lS rfl (lS rfl (lS rfl (lX rfl rfl ⟨.inl ⟨#[O],#[O]⟩,(lX rfl rfl (lS rfl (lX rfl rfl ⟨#[O],hR⟩)))⟩))))
    ·intro D H6 s6 hD;rw [zkx];have Bx:=s6 _ _ vH;have dl:D≠l:=(zB Bx hD).symm;have hj:ixN (ls.map V.ref).length ((n:Int) - 2 - (idx:Int))=some (n - 2 - idx):=by
      unfold ixN;rw [ab,lY,if_pos #[O],if_pos #[O]];congr 1;lia
     refine (lS rfl (lS rfl (ex4 l _ _ _ ⟨rfl,rfl,by rw [zl dl.symm]; exact Bx,hj,ls.set (n - 2 - idx) D,(lS rfl ⟨?_,?_,?_⟩)⟩)))
     ·exact zat ((s2.trans s6).trans (zb hD)) hl
     ·rw [zc,i6]
     ·rw [za1 (g':=fun j i=>if j=n - 2 - idx then (rst p b n c f idx (n - 2 - idx) i+b*rst p b n c f idx (n - 2 - idx+1) i) % p else rst p b n c f idx j i) fun j i hj _=>zl5 hi hj,← zkw];exact LsA.setAt (mO.same (s6.trans (zb hD))) (by rw [zl dl.symm]; exact Bx) zc dl
   ·rintro σ H2 ⟨ls,e4,rfl,s2,vH,mO⟩;rw [za1 (g':=rst p b n c (f+1) 0) fun j i hj _=>zl4 hf hj] at mO;exact (ex3 ls _ _ ⟨rfl,s2,vH,mO⟩)
  ·rintro σ H1 ⟨ls,e3,e4,rfl,s1,tS,mO⟩;have e1:(n:Int).toNat=n:=by lia
   rw [e1,za1 (g':=fun j i=>sh b n (fun t=>c t i) j % p) fun j i hj hi=>zl3 hj] at mO;exact (lS rfl (q l ls _ hl s1 tS mO))
def tnd (rows:List (List Int)) (w:Nat):List (List Int):=(au w).map fun i=>rows.map fun r=>gl r i
theorem zmA (rows:List (List Int)) (w:Nat):tnd rows (w+1)=tnd rows w++[rows.map fun r=>gl r w]:=by
 unfold tnd;rw [bU,ap];rfl
def zkL (K:ah):Sp:=fun vs H Q _=>∃ (a:Addr) (bs:List Addr) (rows:List (List Int)) (w:Nat),vs = [.ref a,.int (w:Int)]∧H a=some (.lst (bs.map V.ref))∧LsA H bs rows∧(∀ r∈rows,w≤r.length)∧rows.length≤1000∧w≤1000 ∧
 ∀ (l:Addr) (ls:List Addr) (H':Hp),H l=none→zq H H'→H' l=some (.lst (ls.map V.ref))→LsA H' ls (tnd rows w)→Q (.ref l) H'
theorem zkM:FnScope ["lines","width"] ["lines","width"] (zg zcx):=#[S]
theorem zkN {fd:FuncData} (T:Txt K mg t) (F:Fun K "turned" "turned" zcx t.turned fd):FnOk P w K mg base CX0 1 t.turned fd ["lines","width"] (zkL K):=by
 refine F.ok zkM (fun vs H Q E h=>?_) (fun mM A outer s H vs Q E hr h=>?_)
 ·obtain⟨a,bs,rows,wi,rfl,_⟩:=h;rfl
 ·obtain⟨a,bs,rows,wi,rfl,ha,hb,hw,hn,hwn,q⟩:=h;refine⟨_,#[zk,#[zC,#[zD,(CompSc.of (N':=["at","lines"]) (ix:=[none,some 0]) (zg zcx) ["lines","width"] rfl rfl #[N]),#[z9],#[zZ,T.range_,#[za,#[pvx,1],#[zd]]],(fun _ _ _ _=>#[zf,0,(show (["at","lines"]:List Str).Nodup from #[N]),(cJ rfl)]),(fun _ _ _ _=>#[zo]),(fun _ _ _ _=>#[zD,(CompSc.of (N':=["line","at"]) (ix:=[none,some 0]) ({ kind:=.function,names:=[(".0",.local),("at",.cell),("lines",.cell)],isGenerator:=false,isCoroutine:=false }) ["at","lines"] (by with_unfolding_all rfl) rfl #[N]),#[z9],#[zhP,(K),#[pvx,1]],(fun _ _ _ _=>#[zf,0,(show (["line","at"]:List Str).Nodup from #[N]),#[A]]),(fun _ _ _ _=>#[zo]),(fun _ _ _ _=>#[zY,#[za5,(K)],#[pvx,0],#[pvx,1]])])]]],?_⟩;have o9:=a7;have lY:=aQ hb;refine (lS rfl ⟨(wi:Int),rfl,#[O],#[O],zK (n:=wi) (fun m ys H'=>zq H H'∧∃ ls:List Addr,ys=ls.map V.ref∧LsA H' ls (tnd rows m)) ⟨fun _ _ e=>e,[],rfl,.nil⟩ (fun m ys H' hm _=>by show m < (wi:Int).toNat; lia) (fun ys H' _=>by show (wi:Int).toNat≤wi; lia) ?_ ?_⟩)
  ·rintro i x ys H1 H2 hi ⟨s1,ls,rfl,mO⟩ ⟨rfl,rfl⟩;have hz:ls.length=i:=by rw [aQ mO]; unfold tnd; rw [ab,aD]
   have h1a:=s1 _ _ ha;have h1b:=hb.same s1;refine (lS rfl ⟨a,rfl,⟨_,lT.of h1a⟩,za0 (fs:=(rows.map fun r:List Int=>gl r i).map V.int) (lT.of h1a) (by simp [lY]) (by simp; lia) (fun j x y R B hx hy hR=>?_) (fun D hD=>?_)⟩)
   ·obtain⟨b,rfl,xp⟩:=zN hx;obtain⟨r,hr,vZ⟩:=Paired.get h1b xp;rw [af,af,hr] at hy;have hy:V.int (gl r i)=y:=by simpa using hy
    subst hy;have hwr:=hw r (aI hr);have pf:atI (r.map V.int) (0+(i:Int))=some (.int (gl r i)):=by
     rw [cZ];refine zax ?_;rw [af,ai #[O],zaF (ai #[O])];rfl
    exact (lS rfl (lS rfl (ex4 b _ _ _ ⟨rfl,rfl,lT.of vZ,pf,hR⟩)))
   ·refine⟨by rw [ab]; lia,s1.trans (zb hD),ls++[D],#[M],?_⟩;rw [zmA];exact bZ (mO.same (zb hD)) zc
  ·rintro ys H1 D ⟨s1,ls,rfl,mO⟩ hD;exact q D ls _ (s1.free hD) (s1.trans (zb hD)) zc (mO.same (zb hD))
theorem zpp {H:Hp} {bs:List Addr} {rows:List (List Int)} (h:zbf H bs rows):RwA H bs rows:=dQ (fun _ _ z=>.inr z) h
def zkO (p:Int) (w:Nat) (r:List Int):List Int:=r.map (· % p)++aq (w - r.length) 0
theorem znQ {p:Int} {w:Nat} {r:List Int} (h:r.length≤w):zkO p w r=(au w).map fun i=>gl r i % p:=by
 unfold zkO;refine c9 fun i=>?_
 by_cases h1:i < r.length
 ·rw [be (by rw [ab]; exact h1),af,af,aY #[O],ai h1];show some (r[i] % p)=some (gl r i % p);rw [zaF (ai h1)]
 ·rw [bK (by rw [ab]; lia),ab,af];by_cases h2:i < w
  ·rw [aY h2,c8,if_pos #[O]];show some (0:Int)=some (gl r i % p);have:gl r i=0:=by unfold gl; rw [gf,cB.mpr #[O]]; rfl
   rw [this,jZ]
  ·rw [cB.mpr (by rw [a8]; lia),cB.mpr (by rw [aD]; lia)];rfl
theorem zmB {p:Int} {w:Nat} {rows:List (List Int)} (h:∀ r∈rows,r.length≤w):rows.map (zkO p w)=zw rows.length w fun j i=>gl (rows.getD j []) i % p:=by
 refine c9 fun j=>?_
 by_cases hj:j < rows.length
 ·rw [zag hj,af,ai hj];show some (zkO p w rows[j])=_;rw [znQ (h _ (dN hj))];have:rows.getD j []=rows[j]:=by simp [gf,hj]
  rw [this]
 ·rw [cB.mpr (by rw [ab]; lia),cB.mpr (by rw [zau]; lia)]
def zkP (K:ah):Sp:=fun vs H Q _=>∃ (p:Int) (a:Addr) (bs:List Addr) (rows:List (List Int)),vs = [.int p,.ref a]∧5≤p∧p≤97∧H a=some (.tup (bs.map V.ref))∧zbf H bs rows∧rows.length≤100∧(∀ r∈rows,r.length≤100) ∧
 ∀ (l:Addr) (ls:List Addr) (H':Hp),H l=none→zq H H'→H' l=some (.lst (ls.map V.ref))→LsA H' ls (zw rows.length (wd rows) fun j i=>gl (rows.getD j []) i % p)→Q (.ref l) H'
theorem zf7:FnScope ["p","curve","width"] ["p","curve"] (zg zcw):=#[S]
theorem zf8 {fd:FuncData} (T:Txt K mg t) (F:Fun K "filled" "filled" zcw t.filled fd):FnOk P w K mg base CX0 2 t.filled fd ["p","curve"] (zkP K):=by
 obtain⟨qa,m3,m5⟩:=T.f_width_of;have oV:=zd3 (P:=P) (w:=w) (base:=base) T m3;refine F.ok zf7 (fun vs H Q E h=>?_) (fun mM A outer s H vs Q E hr h=>?_)
 ·obtain⟨p,a,bs,rows,rfl,_⟩:=h;rfl
 ·obtain⟨p,a,bs,rows,rfl,p5,t6,ha,hb,hn,hw,q⟩:=h;refine⟨_,#[ze,#[zn,2,zf7.nd,(cJ rfl),#[zm,oV,(hr.mono #[D]),T.m_width_of,m3.kp,m5,#[zI],#[za,#[pvx,1],#[zd]]]],#[zk,#[zC,#[zD,(CompSc.of (N':=["line","p","width"]) (ix:=[none,some 0,some 2]) (zg zcw) ["p","curve","width"] rfl rfl #[N]),#[z9],#[zif,#[pvx,1]],(fun _ _ _ _=>#[zf,0,(show (["line","p","width"]:List Str).Nodup from #[N]),#[A]]),(fun _ _ _ _=>#[zo]),(fun _ _ _ _=>#[zj,#[zcp],#[zD,(CompSc.of (N':=["number","p"]) (ix:=[none,some 1]) ({ kind:=.function,names:=[(".0",.local),("line",.local),("len",.globalImplicit),("p",.cell),("width",.cell)],isGenerator:=false,isCoroutine:=false }) ["line","p","width"] (by with_unfolding_all rfl) rfl #[N]),#[z9],(@znj _ (K) _ _ _ rfl #[pvx,0]),(fun _ _ _ _=>#[zf,0,(show (["number","p"]:List Str).Nodup from #[N]),#[A]]),(fun _ _ _ _=>#[zo]),(fun _ _ _ _=>#[zj,#[zL],#[pvx,0],#[pvx,1]])],#[zj,#[zeD],#[zaC,#[za,#[zh],#[zd]]],#[zj,#[zaj],#[pvx,2],#[zE,#[zbm,(K)],T.len_,da,#[za,#[pvx,0],#[zd]]]]]])]]]],?_⟩;have o9:=a7;have lY:=aQ hb;have wdl:wd rows≤100:=by
   by_cases e:rows = []
   ·subst e; exact bz _
   ·obtain⟨r,hr,er⟩:=zdQ e;rw [← er]; exact hw r hr
  refine (lS rfl (ex3 a bs rows ⟨rfl,.inr (me.of ha),zpp hb,#[O],fun H1 s1=>?_⟩));refine (lS rfl ⟨a,rfl,⟨_,me.of (s1 _ _ ha)⟩,zK (n:=rows.length) (fun m ys H'=>zq H H'∧∃ ls:List Addr,ys=ls.map V.ref∧LsA H' ls ((rows.take m).map (zkO p (wd rows)))) ⟨s1,[],rfl,.nil⟩ ?_ ?_ ?_ ?_⟩)
  ·rintro m ys H2 hm ⟨s2,_⟩;exact⟨_,.ref (bs[m]'#[O]),me.of (s2 _ _ ha),by rw [af,ai #[O]]; rfl⟩
  ·rintro ys H2 ⟨s2,_⟩;exact⟨_,me.of (s2 _ _ ha),by rw [ab]; lia⟩
  ·rintro m x ys H2 H3 hm ⟨s2,ls,rfl,mO⟩ ⟨rfl,hx⟩;obtain⟨b,rfl,uY⟩:=zN (hx _ (me.of (s2 _ _ ha)));obtain⟨r,hr,vZ⟩:=Paired.get hb uY;have va:=s2 _ _ vZ;have rT:=hw r (aI hr);have uZ:=zfX (aI hr);refine gY ?_;refine (lS rfl ⟨b,rfl,⟨_,me.of va⟩,zdK (fs:=(r.map (· % p)).map V.int) (me.of va) #[M] (by rw [ab]; lia) (fun i x y R B hx hy hR=>?_) (fun D hD=>?_)⟩)
   ·obtain⟨c,rfl,hc⟩:=zam hx;rw [af,af,hc] at hy;have hy:V.int (c % p)=y:=by simpa using hy
    subst hy;refine gY ?_;exact (lS rfl (lS rfl (lX rfl rfl ⟨#[O],hR⟩)))
   ·have sD:=zb (o:=.lst ((r.map (· % p)).map V.int)) hD;refine⟨by show 1≤sizeLine; lia,fun Z hZ=>?_⟩;have sZ:=zb (o:=.lst [V.int 0]) hZ;refine (lS rfl (lS rfl ⟨b,(lS rfl ⟨.inr (me.of ((sD.trans sZ) _ _ va)),(lX rfl rfl ?_)⟩)⟩));have el:(r.map V.int).length=r.length:=ab ..;rw [el];have ek:((wd rows:Int) - (r.length:Int)).toNat=wd rows - r.length:=by lia
    refine (ex3 Z _ _ ⟨rfl,rfl,zc,#[O],#[O],by rw [ek]; show 1*(wd rows - r.length)≤sizeLine; lia,fun Y hY=>?_⟩);rw [ek,eL];have sY:=zb (o:=.lst (aq (wd rows - r.length) (V.int 0))) hY;refine (ex4 D Y _ _ ⟨rfl,rfl,(sZ.trans sY) _ _ zc,zc,by rw [ab,ab,a8]; lia,fun W hW=>?_⟩);have sW:=((sD.trans sZ).trans sY).trans (zb (o:=.lst ((r.map (· % p)).map V.int++aq (wd rows - r.length) (V.int 0))) hW);have uE:ls.length=m:=by rw [aQ mO,ab,aL]; lia
    refine⟨by rw [ab]; lia,s2.trans sW,ls++[W],by rw [ap]; rfl,?_⟩;rw [take_snoc hr,ap];refine bZ (mO.same sW) ?_;rw [zc];unfold zkO;rw [ap,ge]
  ·rintro ys H2 D ⟨s2,ls,rfl,mO⟩ hD;rw [aN (ag _),zmB fun r hr=>zfX hr] at mO;exact q D ls _ (s2.free hD) (s2.trans (zb hD)) zc (mO.same (zb hD))
theorem zh3 {X:Cx} {es:List Expr} {k:Nat} {oE p pos:Pos} {a:Expr} {ta:TA} (hg:Gl X "enumerate") (hm:X.mg "enumerate" = none) (ha:PA X [a] ta) (hs:starEach [a] X.env = [(false,eval a X.env)]:=by rfl) :
  PI X (.Tuple es k oE) (.Call (.Name "enumerate" p) [a] [] pos) (fun σ H R=>iEn (lT X.K) ta σ H R∨iEn (me X.K) ta σ H R):=fun lR s σ H R I h=>h.elim (zeE hg hm ha hs lR s σ H R I) (zk9 hg hm ha hs lR s σ H R I)
theorem zkQ {X:Cx} {K:ah} {es:List Expr} {k:Nat} {oE p pos:Pos} {a:Expr} {ta:TA} (hK:X.K=K) (hg:Gl X "enumerate") (hm:X.mg "enumerate" = none) (ha:PA X [a] ta) (hs:starEach [a] X.env = [(false,eval a X.env)]:=by rfl) :
  PI X (.Tuple es k oE) (.Call (.Name "enumerate" p) [a] [] pos) (fun σ H R=>iEn (lT K) ta σ H R∨iEn (me K) ta σ H R):=by subst hK; exact zh3 hg hm ha hs
theorem zdF {rows:List (List Int)} (h:∀ r∈rows,r.length≤100):∀ m,(zae rows m).length≤100*m
 | 0=>by simp [zae]
 | m+1=>by
  have ih:=zdF h m;have hl:(rows.getD m []).length≤100:=by
   cases e:rows[m]? with
   | none=>simp [gf,e]
   | some r=>simp only [gf,e,gK]; exact h r (aI e)
  have h2:=zer m (rows.getD m []) (rows.getD m []).length;rw [zcM,aA];lia
theorem zdT {rows:List (List Int)} (h:∀ r∈rows,r.length≤1000):∀ m,(zae rows m).length≤1000*m
 | 0=>by simp [zae]
 | m+1=>by
  have ih:=zdT h m;have hl:(rows.getD m []).length≤1000:=by
   cases e:rows[m]? with
   | none=>simp [gf,e]
   | some r=>simp only [gf,e,gK]; exact h r (aI e)
  have h2:=zer m (rows.getD m []) (rows.getD m []).length;rw [zcM,aA];lia
def zg1 (K:ah):Sp:=fun vs H Q _=>∃ (a:Addr) (bs:List Addr) (rows:List (List Int)),vs = [.ref a]∧H a=some (.tup (bs.map V.ref))∧zbf H bs rows∧rows.length≤100∧(∀ r∈rows,r.length≤100) ∧
 ∀ (l:Addr) (ts:List Addr) (H':Hp),H l=none→zq H H'→H' l=some (.lst (ts.map V.ref))→PtB H' ts (zae rows rows.length)→Q (.ref l) H'
def zg2 (K:ah):Sp:=fun vs H Q _=>∃ (a:Addr) (bs:List Addr) (rows:List (List Int)),vs = [.ref a]∧H a=some (.lst (bs.map V.ref))∧LsA H bs rows∧rows.length≤100∧(∀ r∈rows,r.length≤1000) ∧
 ∀ (l:Addr) (ts:List Addr) (H':Hp),H l=none→zq H H'→H' l=some (.lst (ts.map V.ref))→PtB H' ts (zae rows rows.length)→Q (.ref l) H'
def zh4 (K:ah):Sp:=fun vs H Q E=>zg1 K vs H Q E∨zg2 K vs H Q E
theorem zh5:FnScope ["curve"] ["curve"] (zg zbJ):=#[S]
theorem zbN {fd:FuncData} (T:Txt K mg t) (F:Fun K "terms_of" "terms_of" zbJ t.terms_of fd):FnOk P w K mg base CX0 1 t.terms_of fd ["curve"] (zh4 K):=by
 refine F.ok zh5 (fun vs H Q E h=>?_) (fun mM A outer s H vs Q E hr h=>?_)
 ·rcases h with ⟨a,bs,rows,rfl,_⟩ | ⟨a,bs,rows,rfl,_⟩ <;> rfl
 ·skip
  refine⟨_,#[zk,#[zC,#[zjq,(CompSc.of (N':=["j","line","i","number"]) (ix:=[none,none,none,none]) (zg zbJ) ["curve"] rfl rfl #[N]),(zgl (js:=[0,1]) (zbF (js:=[0,1]) (i:=0) #[D] (zbF (js:=[0,1]) (i:=1) #[D] (zeg (js:=[0,1]))))),(zgl (js:=[2,3]) (zbF (js:=[2,3]) (i:=2) #[D] (zbF (js:=[2,3]) (i:=3) #[D] (zeg (js:=[2,3]))))),(zh3 rfl T.enumerate_ #[za,#[pvx,0],#[zd]]),(fun _ _ _ _=>#[zaa,(K),2,#[zi,#[zf,0,(show (["j","line","i","number"]:List Str).Nodup from #[N]),#[A]],#[zi,#[zf,1,(show (["j","line","i","number"]:List Str).Nodup from #[N]),#[A]],#[zz]]]]),(fun _ _ _ _=>#[zo]),(fun _ _ _ _=>(zkQ (K:=K) rfl rfl T.enumerate_ #[za,#[pvx,1],#[zd]])),(fun _ _ _ _=>#[zaa,(K),2,#[zi,#[zf,2,(show (["j","line","i","number"]:List Str).Nodup from #[N]),#[A]],#[zi,#[zf,3,(show (["j","line","i","number"]:List Str).Nodup from #[N]),#[A]],#[zz]]]]),(fun _ _ _ _=>#[zbo,#[zT,#[zn3],#[pvx,3],#[zh],(zac _)]]),(fun _ _ _ _=>#[za4,#[za,#[pvx,2],#[za,#[pvx,0],#[zd]]]]),(by intros; rfl)]]],?_⟩;rcases h with ⟨a,bs,rows,rfl,ha,hb,hn,hw,q⟩ | ⟨a,bs,rows,rfl,ha,hb,hn,hw,q⟩
  ·skip
   have o9:=a7;have lY:=aQ hb;refine .inr (lS rfl ⟨a,(lS rfl ⟨me.of ha,zdY (n:=rows.length) (fun m ys H'=>∃ us:List Addr,ys=us.map V.ref∧zq H H'∧PtB H' us (zae rows m)) ⟨[],rfl,fun _ _ e=>e,.nil⟩ ?_ ?_ ?_ ?_⟩)⟩)
   ·rintro m ys H1 hm ⟨us,rfl,s1,mo⟩;exact⟨_,.ref (bs[m]'#[O]),me.of (s1 _ _ ha),by rw [af,ai #[O]]; rfl⟩
   ·rintro ys H1 ⟨us,rfl,s1,mo⟩;exact⟨_,me.of (s1 _ _ ha),by rw [ab]; lia⟩
   ·rintro m y ys H1 H2 hm ⟨us,rfl,s1,mo⟩ ⟨T,v,hT,rfl,rfl,hv⟩;obtain⟨b,rfl,uY⟩:=zN (hv _ (me.of (s1 _ _ ha)));obtain⟨r,hr,vZ⟩:=Paired.get hb uY;have rT:=hw r (aI hr);have er:rows.getD m []=r:=by simp [gf,hr]
    refine gY2 (me.of zc) ?_;have sT:=s1.trans (zb (o:=.tup [.int m,.ref b]) hT);have BF:=mo.same (zb (o:=.tup [.int m,.ref b]) hT);generalize lW H1 T (.tup [.int m,.ref b])=H2 at sT BF ⊢;have va:=sT _ _ vZ;refine .inr (lS rfl ⟨b,(lS rfl ⟨me.of va,zdY (n:=r.length) (fun j ys H'=>∃ us:List Addr,ys=us.map V.ref∧zq H2 H'∧PtB H' us (zae rows m++trm m r j)) ⟨us,rfl,fun _ _ e=>e,by simpa [trm] using BF⟩ ?_ ?_ ?_ ?_⟩)⟩)
    ·rintro j ys H3 hj ⟨us,rfl,s3,_⟩;exact⟨_,.int (r[j]'hj),me.of (s3 _ _ va),by rw [af,ai hj]; rfl⟩
    ·rintro ys H3 ⟨us,rfl,s3,_⟩;exact⟨_,me.of (s3 _ _ va),by rw [ab]; lia⟩
    ·rintro j z ys H3 H4 hj ⟨us,rfl,s3,r6⟩ ⟨T',v',xR,rfl,rfl,wK⟩;obtain⟨x,rfl,hx⟩:=zam (wK _ (me.of (s3 _ _ va)));have BG:gl r j=x:=zaF hx;have yK:=s3.trans (zb (o:=.tup [.int j,.int x]) xR);have yL:=r6.same (zb (o:=.tup [.int j,.int x]) xR);have sQ:us.length=(zae rows m++trm m r j).length:=aQ r6;have l1:=zdF hw m;have l2:=zer m r j;rw [aA] at sQ;refine⟨T',_,rfl,me.of zc,rfl,_,_,rfl,_,_,rfl,rfl,?_⟩;generalize lW H3 T' (.tup [.int j,.int x])=H4 at yK yL ⊢;refine (lS rfl ?_);refine⟨rfl,(lS rfl ?_)⟩;refine zbb (fun ub=>?_) (fun ub=>?_)
     ·have ub:x≠0:=by simpa using ub
      refine (lS rfl (lS rfl ⟨by show 2≤sizeLine; lia,fun D hD=>⟨by rw [ab]; lia,us++[D],by rw [ap]; rfl,yK.trans (zb hD),?_⟩⟩));rw [zds,if_pos (by rw [BG]; exact ub),← bf];exact bZ (yL.same (zb hD)) zc
     ·have ub:x=0:=by simpa using ub
      refine⟨us,rfl,yK,?_⟩;rw [zds,if_neg (by rw [BG,ub]; simp)];exact yL
    ·rintro ys H3 ⟨us,rfl,s3,r6⟩;refine⟨us,rfl,sT.trans s3,?_⟩;rw [zcM,er];exact r6
   ·rintro ys H1 ⟨us,rfl,s1,mo⟩ D hD;exact q D us _ (s1.free hD) (s1.trans (zb hD)) zc (mo.same (zb hD))
  ·skip
   have o9:=a7;have lY:=aQ hb;refine .inl (lS rfl ⟨a,(lS rfl ⟨lT.of ha,zdY (n:=rows.length) (fun m ys H'=>∃ us:List Addr,ys=us.map V.ref∧zq H H'∧PtB H' us (zae rows m)) ⟨[],rfl,fun _ _ e=>e,.nil⟩ ?_ ?_ ?_ ?_⟩)⟩)
   ·rintro m ys H1 hm ⟨us,rfl,s1,mo⟩;exact⟨_,.ref (bs[m]'#[O]),lT.of (s1 _ _ ha),by rw [af,ai #[O]]; rfl⟩
   ·rintro ys H1 ⟨us,rfl,s1,mo⟩;exact⟨_,lT.of (s1 _ _ ha),by rw [ab]; lia⟩
   ·rintro m y ys H1 H2 hm ⟨us,rfl,s1,mo⟩ ⟨T,v,hT,rfl,rfl,hv⟩;obtain⟨b,rfl,uY⟩:=zN (hv _ (lT.of (s1 _ _ ha)));obtain⟨r,hr,vZ⟩:=Paired.get hb uY;have rT:=hw r (aI hr);have er:rows.getD m []=r:=by simp [gf,hr]
    refine gY2 (me.of zc) ?_;have sT:=s1.trans (zb (o:=.tup [.int m,.ref b]) hT);have BF:=mo.same (zb (o:=.tup [.int m,.ref b]) hT);generalize lW H1 T (.tup [.int m,.ref b])=H2 at sT BF ⊢;have va:=sT _ _ vZ;refine .inl (lS rfl ⟨b,(lS rfl ⟨lT.of va,zdY (n:=r.length) (fun j ys H'=>∃ us:List Addr,ys=us.map V.ref∧zq H2 H'∧PtB H' us (zae rows m++trm m r j)) ⟨us,rfl,fun _ _ e=>e,by simpa [trm] using BF⟩ ?_ ?_ ?_ ?_⟩)⟩)
    ·rintro j ys H3 hj ⟨us,rfl,s3,_⟩;exact⟨_,.int (r[j]'hj),lT.of (s3 _ _ va),by rw [af,ai hj]; rfl⟩
    ·rintro ys H3 ⟨us,rfl,s3,_⟩;exact⟨_,lT.of (s3 _ _ va),by rw [ab]; lia⟩
    ·rintro j z ys H3 H4 hj ⟨us,rfl,s3,r6⟩ ⟨T',v',xR,rfl,rfl,wK⟩;obtain⟨x,rfl,hx⟩:=zam (wK _ (lT.of (s3 _ _ va)));have BG:gl r j=x:=zaF hx;have yK:=s3.trans (zb (o:=.tup [.int j,.int x]) xR);have yL:=r6.same (zb (o:=.tup [.int j,.int x]) xR);have sQ:us.length=(zae rows m++trm m r j).length:=aQ r6;have l1:=zdT hw m;have l2:=zer m r j;rw [aA] at sQ;refine⟨T',_,rfl,me.of zc,rfl,_,_,rfl,_,_,rfl,rfl,?_⟩;generalize lW H3 T' (.tup [.int j,.int x])=H4 at yK yL ⊢;refine (lS rfl ?_);refine⟨rfl,(lS rfl ?_)⟩;refine zbb (fun ub=>?_) (fun ub=>?_)
     ·have ub:x≠0:=by simpa using ub
      refine (lS rfl (lS rfl ⟨by show 2≤sizeLine; lia,fun D hD=>⟨by rw [ab]; lia,us++[D],by rw [ap]; rfl,yK.trans (zb hD),?_⟩⟩));rw [zds,if_pos (by rw [BG]; exact ub),← bf];exact bZ (yL.same (zb hD)) zc
     ·have ub:x=0:=by simpa using ub
      refine⟨us,rfl,yK,?_⟩;rw [zds,if_neg (by rw [BG,ub]; simp)];exact yL
    ·rintro ys H3 ⟨us,rfl,s3,r6⟩;refine⟨us,rfl,sT.trans s3,?_⟩;rw [zcM,er];exact r6
   ·rintro ys H1 ⟨us,rfl,s1,mo⟩ D hD;exact q D us _ (s1.free hD) (s1.trans (zb hD)) zc (mo.same (zb hD))
end
section
variable {P:Program} {w:World} {K:ah} {mg:Str→Option Value} {base:Heap} {t:Adr}
def ziP (K:ah):Sp:=fun vs H Q _=>∃ (k:Int) (a:Addr) (bs:List Addr) (rows:List (List Int)),vs = [.int k,.ref a]∧0≤k∧k≤1000∧H a=some (.tup (bs.map V.ref))∧zbf H bs rows∧rows.length≤100∧(∀ r∈rows,r.length≤100) ∧
 ∀ (M:Int) (H':Hp),zq H H'→(szs k (zae rows rows.length) = []→M=0)→(szs k (zae rows rows.length)≠[]→M∈szs k (zae rows rows.length)∧∀ x∈szs k (zae rows rows.length),x≤M)→Q (.int M) H'
theorem ziQ:FnScope ["k","curve"] ["k","curve"] (zg zb3):=#[S]
theorem ziR {fd:FuncData} (T:Txt K mg t) (F:Fun K "size_of" "size_of" zb3 t.size_of fd):FnOk P w K mg base CX0 2 t.size_of fd ["k","curve"] (ziP K):=by
 obtain⟨nh,mi,mw⟩:=T.f_terms_of;have mL:=zbN (P:=P) (w:=w) (base:=base) T mi;refine F.ok ziQ (fun vs H Q E h=>?_) (fun mM A outer s H vs Q E hr h=>?_)
 ·obtain⟨k,a,bs,rows,rfl,_⟩:=h;rfl
 ·obtain⟨k,a,bs,rows,rfl,k0,k1,ha,hb,hn,hw,q⟩:=h;refine⟨_,#[zk,#[zC,#[ziC,true,jS,T.max_,#[zh],#[zD,(CompSc.of (N':=["i","j","k"]) (ix:=[none,none,some 0]) (zg zb3) ["k","curve"] rfl rfl #[N]),#[zaD,#[zp,#[zp,#[zal]]]],#[zX,#[zm,mL,(hr.mono #[D]),T.m_terms_of,mi.kp,mw,#[zI],#[za,#[pvx,1],#[zd]]]],(fun _ _ _ _=>#[zaa,(K),2,#[zi,#[zf,0,(show (["i","j","k"]:List Str).Nodup from #[N]),#[A]],#[zi,#[zf,1,(show (["i","j","k"]:List Str).Nodup from #[N]),#[A]],#[zz]]]]),(fun _ _ _ _=>#[zo]),(fun _ _ _ _=>#[zj,#[zH],#[pvx,0],#[zj,#[zQ],#[zj,#[zaj],#[pvx,2],#[zh]],#[pvx,1]]])]]]],?_⟩;have o9:=a7;refine (lS rfl (.inl (ex3 a bs rows ⟨rfl,ha,hb,hn,hw,fun l ts H1 hl s1 tS p8=>?_⟩)));have lY:=aQ p8;have qe:=zdF hw rows.length;refine⟨l,rfl,⟨_,lT.of tS⟩,za0 (fs:=(szs k (zae rows rows.length)).map V.int) (lT.of tS) (by rw [ab,ab,znE,lY]) (by rw [ab]; lia) (fun i x y R B hx hy hR=>?_) (fun D hD=>?_)⟩
  ·obtain⟨b,rfl,xp⟩:=zN hx;obtain⟨⟨u,v⟩,hq,hT⟩:=Paired.get p8 xp;unfold szs at hy;rw [af,af,hq] at hy;have hy:V.int (u+(k - 1)*v)=y:=by simpa using hy
   subst hy;refine gY2 (me.of hT) ?_;exact (lS rfl (lS rfl (lX rfl rfl (lS rfl (lX rfl rfl ⟨.inl ⟨#[O],#[O]⟩,(lX rfl rfl hR)⟩)))))
  ·exact⟨D,(lS rfl ⟨lT.of zc,fun M h0 h1=>q M _ (s1.trans (zb hD)) h0 fun mB=>⟨(h1 mB).1,fun x hx=>by have:=(h1 mB).2 x hx; rwa [if_pos rfl] at this⟩⟩)⟩
theorem zh6 {n w:Nat} {g:Nat→Nat→Int}:tnd (zw n w g) w=zw w n fun i j=>g j i:=by
 unfold tnd zw;refine de fun i hi=>?_
 rw [cL];refine de fun j hj=>?_
 show gl ((au w).map fun i=>g j i) i=g j i;exact zaF (by rw [af,aY (aJ.mp hi)]; rfl)
theorem zck {n w:Nat} {g:Nat→Nat→Int}:∀ r∈zw n w g,r.length=w:=fun r hr=>by
 unfold zw at hr;obtain⟨j,_,rfl⟩:=av.mp hr;rw [ab,aD]
theorem znR {n w:Nat} {g:Nat→Nat→Int} (h:n=0→w=0):wd (zw n w g)=w:=by
 by_cases e:zw n w g = []
 ·have:n=0:=by rw [← zau n w g,e]; rfl
  rw [e,h this]; rfl
 ·obtain⟨r,hr,er⟩:=zdQ e;rw [← er,zck r hr]
def cu (rows:List (List Int)) (j i:Nat):Int:=gl (rows.getD j []) i
theorem zpq {p x y:Int} {n w:Nat} {c:Nat→Nat→Int} {j i:Nat}:sh x w (fun s=>sh y n (fun t=>c t s % p) j % p) i % p=mv x y n w c j i % p:=by
 refine Cg.mod_eq (zc0 (Cg.refl p x) fun s _=>(Cg.emod p _).trans (zc0 (Cg.refl p y) fun t _=>Cg.emod p _))
def mvd (p x y:Int) (rows:List (List Int)):List (List Int):=zw rows.length (wd rows) fun j i=>mv x y rows.length (wd rows) (cu rows) j i % p
theorem zmC {rows:List (List Int)} {m:Nat} (h:∀ r∈rows,r.length≤m):wd rows≤m:=by
 by_cases e:rows = []
 ·subst e; exact bz _
 ·obtain⟨r,hr,er⟩:=zdQ e;rw [← er]; exact h r hr
theorem zpr {H:Hp} {bs:List Addr} {rows:List (List Int)} (h:LsA H bs rows):RwA H bs rows:=dQ (fun _ _ z=>.inl z) h
def zmD (K:ah):Sp:=fun vs H Q _=>∃ (p:Int) (a pt:Addr) (x y:Int) (bs:List Addr) (rows:List (List Int)),vs = [.int p,.ref a,.ref pt]∧5≤p∧p≤97∧0≤x∧x < p∧0≤y∧y < p∧H a=some (.tup (bs.map V.ref))∧zbf H bs rows∧H pt=some (.tup [.int x,.int y])∧rows.length≤100∧(∀ r∈rows,r.length≤100) ∧
 ∀ (l:Addr) (ls:List Addr) (H':Hp),H l=none→zq H H'→H' l=some (.tup (ls.map V.ref))→zbf H' ls (mvd p x y rows)→Q (.ref l) H'
theorem zcA:FnScope ["p","curve","point","a","b","lines","columns"] ["p","curve","point"] (zg zdA):=#[S]
theorem zmE {fd:FuncData} (T:Txt K mg t) (F:Fun K "moved" "moved" zdA t.moved fd):FnOk P w K mg base CX0 3 t.moved fd ["p","curve","point"] (zmD K):=by
 obtain⟨rE,nI,nJ⟩:=T.f_raised;have pq:=zf6 (P:=P) (w:=w) (base:=base) T nI;obtain⟨rF,oh,oj⟩:=T.f_filled;have qA:=zf8 (P:=P) (w:=w) (base:=base) T oh;obtain⟨vc,qB,pv⟩:=T.f_turned;have sX:=zkN (P:=P) (w:=w) (base:=base) T qB;obtain⟨qa,m3,m5⟩:=T.f_width_of;have oV:=zd3 (P:=P) (w:=w) (base:=base) T m3;refine F.ok zcA (fun vs H Q E h=>?_) (fun mM A outer s H vs Q E hr h=>?_)
 ·obtain⟨p,a,pt,x,y,bs,rows,rfl,_⟩:=h;rfl
 ·obtain⟨p,a,pt,x,y,bs,rows,rfl,p5,t6,x0,x1,y0,y1,ha,hb,p8,hn,hw,q⟩:=h;refine⟨_,#[ze,#[zaP,#[pvx,2],#[zaW,#[zi,#[zf,3,zcA.nd,#[A]],#[zi,#[zf,4,zcA.nd,#[A]],#[zz]]]]],#[ze,#[zn,5,zcA.nd,#[A],#[zm,pq,(hr.mono #[D]),T.m_raised,nI.kp,nJ,#[zI],#[za,#[pvx,0],#[za,#[zm,qA,(hr.mono #[D]),T.m_filled,oh.kp,oj,#[zI],#[za,#[pvx,0],#[za,#[pvx,1],#[zd]]]],#[za,#[pvx,4],#[zd]]]]]],#[ze,#[zn,6,zcA.nd,#[A],#[zm,pq,(hr.mono #[D]),T.m_raised,nI.kp,nJ,#[zI],#[za,#[pvx,0],#[za,#[zm,sX,(hr.mono #[D]),T.m_turned,qB.kp,pv,#[zI],#[za,#[pvx,5],#[za,#[zm,oV,(hr.mono #[D]),T.m_width_of,m3.kp,m5,#[zI],#[za,#[pvx,5],#[zd]]],#[zd]]]],#[za,#[pvx,3],#[zd]]]]]],#[zk,#[zC,#[zas,#[zaQ],T.tuple_,ij,#[za,#[zD,(CompSc.of (N':=["line"]) (ix:=[none]) (zg zdA) ["p","curve","point","a","b","lines","columns"] rfl rfl #[N]),#[z9],#[zX,#[zm,sX,(hr.mono #[D]),T.m_turned,qB.kp,pv,#[zI],#[za,#[pvx,6],#[za,#[zE,#[zJ],T.len_,da,#[za,#[pvx,5],#[zd]]],#[zd]]]]],(fun _ _ _ _=>#[zf,0,(show (["line"]:List Str).Nodup from #[N]),#[A]]),(fun _ _ _ _=>#[zo]),(fun _ _ _ _=>#[zas,(zct (K:=K) rfl),T.tuple_,ij,#[za,#[pvx,0],#[zd]]])],#[zd]]]]]]]],?_⟩;have o9:=a7;have wdl:=zmC hw;have er:∀ z:Int,0≤z % p∧z % p < p:=fun z=>⟨aU _ #[O],aO _ #[O]⟩
  refine⟨_,rfl,pt,_,rfl,me.of p8,rfl,_,_,rfl,_,_,rfl,rfl,?_⟩;refine (lS rfl (lS rfl (lS rfl (ex4 p a bs rows ⟨rfl,p5,t6,ha,hb,hn,hw,fun l1 ls1 H1 uM s1 h1 g1=>?_⟩))));refine (lS rfl (ex7 p y l1 ls1 rows.length (wd rows) _ ⟨rfl,h1,g1,#[O],#[O],p5,t6,y0,y1,fun j i _ _=>er _,fun l2 CG H2 qe s2 h2 g2=>?_⟩));have wz:rows.length=0→wd rows=0:=fun e=>by rw [gv.mp e]; rfl
  refine (lS rfl (lS rfl (lS rfl (ex3 l2 CG _ ⟨rfl,.inl (lT.of h2),zpr g2,by rw [zau]; lia,fun H3 s3=>?_⟩))));rw [znR wz];refine (ex4 l2 CG _ (wd rows) ⟨rfl,s3 _ _ h2,g2.same s3,fun r hr=>by rw [zck r hr]; exact ag _,by rw [zau]; lia,#[O],fun l4 ls4 H4 hl4 s4 h4 g4=>?_⟩);rw [zh6] at g4;refine (lS rfl (ex7 p x l4 ls4 (wd rows) rows.length _ ⟨rfl,h4,g4,#[O],#[O],p5,t6,x0,x1,fun j i _ _=>er _,fun l5 ls5 H5 hl5 s5 h5 g5=>?_⟩));have Ad:=(s3.trans s4).trans s5;have e2:((CG.map V.ref).length:Int)=(rows.length:Int):=by rw [ab,aQ g2,zau]
  refine (lS rfl (lS rfl ⟨l2,(lS rfl ⟨.inl (lT.of (Ad _ _ h2)),?_⟩)⟩));rw [e2];refine (ex4 l5 ls5 _ rows.length ⟨rfl,h5,g5,fun r hr=>by rw [zck r hr]; exact ag _,by rw [zau]; lia,#[O],fun l6 ls6 H6 hl6 s6 h6 g6=>?_⟩);have eg:tnd (zw (wd rows) rows.length fun j i=>sh x (wd rows) (fun t=>sh y rows.length (fun t_1=>gl (rows.getD t_1 []) t % p) i % p) j % p) rows.length=mvd p x y rows:=by
   rw [zh6];exact za1 fun j i _ _=>zpq
  rw [eg] at g6;have eml:(mvd p x y rows).length=rows.length:=zau _ _ _;have lY:=aQ g6;refine⟨l6,rfl,⟨_,lT.of h6⟩,zK (n:=rows.length) (fun m ys H'=>zq H6 H'∧∃ us:List Addr,ys=us.map V.ref∧zbf H' us ((mvd p x y rows).take m)) ⟨fun _ _ e=>e,[],rfl,.nil⟩ ?_ ?_ ?_ ?_⟩
  ·rintro m ys H7 hm ⟨s7,_⟩;exact⟨_,.ref (ls6[m]'#[O]),lT.of (s7 _ _ h6),by rw [af,ai #[O]]; rfl⟩
  ·rintro ys H7 ⟨s7,_⟩;exact⟨_,lT.of (s7 _ _ h6),by rw [ab]; lia⟩
  ·rintro m z ys H7 H8 hm ⟨s7,us,rfl,mo⟩ ⟨rfl,hx⟩;obtain⟨b,rfl,uY⟩:=zN (hx _ (lT.of (s7 _ _ h6)));obtain⟨r,hr,vZ⟩:=Paired.get g6 uY;have hz:us.length=m:=by rw [aQ mo,aL]; lia
   refine gY ?_;refine (lS rfl ⟨b,(lS rfl (.inl ⟨lT.of (s7 _ _ vZ),fun D hD=>⟨by rw [ab]; lia,s7.trans (zb hD),us++[D],#[M],?_⟩⟩))⟩);rw [take_snoc hr];exact bZ (mo.same (zb hD)) zc
  ·rintro ys H7 D ⟨s7,us,rfl,mo⟩ hD;rw [aN #[O]] at mo;refine⟨D,(lS rfl (.inl ⟨lT.of zc,fun l hl=>?_⟩))⟩;have sf:=(((((s1.trans s2).trans Ad).trans s6).trans s7).trans (zb (o:=.lst (us.map V.ref)) hD));exact q l us _ (sf.free hl) (sf.trans (zb hl)) zc ((mo.same (zb hD)).same (zb hl))
def wts (ts:List (Int×Int)):List Int:=ts.map fun q=>q.1+q.2
theorem znS (ts:List (Int×Int)):(wts ts).length=ts.length:=by simp [wts]
def zg3 (K:ah):Sp:=fun vs H Q _=>∃ (p:Int) (a pt:Addr) (x y:Int) (bs:List Addr) (rows:List (List Int)),vs = [.int p,.ref a,.ref pt]∧5≤p∧p≤97∧0≤x∧x < p∧0≤y∧y < p∧H a=some (.tup (bs.map V.ref))∧zbf H bs rows∧H pt=some (.tup [.int x,.int y])∧rows.length≤100∧(∀ r∈rows,r.length≤100) ∧
 ∀ (M:Int) (H':Hp),zq H H'→(wts (zae (mvd p x y rows) rows.length) = []→M=0)→(wts (zae (mvd p x y rows) rows.length)≠[]→M∈wts (zae (mvd p x y rows) rows.length)∧∀ z∈wts (zae (mvd p x y rows) rows.length),M≤z)→Q (.int M) H'
theorem zg4:FnScope ["p","curve","point"] ["p","curve","point"] (zg zbt):=#[S]
theorem zg5 {fd:FuncData} (T:Txt K mg t) (F:Fun K "weight_at" "weight_at" zbt t.weight_at fd):FnOk P w K mg base CX0 4 t.weight_at fd ["p","curve","point"] (zg3 K):=by
 obtain⟨nh,mi,mw⟩:=T.f_terms_of;have mL:=zbN (P:=P) (w:=w) (base:=base) T mi;obtain⟨v5,uH,r8⟩:=T.f_moved;have xt:=zmE (P:=P) (w:=w) (base:=base) T uH;refine F.ok zg4 (fun vs H Q E h=>?_) (fun mM A outer s H vs Q E hr h=>?_)
 ·obtain⟨p,a,pt,x,y,bs,rows,rfl,_⟩:=h;rfl
 ·obtain⟨p,a,pt,x,y,bs,rows,rfl,p5,t6,x0,x1,y0,y1,ha,hb,p8,hn,hw,q⟩:=h;refine⟨_,#[zk,#[zC,#[ziC,false,k6,T.min_,#[zh],#[zD,(CompSc.of (N':=["i","j"]) (ix:=[none,none]) (zg zbt) ["p","curve","point"] rfl rfl #[N]),#[zaD,#[zp,#[zp,#[zal]]]],#[zX,#[zm,mL,(hr.mono #[D]),T.m_terms_of,mi.kp,mw,#[zI],#[za,#[zm,xt,(hr.mono #[D]),T.m_moved,uH.kp,r8,#[zI],#[za,#[pvx,0],#[za,#[pvx,1],#[za,#[pvx,2],#[zd]]]]],#[zd]]]],(fun _ _ _ _=>#[zaa,(K),2,#[zi,#[zf,0,(show (["i","j"]:List Str).Nodup from #[N]),#[A]],#[zi,#[zf,1,(show (["i","j"]:List Str).Nodup from #[N]),#[A]],#[zz]]]]),(fun _ _ _ _=>#[zo]),(fun _ _ _ _=>#[zj,#[zH],#[pvx,0],#[pvx,1]])]]]],?_⟩;have o9:=a7;have el:(mvd p x y rows).length=rows.length:=zau _ _ _;have ew:∀ r∈mvd p x y rows,r.length≤100:=fun r hr=>by rw [zck r hr]; exact zmC hw
  refine (lS rfl (lS rfl (lS rfl (ex7 p a pt x y bs rows ⟨rfl,p5,t6,x0,x1,y0,y1,ha,hb,p8,hn,hw,fun l0 ls0 H0 Ep s0 h0 g0=>?_⟩))));refine .inl (ex3 l0 ls0 (mvd p x y rows) ⟨rfl,h0,g0,#[O],ew,fun l ts H1 hl s1 tS p8=>?_⟩);rw [el] at p8;have lY:=aQ p8;have qe:=zdF ew rows.length;refine⟨l,rfl,⟨_,lT.of tS⟩,za0 (fs:=(wts (zae (mvd p x y rows) rows.length)).map V.int) (lT.of tS) (by rw [ab,ab,znS,lY]) (by rw [ab]; lia) (fun i x y R B hx hy hR=>?_) (fun D hD=>?_)⟩
  ·obtain⟨b,rfl,xp⟩:=zN hx;obtain⟨⟨u,v⟩,hq,hT⟩:=Paired.get p8 xp;unfold wts at hy;rw [af,af,hq] at hy;have hy:V.int (u+v)=y:=by simpa using hy
   subst hy;refine gY2 (me.of hT) ?_;exact (lS rfl (lS rfl (lX rfl rfl hR)))
  ·exact⟨D,(lS rfl ⟨lT.of zc,fun M h0 h1=>q M _ ((s0.trans s1).trans (zb hD)) h0 fun mB=>⟨(h1 mB).1,fun x hx=>by have:=(h1 mB).2 x hx; rwa [if_neg #[D]] at this⟩⟩)⟩
end
section
variable {P:Program} {w:World} {K:ah} {mg:Str→Option Value} {base:Heap} {t:Adr}
def zkR (rows:List (List Int)) (x y:Int) (u v:Nat):Int:=sm rows.length fun t=>sm (rows.getD t []).length fun s=>gl (rows.getD t []) s*cv (s,t) ⟨x,y,u,v⟩
def znT (p:Int) (wide:Nat) (r:List Int):Prop:=1≤r.length∧r.length≤wide∧∀ v∈r,0≤v∧v < p
theorem zmF {rows:List (List Int)} {j i:Nat} (hj:j < rows.length) (hi:i < (rows.getD j []).length) (h:gl (rows.getD j []) i≠0):((i:Int),(j:Int))∈zae rows rows.length:=by
 unfold zae;rw [bQ];refine⟨j,aJ.mpr hj,?_⟩;unfold trm;exact av.mpr ⟨i,bv.mpr ⟨aJ.mpr hi,by simpa using h⟩,rfl⟩
theorem zqa {rows:List (List Int)} (h:∃ r∈rows,∃ v∈r,v≠0):∃ j i,j < rows.length∧i < (rows.getD j []).length∧cu rows j i≠0∧cu rows j i∈rows.getD j []∧rows.getD j []∈rows:=by
 obtain⟨r,hr,v,hv,mB⟩:=h;obtain⟨j,hj⟩:=ci.mp hr;obtain⟨i,hi⟩:=ci.mp hv;have e:rows.getD j []=r:=by rw [aK,hj]; rfl
 have e2:cu rows j i=v:=by unfold cu; rw [e]; exact zaF hi
 exact⟨j,i,(aw.mp hj).1,by rw [e]; exact (aw.mp hi).1,by rw [e2]; exact mB,by rw [e2,e]; exact hv,by rw [e]; exact hr⟩
theorem zg6 {p x y:Int} {rows:List (List Int)} {j:Nat} (hj:j < rows.length):(mvd p x y rows).getD j []=(au (wd rows)).map fun i=>mv x y rows.length (wd rows) (cu rows) j i % p:=by
 rw [aK,show (mvd p x y rows)[j]? = _ from zag hj];rfl
theorem zps {p x y:Int} {rows:List (List Int)} {j i:Nat} (hj:j < rows.length) (hi:i < wd rows):cu (mvd p x y rows) j i=mv x y rows.length (wd rows) (cu rows) j i % p:=by
 unfold cu;rw [zg6 hj];exact zaF (by rw [af,aY hi]; rfl)
theorem zpt {p x y:Int} {w:Nat} {rows:List (List Int)} (hg:∀ r∈rows,znT p w r) (h:∃ r∈rows,∃ v∈r,v≠0):zae (mvd p x y rows) rows.length≠[]:=by
 obtain⟨j,i,h1,h2,h3,h4,h5⟩:=zqa h;have hr:=(hg _ h5).2.2 _ h4;have mj:=zfX h5;obtain⟨t,s,ht,hs,mB⟩:=zp5 (p:=p) (a:=x) (b:=y) (n:=rows.length) (w:=wd rows) (c:=cu rows) (j:=j) (i:=i) h1 #[O] fun e=>h3 (by
  have e0:Cg p (cu rows j i) 0:=e;exact e0.eq hr.1 hr.2 #[D] #[O])
 have el:(mvd p x y rows).length=rows.length:=zau _ _ _;have:=zmF (rows:=mvd p x y rows) (j:=t) (i:=s) #[O] (by rw [zg6 ht,ab,aD]; exact hs) (by
  show cu (mvd p x y rows) t s≠0;rw [zps ht hs];exact fun e=>mB ((Cg.emod p _).symm.trans (Cg.of_eq e)))
 rw [el] at this;exact fun e=>by rw [e] at this; cases this
theorem zmG {k s:Nat} {g:Tm→Int} {r:List Int} (h:r∈zah k s g):∃ j,j < s / (k - 1)+1∧r=(au (s - (k - 1)*j+1)).map fun i=>g (i,j):=by
 unfold zah at h;obtain⟨j,hj,rfl⟩:=av.mp h;exact⟨j,aJ.mp hj,rfl⟩
theorem znU {p:Int} {k s:Nat} {g:Tm→Int} (hg:∀ t,0≤g t∧g t < p):∀ r∈zah k s g,1≤r.length∧r.length≤s+1∧∀ v∈r,0≤v∧v < p:=fun r hr=>by
 obtain⟨j,_,rfl⟩:=zmG hr;rw [ab,aD];refine⟨#[O],#[O],fun v hv=>?_⟩;obtain⟨i,_,rfl⟩:=av.mp hv;exact hg _
theorem zfd {k s j:Nat} {g:Tm→Int} (h:j < s / (k - 1)+1):(zah k s g).getD j []=(au (s - (k - 1)*j+1)).map fun i=>g (i,j):=by
 rw [aK,zeY h];rfl
theorem zoq {k s:Nat} (hk:2≤k) {t:Tm} (h:tz k t≤s):t.2 < s / (k - 1)+1∧t.1 < s - (k - 1)*t.2+1:=by
 unfold tz at h;have k1:0 < k - 1:=by lia
 have:t.2≤s / (k - 1):=(cj k1).mpr (by rw [cV]; lia);exact⟨#[O],#[O]⟩
theorem zpu {p:Int} {k s:Nat} (hk:2≤k) {lZ:List (Int×Int×Nat)} {g:Tm→Int} (L:Lst p k lZ s g):∃ r∈zah k s g,∃ v∈r,v≠0:=by
 obtain⟨t,ht,mB⟩:=L.top;obtain⟨h1,h2⟩:=zoq hk (show tz k t≤s by lia);exact⟨_,aI (zeY h1),g t,av.mpr ⟨t.1,aJ.mpr h2,rfl⟩,mB⟩
theorem znV {k s:Nat} (hk:2≤k) {g:Tm→Int} {q:Int×Int} (h:q∈zae (zah k s g) (zah k s g).length):∃ t:Tm,q=tI t∧tz k t≤s∧g t≠0:=by
 unfold zae at h;obtain⟨j,hj,h⟩:=bQ.mp h;have hj:=aJ.mp hj;rw [zbr] at hj;rw [zfd hj,ab,aD] at h;unfold trm at h
 (obtain⟨i,hi,rfl⟩:=av.mp h)
 obtain⟨hi,mB⟩:=bv.mp hi;have hi:=aJ.mp hi;rw [ziG hi] at mB;have k1:0 < k - 1:=by lia
 have tL:(k - 1)*j≤s:=by
  have:=(cj k1).mp (show j≤s / (k - 1) by lia);rw [cV]; exact this
 exact⟨(i,j),rfl,by show i+(k - 1)*j≤s; lia,by simpa using mB⟩
theorem zjO {k s:Nat} (hk:2≤k) {g:Tm→Int} {t:Tm} (h:tz k t≤s) (mB:g t≠0):tI t∈zae (zah k s g) (zah k s g).length:=by
 obtain⟨h1,h2⟩:=zoq hk h;unfold zae;refine bQ.mpr ⟨t.2,aJ.mpr (by rw [zbr]; exact h1),?_⟩;rw [zfd h1,ab,aD];unfold trm;refine av.mpr ⟨t.1,bv.mpr ⟨aJ.mpr h2,?_⟩,rfl⟩;rw [ziG h2];simpa using mB
theorem zkS {p:Int} {k s:Nat} (hk:2≤k) {lZ:List (Int×Int×Nat)} {g:Tm→Int} (L:Lst p k lZ s g) {M:Int} (h1:M∈szs (k:Int) (zae (zah k s g) (zah k s g).length)) (h2:∀ x∈szs (k:Int) (zae (zah k s g) (zah k s g).length),x≤M):M=(s:Int):=by
 obtain⟨t,ht,mB⟩:=L.top;have a1:=h2 _ (av.mpr ⟨tI t,zjO hk (show tz k t≤s by lia) mB,rfl⟩);obtain⟨q,hq,rfl⟩:=av.mp h1;obtain⟨u,rfl,hu,_⟩:=znV hk hq;have e1:((tI t).1+((k:Int) - 1)*(tI t).2)=(tz k t:Int):=zgZ hk t;have e2:((tI u).1+((k:Int) - 1)*(tI u).2)=(tz k u:Int):=zgZ hk u;show (tI u).1+((k:Int) - 1)*(tI u).2=_;rw [e2] at a1 ⊢;rw [e1] at a1;lia
theorem zkT {k s:Nat} {g:Tm→Int} {x y:Int} {u v:Nat}:zkR (zah k s g) x y u v=lsum (gps k s) fun t=>g t*cv t ⟨x,y,u,v⟩:=by
 rw [zpb];unfold zkR;rw [zbr];refine zW fun j hj=>?_
 rw [zfd hj,ab,aD];exact zW fun i hi=>by rw [ziG hi]
theorem zkU {p:Int} {k s m:Nat} (hk:2≤k) {hp:List (Int×Int)} {g:Tm→Int} (L:Lst p k (wpt m hp) s g) {q:Int×Int} (hq:q∈hp):∀ u v,u+v < m→Cg p (zkR (zah k s g) q.1 q.2 u v) 0:=fun u v h=>by
 rw [zkT,znw hk];exact L.ok _ (znD (x:=q.1) (y:=q.2) (w:=m) (av.mpr ⟨q,hq,rfl⟩) #[O] #[O])
theorem zqB {m:Nat} (h:m≤4):tri m≤10:=by
 have:m=0∨m=1∨m=2∨m=3∨m=4:=by lia
 rcases this with e | e | e | e | e <;> subst e <;> decide
def zh7 (K:ah):Sp:=fun vs H Q E=>∃ (c tt r:Addr) (p T:Int) (k:Nat) (pl:List Int) (rw:List (Option Int)),vs = [.ref c,.ref r,.int T]∧zbS H c tt p k pl∧H r=some (.lst (rw.map pY))∧rw.length=pl.length∧pl.length≤16∧p∈zr∧pl.Nodup∧(∀ x∈pl,0≤x∧x < p)∧(∀ z,some z∈rw→0≤z∧z < p)∧2≤k∧k≤100∧0≤T∧T≤1000∧(∀ size g,Lst p k (wpt 1 (mK pl rw)) size g→(size:Int) < T) ∧
 ∀ (z r':Addr) (ls:List Addr) (size:Nat) (g:Tm→Int) (H':Hp),H z=none→zq H H'→H' z=some (.tup [.int ((1:Nat):Int),.ref r'])→H' r'=some (.tup (ls.map V.ref))→zbf H' ls (zah k size g)→Lst p k (wpt 1 (mK pl rw)) size g→Q (.ref z) H'
theorem zbO:FnScope ["code","row","t","m","size","curve"] ["code","row","t"] (zg zcj):=#[S]
theorem zh8 {fd:FuncData} (T:Txt K mg t) (F:Fun K "paper_of" "paper_of" zcj t.paper_of fd):FnOk P w K mg base CX0 8 t.paper_of fd ["code","row","t"] (zh7 K):=by
 obtain⟨pz,mT,mU⟩:=T.f_curve_for;have om:=zdE (P:=P) (w:=w) (base:=base) T mT;refine F.ok zbO (fun vs H Q E h=>?_) (fun mM A outer s H vs Q E hr h=>?_)
 ·obtain⟨c,tt,r,p,T',k,pl,rw,rfl,_⟩:=h;rfl
 ·obtain⟨c,tt,r,p,T',k,pl,rw,rfl,hc,qV,rT,hn,hp,pb,oR,uZ,k2,k1,t0,t1,mj,q⟩:=h;refine⟨_,#[ze,#[zaX,bL,(@zjV _ _ _ _ _ _ _ rfl T.range_ #[za,#[zh],#[za,#[zj,#[zH],#[ziX,(.int 4),T.g_MOST_PAPER_WEIGHT.choose_spec,⟨_,rfl⟩],#[zh]],#[zd]]] (by rfl) (by rfl)),#[zf,3,zbO.nd,#[A]],#[ze,#[zaP,#[zm,om,(hr.mono #[D]),T.m_curve_for,mT.kp,mU,#[zI],#[za,#[pvx,0],#[za,#[pvx,1],#[za,#[pvx,3],#[zd]]]]],#[zaW,#[zi,#[zf,4,zbO.nd,#[A]],#[zi,#[zf,5,zbO.nd,#[A]],#[zz]]]]],#[zk,#[zby,#[zT,#[zfz],#[pvx,4],#[zj,#[zQ],#[pvx,3],#[pvx,2]],(zac _)],#[zk,#[zC,#[za4,#[za,#[pvx,3],#[za,#[pvx,5],#[zd]]]]]],#[zaq]]]]],#[zdH]],?_⟩;have o9:=a7;have CK:=zcd pl rw;have hA:(mK pl rw).length*tri 1≤199:=by
   have:=gp (show (mK pl rw).length≤16 by lia) (zqB (show 1≤4 by decide));lia
  refine (lX rfl rfl ⟨1,5,rfl,⟨#[D],#[D],#[D],#[D]⟩,?_⟩);refine zaZ (lo:=1) (n:=4) (fun i σ H'=>i=0∧σ = [some (.ref c),some (.ref r),some (.int T'),none,none,none]∧zq H H') ⟨rfl,rfl,fun _ _ e=>e⟩ ?_ ?_
  ·rintro i σ H1 hi ⟨rfl,rfl,s1⟩;rw [show ((1:Int)+((0:Nat):Int))=((1:Nat):Int) by lia];refine (lS rfl (lS rfl (lS rfl (ex8 c tt r p k 1 pl rw ⟨rfl,hc.same s1,s1 _ _ qV,rT,hn,hp,pb,oR,uZ,k2,k1,#[D],#[D],hA,fun z r' ls size g H2 hz s2 h5 h6 h7 hL hs=>?_⟩))));refine⟨z,_,rfl,me.of h5,rfl,_,_,rfl,_,_,rfl,rfl,?_⟩;refine (lS rfl (lS rfl (lS rfl (lX rfl rfl ⟨.inl ⟨#[O],#[O]⟩,(lX rfl rfl (lS rfl ?_))⟩))));have h8:=mj size g hL;refine zbb (fun _=>?_) (fun pZ=>absurd (decide_eq_true #[O]) pZ);refine (lS rfl (lS rfl ⟨by show 2≤sizeLine; lia,fun z' Cf=>?_⟩));have w:=zb (o:=.tup [.int ((1:Nat):Int),.ref r']) Cf;have uG:=s1.trans s2;exact q z' r' ls size g _ (uG.free Cf) (uG.trans w) zc (w _ _ h6) (h7.same w) hL
  ·rintro σ H1 ⟨h,_⟩;lia
theorem znW {rows:List (List Int)} {x y:Int} {j i:Nat}:mv x y rows.length (wd rows) (cu rows) j i=zkR rows x y i j:=by
 rw [zog];unfold zkR;refine zW fun t ht=>?_
 have hl:(rows.getD t []).length≤wd rows:=zfX (by rw [aK,ai ht]; exact dN ht);rw [zdo hl fun s h1 _=>by
  have:cu rows t s=0:=zc5 h1;rw [this];simp]
 refine zW fun s _=>?_
 show cu rows t s*ch t j*ch s i*x ^ (s - i)*y ^ (t - j)=gl (rows.getD t []) s*(ch s i*x ^ (s - i)*(ch t j*y ^ (t - j)));unfold cu;grind
theorem znX {p x y:Int} {rows:List (List Int)} {m:Nat} (h:∀ u v,u+v < m→Cg p (zkR rows x y u v) 0):∀ z∈wts (zae (mvd p x y rows) rows.length),(m:Int)≤z:=fun z hz=>by
 obtain⟨q,hq,rfl⟩:=av.mp hz;unfold zae at hq;obtain⟨j,hj,hq⟩:=bQ.mp hq;have hj:=aJ.mp hj;rw [zg6 hj,ab,aD] at hq;unfold trm at hq;obtain⟨i,hi,rfl⟩:=av.mp hq;obtain⟨hi,mB⟩:=bv.mp hi;have hi:=aJ.mp hi;show (m:Int)≤(i:Int)+(j:Int);refine bH fun mj=>?_
 have h0:=h i j #[O];rw [← znW] at h0;have e:gl ((au (wd rows)).map fun i=>mv x y rows.length (wd rows) (cu rows) j i % p) i=mv x y rows.length (wd rows) (cu rows) j i % p:=zaF (by rw [af,aY hi]; rfl);rw [e,h0.mod_eq,jZ] at mB;simp at mB
def zfe (K:ah):Sp:=fun vs H Q _=>∃ (c tt r z r':Addr) (p T:Int) (k m size:Nat) (pl:List Int) (rw:List (Option Int)) (ls:List Addr) (g:Tm→Int),vs = [.ref c,.ref r,.int T,.ref z]∧zbS H c tt p k pl∧H r=some (.lst (rw.map pY))∧rw.length=pl.length∧pl.length≤16∧p∈zr∧pl.Nodup∧(∀ x∈pl,0≤x∧x < p)∧(∀ z,some z∈rw→0≤z∧z < p)∧2≤k∧k≤100∧0≤T∧T≤1000∧H z=some (.tup [.int (m:Int),.ref r'])∧H r'=some (.tup (ls.map V.ref))∧zbf H ls (zah k size g)∧1≤m∧m≤4∧Lst p k (wpt m (mK pl rw)) size g∧size≤99∧(size:Int) < (m:Int)*T∧∀ H',zq H H'→Q (.bl true) H'
theorem zav:FnScope ["code","row","t","paper","p","k","places","m","curve"] ["code","row","t","paper"] (zg zaS):=#[S]
theorem zff {fd:FuncData} (T:Txt K mg t) (F:Fun K "paper_holds" "paper_holds" zaS t.paper_holds fd):FnOk P w K mg base CX0 8 t.paper_holds fd ["code","row","t","paper"] (zfe K):=by
 obtain⟨nY,mE,mF⟩:=T.f_check_curves;have mY:=zcm (P:=P) (w:=w) (base:=base) T mE;obtain⟨uc,rG,pK⟩:=T.f_size_of;have vd:=ziR (P:=P) (w:=w) (base:=base) T rG;obtain⟨nZ,mG,mH⟩:=T.f_heard_points;have mZ:=zcl (P:=P) (w:=w) (base:=base) T mG;obtain⟨r9,qb,oo⟩:=T.f_weight_at;have tf:=zg5 (P:=P) (w:=w) (base:=base) T qb;refine F.ok zav (fun vs H Q E h=>?_) (fun mM A outer s H vs Q E hr h=>?_)
 ·obtain⟨c,tt,r,z,r',p,T',k,m,size,pl,rw,ls,g,rfl,_⟩:=h;rfl
 ·obtain⟨c,tt,r,z,r',p,T',k,m,size,pl,rw,ls,g,rfl,hc,qV,rT,hn,hp,pb,oR,uZ,k2,k1,t0,t1,hz,nC,hT,m1,m4,LS,hs,mj,q⟩:=h;refine⟨_,#[ze,#[zaP,#[pvx,0],#[zaW,#[zi,#[zf,4,zav.nd,(cJ rfl)],#[zi,#[zf,5,zav.nd,#[A]],#[zi,#[zf,6,zav.nd,#[A]],#[zz]]]]]],#[ze,#[zc8,#[zm,mY,(hr.mono #[D]),T.m_check_curves,mE.kp,mF,#[zI],#[za,#[pvx,5],#[zd]]]],#[ze,#[zaP,#[pvx,3],#[zaW,#[zi,#[zf,7,zav.nd,(cJ rfl)],#[zi,#[zf,8,zav.nd,(cJ rfl)],#[zz]]]]],#[ze,#[zby,(@PW.pt _ _ _ (@zpA _ _ _ _ _ _ _ #[zey,#[zhi,#[zk2],#[zk2],#[zh],#[pvx,7],#[ziX,(.int 4),T.g_MOST_PAPER_WEIGHT.choose_spec,⟨_,rfl⟩],(by with_unfolding_all rfl)]] (@zow _ _ _ _ #[zT,#[zi1],#[zm,vd,(hr.mono #[D]),T.m_size_of,rG.kp,pK,#[zI],#[za,#[pvx,5],#[za,#[pvx,8],#[zd]]]],#[zj,#[zQ],#[pvx,7],#[pvx,2]],(zac _)]))),#[zk,#[zC,#[zhd]]],#[zaq]],#[zk,#[zC,#[zE,(@zkd _ rfl),T.all_,boot_all,#[za,#[zD,(CompSc.of (N':=["point","p","curve","m"]) (ix:=[none,some 4,some 8,some 7]) (zg zaS) ["code","row","t","paper","p","k","places","m","curve"] rfl rfl #[N]),#[z9],#[zX,#[zm,mZ,(hr.mono #[D]),T.m_heard_points,mG.kp,mH,#[zI],#[za,#[pvx,0],#[za,#[pvx,1],#[zd]]]]],(fun _ _ _ _=>#[zf,0,(show (["point","p","curve","m"]:List Str).Nodup from #[N]),#[A]]),(fun _ _ _ _=>#[zo]),(fun _ _ _ _=>#[zi2,#[zi1],#[zm,tf,(hr.mono #[D]),T.m_weight_at,qb.kp,oo,#[zI],#[za,#[pvx,1],#[za,#[pvx,2],#[za,#[pvx,0],#[zd]]]]],#[pvx,3],(zac _)])],#[zd]]]]]]]]],?_⟩;have o9:=a7;have rp:=zy hp;have hR:RowAt K H r pl.length rw:=⟨lT.of qV,rT⟩;have hP:=zgD pb oR uZ;have CK:=zcd pl rw;have rg:=znU (k:=k) (s:=size) LS.rg;have EH:size / (k - 1)≤size:=fh _ _;have cln:(zah k size g).length≤100:=by rw [zbr]; exact fG (aW EH hs)
  have rg1:∀ r∈zah k size g,r.length≤100:=fun r hr=>aW (rg r hr).2.1 #[O]
  refine⟨_,rfl,c,_,rfl,me.of hc.1,rfl,_,_,rfl,_,_,rfl,_,_,rfl,rfl,?_⟩;refine (lS rfl ⟨k,rfl,k2,?_⟩);refine⟨_,rfl,z,_,rfl,me.of hz,rfl,_,_,rfl,_,_,rfl,rfl,?_⟩;refine (lS rfl (lX rfl rfl (lS rfl ?_)));rw [decide_eq_true (show (1:Int)≤(m:Int) by lia)];refine zpS (lX rfl rfl (lS rfl ?_));rw [decide_eq_true (show (m:Int)≤4 by lia)];refine zfh ?_;refine (lS rfl (lS rfl (ex4 (k:Int) r' ls (zah k size g) ⟨rfl,#[O],#[O],nC,hT,cln,rg1,fun M H1 s1 _ z1=>?_⟩)));have znz:szs (k:Int) (zae (zah k size g) (zah k size g).length)≠[]:=by
   obtain⟨t',ht',EK⟩:=LS.top;have:=zjO k2 (show tz k t'≤size by lia) EK;intro e;unfold szs at e;rw [j7] at e;rw [e] at this;cases this
  have z1:=z1 znz;have eM:=zkS k2 LS z1.1 z1.2;subst eM;refine (lS rfl (lS rfl (lX rfl rfl ⟨.inl ⟨#[O],#[O]⟩,(lX rfl rfl (lS rfl ?_))⟩)));refine zbb (fun h=>?_) (fun _=>?_)
  ·have h:(m:Int)*T'≤(size:Int):=of_decide_eq_true h;lia
  refine (lS rfl (lS rfl (ex7 c tt r p k pl rw ⟨rfl,hc.same s1,⟨lT.of (s1 _ _ qV),rT⟩,#[O],fun l bs H2 qe s2 vH hB=>?_⟩)));have sS:bs.length=(mK pl rw).length:=hB.length;have uG:=s1.trans s2;refine⟨l,rfl,⟨_,lT.of vH⟩,zK (n:=bs.length) (fun i ys H'=>zq H2 H'∧ys=(aq i true).map V.bl) ⟨fun _ _ e=>e,rfl⟩ ?_ ?_ ?_ ?_⟩
  ·rintro i ys H4 hi ⟨s4,_⟩;exact⟨_,.ref (bs[i]'#[O]),lT.of (s4 _ _ vH),by rw [af,ai #[O]]; rfl⟩
  ·rintro ys H4 ⟨s4,_⟩;exact⟨_,lT.of (s4 _ _ vH),by rw [ab]; exact ag _⟩
  ·rintro i x ys H4 H5 hi ⟨s4,rfl⟩ ⟨rfl,hx⟩;obtain⟨b,rfl,uY⟩:=zN (hx _ (lT.of (s4 _ _ vH)));obtain⟨q',qi,BA⟩:=Paired.get (hB.same s4) uY;have hqm:=aI qi;obtain⟨g1,g2,g3,g4⟩:=hP.rg q' hqm;have BE:=uG.trans s4;refine gY ?_;refine (lS rfl (lS rfl (lS rfl (ex7 p r' b q'.1 q'.2 ls (zah k size g) ⟨rfl,#[O],#[O],g1,g2,g3,g4,BE _ _ nC,hT.same BE,BA,cln,rg1,fun M H6 s6 _ z2=>?_⟩))));have wnz:wts (zae (mvd p q'.1 q'.2 (zah k size g)) (zah k size g).length)≠[]:=by
    intro e;unfold wts at e;rw [j7] at e;exact zpt (w:=size+1) (fun r hr=>rg r hr) (zpu k2 LS) e
   have hMm:=znX (zkU k2 LS hqm) M (z2 wnz).1;refine (lS rfl (lX rfl rfl ?_));refine⟨by rw [ab,a8]; lia,s4.trans s6,?_⟩;show _++[V.bl (decide ((m:Int)≤M))]=_;rw [decide_eq_true hMm,List.replicate_succ',ap];rfl
  ·rintro ys H4 D ⟨s4,rfl⟩ hD;refine⟨D,(lS rfl ⟨lT.of zc,?_⟩)⟩;have e:(aq bs.length true).all id=true:=by simp
   show Q (.bl ((aq bs.length true).all id)) _;rw [e];exact q _ ((uG.trans s4).trans (zb hD))
end
section
variable {P:Program} {w:World} {K:ah} {mg:Str→Option Value} {base:Heap} {t:Adr}
theorem zmH {xs:List V} {k:Nat} (h:k≤xs.length):zcU xs (some (k:Int)) none=xs.drop k:=by
 have e1:HT.sIx xs.length 0 (some (k:Int))=k:=by
  unfold HT.sIx;simp;split <;> lia
 have e2:HT.sIx xs.length xs.length none=xs.length:=rfl;unfold zcU;rw [e1,e2];exact aN (by rw [fF]; exact ag _)
def zg7 (K:ah):Sp:=fun vs H Q _=>∃ (a:Addr) (bs:List Addr) (n wi:Nat) (c:Nat→Nat→Int),vs = [.ref a]∧H a=some (.lst (bs.map V.ref))∧LsA H bs (zw n wi c)∧n≤100∧wi≤1000∧(∃ j i,j < n∧i < wi∧c j i≠0) ∧
 ∀ (l:Addr) (ls:List Addr) (e:Nat) (H':Hp),H l=none→zq H H'→H' l=some (.lst (ls.map V.ref))→LsA H' ls (zw n (wi - e) fun j i=>c j (i+e))→Lea n wi c e→Q (.ref l) H'
theorem zdG:FnScope ["lines","least"] ["lines"] (zg za3):=#[S]
theorem zg8 {fd:FuncData} (T:Txt K mg t) (F:Fun K "without_x" "without_x" za3 t.without_x fd):FnOk P w K mg base CX0 2 t.without_x fd ["lines"] (zg7 K):=by
 obtain⟨nh,mi,mw⟩:=T.f_terms_of;have mL:=zbN (P:=P) (w:=w) (base:=base) T mi;refine F.ok zdG (fun vs H Q E h=>?_) (fun mM A outer s H vs Q E hr h=>?_)
 ·obtain⟨a,bs,n,wi,c,rfl,_⟩:=h;rfl
 ·obtain⟨a,bs,n,wi,c,rfl,ha,hb,hn,hw,yM,q⟩:=h;refine⟨_,#[ze,#[zn,1,zdG.nd,(cJ rfl),#[zE,(@zks _ rfl),T.min_,k6,#[za,#[zD,(CompSc.of (N':=["i","j"]) (ix:=[none,none]) (zg za3) ["lines","least"] rfl rfl #[N]),#[zaD,#[zp,#[zp,#[zal]]]],#[zX,#[zm,mL,(hr.mono #[D]),T.m_terms_of,mi.kp,mw,#[zI],#[za,#[pvx,0],#[zd]]]],(fun _ _ _ _=>#[zaa,(K),2,#[zi,#[zf,0,(show (["i","j"]:List Str).Nodup from #[N]),#[A]],#[zi,#[zf,1,(show (["i","j"]:List Str).Nodup from #[N]),#[A]],#[zz]]]]),(fun _ _ _ _=>#[zo]),(fun _ _ _ _=>#[pvx,0])],#[zd]]]],#[zk,#[zC,#[zD,(CompSc.of (N':=["line","least"]) (ix:=[none,some 1]) (zg za3) ["lines","least"] rfl rfl #[N]),#[z9],#[zX,#[pvx,0]],(fun _ _ _ _=>#[zf,0,(show (["line","least"]:List Str).Nodup from #[N]),#[A]]),(fun _ _ _ _=>#[zo]),(fun _ _ _ _=>#[zbY,(zle (K:=K) rfl),#[pvx,0],#[zb7,#[pvx,1]],#[zda]])]]]],?_⟩;have o9:=a7;have hgl:=zaH n wi c;refine (lS rfl (.inr (ex3 a bs (zw n wi c) ⟨rfl,ha,hb,#[O],fun r nC=>by rw [ze1 nC]; exact hw,fun l ts H1 hl s1 h1 tR=>?_⟩)));rw [hgl] at tR;have p6:=tR.length;have hil:(zae (zw n wi c) n).length≤1000*n:=zdT (fun r nC=>by rw [ze1 nC]; exact hw) n;refine⟨l,rfl,⟨_,lT.of h1⟩,zK (n:=ts.length) (fun m ys H'=>H'=H1∧ys=(((zae (zw n wi c) n).map (·.1)).take m).map V.int) ⟨rfl,rfl⟩ ?_ ?_ ?_ ?_⟩
  ·rintro m ys H2 hm ⟨rfl,_⟩;exact⟨_,.ref ts[m],lT.of h1,by rw [af,ai hm]; rfl⟩
  ·rintro ys H2 ⟨rfl,_⟩;exact⟨_,lT.of h1,by rw [ab]; exact ag _⟩
  ·rintro m y ys H2 H3 hm ⟨rfl,rfl⟩ ⟨rfl,hy⟩;obtain⟨b,rfl,uO⟩:=zN (hy _ (lT.of h1));obtain⟨q',qi,pf⟩:=Paired.get tR uO;refine gY2 (me.of pf) ?_;have Au:((zae (zw n wi c) n).map (·.1))[m]? = some q'.1:=by rw [af,qi]; rfl
   refine (lS rfl ⟨by rw [ab,aL,ab]; lia,rfl,?_⟩);rw [take_snoc Au,ap];rfl
  rintro ys H2 D ⟨rfl,rfl⟩ hD;rw [aN (by rw [ab]; lia)];have u2:=zb (o:=.lst (((zae (zw n wi c) n).map (·.1)).map V.int)) hD;obtain⟨j0,i0,qU,yo,mB⟩:=yM;refine⟨D,(zae (zw n wi c) n).map (·.1),rfl,lT.of zc,fun e0=>?_,fun M hM1 hM2=>?_⟩
  ·have:(i0:Int)∈(zae (zw n wi c) n).map (·.1):=av.mpr ⟨_,zcP.mpr ⟨i0,j0,rfl,qU,yo,mB⟩,rfl⟩;rw [e0] at this;cases this
  obtain⟨e,rfl,hL⟩:=zpi hM1 hM2;have s2:=s1.trans u2;generalize lW H2 D (.lst (((zae (zw n wi c) n).map (·.1)).map V.int))=H3 at u2 s2 ⊢;have CL:=s2 _ _ ha;have xN:=hb.same s2;have sS:=hb.length;have Ej:e≤wi:=by obtain⟨_,_,h,_⟩:=hL.2; lia
  refine (lS rfl ⟨a,rfl,⟨_,lT.of CL⟩,zK (n:=bs.length) (fun m ys H'=>zq H3 H'∧∃ us:List Addr,ys=us.map V.ref∧LsA H' us ((zw n (wi - e) fun j i=>c j (i+e)).take m)) ⟨fun _ _ e=>e,[],rfl,.nil⟩ ?_ ?_ ?_ ?_⟩)
  ·rintro m ys H4 hm ⟨s4,_⟩;exact⟨_,.ref bs[m],lT.of (s4 _ _ CL),by rw [af,ai hm]; rfl⟩
  ·rintro ys H4 ⟨s4,_⟩;exact⟨_,lT.of (s4 _ _ CL),by rw [ab]; exact ag _⟩
  ·rintro m y ys H4 H5 hm ⟨s4,us,rfl,mo⟩ ⟨rfl,hy⟩;obtain⟨b,rfl,uO⟩:=zN (hy _ (lT.of (s4 _ _ CL)));obtain⟨r,nC,pf⟩:=Paired.get xN uO;have xu:m < n:=by lia
   rw [zag xu] at nC;cases nC;refine gY (lS rfl (lS rfl (lS rfl ⟨b,(lS rfl ⟨lT.of (s4 _ _ pf),fun z hz=>?_⟩)⟩)));have sQ:=mo.length;rw [aL,zaH] at sQ;refine⟨by rw [ab]; lia,s4.trans (zb hz),us++[z],by rw [ap]; rfl,?_⟩;rw [take_snoc (zag (w:=wi - e) (g:=fun j i=>c j (i+e)) xu)];refine bZ (mo.same (zb hz)) ?_;rw [zc,zmH (by rw [ab,ab,aD]; exact Ej),← lJ];congr 3;refine c9 fun i=>?_
   rw [ff,af,af];by_cases h:i < wi - e
   ·rw [aY #[O],aY h,ki e i];rfl
   ·rw [cg (by rw [aD]; lia),cg (by rw [aD]; lia)];rfl
  ·rintro ys H4 D2 ⟨s4,us,rfl,mo⟩ rV;rw [aN (by rw [zaH]; lia)] at mo;have xS:=s2.trans s4;exact q D2 us e _ (xS.free rV) (xS.trans (zb rV)) zc (mo.same (zb rV)) hL
def zed (p b:Int) (n wi:Nat) (c:Nat→Nat→Int) (j i:Nat):Int:=if j≤i∧i < j+wi then sh b n (fun t=>c t (i - j)) j % p else 0
def zft (K:ah):Sp:=fun vs H Q _=>∃ (p b:Int) (a:Addr) (bs:List Addr) (n wi:Nat) (c:Nat→Nat→Int),vs = [.int p,.ref a,.int b]∧H a=some (.lst (bs.map V.ref))∧LsA H bs (zw n wi c)∧1≤n∧n≤100∧wi≤900∧5≤p∧p≤97∧0≤b∧b < p∧(∀ j i,j < n→i < wi→0≤c j i∧c j i < p) ∧
 ∀ (l:Addr) (ls:List Addr) (H':Hp),H l=none→zq H H'→H' l=some (.lst (ls.map V.ref))→LsA H' ls (zw n (wi+(n - 1)) (zed p b n wi c))→Q (.ref l) H'
theorem zjP (x:V) (k:Nat):(aq k [x]).flatten=aq k x:=eL
theorem zmI {p b:Int} {n wi m:Nat} {c:Nat→Nat→Int} (hm:m < n):(au (wi+(n - 1))).map (zed p b n wi c m)=aq m 0++((au wi).map fun i=>sh b n (fun t=>c t i) m % p)++aq (n - 1 - m) 0:=by
 refine c9 fun i=>?_
 rw [af];by_cases h1:i < m
 ·rw [be (by rw [aA,a8]; lia),be (by rw [a8]; exact h1),c8,if_pos h1,aY #[O]];show some (zed p b n wi c m i)=some 0;unfold zed;rw [if_neg #[O]]
 ·by_cases h2:i < m+wi
  ·rw [be (by rw [aA,a8,ab,aD]; lia),bK (by rw [a8]; lia),a8,af,aY #[O],aY #[O]];show some (zed p b n wi c m i)=some (sh b n (fun t=>c t (i - m)) m % p);unfold zed;rw [if_pos #[O]]
  ·rw [bK (by rw [aA,a8,ab,aD]; lia),aA,a8,ab,aD,c8];by_cases h3:i < wi+(n - 1)
   ·rw [if_pos #[O],aY h3];show some (zed p b n wi c m i)=some 0;unfold zed;rw [if_neg #[O]]
   ·rw [if_neg #[O],cg (by rw [aD]; lia)];rfl
theorem zc1:FnScope ["p","lines","number","beyond"] ["p","lines","number"] (zg za9):=#[S]
theorem zfu {fd:FuncData} (T:Txt K mg t) (F:Fun K "next_curve" "next_curve" za9 t.next_curve fd):FnOk P w K mg base CX0 2 t.next_curve fd ["p","lines","number"] (zft K):=by
 obtain⟨rE,nI,nJ⟩:=T.f_raised;have pq:=zf6 (P:=P) (w:=w) (base:=base) T nI;refine F.ok zc1 (fun vs H Q E h=>?_) (fun mM A outer s H vs Q E hr h=>?_)
 ·obtain⟨p,b,a,bs,n,wi,c,rfl,_⟩:=h;rfl
 ·obtain⟨p,b,a,bs,n,wi,c,rfl,ha,hb,n1,hn,hw,p5,t6,b0,b1,hc,q⟩:=h;refine⟨_,#[ze,#[zn,3,zc1.nd,(cJ rfl),#[zj,#[zaj],#[zE,#[zJ],T.len_,da,#[za,#[pvx,1],#[zd]]],#[zh]]],#[zk,#[zC,#[zD,(CompSc.of (N':=["j","line","beyond"]) (ix:=[none,none,some 3]) (zg za9) ["p","lines","number","beyond"] rfl rfl #[N]),#[zaD,#[zp,#[zp,#[zal]]]],#[zeE,T.enumerate_,#[za,#[zm,pq,(hr.mono #[D]),T.m_raised,nI.kp,nJ,#[zI],#[za,#[pvx,0],#[za,#[pvx,1],#[za,#[pvx,2],#[zd]]]]],#[zd]]],(fun _ _ _ _=>#[zaa,(K),2,#[zi,#[zf,0,(show (["j","line","beyond"]:List Str).Nodup from #[N]),#[A]],#[zi,#[zf,1,(show (["j","line","beyond"]:List Str).Nodup from #[N]),#[A]],#[zz]]]]),(fun _ _ _ _=>#[zo]),(fun _ _ _ _=>#[zj,#[zcp],#[zj,#[zcp],#[zj,#[zeD],#[zaC,#[za,#[zh],#[zd]]],#[pvx,0]],#[pvx,1]],#[zj,#[zeD],#[zaC,#[za,#[zh],#[zd]]],#[zj,#[zaj],#[pvx,2],#[pvx,0]]]])]]]],?_⟩;have o9:=a7;have sS:=hb.length;rw [zaH] at sS;refine (lS rfl ⟨a,(lS rfl ⟨.inl (lT.of ha),(lX rfl rfl ?_)⟩)⟩);refine (lS rfl (lS rfl (lS rfl (ex7 p b a bs n wi c ⟨rfl,ha,hb,#[O],#[O],p5,t6,b0,b1,hc,fun l ls H1 hl s1 h1 mO=>?_⟩))));have uE:=mO.length;rw [zaH] at uE;refine⟨l,(lS rfl ⟨lT.of h1,zK (n:=ls.length) (fun m ys H'=>zq H1 H'∧∃ us:List Addr,ys=us.map V.ref∧LsA H' us ((zw n (wi+(n - 1)) (zed p b n wi c)).take m)) ⟨fun _ _ e=>e,[],rfl,.nil⟩ ?_ ?_ ?_ ?_⟩)⟩
  ·rintro m ys H4 hm ⟨s4,_⟩;exact⟨_,.ref ls[m],lT.of (s4 _ _ h1),by rw [af,ai hm]; rfl⟩
  ·rintro ys H4 ⟨s4,_⟩;exact⟨_,lT.of (s4 _ _ h1),by rw [ab]; exact ag _⟩
  ·rintro m y ys H4 H5 hm ⟨s4,us,rfl,mo⟩ ⟨T,v,hT,rfl,rfl,hv⟩;obtain⟨bb,rfl,uO⟩:=zN (hv _ (lT.of (s4 _ _ h1)));obtain⟨r,nC,pf⟩:=Paired.get mO uO;have xu:m < n:=by lia
   rw [zag xu] at nC;cases nC;have uT:=zb (o:=.tup [.int (m:Int),.ref bb]) hT;refine gY2 (me.of zc) ?_;have s5:=s4.trans uT;have xr:=mo.same uT;generalize lW H4 T (.tup [.int (m:Int),.ref bb])=H5 at uT s5 xr ⊢;have CF:((m:Int)).toNat=m:=by lia
   refine⟨by show 1≤sizeLine; lia,fun z1 rO=>(lS rfl (ex3 z1 _ ([.int 0]) ⟨rfl,rfl,zc,#[O],#[O],by rw [CF]; show 1*m≤sizeLine; lia,fun z2 tM=>?_⟩))⟩;rw [CF,zjP];have u6:=(zb (o:=.lst [.int 0]) rO).trans (zb (o:=.lst (aq m (V.int 0))) tM);have f6:lW (lW H5 z1 (.lst [.int 0])) z2 (.lst (aq m (V.int 0))) z2=some (.lst ((aq m (0:Int)).map V.int)):=by rw [zc,ge]
   generalize lW (lW H5 z1 (.lst [.int 0])) z2 (.lst (aq m (V.int 0)))=H6 at u6 f6 ⊢;refine (lS rfl (ex4 z2 bb _ _ ⟨rfl,rfl,f6,(s5.trans u6) _ _ pf,by rw [ab,ab,a8,ab,aD]; lia,fun z3 Bm=>?_⟩));have u7:=zb (o:=.lst ((aq m (0:Int)).map V.int++((au wi).map fun i=>sh b n (fun t=>c t i) m % p).map V.int)) Bm;have f7:lW H6 z3 (.lst ((aq m (0:Int)).map V.int++((au wi).map fun i=>sh b n (fun t=>c t i) m % p).map V.int)) z3=some (.lst ((aq m (0:Int)++(au wi).map fun i=>sh b n (fun t=>c t i) m % p).map V.int)):=by rw [zc,ap]
   generalize lW H6 z3 (.lst ((aq m (0:Int)).map V.int++((au wi).map fun i=>sh b n (fun t=>c t i) m % p).map V.int))=H7 at u7 f7 ⊢;have eb:(((bs.map V.ref).length:Nat):Int) - 1 - (m:Int)=((n - 1 - m:Nat):Int):=by rw [ab]; lia
   refine⟨by show 1≤sizeLine; lia,fun z4 hz4=>(lS rfl (lS rfl (lX rfl rfl ?_)))⟩;show zpR (.ref z4) (.int ((((bs.map V.ref).length:Nat):Int) - 1 - (m:Int))) _ _;rw [eb];have BH:(((n - 1 - m:Nat):Int)).toNat=n - 1 - m:=by lia
   refine (ex3 z4 _ ([.int 0]) ⟨rfl,rfl,zc,#[O],#[O],by rw [BH]; show 1*_≤sizeLine; lia,fun z5 hz5=>?_⟩);rw [BH,zjP];have u8:=(zb (o:=.lst [.int 0]) hz4).trans (zb (o:=.lst (aq (n - 1 - m) (V.int 0))) hz5);have f8:lW (lW H7 z4 (.lst [.int 0])) z5 (.lst (aq (n - 1 - m) (V.int 0))) z5=some (.lst ((aq (n - 1 - m) (0:Int)).map V.int)):=by rw [zc,ge]
   generalize lW (lW H7 z4 (.lst [.int 0])) z5 (.lst (aq (n - 1 - m) (V.int 0)))=H8 at u8 f8 ⊢;refine (ex4 z3 z5 _ _ ⟨rfl,rfl,u8 _ _ f7,f8,by rw [ab,ab,aA,a8,a8,ab,aD]; lia,fun z6 hz6=>?_⟩);have u9:=u6.trans (u7.trans (u8.trans (zb (o:=.lst ((aq m (0:Int)++(au wi).map fun i=>sh b n (fun t=>c t i) m % p).map V.int++(aq (n - 1 - m) (0:Int)).map V.int)) hz6)));have sQ:=mo.length;rw [aL,zaH] at sQ;refine⟨by rw [ab]; lia,s5.trans u9,us++[z6],by rw [ap]; rfl,?_⟩;rw [take_snoc (zag (w:=wi+(n - 1)) (g:=zed p b n wi c) xu)];refine bZ (xr.same u9) ?_;rw [zc,← ap];congr 3;exact (zmI xu).symm
  ·rintro ys H4 D2 ⟨s4,us,rfl,mo⟩ rV;rw [aN (by rw [zaH]; lia)] at mo;have xS:=s1.trans s4;exact q D2 us _ (xS.free rV) (xS.trans (zb rV)) zc (mo.same (zb rV))
def RA1 (H:Hp) (n:Nat) (b:Addr) (st:List Int×Nat×(Nat→Nat→Int)):Prop:=∃ ka na ls,H b=some (.tup [.ref ka,.ref na])∧H ka=some (.tup (st.1.map V.int))∧H na=some (.lst (ls.map V.ref))∧LsA H ls (zw n st.2.1 st.2.2)
theorem RA1.same {H H':Hp} {n:Nat} {b:Addr} {st:List Int×Nat×(Nat→Nat→Int)} (s:zq H H') (h:RA1 H n b st):RA1 H' n b st:=by
 obtain⟨ka,na,ls,h1,h2,h3,h4⟩:=h;exact⟨ka,na,ls,s _ _ h1,s _ _ h2,s _ _ h3,h4.same s⟩
def RAs (H:Hp) (n:Nat):List Addr→List (List Int×Nat×(Nat→Nat→Int))→Prop:=Paired (RA1 H n)
theorem RAs.same {H H':Hp} {n:Nat} (s:zq H H') {bs:List Addr} {qk:List (List Int×Nat×(Nat→Nat→Int))} (h:RAs H n bs qk):RAs H' n bs qk:=dQ (fun _ _ z=>z.same s) h
def nxs (p:Int) (n e wi:Nat) (c:Nat→Nat→Int) (known:List Int) (L:List Int):List (List Int×Nat×(Nat→Nat→Int)):=L.map fun b=>(known++[b],(wi - e+(n - 1),zfn p b n e c))
theorem zmJ {p b:Int} {n wi e:Nat} {c:Nat→Nat→Int} (hd:∀ j i,wi≤i→c j i=0):zw n (wi - e+(n - 1)) (zed p b n (wi - e) fun j i=>c j (i+e))=zw n (wi - e+(n - 1)) (zfn p b n e c):=za1 fun j i hj hi=>by
 unfold zed zfn;by_cases h1:j≤i
 ·rw [if_pos (show j < n∧j≤i from ⟨hj,h1⟩)];by_cases h2:i < j+(wi - e)
  ·rw [if_pos ⟨h1,h2⟩]
  ·rw [if_neg #[O]];have e0:sh b n (fun t=>c t (i - j+e)) j=sh b n (fun _=>0) j:=zcZ fun t _=>hd t _ #[O]
   have e1:sh b n (fun _=>(0:Int)) j=0:=by
    have:=zce (b:=b) (c:=0) (n:=n) (u:=fun _=>0) (j:=j);simpa using this
   rw [e0,e1];rfl
 ·rw [if_neg #[O],if_neg #[O]]
def ziS (K:ah):Sp:=fun vs H Q _=>∃ (p:Int) (ka a:Addr) (known:List Int) (bs:List Addr) (n wi:Nat) (c:Nat→Nat→Int),vs = [.int p,.ref ka,.ref a]∧H ka=some (.tup (known.map V.int))∧H a=some (.lst (bs.map V.ref))∧LsA H bs (zw n wi c)∧known.length≤100∧1≤n∧n≤100∧wi≤900∧p∈zr∧(∃ j i,j < n∧i < wi∧c j i≠0)∧(∀ j i,wi≤i→c j i=0)∧(∀ j i,0≤c j i∧c j i < p) ∧
 ∀ (l:Addr) (us:List Addr) (e:Nat) (H':Hp),H l=none→zq H H'→H' l=some (.lst (us.map V.ref))→RAs H' n us (nxs p n e wi c known (nums p n e c p.toNat))→Lea n wi c e→Q (.ref l) H'
theorem zc7:FnScope ["p","known","lines","lowest"] ["p","known","lines"] (zg zbE):=#[S]
theorem ziT {fd:FuncData} (T:Txt K mg t) (F:Fun K "further" "further" zbE t.further fd):FnOk P w K mg base CX0 3 t.further fd ["p","known","lines"] (ziS K):=by
 obtain⟨sd,qc,oq⟩:=T.f_without_x;have tj:=zg8 (P:=P) (w:=w) (base:=base) T qc;obtain⟨p7,mV,mW⟩:=T.f_value_at;have oU:=zd2 (P:=P) (w:=w) (base:=base) T mV;obtain⟨rf,pA,nQ⟩:=T.f_next_curve;have se:=zfu (P:=P) (w:=w) (base:=base) T pA;refine F.ok zc7 (fun vs H Q E h=>?_) (fun mM A outer s H vs Q E hr h=>?_)
 ·obtain⟨p,ka,a,known,bs,n,wi,c,rfl,_⟩:=h;rfl
 ·obtain⟨p,ka,a,known,bs,n,wi,c,rfl,EL,ha,hb,hkl,n1,hn,hw,hp,yM,hdg,Bf,q⟩:=h;refine⟨_,#[ze,#[zn,2,zc7.nd,(cJ rfl),#[zm,tj,(hr.mono #[D]),T.m_without_x,qc.kp,oq,#[zI],#[za,#[pvx,2],#[zd]]]],#[ze,#[zn,3,zc7.nd,(cJ rfl),#[zD,(CompSc.of (N':=["line"]) (ix:=[none]) (zg zbE) ["p","known","lines","lowest"] rfl rfl #[N]),#[z9],#[zX,#[pvx,2]],(fun _ _ _ _=>#[zf,0,(show (["line"]:List Str).Nodup from #[N]),#[A]]),(fun _ _ _ _=>#[zo]),(fun _ _ _ _=>#[zY,#[za5,(K)],#[pvx,0],#[zh]])]],#[zk,#[zC,#[zD,(CompSc.of (N':=["number","known","p","lines","lowest"]) (ix:=[none,some 1,some 0,some 2,some 3]) (zg zbE) ["p","known","lines","lowest"] rfl rfl #[N]),#[z9],#[zZ,T.range_,#[za,#[pvx,0],#[zd]]],(fun _ _ _ _=>#[zf,0,(show (["number","known","p","lines","lowest"]:List Str).Nodup from #[N]),#[A]]),(fun _ _ _ _=>#[zbo,#[zT,#[zhh],#[zm,oU,(hr.mono #[D]),T.m_value_at,mV.kp,mW,#[zI],#[za,#[pvx,2],#[za,#[pvx,4],#[za,#[pvx,0],#[zd]]]]],#[zh],(zac _)]]),(fun _ _ _ _=>#[za4,#[za,#[zj,(@znk _),#[pvx,1],#[za4,#[za,#[pvx,0],#[zd]]]],#[za,#[zm,se,(hr.mono #[D]),T.m_next_curve,pA.kp,nQ,#[zI],#[za,#[pvx,2],#[za,#[pvx,3],#[za,#[pvx,0],#[zd]]]]],#[zd]]]])]]]]],?_⟩;have o9:=a7;have rp:=zy hp;refine (lS rfl (ex5 a bs n wi c ⟨rfl,ha,hb,hn,#[O],yM,fun l ls e H1 hl s1 h1 mO hL=>?_⟩));have uE:=mO.length;rw [zaH] at uE;have Ej:e < wi:=by obtain⟨_,_,h,_⟩:=hL.2; exact h
  refine (lS rfl ⟨l,rfl,⟨_,lT.of h1⟩,zK (n:=ls.length) (fun m ys H'=>H'=H1∧ys=((zbV n e c).take m).map V.int) ⟨rfl,rfl⟩ ?_ ?_ ?_ ?_⟩)
  ·rintro m ys H2 hm ⟨rfl,_⟩;exact⟨_,.ref ls[m],lT.of h1,by rw [af,ai hm]; rfl⟩
  ·rintro ys H2 ⟨rfl,_⟩;exact⟨_,lT.of h1,by rw [ab]; exact ag _⟩
  ·rintro m y ys H2 H3 hm ⟨rfl,rfl⟩ ⟨rfl,hy⟩;obtain⟨b,rfl,uO⟩:=zN (hy _ (lT.of h1));obtain⟨r,nC,pf⟩:=Paired.get mO uO;have xu:m < n:=by lia
   rw [zag xu] at nC;cases nC;have ql:(zbV n e c)[m]? = some (c m e):=by unfold zbV; rw [af,aY xu]; rfl
   have xn:atI (((au (wi - e)).map fun i=>c m (i+e)).map V.int) 0=some (.int (c m e)):=zax (j:=0) (by rw [af,af,aY #[O]]; show some (V.int (c m (0+e)))=_; rw [cw]);refine gY (lS rfl (ex4 b _ _ _ ⟨rfl,rfl,lT.of pf,xn,?_⟩));refine⟨by rw [ab,aL,zdw]; lia,rfl,?_⟩;rw [take_snoc ql,ap];rfl
  rintro ys H2 D ⟨rfl,rfl⟩ hD;rw [aN (by rw [zdw]; lia)];have u2:=zb (o:=.lst ((zbV n e c).map V.int)) hD;have f2:lW H2 D (.lst ((zbV n e c).map V.int)) D=some (.lst ((zbV n e c).map V.int)):=zc;have s2:=s1.trans u2;generalize lW H2 D (.lst ((zbV n e c).map V.int))=H3 at u2 f2 s2 ⊢;have h3l:=u2 _ _ h1;have EM:=mO.same u2;have h3k:=s2 _ _ EL;refine (lS rfl (lS rfl ⟨#[O],#[O],zK (n:=p.toNat) (fun m ys H'=>zq H3 H'∧∃ us:List Addr,ys=us.map V.ref∧RAs H' n us (nxs p n e wi c known (nums p n e c m))) ⟨fun _ _ e=>e,[],rfl,.nil⟩ (fun m ys H' hm _=>hm) (fun ys H' _=>ag _) ?_ ?_⟩))
  ·rintro m xx ys H4 H5 hm ⟨s4,us,rfl,mo⟩ ⟨rfl,rfl⟩;rw [show ((0:Int)+(m:Int))=(m:Int) from cZ _];refine (lS rfl (lS rfl (lS rfl (ex4 p (m:Int) D (zbV n e c) ⟨rfl,.inl (lT.of (s4 _ _ f2)),#[O],#[O],#[O],#[O],rfl,(lS rfl ?_)⟩))));have eq0:decide (V.int (zS p (m:Int) (zbV n e c))=V.int 0)=decide (zS p (m:Int) (zbV n e c)=0):=by simp
   rw [eq0];have sQ:=mo.length;have hnl:(nxs p n e wi c known (nums p n e c m)).length≤m:=by
    unfold nxs nums;rw [ab];refine aW (cT _ _) ?_;rw [ab,aD];exact ag _
   refine zbb (fun h0=>?_) (fun h0=>?_)
   ·have h0:=of_decide_eq_true h0;refine (lS rfl (lS rfl ⟨by show 1≤sizeLine; lia,fun x1 xO=>?_⟩));have w1:=zb (o:=.tup [.int (m:Int)]) xO;refine (ex4 ka x1 _ _ ⟨rfl,rfl,w1 _ _ (s4 _ _ h3k),zc,by rw [ab]; show _+1≤sizeLine; lia,#[M],fun x2 H6 w2 g2=>?_⟩);have w02:=w1.trans w2;have sH6:=s4.trans w02;refine (lS rfl (lS rfl (lS rfl ⟨p,(m:Int),l,ls,n,wi - e,fun j i=>c j (i+e),rfl,sH6 _ _ h3l,EM.same sH6,n1,hn,#[O],#[O],#[O],#[O],#[O],fun j i _ _=>Bf j (i+e),fun l7 ls7 H7 hl7 w3 g3 BI=>?_⟩)));rw [zmJ hdg] at BI;refine⟨by show 2≤sizeLine; lia,fun pr Cw=>?_⟩;have w4:=zb (o:=.tup [.ref x2,.ref l7]) Cw;have w04:=w02.trans (w3.trans w4);refine⟨by rw [ab]; lia,s4.trans w04,us++[pr],by rw [ap]; rfl,?_⟩;unfold nxs;rw [zf0,if_pos h0,ap];refine bZ (mo.same w04) ⟨x2,l7,ls7,zc,?_,w4 _ _ g3,BI.same w4⟩;rw [(w3.trans w4) _ _ g2,ap];rfl
   ·have h0:¬ zS p (m:Int) (zbV n e c)=0:=fun z=>h0 (decide_eq_true z)
    refine⟨s4,us,rfl,?_⟩;rw [zf0,if_neg h0,bX];exact mo
  ·rintro ys H4 D2 ⟨s4,us,rfl,mo⟩ rV;have xS:=s2.trans s4;exact q D2 us e _ (xS.free rV) (xS.trans (zb rV)) zc (mo.same (zb rV)) hL
def zh9 (K:ah):Sp:=fun vs H Q _=>∃ (p:Int) (k:Nat) (a:Addr) (bs:List Addr) (rows:List (List Int)),vs = [.int p,.int (k:Int),.ref a]∧p∈zr∧H a=some (.tup (bs.map V.ref))∧zbf H bs rows∧rows.length≤100∧(∀ r∈rows,r.length≤100)∧1≤k∧k≤5∧rows.length ^ k≤2000000∧(∃ j i,¬ Cg p (gl (rows.getD j []) i) 0) ∧
 ∀ (l:Addr) (us:List Addr) (qs:List (List Int)) (H':Hp),H l=none→zq H H'→H' l=some (.lst (us.map V.ref))→zbf H' us qs→qs.length≤2000000→zp0 p k qs→(∀ q,q∈qs↔IsP p k q∧Zr p (AL k (gl q) rows.length fun j i=>gl (rows.getD j []) i))→Q (.ref l) H'
theorem zqb (rows:List (List Int)) (j:Nat):(rows.getD j []).length≤wd rows:=by
 (rw [aK])
 cases h:rows[j]? with
 | none=>exact bz _
 | some r=>exact zfX (aI h)
theorem znY {rows:List (List Int)} {m:Nat} (h:∀ r∈rows,r.length≤m):wd rows≤m:=by
 by_cases e:rows = []
 ·subst e;exact bz _
 ·obtain⟨r,hr,e2⟩:=zdQ e;rw [← e2];exact h r hr
structure SI (p:Int) (n:Nat) (F0:Nat→Ps) (k s w:Nat) (qk:List (List Int×Nat×(Nat→Nat→Int))):Prop where
 rs:∀ st∈qk,RS p n F0 s st.1 st.2.1 st.2.2∧st.2.1≤w
 nd:(qk.map (·.1)).Nodup
 len:qk.length≤n ^ s
 all:∀ f,IsP p k f→Zr p (AL k (gl f) n F0)→f.take s∈qk.map (·.1)
theorem znZ {p:Int} {n k:Nat} {rows:List (List Int)} (p0:0 < p) (hn:n=rows.length) (yM:∃ j i,¬ Cg p (gl (rows.getD j []) i) 0):SI p n (fun j i=>gl (rows.getD j []) i % p) k 0 (wd rows) [([],(wd rows,fun j i=>gl (rows.getD j []) i % p))]:=by
 have pF:∀ j i,wd rows≤i→gl (rows.getD j []) i=0:=fun j i hi=>zc5 (aW (zqb rows j) hi)
 refine⟨fun st oC=>?_,#[M],#[M],fun f _ _=>by simp⟩;rw [bS.mp oC];refine⟨⟨⟨rfl,fun x hx=>by cases hx⟩,fun j i hi=>?_,fun j i=>⟨aU _ #[O],aO _ p0⟩,?_,fun m g=>?_⟩,ag _⟩
 ·show gl (rows.getD j []) i % p=0;rw [pF j i hi];rfl
 ·obtain⟨j,i,h⟩:=yM;refine⟨j,i,bH fun hj=>h ?_,bH fun hi=>h ?_,fun e=>h ?_⟩
  ·have:rows.getD j [] = []:=by rw [aK,cg #[O]]; rfl
   rw [this];exact Cg.refl _ _
  ·rw [pF j i (iV hi)];exact Cg.refl _ _
  ·exact (Cg.emod p _).symm.trans (Cg.of_eq e)
 ·have e:apl [] g=g:=by
   funext i;unfold apl;simp
  rw [e,cw]
theorem zpv {n s i m:Nat} (h:i≤n ^ s) (hm:m≤i*n):m≤n ^ (s+1):=by
 rw [Nat.pow_succ];exact aW hm (fL n h)
theorem zbv:FnScope ["p","k","curve","lines","starts","step"] ["p","k","curve"] (zg zbi):=#[S]
theorem zd4 {fd:FuncData} (T:Txt K mg t) (F:Fun K "roots_of" "roots_of" zbi t.roots_of fd):FnOk P w K mg base CX0 4 t.roots_of fd ["p","k","curve"] (zh9 K):=by
 obtain⟨rF,oh,oj⟩:=T.f_filled;have qA:=zf8 (P:=P) (w:=w) (base:=base) T oh;obtain⟨nh,mi,mw⟩:=T.f_terms_of;have mL:=zbN (P:=P) (w:=w) (base:=base) T mi;obtain⟨ud,rH,pL⟩:=T.f_further;have ve:=ziT (P:=P) (w:=w) (base:=base) T rH;refine F.ok zbv (fun vs H Q E h=>?_) (fun mM A outer s H vs Q E hr h=>?_)
 ·obtain⟨p,k,a,bs,rows,rfl,_⟩:=h;rfl
 ·obtain⟨p,k,a,bs,rows,rfl,hp,ha,hb,hn,hw,k1,k5,yN,yM,q⟩:=h;refine⟨_,#[ze,#[zn,3,zbv.nd,#[A],#[zm,qA,(hr.mono #[D]),T.m_filled,oh.kp,oj,#[zI],#[za,#[pvx,0],#[za,#[pvx,2],#[zd]]]]],#[ze,#[zby,#[zey,#[zhj,#[zm,mL,(hr.mono #[D]),T.m_terms_of,mi.kp,mw,#[zI],#[za,#[pvx,3],#[zd]]],(fun _=>rfl)]],#[zk,#[zC,#[zaC,#[zd]]]],#[zaq]],#[ze,#[zn,4,zbv.nd,#[A],#[zaC,#[za,#[za4,#[za,#[za4,#[zd]],#[za,#[pvx,3],#[zd]]]],#[zd]]]],#[ze,#[zaX,bL,#[zZ,T.range_,#[za,#[pvx,1],#[zd]]],#[zf,5,zbv.nd,#[A]],#[zk,(@ziz _ _ _ _ _ _ _ _ _ _ _ _ _ _ _ _ _ _ _ _ _ (4) _ _ _ zbv.nd rfl #[A] (CompSc.of (N':=["known","rest","longer","p"]) (ix:=[none,none,none,some 0]) (zg zbi) ["p","k","curve","lines","starts","step"] rfl rfl #[N]) rfl (zgl (js:=[0,1]) (zbF (js:=[0,1]) (i:=0) #[D] (zbF (js:=[0,1]) (i:=1) #[D] (zeg (js:=[0,1]))))) (zef (js:=[2]) (i:=2) #[D]) #[D] #[D] #[zX,#[pvx,4]] (fun _ _ _ _=>#[zaa,(K),2,#[zi,#[zf,0,(show (["known","rest","longer","p"]:List Str).Nodup from #[N]),#[A]],#[zi,#[zf,1,(show (["known","rest","longer","p"]:List Str).Nodup from #[N]),#[A]],#[zz]]]]) (fun _ _ _ _=>#[zo]) (fun _ _ _ _=>#[zhP,(K),#[zm,ve,(hr.mono #[D]),T.m_further,rH.kp,pL,#[zI],#[za,#[pvx,3],#[za,#[pvx,0],#[za,#[pvx,1],#[zd]]]]]]) (fun _ _ _ _=>#[zf,2,(show (["known","rest","longer","p"]:List Str).Nodup from #[N]),#[A]]) (fun _ _ _ _=>#[zo]) (fun _ _ _ _=>#[pvx,2]) (by rfl) (by intro _; rfl) (by intros; rfl) (by trivial))]],#[zk,#[zC,#[zE,(@zgB _),T.sorted_,boot_sorted,#[za,#[zD,(CompSc.of (N':=["known","rest"]) (ix:=[none,none]) (zg zbi) ["p","k","curve","lines","starts","step"] rfl rfl #[N]),#[zaD,#[zp,#[zp,#[zal]]]],#[zX,#[pvx,4]],(fun _ _ _ _=>#[zaa,(K),2,#[zi,#[zf,0,(show (["known","rest"]:List Str).Nodup from #[N]),#[A]],#[zi,#[zf,1,(show (["known","rest"]:List Str).Nodup from #[N]),#[A]],#[zz]]]]),(fun _ _ _ _=>#[zbo,#[zey,#[zkW,#[zE,(zkF (K:=K) rfl rfl),T.any_,boot_any,#[za,#[zY,#[za5,(K)],#[pvx,1],#[zh]],#[zd]]]]]]),(fun _ _ _ _=>#[pvx,0])],#[zd]]]]]]]]],?_⟩;have o9:=a7;have rp:=zy hp;have p0:0 < p:=by lia
  have hwd:wd rows≤100:=znY hw;refine (lS rfl (lS rfl (ex4 p a bs rows ⟨rfl,#[O],#[O],ha,hb,hn,hw,fun l ls H1 hl s1 h1 mO=>?_⟩)));obtain⟨n,en⟩:∃ n,rows.length=n:=⟨_,rfl⟩;have hI0:=znZ (k:=k) p0 en.symm yM;rw [en] at hn mO yN;have BJ:=(hI0.rs _ aV).1;have vU:1≤n:=by obtain⟨j,_,hj,_⟩:=BJ.nz; lia
  refine (lS rfl (.inr (ex3 l ls _ ⟨rfl,h1,mO,by rw [zaH]; exact hn,fun r nC=>by rw [ze1 nC]; lia,fun l2 ts H2 qe s2 h2 tR=>?_⟩)));rw [zaH] at tR;have p6:=tR.length;have hte:ts≠[]:=fun e0=>by
   obtain⟨j0,i0,qU,yo,mB⟩:=BJ.nz;have:=zcP.mpr ⟨i0,j0,rfl,qU,yo,mB⟩;rw [e0] at p6;rw [gv.mp p6.symm] at this;cases this
  refine⟨true,.inl ⟨_,lT.of h2,?_⟩,zfh ?_⟩
  ·cases ts with
   | nil=>exact absurd rfl hte
   | cons x xs=>rfl
  have vH:=s2 _ _ h1;have EN:=mO.same s2;refine⟨by show 0≤sizeLine; lia,fun ka EL=>?_⟩;have u3:=zb (o:=.tup []) EL;have f3:lW H2 ka (.tup []) ka=some (.tup (([]:List Int).map V.int)):=zc;generalize lW H2 ka (.tup [])=H3 at u3 f3 ⊢;refine (lS rfl ⟨by show 2≤sizeLine; lia,fun b uO=>?_⟩);have u4:=zb (o:=.tup [.ref ka,.ref l]) uO;have f4:lW H3 b (.tup [.ref ka,.ref l]) b=some (.tup [.ref ka,.ref l]):=zc;generalize lW H3 b (.tup [.ref ka,.ref l])=H4 at u4 f4 ⊢;refine⟨by show 1≤sizeLine; lia,fun sa sN=>?_⟩;have u5:=zb (o:=.lst [.ref b]) sN;have f5:lW H4 sa (.lst [.ref b]) sa=some (.lst ([b].map V.ref)):=zc;generalize lW H4 sa (.lst [.ref b])=H5 at u5 f5 ⊢;have Ad:=u3.trans (u4.trans u5);have s05:=s1.trans (s2.trans Ad);have hR0:RAs H5 n [b] [([],(wd rows,fun j i=>gl (rows.getD j []) i % p))]:=.cons ⟨ka,l,ls,u5 _ _ f4,(u4.trans u5) _ _ f3,Ad _ _ vH,EN.same Ad⟩ .nil;refine⟨_,rfl,_,rfl,#[O],#[O],zaZ (lo:=0) (n:=((k:Nat):Int).toNat) (fun s σ H'=>∃ (sa:Addr) (bs:List Addr) (qk:List (List Int×Nat×(Nat→Nat→Int))) (e5:Option V),σ = [some (.int p),some (.int (k:Int)),some (.ref a),some (.ref l),some (.ref sa),e5]∧zq H H'∧H' sa=some (.lst (bs.map V.ref))∧RAs H' n bs qk∧SI p n (fun j i=>gl (rows.getD j []) i % p) k s (wd rows+s*n) qk)
   ⟨sa,[b],_,none,rfl,s05,f5,hR0,by rw [Nat.zero_mul,dS]; exact hI0⟩ ?_ ?_⟩
  ·rintro s σ H6 hs ⟨sa,bs,qk,e5,rfl,s6,xv,BK,vI⟩;have hsk:s < k:=by lia
   have sS:=BK.length;have mK:n ^ (s+1)≤2000000:=aW (Nat.pow_le_pow_right vU #[O]) yN;have hwb:wd rows+s*n≤600:=by
    have:s*n≤4*100:=gp #[O] hn;lia
   refine⟨_,rfl,sa,rfl,⟨_,lT.of xv⟩,zdY (n:=bs.length) (fun i ys H'=>∃ (us:List Addr) (out:List (List Int×Nat×(Nat→Nat→Int))),ys=us.map V.ref∧zq H6 H'∧RAs H' n us out∧(∀ st∈out,RS p n (fun j i=>gl (rows.getD j []) i % p) (s+1) st.1 st.2.1 st.2.2∧st.2.1≤wd rows+(s+1)*n)∧(out.map (·.1)).Nodup∧(∀ o∈out,o.1.dropLast∈(qk.take i).map (·.1))∧out.length≤i*n∧∀ f,IsP p k f→Zr p (AL k (gl f) n fun j i=>gl (rows.getD j []) i % p)→f.take s∈(qk.take i).map (·.1)→f.take (s+1)∈out.map (·.1))
    ⟨[],[],rfl,fun _ _ e=>e,.nil,fun st h=>(by cases h),lB,fun o h=>(by cases h),bz _,fun f _ _ h=>(by simp at h)⟩ ?_ ?_ ?_ ?_⟩
   ·rintro i ys H7 hi ⟨us,out,rfl,s7,_⟩;exact⟨_,.ref bs[i],lT.of (s7 _ _ xv),by rw [af,ai hi]; rfl⟩
   ·rintro ys H7 ⟨us,out,rfl,s7,_⟩;exact⟨_,lT.of (s7 _ _ xv),by rw [ab]; exact ag _⟩
   ·rintro i y ys H7 H8 hi ⟨us,out,rfl,s7,mo,EO,pb,Ac,hol,CM⟩ ⟨rfl,hy⟩;obtain⟨sb,rfl,nM⟩:=zN (hy _ (lT.of (s7 _ _ xv)));obtain⟨⟨known,wi,c⟩,oC,ka,na,xo,z1,z2,z3,z4⟩:=Paired.get (BK.same s7) nM;obtain⟨R,hwi⟩:=vI.rs _ (aI oC);dsimp only at R hwi z2 z4;have hkl:known.length=s:=R.kn.1;refine gY2 (me.of z1) ?_;refine (lS rfl (lS rfl (lS rfl (ex8 p ka na known xo n wi c ⟨rfl,z2,z3,z4,#[O],vU,hn,#[O],hp,R.nz,R.dg,R.rg,fun fl vs e H9 CA s9 h9 ua hL=>?_⟩))));have hnl:=zml hp (m:=p.toNat) #[O] R.rg hL;have vy:=ua.length;have AW:(nxs p n e wi c known (nums p n e c p.toNat)).length=(nums p n e c p.toNat).length:=by unfold nxs; rw [ab]
    have sQ:=mo.length;have hiN:(i+1)*n≤2000000:=by
     have h1:(i+1)*n≤n ^ (s+1):=by rw [Nat.pow_succ]; exact fL n (by have:=vI.len; lia)
     exact aW h1 mK
    rw [gZ] at hiN;refine⟨fl,rfl,⟨_,lT.of h9⟩,zdY (n:=vs.length) (fun r ys H'=>H'=H9∧ys=(us++vs.take r).map V.ref) ⟨rfl,by rw [gn,bX]⟩ ?_ ?_ ?_ ?_⟩
    ·rintro r ys Ha nC ⟨rfl,_⟩;exact⟨_,.ref vs[r],lT.of h9,by rw [af,ai nC]; rfl⟩
    ·rintro ys Ha ⟨rfl,_⟩;exact⟨_,lT.of h9,by rw [ab]; exact ag _⟩
    ·rintro r y2 ys Ha Hb nC ⟨rfl,rfl⟩ ⟨rfl,Cq⟩;obtain⟨v,rfl,hv⟩:=zN (Cq _ (lT.of h9));refine gY (lS rfl ⟨by rw [ab,aA,aL]; lia,rfl,?_⟩);rw [take_snoc hv,← bf,ap (l₁:=us++vs.take r)];rfl
    rintro ys Ha ⟨rfl,rfl⟩;rw [cY];have Ck:known∉(qk.take i).map (·.1):=fun hm=>by
     obtain⟨s',nW,e0⟩:=av.mp hm;obtain⟨i',nK⟩:=eC nW;rw [kz] at nK;split at nK
     ·next mj =>
      have h1:(qk.map (·.1))[i']? = some s'.1:=by rw [af,nK]; rfl
      have h2:(qk.map (·.1))[i]? = some known:=by rw [af,oC]; rfl
      have:=(List.getElem?_inj (j:=i) (aw.mp h1).1 vI.nd).mp (by rw [h1,h2,e0]);lia
     ·cases nK
    have xT:=ziK (fun b=>(wi - e+(n - 1),zfn p b n e c)) pb Ac Ck (ze2 p n e c p.toNat);refine⟨us++vs,out++nxs p n e wi c known (nums p n e c p.toNat),rfl,s7.trans s9,zcY (mo.same s9) ua,fun st nW=>?_,xT.1,?_,?_,fun f hf hz ht=>?_⟩
    ·rcases bi.mp nW with h | h
     ·exact EO st h
     ·obtain⟨b,ER,rfl⟩:=av.mp h;have ES:=(zdx.mp ER).1;refine⟨znJ hp R hL ⟨ES.1,#[O]⟩,?_⟩;show wi - e+(n - 1)≤wd rows+(s+1)*n;rw [gZ];lia
    ·rw [take_snoc oC,ap];exact xT.2
    ·rw [aA,AW,gZ];lia
    ·rw [take_snoc oC,ap,bi] at ht;rw [ap,bi];rcases ht with ht | ht
     ·exact .inl (CM f hf hz ht)
     ·right;have vw:known=f.take s:=(bS.mp ht).symm;obtain⟨m,em⟩:∃ m,k=s+(m+1):=⟨k - s - 1,#[O]⟩;have tM:=znK (m:=m+1) R (by rw [hf.1,em]) vw (by rw [← em]; exact hz);have yA:=zpf hL tM;have hfs:s < f.length:=by rw [hf.1]; exact hsk
      have hfg:=zbe hfs;obtain⟨b0,b1⟩:=hf.2 _ (aI hfg);refine av.mpr ⟨_,av.mpr ⟨gl f s,zdx.mpr ⟨⟨b0,#[O]⟩,?_⟩,rfl⟩,?_⟩
      ·exact Cg.eq (zmk.trans yA) (zcC p0 _) (zcD p0 _) (bP 0) p0
      ·show known++[gl f s]=f.take (s+1);rw [take_snoc hfg,vw]
   ·rintro ys H7 ⟨us,out,rfl,s7,mo,EO,pb,Ac,hol,CM⟩ D hD;rw [sS,cY] at CM;refine (ex4 D us out _ ⟨rfl,(s6.trans s7).trans (zb hD),zc,mo.same (zb hD),EO,pb,zpv vI.len (by rw [← sS]; exact hol),fun f hf hz=>CM f hf hz (vI.all f hf hz)⟩)
  ·rintro σ H6 ⟨sa,bs,qk,e5,rfl,s6,xv,BK,vI⟩;have ek:((k:Nat):Int).toNat=k:=by lia
   rw [ek] at vI;have sS:=BK.length;have ET:=aW vI.len yN;obtain⟨n',rfl⟩:∃ n',n=n'+1:=⟨n - 1,#[O]⟩;have hzero:∀ st∈qk,(Zr p (AL k (gl st.1) (n'+1) fun j i=>gl (rows.getD j []) i % p)↔((au st.2.1).map fun i=>st.2.2 0 i).any (· != 0)=false):=fun st oC=>by
    rw [zpg hp (vI.rs st oC).1,List.any_map];constructor
    ·intro h;rw [kJ];intro i hi;simpa using h i (aJ.mp hi)
    ·intro h i hi;have:=kJ.mp h i (aJ.mpr hi);simpa using this
   refine (lS rfl ⟨sa,rfl,⟨_,lT.of xv⟩,zK (n:=bs.length) (fun m ys H'=>H'=H6∧∃ ps:List (Addr×List Int),ys=ps.map (fun q=>V.ref q.1)∧(∀ q∈ps,H6 q.1=some (.tup (q.2.map V.int)))∧ps.map (·.2)=((qk.take m).filter fun st=>!((au st.2.1).map fun i=>st.2.2 0 i).any (· != 0)).map (·.1)) ⟨rfl,[],rfl,fun q h=>(by cases h),rfl⟩ ?_ ?_ ?_ ?_⟩)
   ·rintro m ys H7 hm ⟨rfl,_⟩;exact⟨_,.ref bs[m],lT.of xv,by rw [af,ai hm]; rfl⟩
   ·rintro ys H7 ⟨rfl,_⟩;exact⟨_,lT.of xv,by rw [ab]; exact ag _⟩
   ·rintro m y ys H7 H8 hm ⟨rfl,ps,rfl,mK,xU⟩ ⟨rfl,hy⟩;obtain⟨sb,rfl,nM⟩:=zN (hy _ (lT.of xv));obtain⟨⟨known,wi,c⟩,oC,ka,na,xo,z1,z2,z3,z4⟩:=Paired.get BK nM;dsimp only at z2 z4;have uE:=z4.length;rw [zaH] at uE;have hlb:xo[0]? = some (xo[0]'#[O]):=ai _;obtain⟨r,nC,EU⟩:=Paired.get z4 hlb;rw [zag #[O]] at nC;cases nC;refine⟨sb,_,rfl,me.of z1,rfl,_,_,rfl,_,_,rfl,rfl,?_⟩;refine (lS rfl (ex4 na _ _ _ ⟨rfl,rfl,lT.of z3,zax (j:=0) (by rw [af,hlb]; rfl),_,_,rfl,lT.of EU,(lS rfl ?_)⟩));have oR:ps.length≤m:=by
     have:=congrArg List.length xU;rw [ab,ab] at this;rw [this];exact aW (cT _ _) (by rw [aL]; lia)
    have wD:(qk.take (m+1)).filter (fun st=>!((au st.2.1).map fun i=>st.2.2 0 i).any (· != 0))=(qk.take m).filter (fun st=>!((au st.2.1).map fun i=>st.2.2 0 i).any (· != 0))++[(known,wi,c)].filter (fun st=>!((au st.2.1).map fun i=>st.2.2 0 i).any (· != 0)):=by rw [take_snoc oC,cX]
    refine zbb (fun h=>(lS rfl ⟨by rw [ab]; lia,rfl,ps++[(ka,known)],by rw [ap]; rfl,fun q hq=>?_,?_⟩)) (fun h=>⟨rfl,ps,rfl,mK,?_⟩)
    ·rcases (bi.mp hq) with hq | hq
     ·exact mK q hq
     ·(rw [bS.mp hq])
      exact z2
    ·rw [wD,cm (p:=fun st:List Int×Nat×(Nat→Nat→Int)=>!((au st.2.1).map fun i=>st.2.2 0 i).any (· != 0)) h,ap,ap,xU];rfl
    ·rw [wD,cn (p:=fun st:List Int×Nat×(Nat→Nat→Int)=>!((au st.2.1).map fun i=>st.2.2 0 i).any (· != 0)) h,fW,bX];exact xU
   rintro ys H7 D ⟨rfl,ps,rfl,mK,xU⟩ hD;rw [sS,cY] at xU;have u7:=zb (o:=.lst (ps.map fun q=>V.ref q.1)) hD;have rS:∀ x,x∈ps.map (·.2)↔IsP p k x∧Zr p (AL k (gl x) (n'+1) fun j i=>gl (rows.getD j []) i % p):=fun x=>by
    rw [xU];constructor
    ·intro h;obtain⟨st,oC,rfl⟩:=av.mp h;obtain⟨h1,h2⟩:=bv.mp oC;exact⟨(vI.rs st h1).1.kn,(hzero st h1).mpr (by simpa using h2)⟩
    ·rintro⟨h1,h2⟩;have h3:=vI.all x h1 h2;rw [aN (by rw [h1.1]; exact ag _)] at h3;obtain⟨st,oC,rfl⟩:=av.mp h3;exact av.mpr ⟨st,bv.mpr ⟨oC,by rw [(hzero st oC).mp h2]; rfl⟩,rfl⟩
   have hNd:(ps.map (·.2)).Nodup:=by
    rw [xU];exact (io.map _).nodup vI.nd
   refine (ex4 D k p ps ⟨rfl,lT.of zc,fun q hq=>?_,k1,#[O],fun l9 tQ hl9 uD hpw=>?_⟩)
   ·have hm:=(rS q.2).mp (av.mpr ⟨q,hq,rfl⟩);exact⟨u7 _ _ (mK q hq),hm.1.1,hm.1.2⟩
   have u9:=zb (o:=.lst (tQ.map fun q=>V.ref q.1)) hl9;have s07:=s6.trans u7;have si:=uD.map (·.2);refine q l9 (tQ.map (·.1)) (tQ.map (·.2)) _ (s07.free hl9) (s07.trans u9) (by rw [zc,cL]; rfl) (zbf.of fun q hq=>u9 _ _ (u7 _ _ (mK q (uD.mem_iff.mp hq)))) (by
    rw [si.length_eq,xU,ab];exact aW (cT _ _) ET) (zng #[O] (fun x hx=>((rS x).mp (si.mem_iff.mp hx)).1) (si.nodup_iff.mpr hNd) (b7.mpr hpw)) fun x=>?_
   rw [si.mem_iff,rS x,en];have hc:∀ i,Cg p (AL k (gl x) (n'+1) (fun j i=>gl (rows.getD j []) i % p) i) (AL k (gl x) (n'+1) (fun j i=>gl (rows.getD j []) i) i):=fun i=>zoo (fun j i _=>Cg.emod p _) i
   rw [zop hc]
end
section
variable {P:Program} {w:World} {K:ah} {mg:Str→Option Value} {base:Heap} {t:Adr}
def ziU (K:ah):Sp:=fun vs H Q _=>∃ (c tt r z r':Addr) (p:Int) (T d m size:Nat) (pl:List Int) (rw:List (Option Int)) (ls:List Addr) (g:Tm→Int),vs = [.ref c,.ref r,.int (T:Int),.ref z]∧zbS H c tt p ((d+1:Nat):Int) pl∧H r=some (.lst (rw.map pY))∧rw.length=pl.length∧pl.length≤16∧p∈zr∧pl.Nodup∧(∀ x∈pl,0≤x∧x < p)∧(∀ z,some z∈rw→0≤z∧z < p)∧1≤d∧d≤4∧T≤1000∧H z=some (.tup [.int (m:Int),.ref r'])∧H r'=some (.tup (ls.map V.ref))∧zbf H ls (zah (d+1) size g)∧1≤m∧m≤4∧Lst p (d+1) (wpt m (mK pl rw)) size g∧size≤60∧(size:Int) < (m:Int)*(T:Int) ∧
 ∀ (l:Addr) (vs:List Addr) (qs:List (List Int)) (H':Hp),zq H H'→H' l=some (.lst (vs.map V.ref))→zbf H' vs qs→(∀ x,x∈qs↔(IsP p (d+1) x∧Zr p (AL (d+1) (gl x) (size / d+1) fun j i=>gl ((zah (d+1) size g).getD j []) i))∧(T:Int)≤(hits p x (mK pl rw):Int))→Q (.ref l) H'
theorem zbl:FnScope ["code","row","t","paper","p","k","places","m","curve"] ["code","row","t","paper"] (zg zb4):=#[S]
theorem ziV {fd:FuncData} (T:Txt K mg t) (F:Fun K "near_by" "near_by" zb4 t.near_by fd):FnOk P w K mg base CX0 9 t.near_by fd ["code","row","t","paper"] (ziU K):=by
 obtain⟨qC,oP,nu⟩:=T.f_paper_holds;have rh:=zff (P:=P) (w:=w) (base:=base) T oP;obtain⟨xw,v7,ue⟩:=T.f_fits;have yO:=znN (P:=P) (w:=w) (base:=base) T v7;obtain⟨qd,m6,m7⟩:=T.f_roots_of;have oW:=zd4 (P:=P) (w:=w) (base:=base) T m6;refine F.ok zbl (fun vs H Q E h=>?_) (fun mM A outer s H vs Q E hr h=>?_)
 ·obtain⟨c,tt,r,z,r',p,T',d,m,size,pl,rw,ls,g,rfl,_⟩:=h;rfl
 ·obtain⟨c,tt,r,z,r',p,T',d,m,size,pl,rw,ls,g,rfl,hc,qV,rT,hn,hp,pb,oR,uZ,d1,d4,t1,hz,nC,hT,m1,m4,L,hs,mj,q⟩:=h;refine⟨_,#[ze,#[zby,#[zey,#[zkW,#[zm,rh,(hr.mono #[D]),T.m_paper_holds,oP.kp,nu,#[zI],#[za,#[pvx,0],by exact #[za,#[pvx,1],#[za,#[pvx,2],#[za,#[pvx,3],#[zd]]]]]]]],#[zdH],#[zaq]],#[ze,#[zaP,#[pvx,0],#[zaW,#[zi,#[zf,4,zbl.nd,#[A]],#[zi,#[zf,5,zbl.nd,#[A]],#[zi,#[zf,6,zbl.nd,#[A]],#[zz]]]]]],#[ze,#[zaP,#[pvx,3],#[zaW,#[zi,#[zf,7,zbl.nd,#[A]],#[zi,#[zf,8,zbl.nd,#[A]],#[zz]]]]],#[zk,#[zC,#[zD,(CompSc.of (N':=["root","code","row","t"]) (ix:=[none,some 0,some 1,some 2]) (zg zb4) ["code","row","t","paper","p","k","places","m","curve"] rfl rfl #[N]),#[z9],#[zX,#[zm,oW,(hr.mono #[D]),T.m_roots_of,m6.kp,m7,#[zI],#[za,#[pvx,4],#[za,#[pvx,5],#[za,#[pvx,8],#[zd]]]]]],(fun _ _ _ _=>#[zf,0,(show (["root","code","row","t"]:List Str).Nodup from #[N]),#[A]]),(fun _ _ _ _=>#[zbo,#[zT,#[zi1],#[zE,#[zbm,(K)],T.len_,da,#[za,#[zm,yO,(hr.mono #[D]),T.m_fits,v7.kp,ue,#[zI],#[za,#[pvx,1],#[za,#[pvx,2],#[za,#[pvx,0],#[zd]]]]],#[zd]]],#[pvx,3],(zac _)]]),(fun _ _ _ _=>#[pvx,0])]]]]]],?_⟩;have o9:=a7;have rp:=zy hp;have qD:(zah (d+1) size g).length=size / d+1:=zbr (d+1) size g;have hdiv:size / d≤size:=fh _ _;refine (lS rfl (lS rfl (lS rfl (lS rfl (zqs c tt r z r' p (T':Int) (d+1) m size pl rw ls g ⟨rfl,hc,qV,rT,hn,hp,pb,oR,uZ,#[O],#[O],#[O],#[O],hz,nC,hT,m1,m4,L,#[O],mj,fun H1 s1=>(lS rfl (zfh ?_))⟩)))));have hc1:=hc.same s1;refine⟨_,rfl,c,_,rfl,me.of hc1.1,rfl,_,_,rfl,_,_,rfl,_,_,rfl,rfl,?_⟩;refine⟨_,rfl,z,_,rfl,me.of (s1 _ _ hz),rfl,_,_,rfl,_,_,rfl,rfl,?_⟩;refine (lS rfl (lS rfl (lS rfl (ex5 p (d+1) r' ls (zah (d+1) size g) ⟨rfl,hp,s1 _ _ nC,hT.same s1,by rw [qD]; lia,fun r nC=>by have:=zhV nC; lia,#[O],#[O],by rw [qD]; exact zf1 (k:=d+1) #[O] #[O] hs,zjD hp #[O] L,fun ro us qs H2 hro s2 CN hTr EV hR hm=>?_⟩))));rw [qD] at hm;have uG:=s1.trans s2;have wM:=hc.same uG;have tX:=uG _ _ qV;have sQ:=hTr.length;refine⟨ro,rfl,⟨_,lT.of CN⟩,zK (n:=us.length) (fun i ys H'=>zq H2 H'∧∃ vs:List Addr,ys=vs.map V.ref∧vs.length≤i∧zbf H' vs ((qs.take i).filter fun x=>decide ((T':Int)≤(hits p x (mK pl rw):Int)))) ⟨fun _ _ e=>e,[],rfl,ag _,.nil⟩ ?_ ?_ ?_ ?_⟩
  ·rintro i ys Hf hi ⟨sf,_⟩;exact⟨_,.ref us[i],lT.of (sf _ _ CN),by rw [af,ai hi]; rfl⟩
  ·rintro ys Hf ⟨sf,_⟩;exact⟨_,lT.of (sf _ _ CN),by rw [ab]; exact ag _⟩
  ·rintro i y ys Hf Hg hi ⟨sf,vs,rfl,vy,ua⟩ ⟨rfl,hy⟩;obtain⟨rb,rfl,vZ⟩:=zN (hy _ (lT.of (sf _ _ CN)));obtain⟨qq,hqq,pf⟩:=Paired.get hTr vZ;refine (lS rfl (lS rfl (lS rfl (ex9 c tt r rb p ((d+1:Nat):Int) pl qq rw ⟨rfl,wM.same sf,sf _ _ tX,rT,sf _ _ pf,#[O],#[O],oR,#[O],fun fl Hh CA sh h6=>?_⟩))));refine⟨fl,(lS rfl ⟨.inl (lT.of h6),(lS rfl (lX rfl rfl (lS rfl ?_)))⟩)⟩;have ef:((zeK p pl rw qq pl.length).map V.int).length=hits p qq (mK pl rw):=by rw [ab]; exact znf rT
   rw [ef];have wD:(qs.take (i+1)).filter (fun x=>decide ((T':Int)≤(hits p x (mK pl rw):Int)))=(qs.take i).filter (fun x=>decide ((T':Int)≤(hits p x (mK pl rw):Int)))++[qq].filter (fun x=>decide ((T':Int)≤(hits p x (mK pl rw):Int))):=by rw [take_snoc hqq,cX]
   refine zbb (fun h=>(lS rfl ⟨?_,sf.trans sh,vs++[rb],by rw [ap]; rfl,by rw [aA]; exact fG vy,?_⟩)) (fun h=>⟨sf.trans sh,vs,rfl,#[O],?_⟩)
   ·rw [ab]; lia
   ·rw [wD,cm (p:=fun x=>decide ((T':Int)≤(hits p x (mK pl rw):Int))) h];exact bZ (ua.same sh) ((sf.trans sh) _ _ pf)
   ·rw [wD,cn (p:=fun x=>decide ((T':Int)≤(hits p x (mK pl rw):Int))) h,fW,bX];exact ua.same sh
  ·rintro ys Hf D ⟨sf,vs,rfl,vy,ua⟩ hD;rw [sQ,cY] at ua;refine q D vs _ _ (uG.trans (sf.trans (zb hD))) zc (ua.same (zb hD)) fun x=>?_
   rw [bv,hm x];exact and_congr Iff.rfl decide_eq_true_iff
end
section
variable {P:Program} {w:World} {K:ah} {mg:Str→Option Value} {base:Heap} {t:Adr}
theorem zjQ:∀ {pl:List Int} {rw:List (Option Int)},rw.length=pl.length→(mK pl rw).length=(rw.filter lK).length
 | [],[],_=>rfl
 | [],_ :: _,h=>by simp at h
 | _ :: _,[],h=>by simp at h
 | x :: pl,o :: rw,h=>by
  have ih:=zjQ (pl:=pl) (rw:=rw) (by simpa using h);cases o with
  | none=>exact ih
  | some y =>
   show (mK pl rw).length+1=(rw.filter lK).length+1;rw [ih]
theorem zn0 (xs:List V) (j:Nat):zcU xs none (some (j:Int))=xs.take j:=by
 unfold zcU;rw [HT.sIx_nat,HT.sIx_none,eK,fz];by_cases h:j≤xs.length
 ·rw [dE h]
 ·rw [show min j xs.length=xs.length by lia,aN (ag _),aN (show xs.length≤j by lia)]
def bdn (p:Int) (q:List Int) (pl:List Int) (rw:List (Option Int)):Nat:=(zdy p q (mK pl rw)).length
theorem zmK {p:Int} {q:List Int} {x:Int} {pl:List Int} {rw:List (Option Int)}:bdn p q (x :: pl) (none :: rw)=bdn p q pl rw:=rfl
theorem zbw {p:Int} {q:List Int} {x y:Int} {pl:List Int} {rw:List (Option Int)}:bdn p q (x :: pl) (some y :: rw)=(if zS p x q=y then 0 else 1)+bdn p q pl rw:=by
 show (zdy p q ((x,y) :: mK pl rw)).length=_;unfold zdy bdn zdy;by_cases h:zS p x q=y
 ·rw [cn (by simp [hit,h]),if_pos h,cw]
 ·rw [cm (by simp [hit,h]),if_neg h,bO,bm,ki]
theorem zf9 {p:Int} {q:List Int}:∀ pl:List Int,bdn p q pl (pl.map fun x=>some (zS p x q))=0
 | []=>rfl
 | x :: pl=>by
  rw [bO,zbw,if_pos rfl,zf9 pl]
theorem zjR {p:Int} {q:List Int}:∀ {pl:List Int} {rw:List (Option Int)} (i:Nat),bdn p q pl (rw.set i none)≤bdn p q pl rw
 | [],_,_=>by
  show (zdy p q (mK [] _)).length≤_;simp [mK,zdy]
 | _ :: _,[],_=>by simp
 | x :: pl,o :: rw,0=>by
  rw [kC,zmK];cases o with
  | none=>exact ag _
  | some y=>rw [zbw]; lia
 | x :: pl,o :: rw,i+1=>by
  have ih:=zjR (p:=p) (q:=q) (pl:=pl) (rw:=rw) i;rw [kD];cases o with
  | none=>exact ih
  | some y=>rw [zbw,zbw]; lia
theorem zia {p:Int} {q:List Int} {y':Int}:∀ {pl:List Int} {rw:List (Option Int)} (i:Nat),rw.length=pl.length→i < pl.length→rw[i]? = some (some (zS p (gl pl i) q))→y'≠zS p (gl pl i) q→bdn p q pl (rw.set i (some y'))=bdn p q pl rw+1
 | [],_,_,_,h,_,_=>by simp at h
 | _ :: _,[],_,h,_,_,_=>by simp at h
 | x :: pl,o :: rw,0,_,_,h,hn=>by
  obtain rfl:o=some (zS p x q):=aS h;rw [kC,zbw,zbw,if_pos rfl,if_neg (fun e=>hn e.symm)];lia
 | x :: pl,o :: rw,i+1,hl,hi,h,hn=>by
  have ih:=zia (p:=p) (q:=q) (y':=y') (pl:=pl) (rw:=rw) i (by simpa using hl) (by simpa using hi) h hn;rw [kD];cases o with
  | none=>exact ih
  | some y=>rw [zbw,zbw,ih]; lia
structure SlR (p:Int) (q pl:List Int) (rw:List (Option Int)) (s:Nat):Prop where
 len:rw.length=pl.length
 rg:∀ z,some z∈rw→0≤z∧z < p
 bd:bdn p q pl rw=s
theorem SlR.start {p:Int} (p0:0 < p) (q pl:List Int):SlR p q pl (pl.map fun x=>some (zS p x q)) 0:=by
 refine⟨by rw [ab],fun z hz=>?_,zf9 pl⟩;obtain⟨x,_,e⟩:=av.mp hz;cases e;exact⟨zcC p0 _,zcD p0 _⟩
theorem SlR.cut {p:Int} {q pl:List Int} {rw:List (Option Int)} (h:SlR p q pl rw 0) (i:Nat):SlR p q pl (rw.set i none) 0:=by
 refine⟨by rw [fS]; exact h.len,fun z hz=>?_,Nat.le_zero.mp (aW (zjR i) (kj h.bd))⟩;rcases fU hz with h1 | h1
 ·exact h.rg z h1
 ·cases h1
theorem SlR.slip {p:Int} (p0:0 < p) {q pl:List Int} {rw:List (Option Int)} {s i:Nat} (h:SlR p q pl rw s) (hi:i < pl.length) (hv:rw[i]? = some (some (zS p (gl pl i) q))) {d:Int} (d0:1≤d) (d1:d < p):SlR p q pl (rw.set i (some ((zS p (gl pl i) q+d) % p))) (s+1):=by
 have v0:=zcC (x:=gl pl i) p0 q;have v1:=zcD (x:=gl pl i) p0 q;refine⟨by rw [fS]; exact h.len,fun z hz=>?_,?_⟩
 ·rcases fU hz with h1 | h1
  ·exact h.rg z h1
  ·cases h1;exact⟨aU _ #[O],aO _ p0⟩
 ·rw [zia i h.len hi hv ?_,h.bd];intro e;by_cases mj:zS p (gl pl i) q+d < p
  ·rw [cF #[O] mj] at e;lia
  ·have h2:(zS p (gl pl i) q+d) % p=zS p (gl pl i) q+d - p:=by
    rw [← Int.sub_emod_right,cF #[O] #[O]]
   lia
theorem zaA:FnScope ["script","at","code","p","k","places","plan","one","row","j","slips","number","many_heard","m","size","curve","t"] ["script"] (zg zb5):=#[S]
theorem zpw {fd:FuncData} (T:Txt K mg t) (F:Fun K "law" "law" zb5 t.law fd):FnOk P w K mg base CX0 10 t.law fd ["script"] (zgt K):=by
 obtain⟨vf,tq,qE⟩:=T.f_l_code;have wc:=zkI (P:=P) (w:=w) (base:=base) T tq;obtain⟨qv,nF,nG⟩:=T.f_l_draws;have pG:=ze5 (P:=P) (w:=w) (base:=base) T nF;obtain⟨uf,pM,oD⟩:=T.f_l_value;have rJ:=ziL (P:=P) (w:=w) (base:=base) T pM;obtain⟨pz,mT,mU⟩:=T.f_curve_for;have om:=zdE (P:=P) (w:=w) (base:=base) T mT;obtain⟨qd,m6,m7⟩:=T.f_roots_of;have oW:=zd4 (P:=P) (w:=w) (base:=base) T m6;obtain⟨ug,rK,pN⟩:=T.f_near_by;have vg:=ziV (P:=P) (w:=w) (base:=base) T rK;obtain⟨tv,qF,oX⟩:=T.f_paper_of;have uh:=zh8 (P:=P) (w:=w) (base:=base) T qF;refine F.ok zaA (fun vs H Q E h=>?_) (fun mM A outer s H vs Q E hr h=>?_)
 ·obtain⟨a,ns,rfl,_⟩:=h;rfl
 ·obtain⟨a,ns,rfl,hS,lY,q⟩:=h;have hu:(A.deeper (envOfC (bF "law") (zg zb5) s.heap.objs.size t.law mM)).units+20 < cLine:=by have:=hr.units; lia
  refine⟨_,#[ze,#[zaX,bL,#[zZ,T.range_,#[za,#[zh],#[zd]]],#[zf,1,zaA.nd,#[A]],#[ze,#[zn,2,zaA.nd,#[A],#[zm,wc,(hr.mono #[D]),T.m_l_code,tq.kp,qE,#[zI],#[za,#[pvx,0],by exact #[za,#[zj,#[zQ],#[zh],#[pvx,1]],#[za,#[zh],#[za,#[zh],#[zd]]]]]]],#[ze,#[zaP,#[pvx,2],#[zaW,#[zi,#[zf,3,zaA.nd,(cJ rfl)],#[zi,#[zf,4,zaA.nd,#[A]],#[zi,#[zf,5,zaA.nd,#[A]],#[zz]]]]]],#[ze,#[zn,6,zaA.nd,#[A],#[zm,pG,(hr.mono #[D]),T.m_l_draws,nF.kp,nG,#[zI],#[za,#[pvx,0],by exact #[za,#[zj,#[zH],#[zj,#[zQ],#[zh],#[pvx,1]],#[zh]],#[za,#[zh],#[za,#[zh],#[zd]]]]]]],#[ze,#[zn,7,zaA.nd,(cJ rfl),#[zas,#[zaQ],T.tuple_,ij,#[za,#[zD,(CompSc.of (N':=["draw","p"]) (ix:=[none,some 3]) (zg zb5) ["script","at","code","p","k","places","plan","one","row","j","slips","number","many_heard","m","size","curve","t"] rfl rfl #[N]),#[z9],#[zX,#[zbY,zcB,#[pvx,6],#[zda],#[zb7,#[pvx,4]]]],(fun _ _ _ _=>#[zf,0,(show (["draw","p"]:List Str).Nodup from #[N]),#[A]]),(fun _ _ _ _=>#[zo]),(fun _ _ _ _=>#[zj,#[zL],#[pvx,0],#[pvx,1]])],#[zd]]]],#[ze,#[zbG,8,zaA.nd,#[A],(CompSc.of (N':=["x","p","one"]) (ix:=[none,some 3,some 7]) (zg zb5) ["script","at","code","p","k","places","plan","one","row","j","slips","number","many_heard","m","size","curve","t"] rfl rfl #[N]),#[z9],#[zif,#[pvx,5]],(fun _ _ _ _=>#[zf,0,(show (["x","p","one"]:List Str).Nodup from #[N]),#[A]]),(fun _ _ _ _=>#[zo]),(fun _ _ _ _=>#[zm,rJ,(hr.mono #[D]),T.m_l_value,pM.kp,oD,#[zI],#[za,#[pvx,1],#[za,#[pvx,2],#[za,#[pvx,0],#[zd]]]]])],#[ze,#[zaX,bL,#[zZ,T.range_,#[za,#[zj,#[zL],#[zY,#[zM],#[pvx,6],#[zh]],#[zh]],#[zd]]],#[zf,9,zaA.nd,#[A]],#[zk,#[zaP,#[zex],#[zgd,#[pvx,8],#[zj,#[zL],#[zY,#[zM],#[pvx,6],#[zj,#[zH],#[zh],#[pvx,9]]],#[zE,#[zJ],T.len_,da,#[za,#[pvx,5],#[zd]]]],set_list]]]],#[ze,#[zn,10,zaA.nd,#[A],#[zh]],#[ze,#[zaX,bL,#[zZ,T.range_,#[za,#[zj,#[zL],#[zY,#[zM],#[pvx,6],#[zh]],#[zh]],#[zd]]],#[zf,9,zaA.nd,#[A]],#[ze,#[zn,11,zaA.nd,#[A],#[zj,#[zL],#[zY,#[zM],#[pvx,6],#[zj,#[zH],#[zh],#[pvx,9]]],#[zE,#[zJ],T.len_,da,#[za,#[pvx,5],#[zd]]]]],#[zk,#[zby,(@PW.pt _ _ _ #[zgc,#[zT,#[zge],#[zY,#[zM],#[pvx,8],#[pvx,11]],#[zex],(zac _)],#[zgb,#[zT,#[zhh],#[zY,#[zM],#[pvx,8],#[pvx,11]],#[zm,rJ,(hr.mono #[D]),T.m_l_value,pM.kp,oD,#[zI],#[za,#[pvx,3],#[za,#[pvx,7],#[za,#[zY,#[zgf],#[pvx,5],#[pvx,11]],#[zd]]]]],(zac _)]]]),#[ze,#[zaP,#[zj,#[zL],#[zj,#[zH],#[zj,#[zH],#[zY,#[zM],#[pvx,8],#[pvx,11]],#[zh]],#[zj,#[zL],#[zY,#[zM],#[pvx,6],#[zj,#[zH],#[zh],#[pvx,9]]],#[zj,#[zaj],#[pvx,3],#[zh]]]],#[pvx,3]],#[zgd,#[pvx,8],#[pvx,11],set_list]],#[zk,#[zn,10,zaA.nd,#[A],#[zj,#[zH],#[pvx,10],#[zh]]]]],#[zaq]]]]],#[ze,#[zn,12,zaA.nd,#[A],#[zE,#[zJ],T.len_,da,#[za,#[zD,(CompSc.of (N':=["entry"]) (ix:=[none]) (zg zb5) ["script","at","code","p","k","places","plan","one","row","j","slips","number","many_heard","m","size","curve","t"] rfl rfl #[N]),#[z9],#[zX,#[pvx,8]],(fun _ _ _ _=>#[zf,0,(show (["entry"]:List Str).Nodup from #[N]),#[A]]),(fun _ _ _ _=>#[zbo,#[zT,#[zge],#[pvx,0],#[zex],(zac _)]]),(fun _ _ _ _=>#[pvx,0])],#[zd]]]],#[ze,#[zaX,bL,#[zX,#[zbY,zcB,#[zaC,#[za,#[zh],#[za,#[zh],#[za,#[zh],#[zd]]]]],#[zda],#[zb7,#[zj,#[zQ],#[zh],#[zas,(@zjW _),T.int_,boot_int,#[za,#[zi2,#[zfA],#[pvx,4],#[zh],(zac _)],#[zd]]]]]]],#[zf,13,zaA.nd,#[A]],#[ze,#[zaP,#[zm,om,(hr.mono #[D]),T.m_curve_for,mT.kp,mU,#[zI],#[za,#[pvx,2],#[za,#[pvx,8],#[za,#[pvx,13],#[zd]]]]],#[zaW,#[zi,#[zf,14,zaA.nd,#[A]],#[zi,#[zf,15,zaA.nd,#[A]],#[zz]]]]],#[ze,#[zby,#[zT,#[zfA],#[pvx,14],#[zj,#[zQ],#[pvx,13],#[zj,#[zH],#[zj,#[zaj],#[pvx,4],#[zh]],#[pvx,10]]],(zac _)],#[zk,#[zC,#[zhd]]],#[zaq]],#[zk,#[zby,(@PW.pt _ _ _ #[zgc,#[zT,#[zfz],#[pvx,14],#[zj,#[zQ],#[pvx,13],#[zj,#[zaj],#[pvx,12],#[pvx,10]]],(zac _)],#[zgb,#[zT,(zf5 (K:=K) rfl hu),#[pvx,7],#[zm,oW,(hr.mono #[D]),T.m_roots_of,m6.kp,m7,#[zI],#[za,#[pvx,3],#[za,#[pvx,4],#[za,#[pvx,15],#[zd]]]]],(by with_unfolding_all rfl)]]]),#[zk,#[zC,#[zhd]]],#[zaq]]]]]],#[ze,#[zn,16,zaA.nd,#[A],#[zj,#[zaj],#[pvx,12],#[pvx,10]]],#[zk,#[zby,(@PW.pt _ _ _ #[zgc,#[zT,#[zfA],#[pvx,4],#[zh],(zac _)],#[zgc,#[zhi,#[zfz],#[zk2],#[zh],#[pvx,16],#[zh],(by with_unfolding_all rfl)],#[zgb,#[zT,#[zfA],#[pvx,16],#[zj,#[zH],#[zj,#[zaj],#[pvx,4],#[zh]],#[pvx,10]],(zac _)]]]]),#[zk,#[zby,#[zT,(zf5 (K:=K) rfl hu),#[pvx,7],#[zm,vg,(hr.mono #[D]),T.m_near_by,rK.kp,pN,#[zI],#[za,#[pvx,2],by exact #[za,#[pvx,8],#[za,#[pvx,16],#[za,#[zm,uh,(hr.mono #[D]),T.m_paper_of,qF.kp,oX,#[zI],#[za,#[pvx,2],#[za,#[pvx,8],#[za,#[pvx,16],#[zd]]]]],#[zd]]]]]],(by with_unfolding_all rfl)],#[zk,#[zC,#[zhd]]],#[zaq]]],#[zaq]]]]]]]]]]]]]]],#[zk,#[zC,#[zhd]]]],?_⟩;have o9:=a7;refine⟨2,rfl,#[D],#[D],?_⟩;refine zaZ (lo:=0) (n:=2) (fun i σ H'=>∃ (e1 e2 e3 e4 e5 e6 e7 e8 e9 uF vJ we ui uj uk um:Option V),σ = [some (.ref a),e1,e2,e3,e4,e5,e6,e7,e8,e9,uF,vJ,we,ui,uj,uk,um]∧zq H H') (zj1 none none none none none none none none none none none none none none none none ⟨rfl,fun _ _ e=>e⟩) ?_ ?_
  ·rintro i σ H0 hi ⟨e1,e2,e3,e4,e5,e6,e7,e8,e9,uF,vJ,we,ui,uj,uk,um,rfl,s0⟩;refine (lS rfl (lS rfl (lX rfl rfl ⟨.inl ⟨#[D],#[D]⟩,a,ns,3*(0+(i:Int)),5,10,rfl,s0.seq hS,lY,#[O],#[O],#[D],#[D],#[D],#[D],fun c tt p kI pl H1 hc1 s1 co Bt h1t=>?_⟩)));have rp:=zy co.pr;have k1:=co.k1;have kk:=co.kk;have kn:=co.kl;have ln:=co.ln;have p0:0 < p:=by lia
   have n10:pl.length≤10:=by lia
   have plp:(0:Int) < (((pl.map V.int).length:Nat):Int):=by rw [ab]; lia
   obtain⟨k,rfl⟩:∃ k:Nat,kI=k:=⟨kI.toNat,#[O]⟩;have sA1:=s0.trans s1;have EW:zbS H1 c tt p k pl:=⟨Bt,h1t⟩;refine⟨_,rfl,c,_,rfl,me.of Bt,rfl,_,_,rfl,_,_,rfl,_,_,rfl,rfl,?_⟩;refine (lS rfl (lS rfl (lX rfl rfl ⟨.inl ⟨#[D],#[D]⟩,(lX rfl rfl (ex5 a ns (3*(0+(i:Int))+1) 40 27720 ⟨rfl,sA1.seq hS,lY,#[O],#[O],#[D],#[D],#[D],#[D],fun pa ds H2 hpa s2 hd h2p=>?_⟩))⟩)));have Ac:ds.length=40:=hd.1;have sA2:=sA1.trans s2;have wM:=EW.same s2;have dat:∀ m:Int,0≤m→m < 40→∃ c:Int,atI (ds.map V.int) m=some (.int c):=fun m h0 h1=>zei h0 #[O]
   refine (lS rfl (lS rfl (lS rfl ⟨pa,(lS rfl ⟨lT.of h2p,fun z hz=>?_⟩)⟩)));rw [zn0,← gJ];have u3:=zb (o:=.lst ((ds.take k).map V.int)) hz;have f3:lW H2 z (.lst ((ds.take k).map V.int)) z=_:=zc;generalize lW H2 z (.lst ((ds.take k).map V.int))=H3 at u3 f3 ⊢;refine⟨z,rfl,⟨_,lT.of f3⟩,za0 (K:=K) (xs:=(ds.take k).map V.int) (fs:=(ds.take k).map fun d=>V.int (d % p)) (lT.of f3) (by rw [ab,ab]) (by rw [ab,aL]; lia) ?_ ?_⟩
   ·intro j x y R B hx hy hR;obtain⟨c,_,rfl,rfl⟩:=zhy hx hy;refine gY ?_;exact (lS rfl (lS rfl (lX rfl rfl ⟨p0,hR⟩)))
   intro D hD;obtain⟨f,ef⟩:∃ f:List Int,f=(ds.take k).map (· % p):=⟨_,rfl⟩;have EX:((ds.take k).map fun d=>V.int (d % p))=f.map V.int:=by rw [ef,cL]; rfl
   have hf:IsP p k f:=by
    refine⟨by rw [ef,ab,aL]; lia,fun c hc=>?_⟩;rw [ef] at hc;obtain⟨x,_,rfl⟩:=av.mp hc;exact⟨aU _ #[O],aO _ p0⟩
   have CA:f.length=k:=hf.1;rw [EX];refine⟨D,(lS rfl (.inl ⟨lT.of zc,fun po Eo=>?_⟩))⟩;have u4:=u3.trans ((zb (o:=.lst (f.map V.int)) hD).trans (zb (o:=.tup (f.map V.int)) Eo));have f4:lW (lW H3 D (.lst (f.map V.int))) po (.tup (f.map V.int)) po=_:=zc;generalize lW (lW H3 D (.lst (f.map V.int))) po (.tup (f.map V.int))=H4 at u4 f4 ⊢;have Ae:=wM.same u4;refine (lS rfl ⟨tt,rfl,⟨_,me.of Ae.2⟩,zdK (K:=K) (xs:=pl.map V.int) (fs:=(pl.map fun x=>some (zS p x f)).map pY) (me.of Ae.2) (by rw [ab,ab,ab]) (by rw [ab]; lia) ?_ ?_⟩)
   ·intro i2 x y R B hx hy hR;obtain⟨v,rfl,hv⟩:=zam hx;rw [af,af,hv] at hy;obtain rfl:V.int (zS p v f)=y:=aS hy;obtain⟨x0,x1⟩:=co.rg v (aI hv);refine gY ?_;exact (lS rfl (lS rfl (lS rfl (ex4 p v po f ⟨rfl,.inr (me.of f4),#[O],#[O],x0,x1,hR⟩))))
   intro ra qV;obtain⟨d6,ed6⟩:=dat 6 #[D] #[D];have BL:=u4 _ _ h2p;refine (lS rfl (ex4 pa _ _ _ ⟨rfl,rfl,lT.of ((zb qV) _ _ BL),ed6,(lX rfl rfl ⟨(by show (0:Int) < 3; decide),?_⟩)⟩));have m60:=aU d6 (show (3:Int)≠0 by decide);have m61:=aO d6 (show (0:Int) < 3 by decide);refine (lS rfl ⟨#[O],#[O],?_⟩);refine zaZ (lo:=0) (n:=(d6 % 3).toNat) (fun j σ H'=>∃ (rw:List (Option Int)) (e9 uF vJ we ui uj uk um:Option V),σ = [some (.ref a),some (.int (0+(i:Int))),some (.ref c),some (.int p),some (.int (k:Int)),some (.ref tt),some (.ref pa),some (.ref po),some (.ref ra),e9,uF,vJ,we,ui,uj,uk,um]∧zq H4 H'∧H' ra=some (.lst (rw.map pY))∧SlR p f pl rw 0)
    ⟨_,_,_,_,_,_,_,_,_,rfl,zb qV,zc,SlR.start p0 f pl⟩ ?_ ?_
   ·rintro j σ H5 hj ⟨rw,e9,uF,vJ,we,ui,uj,uk,um,rfl,s5,tw,hI⟩;have xy:=s5 _ _ BL;have wL:=Ae.same s5;obtain⟨dj,ej⟩:=dat (7+(0+(j:Int))) #[O] #[O];have g0:=aU dj (show (pl.length:Int)≠0 by lia);have g1:=aO dj (show (0:Int) < pl.length by lia);obtain⟨i2,xk⟩:∃ i2:Nat,dj % (pl.length:Int)=i2:=⟨(dj % (pl.length:Int)).toNat,#[O]⟩;refine⟨_,rfl,_,rfl,_,rfl,_,_,rfl,rfl,pa,_,_,_,rfl,rfl,lT.of xy,ej,_,rfl,tt,_,rfl,.inr (me.of wL.2),_,_,rfl,rfl,plp,ra,_,_,i2,rfl,rfl,tw,?_,?_⟩
    ·rw [ab (as:=pl),xk];exact zgs (by rw [ab,hI.len]; lia)
    ·exact (ex9 (rw.set i2 none) _ _ _ _ _ _ _ _ ⟨rfl,zat s5 qV,by rw [zc,i6]; rfl,hI.cut i2⟩)
   ·rintro σ H5 ⟨rw5,e9,uF,vJ,we,ui,uj,uk,um,rfl,s5,tw,EY⟩;have xy:=s5 _ _ BL;have wL:=Ae.same s5;obtain⟨EZ,E1⟩:=dat 11 #[D] #[D];refine (lS rfl (ex4 pa _ _ _ ⟨rfl,rfl,lT.of xy,E1,(lX rfl rfl ⟨(by show (0:Int) < 5; decide),?_⟩)⟩));have m110:=aU EZ (show (5:Int)≠0 by decide);have m111:=aO EZ (show (0:Int) < 5 by decide);refine (lS rfl ⟨#[O],#[O],?_⟩);refine zaZ (lo:=0) (n:=(EZ % 5).toNat) (fun j σ H'=>∃ (rw:List (Option Int)) (sl:Nat) (e9 vJ we ui uj uk um:Option V),σ = [some (.ref a),some (.int (0+(i:Int))),some (.ref c),some (.int p),some (.int (k:Int)),some (.ref tt),some (.ref pa),some (.ref po),some (.ref ra),e9,some (.int (sl:Int)),vJ,we,ui,uj,uk,um]∧zq H4 H'∧H' ra=some (.lst (rw.map pY))∧SlR p f pl rw sl∧sl≤j)
     ⟨_,0,_,_,_,_,_,_,_,rfl,s5,tw,EY,ag _⟩ ?_ ?_
    ·clear EY tw xy wL s5;rintro j σ H5 hj ⟨rw,sl,e9,vJ,we,ui,uj,uk,um,rfl,s5,tw,hI,hslj⟩;have xy:=s5 _ _ BL;have wL:=Ae.same s5;obtain⟨dj,ej⟩:=dat (12+(0+(j:Int))) #[O] #[O];obtain⟨dl,el⟩:=dat (20+(0+(j:Int))) #[O] #[O];have g0:=aU dj (show (pl.length:Int)≠0 by lia);have g1:=aO dj (show (0:Int) < pl.length by lia);obtain⟨i2,xk⟩:∃ i2:Nat,dj % (pl.length:Int)=i2:=⟨(dj % (pl.length:Int)).toNat,#[O]⟩;have uo:i2 < pl.length:=by lia
     refine (lS rfl (lS rfl (lX rfl rfl (ex4 pa _ _ _ ⟨rfl,rfl,lT.of xy,ej,(lS rfl ⟨tt,(lS rfl ⟨.inr (me.of wL.2),(lX rfl rfl ⟨plp,?_⟩)⟩)⟩)⟩))));have rQ:dj % (((pl.map V.int).length:Nat):Int)=(i2:Int):=by rw [ab]; exact xk
     obtain⟨o,ho⟩:∃ o:Option Int,rw[i2]? = some o:=⟨rw[i2]'(by rw [hI.len]; exact uo),ai _⟩;have yP:atI (rw.map pY) (dj % (((pl.map V.int).length:Nat):Int))=some (pY o):=by
      rw [rQ];exact zax (by rw [af,ho]; rfl)
     have BM:atI (pl.map V.int) (dj % (((pl.map V.int).length:Nat):Int))=some (.int (gl pl i2)):=by
      rw [rQ];exact zax (by rw [af,ai uo]; show some (V.int pl[i2])=some (V.int (gl pl i2)); rw [zaF (ai uo)])
     have hgm:gl pl i2∈pl:=by rw [zaF (ai uo)]; exact dN uo
     obtain⟨gx0,gx1⟩:=co.rg _ hgm;have f5:=s5 _ _ f4;refine (lS rfl (lS rfl (ex4 ra _ _ _ ⟨rfl,rfl,lT.of tw,yP,rfl,(lS rfl ?_)⟩)));cases o with
     | none=>exact⟨rw,sl,_,_,_,_,_,_,_,rfl,s5,tw,hI,#[O]⟩
     | some y =>
      refine (lS rfl (lS rfl (ex4 ra _ _ _ ⟨rfl,rfl,lT.of tw,yP,?_⟩)));refine (lS rfl (lS rfl (lS rfl (lS rfl (ex4 tt _ _ _ ⟨rfl,rfl,me.of wL.2,BM,p,_,po,f,rfl,.inr (me.of f5),#[O],#[O],gx0,gx1,?_⟩)))));refine⟨rfl,(lS rfl (zbb (fun h=>?_) (fun _=>(ex9 rw sl _ _ _ _ _ _ _ ⟨rfl,s5,tw,hI,#[O]⟩))))⟩;have hy:y=zS p (gl pl i2) f:=by
       have h:=of_decide_eq_true h;injection h with h
      have r0:=aU dl (show p - 1≠0 by lia);have r1:=aO dl (show 0 < p - 1 by lia);refine (lS rfl (lS rfl (ex4 ra _ _ _ ⟨rfl,rfl,lT.of tw,yP,(lX rfl rfl (lS rfl (lS rfl (lX rfl rfl (ex4 pa _ _ _ ⟨rfl,rfl,lT.of xy,el,(lS rfl (lX rfl rfl (lX rfl rfl ⟨#[O],(lX rfl rfl (lS rfl (lX rfl rfl ⟨p0,?_⟩)))⟩)))⟩)))))⟩)));refine (lS rfl (lS rfl (ex4 ra _ _ i2 ⟨rfl,rfl,tw,by rw [rQ]; exact zgs (by rw [ab,hI.len]; exact uo),?_⟩)));refine (lS rfl (lX rfl rfl ?_));have e1:(y+1+dl % (p - 1)) % p=(zS p (gl pl i2) f+(1+dl % (p - 1))) % p:=by rw [hy,Int.add_assoc]
      refine (ex9 (rw.set i2 (some ((y+1+dl % (p - 1)) % p))) (sl+1) _ _ _ _ _ _ _ ⟨rfl,zat s5 qV,by rw [zc,i6]; rfl,?_,#[O]⟩);rw [e1];exact hI.slip p0 uo (by rw [ho,hy]) #[O] #[O]
    ·clear EY tw xy wL s5;rintro σ H5 ⟨rw,sl,e9,vJ,we,ui,uj,uk,um,rfl,s5,tw,hI,hsl4⟩;have xy:=s5 _ _ BL;have wL:=Ae.same s5;have f5:=s5 _ _ f4;have rT:=hI.len;have uZ:=hI.rg;have E2:(zdy p f (mK pl rw)).length=sl:=hI.bd;have hsl4':sl≤4:=by lia
     have hP:=zgD co.nd co.rg uZ;have CK:=zcd pl rw;have E3:=zjQ rT;have sS:=zjG p f (mK pl rw);rw [E2] at sS;refine (lS rfl ⟨ra,rfl,⟨_,lT.of tw⟩,zke (K:=K) (xs:=rw.map pY) (kp:=fun v=>!decide (v=V.non)) (f:=id) (lT.of tw) (by rw [ab]; lia) ?_ ?_⟩)
     ·intro j x R B hx hR;obtain⟨ob,rfl,_⟩:=zgv hx;refine (lS rfl ⟨rfl,(lS rfl ?_)⟩);refine zbb (fun h=>?_) (fun h=>?_)
      ·rw [if_pos h] at hR;exact (lS rfl hR)
      ·rw [if_neg h] at hR;exact hR
     intro d hd;have v6:=zb (o:=.lst (((rw.map pY).filter fun v=>!decide (v=V.non)).map id)) hd;have h6d:lW H5 d (.lst (((rw.map pY).filter fun v=>!decide (v=V.non)).map id)) d=_:=zc;have E4:(((rw.map pY).filter fun v=>!decide (v=V.non)).map id).length=(mK pl rw).length:=by
      rw [E3,ab,List.filter_map,ab];congr 1;refine kH fun ob _=>?_
      cases ob <;> simp [pY]
     refine⟨d,(lS rfl ⟨.inl (lT.of h6d),?_⟩)⟩;rw [E4];obtain⟨nn,enn⟩:∃ nn,(mK pl rw).length=nn:=⟨_,rfl⟩;rw [enn] at CK sS ⊢;generalize lW H5 d (.lst (((rw.map pY).filter fun v=>!decide (v=V.non)).map id))=H6 at v6 h6d ⊢;have hc6:=wL.same v6;have h6r:=v6 _ _ tw;have f6:=v6 _ _ f5;refine⟨by show 3≤sizeLine; lia,fun l3 hl3=>?_⟩;have u7:=zb (o:=.lst [.int 1,.int 2,.int 3]) hl3;have f7:lW H6 l3 (.lst [.int 1,.int 2,.int 3]) l3=_:=zc;generalize lW H6 l3 (.lst [.int 1,.int 2,.int 3])=H7 at u7 f7 ⊢;obtain⟨ms,ems,y4⟩:∃ ms:List Int,zcU [.int 1,.int 2,.int 3] none (some (3*(if decide ((1:Int) < (k:Int))=true then 1 else 0)))=ms.map V.int∧∀ m∈ms,1≤m∧m≤3∧2≤k:=by
      by_cases hk:(1:Int) < (k:Int)
      ·rw [if_pos (decide_eq_true hk)];refine⟨[1,2,3],rfl,fun m hm=>?_⟩;simp at hm;lia
      ·rw [if_neg (fun h=>hk (of_decide_eq_true h))];exact⟨[],rfl,fun m hm=>by cases hm⟩
     refine (lS rfl (lX rfl rfl (.inr (lS rfl (lX rfl rfl ⟨.inl ⟨#[D],#[D]⟩,(lS rfl ⟨l3,(lS rfl ⟨lT.of f7,fun ml hml=>?_⟩)⟩)⟩)))));rw [ems];have v8:=v6.trans (u7.trans (zb (o:=.lst (ms.map V.int)) hml));have f8:lW H7 ml (.lst (ms.map V.int)) ml=_:=zc;generalize lW H7 ml (.lst (ms.map V.int))=H8 at v8 f8 ⊢;have hc8:=wL.same v8;have h8r:=v8 _ _ tw;have g8:=v8 _ _ f5;refine⟨ml,rfl,⟨_,lT.of f8⟩,zc9 (K:=K) (a:=ml) (xs:=ms.map V.int) (fun j σ H'=>∃ (ui uj uk um:Option V),σ = [some (.ref a),some (.int (0+(i:Int))),some (.ref c),some (.int p),some (.int (k:Int)),some (.ref tt),some (.ref pa),some (.ref po),some (.ref ra),e9,some (.int (sl:Int)),vJ,some (.int (nn:Int)),ui,uj,uk,um]∧zq H8 H') (ex4 _ _ _ _ ⟨rfl,fun _ _ e=>e⟩) (fun j σ H' _ ⟨_,_,_,_,_,s'⟩=>lT.of (s' _ _ f8)) ?_ ?_⟩
     ·rintro j x σ H9 hx ⟨ui,uj,uk,um,rfl,s9⟩;obtain⟨mI,rfl,hmx⟩:=zam hx;obtain⟨vD,Cn,pB⟩:=y4 mI (aI hmx);obtain⟨m,rfl⟩:∃ m:Nat,mI=m:=⟨mI.toNat,#[O]⟩;obtain⟨d',rfl⟩:∃ d',k=d'+1:=⟨k - 1,#[O]⟩;have CP:=hc8.same s9;have CQ:=s9 _ _ h8r;have g9:=s9 _ _ g8;have E5:tri m≤6:=by
       obtain rfl | rfl | rfl:m=1∨m=2∨m=3:=by lia
       all_goals decide
      have E6:(mK pl rw).length*tri m≤199:=aW (gp (show (mK pl rw).length≤10 by lia) E5) #[D];refine (lS rfl (lS rfl (lS rfl (ex8 c tt ra p (d'+1) m pl rw ⟨rfl,CP,CQ,rT,#[O],co.pr,co.nd,co.rg,uZ,pB,#[O],#[O],#[O],E6,fun z cu ls size g Ha hz sa E7 hac mO L hsz=>?_⟩))));refine⟨z,_,rfl,me.of E7,rfl,_,_,rfl,_,_,rfl,rfl,?_⟩;have hsz2:size≤m*(d'+sl):=by
       have:=zf4 co.pr #[O] hf L;rw [E2] at this;exact this
      have ek:(((d'+1:Nat):Int) - 1+(sl:Int))=((d'+sl:Nat):Int):=by lia
      have E8:(size:Int)≤(m:Int)*(((d'+1:Nat):Int) - 1+(sl:Int)):=by
       rw [ek]
       exact_mod_cast hsz2
      have hs24:m*(d'+sl)≤3*8:=gp #[O] #[O];refine (lS rfl (lS rfl (lS rfl (lX rfl rfl (lS rfl (lX rfl rfl (lX rfl rfl ⟨.inl ⟨#[O],#[O]⟩,(lX rfl rfl (lS rfl ?_))⟩)))))));refine zbb (fun h=>absurd (of_decide_eq_true h) (lu.mpr E8)) (fun _=>?_);refine (lS rfl (lS rfl (lS rfl (lS rfl (lX rfl rfl (lX rfl rfl ⟨.inl ⟨#[O],#[O]⟩,(lX rfl rfl (lS rfl ?_))⟩))))));refine zbb (fun h=>?_) (fun _=>(ex4 _ _ _ _ ⟨rfl,s9.trans sa⟩));have mj:size < m*hits p f (mK pl rw):=by
       have h:=of_decide_eq_true h;have e:(nn:Int) - (sl:Int)=((hits p f (mK pl rw):Nat):Int):=by lia
       rw [e] at h
       exact_mod_cast h
      have qD:(zah (d'+1) size g).length=size / d'+1:=zbr (d'+1) size g;have hdiv:size / d'≤size:=fh _ _;refine (lS rfl (lS rfl (lS rfl (lS rfl (ex5 p (d'+1) cu ls (zah (d'+1) size g) ⟨rfl,co.pr,hac,mO,by rw [qD]; lia,fun r nC=>by have:=zhV nC; lia,#[O],#[O],by rw [qD]; exact zf1 (k:=d'+1) pB #[O] #[O],zjD co.pr pB L,fun ro us qs Hb hro sb ES hT EV hR hm=>?_⟩)))));rw [qD] at hm;have wW:f∈qs:=(hm f).mpr ⟨hf,zf2 co.pr #[O] hP L hf mj⟩;refine (ex5 po ro f us qs ⟨rfl,rfl,(sa.trans sb) _ _ g9,lT.of ES,hT,?_⟩);rw [decide_eq_true wW];exact (lS rfl (zfh (ex4 _ _ _ _ ⟨rfl,s9.trans (sa.trans sb)⟩)))
     ·rintro σ H9 ⟨ui,uj,uk,um,rfl,s9⟩;have CP:=hc8.same s9;have CQ:=s9 _ _ h8r;have g9:=s9 _ _ g8;have out:zq H H9:=sA2.trans (u4.trans (s5.trans (v8.trans s9)));refine (lS rfl (lS rfl (lX rfl rfl ?_)));refine (lS rfl (lX rfl rfl (lS rfl (zbb (fun hk=>?_) (fun _=>zfh (zj1 _ _ _ _ _ _ _ _ _ _ _ _ _ _ _ _ ⟨rfl,out⟩))))));refine (lS rfl (lX rfl rfl (lS rfl (zbb (fun h1=>?_) (fun _=>(lS rfl (zfh (zfh (zj1 _ _ _ _ _ _ _ _ _ _ _ _ _ _ _ _ ⟨rfl,out⟩)))))))));refine (lX rfl rfl (lS rfl (zbb (fun h2=>?_) (fun _=>zfh (zj1 _ _ _ _ _ _ _ _ _ _ _ _ _ _ _ _ ⟨rfl,out⟩)))));refine (lS rfl (lS rfl (lX rfl rfl (lS rfl (lX rfl rfl (lX rfl rfl (lS rfl (zbb (fun h3=>?_) (fun _=>(zj1 _ _ _ _ _ _ _ _ _ _ _ _ _ _ _ _ ⟨rfl,out⟩))))))))));have hk:=of_decide_eq_true hk;have h1:=of_decide_eq_true h1;have h2:=of_decide_eq_true h2;have h3:=of_decide_eq_true h3;obtain⟨d',rfl⟩:∃ d',k=d'+1:=⟨k - 1,#[O]⟩;obtain⟨T',eT⟩:∃ T':Nat,hits p f (mK pl rw)=T':=⟨_,rfl⟩;rw [eT] at sS;have et:(nn:Int) - (sl:Int)=(T':Int):=by lia
      have E9:1≤d':=by lia
      have hTs:d'+sl < T':=by lia
      have Cj:∀ size g,Lst p (d'+1) (wpt 1 (mK pl rw)) size g→size≤d'+sl:=fun size g L=>by
       have:=zf4 (m:=1) co.pr E9 hf L;rw [E2,Nat.one_mul] at this;exact this
      refine (lS rfl (lS rfl (lS rfl (lS rfl (lS rfl (lS rfl (lS rfl ⟨c,tt,ra,p,(T':Int),d'+1,pl,rw,by rw [← et]; rfl,CP,CQ,rT,#[O],co.pr,co.nd,co.rg,uZ,#[O],#[O],#[O],#[O],fun size g L=>by have:=Cj size g L; lia,fun z r' ls size g Ha hz sa E7 har mO L=>?_⟩)))))));have hs:=Cj size g L;refine⟨c,tt,ra,z,r',p,T',d',1,size,pl,rw,ls,g,by rw [← et]; rfl,CP.same sa,sa _ _ CQ,rT,#[O],co.pr,co.nd,co.rg,uZ,E9,#[O],#[O],E7,har,mO,#[O],#[O],L,#[O],#[O],fun l us qs Hb sb Fb hT hm=>?_⟩;have wW:f∈qs:=(hm f).mpr ⟨⟨hf,zf2 (m:=1) co.pr E9 hP L hf (by rw [eT,Nat.one_mul]; lia)⟩,by rw [eT]; lia⟩;refine (ex5 po l f us qs ⟨rfl,rfl,(sa.trans sb) _ _ g9,lT.of Fb,hT,?_⟩);rw [decide_eq_true wW];exact (lS rfl (zfh (zj1 _ _ _ _ _ _ _ _ _ _ _ _ _ _ _ _ ⟨rfl,out.trans (sa.trans sb)⟩)))
  ·rintro σ H0 ⟨e1,e2,e3,e4,e5,e6,e7,e8,e9,uF,vJ,we,ui,uj,uk,um,rfl,s0⟩;exact q _
end
structure Dn (K:ah) (x:Str) (st:Stmt) (f:Addr) (fd:FuncData):Prop where
 a:bA K mainGlobals x=some (some (.ref f))
 f:Fun K x x st f fd
theorem zqc {K:ah} {x:Str} {i:Int} {u:Value} (y:bA K mainGlobals x=some (some u)) (r:RelV (.int i) u):∃ u,bA K mainGlobals x=some (some u)∧RelV (.int i) u:=⟨u,y,r⟩
theorem zab {K:ah} {x:Str} {st:Stmt} {f:Addr} {od an:Option Addr} {sl:Array (Option Value)} {oc kV dc pm cd ct:Value} (a:bA K mainGlobals x=some (some (.ref f))) (l:K.lookup f=some ⟨oc,od,.func (dz x x (zbK st) (zbB st) (zg st) .none kV dc pm an cd ct),sl⟩) (c:gh K cd x=true) (k:gg K (.ref f)=true):Dn K x st f (dz x x (zbK st) (zbB st) (zg st) .none kV dc pm an cd ct):=⟨a,zk5 l c k⟩
theorem el0 {us:List Value} {n:Nat} (e:us.length=n+1):∃ a t,us=a :: t∧t.length=n:=by
 cases us with
 | nil=>cases e
 | cons a t=>exact⟨a,t,rfl,Nat.succ.inj e⟩
theorem el1 {us:List Value} (e:us.length=1):∃ a,us = [a]:=List.length_eq_one_iff.mp e
theorem el2 {us:List Value} (e:us.length=2):∃ a b,us = [a,b]:=by
 obtain⟨a,t,rfl,h⟩:=el0 e;obtain⟨b,rfl⟩:=el1 h;exact⟨a,b,rfl⟩
theorem el3 {us:List Value} (e:us.length=3):∃ a b c,us = [a,b,c]:=by
 obtain⟨a,t,rfl,h⟩:=el0 e;obtain⟨b,c,rfl⟩:=el2 h;exact⟨a,b,c,rfl⟩
theorem el4 {us:List Value} (e:us.length=4):∃ a b c d,us = [a,b,c,d]:=by
 obtain⟨a,t,rfl,h⟩:=el0 e;obtain⟨b,c,d,rfl⟩:=el3 h;exact⟨a,b,c,d,rfl⟩
theorem zpx {l:jb} {w:World} {K:ah} {h:Heap} {mg:Str→Option Value} {fa fl ou rL rM:Addr} (X:K.In h) (G:h.Ns mainGlobals mg) (hfa:mg "law" = some (.ref fa))
  {od an:Option Addr} {sl:Array (Option Value)} {oc kV dc pm cd ct:Value} (tD:bA K mainGlobals "SlipError" = some (some (.ref ou))) (vh:bA K mainGlobals "NoCurve" = some (some (.ref rL))) (vi:bA K mainGlobals "NoPaper" = some (some (.ref rM))) (uq:∃ f fd,Dn K "value_at" zci f fd) (vj:∃ f fd,Dn K "inverse" zcQ f fd) (sj:∃ f fd,Dn K "times_root" za6 f fd) (qG:∃ f fd,Dn K "moved_powers" za7 f fd) (sk:∃ f fd,Dn K "numbers_at" zaz f fd) (su:∃ f fd,Dn K "vectors_of" zaN f fd) (vk:∃ f fd,Dn K "without" zb2 f fd) (pO:∃ f fd,Dn K "first_relation" zai f fd) (tE:∃ f fd,Dn K "first_sum" zbs f fd) (qH:∃ f fd,Dn K "heard_points" zaI f fd) (yQ:∃ f fd,Dn K "fits" ze4 f fd) (ur:∃ f fd,Dn K "width_of" zbI f fd) (wg:∃ f fd,Dn K "filled" zcw f fd) (uu:∃ f fd,Dn K "terms_of" zbJ f fd) (wj:∃ f fd,Dn K "turned" zcx f fd) (wm:∃ f fd,Dn K "raised" zcy f fd) (vm:∃ f fd,Dn K "size_of" zb3 f fd) (xA:∃ f fd,Dn K "moved" zdA f fd) (tF:∃ f fd,Dn K "weight_at" zbt f fd) (rj:∃ f fd,Dn K "first_terms" zaR f fd) (rk:∃ f fd,Dn K "least_curve" zaf f fd) (qI:∃ f fd,Dn K "check_curves" za8 f fd) (tG:∃ f fd,Dn K "curve_for" zbu f fd) (tH:∃ f fd,Dn K "without_x" za3 f fd) (sv:∃ f fd,Dn K "next_curve" za9 f fd) (vn:∃ f fd,Dn K "further" zbE f fd) (uv:∃ f fd,Dn K "roots_of" zbi f fd) (uw:∃ f fd,Dn K "paper_of" zcj f fd) (rm:∃ f fd,Dn K "paper_holds" zaS f fd) (vo:∃ f fd,Dn K "near_by" zb4 f fd) (wo:∃ f fd,Dn K "_law_cell" zdB f fd) (vp:∃ f fd,Dn K "_law_draws" zcR f fd) (wq:∃ f fd,Dn K "_law_code" zcz f fd) (vq:∃ f fd,Dn K "_law_value" zcS f fd)   (sb:lI K ou (.type "BaseException")=some true)
  (al:bA K mainGlobals "law" = some (some (.ref fl))) (ll:K.lookup fl=some ⟨oc,od,.func (dz "law" "law" (zbK zb5) (zbB zb5) (zg zb5) .none kV dc pm an cd ct),sl⟩) (cl:gh K cd "law" = true) (kl:gg K (.ref fl)=true) (BN:bA K mainGlobals "len" = some none) (xB:bA K mainGlobals "range" = some none) (yR:bA K mainGlobals "list" = some none) (xC:bA K mainGlobals "tuple" = some none) (BO:bA K mainGlobals "min" = some none) (BP:bA K mainGlobals "max" = some none) (BQ:bA K mainGlobals "int" = some none) (BR:bA K mainGlobals "all" = some none) (BS:bA K mainGlobals "zip" = some none) (tJ:bA K mainGlobals "enumerate" = some none) (BU:bA K mainGlobals "sum" = some none) (yS:bA K mainGlobals "dict" = some none) (ux:bA K mainGlobals "reversed" = some none) (wu:bA K mainGlobals "sorted" = some none) (BV:bA K mainGlobals "any" = some none) (sx:bA K mainGlobals "ValueError" = some none) (oJ:∃ u,bA K mainGlobals "MOST_PAPER_WEIGHT" = some (some u)∧RelV (.int 4) u) :
  ∃ fd:FuncData,(∀ (s:Shared) (v:Value),BindsTo s fd ⟨[v],[]⟩ [("script",v)])∧∀ base:Heap,K.In base→base.Ns mainGlobals mg→FnOk l.prog w K mg base CX0 10 fa fd ["script"] (zgt K):=by
 cases hfa.symm.trans (aT X G al);obtain⟨f_value_at,p7,oY⟩:=uq;have mW:=oY.f.binds (ps:=["p","polynomial","x"]) fun _ _ _ _ _ _ _ h=>by obtain⟨_,_,_,rfl⟩:=el3 h; exact rfl
 obtain⟨f_inverse,tZ,pP⟩:=vj;have pI:=pP.f.binds (ps:=["p","number"]) fun _ _ _ _ _ _ _ h=>by obtain⟨_,_,rfl⟩:=el2 h; exact rfl
 obtain⟨f_times_root,qW,nR⟩:=sj;have nN:=nR.f.binds (ps:=["p","polynomial","root"]) fun _ _ _ _ _ _ _ h=>by obtain⟨_,_,_,rfl⟩:=el3 h; exact rfl
 obtain⟨f_moved_powers,qj,m8⟩:=qG;have mN:=m8.f.binds (ps:=["p","by","most","kept"]) fun _ _ _ _ _ _ _ h=>by obtain⟨_,_,_,_,rfl⟩:=el4 h; exact rfl
 obtain⟨f_numbers_at,qX,nS⟩:=sk;have nO:=nS.f.binds (ps:=["p","terms","point"]) fun _ _ _ _ _ _ _ h=>by obtain⟨_,_,_,rfl⟩:=el3 h; exact rfl
 obtain⟨f_vectors_of,qY,nT⟩:=su;have nP:=nT.f.binds (ps:=["p","terms","points"]) fun _ _ _ _ _ _ _ h=>by obtain⟨_,_,_,rfl⟩:=el3 h; exact rfl
 obtain⟨f_without,tY,pQ⟩:=vk;have pH:=pQ.f.binds (ps:=["p","vector","times","other"]) fun _ _ _ _ _ _ _ h=>by obtain⟨_,_,_,_,rfl⟩:=el4 h; exact rfl
 obtain⟨f_first_relation,pj,mS⟩:=pO;have mR:=mS.f.binds (ps:=["p","vectors"]) fun _ _ _ _ _ _ _ h=>by obtain⟨_,_,rfl⟩:=el2 h; exact rfl
 obtain⟨f_first_sum,rZ,ow⟩:=tE;have og:=ow.f.binds (ps:=["p","terms","points"]) fun _ _ _ _ _ _ _ h=>by obtain⟨_,_,_,rfl⟩:=el3 h; exact rfl
 obtain⟨f_heard_points,nZ,nc⟩:=qH;have mH:=nc.f.binds (ps:=["code","row"]) fun _ _ _ _ _ _ _ h=>by obtain⟨_,_,rfl⟩:=el2 h; exact rfl
 obtain⟨f_fits,xw,uy⟩:=yQ;have ue:=uy.f.binds (ps:=["code","row","polynomial"]) fun _ _ _ _ _ _ _ h=>by obtain⟨_,_,_,rfl⟩:=el3 h; exact rfl
 obtain⟨f_width_of,qa,oZ⟩:=ur;have m5:=oZ.f.binds (ps:=["curve"]) fun _ _ _ _ _ _ _ h=>by obtain⟨_,rfl⟩:=el1 h; exact rfl
 obtain⟨f_filled,rF,qJ⟩:=wg;have oj:=qJ.f.binds (ps:=["p","curve"]) fun _ _ _ _ _ _ _ h=>by obtain⟨_,_,rfl⟩:=el2 h; exact rfl
 obtain⟨f_terms_of,nh,o6⟩:=uu;have mw:=o6.f.binds (ps:=["curve"]) fun _ _ _ _ _ _ _ h=>by obtain⟨_,rfl⟩:=el1 h; exact rfl
 obtain⟨f_turned,vc,qK⟩:=wj;have pv:=qK.f.binds (ps:=["lines","width"]) fun _ _ _ _ _ _ _ h=>by obtain⟨_,_,rfl⟩:=el2 h; exact rfl
 obtain⟨f_raised,rE,qL⟩:=wm;have nJ:=qL.f.binds (ps:=["p","lines","by"]) fun _ _ _ _ _ _ _ h=>by obtain⟨_,_,_,rfl⟩:=el3 h; exact rfl
 obtain⟨f_size_of,uc,pR⟩:=vm;have pK:=pR.f.binds (ps:=["k","curve"]) fun _ _ _ _ _ _ _ h=>by obtain⟨_,_,rfl⟩:=el2 h; exact rfl
 obtain⟨f_moved,v5,sy⟩:=xA;have r8:=sy.f.binds (ps:=["p","curve","point"]) fun _ _ _ _ _ _ _ h=>by obtain⟨_,_,_,rfl⟩:=el3 h; exact rfl
 obtain⟨f_weight_at,r9,oz⟩:=tF;have oo:=oz.f.binds (ps:=["p","curve","point"]) fun _ _ _ _ _ _ _ h=>by obtain⟨_,_,_,rfl⟩:=el3 h; exact rfl
 obtain⟨f_first_terms,qw,nv⟩:=rj;have nk:=nv.f.binds (ps:=["k","many"]) fun _ _ _ _ _ _ _ h=>by obtain⟨_,_,rfl⟩:=el2 h; exact rfl
 obtain⟨f_least_curve,qz,nA⟩:=rk;have nr:=nA.f.binds (ps:=["p","k","points"]) fun _ _ _ _ _ _ _ h=>by obtain⟨_,_,_,rfl⟩:=el3 h; exact rfl
 obtain⟨f_check_curves,nY,ng⟩:=qI;have mF:=ng.f.binds (ps:=["k"]) fun _ _ _ _ _ _ _ h=>by obtain⟨_,rfl⟩:=el1 h; exact rfl
 obtain⟨f_curve_for,pz,oA⟩:=tG;have mU:=oA.f.binds (ps:=["code","row","m"]) fun _ _ _ _ _ _ _ h=>by obtain⟨_,_,_,rfl⟩:=el3 h; exact rfl
 obtain⟨f_without_x,sd,oB⟩:=tH;have oq:=oB.f.binds (ps:=["lines"]) fun _ _ _ _ _ _ _ h=>by obtain⟨_,rfl⟩:=el1 h; exact rfl
 obtain⟨f_next_curve,rf,nU⟩:=sv;have nQ:=nU.f.binds (ps:=["p","lines","number"]) fun _ _ _ _ _ _ _ h=>by obtain⟨_,_,_,rfl⟩:=el3 h; exact rfl
 obtain⟨f_further,ud,pS⟩:=vn;have pL:=pS.f.binds (ps:=["p","known","lines"]) fun _ _ _ _ _ _ _ h=>by obtain⟨_,_,_,rfl⟩:=el3 h; exact rfl
 obtain⟨f_roots_of,qd,o7⟩:=uv;have m7:=o7.f.binds (ps:=["p","k","curve"]) fun _ _ _ _ _ _ _ h=>by obtain⟨_,_,_,rfl⟩:=el3 h; exact rfl
 obtain⟨f_paper_of,tv,o8⟩:=uw;have oX:=o8.f.binds (ps:=["code","row","t"]) fun _ _ _ _ _ _ _ h=>by obtain⟨_,_,_,rfl⟩:=el3 h; exact rfl
 obtain⟨f_paper_holds,qC,nB⟩:=rm;have nu:=nB.f.binds (ps:=["code","row","t","paper"]) fun _ _ _ _ _ _ _ h=>by obtain⟨_,_,_,_,rfl⟩:=el4 h; exact rfl
 obtain⟨f_near_by,ug,pT⟩:=vo;have pN:=pT.f.binds (ps:=["code","row","t","paper"]) fun _ _ _ _ _ _ _ h=>by obtain⟨_,_,_,_,rfl⟩:=el4 h; exact rfl
 obtain⟨f_l_cell,uV,qM⟩:=wo;have qu:=qM.f.binds (ps:=["script","k"]) fun _ _ _ _ _ _ _ h=>by obtain⟨_,_,rfl⟩:=el2 h; exact rfl
 obtain⟨f_l_draws,qv,pU⟩:=vp;have nG:=pU.f.binds (ps:=["script","k","many","base"]) fun _ _ _ _ _ _ _ h=>by obtain⟨_,_,_,_,rfl⟩:=el4 h; exact rfl
 obtain⟨f_l_code,vf,qN⟩:=wq;have qE:=qN.f.binds (ps:=["script","at","most_k","most_n"]) fun _ _ _ _ _ _ _ h=>by obtain⟨_,_,_,_,rfl⟩:=el4 h; exact rfl
 obtain⟨f_l_value,uf,pV⟩:=vq;have oD:=pV.f.binds (ps:=["p","polynomial","x"]) fun _ _ _ _ _ _ _ h=>by obtain⟨_,_,_,rfl⟩:=el3 h; exact rfl
 let t:Adr:=⟨ou,rL,rM,f_value_at,f_inverse,f_times_root,f_moved_powers,f_numbers_at,f_vectors_of,f_without,f_first_relation,f_first_sum,f_heard_points,f_fits,f_width_of,f_filled,f_terms_of,f_turned,f_raised,f_size_of,f_moved,f_weight_at,f_first_terms,f_least_curve,f_check_curves,f_curve_for,f_without_x,f_next_curve,f_further,f_roots_of,f_paper_of,f_paper_holds,f_near_by,f_l_cell,f_l_draws,f_l_code,f_l_value,fa⟩
 have T:Txt K mg t:=⟨bE X G BN,bE X G xB,bE X G yR,bE X G xC,bE X G BO,bE X G BP,bE X G BQ,bE X G BR,bE X G BS,bE X G tJ,bE X G BU,bE X G yS,bE X G ux,bE X G wu,bE X G BV,bE X G sx,(by obtain⟨u,e,q,r⟩:=oJ; subst r; exact⟨q,aT X G e⟩),aT X G tD,aT X G vh,aT X G vi,sb,aT X G oY.a,aT X G pP.a,aT X G nR.a,aT X G m8.a,aT X G nS.a,aT X G nT.a,aT X G pQ.a,aT X G mS.a,aT X G ow.a,aT X G nc.a,aT X G uy.a,aT X G oZ.a,aT X G qJ.a,aT X G o6.a,aT X G qK.a,aT X G qL.a,aT X G pR.a,aT X G sy.a,aT X G oz.a,aT X G nv.a,aT X G nA.a,aT X G ng.a,aT X G oA.a,aT X G oB.a,aT X G nU.a,aT X G pS.a,aT X G o7.a,aT X G o8.a,aT X G nB.a,aT X G pT.a,aT X G qM.a,aT X G pU.a,aT X G qN.a,aT X G pV.a,⟨_,oY.f,mW⟩,⟨_,pP.f,pI⟩,⟨_,nR.f,nN⟩,⟨_,m8.f,mN⟩,⟨_,nS.f,nO⟩,⟨_,nT.f,nP⟩,⟨_,pQ.f,pH⟩,⟨_,mS.f,mR⟩,⟨_,ow.f,og⟩,⟨_,nc.f,mH⟩,⟨_,uy.f,ue⟩,⟨_,oZ.f,m5⟩,⟨_,qJ.f,oj⟩,⟨_,o6.f,mw⟩,⟨_,qK.f,pv⟩,⟨_,qL.f,nJ⟩,⟨_,pR.f,pK⟩,⟨_,sy.f,r8⟩,⟨_,oz.f,oo⟩,⟨_,nv.f,nk⟩,⟨_,nA.f,nr⟩,⟨_,ng.f,mF⟩,⟨_,oA.f,mU⟩,⟨_,oB.f,oq⟩,⟨_,nU.f,nQ⟩,⟨_,pS.f,pL⟩,⟨_,o7.f,m7⟩,⟨_,o8.f,oX⟩,⟨_,nB.f,nu⟩,⟨_,pT.f,pN⟩,⟨_,qM.f,qu⟩,⟨_,pU.f,nG⟩,⟨_,qN.f,qE⟩,⟨_,pV.f,oD⟩⟩;have FL:=zk5 (st:=zb5) ll cl kl;exact⟨dz "law" "law" (zbK zb5) (zbB zb5) (zg zb5) .none kV dc pm an cd ct,fun s v=>.of_eq rfl,fun base _ _=>zpw (t:=t) T FL⟩
theorem walk {l:jb} {q:Program} {loose:List Str} {XP:(Str→Option Value)→Heap→Prop} {YP:World→Heap→Prop} {d:DefRec} {K:Params→ah} (hn:l.most=some 63) (Al:d.params.defaults = []) (hY:∀ (w:World) (h:Heap),YP w h→(K w.params).In h)
  (F:∀ (w:World) (mg:Str→Option Value) (fa:Addr) (h:Heap),(K w.params).In h→h.Ns mainGlobals mg→mg d.name=some (.ref fa)→∃ fd:FuncData,(∀ (s:Shared) (u:Value),BindsTo s fd ⟨[u],[]⟩ [("script",u)])∧∀ base:Heap,(K w.params).In base→base.Ns mainGlobals mg→FnOk l.prog w (K w.params) mg base CX0 10 fa fd ["script"] (zgt (K w.params))):lF q loose XP YP l.row.toRowW d [] (fun f vs=>lh f vs) :=
 L2.zmV (n:=63) (k:=10) (x:="script") (CX:=fun _=>CX0) (sp:=fun w=>zgt (K w.params)) hn #[D] Al ⟨rfl,#[D],#[D]⟩ hY F (fun _ _ a ns hl _ hS=>⟨a,ns,rfl,hS,hl,fun _=>rfl⟩) fun _ _ _ _ _ z=>z
end My
namespace PySem.W.Fast
def tw14252059190783513212:Unit:=()
def tw8737424491241265289:Unit:=()
def tw2910938742918336769:Unit:=()
def tw2925024188291702835:Unit:=()
def tw12102807700889372476:Unit:=()
def tw8874099638368063796:Unit:=()
def tw8666474825748301567:Unit:=()
def tw16591404902817372943:Unit:=()
def tw2845602309551601697:Unit:=()
def tw3021722892586725826:Unit:=()
def tw2790254169065168150:Unit:=()
def tw6790933683219978323:Unit:=()
def tw8302847734210996214:Unit:=()
def tw13223681729209177027:Unit:=()
def tw7118227785391062528:Unit:=()
def tw9992502120362336651:Unit:=()
def tw17137899511553356315:Unit:=()
def tw11819633136591294132:Unit:=()
def tw1787548882106593502:Unit:=()
def tw18376732722543436617:Unit:=()
def tw2007456418870984351:Unit:=()
def tw10631113368742143648:Unit:=()
def tw9932098653621529017:Unit:=()
def tw3566185735205965024:Unit:=()
def tw6601714105683602713:Unit:=()
def tw15363933485562581620:Unit:=()
def tw7766961264789609123:Unit:=()
def tw513476411744891460:Unit:=()
def tw1075393604195587422:Unit:=()
def tw12659695535533106170:Unit:=()
def tw15735858881301104622:Unit:=()
def tw14489877005701975389:Unit:=()
def tw10097976848690962303:Unit:=()
def tw15930786542690871213:Unit:=()
def tw3092975352696093586:Unit:=()
def tw7034245280333576938:Unit:=()
def tw12252957861292305083:Unit:=()
def tw17167307358127250701:Unit:=()
def tw5758044101146862370:Unit:=()
def tw1748517065406452169:Unit:=()
def tw13066268110049127147:Unit:=()
def tw8802383492441655155:Unit:=()
def tw11344136278641312601:Unit:=()
def tw3271514551342110712:Unit:=()
def tw4860967326005342258:Unit:=()
def tw3176520327198130211:Unit:=()
def tw4264502348554132566:Unit:=()
def tw4041352941935038994:Unit:=()
def tw5009176094198191103:Unit:=()
def tw68466508146699244:Unit:=()
def tw12258455845025671433:Unit:=()
def tw10510787989185977883:Unit:=()
def tw11511728020753282990:Unit:=()
def tw4762309082397817207:Unit:=()
def tw578470947032971024:Unit:=()
def tw4156668145693352335:Unit:=()
def tw15032634379131284265:Unit:=()
def tw3814305839385005669:Unit:=()
def tw1147109517730878218:Unit:=()
def tw12409533998740828235:Unit:=()
def tw4949787934241796487:Unit:=()
def tw16917592662265569521:Unit:=()
def tw7974495318793047297:Unit:=()
def tw12710051749048081136:Unit:=()
def tw807537822569462465:Unit:=()
def tw13085170207191423008:Unit:=()
def tw781126422761664911:Unit:=()
def tw6745305351298959814:Unit:=()
def tw9248867097969915069:Unit:=()
def tw999679929931711184:Unit:=()
def tw6586611892633985001:Unit:=()
def tw11775737941638155110:Unit:=()
def tw9704151362377685607:Unit:=()
def tw7704839660221765815:Unit:=()
def tw5240438609263301748:Unit:=()
def tw17000403305797247919:Unit:=()
def tw18338750985229638685:Unit:=()
def tw14402103705164245738:Unit:=()
def tw4019518573027098615:Unit:=()
def tw2950898484395594775:Unit:=()
def tw12532600759311216738:Unit:=()
def tw12536603524776888824:Unit:=()
def tw14716563637245866317:Unit:=()
def tw13608658939918151933:Unit:=()
def tw723134687968001288:Unit:=()
def tw13363715089389977920:Unit:=()
def tw15094686874454229558:Unit:=()
def tw1611086928149028415:Unit:=()
def tw44854153489623547:Unit:=()
def tw6815176895870780060:Unit:=()
def tw3227403378370575145:Unit:=()
def tw7890432941296182478:Unit:=()
def tw1912663063723467432:Unit:=()
def tw6786360237373412244:Unit:=()
def tw8191645879921975354:Unit:=()
def tw11551064717491139328:Unit:=()
def tw15511747666123896439:Unit:=()
def tw9032967429280357541:Unit:=()
def tw14270976984197916001:Unit:=()
def tw5074619102479584320:Unit:=()
def tw3146506445478119437:Unit:=()
def tw118883474215466791:Unit:=()
def tw1701851703563156669:Unit:=()
def tw10755821332866041655:Unit:=()
def tw2138594389788018668:Unit:=()
def tw5677413094274722576:Unit:=()
def tw3109799988068790292:Unit:=()
def tw395681374971258470:Unit:=()
def tw12619951621628251849:Unit:=()
def tw10075734419829807507:Unit:=()
def tw12644980435682523043:Unit:=()
def tw16468483654120153412:Unit:=()
def tw3630582429111781777:Unit:=()
def tw1703469586963210980:Unit:=()
def tw3189780306566461100:Unit:=()
def tw10088624318400516881:Unit:=()
def tw18053627825746064632:Unit:=()
def tw16690510022581356562:Unit:=()
def tw8909647806361885331:Unit:=()
def tw12877530789885362252:Unit:=()
def tw15663977449183175218:Unit:=()
def tw11566174766266557809:Unit:=()
def tw4634414246083666375:Unit:=()
def tw16544296688675875186:Unit:=()
def tw12233200719996759951:Unit:=()
def tw18278542995893971735:Unit:=()
def tw6967935201096952829:Unit:=()
def tw1225287561454604310:Unit:=()
def tw220791032357384100:Unit:=()
def tw16863695989420104341:Unit:=()
end PySem.W.Fast
open PySem PySem.W
open PyProof.Rows
set_option maxHeartbeats 0 in
theorem PySem.Challenge.cw_slipcurve_k39_whole_slips_make_curves_gr_holds : PySem.Challenge.rw_slipcurve_k39_whole_slips_make_curves_gr.Holds := by
 w_on; o_law; k_head; (case hw=>w_witness2)
 k_fill
 refine My.walk (l:=PySem.Challenge.rw_slipcurve_k39_whole_slips_make_curves_gr) rfl rfl (fun w h Y=>PySem.W.kIn_of Y) ?F
 case F =>
  intro w mg fa h KX G hmg;refine' My.zpx KX G hmg ?a_SlipError ?a_NoCurve ?a_NoPaper ⟨_,_,My.zab ?da_value_at ?dl_value_at ?dc_value_at ?dk_value_at⟩ ⟨_,_,My.zab ?da_inverse ?dl_inverse ?dc_inverse ?dk_inverse⟩ ⟨_,_,My.zab ?da_times_root ?dl_times_root ?dc_times_root ?dk_times_root⟩ ⟨_,_,My.zab ?da_moved_powers ?dl_moved_powers ?dc_moved_powers ?dk_moved_powers⟩ ⟨_,_,My.zab ?da_numbers_at ?dl_numbers_at ?dc_numbers_at ?dk_numbers_at⟩ ⟨_,_,My.zab ?da_vectors_of ?dl_vectors_of ?dc_vectors_of ?dk_vectors_of⟩ ⟨_,_,My.zab ?da_without ?dl_without ?dc_without ?dk_without⟩ ⟨_,_,My.zab ?da_first_relation ?dl_first_relation ?dc_first_relation ?dk_first_relation⟩ ⟨_,_,My.zab ?da_first_sum ?dl_first_sum ?dc_first_sum ?dk_first_sum⟩ ⟨_,_,My.zab ?da_heard_points ?dl_heard_points ?dc_heard_points ?dk_heard_points⟩ ⟨_,_,My.zab ?da_fits ?dl_fits ?dc_fits ?dk_fits⟩ ⟨_,_,My.zab ?da_width_of ?dl_width_of ?dc_width_of ?dk_width_of⟩ ⟨_,_,My.zab ?da_filled ?dl_filled ?dc_filled ?dk_filled⟩ ⟨_,_,My.zab ?da_terms_of ?dl_terms_of ?dc_terms_of ?dk_terms_of⟩ ⟨_,_,My.zab ?da_turned ?dl_turned ?dc_turned ?dk_turned⟩ ⟨_,_,My.zab ?da_raised ?dl_raised ?dc_raised ?dk_raised⟩ ⟨_,_,My.zab ?da_size_of ?dl_size_of ?dc_size_of ?dk_size_of⟩ ⟨_,_,My.zab ?da_moved ?dl_moved ?dc_moved ?dk_moved⟩ ⟨_,_,My.zab ?da_weight_at ?dl_weight_at ?dc_weight_at ?dk_weight_at⟩ ⟨_,_,My.zab ?da_first_terms ?dl_first_terms ?dc_first_terms ?dk_first_terms⟩ ⟨_,_,My.zab ?da_least_curve ?dl_least_curve ?dc_least_curve ?dk_least_curve⟩ ⟨_,_,My.zab ?da_check_curves ?dl_check_curves ?dc_check_curves ?dk_check_curves⟩ ⟨_,_,My.zab ?da_curve_for ?dl_curve_for ?dc_curve_for ?dk_curve_for⟩ ⟨_,_,My.zab ?da_without_x ?dl_without_x ?dc_without_x ?dk_without_x⟩ ⟨_,_,My.zab ?da_next_curve ?dl_next_curve ?dc_next_curve ?dk_next_curve⟩ ⟨_,_,My.zab ?da_further ?dl_further ?dc_further ?dk_further⟩ ⟨_,_,My.zab ?da_roots_of ?dl_roots_of ?dc_roots_of ?dk_roots_of⟩ ⟨_,_,My.zab ?da_paper_of ?dl_paper_of ?dc_paper_of ?dk_paper_of⟩ ⟨_,_,My.zab ?da_paper_holds ?dl_paper_holds ?dc_paper_holds ?dk_paper_holds⟩ ⟨_,_,My.zab ?da_near_by ?dl_near_by ?dc_near_by ?dk_near_by⟩ ⟨_,_,My.zab ?da_l_cell ?dl_l_cell ?dc_l_cell ?dk_l_cell⟩ ⟨_,_,My.zab ?da_l_draws ?dl_l_draws ?dc_l_draws ?dk_l_draws⟩ ⟨_,_,My.zab ?da_l_code ?dl_l_code ?dc_l_code ?dk_l_code⟩ ⟨_,_,My.zab ?da_l_value ?dl_l_value ?dc_l_value ?dk_l_value⟩ ?sb ?al ?ll ?cl ?kl ?z_len ?z_range ?z_list ?z_tuple ?z_min ?z_max ?z_int ?z_all ?z_zip ?z_enumerate ?z_sum ?z_dict ?z_reversed ?z_sorted ?z_any ?z_ValueError (My.zqc ?y_MOST_PAPER_WEIGHT ?x_MOST_PAPER_WEIGHT)
  (case a_SlipError=>k_is)
  (case a_NoCurve=>k_is)
  (case a_NoPaper=>k_is)
  (case da_value_at=>k_is)
  (case dl_value_at=>k_is)
  (case dc_value_at=>k_is)
  (case dk_value_at=>k_is)
  (case da_inverse=>k_is)
  (case dl_inverse=>k_is)
  (case dc_inverse=>k_is)
  (case dk_inverse=>k_is)
  (case da_times_root=>k_is)
  (case dl_times_root=>k_is)
  (case dc_times_root=>k_is)
  (case dk_times_root=>k_is)
  (case da_moved_powers=>k_is)
  (case dl_moved_powers=>k_is)
  (case dc_moved_powers=>k_is)
  (case dk_moved_powers=>k_is)
  (case da_numbers_at=>k_is)
  (case dl_numbers_at=>k_is)
  (case dc_numbers_at=>k_is)
  (case dk_numbers_at=>k_is)
  (case da_vectors_of=>k_is)
  (case dl_vectors_of=>k_is)
  (case dc_vectors_of=>k_is)
  (case dk_vectors_of=>k_is)
  (case da_without=>k_is)
  (case dl_without=>k_is)
  (case dc_without=>k_is)
  (case dk_without=>k_is)
  (case da_first_relation=>k_is)
  (case dl_first_relation=>k_is)
  (case dc_first_relation=>k_is)
  (case dk_first_relation=>k_is)
  (case da_first_sum=>k_is)
  (case dl_first_sum=>k_is)
  (case dc_first_sum=>k_is)
  (case dk_first_sum=>k_is)
  (case da_heard_points=>k_is)
  (case dl_heard_points=>k_is)
  (case dc_heard_points=>k_is)
  (case dk_heard_points=>k_is)
  (case da_fits=>k_is)
  (case dl_fits=>k_is)
  (case dc_fits=>k_is)
  (case dk_fits=>k_is)
  (case da_width_of=>k_is)
  (case dl_width_of=>k_is)
  (case dc_width_of=>k_is)
  (case dk_width_of=>k_is)
  (case da_filled=>k_is)
  (case dl_filled=>k_is)
  (case dc_filled=>k_is)
  (case dk_filled=>k_is)
  (case da_terms_of=>k_is)
  (case dl_terms_of=>k_is)
  (case dc_terms_of=>k_is)
  (case dk_terms_of=>k_is)
  (case da_turned=>k_is)
  (case dl_turned=>k_is)
  (case dc_turned=>k_is)
  (case dk_turned=>k_is)
  (case da_raised=>k_is)
  (case dl_raised=>k_is)
  (case dc_raised=>k_is)
  (case dk_raised=>k_is)
  (case da_size_of=>k_is)
  (case dl_size_of=>k_is)
  (case dc_size_of=>k_is)
  (case dk_size_of=>k_is)
  (case da_moved=>k_is)
  (case dl_moved=>k_is)
  (case dc_moved=>k_is)
  (case dk_moved=>k_is)
  (case da_weight_at=>k_is)
  (case dl_weight_at=>k_is)
  (case dc_weight_at=>k_is)
  (case dk_weight_at=>k_is)
  (case da_first_terms=>k_is)
  (case dl_first_terms=>k_is)
  (case dc_first_terms=>k_is)
  (case dk_first_terms=>k_is)
  (case da_least_curve=>k_is)
  (case dl_least_curve=>k_is)
  (case dc_least_curve=>k_is)
  (case dk_least_curve=>k_is)
  (case da_check_curves=>k_is)
  (case dl_check_curves=>k_is)
  (case dc_check_curves=>k_is)
  (case dk_check_curves=>k_is)
  (case da_curve_for=>k_is)
  (case dl_curve_for=>k_is)
  (case dc_curve_for=>k_is)
  (case dk_curve_for=>k_is)
  (case da_without_x=>k_is)
  (case dl_without_x=>k_is)
  (case dc_without_x=>k_is)
  (case dk_without_x=>k_is)
  (case da_next_curve=>k_is)
  (case dl_next_curve=>k_is)
  (case dc_next_curve=>k_is)
  (case dk_next_curve=>k_is)
  (case da_further=>k_is)
  (case dl_further=>k_is)
  (case dc_further=>k_is)
  (case dk_further=>k_is)
  (case da_roots_of=>k_is)
  (case dl_roots_of=>k_is)
  (case dc_roots_of=>k_is)
  (case dk_roots_of=>k_is)
  (case da_paper_of=>k_is)
  (case dl_paper_of=>k_is)
  (case dc_paper_of=>k_is)
  (case dk_paper_of=>k_is)
  (case da_paper_holds=>k_is)
  (case dl_paper_holds=>k_is)
  (case dc_paper_holds=>k_is)
  (case dk_paper_holds=>k_is)
  (case da_near_by=>k_is)
  (case dl_near_by=>k_is)
  (case dc_near_by=>k_is)
  (case dk_near_by=>k_is)
  (case da_l_cell=>k_is)
  (case dl_l_cell=>k_is)
  (case dc_l_cell=>k_is)
  (case dk_l_cell=>k_is)
  (case da_l_draws=>k_is)
  (case dl_l_draws=>k_is)
  (case dc_l_draws=>k_is)
  (case dk_l_draws=>k_is)
  (case da_l_code=>k_is)
  (case dl_l_code=>k_is)
  (case dc_l_code=>k_is)
  (case dk_l_code=>k_is)
  (case da_l_value=>k_is)
  (case dl_l_value=>k_is)
  (case dc_l_value=>k_is)
  (case dk_l_value=>k_is)
  (case sb=>k_is)
  (case al=>k_is)
  (case ll=>k_is)
  (case cl=>k_is)
  (case kl=>k_is)
  (case z_len=>k_is)
  (case z_range=>k_is)
  (case z_list=>k_is)
  (case z_tuple=>k_is)
  (case z_min=>k_is)
  (case z_max=>k_is)
  (case z_int=>k_is)
  (case z_all=>k_is)
  (case z_zip=>k_is)
  (case z_enumerate=>k_is)
  (case z_sum=>k_is)
  (case z_dict=>k_is)
  (case z_reversed=>k_is)
  (case z_sorted=>k_is)
  (case z_any=>k_is)
  (case z_ValueError=>k_is)
  (case y_MOST_PAPER_WEIGHT=>k_is)
  (case x_MOST_PAPER_WEIGHT=>exact⟨_,rfl⟩)
#print axioms PySem.Challenge.cw_slipcurve_k39_whole_slips_make_curves_gr_holds
end