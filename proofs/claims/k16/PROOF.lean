import PyProof.Rows.All
import Wide.All
import OpenK.AllK
import Wide.FinOn
import Lean
import PyProof.EqAt
import PyProof.EqKinds
import KE.KDictOf
import PyProof.AttrMissHeap
import PyProof.Rows.MinMaxN
import PyProof.ListMulRoad
import KE.KUnpackStar
import KE.KIntText
import PyProof.CallStr
import KE.KDictSum
import KE.KSortTup
import PyProof.Walk
import PyProof.Rows.SortRuns
import PyProof.Rows.ChunkEnd
import PyProof.Rows.Range3
import PyProof.Rows.SeqGen
import PyProof.ConsumeWalk
import PyProof.ListRange
import PyProof.NeKinds
import PyProof.TupleCall
import PySem.Challenge.RW_slipcurve_k16_whole_reaches_hold
set_option maxHeartbeats 3999000
open List renaming length_map→ab,getElem?_map→af,getElem?_eq_getElem→aj,map_append→am,replicate→ap,length_append→aq,size_toArray→ar,getElem?_eq_some_iff→au,range→av,mem_map→az,mem_of_getElem?→aA,mem_cons_of_mem→aD,mem_cons→aF,length_take→aI,take_of_length_le→aJ,length_range→aL,mem_cons_self→aN,getD_eq_getElem?_getD→aO,mem_append_right→aP,length_replicate→aU,mem_singleton→aW,mem_append→aY,mem_range→aZ,mem_append_left→ba,not_mem_nil→be,map_cons→bg,getElem?_range→bi,getElem?_append_left→bj,lookup_cons→bn,zipWith→bu,mem_filter→bv,append_assoc→bD,map_map→bH,append_nil→bI,getElem?_append_right→bN,length_cons→bT,getElem?_eq_none→bV,range_succ→bX,getElem?_take_of_lt→b9,length_filter_le→cg,take_length→ci,pairwise_map→cj,getElem?_eq_none_iff→cm,filter_append→cn,map_congr_left→cr,take_append_drop→cw,getElem?_replicate→cC,replicate_succ→cI,flatMap_append→cJ,take_sublist→cK,getElem?_cons_succ→cQ,mem_flatMap→cR,flatten_replicate_singleton→cS,ext_getElem?→cU,drop_eq_getElem_cons→cX,pairwise_iff_getElem→cY,mem_iff_getElem?→c7,filter_cons_of_pos→db,filter_cons_of_neg→de,nodup_iff_pairwise_ne→du,length_drop→dv,extract_eq_take_drop→dA,getElem?_set_ne→dC,getElem?_of_mem→dN,flatMap_cons→dP,sum_cons→dQ,take_zero→dW,drop_eq_nil_of_le→dY,zip_cons_cons→d7,map_replicate→d8,nodup_cons→et,flatten_cons→eD,nodup_append→eE,eq_of_mem_replicate→eQ,length_take_le→eY,getElem_of_mem→eZ,forIn_cons→fc,find?_cons→fe,getElem?_drop→ff,filter_nil→fh,getElem?_set_self→fj,length→fk,map_nil→ft,drop_zero→fC,all_eq_true→fK,getElem_mem→fO,map_take→fR,any_cons→fS,filterMap_cons→fU,length_zipWith→fV,mem_map_of_mem→fW,filter_sublist→fX,length_pos_iff→fY,length_set→f9,mem_or_eq_of_mem_set→ga,getElem?_zip_eq_some→gb,getElem?_cons_zero→gw,length_eq_zero_iff→gz,range_succ_eq_map→gI,nodup_range→gL,flatMap_nil→gN,drop_length→gS,length_singleton→gU,concat_eq_append→gW,of_mem_zip→gZ,filter_map→g9,eq_nil_of_length_eq_zero→ig,forIn_nil→il,map_id→ir,pairwise_cons→iE,map_drop→iJ,take_nil→iL,take_add_one→iS,filter_congr→iT,nil_sublist→ja,sublist_nil→jb,set_eq_of_length_le→jd,map_set→je,foldl_cons→jj,length_nil→jm,getD→jp,lookup→jy,drop_of_length_le→jC,filter_eq_nil_iff→jD,getElem?_zipWith→jG,drop_drop→jH,eq_nil_or_concat→jI,pairwise_append→jV,mem_of_mem_drop→jW,mem_of_mem_take→jZ,dropLast_concat→j2,mem_filterMap→kq,forIn_toArray→kC,filter_filter→kD,getElem?_take→kH,getElem_take→kO,any_eq_false→kQ,zipIdx_cons→lg,map_flatMap→lq,any_eq_true→lr,prefix_refl→lu,foldl→lA,nil_append→lB,zipIdx_nil→lE,sum_append→lG,length_zip→lH,nodup_nil→lN,take_take→lO
open PySem renaming wpAny_bind→ae,wpAny_pure→ao,sizeLine_eq→bf,wpAny_callSpecial?_slot→bJ,wpAny_field→bM,wpAny_call_entry→bO,boot_len→bP,wpAny_setField_rec→bU,wpAny_holding→b7,wpAny_of_eq→cA,wpAny_rule→cF,wpAny_newObj_type→cL,wpAny_seqItems→cN,builtinLookup_eq_fast→c6,wpAny_mono→da,wpAny_attempt→dq,wpAny_typeNameOfWhole_keyiter→dR,wpAny_passesOwn→d9,typeLookup_type→eA,wpAny_setField→eI,wpAny_tryCatch→eJ,mem_of_lookup→eX,plainId_quiet→fb,codeAny_builtin→fg,wpAny_letGo→fm,call_meets→fI,wpAny_isInstance→fL,wpAny_standAt→fQ,wpAny_Call_Name_kw→gg,isSubtype_type→gp,wpAny_truthy_bool→gA,wpAny_pyIter_list→gB,wpAny_pyIter_enum→gC,wpAny_pyIter_rangeiter→gF,wpAny_pyIter_zip→gK,wpAny_execs_nil→gX,wpAny_specialOf→g7,wpAny_updateSeq_pair→g8,isSubtype_stop→ij,wpAny_newTuple→im,seqIndex_of→iq,intItems_at→iu,wpAny_pyIter_tuple→iz,tupleKind_room_in1→iC,wpAny_letOwnedTupleGo_enum→iH,wpAny_onRaise→iK,wpAny_pyIter_slot→iR,wpAny_dictEntries→iU,noFill_tuple_add→i3,wpAny_comprehension_free→i7,numAt_eq→jc,wpAny_loadPart'→jl,wpAny_dictEpoch→jn,wpAny_updateSeq→jo,wpAny_pyNext_range_end→jt,wpAny_notOrdered_dict→jJ,wpAny_isOneOf_keyiter→jL,wpAny_loadName_local→jN,wpAny_pyIter_revIter→jR,wpAny_pyIter_keyiter→jX,seq_tuple_add→j4,wpAny_handled→j5,nums_intItems→j9,wpAny_loadName_cell→kd,codeAny_mono→kr,concat_meets→kt,seqIndex_neg→ku,callType_new→kB,wpAny_typeOf→kG,list_append→kN,wpAny_throw→kU,wpAny_Name→lw,typeIs_int→ly,call→lC
open Nat renaming le_refl→ag,le_trans→aT,zero_le→bm,lt_of_lt_of_le→bw,ne_of_lt→bz,add_sub_cancel→bQ,lt_irrefl→cD,zero_add→cG,add_sub_cancel_left→df,add_zero→dJ,min_eq_left→dL,le_div_iff_mul_le→eB,mul_le_mul→eK,mul_comm→eP,sub_zero→eR,lt_succ_of_lt→fq,succ_mul→fu,sub_self→fF,mul_succ→fG,succ_le_succ→fH,le_add_right→fM,mul_le_mul_right→fP,pow_le_pow_left→fZ,le_of_lt→ge,ne_of_gt→gf,le_succ→gH,div_le_self→hX,lt_of_le_of_lt→iD,mod_two_eq_zero_or_one→iM,le_of_succ_le→iP,lt_succ_of_le→iW,le_of_not_lt→i4,succ_ne_self→i6,mul_mod→jE,pow_le_pow_right→jY,add_le_add_left→kj,pow_succ→kE,zero_mul→kK,mul_left_comm→kR,lt_succ_self→k8,le_add_left→lI,succ→lW
open PySem.W renaming Frag→ah,mg_of→aR,mg_none_of→bL,nsIn→bR,fnOf→dD,keepIn→gm,codeIn→gn,methodObj→iN,OpenLaw→jk,cellsFrom_some→jv,kat_kind→lj,WalkO→lS,mroIn→lT
open PySem.Heap renaming get?_push_of_some→ai,get?_push_size→aG,lt_size→aK,SameBut→bF,size_push→bZ,get?_update_other→cH,get?_update_self→cZ,get?_update_ne→ki,ExtBut→kT
open Or renaming inl→ak,inr→cB
open PyProof.Rows renaming wpS_bind→aw,wpS_pure→aB,callWith_type1→bA,wpS_forRange→c9,zipApart_new→dF,wpS_mono→dU,wpS_modify→fN,boot_max→gk,wpS_get→gr,wpS_lift→io,boot_tuple→iY,pairsOf_size→i9,subscriptTail_builtinR→jw,mirror_perm→jB,pairsOf_toList→jM,boot_range→jO,listUpdate_at→j8,getElem?_mirror_all→kh,boot_list→kJ,seqEpoch_at→kY,boot_zip→k9
open Int renaming emod_lt_of_pos→aH,emod_nonneg→aQ,toNat_natCast→bC,le_refl→bS,le_trans→ck,zero_add→cq,emod_eq_of_lt→cM,zero_mul→cP,add_zero→cT,mul_zero→dG,mul_le_mul_of_nonneg_right→dM,le_of_lt→fA,pow_succ→fE,natCast_add→gc,natCast_ediv→gT,natCast_mul→ic,fdiv_eq_ediv_of_nonneg→iG,mul_comm→i8,sub_zero→kF,natCast_nonneg→kL,lt_of_le_of_lt→kM,lt_trichotomy→kP,mul_one→kS,one_mul→kX,mul_add→kZ,natCast_sub→lJ
open Bool renaming false_ne_true→aS,false_eq_true→br,eq_iff_iff→cV,and_eq_true→fJ,or_eq_true→lD,false_and→lK,and_false→lM
open Option.some renaming inj→aV,injEq→iV
open PySem.Paired renaming length→a8,snoc→b8,mono→dB
open PySem.Value renaming ref→bd,none→dm,int→iw,builtin→kb,str→lQ,isStrOf→lR
open Array renaming length_toList→bh,getElem?_toList→bE,toList_append→bW,getElem?_eq_some_iff→dt,toList_extract→dI,perm_iff_toList_perm→fT,toList_reverse→hJ,toList_map→li,size_map→lP,toList→lV
open PySem.Builtin.Range renaming rangeFitsLong→bo,rangeSize→bG
open PySem.Builtin.SmallTypes renaming nextOf→bp,ownedTupleIsFree→cb,ownedTupleHandOut→c8,newRecord→lL
open PySem.PassesOwn renaming never→bq
open PySem.Str renaming ofString→bK
open Classical renaming byContradiction→bY,propDecidable→ji,em→kz
open PySem.NameKind renaming free→cE,cell→dn
open ForInStep renaming yield→cW,done→gu
open Sum renaming inl→dh,inr→iZ
open Ne renaming symm→dj
open PySem.Heap.SameBut renaming update→dk
open PySem.Around renaming in1_units→dw,under_plainId→dO
open PySem.Obj renaming data_mapFields→dz,mapSeq→dE,isFreed_of_fields→fw,mapFields→iI,cls_mapFields→iQ
open PySem.F renaming slot_zip_next→dH,plainAttrs_list→dS,slot_dict_keyiterator_next→dX,slot_tuple_iterator_next→eC,slot_list_append→eS,type_list_append→eU,slot_enumerate_next→fz,args_tuple_add_2→gh,entry_tuple_add→gv,args_zip_next_1→gD,slot_tuple_add→gG,entry_zip_next→gM,entry_max_loop→gO,plain_max_loop→gP,entry_min_loop→gQ,plain_min_loop→gR,slot_dict_get→gV,args_dict_keyiterator_next_1→hU,entry_dict_keyiterator_next→ie,args_tuple_iterator_next_1→ik,entry_tuple_iterator_next→iA,args_enumerate_next_1→jf,args_dict_get_3→jg,entry_enumerate_next→jz,entry_dict_get→jA,typeCall_reversed_1→jF,args_list_append_2→jQ,newCall_reversed_1→jS,args_object_init_2→jT,entry_reversed_new→jU,plain_reversed_new→j3,entry_list_append→kf,slot_list_append→kx,slot_dict_iter→lh
open PySem.Calls renaming spliced_cons→dZ,spliced_nil→fo,Name_function_global→iF,callWith_builtin→jx,evalArgs_plain→jP
open PySem.Builtin.Builtins renaming bindParams→d6
open False renaming elim→eG
open PySem.Builtin.List renaming listTooLong→eL
open List.Pairwise renaming sublist→fB,imp_of_mem→gi,imp→gE,nil→iO,filter→j1
open List.Perm renaming trans→f'
open List.Sublist renaming nodup→gj
open PySem.Draws renaming list→gq
open Option renaming map_eq_some_iff→gJ,getD_some→i5,toList→j6,isSome_some→kA,getD_none→k6,isSome→lU,none→lY
open PySem.Builtin.Dict_items renaming ownsTuple→ip
open PySem.SeqAt.EqAt renaming of_refs→iB,int_str→km,str_int→ko,same→lx
open True renaming intro→iX
open PySem.Builtin.Dict renaming updateFrom→jh,showsAll→jK
open Sum.inl renaming inj→jq
open PySem.Data renaming fields→jr
open PyProof renaming noPylong_small→ju
open List.cons renaming inj→j7
open PySem.SeqAt.RcNeAt renaming tuples→kg
open PySem.Shared renaming heap→kW
open PySem.IsL renaming update→k7
open PyProof.Rows.SortSt renaming mk'→lF
open Prod renaming ext→lX
open PySem.W.KatTups renaming cons→lZ
local macro_rules | `(tactic| trivial)=>`(tactic| first | exact .inl rfl | exact .inr rfl | assumption)
local macro_rules|`(#[$xs,*])=>do
 let a:=xs.getElems
 if h:a.size=0 then Lean.Macro.throwUnsupported else
 let s:=a[0].raw.getId.eraseMacroScopes.toString
 if s=="O" then `(by lia) else if s=="D" then `(by decide) else if s=="N" then `(by decide +kernel) else if s=="S" then `(⟨rfl,rfl,rfl,by decide +kernel,rfl,by decide +kernel,by decide +kernel⟩) else if s=="A" then `(Or.inl rfl) else if s=="M" then `(by simp) else
 match [("_____eb","ze"),("________eee","zbm zi"),("________eeee","zL"),("_","zga zq zB zaw zdh zH zU zI zN zma zd zdp ze2 zc0 zaX zap za2 zz zcp zG zcs zb4 zar zgK zcr zpt"),("_e__f","pvx"),("_________ereeeddrr","zo zaE"),("___er","ya"),("___e","zl zbJ zaJ"),("____e","zC z0 zmj zY zaL zgJ zi1 zl3"),("_______eeeu","zK"),("____","zf zf6"),("__e____efeert","zm"),("_____e","za0"),("______b","zcP"),("_____eer","za zj"),("________________eefeeeneedrr","zp"),("________efeeei","zaD"),("______feer","z9"),("__e_efet","zg"),("____er","zdy"),("____________eeeeeerrrrr","zhL"),("_f","zgb zcg zd2"),("_____________efeeeeei","zO"),("__f","zae"),("_ef","zaQ zaz zjX"),("__________eeee","zby"),("______eerrr","zbp"),("______ferr","zbf"),("_____________e___efeefeeeeerit","zaO"),("___","zd1"),("______eee","zeZ"),("__e______efeeet","zi4"),("___fe","zy"),("_________feerr","zdE"),("_e___e_fferr","zaf"),("_______eeei","zgI"),("_____________________efeeddeeeeeeeie","zkh"),("________feer","zcN"),("___ee","zhI"),("_____________________e___efeefeeddeeeeeeeriet","zfn"),("__","zf7"),("______ee","zps"),("_______ee","zpq")].find? fun q=>(q.2.splitOn " ").contains s with
 |none=>Lean.Macro.throwUnsupported
 |some (p,_)=>do
  let mut r:=#[]
  let mut i:=1
  for c in p.toList do
   if c=='e' then
    r:=r.push (a[i]!)
    i:=i+1
   else if c=='b' then
    r:=r.push (←`((by exact $(a[i]!))))
    i:=i+1
   else r:=r.push (←match c with|'_'=>`(_)|'r'=>`((by rfl))|'d'=>`((by decide))|'f'=>`(rfl)|'t'=>`((by trivial))|'i'=>`((by intro _; rfl))|'u'=>`((fun _ _=>rfl))|'n'=>`(.nil)|'l'=>`(Or.inl rfl)|'o'=>`(Or.inr rfl)|_=>`(nomark _))
  return Lean.Syntax.mkApp (←`(@$(⟨a[0].raw⟩):ident)) r
set_option Elab.async false
set_option linter.all false
set_option maxRecDepth 100000
namespace L2
open PySem PySem.Spec PyProof.Rows
abbrev Key:=Sum Int Str
def zf4:Key→Value→Bool
 | .inl k,v=>Value.isInt k v
 | .inr x,v=>lR x v
def zrF (w:World):Key→Int
 | .inl k=>hashInt k
 | .inr x=>hashStr w x
theorem zau:∀ {k:Key} {v:Value},zf4 k v=true→(∃ i t,k=dh i∧v=iw i t)∨(∃ x t,k=iZ x∧v=lQ x t)
 | .inl i,v,h=>by
  obtain⟨t,e⟩:=Value.isInt_shape (k:=i) (v:=v) h;exact .inl ⟨i,t,rfl,e⟩
 | .inr x,v,h=>by
  obtain⟨t,e⟩:=Value.isStrOf_shape (x:=x) (v:=v) h;exact .inr ⟨x,t,rfl,e⟩
theorem zkT (i:Int) (t:Tok):zf4 (.inl i) (.int i t)=true:=by simp [zf4,Value.isInt]
theorem zkU (x:Str) (t:Tok):zf4 (.inr x) (.str x t)=true:=by simp [zf4,lR]
theorem zpR (a b:Int):decide ((dh a:Key)=dh b)=(a == b):=by
 by_cases e:a=b
 ·subst e; simp
 ·have h:¬ (dh a:Key)=dh b:=fun q=>e (jq q)
  rw [decide_eq_false h];exact (beq_eq_false_iff_ne.mpr e).symm
theorem zpS (a b:Str):decide ((iZ a:Key)=iZ b)=decide (a=b):=by
 by_cases e:a=b
 ·subst e; simp
 ·have h:¬ (iZ a:Key)=iZ b:=fun q=>e (Sum.inr.inj q)
  rw [decide_eq_false h,decide_eq_false e]
theorem zpT (a:Int) (b:Str):decide ((dh a:Key)=iZ b)=false:=decide_eq_false (fun q=>nomatch q)
theorem zpU (a:Str) (b:Int):decide ((iZ a:Key)=dh b)=false:=decide_eq_false (fun q=>nomatch q)
def zav (prog:Program) (w:World):PySem.KeyKind prog w Key where
 is:=zf4
 hash:=zrF w
 inj:=fun v a b ha hb=>by
  rcases zau ha with ⟨i,t,rfl,rfl⟩ | ⟨x,t,rfl,rfl⟩
  ·rcases zau hb with ⟨j,u,rfl,e⟩ | ⟨y,u,rfl,e⟩
   ·injection e with e1 _; rw [e1]
   ·exact nomatch e
  ·rcases zau hb with ⟨j,u,rfl,e⟩ | ⟨y,u,rfl,e⟩
   ·exact nomatch e
   ·injection e with e1 _; rw [e1]
 byValue:=fun k v h=>by
  rcases zau h with ⟨i,t,rfl,rfl⟩ | ⟨x,t,rfl,rfl⟩ <;> rfl
 pyHash:=fun hv h=>by
  rcases zau hv with ⟨i,t,rfl,rfl⟩ | ⟨x,t,rfl,rfl⟩
  ·exact wpAny_pyHash_int h
  ·exact wpAny_pyHash_str h
 eqBool:=fun hu hv h=>by
  rcases zau hu with ⟨i,t,rfl,rfl⟩ | ⟨x,t,rfl,rfl⟩
  ·rcases zau hv with ⟨j,u,rfl,rfl⟩ | ⟨y,u,rfl,rfl⟩
   ·rw [zpR] at h; exact wpAny_eqBool_int h
   ·rw [zpT] at h; exact km i t y u _ _ _ _ h
  ·rcases zau hv with ⟨j,u,rfl,rfl⟩ | ⟨y,u,rfl,rfl⟩
   ·rw [zpU] at h; exact ko x t j u _ _ _ _ h
   ·rw [zpS] at h; exact wpAny_eqBool_str h
 «strs»:=fun k x t v h=>by
  rcases zau h with ⟨i,u,rfl,e⟩ | ⟨y,u,rfl,e⟩
  ·exact nomatch e
  ·injection e with e1 _
   subst e1;cases v <;> rfl
theorem zhB (prog:Program) (w:World) (i:Int) (t:Tok):(zav prog w).is (.inl i) (.int i t)=true:=zkT i t
theorem zhC (prog:Program) (w:World) (x:Str) (t:Tok):(zav prog w).is (.inr x) (.str x t)=true:=zkU x t
inductive V where
 | non | bl (b:Bool) | int (i:Int) | str (x:Str) | byt (b:Array UInt8) | flt (b:UInt64) | ref (a:Addr) | ty (n:String)
 deriving DecidableEq
def RelV:V→Value→Prop
 | .non,u=>u=dm
 | .bl b,u=>u=Value.bool b
 | .int i,u=>∃ t,u=iw i t
 | .str x,u=>∃ t,u=lQ x t
 | .byt b,u=>∃ t,u=Value.bytes b t
 | .flt b,u=>∃ t,u=Value.float b t
 | .ref a,u=>u=bd a
 | .ty n,u=>u=Value.type n
abbrev zS:List V→List Value→Prop:=Paired RelV
theorem zS.length {xs:List V} {us:List Value} (r:zS xs us):xs.length=us.length:=a8 r
theorem zS.get:∀ {xs:List V} {us:List Value} {i:Nat} {x:V},zS xs us→xs[i]? = some x→∃ u,us[i]? = some u∧RelV x u
 | _,_,_,_,.nil,e=>by simp at e
 | _,_,0,_,.cons r _,e=>by simp at e; subst e; exact⟨_,rfl,r⟩
 | _,_,i+1,x,.cons _ t,e=>by
  obtain⟨u,h1,h2⟩:=zS.get (i:=i) (x:=x) t (by simpa using e);exact⟨u,by simpa using h1,h2⟩
theorem zS.set {x:V} {u:Value} (r:RelV x u):∀ {xs:List V} {us:List Value} (i:Nat),zS xs us→zS (xs.set i x) (us.set i u)
 | _,_,_,.nil=>.nil
 | _,_,0,.cons _ t=>.cons r t
 | _,_,i+1,.cons q t=>.cons q (zS.set r i t)
theorem zS.append:∀ {xs ys:List V} {us ws:List Value},zS xs us→zS ys ws→zS (xs++ys) (us++ws)
 | _,_,_,_,.nil,s=>s
 | _,_,_,_,.cons r t,s=>.cons r (zS.append t s)
theorem zS.take:∀ {xs:List V} {us:List Value} (n:Nat),zS xs us→zS (xs.take n) (us.take n)
 | _,_,0,_=>.nil
 | _,_,_+1,.nil=>.nil
 | _,_,n+1,.cons r t=>.cons r (zS.take n t)
theorem zS.drop:∀ {xs:List V} {us:List Value} (n:Nat),zS xs us→zS (xs.drop n) (us.drop n)
 | _,_,0,r=>r
 | _,_,_+1,.nil=>.nil
 | _,_,n+1,.cons _ t=>zS.drop n t
def zhD:Option V→Option Value→Prop
 | some v,some u=>RelV v u
 | none,none=>True
 | _,_=>False
def KV {κ:Type}:List (κ×V)→List (κ×Value)→Prop:=Paired fun (p:κ×V) (q:κ×Value)=>p.1=q.1∧RelV p.2 q.2
def kV:Key→V
 | .inl i=>.int i
 | .inr x=>.str x
inductive HO where
 | lst (xs:List V)
 | tup (xs:List V)
 | dK (mo:List (Key×V)) | dT (mo:List (List Key×V))
 | set (S:Int→Bool) (n:Nat)
 | ins (C dx:Addr) (fs:List (Str×V))
 | own (x:Addr)
 | xd (fs:List (Str×V))
 | met (f x:Addr)
 | rng (lo hi:Int)
 | frz (o:Obj) (u:HO)
 | tbl (ps:Array Value)
 | ext (φ:Heap→Prop)
abbrev Hp:=Addr→Option HO
def mh (H:Hp) (a:Addr) (o:HO):Hp:=fun b=>if b=a then some o else H b
theorem zc {H:Hp} {a:Addr} {o:HO}:mh H a o a=some o:=by unfold mh; rw [if_pos rfl]
theorem zn {H:Hp} {a b:Addr} {o:HO} (h:b≠a):mh H a o b=H b:=by unfold mh; rw [if_neg h]
theorem zn5 {H:Hp} {a:Addr} {o u:HO}:mh (mh H a o) a u=mh H a u:=by
 funext b; unfold mh; split <;> rfl
theorem zpp {H:Hp} {a b:Addr} {o u:HO} (h:H a=some o) (h':H b=some u) (d:o≠u):a≠b:=by
 intro e; subst e; rw [h] at h'; exact d (aV h')
theorem zA {H:Hp} {a b:Addr} {o:HO} (h:H a=some o) (h':H b=none):a≠b:=by
 intro e; subst e; rw [h] at h'; cases h'
section
variable (P:Program) (w:World)
def zas (H:Hp) (h:Heap) (a:Addr):HO→Prop
 | .lst xs=>xs.length≤sizeLine∧∃ (mf:List Value) (n:Nat),zS xs mf∧h.get? a=some { cls:=.type "list",data:=.seq mf.toArray n }
 | .tup xs=>xs.length≤sizeLine∧∃ mf:List Value,zS xs mf∧IsTup h a mf.toArray
 | .dK mo=>mo.length≤sizeLine∧(a == sysModules)=false∧∃ vs,KV mo vs∧h.DictOf (zav P w) a vs
 | .dT mo=>mo.length≤sizeLine∧(a == sysModules)=false∧∃ xs:List (List Key×Addr×Value),
   Paired (fun (p:List Key×V) (q:List Key×Addr×Value)=>p.1=q.1∧H q.2.1=some (.tup (p.1.map kV))∧RelV p.2 q.2.2) mo xs ∧
   ∃ o es ep,h.get? a=some o∧o.ExactDict∧o.data = .dict es ep∧es.toList=xs.map (entryOfKey (tupleKind (zav P w)))∧(xs.map (·.1)).Nodup
 | .set S n=>h.SetOf (intKind P w) a S n
 | .ins C dx fs=>H dx=some (.own a)∧fs.length≤1000∧dx≠a∧h.get? a=some (PySem.W.instObj C dx) ∧
   ∃ mA,h.Ns1 dx mA∧(∀ f,zhD (fs.lookup f) (mA f))∧PySem.Within mA (fs.map (·.1))
 | .own _=>∃ o,h.get? a=some o
 | .xd fs=>∃ mA,h.Ns1 a mA∧∀ f,zhD (fs.lookup f) (mA f)
 | .rng lo hi=>∃ t u v,h.get? a=some { cls:=.type "range",data:=.fields #[.int lo t,.int hi u,.int 1 v] }
 | .frz o u=>h.get? a=some o∧zas H h a u
 | .tbl ps=>h.get? a=some { cls:=.none,data:=.fields ps }
 | .met f x=>h.get? a=some (iN (.ref f) (.ref x))
 | .ext φ=>φ h∧(∃ o,h.get? a=some o)∧∀ h1 h2:Heap,φ h1→(∀ o,h1.get? a=some o→h2.get? a=some o)→φ h2
def HOk (H:Hp) (h:Heap):Prop:=∀ a o,H a=some o→zas P w H h a o
end
section
variable {P:Program} {w:World} {H H':Hp} {h h':Heap} {a:Addr} {o:HO}
theorem zas.lt (x:zas P w H h a o):a < h.objs.size:=by
 cases o with
 | lst xs=>obtain⟨_,_,_,_,e⟩:=x; exact aK e
 | tup xs=>obtain⟨_,_,_,p⟩:=x; exact p.lt
 | dK mo=>obtain⟨_,_,_,_,o,_,_,e,_⟩:=x; exact aK e
 | dT mo=>obtain⟨_,_,_,_,o,_,_,e,_⟩:=x; exact aK e
 | set S n=>obtain⟨o,_,_,_,e,_⟩:=x; exact aK e
 | ins C dx fs=>obtain⟨_,_,_,e,_⟩:=x; exact aK e
 | own y=>obtain⟨_,e⟩:=x; exact aK e
 | xd fs=>obtain⟨_,⟨_,_,_,e,_⟩,_⟩:=x; exact aK e
 | rng lo hi=>obtain⟨_,_,_,e⟩:=x; exact aK e
 | frz ob u=>obtain⟨e,_⟩:=x; exact aK e
 | tbl ps=>exact aK (show h.get? a=some _ from x)
 | met f y=>exact aK (show h.get? a=some _ from x)
 | ext φ=>obtain⟨_,⟨_,e⟩,_⟩:=x; exact aK e
theorem Paired.mapP {α β:Type} {F G:α→β→Prop}:∀ {l₁:List α} {l₂:List β},Paired F l₁ l₂→(∀ a b,F a b→G a b)→Paired G l₁ l₂
 | _,_,.nil,_=>.nil
 | _,_,.cons r t,f=>.cons (f _ _ r) (Paired.mapP t f)
theorem zas.stay (x:zas P w H h a o) (k:∀ b u,(b=a∨H b=some (.own a))→h.get? b=some u→h'.get? b=some u)
  (ho:∀ b,H b=some (.own a)→H' b=some (.own a)) (ht:∀ b xs,H b=some (.tup xs)→H' b=some (.tup xs)):zas P w H' h' a o:=by
 induction o with
 | lst xs=>obtain⟨z,mf,n,r,e⟩:=x; exact⟨z,mf,n,r,k _ _ (.inl rfl) e⟩
 | tup xs=>obtain⟨z,mf,r,ob,e,c⟩:=x; exact⟨z,mf,r,ob,k _ _ (.inl rfl) e,c⟩
 | dK mo=>obtain⟨z,y,vs,r,ob,es,ep,e,c⟩:=x; exact⟨z,y,vs,r,ob,es,ep,k _ _ (.inl rfl) e,c⟩
 | dT mo =>
  obtain⟨z,y,xs,r,ob,es,ep,e,c⟩:=x;exact⟨z,y,xs,Paired.mapP r fun p q z=>⟨z.1,ht _ _ z.2.1,z.2.2⟩,ob,es,ep,k _ _ (.inl rfl) e,c⟩
 | set S n=>obtain⟨ob,es,ep,t,e,c⟩:=x; exact⟨ob,es,ep,t,k _ _ (.inl rfl) e,c⟩
 | ins C dx fs =>
  obtain⟨d,z,ne,e,mA,⟨od,es,ep,e2,c⟩,r⟩:=x;exact⟨ho _ d,z,ne,k _ _ (.inl rfl) e,mA,⟨od,es,ep,k _ _ (.inr d) e2,c⟩,r⟩
 | own y=>obtain⟨ob,e⟩:=x; exact⟨ob,k _ _ (.inl rfl) e⟩
 | xd fs=>obtain⟨mA,⟨od,es,ep,e,c⟩,r⟩:=x; exact⟨mA,⟨od,es,ep,k _ _ (.inl rfl) e,c⟩,r⟩
 | rng lo hi=>obtain⟨t,u,v,e⟩:=x; exact⟨t,u,v,k _ _ (.inl rfl) e⟩
 | frz ob u ih=>obtain⟨e,q⟩:=x; exact⟨k _ _ (.inl rfl) e,ih q⟩
 | tbl ps =>
  have e:h.get? a=some { cls:=.none,data:=.fields ps }:=x;show h'.get? a=some { cls:=.none,data:=.fields ps };exact k a _ (.inl rfl) e
 | met f y =>
  have e:h.get? a=some (iN (.ref f) (.ref y)):=x;show h'.get? a=some (iN (.ref f) (.ref y));exact k a _ (.inl rfl) e
 | ext φ=>obtain⟨p,⟨o,e⟩,st⟩:=x; exact⟨st _ _ p fun o q=>k _ _ (.inl rfl) q,⟨o,k _ _ (.inl rfl) e⟩,st⟩
theorem HOk.lt (x:HOk P w H h) (e:H a=some o):a < h.objs.size:=(x a o e).lt
theorem HOk.fresh (x:HOk P w H h) (e:h.objs.size≤a):H a=none:=by
 cases q:H a with
 | none=>rfl
 | some u=>exact absurd (bw (x.lt q) e) (cD _)
theorem HOk.kept (x:HOk P w H h) (k:∀ b u,h.get? b=some u→h'.get? b=some u):HOk P w H h':=fun a o e =>
 (x a o e).stay (fun b u _ q=>k b u q) (fun _ q=>q) fun _ _ q=>q
theorem HOk.laid (x:HOk P w H h) (k:∀ b u,h.get? b=some u→h'.get? b=some u) (hp:h.objs.size≤a) (new:zas P w (mh H a o) h' a o):HOk P w (mh H a o) h':=fun b u e=>by
 have hn:=x.fresh hp;by_cases hb:b=a
 ·subst hb; rw [zc] at e; cases e; exact new
 ·rw [zn hb] at e;exact (x b u e).stay (fun c v _ q=>k c v q) (fun c q=>by rw [zn (zA q hn)]; exact q) fun c xs q=>by rw [zn (zA q hn)]; exact q
end
def Rd (H:Hp) (a:Addr) (u:HO):Prop:=H a=some u∨∃ o,H a=some (.frz o u)
theorem Rd.ok {P:Program} {w:World} {H:Hp} {h:Heap} {a:Addr} {u:HO} (r:Rd H a u) (x:HOk P w H h):zas P w H h a u:=by
 rcases r with r | ⟨o,r⟩
 ·exact x a u r
 ·obtain⟨_,q⟩:=x a _ r;exact q
def Mut:Option HO→Prop
 | some (.lst _)=>True
 | some (.dK _)=>True
 | some (.dT _)=>True
 | some (.set _ _)=>True
 | some (.ins _ _ _)=>True
 | some (.ext _)=>True
 | _=>False
section
variable {P:Program} {w:World} {H:Hp} {h h':Heap} {x e:Addr} {o':HO}
theorem HOk.write (ok:HOk P w H h) (mu:Mut (H x)) (he:e=x∨H e=some (.own x)) (k:∀ b u,b≠e→h.get? b=some u→h'.get? b=some u) (BG:∃ u,h'.get? e=some u)
  (new:zas P w (mh H x o') h' x o'):HOk P w (mh H x o') h':=fun b u q=>by
 have Cc:∀ c y,H c=some (.own y)→c≠x:=fun c y r z=>by subst z; rw [r] at mu; exact mu
 have EO:∀ c xs,H c=some (.tup xs)→c≠x:=fun c xs r z=>by subst z; rw [r] at mu; exact mu
 by_cases hb:b=x
 ·subst hb; rw [zc] at q; cases q; exact new
 ·rw [zn hb] at q;by_cases Ak:b=e
  ·have q':H b=some (.own x):=by
    rcases he with z | z
    ·exact absurd (Ak.trans z) hb
    ·rw [Ak]; exact z
   rw [q] at q'; cases q';obtain⟨v,hv⟩:=BG;exact⟨v,by rw [Ak]; exact hv⟩
  ·refine (ok b u q).stay (fun c v hc r=>k c v ?_ r) (fun c r=>by rw [zn (Cc c b r)]; exact r) fun c xs r=>by rw [zn (EO c xs r)]; exact r
   rcases hc with rfl | hc
   ·exact Ak
   ·rintro rfl;rcases he with z | z
    ·exact Cc c b hc z
    ·rw [hc] at z; cases z; exact hb rfl
end
structure Un (fs ex:List Addr) (H H':Hp) (h h':Heap):Prop where
 keep:∀ b o,h.get? b=some o→H b=none→b∉fs→b∉ex→h'.get? b=some o
 slot:∀ b o,h.get? b=some o→H b=none→b∈fs→b∉ex→∃ sl,h'.get? b=some { o with slots:=sl }
 free:∀ b o,h.get? b=some o→H b=none→b∉ex→H' b=none
 there:∀ b o,h.get? b=some o→b∉ex→∃ o',h'.get? b=some o'
 tups:∀ b xs,H b=some (.tup xs)→H' b=some (.tup xs)
 frzs:∀ b o u,H b=some (.frz o u)→H' b=some (.frz o u)
 tbls:∀ b ps,H b=some (.tbl ps)→∃ more,H' b=some (.tbl (ps++more))
section
variable {fs fs' ex ex':List Addr} {H H1 H2:Hp} {h h1 h2 h':Heap} {a x e:Addr} {o:HO}
theorem Un.any (u:Un fs ex H H1 h h1) {b:Addr} {ob:Obj} (q:h.get? b=some ob) (n:H b=none) (hx:b∉ex):∃ sl,h1.get? b=some { ob with slots:=sl }:=by
 by_cases hb:b∈fs
 ·exact u.slot b ob q n hb hx
 ·exact⟨ob.slots,u.keep b ob q n hb hx⟩
theorem Un.kept (k:∀ b u,h.get? b=some u→h'.get? b=some u):Un fs ex H H h h' :=
 ⟨fun b ob q _ _ _=>k b ob q,fun b ob q _ _ _=>⟨ob.slots,k b ob q⟩,fun _ _ _ n _=>n,fun b ob q _=>⟨ob,k b ob q⟩,fun _ _ q=>q,fun _ _ _ q=>q,fun _ ps q=>⟨#[],by rw [q]; simp⟩⟩
theorem Un.refl:Un fs ex H H h h:=Un.kept fun _ _ q=>q
theorem Un.laid (k:∀ b u,h.get? b=some u→h'.get? b=some u) (hp:h.objs.size≤a) (hn:H a=none):Un fs ex H (mh H a o) h h' where
 keep:=fun b u q _ _ _=>k b u q
 slot:=fun b u q _ _ _=>⟨u.slots,k b u q⟩
 free:=fun b u q n _=>by rw [zn (bz (bw (aK q) hp))]; exact n
 there:=fun b u q _=>⟨u,k b u q⟩
 tups:=fun b xs q=>by rw [zn (zA q hn)]; exact q
 frzs:=fun b u xs q=>by rw [zn (zA q hn)]; exact q
 tbls:=fun b ps q=>⟨#[],by rw [zn (zA q hn),q]; simp⟩
theorem Un.write (mu:Mut (H x)) (he:e=x∨H e=some (.own x)) (k:∀ b u,b≠e→h.get? b=some u→h'.get? b=some u) (BG:∃ u,h'.get? e=some u):Un fs ex H (mh H x o) h h':=by
 have hx:∀ b,H b=none→b≠x:=fun b n z=>by subst z; rw [n] at mu; exact mu
 have hb:∀ b,H b=none→b≠e:=fun b n z=>by
  subst z;rcases he with r | r
  ·exact hx b n r
  ·rw [n] at r; cases r
 have hm:∀ b u,H b=some u→¬ Mut (some u)→b≠x:=fun b u q nm z=>by subst z; rw [q] at mu; exact nm mu
 refine⟨fun b u q n _ _=>k b u (hb b n) q,fun b u q n _ _=>⟨u.slots,k b u (hb b n) q⟩,fun b u q n _=>by rw [zn (hx b n)]; exact n,fun b u q _=>?_,
  fun b xs q=>by rw [zn (hm b _ q fun z=>z)]; exact q,fun b u xs q=>by rw [zn (hm b _ q fun z=>z)]; exact q,fun b ps q=>⟨#[],by rw [zn (hm b _ q fun z=>z),q]; simp⟩⟩
 by_cases Ak:b=e
 ·subst Ak; exact BG
 ·exact⟨u,k b u Ak q⟩
end
def trk (h:Heap) (H:Hp):List Addr:=(av h.objs.size).filter fun a=>(H a).isSome
def zgH (h:Heap) (H:Hp):Heap:=PySem.W.hideAll h (trk h H)
theorem zkV (h:Heap) (H:Hp):(zgH h H).objs.size=h.objs.size:=PySem.W.hideAll_size _ _
theorem zl2 {h:Heap} {H:Hp} {b:Addr} {o:Obj} (e:h.get? b=some o) (n:H b=none):(zgH h H).get? b=some o :=
 PySem.W.hideAll_get _ e fun hm=>by
  have q:(H b).isSome=true:=(bv.mp hm).2;rw [n] at q; simp at q
theorem zn6 {h:Heap} {H:Hp} {b:Addr} {o:Obj} (e:(zgH h H).get? b=some o):h.get? b=some o∧H b=none:=by
 have e':h.get? b=some o:=PySem.W.of_hideAll (trk h H) e;refine⟨e',?_⟩;cases q:H b with
 | none=>rfl
 | some x =>
  have hm:b∈trk h H:=bv.mpr ⟨aZ.mpr (aK e'),by simp [q]⟩;have z:(zgH h H).get? b=none:=PySem.W.hideAll_none (trk h H) hm;rw [z] at e; cases e
structure Mod (K:ah) (mg:Str→Option Value) (base:Heap):Prop where
 kin:K.In base
 glob:base.Ns mainGlobals mg
 blt:∃ mb,base.Ns builtinsNs mb∧∀ x:Str,x≠"__name__"→mb x=bootBuiltins x
 nolimit:base.NoLimit
structure Cx where
 prog:Program
 w:World
 K:ah
 mg:Str→Option Value
 base:Heap
 A:Around
 N:List Str
 s₀:Shared
 H₀:Hp
 env:Env
 outer:List Env
 stack:List Env
 ex:List Addr
 fn:Str→Bool
 calm:Bool
 pn:List (Addr×Obj)
 xe:Value→Shared→Prop
def frs (l:List Env):List Addr:=l.filterMap (·.frame)
abbrev Cx.fs (X:Cx):List Addr:=frs X.outer
def Vis (sc:Scope) (x:Str):Prop:=sc.names.lookup x=some .local∨sc.names.lookup x=some .cell∨sc.names.lookup x=some .free
def Loc (sc:Scope) (x:Str):Prop:=sc.names.lookup x=some .local∨sc.names.lookup x=some .cell
def Look (env:Env) (h:Heap) (m:Str→Option Value) (x:Str) (u:Value):Prop :=
 (env.kindOf x=some .local∧m x=some u)∨((env.kindOf x=some .cell∨env.kindOf x=some .free)∧∃ c,env.cells.lookup x=some c∧h.IsCell c (some u))
structure Cx.Ok (X:Cx):Prop where
 mod:Mod X.K X.mg X.base
 kind:X.env.scope.kind = .function
 glob:X.env.globals=mainGlobals
 blt:X.env.builtins=builtinsNs
 above:X.s₀.heap.objs.size≤X.env.locals
 inj:∀ x y c,X.env.cells.lookup x=some c→X.env.cells.lookup y=some c→x=y
 has:∀ x,(X.env.kindOf x=some .cell∨X.env.kindOf x=some .free)→∃ c,X.env.cells.lookup x=some c
 cab:∀ x c,X.fn x=true→X.env.cells.lookup x=some c→X.s₀.heap.objs.size≤c
 hd:X.calm=true→X.A.handled=none
 frames:X.A.frames=some X.stack
 stk:X.stack=X.outer∨(X.stack=X.env :: X.outer∧X.env.frame=some X.env.locals)
 exf:∀ b∈X.ex,b≠X.env.locals∧∀ x c,X.env.cells.lookup x=some c→c≠b
 bs:∀ b o,X.base.get? b=some o→X.s₀.heap.get? b=some o∧X.H₀ b=none
 bsz:X.base.objs.size≤X.s₀.heap.objs.size
 noex:∀ b o,X.base.get? b=some o→b∉X.ex
 exfs:∀ b∈X.ex,b∉X.fs
 funs:X.s₀.heap.FunFrames X.base X.outer
 frf:∀ b∈X.fs,X.H₀ b=none
structure Inv (X:Cx) (l3:List (Addr×Obj)) (σ:List (Option V)) (H:Hp) (s:Shared):Prop where
 ok:X.Ok
 os:s.os=X.s₀.os
 bare:AllBare s.gens
 base:Un X.fs X.ex X.H₀ H X.s₀.heap s.heap
 loc:∃ m,s.heap.Ns X.env.locals m∧∀ (i:Nat) (x:Str) (v:V),X.N[i]? = some x→σ[i]? = some (some v)→Vis X.env.scope x→∃ u,RelV v u∧Look X.env s.heap m x u
 cell:∀ x c,X.env.cells.lookup x=some c→∃ v,s.heap.IsCell c v
 free:H X.env.locals=none
 freeC:∀ x c,X.env.cells.lookup x=some c→H c=none
 pin:∀ p∈X.pn++l3,s.heap.get? p.1=some p.2∧H p.1=none∧p.1≠X.env.locals∧p.1∉X.fs∧∀ v,p.2.data≠.cell v
 hok:HOk X.prog X.w H s.heap
 len:σ.length=X.N.length
section
variable {X:Cx} {l3:List (Addr×Obj)} {σ:List (Option V)} {H H':Hp} {s:Shared} {h':Heap}
theorem Cx.Ok.nofr (ok:X.Ok) {b:Addr} {o:Obj} (e:X.base.get? b=some o):b∉X.fs:=fun hb=>by
 have:=(ok.funs.mem hb).1;rw [e] at this; cases this
theorem Inv.bs (I:Inv X l3 σ H s):∀ b o,X.base.get? b=some o→s.heap.get? b=some o∧H b=none:=fun b o e =>
 ⟨I.base.keep b o (I.ok.bs b o e).1 (I.ok.bs b o e).2 (I.ok.nofr e) (I.ok.noex b o e),I.base.free b o (I.ok.bs b o e).1 (I.ok.bs b o e).2 (I.ok.noex b o e)⟩
theorem Inv.bk (I:Inv X l3 σ H s):∀ b o,X.base.get? b=some o→s.heap.get? b=some o:=fun b o e=>(I.bs b o e).1
theorem Inv.mod (I:Inv X l3 σ H s):Mod X.K X.mg X.base:=I.ok.mod
theorem Inv.kIn (I:Inv X l3 σ H s):X.K.In s.heap:=I.ok.mod.kin.keeps I.bk
theorem Inv.lt (I:Inv X l3 σ H s):X.env.locals < s.heap.objs.size:=let ⟨_,hn,_⟩:=I.loc; hn.lt
theorem Inv.sz (I:Inv X l3 σ H s):X.s₀.heap.objs.size≤s.heap.objs.size:=aT I.ok.above (ge I.lt)
theorem Inv.nofs (I:Inv X l3 σ H s) {a:Addr} (h:s.heap.objs.size≤a):a∉X.fs:=fun hb=>by
 obtain⟨_,o,ho,_⟩:=I.ok.funs.mem hb;exact absurd (bw (aK ho) (aT I.sz h)) (cD _)
theorem Inv.cne (I:Inv X l3 σ H s):∀ x c,X.env.cells.lookup x=some c→c≠X.env.locals:=fun x c e z=>by
 obtain⟨v,o,ho,hd⟩:=I.cell x c e;obtain⟨m,⟨o',es,ep,vK,BH,_⟩,_⟩:=I.loc;rw [z,vK] at ho; cases ho; rw [BH] at hd; cases hd
theorem Inv.funs (I:Inv X l3 σ H s):s.heap.FunFrames X.base X.outer:=by
 have all:∀ (l:List Env),(∀ b∈frs l,b∈X.fs)→X.s₀.heap.FunFrames X.base l→s.heap.FunFrames X.base l:=by
  intro l;induction l with
  | nil=>intro _ _; trivial
  | cons env r ih =>
   intro hs hl;obtain⟨hk,⟨L,o,hf,hn,ho,hd⟩,hr⟩:=hl;have hL:L∈X.fs:=hs L (by unfold frs; rw [fU,hf]; exact aN);obtain⟨sl,e⟩:=I.base.slot L o ho (I.ok.frf L hL) hL fun z=>I.ok.exfs L z hL
   exact⟨hk,⟨L,_,hf,hn,e,hd⟩,ih (fun b hb=>hs b (by unfold frs; rw [fU,hf]; exact aD _ hb)) hr⟩
 exact all X.outer (fun _ hb=>hb) I.ok.funs
theorem Inv.stack (I:Inv X l3 σ H s):s.heap.FunFrames X.base X.stack:=by
 rcases I.ok.stk with e | ⟨e,hf⟩
 ·rw [e]; exact I.funs
 ·rw [e];obtain⟨m,hn,_⟩:=I.loc;refine .cons (by rw [I.ok.kind]; decide) hf hn ?_ I.funs;exact Heap.get?_none_of_le (aT I.ok.bsz I.ok.above)
theorem Inv.stkSub (I:Inv X l3 σ H s):∀ b∈frs X.stack,b∈X.env.locals :: X.fs:=fun b hb=>by
 rcases I.ok.stk with e | ⟨e,hf⟩
 ·rw [e] at hb; exact aD _ hb
 ·rw [e] at hb;unfold frs at hb;rw [fU,hf] at hb;exact hb
theorem Inv.stkFree (I:Inv X l3 σ H s):∀ b∈frs X.stack,H b=none:=fun b hb=>by
 rcases aF.mp (I.stkSub b hb) with e | hb
 ·rw [e]; exact I.free
 ·obtain⟨_,o,ho,_⟩:=I.ok.funs.mem hb;exact I.base.free b o ho (I.ok.frf b hb) fun z=>I.ok.exfs b z hb
theorem Inv.step {g':Array GenState} {t':Nat} {d':Drawn} {ch:List Addr} (I:Inv X l3 σ H s)
  (uB:∀ b∈ch,(b∈X.ex∨X.s₀.heap.objs.size≤b)∧b≠X.env.locals∧(∀ x c,X.env.cells.lookup x=some c→c≠b)∧∀ p∈X.pn++l3,p.1≠b)
  (keep:∀ b o,b≠X.env.locals→b∉X.fs→b∉ch→s.heap.get? b=some o→H b=none→h'.get? b=some o)
  (slot:∀ b o,b≠X.env.locals→b∈X.fs→b∉ch→s.heap.get? b=some o→H b=none→∃ sl,h'.get? b=some { o with slots:=sl }) (free:∀ b o,b∉ch→s.heap.get? b=some o→H b=none→H' b=none)
  (there:∀ b o,b∉ch→s.heap.get? b=some o→∃ o',h'.get? b=some o')
  (tups:∀ b xs,H b=some (.tup xs)→H' b=some (.tup xs)) (frzs:∀ b o u,H b=some (.frz o u)→H' b=some (.frz o u)) (tbls:∀ b ps,H b=some (.tbl ps)→∃ more,H' b=some (.tbl (ps++more)))
  (ns:∀ m,s.heap.Ns X.env.locals m→h'.Ns X.env.locals m) (hok:HOk X.prog X.w H' h') (hg:AllBare g') :
  Inv X l3 σ H' { s with heap:=h',gens:=g',drawn:=d',toks:=t' }:=by
 have neL:∀ b o,X.s₀.heap.get? b=some o→b≠X.env.locals:=fun b o e=>bz (bw (aK e) I.ok.above)
 have DR:∀ b o,X.s₀.heap.get? b=some o→b∉X.ex→b∉ch:=fun b o e hx hb=>by
  rcases (uB b hb).1 with z | z
  ·exact hx z
  ·exact absurd (bw (aK e) z) (cD _)
 have cellK:∀ x c,X.env.cells.lookup x=some c→∀ v,s.heap.IsCell c v→h'.IsCell c v:=fun x c e v ⟨o,ho,hd⟩=>by
  have Cd:c∉ch:=fun z=>(uB c z).2.2.1 x c e rfl
  by_cases hc:c∈X.fs
  ·obtain⟨sl,q⟩:=slot c o (I.cne x c e) hc Cd ho (I.freeC x c e);exact⟨_,q,hd⟩
  ·exact⟨o,keep c o (I.cne x c e) hc Cd ho (I.freeC x c e),hd⟩
 refine⟨I.ok,I.os,hg,⟨fun b o e n hb hx=>?_,fun b o e n hb hx=>?_,fun b o e n hx=>?_,fun b o e hx=>?_,fun b xs e=>tups b xs (I.base.tups b xs e),fun b o xs e=>frzs b o xs (I.base.frzs b o xs e),fun b ps e=>?_⟩,?_,fun x c e=>?_,?_,fun x c e=>?_,fun p hp=>?_,hok,I.len⟩
 ·exact keep b o (neL b o e) hb (DR b o e hx) (I.base.keep b o e n hb hx) (I.base.free b o e n hx)
 ·obtain⟨sl,e1⟩:=I.base.slot b o e n hb hx;obtain⟨sl',e2⟩:=slot b _ (neL b o e) hb (DR b o e hx) e1 (I.base.free b o e n hx);exact⟨sl',e2⟩
 ·obtain⟨o',e1⟩:=I.base.there b o e hx;exact free b o' (DR b o e hx) e1 (I.base.free b o e n hx)
 ·obtain⟨o',e1⟩:=I.base.there b o e hx;exact there b o' (DR b o e hx) e1
 ·obtain⟨m1,e1⟩:=I.base.tbls b ps e;obtain⟨m2,e2⟩:=tbls b _ e1;exact⟨m1++m2,by rw [e2,Array.append_assoc]⟩
 ·obtain⟨m,hn,hl⟩:=I.loc;refine⟨m,ns m hn,fun i x v e1 e2 e3=>?_⟩;obtain⟨u,r,l⟩:=hl i x v e1 e2 e3;refine⟨u,r,?_⟩;rcases l with l | ⟨k,c,e,z⟩
  ·exact .inl l
  ·exact .inr ⟨k,c,e,cellK x c e _ z⟩
 ·obtain⟨v,z⟩:=I.cell x c e;exact⟨v,cellK x c e v z⟩
 ·obtain⟨m,⟨o,_,_,ho,_⟩,_⟩:=I.loc;exact free _ o (fun z=>(uB _ z).2.1 rfl) ho I.free
 ·obtain⟨v,o,ho,hd⟩:=I.cell x c e;exact free c o (fun z=>(uB c z).2.2.1 x c e rfl) ho (I.freeC x c e)
 ·obtain⟨e,n,ne,nf,d⟩:=I.pin p hp;have Cd:p.1∉ch:=fun z=>(uB p.1 z).2.2.2 p hp rfl
  exact⟨keep p.1 p.2 ne nf Cd e n,free p.1 p.2 Cd e n,ne,nf,d⟩
theorem Inv.un {t':Nat} (I:Inv X l3 σ H s) (u:Un X.fs [] H H' s.heap h') (hok:HOk X.prog X.w H' h'):Inv X l3 σ H' { s with heap:=h',toks:=t' }:=by
 obtain⟨m,⟨o,es,ep,ho,r⟩,_⟩:=id I.loc;obtain⟨sl,hL⟩:=u.any ho I.free #[M];exact I.step (g':=s.gens) (d':=s.drawn) (ch:=[]) (fun _ z=>nomatch z) (fun b o _ hb _ e n=>u.keep b o e n hb #[M]) (fun b o _ hb _ e n=>u.slot b o e n hb #[M]) (fun b o _ e n=>u.free b o e n #[M]) (fun b o _ e=>u.there b o e #[M]) u.tups u.frzs u.tbls (fun m' hm=>by
  obtain⟨o',wK,DS,vK,r'⟩:=hm;rw [ho] at vK; cases vK;exact⟨_,wK,DS,hL,r'⟩) hok I.bare
theorem Inv.call {g':Array GenState} {t':Nat} {d':Drawn} {ch:List Addr} (I:Inv X l3 σ H s) (u:Un (frs X.stack) ch H H' s.heap h') (hok:HOk X.prog X.w H' h') (hg:AllBare g')
  (uB:∀ b∈ch,(b∈X.ex∨X.s₀.heap.objs.size≤b)∧b≠X.env.locals∧(∀ x c,X.env.cells.lookup x=some c→c≠b)∧∀ p∈X.pn++l3,p.1≠b) :
  Inv X l3 σ H' { s with heap:=h',gens:=g',drawn:=d',toks:=t' }:=by
 obtain⟨m,⟨o,es,ep,ho,r⟩,_⟩:=id I.loc;obtain⟨sl,hL⟩:=u.any ho I.free fun z=>(uB _ z).2.1 rfl
 exact I.step (ch:=ch) uB (fun b o hL hb hc e n=>u.keep b o e n (fun z=>(aF.mp (I.stkSub b z)).elim hL hb) hc) (fun b o _ _ hc e n=>u.any e n hc) (fun b o hc e n=>u.free b o e n hc) (fun b o hc e=>u.there b o e hc) u.tups u.frzs u.tbls (fun m' hm=>by
  obtain⟨o',wK,DS,vK,r'⟩:=hm;rw [ho] at vK; cases vK;exact⟨_,wK,DS,hL,r'⟩) hok hg
theorem Inv.turned {t':Nat} {it:Addr} (I:Inv X l3 σ H s) (k:∀ b o,b≠it→s.heap.get? b=some o→h'.get? b=some o) (hn:H it=none) (hL:it≠X.env.locals)
  (h1:it∈X.ex∨X.s₀.heap.objs.size≤it) (h2:∀ x c,X.env.cells.lookup x=some c→c≠it) (h3:∀ p∈X.pn++l3,p.1≠it):Inv X l3 σ H { s with heap:=h',toks:=t' }:=by
 have tW:∀ b u,H b=some u→b≠it:=fun b u e z=>by rw [z,hn] at e; cases e
 refine I.step (g':=s.gens) (d':=s.drawn) (ch:=[it]) (fun b hb=>?_) (fun b o _ _ hc e _=>k b o (fun z=>hc (by simp [z])) e) (fun b o _ _ hc e _=>⟨o.slots,k b o (fun z=>hc (by simp [z])) e⟩) (fun _ _ _ _ n=>n)
  (fun b o hc e=>⟨o,k b o (fun z=>hc (by simp [z])) e⟩) (fun _ _ e=>e) (fun _ _ _ e=>e) (fun b ps e=>⟨#[],by rw [e]; simp⟩) (fun m hm=>?_) (fun b u e=>?_) I.bare
 ·have e:b=it:=by simpa using hb
  subst e;exact⟨h1,hL,h2,h3⟩
 ·obtain⟨o,es,ep,ho,r⟩:=hm;exact⟨o,es,ep,k _ o (dj hL) ho,r⟩
 ·refine (I.hok b u e).stay (fun c v hc q=>k c v ?_ q) (fun _ q=>q) fun _ _ q=>q
  rcases hc with z | z
  ·rw [z]; exact tW b u e
  ·exact tW c _ z
theorem Inv.tok (I:Inv X l3 σ H s) (t:Nat):Inv X l3 σ H { s with toks:=t }:=I.un (h':=s.heap) (t':=t) Un.refl I.hok
theorem Inv.kept {t':Nat} (I:Inv X l3 σ H s) (k:∀ b u,s.heap.get? b=some u→h'.get? b=some u):Inv X l3 σ H { s with heap:=h',toks:=t' }:=I.un (Un.kept k) (I.hok.kept k)
theorem Inv.laid {a:Addr} {o:HO} {t':Nat} (I:Inv X l3 σ H s) (k:∀ b u,s.heap.get? b=some u→h'.get? b=some u) (hp:s.heap.objs.size≤a) (new:zas X.prog X.w (mh H a o) h' a o) :
  Inv X l3 σ (mh H a o) { s with heap:=h',toks:=t' }:=I.un (Un.laid k hp (I.hok.fresh hp)) (I.hok.laid k hp new)
theorem Inv.write {x e:Addr} {o:HO} {t':Nat} (I:Inv X l3 σ H s) (mu:Mut (H x)) (he:e=x∨H e=some (.own x)) (k:∀ b u,b≠e→s.heap.get? b=some u→h'.get? b=some u) (BG:∃ u,h'.get? e=some u)
  (new:zas X.prog X.w (mh H x o) h' x o):Inv X l3 σ (mh H x o) { s with heap:=h',toks:=t' }:=I.un (Un.write mu he k BG) (I.hok.write mu he k BG new)
theorem Inv.weak {σ':List (Option V)} (I:Inv X l3 σ H s) (hl:σ'.length=σ.length) (w:∀ (i:Nat) v,σ'[i]? = some (some v)→σ[i]? = some (some v)):Inv X l3 σ' H s :=
 ⟨I.ok,I.os,I.bare,I.base,let ⟨m,hn,DT⟩:=I.loc; ⟨m,hn,fun i x v e1 e2 e3=>DT i x v e1 (w i v e2) e3⟩,I.cell,I.free,I.freeC,I.pin,I.hok,hl.trans I.len⟩
theorem Inv.pins_of {qt:List (Addr×Obj)} (I:Inv X l3 σ H s) (h:∀ p∈qt,s.heap.get? p.1=some p.2∧H p.1=none∧p.1≠X.env.locals∧p.1∉X.fs∧∀ v,p.2.data≠.cell v):Inv X qt σ H s :=
 ⟨I.ok,I.os,I.bare,I.base,I.loc,I.cell,I.free,I.freeC,fun p hp=>(aY.mp hp).elim (fun z=>I.pin p (ba _ z)) (h p),I.hok,I.len⟩
theorem zhE {N:List Str} (hN:N.Nodup) {i j:Nat} {x:Str} (a:N[i]? = some x) (b:N[j]? = some x):i=j:=by
 obtain⟨h1,e1⟩:=au.mp a;obtain⟨h2,e2⟩:=au.mp b;exact (List.getElem_inj hN).mp (e1.trans e2.symm)
theorem zf5 {M:Model} {A:Around} {E:Value→Shared→Prop} {i:Nat} {x:Str} {v:V} {u:Value} {Q:Unit→Shared→Prop} (I:Inv X l3 σ H s) (hN:X.N.Nodup) (hi:X.N[i]? = some x) (hx:Loc X.env.scope x) (r:RelV v u)
  (h:∀ s',Inv X l3 (σ.set i (some v)) H s'→(∃ a,bF a s.heap s'.heap∧(a=X.env.locals∨X.env.cells.lookup x=some a))→Q () s') (hf:X.fn x=true∨X.env.scope.names.lookup x=some .local:=by first | exact .inl rfl | exact .inr rfl | assumption):wpAny M A (storeName X.env x u) Q E s:=by
 obtain⟨m,hn,hl⟩:=id I.loc;have ER:(X.env.scope.kind == .class || (X.env.scope.kind == .module && X.env.locals != X.env.globals))=false:=by rw [I.ok.kind]; rfl
 have hiσ:i < σ.length:=by rw [I.len]; exact (au.mp hi).1
 have cne:=I.cne;have tracked:∀ {a:Addr} {h':Heap},(∃ o,s.heap.get? a=some o∧H a=none)→bF a s.heap h'→HOk X.prog X.w H h':=fun {a h'} ha hs b ob e=>by
  obtain⟨_,_,yQ⟩:=ha;refine (I.hok b ob e).stay (fun c w' hc q=>(hs.2 c ?_).trans q) (fun _ q=>q) fun _ _ q=>q
  rintro rfl;rcases hc with rfl | hc
  ·rw [yQ] at e; cases e
  ·rw [yQ] at hc; cases hc
 rcases hx with hk | hk
 ·refine wpAny_storeName_local hk hn (fun h' yc hs=>?_) ER;obtain⟨oL,_,_,Ce,_⟩:=id hn;refine h _ ⟨I.ok,I.os,I.bare,⟨fun b o e n hb hx=>?_,fun b o e n hb hx=>?_,I.base.free,fun b o e hx=>?_,I.base.tups,I.base.frzs,I.base.tbls⟩,⟨_,yc,fun j y v' e1 e2 e3=>?_⟩,fun y c e=>?_,I.free,I.freeC,fun p hp=>?_,tracked ⟨oL,Ce,I.free⟩ hs,by simpa using I.len⟩ ⟨_,hs,.inl rfl⟩
  ·exact (hs.2 b (bz (bw (aK e) I.ok.above))).trans (I.base.keep b o e n hb hx)
  ·obtain⟨sl,e1⟩:=I.base.slot b o e n hb hx;exact⟨sl,(hs.2 b (bz (bw (aK e) I.ok.above))).trans e1⟩
  ·obtain⟨o',e1⟩:=I.base.there b o e hx;exact⟨o',(hs.2 b (bz (bw (aK e) I.ok.above))).trans e1⟩
  ·by_cases hj:j=i
   ·subst hj;rw [hi] at e1; cases e1;rw [fj hiσ] at e2;cases e2;exact⟨u,r,.inl ⟨hk,#[M]⟩⟩
   ·rw [dC (dj hj)] at e2;obtain⟨u',r',q⟩:=hl j y v' e1 e2 e3;refine⟨u',r',?_⟩;rcases q with ⟨k,e⟩ | ⟨k,c,e,z⟩
    ·refine .inl ⟨k,?_⟩;have:y≠x:=fun e=>hj (zhE hN e1 (e ▸ hi))
     simp [this,e]
    ·exact .inr ⟨k,c,e,z.sameBut hs (cne y c e)⟩
  ·obtain⟨w',z⟩:=I.cell y c e;exact⟨w',z.sameBut hs (cne y c e)⟩
  ·obtain⟨e,n,ne,nf,d⟩:=I.pin p hp;exact⟨(hs.2 p.1 ne).trans e,n,ne,nf,d⟩
 ·have Cf:X.fn x=true:=by
   rcases hf with z | z
   ·exact z
   ·rw [z] at hk; cases hk
  obtain⟨c,hc⟩:=I.ok.has x (.inl hk);obtain⟨w',z⟩:=I.cell x c hc;refine wpAny_storeName_cell I.ok.kind hk hc z (fun h' mC hs=>?_);obtain⟨oc,hoc,ES⟩:=id z;refine h { s with heap:=h' } ⟨I.ok,I.os,I.bare,⟨fun b o e n hb hx=>?_,fun b o e n hb hx=>?_,I.base.free,fun b o e hx=>?_,I.base.tups,I.base.frzs,I.base.tbls⟩,⟨m,hn.sameBut hs (dj (cne x c hc)),fun j y v' e1 e2 e3=>?_⟩,fun y c' e=>?_,I.free,I.freeC,fun p hp=>?_,tracked ⟨oc,hoc,I.freeC x c hc⟩ hs,by simpa using I.len⟩ ⟨c,hs,.inr hc⟩
  ·exact (hs.2 b (bz (bw (aK e) (I.ok.cab x c Cf hc)))).trans (I.base.keep b o e n hb hx)
  ·obtain⟨sl,e1⟩:=I.base.slot b o e n hb hx;exact⟨sl,(hs.2 b (bz (bw (aK e) (I.ok.cab x c Cf hc)))).trans e1⟩
  ·obtain⟨o',e1⟩:=I.base.there b o e hx;exact⟨o',(hs.2 b (bz (bw (aK e) (I.ok.cab x c Cf hc)))).trans e1⟩
  ·by_cases hj:j=i
   ·subst hj;rw [hi] at e1; cases e1;rw [fj hiσ] at e2;cases e2;exact⟨u,r,.inr ⟨.inl hk,c,hc,mC⟩⟩
   ·rw [dC (dj hj)] at e2;obtain⟨u',r',q⟩:=hl j y v' e1 e2 e3;refine⟨u',r',?_⟩;rcases q with q | ⟨k,c',e,z'⟩
    ·exact .inl q
    ·refine .inr ⟨k,c',e,z'.sameBut hs ?_⟩;rintro rfl;exact hj (zhE hN e1 (I.ok.inj _ _ _ e hc ▸ hi))
  ·by_cases ni:c'=c
   ·subst ni; exact⟨_,mC⟩
   ·obtain⟨w2,z2⟩:=I.cell y c' e;exact⟨w2,z2.sameBut hs ni⟩
  ·obtain⟨e,n,ne,nf,d⟩:=I.pin p hp;refine⟨(hs.2 p.1 ?_).trans e,n,ne,nf,d⟩;intro q;rw [q,hoc] at e;have q':oc=p.2:=aV e;exact d w' (by rw [← q']; exact ES)
theorem zeY {M:Model} {A:Around} {E:Value→Shared→Prop} {i:Nat} {x:Str} {v:V} {u:Value} {Q:Unit→Shared→Prop} (I:Inv X l3 σ H s) (hN:X.N.Nodup) (hi:X.N[i]? = some x) (hx:Loc X.env.scope x) (r:RelV v u)
  (h:∀ s',Inv X l3 (σ.set i (some v)) H s'→Q () s') (hf:X.fn x=true∨X.env.scope.names.lookup x=some .local:=by first | exact .inl rfl | exact .inr rfl | assumption):wpAny M A (storeName X.env x u) Q E s :=
 zf5 I hN hi hx r (fun s' I' _=>h s' I') hf
theorem Inv.call' {s':Shared} {ch:List Addr} (I:Inv X l3 σ H s) (ho:s'.os=s.os) (u:Un (frs X.stack) ch H H' s.heap s'.heap) (hok:HOk X.prog X.w H' s'.heap) (hg:AllBare s'.gens)
  (uB:∀ b∈ch,(b∈X.ex∨X.s₀.heap.objs.size≤b)∧b≠X.env.locals∧(∀ x c,X.env.cells.lookup x=some c→c≠b)∧∀ p∈X.pn++l3,p.1≠b):Inv X l3 σ H' s':=by
 obtain⟨h',g',d',t',o'⟩:=s';have e:o'=s.os:=ho;subst e;exact I.call (g':=g') (t':=t') (d':=d') u hok hg uB
end
abbrev XK:=Value→Option Addr→Hp→Prop
abbrev St:=List (Option V)
abbrev VK:=V→Hp→Prop
abbrev TE:=St→Hp→VK→Prop
abbrev TT:=St→Hp→(Bool→Hp→Prop)→Prop
abbrev TA:=St→Hp→(List V→Hp→Prop)→Prop
structure Ends where
 nx:St→Hp→Prop
 rt:VK
 bk:St→Hp→Prop:=fun _ _=>False
 ct:St→Hp→Prop:=fun _ _=>False
abbrev TS:=Ends→St→Hp→Prop
def EP (X:Cx) (l3:List (Addr×Obj)) (σ:St) (Q:VK) (u:Value) (s':Shared):Prop:=∃ v H',Inv X l3 σ H' s'∧RelV v u∧Q v H'
def TP (X:Cx) (l3:List (Addr×Obj)) (σ:St) (Q:Bool→Hp→Prop) (b:Bool) (s':Shared):Prop:=∃ H',Inv X l3 σ H' s'∧Q b H'
def AP (X:Cx) (l3:List (Addr×Obj)) (σ:St) (Q:List V→Hp→Prop) (us:List Value) (s':Shared):Prop:=∃ vs H',Inv X l3 σ H' s'∧zS vs us∧Q vs H'
def SP (X:Cx) (l3:List (Addr×Obj)) (D:Ends) (f:Flow) (s':Shared):Prop :=
 match f with
 | .next=>∃ σ' H',Inv X l3 σ' H' s'∧D.nx σ' H'
 | .brk=>∃ σ' H',Inv X l3 σ' H' s'∧D.bk σ' H'
 | .cont=>∃ σ' H',Inv X l3 σ' H' s'∧D.ct σ' H'
 | .ret u=>∃ v σ' H',Inv X l3 σ' H' s'∧RelV v u∧D.rt v H'
def PE (X:Cx) (e:Expr) (t:TE):Prop :=
 ∀ (l3:List (Addr×Obj)) (s:Shared) (σ:St) (H:Hp) (Q:VK),Inv X l3 σ H s→t σ H Q→wpAny (model X.prog X.w) X.A (eval e X.env) (EP X l3 σ Q) X.xe s
def PT (X:Cx) (e:Expr) (t:TT):Prop :=
 ∀ (l3:List (Addr×Obj)) (s:Shared) (σ:St) (H:Hp) (Q:Bool→Hp→Prop),Inv X l3 σ H s→t σ H Q→wpAny (model X.prog X.w) X.A (isTrue e X.env (eval e X.env)) (TP X l3 σ Q) X.xe s
def PW (X:Cx) (e:Expr) (t:TT):Prop :=
 ∀ (whole:Sem Value) (l3:List (Addr×Obj)) (s:Shared) (σ:St) (H:Hp) (Q:Bool→Hp→Prop),Inv X l3 σ H s→t σ H Q→wpAny (model X.prog X.w) X.A (isTrue e X.env whole) (TP X l3 σ Q) X.xe s
theorem PW.pt {X:Cx} {e:Expr} {t:TT} (h:PW X e t):PT X e t:=h _
def PA (X:Cx) (es:List Expr) (t:TA):Prop :=
 ∀ (pos:Pos) (l3:List (Addr×Obj)) (s:Shared) (σ:St) (H:Hp) (Q:List V→Hp→Prop),Inv X l3 σ H s→t σ H Q→wpAny (model X.prog X.w) X.A (spliced (backTo pos (starEach es X.env))) (AP X l3 σ Q) X.xe s
def PS (X:Cx) (st:Stmt) (t:TS):Prop :=
 ∀ (l3:List (Addr×Obj)) (s:Shared) (σ:St) (H:Hp) (D:Ends),Inv X l3 σ H s→t D σ H→wpAny (model X.prog X.w) X.A (exec st X.env) (SP X l3 D) X.xe s
def PSs (X:Cx) (st:List Stmt) (t:TS):Prop :=
 ∀ (l3:List (Addr×Obj)) (s:Shared) (σ:St) (H:Hp) (D:Ends),Inv X l3 σ H s→t D σ H→wpAny (model X.prog X.w) X.A (execs st X.env) (SP X l3 D) X.xe s
theorem thn {α:Type} {t:Sem α} {Q Q':α→Shared→Prop} {M:Model} {A:Around} {E:Value→Shared→Prop} {s:Shared} (h:wpAny M A t Q E s) (hQ:∀ a s,Q a s→Q' a s):wpAny M A t Q' E s:=da h hQ fun _ _ x=>x
section
variable {X:Cx}
def zq0 (i:Nat):TE:=fun σ H Q=>∃ v,σ[i]? = some (some v)∧Q v H
def tC (v:V):TE:=fun _ H Q=>Q v H
theorem zpV {i:Nat} {x:Str} {pos:Pos} (hN:X.N[i]? = some x) (hv:Vis X.env.scope x) (hd:(x == ("__debug__" : Str))=false:=by decide) (vL:(x == ("__classdict__" : Str))=false:=by decide):PE X (.Name x pos) (zq0 i):=by
 intro l3 s σ H Q I h;obtain⟨v,e,h⟩:=h;obtain⟨m,hn,hl⟩:=I.loc;obtain⟨u,r,l⟩:=hl i x v hN e hv;have fin:EP X l3 σ Q u s:=⟨v,H,I,r,h⟩;rcases l with ⟨hk,hm⟩ | ⟨hk,c,hc,qu⟩
 ·exact lw (jN I.ok.kind hk hn hm fin) hd
 ·rcases hk with hk | hk
  ·exact lw (kd I.ok.kind hk hc qu fin) hd
  ·exact lw (wpAny_loadName_free I.ok.kind hk hc qu fin vL) hd
theorem zf {i j pos}:PE X (.Constant (.int i) j pos) (tC (.int i)):=fun _ _ _ H _ I h=>wpAny_Constant_int ⟨.int i,H,I.tok _,⟨_,rfl⟩,h⟩
theorem zf6 {b j pos}:PE X (.Constant (.bool b) j pos) (tC (.bl b)):=fun _ _ _ H _ I h=>Constant_bool ⟨.bl b,H,I,rfl,h⟩
theorem zd1 {j pos}:PE X (.Constant .none j pos) (tC .non):=fun _ _ _ H _ I h=>Constant_none ⟨.non,H,I,rfl,h⟩
def Gl (X:Cx) (x:Str):Prop:=X.env.kindOf x=some .globalImplicit
theorem zn7 {E:Value→Shared→Prop} {l3:List (Addr×Obj)} {s:Shared} {σ:St} {H:Hp} {x:Str} {u:Value} {pos:Pos} {Q:Value→Shared→Prop} (I:Inv X l3 σ H s) (hg:Gl X x) (hm:X.mg x=some u) (h:Q u s)
  (hd:(x == ("__debug__" : Str))=false:=by decide):wpAny (model X.prog X.w) X.A (eval (.Name x pos) X.env) Q E s :=
 iF I.ok.kind hg (Calls.loadGlobal_global (by rw [I.ok.glob]; exact I.mod.glob.keeps I.bk) hm h) hd
theorem zbe {E:Value→Shared→Prop} {l3:List (Addr×Obj)} {s:Shared} {σ:St} {H:Hp} {x:Str} {u:Value} {pos:Pos} {Q:Value→Shared→Prop} (I:Inv X l3 σ H s) (hg:Gl X x) (hm:X.mg x=none) (hv:bootBuiltins x=some u) (h:Q u s)
  (hn:x≠"__name__":=by decide) (hd:(x == ("__debug__" : Str))=false:=by decide):wpAny (model X.prog X.w) X.A (eval (.Name x pos) X.env) Q E s:=by
 obtain⟨mb,h1,h2⟩:=I.mod.blt;exact iF I.ok.kind hg (Calls.loadGlobal_builtin (by rw [I.ok.glob]; exact I.mod.glob.keeps I.bk) hm (by rw [I.ok.blt]; exact h1.keeps I.bk) ((h2 x hn).trans hv) h) hd
variable {a b:Expr} {ta tb:TE} {pos:Pos}
def tB (t:TE):TT:=fun σ H Q=>t σ H fun x H1=>∃ c,x = .bl c∧Q c H1
theorem zpW {e:Expr} {t:TE} (h:PE X e t) (he:∀ whole,isTrue e X.env whole=(do let v ← whole; standAt e.pos; holding [v] (truthy v)):=by intro _; rfl):PT X e (tB t):=by
 intro l3 s σ H Q I hw;refine isTrue_plain (thn (h l3 s σ H _ I hw) fun v s1 ⟨x,H1,I1,r1,q1⟩=>?_) (he _);obtain⟨d,rfl,q⟩:=q1;cases r1;exact gA ⟨H1,I1,q⟩
variable {tA DU:TT} {rest:List Expr}
def zrG (t u:TT):TT:=fun σ H Q=>t σ H fun c H1=>if c=true then u σ H1 Q else Q false H1
def tOr (t u:TT):TT:=fun σ H Q=>t σ H fun c H1=>if c=true then Q true H1 else u σ H1 Q
def zrH (t:TT):TT:=fun σ H Q=>t σ H fun c H1=>Q (!c) H1
theorem zn8 (ha:PT X a tA):PW X (.BoolOp .And [a] pos) tA:=by
 intro wh l3 s σ H Q I h;refine isTrue_and (thn (ha l3 s σ H Q I h) fun c s1 e=>?_);cases c with
 | true=>exact isTrue_and_nil e
 | false=>exact e
theorem zl3 (ha:PT X a tA):PW X (.BoolOp .Or [a] pos) tA:=by
 intro wh l3 s σ H Q I h;refine isTrue_or (thn (ha l3 s σ H Q I h) fun c s1 e=>?_);cases c with
 | false=>exact isTrue_or_nil e
 | true=>exact e
theorem zpX (ha:PT X a tA) (hb:PW X (.BoolOp .And (b :: rest) pos) DU):PW X (.BoolOp .And (a :: b :: rest) pos) (zrG tA DU):=by
 intro wh l3 s σ H Q I h;refine isTrue_and (thn (ha l3 s σ H _ I h) fun c s1 ⟨H1,I1,q1⟩=>?_);cases c with
 | true=>exact hb wh l3 s1 σ H1 Q I1 q1
 | false=>exact⟨H1,I1,q1⟩
theorem zpq (ha:PT X a tA) (hb:PW X (.BoolOp .Or (b :: rest) pos) DU):PW X (.BoolOp .Or (a :: b :: rest) pos) (tOr tA DU):=by
 intro wh l3 s σ H Q I h;refine isTrue_or (thn (ha l3 s σ H _ I h) fun c s1 ⟨H1,I1,q1⟩=>?_);cases c with
 | true=>exact⟨H1,I1,q1⟩
 | false=>exact hb wh l3 s1 σ H1 Q I1 q1
theorem zi1 (ha:PT X a tA):PT X (.UnaryOp .Not a pos) (zrH tA):=by
 intro l3 s σ H Q I h;exact isTrue_not (ha l3 s σ H (fun c H1=>Q (!c) H1) I h)
def tIf (t:TT) (ta tb:TE):TE:=fun σ H Q=>t σ H fun c H1=>if c=true then ta σ H1 Q else tb σ H1 Q
theorem zl4 {c:Expr} (hc:PT X c tA) (ha:PE X a ta) (hb:PE X b tb):PE X (.IfExp c a b pos) (tIf tA ta tb):=by
 intro l3 s σ H Q I h;refine wpAny_IfExp (thn (hc l3 s σ H _ I h) fun d s1 ⟨H1,I1,q1⟩=>?_);cases d with
 | true=>exact ha l3 s1 σ H1 Q I1 q1
 | false=>exact hb l3 s1 σ H1 Q I1 q1
end
def me (K:ah) (H:Hp) (a:Addr) (xs:List V):Prop :=
 Rd H a (.lst xs) ∨
  ∃ (o:Obj) (mf:Array Value) (n:Nat),K.lookup a=some o∧o.cls = .type "list"∧o.dict=none∧o.data = .seq mf n∧mf.size≤sizeLine∧zS xs mf.toList
def mE (K:ah) (H:Hp) (a:Addr) (xs:List V):Prop :=
 Rd H a (.tup xs) ∨
  ∃ (o:Obj) (mf:Array Value) (n:Nat),K.lookup a=some o∧o.cls = .type "tuple"∧o.data = .seq mf n∧mf.size≤sizeLine∧zS xs mf.toList
def zrI:Value→Option V
 | .none=>some .non
 | .bool b=>some (.bl b)
 | .int i _=>some (.int i)
 | .str x _=>some (.str x)
 | .bytes b _=>some (.byt b)
 | .float b _=>some (.flt b)
 | .ref a=>some (.ref a)
 | .type n=>some (.ty n)
 | _=>none
theorem RelV.abs {x:V} {u:Value} (r:RelV x u):zrI u=some x:=by
 cases x with
 | non=>cases r; rfl
 | bl _=>cases r; rfl
 | int _=>obtain⟨t,rfl⟩:=r; rfl
 | str _=>obtain⟨t,rfl⟩:=r; rfl
 | byt _=>obtain⟨t,rfl⟩:=r; rfl
 | flt _=>obtain⟨t,rfl⟩:=r; rfl
 | ref _=>cases r; rfl
 | ty _=>cases r; rfl
theorem RelV.inj {x y:V} {u:Value} (r:RelV x u) (q:RelV y u):x=y:=aV (r.abs.symm.trans q.abs)
theorem zS.inj:∀ {xs ys:List V} {us:List Value},zS xs us→zS ys us→xs=ys
 | _,_,_,.nil,.nil=>rfl
 | _,_,_,.cons r t,.cons r' t'=>by rw [r.inj r',zS.inj t t']
section
variable {X:Cx} {l3:List (Addr×Obj)} {σ:St} {H:Hp} {s:Shared} {a:Addr} {xs ys:List V}
theorem me.of {K:ah} (h:H a=some (.lst xs)):me K H a xs:=.inl (.inl h)
theorem mE.of {K:ah} (h:H a=some (.tup xs)):mE K H a xs:=.inl (.inl h)
theorem Inv.list (I:Inv X l3 σ H s) (h:me X.K H a xs):∃ mf:List Value,zS xs mf∧PlainL s.heap a mf.toArray∧xs.length≤sizeLine:=by
 rcases h with h | ⟨o,mf,n,hk,hc,hd,hs,hz,r⟩
 ·obtain⟨z,mf,n,r,e⟩:=h.ok I.hok;exact⟨mf,r,⟨_,n,e,rfl,rfl,rfl⟩,z⟩
 ·refine⟨mf.toList,r,⟨o,n,I.kIn a o hk,hc,hd,by simpa using hs⟩,?_⟩;have e:=r.length;simp only [bh] at e;lia
theorem Inv.tuple (I:Inv X l3 σ H s) (h:mE X.K H a xs):∃ mf:List Value,zS xs mf∧IsTup s.heap a mf.toArray∧xs.length≤sizeLine:=by
 rcases h with h | ⟨o,mf,n,hk,hc,hs,hz,r⟩
 ·obtain⟨z,mf,r,p⟩:=h.ok I.hok;exact⟨mf,r,p,z⟩
 ·refine⟨mf.toList,r,⟨o,I.kIn a o hk,hc,n,by simpa using hs⟩,?_⟩;have e:=r.length;simp only [bh] at e;lia
theorem Inv.list_inj (I:Inv X l3 σ H s) (h:me X.K H a xs) (h':me X.K H a ys):xs=ys:=by
 obtain⟨mf,r,⟨o,n,e,_,_,d⟩,_⟩:=I.list h;obtain⟨its',r',⟨o',n',e',_,_,d'⟩,_⟩:=I.list h';rw [e] at e'; cases e';rw [d] at d';injection d' with d1 _
 have:mf=its':=by simpa using congrArg lV d1
 subst this;exact r.inj r'
theorem Inv.tuple_inj (I:Inv X l3 σ H s) (h:mE X.K H a xs) (h':mE X.K H a ys):xs=ys:=by
 obtain⟨mf,r,⟨o,e,_,n,d⟩,_⟩:=I.tuple h;obtain⟨its',r',⟨o',e',_,n',d'⟩,_⟩:=I.tuple h';rw [e] at e'; cases e';rw [d] at d';injection d' with d1 _
 have:mf=its':=by simpa using congrArg lV d1
 subst this;exact r.inj r'
end
abbrev Cx.wish (X:Cx) (E:Value→Shared→Prop):Cx:={ X with xe:=E }
abbrev Cx.nox (X:Cx):Cx:=X.wish fun _ _=>False
theorem Cx.Ok.wish {X:Cx} (ok:X.Ok) (E:Value→Shared→Prop):(X.wish E).Ok :=
 ⟨ok.mod,ok.kind,ok.glob,ok.blt,ok.above,ok.inj,ok.has,ok.cab,ok.hd,ok.frames,ok.stk,ok.exf,ok.bs,ok.bsz,ok.noex,ok.exfs,ok.funs,ok.frf⟩
theorem Cx.Ok.unwish {X:Cx} {E:Value→Shared→Prop} (ok:(X.wish E).Ok):X.Ok :=
 ⟨ok.mod,ok.kind,ok.glob,ok.blt,ok.above,ok.inj,ok.has,ok.cab,ok.hd,ok.frames,ok.stk,ok.exf,ok.bs,ok.bsz,ok.noex,ok.exfs,ok.funs,ok.frf⟩
section
variable {X:Cx} {l3:List (Addr×Obj)} {σ:St} {H:Hp} {s:Shared} {E:Value→Shared→Prop}
theorem Inv.wish (I:Inv X l3 σ H s) (E:Value→Shared→Prop):Inv (X.wish E) l3 σ H s:=⟨I.ok.wish E,I.os,I.bare,I.base,I.loc,I.cell,I.free,I.freeC,I.pin,I.hok,I.len⟩
theorem Inv.unwish (I:Inv (X.wish E) l3 σ H s):Inv X l3 σ H s:=⟨I.ok.unwish,I.os,I.bare,I.base,I.loc,I.cell,I.free,I.freeC,I.pin,I.hok,I.len⟩
theorem SP.unwish {D:Ends} {f:Flow} {s':Shared} (h:SP (X.wish E) l3 D f s'):SP X l3 D f s':=by
 cases f with
 | next=>obtain⟨σ',H',I,q⟩:=h; exact⟨σ',H',I.unwish,q⟩
 | brk=>obtain⟨σ',H',I,q⟩:=h; exact⟨σ',H',I.unwish,q⟩
 | cont=>obtain⟨σ',H',I,q⟩:=h; exact⟨σ',H',I.unwish,q⟩
 | ret u=>obtain⟨v,σ',H',I,r,q⟩:=h; exact⟨v,σ',H',I.unwish,r,q⟩
theorem PSs.nox {st:List Stmt} {t:TS} (h:PSs X.nox st t):PSs X st t:=fun l3 s σ H D I hw =>
 da (h l3 s σ H D (I.wish _) hw) (fun _ _ q=>q.unwish) fun _ _ z=>eG z
end
section
variable {X:Cx} {st:Stmt} {rest:List Stmt} {t u:TS} {e:Expr} {te:TE} {pos:Pos}
def zq1:TS:=fun D σ H=>D.nx σ H
def zaI (t u:TS):TS:=fun D σ H=>t { D with nx:=u D } σ H
theorem zaw:PSs X [] zq1:=fun _ _ σ H _ I h=>gX ⟨σ,H,I,h⟩
theorem ze (h1:PS X st t) (h2:PSs X rest u):PSs X (st :: rest) (zaI t u):=by
 intro l3 s σ H D I h;refine wpAny_execs_cons (thn (h1 l3 s σ H { D with nx:=u D } I h) fun f s1 q=>?_);cases f with
 | next =>
  obtain⟨σ',H',I',q⟩:=q;exact h2 l3 s1 σ' H' D I' q
 | ret v=>exact q
 | brk=>exact q
 | cont=>exact q
theorem zl (h1:PS X st t):PSs X [st] t:=by
 intro l3 s σ H D I h;refine wpAny_execs_cons (thn (h1 l3 s σ H D I h) fun f s1 q=>?_);cases f with
 | next=>exact gX q
 | ret v=>exact q
 | brk=>exact q
 | cont=>exact q
theorem Inv.quiet {l3:List (Addr×Obj)} {σ:St} {H:Hp} {s:Shared} (I:Inv X l3 σ H s):interactive X.env=false:=by simp [interactive,I.ok.kind]
def zq2 (te:TE):TS:=fun D σ H=>te σ H fun _ H1=>D.nx σ H1
theorem zdy (he:PE X e te) (hs:swapsWith e none pos.line X.env=pure false:=by rfl):PS X (.Expr e pos) (zq2 te):=by
 intro l3 s σ H D I h;exact wpAny_Expr_any (thn (he l3 s σ H _ I h) fun v s1 ⟨x,H1,I1,r1,q1⟩=>⟨σ,H1,I1,q1⟩) I.quiet hs
def zrJ (te:TE):TS:=fun D σ H=>te σ H D.rt
theorem zC (he:PE X e te):PS X (.Return (some e) pos) (zrJ te):=by
 intro l3 s σ H D I h;exact wpAny_Return_some (thn (he l3 s σ H _ I h) fun v s1 ⟨x,H1,I1,r1,q1⟩=>⟨x,σ,H1,I1,r1,q1⟩)
def zrK (c:TT) (t u:TS):TS:=fun D σ H=>c σ H fun b H1=>if b=true then t D σ H1 else u D σ H1
theorem zbm {c:Expr} {a b:List Stmt} {tc:TT} (hc:PT X c tc) (ha:PSs X a t) (hb:PSs X b u):PS X (.If c a b pos) (zrK tc t u):=by
 intro l3 s σ H D I h;refine wpAny_If (thn (hc l3 s σ H _ I h) fun d s1 ⟨H1,I1,q1⟩=>?_);cases d with
 | true=>exact ha l3 s1 σ H1 D I1 q1
 | false=>exact hb l3 s1 σ H1 D I1 q1
def zpY:TS:=fun _ _ _=>False
theorem zf7 {qI:List Stmt}:PSs X qI zpY:=fun _ _ _ _ _ _ h=>h.elim
end
abbrev TG:=V→St→Hp→(St→Hp→Prop)→Prop
abbrev TGs:=List V→St→Hp→(St→Hp→Prop)→Prop
def PG (X:Cx) (target:Expr) (t:TG):Prop :=
 ∀ (l3:List (Addr×Obj)) (s:Shared) (σ:St) (H:Hp) (v:V) (u:Value) (Q:St→Hp→Prop),Inv X l3 σ H s→RelV v u→t v σ H Q →
  wpAny (model X.prog X.w) X.A (assign target X.env u) (fun _ s'=>∃ σ' H',Inv X l3 σ' H' s'∧Q σ' H') X.xe s
def PGs (X:Cx) (ts:List Expr) (t:TGs):Prop :=
 ∀ (l3:List (Addr×Obj)) (s:Shared) (σ:St) (H:Hp) (vs:List V) (us:List Value) (Q:St→Hp→Prop),Inv X l3 σ H s→zS vs us→t vs σ H Q →
  wpAny (model X.prog X.w) X.A (assignInOrder ((assignEach ts X.env).map (·.2)) us) (fun _ s'=>∃ σ' H',Inv X l3 σ' H' s'∧Q σ' H') X.xe s
abbrev zpZ:=V→V→V→Hp→(Hp→Prop)→Prop
def zq3 (X:Cx) (t:zpZ):Prop :=
 ∀ (l3:List (Addr×Obj)) (s:Shared) (σ:St) (H:Hp) (o i v:V) (ov iv u:Value) (Q:Hp→Prop),Inv X l3 σ H s→RelV o ov→RelV i iv→RelV v u→t o i v H Q →
  wpAny (model X.prog X.w) X.A (setItem ov iv u) (fun _ s'=>∃ H',Inv X l3 σ H' s'∧Q H') X.xe s
abbrev TIp:=V→V→Hp→VK→Prop
def PIp (X:Cx) (op:Operator) (t:TIp):Prop :=
 ∀ (l3:List (Addr×Obj)) (s:Shared) (σ:St) (H:Hp) (x y:V) (v u:Value) (Q:VK),Inv X l3 σ H s→RelV x v→RelV y u→t x y H Q →
  wpAny (model X.prog X.w) X.A (inplaceOp op v u) (EP X l3 σ Q) X.xe s
section
variable {X:Cx} {pos:Pos}
def zaZ (i:Nat):TG:=fun v σ H Q=>Q (σ.set i (some v)) H
theorem zg {i:Nat} {x:Str} (hN:X.N.Nodup) (hi:X.N[i]? = some x) (hx:Loc X.env.scope x) (hf:X.fn x=true∨X.env.scope.names.lookup x=some .local:=by first | exact .inl rfl | exact .inr rfl | assumption):PG X (.Name x pos) (zaZ i):=by
 intro l3 s σ H v u Q I r h;exact wpAny_assign_Name (zeY I hN hi hx r (fun s' I'=>⟨_,H,I',h⟩) hf)
def zi2:TGs:=fun vs σ H Q=>vs = []∧Q σ H
def zcb (t:TG) (u:TGs):TGs:=fun vs σ H Q=>∃ v r,vs=v :: r∧t v σ H fun σ' H'=>u r σ' H' Q
theorem zG:PGs X [] zi2:=by
 intro l3 s σ H vs us Q I r h;obtain⟨e,h⟩:=h;subst e;cases r;exact assignInOrder_nil ⟨σ,H,I,h⟩
theorem zj {e:Expr} {es:List Expr} {t:TG} {u:TGs} (h1:PG X e t) (h2:PGs X es u)
  (hs:(assignEach (e :: es) X.env).map (·.2)=assign e X.env :: (assignEach es X.env).map (·.2):=by rfl):PGs X (e :: es) (zcb t u):=by
 intro l3 s σ H vs us Q I r h;obtain⟨v,vr,e1,h⟩:=h;subst e1;cases r with
 | cons r rr =>
  rw [hs];refine assignInOrder_cons (thn (h1 l3 s σ H _ _ _ I r h) fun _ s1 ⟨σ1,H1,I1,q1⟩=>?_);exact h2 l3 s1 σ1 H1 _ _ Q I1 rr q1
def zhF (K:ah) (n:Nat) (t:TGs):TG:=fun v σ H Q=>∃ a xs,v = .ref a∧mE K H a xs∧xs.length=n∧t xs σ H Q
theorem zbf {es:List Expr} {k:Nat} {t:TGs} {n:Nat} (hc:X.calm=true) (h:PGs X es t)
  (hn:(assignEach es X.env).length=n:=by rfl) (nS:(assignEach es X.env).findIdx? (·.1)=none:=by rfl):PG X (.Tuple es k pos) (zhF X.K n t):=by
 intro l3 s σ H v u Q I r hw;obtain⟨a,xs,e1,hq,hl,hw⟩:=hw;subst e1;cases r;obtain⟨mf,rv,ht,hz⟩:=I.tuple hq;refine assign_Tuple_tuple (I.ok.hd hc) ht (by simp [hn,← hl,rv.length]) nS fun h' hx=>?_
 have I1:Inv X l3 σ H { s with heap:=h' }:=I.kept (t':=s.toks) fun b o e=>hx b o (bz (aK e)) e
 exact h l3 _ σ H xs _ Q I1 (by simpa using rv) hw
def zrL (to ti:TE) (t:zpZ):TG:=fun v σ H Q=>to σ H fun o H1=>ti σ H1 fun i H2=>t o i v H2 fun H3=>Q σ H3
theorem zgI {o i:Expr} {to ti:TE} {t:zpZ} (ho:PE X o to) (hi:PE X i ti) (hs:zq3 X t)
  (ha:∀ v,assign (.Subscript o i pos) X.env v=(do
   let ov ← holding [v] (eval o X.env)
   let iv ← holding [v,ov] (eval i X.env)
   standAt pos
   holding [v,ov,iv] (setItem ov iv v)
   release [v,ov,iv] []):=by intro _; rfl):PG X (.Subscript o i pos) (zrL to ti t):=by
 intro l3 s σ H v u Q I r h;rw [ha];refine ae (b7 (thn (ho l3 s σ H _ I h) fun ov s1 ⟨x,H1,I1,r1,q1⟩=>?_));refine ae (b7 (thn (hi l3 s1 σ H1 _ I1 q1) fun iv s2 ⟨y,H2,I2,r2,q2⟩=>?_));refine ae (fQ (ae (b7 (thn (hs l3 s2 σ H2 x y v ov iv u _ I2 r1 r2 r q2) fun _ s3 ⟨H3,I3,q3⟩=>?_))));exact wpAny_release ⟨σ,H3,I3,q3⟩
def zi3 (te:TE) (g:TG):TS:=fun D σ H=>te σ H fun x H1=>g x σ H1 D.nx
theorem zbp {tg e:Expr} {te:TE} {g:TG} (he:PE X e te) (hg:PG X tg g) (hs:swapsWithSole [tg] e pos.line X.env=pure false:=by rfl) (hw:swappedStores [tg] e X.env=pure none:=by rfl)
  (h1:(assignEach [tg] X.env).map (·.2) = [assign tg X.env]:=by rfl):PS X (.Assign [tg] e pos) (zi3 te g):=by
 intro l3 s σ H D I h;refine wpAny_Assign_stores (thn (he l3 s σ H _ I h) fun v s1 ⟨x,H1,I1,r1,q1⟩=>?_) hs hw;rw [h1];exact thn (hg l3 s1 σ H1 x v _ I1 r1 q1) fun _ s2 q=>q
theorem zm {i:Nat} {x:Str} {e:Expr} {te:TE} {pos':Pos} (hN:X.N.Nodup) (hi:X.N[i]? = some x) (hx:Loc X.env.scope x) (he:PE X e te) (hs:swapsWith e (some (.Name x pos')) pos.line X.env=pure false:=by rfl) (hf:X.fn x=true∨X.env.scope.names.lookup x=some .local:=by first | exact .inl rfl | exact .inr rfl | assumption) :
  PS X (.Assign [.Name x pos'] e pos) (zi3 te (zaZ i)):=by
 intro l3 s σ H D I h;refine wpAny_Assign_Name (thn (he l3 s σ H _ I h) fun v s1 ⟨y,H1,I1,r1,q1⟩=>?_) hs;exact zeY I1 hN hi hx r1 (fun s2 I2=>⟨_,H1,I2,q1⟩) hf
def zrM (i:Nat) (te:TE) (ti:TIp):TS:=fun D σ H=>∃ x,σ[i]? = some (some x)∧te σ H fun y H1=>ti x y H1 fun z H2=>D.nx (σ.set i (some z)) H2
theorem zi4 {i:Nat} {x:Str} {e:Expr} {te:TE} {op:Operator} {ti:TIp} {pos':Pos} (hN:X.N.Nodup) (hi:X.N[i]? = some x) (hx:Loc X.env.scope x) (he:PE X e te) (ho:PIp X op ti) (hf:X.fn x=true∨X.env.scope.names.lookup x=some .local:=by first | exact .inl rfl | exact .inr rfl | assumption) :
  PS X (.AugAssign (.Name x pos') op e pos) (zrM i te ti):=by
 intro l3 s σ H D I h;obtain⟨v,e1,h⟩:=h;obtain⟨m,hn,hl⟩:=I.loc;have vis:Vis X.env.scope x:=by rcases hx with k | k; exact .inl k; exact .inr (.inl k)
 obtain⟨u,r,l⟩:=hl i x v hi e1 vis;refine wpAny_AugAssign_Name ?_;have go:wpAny (model X.prog X.w) X.A (eval e X.env) (fun w s₂=>wpAny (model X.prog X.w) X.A (inplaceOp op u w) (fun r s₃=>wpAny (model X.prog X.w) X.A (storeName X.env x r) (fun _=>SP X l3 D .next) X.xe s₃) X.xe s₂) X.xe s:=by
  refine thn (he l3 s σ H _ I h) fun w s1 ⟨y,H1,I1,r1,q1⟩=>?_
  refine thn (ho l3 s1 σ H1 v y u w _ I1 r r1 q1) fun z s2 ⟨zv,H2,I2,r2,q2⟩=>?_
  exact zeY I2 hN hi hx r2 (fun s3 I3=>⟨_,H2,I3,q2⟩) hf
 rcases l with ⟨hk,hm⟩ | ⟨hk,c,hc,qu⟩
 ·exact jN I.ok.kind hk hn hm go
 ·rcases hk with hk | hk
  ·exact kd I.ok.kind hk hc qu go
  ·rcases hx with k | k
   ·have:X.env.scope.names.lookup x=some .free:=hk;rw [k] at this; cases this
   ·have:X.env.scope.names.lookup x=some .free:=hk;rw [k] at this; cases this
def zl5 (c:TT) (tb:TS):TS:=fun D σ H=>∃ W:Nat→St→Hp→Prop,(∃ m,W m σ H)∧∀ m σ H,W m σ H →
 c σ H fun b H1=>if b=true then ∃ N:St→Hp→Prop,(∀ σ' H',N σ' H'→∃ m',m' < m∧W m' σ' H')∧tb { D with nx:=N,ct:=N,bk:=D.nx } σ H1 else D.nx σ H1
theorem zeZ {c:Expr} {body:List Stmt} {tc:TT} {tb:TS} (hp:PassesOwn (model X.prog X.w) X.A X.env X.xe) (hc:PT X c tc) (hb:PSs X body tb):PS X (.While c body [] pos) (zl5 tc tb):=by
 intro l3 s σ H D I h;obtain⟨W,⟨m0,w0⟩,turn⟩:=h;refine wpAny_While (codeAny_whileLoop (fun n s'=>∃ σ' H',Inv X l3 σ' H' s'∧W n σ' H') ?_ m0 ⟨σ,H,I,w0⟩);rintro n s1 ⟨σ1,H1,I1,w1⟩;refine d9 hp (thn (hc l3 s1 σ1 H1 _ I1 (turn n σ1 H1 w1)) fun b s2 ⟨H2,I2,q2⟩=>?_);cases b with
 | true =>
  obtain⟨N,hN,q2⟩:=q2;rw [if_pos rfl];refine d9 hp (thn (hb l3 s2 σ1 H2 _ I2 q2) fun f s3 q3=>?_);cases f with
  | next =>
   obtain⟨σ3,H3,I3,n3⟩:=q3;obtain⟨m',hm,w3⟩:=hN σ3 H3 n3;exact⟨m',hm,σ3,H3,I3,w3⟩
  | cont =>
   obtain⟨σ3,H3,I3,n3⟩:=q3;obtain⟨m',hm,w3⟩:=hN σ3 H3 n3;exact⟨m',hm,σ3,H3,I3,w3⟩
  | brk=>exact q3
  | ret v=>exact q3
 | false =>
  rw [if_neg aS];exact gX ⟨σ1,H2,I2,q2⟩
end
structure It where
 go:Nat→Hp→Prop
 yld:Nat→Hp→V→Hp→Prop
 stop:Nat→Hp→Prop
def zb3 (X:Cx) (l3:List (Addr×Obj)) (H:Hp) (b:Addr):Prop :=
 H b=none∧b≠X.env.locals∧b∉X.fs∧(b∈X.ex∨X.s₀.heap.objs.size≤b)∧(∀ x c,X.env.cells.lookup x=some c→c≠b)∧∀ p∈X.pn++l3,p.1≠b
theorem Inv.fpOk {X:Cx} {l3:List (Addr×Obj)} {σ:St} {H H':Hp} {s:Shared} {b:Addr} (I:Inv X l3 σ H s) (hb:s.heap.objs.size≤b) (hn:H' b=none):zb3 X l3 H' b:=by
 refine⟨hn,gf (bw I.lt hb),I.nofs hb,.inr (aT I.sz hb),fun x c e z=>?_,fun p hp z=>?_⟩
 ·obtain⟨v,q⟩:=I.cell x c e;exact absurd (bw q.lt (by rw [z]; exact hb)) (cD _)
 ·exact absurd (bw (aK (I.pin p hp).1) (by rw [z]; exact hb)) (cD _)
structure Turn (P:Program) (w:World) (K:ah) (tg:Expr) (J:It) (fp:List Addr) (it:Addr) (tn:Nat→Heap→Prop):Prop where
 mem:it∈fp
 obj:∀ i h,tn i h→∀ b∈fp,∃ o,h.get? b=some o∧∀ v,o.data≠.cell v
 keep:∀ i h h',tn i h→(∀ b∈fp,∀ o,h.get? b=some o→h'.get? b=some o)→tn i h'
 item:∀ (X:Cx),X.prog=P→X.w=w→X.K=K→X.calm=true→∀ (i:Nat) (l3:List (Addr×Obj)) (s:Shared) (σ:St) (H:Hp) (E:Value→Shared→Prop),Inv X l3 σ H s→(∀ b∈fp,zb3 X l3 H b)→tn i s.heap→J.go i H →
  wpAny (model P w) X.A (pyNext (.ref it)) (fun r s1=>∃ u,r=some u ∧
   wpAny (model P w) X.A (letOwnedTupleGo tg (.ref it) u) (fun _ s2=>∃ x H',Inv X l3 σ H' s2∧RelV x u∧J.yld i H x H'∧tn (i+1) s2.heap∧∀ b∈fp,H' b=none) E s1) E s
 done:∀ (X:Cx),X.prog=P→X.w=w→X.K=K→X.calm=true→∀ (i:Nat) (l3:List (Addr×Obj)) (s:Shared) (σ:St) (H:Hp) (E:Value→Shared→Prop),Inv X l3 σ H s→(∀ b∈fp,zb3 X l3 H b)→tn i s.heap→J.stop i H →
  wpAny (model P w) X.A (pyNext (.ref it)) (fun r s1=>r=none∧Inv X l3 σ H s1) E s
 self:∀ (A:Around) (i:Nat) (s:Shared) (Q:Value→Shared→Prop) (E:Value→Shared→Prop),tn i s.heap→Q (.ref it) s→wpAny (model P w) A (pyIter (.ref it)) Q E s
abbrev TI:=St→Hp→(It→Hp→Prop)→Prop
def PIE (X:Cx) (l3:List (Addr×Obj)) (σ:St) (tg:Expr) (R:It→Hp→Prop) (Al:Value) (s2:Shared):Prop :=
 ∃ (it:Addr) (fp:List Addr) (tn:Nat→Heap→Prop) (J:It) (H':Hp),Al = .ref it∧Inv X l3 σ H' s2∧Turn X.prog X.w X.K tg J fp it tn∧tn 0 s2.heap∧(∀ b∈fp,zb3 X l3 H' b)∧R J H'
def PI (X:Cx) (tg iter:Expr) (wi:TI):Prop :=
 ∀ (l3:List (Addr×Obj)) (s:Shared) (σ:St) (H:Hp) (R:It→Hp→Prop),Inv X l3 σ H s→wi σ H R →
  wpAny (model X.prog X.w) X.A (eval iter X.env) (fun v s1=>wpAny (model X.prog X.w) X.A (pyIter v) (PIE X l3 σ tg R) X.xe s1) X.xe s
theorem ze0 {M:Model} {A:Around} {E:Value→Shared→Prop} {s:Shared} {tg:Expr} {it:Addr} {u:Value} {o:Obj} {n:String} {vs:Array Value} {Q:Unit→Shared→Prop} (ho:s.heap.get? it=some o) (hc:o.cls = .type n) (hd:o.data = .fields vs)
  (hn:["enumerate","zip","dict_itemiterator","dict_reverseitemiterator","odict_iterator","itertools.zip_longest","itertools.pairwise"].contains n=false) (hQ:Q () s):wpAny M A (letOwnedTupleGo tg (.ref it) u) Q E s:=by
 unfold letOwnedTupleGo;cases tg <;> first
  | exact ao hQ
  | (cases u <;> first
    | exact ao hQ
    | (refine ae (wpAny_load ho ?_)
       rw [hc,hd];show wpAny M A (if (["enumerate","zip","dict_itemiterator","dict_reverseitemiterator","odict_iterator","itertools.zip_longest","itertools.pairwise"].contains n && vs[0]? == some (rawInt _))=true then _ else _) Q E s;rw [if_neg (by intro h; rw [hn,lK] at h; cases h)];exact ao hQ))
def Itl (K:ah) (a:Addr):It :=
 ⟨fun i H=>∃ xs x,me K H a xs∧xs[i]? = some x,fun i H x H'=>H'=H∧∀ xs,me K H a xs→xs[i]? = some x,fun i H=>∃ xs,me K H a xs∧xs.length≤i⟩
def Itt (K:ah) (a:Addr):It :=
 ⟨fun i H=>∃ xs x,mE K H a xs∧xs[i]? = some x,fun i H x H'=>H'=H∧∀ xs,mE K H a xs→xs[i]? = some x,fun i H=>∃ xs,mE K H a xs∧xs.length≤i⟩
def Itr (lo:Int) (n:Nat):It:=⟨fun i _=>i < n,fun i H x H'=>H'=H∧x = .int (lo+i),fun i _=>n≤i⟩
theorem zf8 {P:Program} {w:World} {K:ah} {tg:Expr} (a it:Addr):Turn P w K tg (Itl K a) [it] it (fun i h=>h.IsListIter it a i) where
 mem:=by simp
 obj:=fun i h st b hb=>by
  have e:b=it:=by simpa using hb
  subst e;obtain⟨o,e,c,d⟩:=st;exact⟨o,e,fun v z=>by rw [d] at z; cases z⟩
 keep:=fun i h h' st k=>st.at fun o e=>k it #[M] o e
 item:=by
  intro X hP hw hK hc i l3 s σ H E I hf st hg;subst hP hw hK;obtain⟨xs,x,hq,hx⟩:=hg;obtain⟨mf,rv,p,hz⟩:=I.list hq;obtain⟨u,hu,ru⟩:=rv.get hx;obtain⟨f0,f1,f2,f3,f4,f5⟩:=hf it #[M];refine wpAny_pyNext_list_item st p.isList (x:=u) (by simpa using hu) fun h' mj sb=>?_
  have I1:Inv X l3 σ H { s with heap:=h' }:=I.turned (t':=s.toks) (fun b o hb e=>(sb.2 b hb).trans e) f0 f1 f3 f4 f5;obtain⟨o,e,c,d⟩:=id mj;exact⟨u,rfl,ze0 (s:={ s with heap:=h' }) e c d #[D] ⟨x,H,I1,ru,⟨rfl,fun ys hy=>by rw [I.list_inj hy hq]; exact hx⟩,mj,fun b hb=>(hf b hb).1⟩⟩
 done:=by
  intro X hP hw hK hc i l3 s σ H E I hf st hg;subst hP hw hK;obtain⟨xs,hq,hx⟩:=hg;obtain⟨mf,rv,p,hz⟩:=I.list hq;obtain⟨f0,f1,f2,f3,f4,f5⟩:=hf it #[M];have hl:=rv.length;exact wpAny_pyNext_list_end (I.ok.hd hc) st p.isList (by simp; lia) fun h' eb=>⟨rfl,I.turned (t':=s.toks) (fun b o hb e=>eb b o hb e) f0 f1 f3 f4 f5⟩
 self:=fun _ _ _ _ _ st h=>wpAny_pyIter_listiter st h
theorem ze1 {P:Program} {w:World} {K:ah} {tg:Expr} (a it:Addr):Turn P w K tg (Itt K a) [it] it (fun i h=>h.IsTupleIter it a i) where
 mem:=by simp
 obj:=fun i h st b hb=>by
  have e:b=it:=by simpa using hb
  subst e;obtain⟨o,e,c,d⟩:=st;exact⟨o,e,fun v z=>by rw [d] at z; cases z⟩
 keep:=fun i h h' st k=>st.at fun o e=>k it #[M] o e
 item:=by
  intro X hP hw hK hc i l3 s σ H E I hf st hg;subst hP hw hK;obtain⟨xs,x,hq,hx⟩:=hg;obtain⟨mf,rv,p,hz⟩:=I.tuple hq;obtain⟨u,hu,ru⟩:=rv.get hx;obtain⟨f0,f1,f2,f3,f4,f5⟩:=hf it #[M];refine wpAny_pyNext_tuple_item st (show s.heap.IsTuple a mf.toArray from p) (x:=u) (by simpa using hu) fun h' mj sb=>?_
  have I1:Inv X l3 σ H { s with heap:=h' }:=I.turned (t':=s.toks) (fun b o hb e=>(sb.2 b hb).trans e) f0 f1 f3 f4 f5;obtain⟨o,e,c,d⟩:=id mj;exact⟨u,rfl,ze0 (s:={ s with heap:=h' }) e c d #[D] ⟨x,H,I1,ru,⟨rfl,fun ys hy=>by rw [I.tuple_inj hy hq]; exact hx⟩,mj,fun b hb=>(hf b hb).1⟩⟩
 done:=by
  intro X hP hw hK hc i l3 s σ H E I hf st hg;subst hP hw hK;obtain⟨xs,hq,hx⟩:=hg;obtain⟨mf,rv,p,hz⟩:=I.tuple hq;obtain⟨f0,f1,f2,f3,f4,f5⟩:=hf it #[M];have hl:=rv.length;exact wpAny_pyNext_tuple_end (I.ok.hd hc) st (show s.heap.IsTuple a mf.toArray from p) (by simp; lia) fun h' eb=>⟨rfl,I.turned (t':=s.toks) (fun b o hb e=>eb b o hb e) f0 f1 f3 f4 f5⟩
 self:=fun _ _ _ _ _ st h=>wpAny_pyIter_tupleiter st h
theorem zi5 {P:Program} {w:World} {K:ah} {tg:Expr} (it:Addr) (lo:Int) (n:Nat):Turn P w K tg (Itr lo n) [it] it (fun i h=>IsRangeIter h it (lo+(i:Nat)*1) ((n:Int) - (i:Nat)) 1) where
 mem:=by simp
 obj:=fun i h st b hb=>by
  have e:b=it:=by simpa using hb
  subst e;exact⟨_,st,fun v z=>by
   have z':jr _=Data.cell v:=z;cases z'⟩
 keep:=fun i h h' st k=>k it #[M] _ st
 item:=by
  intro X hP hw hK hc i l3 s σ H E I hf st hg;subst hP hw hK;obtain⟨f0,f1,f2,f3,f4,f5⟩:=hf it #[M];have W:=Walks.range (prog:=X.prog) (w:=X.w) (I.ok.hd hc) it lo 1 n;refine W.item i s _ _ hg st fun v h' tk hv mj kk=>?_
  obtain⟨t,rfl⟩:=hv;have I1:Inv X l3 σ H { s with heap:=h',toks:=tk }:=I.turned (fun b o hb e=>kk b o (by simpa using hb) e) f0 f1 f3 f4 f5;refine⟨_,rfl,ze0 (s:={ s with heap:=h',toks:=tk }) (n:="range_iterator") mj rfl rfl #[D] ⟨.int (lo+i),H,I1,⟨t,?_⟩,⟨rfl,rfl⟩,mj,fun b hb=>(hf b hb).1⟩⟩;rw [kS]
 done:=by
  intro X hP hw hK hc i l3 s σ H E I hf st hg;subst hP hw hK;obtain⟨f0,f1,f2,f3,f4,f5⟩:=hf it #[M];exact jt (I.ok.hd hc) st (by have:n≤i:=hg; lia) fun h' eb=>⟨rfl,I.turned (t':=s.toks) (fun b o hb e=>eb b o hb e) f0 f1 f3 f4 f5⟩
 self:=fun _ _ _ _ _ st h=>gF st h
section
variable {X:Cx} {tg:Expr}
def zpr (K:ah) (tl:TE):TI:=fun σ H R=>tl σ H fun x H1=>∃ a,x = .ref a∧(∃ xs,me K H1 a xs)∧R (Itl K a) H1
def zq4 (K:ah) (tl:TE):TI:=fun σ H R=>tl σ H fun x H1=>∃ a,x = .ref a∧(∃ xs,mE K H1 a xs)∧R (Itt K a) H1
theorem zY {l:Expr} {tl:TE} (hl:PE X l tl):PI X tg l (zpr X.K tl):=by
 intro l3 s σ H R I h;refine thn (hl l3 s σ H _ I h) fun v s1 ⟨x,H1,I1,r1,q1⟩=>?_
 obtain⟨a,e,⟨xs,hq⟩,q⟩:=q1;subst e;cases r1;obtain⟨mf,rv,p,hz⟩:=I1.list hq;refine gB p.isList ?_;refine⟨s1.heap.objs.size,[s1.heap.objs.size],_,_,H1,rfl,I1.kept (t':=s1.toks) fun b o e=>ai _ e,zf8 a _,⟨_,aG _ rfl,rfl,rfl⟩,fun b hb=>?_,q⟩;have e:b=s1.heap.objs.size:=by simpa using hb
 subst e;exact I1.fpOk (ag _) (I1.hok.fresh (ag _))
theorem zgJ {l:Expr} {tl:TE} (hl:PE X l tl):PI X tg l (zq4 X.K tl):=by
 intro l3 s σ H R I h;refine thn (hl l3 s σ H _ I h) fun v s1 ⟨x,H1,I1,r1,q1⟩=>?_
 obtain⟨a,e,⟨xs,hq⟩,q⟩:=q1;subst e;cases r1;obtain⟨mf,rv,p,hz⟩:=I1.tuple hq;refine iz (show s1.heap.IsTuple a mf.toArray from p) ?_;refine⟨s1.heap.objs.size,[s1.heap.objs.size],_,_,H1,rfl,I1.kept (t':=s1.toks) fun b o e=>ai _ e,ze1 a _,⟨_,aG _ rfl,rfl,rfl⟩,fun b hb=>?_,q⟩;have e:b=s1.heap.objs.size:=by simpa using hb
 subst e;exact I1.fpOk (ag _) (I1.hok.fresh (ag _))
theorem zhG {l3:List (Addr×Obj)} {σ:St} {H:Hp} {s:Shared} {R:It→Hp→Prop} {E:Value→Shared→Prop} {lo hi:Int} {t u v:Tok} {tk:Nat} (I:Inv X l3 σ H s) (h1:-(2 ^ 62)≤lo) (h2:lo < 2 ^ 62) (h3:-(2 ^ 62)≤hi) (h4:hi < 2 ^ 62)
  (q:R (Itr lo (hi - lo).toNat) H):wpAny (model X.prog X.w) X.A (pyIter (.ref s.heap.objs.size)) (PIE X l3 σ tg R) E { s with heap:=s.heap.push { cls:=.type "range",data:=.fields #[.int lo t,.int hi u,.int 1 v] },toks:=tk }:=by
 refine wpAny_pyIter_range (IsRange.new ..) (small_one h1 h2 h3 h4) ?_;have I1:Inv X l3 σ H { s with heap:=s.heap.push { cls:=.type "range",data:=.fields #[.int lo t,.int hi u,.int 1 v] },toks:=tk }:=I.kept fun b o e=>ai _ e
 refine⟨(s.heap.push { cls:=.type "range",data:=.fields #[.int lo t,.int hi u,.int 1 v] }).objs.size,[(s.heap.push { cls:=.type "range",data:=.fields #[.int lo t,.int hi u,.int 1 v] }).objs.size],_,_,H,rfl,
  I1.kept (t':=tk) fun b o e=>ai _ e,zi5 _ lo (hi - lo).toNat,?_,fun b hb=>?_,q⟩
 ·have e1:lo+((0:Nat):Int)*1=lo:=by simp
  have e2:(((hi - lo).toNat:Nat):Int) - ((0:Nat):Int)=bG lo hi 1:=by rw [rangeSize_one]; split <;> lia
  show IsRangeIter _ _ (lo+((0:Nat):Int)*1) ((((hi - lo).toNat:Nat):Int) - ((0:Nat):Int)) 1;rw [e1,e2];exact aG _ rfl
 ·have e:b=(s.heap.push { cls:=.type "range",data:=.fields #[.int lo t,.int hi u,.int 1 v] }).objs.size:=by simpa using hb
  subst e;exact I1.fpOk (ag _) (I1.hok.fresh (ag _))
def zq5 (ta:TA):TI:=fun σ H R=>ta σ H fun vs H1=>∃ j:Int,vs = [.int j]∧-(2 ^ 62)≤j∧j < 2 ^ 62∧R (Itr 0 j.toNat) H1
def zq6 (ta:TA):TI:=fun σ H R=>ta σ H fun vs H1=>∃ i j:Int,vs = [.int i,.int j]∧(-(2 ^ 62)≤i∧i < 2 ^ 62∧-(2 ^ 62)≤j∧j < 2 ^ 62)∧R (Itr i (j - i).toNat) H1
theorem z9 {a:Expr} {ta:TA} {p pos:Pos} (hg:Gl X "range") (hm:X.mg "range" = none) (ha:PA X [a] ta) (hs:starEach [a] X.env = [(false,eval a X.env)]:=by rfl):PI X tg (.Call (.Name "range" p) [a] [] pos) (zq5 ta):=by
 intro l3 s σ H R I h;refine Call_ (zbe I hg hm jO (bA (thn (ha pos l3 s σ H _ I h) fun us s1 ⟨vs,H1,I1,r1,q1⟩=>?_) hs rfl));obtain⟨j,e,q1,q2,q⟩:=q1;subst e;cases r1 with
 | cons r rr =>
  cases rr;obtain⟨t,rfl⟩:=r;exact call_range_1 (zhG I1 #[O] #[O] q1 q2 (by simpa using q))
theorem zkW {a b:Expr} {ta:TA} {p pos:Pos} (hg:Gl X "range") (hm:X.mg "range" = none) (ha:PA X [a,b] ta) (hs:starEach [a,b] X.env = [(false,eval a X.env),(false,eval b X.env)]:=by rfl) (oU:starEach [b] X.env = [(false,eval b X.env)]:=by rfl) :
  PI X tg (.Call (.Name "range" p) [a,b] [] pos) (zq6 ta):=by
 intro l3 s σ H R I h;refine Call_ (zbe I hg hm jO (bA (thn (ha pos l3 s σ H _ I h) fun us s1 ⟨vs,H1,I1,r1,q1⟩=>?_) (by rw [hs,oU]) (by rw [oU]; rfl)));obtain⟨i,j,e,⟨q1,q2,q3,q4⟩,q⟩:=q1;subst e;cases r1 with
 | cons r rr =>
  cases rr with
  | cons r' rr =>
   cases rr;obtain⟨t,rfl⟩:=r;obtain⟨t',rfl⟩:=r';exact call_range_2 (zhG I1 q1 q2 q3 q4 q)
def zrN (wi:TI) (g:TG) (tb:TS):TS:=fun D σ H=>wi σ H fun J H1=>∃ W:Nat→Nat→St→Hp→Prop,(∃ m,W 0 m σ H1)∧∀ i m σ H,W i m σ H →
 (J.stop i H∧D.nx σ H)∨(J.go i H∧∃ N:St→Hp→Prop,(∀ σ' H',N σ' H'→∃ m',m' < m∧W (i+1) m' σ' H')∧∀ x H',J.yld i H x H'→g x σ H' fun σ2 H2=>tb { D with nx:=N,ct:=N,bk:=D.nx } σ2 H2)
def zcM (fp:List Addr) (h:Heap):List (Addr×Obj):=fp.filterMap fun b=>(h.get? b).map fun o=>(b,o)
theorem zco {fp:List Addr} {h:Heap} {b:Addr} {o:Obj} (hb:b∈fp) (e:h.get? b=some o):(b,o)∈zcM fp h:=kq.mpr ⟨b,hb,by rw [e]; rfl⟩
theorem zf9 {fp:List Addr} {h:Heap} {p:Addr×Obj} (hp:p∈zcM fp h):p.1∈fp∧h.get? p.1=some p.2:=by
 obtain⟨b,hb,e⟩:=kq.mp hp;cases q:h.get? b with
 | none=>rw [q] at e; cases e
 | some o =>
  rw [q] at e;have e':(b,o)=p:=aV e;subst e';exact⟨hb,q⟩
theorem Inv.pinned {l3:List (Addr×Obj)} {σ:St} {H:Hp} {s:Shared} {fp:List Addr} (I:Inv X l3 σ H s) (hf:∀ b∈fp,zb3 X l3 H b) (ho:∀ b∈fp,∃ o,s.heap.get? b=some o∧∀ v,o.data≠.cell v):Inv X (l3++zcM fp s.heap) σ H s :=
 I.pins_of fun p hp=>(aY.mp hp).elim (fun z=>I.pin p (aP _ z)) fun z=>by
  obtain⟨hb,e⟩:=zf9 z;obtain⟨f0,f1,f2,_⟩:=hf p.1 hb;obtain⟨o,e',d⟩:=ho p.1 hb;rw [e] at e'; cases e';exact⟨e,f0,f1,f2,d⟩
theorem Inv.unpinned {l3 pl:List (Addr×Obj)} {σ:St} {H:Hp} {s:Shared} (I:Inv X (l3++pl) σ H s):Inv X l3 σ H s:=I.pins_of fun p hp=>I.pin p (aP _ (ba _ hp))
theorem zaD {iter:Expr} {body:List Stmt} {wi:TI} {g:TG} {tb:TS} {pos:Pos} (hp:PassesOwn (model X.prog X.w) X.A X.env X.xe) (hc:X.calm=true) (hi:PI X tg iter wi) (hg:PG X tg g) (hb:PSs X body tb)
  (hs:∀ x,foldedSetIterable iter X.env x=pure x:=by intro _; rfl):PS X (.For tg iter body [] pos) (zrN wi g tb):=by
 intro l3 s σ H D I h;refine wpAny_For (thn (hi l3 s σ H _ I h) fun v s1 h1=>thn h1 fun Al s2 h2=>?_) hs;obtain⟨it,fp,tn,J,H2,e,I2,T,ng,f2,W,⟨m0,w0⟩,turn⟩:=h2;subst e;have Am:∀ {H':Hp},(∀ b∈fp,H' b=none)→∀ b∈fp,zb3 X l3 H' b:=fun hn b hb=>⟨hn b hb,(f2 b hb).2⟩
 refine codeAny_forLoop_any (fun n s'=>∃ i σ' H',Inv X l3 σ' H' s'∧tn i s'.heap∧(∀ b∈fp,H' b=none)∧W i n σ' H') ?_ m0 ⟨0,σ,H2,I2,ng,fun b hb=>(f2 b hb).1,w0⟩;rintro n s3 ⟨i,σ3,H3,I3,DV,fr3,w3⟩;rcases turn i n σ3 H3 w3 with ⟨stop,qn⟩ | ⟨go,N,hN,step⟩
 ·refine d9 hp (thn (T.done X rfl rfl rfl hc i l3 s3 σ3 H3 X.xe I3 (Am fr3) DV stop) fun r s4 ⟨hr,I4⟩=>?_);subst hr;exact gX ⟨σ3,H3,I4,qn⟩
 ·refine d9 hp (thn (T.item X rfl rfl rfl hc i l3 s3 σ3 H3 X.xe I3 (Am fr3) DV go) fun r s4 ⟨u,hr,h4⟩=>?_);subst hr;refine d9 hp (thn h4 fun _ s5 ⟨x,H5,I5,r5,y5,BI,fr5⟩=>?_);have I5':=I5.pinned (Am fr5) (T.obj _ _ BI);refine d9 hp (thn (hg _ s5 σ3 H5 x u _ I5' r5 (step x H5 y5)) fun _ s6 ⟨σ6,H6,I6,q6⟩=>?_);refine d9 hp (thn (hb _ s6 σ6 H6 _ I6 q6) fun f s7 q7=>?_);have again:∀ {σ7:St} {H7:Hp},Inv X (l3++zcM fp s5.heap) σ7 H7 s7→N σ7 H7→∃ m,m < n∧∃ i σ' H',Inv X l3 σ' H' s7∧tn i s7.heap∧(∀ b∈fp,H' b=none)∧W i m σ' H':=fun {σ7 H7} I7 n7=>by
   obtain⟨m',hm,w7⟩:=hN σ7 H7 n7;refine⟨m',hm,i+1,σ7,H7,I7.unpinned,T.keep _ _ _ BI fun b hb o e=>(I7.pin (b,o) (aP _ (aP _ (zco hb e)))).1,fun b hb=>?_,w7⟩;obtain⟨o,e,d⟩:=T.obj _ _ BI b hb;exact (I7.pin (b,o) (aP _ (aP _ (zco hb e)))).2.1
  cases f with
  | next=>obtain⟨σ7,H7,I7,n7⟩:=q7; exact again I7 n7
  | cont=>obtain⟨σ7,H7,I7,n7⟩:=q7; exact again I7 n7
  | brk=>obtain⟨σ7,H7,I7,q7⟩:=q7; exact⟨σ7,H7,I7.unpinned,q7⟩
  | ret v=>obtain⟨x7,σ7,H7,I7,r7,q7⟩:=q7; exact⟨x7,σ7,H7,I7.unpinned,r7,q7⟩
end
theorem zl6 {K:ah} {a:Addr} {xs:List V} {g:TG} {tb:TS} {D:Ends} {σ:St} {H:Hp} (Pv:Nat→St→Hp→Prop) (h0:Pv 0 σ H) (hl:∀ i σ H,i≤xs.length→Pv i σ H→me K H a xs)
  (hs:∀ i x σ H,xs[i]? = some x→Pv i σ H→g x σ H fun σ2 H2=>tb { D with nx:=Pv (i+1),ct:=Pv (i+1),bk:=D.nx } σ2 H2) (hd:∀ σ H,Pv xs.length σ H→D.nx σ H) :
  ∃ W:Nat→Nat→St→Hp→Prop,(∃ m,W 0 m σ H)∧∀ i m σ H,W i m σ H →
   ((Itl K a).stop i H∧D.nx σ H)∨((Itl K a).go i H∧∃ N:St→Hp→Prop,(∀ σ' H',N σ' H'→∃ m',m' < m∧W (i+1) m' σ' H')∧∀ x H',(Itl K a).yld i H x H'→g x σ H' fun σ2 H2=>tb { D with nx:=N,ct:=N,bk:=D.nx } σ2 H2):=by
 refine⟨fun i m σ H=>m=xs.length - i∧i≤xs.length∧Pv i σ H,⟨xs.length,#[M],bm _,h0⟩,?_⟩;rintro i m σ H ⟨rfl,hi,p⟩;have q:=hl i σ H hi p;by_cases mM:i < xs.length
 ·refine .inr ⟨⟨xs,xs[i],q,by simp [mM]⟩,Pv (i+1),fun σ' H' p'=>⟨xs.length - (i+1),#[O],rfl,mM,p'⟩,fun x H' y=>?_⟩;obtain⟨e,y⟩:=y;subst e;exact hs i x σ _ (y xs q) p
 ·have e:i=xs.length:=by lia
  subst e;exact .inl ⟨⟨xs,q,ag _⟩,hd σ H p⟩
theorem zn9 {K:ah} {a:Addr} {xs:List V} {g:TG} {tb:TS} {D:Ends} {σ:St} {H:Hp} (Pv:Nat→St→Hp→Prop) (h0:Pv 0 σ H) (hl:∀ i σ H,i≤xs.length→Pv i σ H→mE K H a xs)
  (hs:∀ i x σ H,xs[i]? = some x→Pv i σ H→g x σ H fun σ2 H2=>tb { D with nx:=Pv (i+1),ct:=Pv (i+1),bk:=D.nx } σ2 H2) (hd:∀ σ H,Pv xs.length σ H→D.nx σ H) :
  ∃ W:Nat→Nat→St→Hp→Prop,(∃ m,W 0 m σ H)∧∀ i m σ H,W i m σ H →
   ((Itt K a).stop i H∧D.nx σ H)∨((Itt K a).go i H∧∃ N:St→Hp→Prop,(∀ σ' H',N σ' H'→∃ m',m' < m∧W (i+1) m' σ' H')∧∀ x H',(Itt K a).yld i H x H'→g x σ H' fun σ2 H2=>tb { D with nx:=N,ct:=N,bk:=D.nx } σ2 H2):=by
 refine⟨fun i m σ H=>m=xs.length - i∧i≤xs.length∧Pv i σ H,⟨xs.length,#[M],bm _,h0⟩,?_⟩;rintro i m σ H ⟨rfl,hi,p⟩;have q:=hl i σ H hi p;by_cases mM:i < xs.length
 ·refine .inr ⟨⟨xs,xs[i],q,by simp [mM]⟩,Pv (i+1),fun σ' H' p'=>⟨xs.length - (i+1),#[O],rfl,mM,p'⟩,fun x H' y=>?_⟩;obtain⟨e,y⟩:=y;subst e;exact hs i x σ _ (y xs q) p
 ·have e:i=xs.length:=by lia
  subst e;exact .inl ⟨⟨xs,q,ag _⟩,hd σ H p⟩
theorem zkX {lo:Int} {n:Nat} {g:TG} {tb:TS} {D:Ends} {σ:St} {H:Hp} (Pv:Nat→St→Hp→Prop) (h0:Pv 0 σ H)
  (hs:∀ i σ H,i < n→Pv i σ H→g (.int (lo+i)) σ H fun σ2 H2=>tb { D with nx:=Pv (i+1),ct:=Pv (i+1),bk:=D.nx } σ2 H2) (hd:∀ σ H,Pv n σ H→D.nx σ H) :
  ∃ W:Nat→Nat→St→Hp→Prop,(∃ m,W 0 m σ H)∧∀ i m σ H,W i m σ H →
   ((Itr lo n).stop i H∧D.nx σ H)∨((Itr lo n).go i H∧∃ N:St→Hp→Prop,(∀ σ' H',N σ' H'→∃ m',m' < m∧W (i+1) m' σ' H')∧∀ x H',(Itr lo n).yld i H x H'→g x σ H' fun σ2 H2=>tb { D with nx:=N,ct:=N,bk:=D.nx } σ2 H2):=by
 refine⟨fun i m σ H=>m=n - i∧i≤n∧Pv i σ H,⟨n,#[M],bm _,h0⟩,?_⟩;rintro i m σ H ⟨rfl,hi,p⟩;by_cases mM:i < n
 ·refine .inr ⟨mM,Pv (i+1),fun σ' H' p'=>⟨n - (i+1),#[O],rfl,mM,p'⟩,fun x H' y=>?_⟩;obtain⟨e,y⟩:=y;subst e y;exact hs i σ _ mM p
 ·have e:i=n:=by lia
  subst e;exact .inl ⟨ag _,hd σ H p⟩
theorem zhH {c:TT} {tb:TS} {D:Ends} {σ:St} {H:Hp} (Pv:St→Hp→Prop) (μ:St→Hp→Nat) (h0:Pv σ H)
  (hs:∀ σ H,Pv σ H→c σ H fun b H1=>if b=true then tb { D with nx:=fun σ' H'=>Pv σ' H'∧μ σ' H' < μ σ H,ct:=fun σ' H'=>Pv σ' H'∧μ σ' H' < μ σ H,bk:=D.nx } σ H1 else D.nx σ H1)
  (mono:∀ σ H Q Q',(∀ b H1,Q b H1→Q' b H1)→c σ H Q→c σ H Q'):zl5 c tb D σ H:=by
 refine⟨fun m σ H=>m=μ σ H∧Pv σ H,⟨_,rfl,h0⟩,?_⟩;rintro m σ H ⟨rfl,p⟩;refine mono σ H _ _ (fun b H1 q=>?_) (hs σ H p);cases b with
 | true=>exact⟨_,fun σ' H' ⟨p',l⟩=>⟨_,l,rfl,p'⟩,q⟩
 | false=>exact q
abbrev R2:=V→V→Hp→VK→Prop
def OpR (X:Cx) (f:Value→Value→Sem Value) (r:R2):Prop :=
 ∀ (l3:List (Addr×Obj)) (s:Shared) (σ:St) (H:Hp) (x y:V) (v u:Value) (Q:VK),Inv X l3 σ H s→RelV x v→RelV y u→r x y H Q →
  wpAny (model X.prog X.w) X.A (f v u) (EP X l3 σ Q) X.xe s
def UnR (X:Cx) (f:Value→Sem Value) (r:V→Hp→VK→Prop):Prop :=
 ∀ (l3:List (Addr×Obj)) (s:Shared) (σ:St) (H:Hp) (x:V) (v:Value) (Q:VK),Inv X l3 σ H s→RelV x v→r x H Q →
  wpAny (model X.prog X.w) X.A (f v) (EP X l3 σ Q) X.xe s
def zbn (X:Cx) (f:Value) (r:List V→Hp→VK→Prop):Prop :=
 ∀ (l3:List (Addr×Obj)) (s:Shared) (σ:St) (H:Hp) (xs:List V) (us:List Value) (Q:VK),Inv X l3 σ H s→zS xs us→r xs H Q →
  wpAny (model X.prog X.w) X.A (call f us) (EP X l3 σ Q) X.xe s
def zrO (X:Cx) (r:V→Hp→(Bool→Hp→Prop)→Prop):Prop :=
 ∀ (l3:List (Addr×Obj)) (s:Shared) (σ:St) (H:Hp) (x:V) (v:Value) (Q:Bool→Hp→Prop),Inv X l3 σ H s→RelV x v→r x H Q →
  wpAny (model X.prog X.w) X.A (truthy v) (TP X l3 σ Q) X.xe s
def tOp (r:R2) (ta tb:TE):TE:=fun σ H Q=>ta σ H fun x H1=>tb σ H1 fun y H2=>r x y H2 Q
def tUn (r:V→Hp→VK→Prop) (ta:TE):TE:=fun σ H Q=>ta σ H fun x H1=>r x H1 Q
def rI (C:Int→Int→Prop) (g:Int→Int→V):R2:=fun x y H Q=>∃ i j,x = .int i∧y = .int j∧C i j∧Q (g i j) H
def rI0 (g:Int→Int→V):R2:=fun x y H Q=>∃ i j,x = .int i∧y = .int j∧Q (g i j) H
def rU (g:Int→V):V→Hp→VK→Prop:=fun x H Q=>∃ i,x = .int i∧Q (g i) H
section
variable {X:Cx} {a b c:Expr} {ta tb tc:TE} {pos:Pos}
theorem zq7 (ha:PE X a ta) (hb:PE X b tb) {l3:List (Addr×Obj)} {s:Shared} {σ:St} {H:Hp} {R:V→V→Hp→Prop} (I:Inv X l3 σ H s)
  (h:ta σ H fun x H1=>tb σ H1 fun y H2=>R x y H2) {Q:Value→Shared→Prop} {f:Value→Value→Sem Value}
  (hf:∀ v u s2 x y H2,Inv X l3 σ H2 s2→RelV x v→RelV y u→R x y H2→wpAny (model X.prog X.w) X.A (f v u) Q X.xe s2) :
  wpAny (model X.prog X.w) X.A (eval a X.env) (fun v s₁=>wpAny (model X.prog X.w) X.A (eval b X.env) (fun u s₂=>wpAny (model X.prog X.w) X.A (f v u) Q X.xe s₂) X.xe s₁) X.xe s:=by
 refine thn (ha l3 s σ H _ I h) fun v s1 ⟨x,H1,I1,r1,q1⟩=>?_
 refine thn (hb l3 s1 σ H1 _ I1 q1) fun u s2 ⟨y,H2,I2,r2,q2⟩=>?_
 exact hf v u s2 x y H2 I2 r1 r2 q2
theorem zi {op:Operator} {r:R2} (ho:OpR X (binaryOp op) r) (ha:PE X a ta) (hb:PE X b tb):PE X (.BinOp a op b pos) (tOp r ta tb):=by
 intro l3 s σ H Q I h;exact wpAny_BinOp (zq7 ha hb I h fun v u s2 x y H2 I2 rx ry q=>ho l3 s2 σ H2 x y v u Q I2 rx ry q)
theorem zps {op:UnaryOp} {r:V→Hp→VK→Prop} (ho:UnR X (unaryOp op) r) (ha:PE X a ta):PE X (.UnaryOp op a pos) (tUn r ta):=by
 intro l3 s σ H Q I h;exact UnaryOp_ (thn (ha l3 s σ H _ I h) fun v s1 ⟨x,H1,I1,r1,q1⟩=>ho l3 s1 σ H1 x v Q I1 r1 q1)
theorem opI {f:Value→Value→Sem Value} {C:Int→Int→Prop} {g:Int→Int→Int}
  (rule:∀ (i j:Int) (t u:Tok) (s:Shared) (Q:Value→Shared→Prop) (E:Value→Shared→Prop),C i j→Q (.int (g i j) s.toks) { s with toks:=s.toks+1 }→wpAny (model X.prog X.w) X.A (f (.int i t) (.int j u)) Q E s) :
  OpR X f (rI C fun i j=>.int (g i j)):=by
 intro l3 s σ H x y v u Q I rx ry h;obtain⟨i,j,rfl,rfl,hc,q⟩:=h;obtain⟨t,rfl⟩:=rx;obtain⟨t',rfl⟩:=ry;exact rule i j t t' s _ _ hc ⟨.int (g i j),H,I.tok _,⟨_,rfl⟩,q⟩
theorem zp0 {f:Value→Value→Sem Value} {g:Int→Int→Int}
  (rule:∀ (i j:Int) (t u:Tok) (s:Shared) (Q:Value→Shared→Prop) (E:Value→Shared→Prop),Q (.int (g i j) s.toks) { s with toks:=s.toks+1 }→wpAny (model X.prog X.w) X.A (f (.int i t) (.int j u)) Q E s) :
  OpR X f (rI0 fun i j=>.int (g i j)):=by
 intro l3 s σ H x y v u Q I rx ry h;obtain⟨i,j,rfl,rfl,q⟩:=h;obtain⟨t,rfl⟩:=rx;obtain⟨t',rfl⟩:=ry;exact rule i j t t' s _ _ ⟨.int (g i j),H,I.tok _,⟨_,rfl⟩,q⟩
theorem zoa {f:Value→Value→Sem Value} {g:Int→Int→Bool}
  (rule:∀ (i j:Int) (t u:Tok) (s:Shared) (Q:Value→Shared→Prop) (E:Value→Shared→Prop),Q (.bool (g i j)) s→wpAny (model X.prog X.w) X.A (f (.int i t) (.int j u)) Q E s) :
  OpR X f (rI0 fun i j=>.bl (g i j)):=by
 intro l3 s σ H x y v u Q I rx ry h;obtain⟨i,j,rfl,rfl,q⟩:=h;obtain⟨t,rfl⟩:=rx;obtain⟨t',rfl⟩:=ry;exact rule i j t t' s _ _ ⟨.bl (g i j),H,I,rfl,q⟩
def zq8 (i j:Int):Prop:=0 < j∧j < 1073741824
def zrP (i j:Int):Prop:=0≤j∧j≤1000000∧i.natAbs < 2 ^ 64
def zp1 (i j:Int):Prop:=(-(2 ^ 64) < i∧i < 2 ^ 64)∨(-(2 ^ 64) < j∧j < 2 ^ 64)
theorem zp1.ok {i j:Int} (h:zp1 i j):IntMulOk i j:=by
 rcases h with ⟨h1,h2⟩ | ⟨h1,h2⟩
 ·exact .of_left (intBits_le_64 h1 h2)
 ·exact .of_right (intBits_le_64 h1 h2)
theorem zH:OpR X (binaryOp .Add) (rI0 fun i j=>.int (i+j)):=zp0 fun _ _ _ _ _ _ _ q=>add_int q
theorem zap:OpR X (binaryOp .Sub) (rI0 fun i j=>.int (i - j)):=zp0 fun _ _ _ _ _ _ _ q=>sub_int q
theorem zU:OpR X (binaryOp .Mult) (rI zp1 fun i j=>.int (i*j)):=opI fun _ _ _ _ _ _ _ hc q=>mul_int q hc.ok
theorem zaX:OpR X (binaryOp .FloorDiv) (rI zq8 fun i j=>.int (i / j)):=opI fun i j _ _ _ _ _ hc q=>by
 have h1:(0:Int) < j:=hc.1;have h2:j < 1073741824:=hc.2;exact floordiv_int #[O] (by rw [iG i #[O]]; exact q) (.inl (ju #[O]))
theorem zI:OpR X (binaryOp .Mod) (rI (fun _ j=>0 < j) fun i j=>.int (i % j)):=opI fun i j _ _ _ _ _ hc q=>by
 have h1:(0:Int) < j:=hc;exact mod_int' #[O] (by rw [Int.fmod_eq_emod_of_nonneg i #[O]]; exact q)
theorem zp2:OpR X (binaryOp .Pow) (rI zrP fun i j=>.int (i ^ j.toNat)):=opI fun _ _ _ _ _ _ _ hc q=>pow_int_small hc.1 hc.2.1 hc.2.2 q
theorem zob:OpR X (inplaceOp .Add) (rI0 fun i j=>.int (i+j)):=zp0 fun _ _ _ _ _ _ _ q=>iadd_int q
theorem zl7:OpR X (inplaceOp .FloorDiv) (rI zq8 fun i j=>.int (i / j)):=opI fun i j _ _ _ _ _ hc q=>by
 have h1:(0:Int) < j:=hc.1;have h2:j < 1073741824:=hc.2;exact ifloordiv_int #[O] (by rw [iG i #[O]]; exact q) (.inl (ju #[O]))
theorem unI {f:Value→Sem Value} {g:Int→Int}
  (rule:∀ (i:Int) (t:Tok) (s:Shared) (Q:Value→Shared→Prop) (E:Value→Shared→Prop),Q (.int (g i) s.toks) { s with toks:=s.toks+1 }→wpAny (model X.prog X.w) X.A (f (.int i t)) Q E s) :
  UnR X f (rU fun i=>.int (g i)):=by
 intro l3 s σ H x v Q I rx h;obtain⟨i,rfl,q⟩:=h;obtain⟨t,rfl⟩:=rx;exact rule i t s _ _ ⟨.int (g i),H,I.tok _,⟨_,rfl⟩,q⟩
theorem zl8:UnR X (unaryOp .USub) (rU fun i=>.int (-i)):=unI fun _ _ _ _ _ q=>neg_int q
end
def zoc:V→V→Bool
 | .non,.non=>true | .non,.int _=>true | .int _,.non=>true | .non,.bl _=>true | .bl _,.non=>true | .non,.str _=>true | .str _,.non=>true
 | .int _,.int _=>true | .bl _,.bl _=>true | .str _,.str _=>true | .byt _,.byt _=>true
 | .int _,.str _=>true | .str _,.int _=>true | .bl _,.str _=>true | .str _,.bl _=>true
 | _,_=>false
def rEq:R2:=fun x y H Q=>zoc x y=true∧Q (.bl (decide (x=y))) H
def rNe:R2:=fun x y H Q=>zoc x y=true∧Q (.bl (!decide (x=y))) H
theorem zjN {i j:Int}:decide (V.int i=V.int j)=(i == j):=by
 rw [cV];simp
theorem zl9 {i j:Bool}:decide (V.bl i=V.bl j)=(i == j):=by
 rw [cV];simp
theorem zjO {i j:Str}:decide (V.str i=V.str j)=(i == j):=by
 rw [cV];simp
theorem zjP {i j:Array UInt8}:decide (V.byt i=V.byt j)=(i.toList == j.toList):=by
 rw [cV];cases i;cases j;simp
section
variable {X:Cx} {a b c:Expr} {ta tb tc:TE} {pos:Pos}
theorem zab {l3:List (Addr×Obj)} {σ:St} {H:Hp} {s:Shared} {Q:VK} {k k':Bool} (I:Inv X l3 σ H s) (q:Q (.bl k) H) (e:k=k'):EP X l3 σ Q (.bool k') s:=by
 subst e;exact⟨.bl k,H,I,rfl,q⟩
theorem zdh:OpR X (compareOp .Eq) rEq:=by
 intro l3 s σ H x y v u Q I rx ry h;obtain⟨hs,q⟩:=h;cases x with
 | non =>
  cases rx;cases y with
  | non=>cases ry; exact PySem.EqNone.eq_none_none (zab I q #[M])
  | bl j=>cases ry; exact PySem.EqNone.eq_none_bool (zab I q #[M])
  | int j=>obtain⟨t',rfl⟩:=ry; exact PySem.EqNone.eq_none_int (zab I q #[M])
  | str j=>obtain⟨t',rfl⟩:=ry; exact PySem.EqNone.eq_none_str (zab I q #[M])
  | _=>exact absurd (show false=true from hs) aS
 | bl i =>
  cases rx;cases y with
  | non=>cases ry; exact PySem.EqNone.eq_bool_none (zab I q #[M])
  | bl j=>cases ry; exact eq_bool (zab I q zl9)
  | str j=>obtain⟨t',rfl⟩:=ry; exact PySem.EqMixed.eq_bool_str (zab I q #[M])
  | _=>exact absurd (show false=true from hs) aS
 | int i =>
  obtain⟨t,rfl⟩:=rx;cases y with
  | non=>cases ry; exact PySem.EqNone.eq_int_none (zab I q #[M])
  | int j=>obtain⟨t',rfl⟩:=ry; exact eq_int (zab I q zjN)
  | str j=>obtain⟨t',rfl⟩:=ry; exact PySem.EqMixed.eq_int_str (zab I q #[M])
  | _=>exact absurd (show false=true from hs) aS
 | str i =>
  obtain⟨t,rfl⟩:=rx;cases y with
  | non=>cases ry; exact PySem.EqNone.eq_str_none (zab I q #[M])
  | bl j=>cases ry; exact PySem.EqMixed.eq_str_bool (zab I q #[M])
  | int j=>obtain⟨t',rfl⟩:=ry; exact PySem.EqMixed.eq_str_int (zab I q #[M])
  | str j=>obtain⟨t',rfl⟩:=ry; exact eq_str (zab I q zjO)
  | _=>exact absurd (show false=true from hs) aS
 | byt i =>
  obtain⟨t,rfl⟩:=rx;cases y with
  | byt j=>obtain⟨t',rfl⟩:=ry; exact PySem.W.eq_bytes (zab I q zjP)
  | _=>exact absurd (show false=true from hs) aS
 | _=>cases y <;> exact absurd (show false=true from hs) aS
theorem zpt:OpR X (compareOp .NotEq) rNe:=by
 intro l3 s σ H x y v u Q I rx ry h;obtain⟨hs,q⟩:=h;cases x with
 | non =>
  cases rx;cases y with
  | non=>cases ry; exact PySem.EqNone.ne_none_none (zab I q #[M])
  | bl j=>cases ry; exact PySem.EqNone.ne_none_bool (zab I q #[M])
  | int j=>obtain⟨t',rfl⟩:=ry; exact PySem.EqNone.ne_none_int (zab I q #[M])
  | str j=>obtain⟨t',rfl⟩:=ry; exact PySem.EqNone.ne_none_str (zab I q #[M])
  | _=>exact absurd (show false=true from hs) aS
 | bl i =>
  cases rx;cases y with
  | non=>cases ry; exact PySem.EqNone.ne_bool_none (zab I q #[M])
  | bl j=>cases ry; exact ne_bool (zab I q (congrArg not zl9))
  | str j=>obtain⟨t',rfl⟩:=ry; exact PySem.EqMixed.ne_bool_str (zab I q #[M])
  | _=>exact absurd (show false=true from hs) aS
 | int i =>
  obtain⟨t,rfl⟩:=rx;cases y with
  | non=>cases ry; exact PySem.EqNone.ne_int_none (zab I q #[M])
  | int j=>obtain⟨t',rfl⟩:=ry; exact ne_int (zab I q (congrArg not zjN))
  | str j=>obtain⟨t',rfl⟩:=ry; exact PySem.EqMixed.ne_int_str (zab I q #[M])
  | _=>exact absurd (show false=true from hs) aS
 | str i =>
  obtain⟨t,rfl⟩:=rx;cases y with
  | non=>cases ry; exact PySem.EqNone.ne_str_none (zab I q #[M])
  | bl j=>cases ry; exact PySem.EqMixed.ne_str_bool (zab I q #[M])
  | int j=>obtain⟨t',rfl⟩:=ry; exact PySem.EqMixed.ne_str_int (zab I q #[M])
  | str j=>obtain⟨t',rfl⟩:=ry; exact ne_str (zab I q (congrArg not zjO))
  | _=>exact absurd (show false=true from hs) aS
 | byt i =>
  obtain⟨t,rfl⟩:=rx;cases y with
  | byt j=>obtain⟨t',rfl⟩:=ry; exact PySem.W.ne_bytes (zab I q (congrArg not zjP))
  | _=>exact absurd (show false=true from hs) aS
 | _=>cases y <;> exact absurd (show false=true from hs) aS
theorem zga:OpR X (compareOp .Lt) (rI0 fun i j=>.bl (decide (i < j))):=zoa fun _ _ _ _ _ _ _ q=>lt_int q
theorem zq9:OpR X (compareOp .LtE) (rI0 fun i j=>.bl (decide (i≤j))):=zoa fun _ _ _ _ _ _ _ q=>le_int q
theorem ze2:OpR X (compareOp .Gt) (rI0 fun i j=>.bl (decide (j < i))):=zoa fun _ _ _ _ _ _ _ q=>gt_int q
theorem zma:OpR X (compareOp .GtE) (rI0 fun i j=>.bl (decide (j≤i))):=zoa fun _ _ _ _ _ _ _ q=>ge_int q
theorem zgK:OpR X (compareOp .IsNot) (fun x y H Q=>y = .non∧Q (.bl (!decide (x = .non))) H):=by
 intro l3 s σ H x y v u Q I rx ry h;obtain⟨rfl,q⟩:=h;cases ry;refine isnot_none_gen (zab I q ?_);cases x <;> first
  | (cases rx; rfl)
  | (obtain⟨t,rfl⟩:=rx; rfl)
theorem zZ (b:Expr) {op:CmpOp} (h:op≠.In:=by decide) (h2:op≠.NotIn:=by decide):behindInMarks op b=false:=by
 have e1:(op == CmpOp.In)=false:=by cases op <;> first | rfl | exact absurd rfl h
 have e2:(op == CmpOp.NotIn)=false:=by cases op <;> first | rfl | exact absurd rfl h2
 cases b <;> simp [behindInMarks,e1,e2]
def zra (t:TE):TT:=fun σ H Q=>t σ H fun x H'=>∃ k,x = .bl k∧Q k H'
theorem zL {op:CmpOp} {r:R2} (ho:OpR X (compareOp op) r) (ha:PE X a ta) (hb:PE X b tb) (hm:behindInMarks op b=false):PT X (.Compare a [op] [b] pos) (zra (tOp r ta tb)):=by
 intro l3 s σ H Q I h;refine wpAny_isTrue_Compare1 (thn (ha l3 s σ H _ I h) fun v s1 ⟨x,H1,I1,r1,q1⟩=>thn (hb l3 s1 σ H1 _ I1 q1) fun u s2 ⟨y,H2,I2,r2,q2⟩ =>
  thn (ho l3 s2 σ H2 x y v u _ I2 r1 r2 q2) fun c s3 ⟨z,H3,I3,r3,k,e,q3⟩=>?_) hm
 subst e;cases r3;exact gA ⟨H3,I3,q3⟩
def zrb (K:ah) (x:V) (H:Hp) (k:Bool):Prop :=
 match x with
 | .non=>k=false
 | .bl b=>k=b
 | .int i=>k=(i != 0)
 | .str y=>y.length≤sizeLine∧k=((y.length:Int) != 0)
 | .byt y=>y.size≤sizeLine∧k=((y.size:Int) != 0)
 | .ref p=>(∃ xs,me K H p xs∧k = !xs.isEmpty)∨(∃ xs,mE K H p xs∧k = !xs.isEmpty)∨∃ mo,H p=some (.dK mo)∧k = !mo.isEmpty
 | _=>False
theorem zi6 {κ:Type} {mo:List (κ×V)} {vs:List (κ×Value)} (r:KV mo vs):(!vs.isEmpty) = !mo.isEmpty:=by
 cases r <;> rfl
theorem ze3 {xs:List V} {mf:List Value} (r:zS xs mf):(!mf.toArray.isEmpty) = !xs.isEmpty:=by
 cases r <;> simp
theorem ze4:(sizeLine:Nat) < 2 ^ 63:=by rw [bf]; decide
theorem zp3:zrO X (fun x H Q=>∃ k,zrb X.K x H k∧Q k H):=by
 intro l3 s σ H x v Q I rx h;obtain⟨k,e,q⟩:=h;have hl:=ze4;have hs:sizeLine=16777216:=bf;cases x with
 | non =>
  cases rx;have e':k=false:=e;subst e';exact truthy_none ⟨H,I,q⟩
 | bl b =>
  cases rx;have e':k=b:=e;subst e';exact gA ⟨H,I,q⟩
 | int i =>
  obtain⟨t,rfl⟩:=rx;have e':k=(i != 0):=e;subst e';exact PySem.P.truthy_int ⟨H,I,q⟩
 | str y =>
  obtain⟨t,rfl⟩:=rx;obtain⟨hy,e'⟩:y.length≤sizeLine∧k=((y.length:Int) != 0):=e;subst e';exact PySem.P.truthy_str #[O] ⟨H,I.tok _,q⟩
 | byt y =>
  obtain⟨t,rfl⟩:=rx;obtain⟨hy,e'⟩:y.size≤sizeLine∧k=((y.size:Int) != 0):=e;subst e';exact PySem.W.truthy_bytes #[O] ⟨H,I.tok _,q⟩
 | ref p =>
  cases rx;have e':(∃ xs,me X.K H p xs∧k = !xs.isEmpty)∨(∃ xs,mE X.K H p xs∧k = !xs.isEmpty)∨∃ mo,H p=some (.dK mo)∧k = !mo.isEmpty:=e;rcases e' with ⟨xs,hx,e'⟩ | ⟨xs,hx,e'⟩ | ⟨mo,hx,e'⟩
  ·subst e';obtain⟨mf,r,pl,hz⟩:=I.list hx;have mB:=r.length;exact wpAny_truthy_list pl.isList (by simp only [ar]; lia) ⟨H,I.tok _,by rw [ze3 r]; exact q⟩
  ·subst e';obtain⟨mf,r,pl,hz⟩:=I.tuple hx;have mB:=r.length;exact truthy_tuple pl (by simp only [ar]; lia) ⟨H,I.tok _,by rw [ze3 r]; exact q⟩
  ·subst e';obtain⟨hz,hS,vs,r,m⟩:mo.length≤sizeLine∧(p == sysModules)=false∧∃ vs,KV mo vs∧s.heap.DictOf (zav X.prog X.w) p vs:=I.hok p _ hx;have mB:mo.length=vs.length:=a8 r;exact wpAny_truthy_dict hS m #[O] ⟨H,I.tok _,by rw [zi6 r]; exact q⟩
 | _=>exact (show False from e).elim
theorem zhI (ha:PE X a ta) (he:∀ whole,isTrue a X.env whole=(do let v ← whole; standAt a.pos; holding [v] (truthy v))) :
  PT X a (fun σ H Q=>ta σ H fun x H'=>∃ k,zrb X.K x H' k∧Q k H'):=by
 intro l3 s σ H Q I h;exact isTrue_plain (thn (ha l3 s σ H _ I h) fun v s1 ⟨x,H1,I1,r1,q1⟩=>zp3 l3 s1 σ H1 x v Q I1 r1 q1) (he _)
theorem vals1 {x:V} {us:List Value} (r:zS [x] us):∃ u,us = [u]∧RelV x u:=by
 cases r with
 | cons r1 r2=>cases r2; exact⟨_,rfl,r1⟩
theorem vals2 {x y:V} {us:List Value} (r:zS [x,y] us):∃ u w',us = [u,w']∧RelV x u∧RelV y w':=by
 cases r with
 | cons r1 r2 =>
  cases r2 with
  | cons r3 r4=>cases r4; exact⟨_,_,rfl,r1,r3⟩
theorem zd2 (hc:X.calm=true):zbn X (.builtin "max") (fun xs H Q=>∃ i j,xs = [.int i,.int j]∧Q (.int (if j > i then j else i)) H):=by
 intro l3 s σ H xs us Q I r h;obtain⟨i,j,rfl,q⟩:=h;obtain⟨u,w',rfl,⟨t,rfl⟩,⟨t',rfl⟩⟩:=vals2 r;refine max_two_ints (I.ok.hd hc) fun h' tk k=>⟨_,H,I.kept k,?_,q⟩
 by_cases hj:j > i
 ·rw [if_pos hj,if_pos hj]; exact⟨_,rfl⟩
 ·rw [if_neg hj,if_neg hj]; exact⟨_,rfl⟩
theorem zgb (hc:X.calm=true):zbn X (.builtin "min") (fun xs H Q=>∃ i j,xs = [.int i,.int j]∧Q (.int (if j < i then j else i)) H):=by
 intro l3 s σ H xs us Q I r h;obtain⟨i,j,rfl,q⟩:=h;obtain⟨u,w',rfl,⟨t,rfl⟩,⟨t',rfl⟩⟩:=vals2 r;refine min_two_ints (I.ok.hd hc) fun h' tk k=>⟨_,H,I.kept k,?_,q⟩
 by_cases hj:j < i
 ·rw [if_pos hj,if_pos hj]; exact⟨_,rfl⟩
 ·rw [if_neg hj,if_neg hj]; exact⟨_,rfl⟩
end
structure Room (k:Nat) (A:Around):Prop where
 hd:A.handled=none
 dp:A.depth+3*k+5 < recursionLimit
 un:A.units+16*k+200 < cLine
theorem Room.mono {j k:Nat} {A:Around} (r:Room k A) (h:j≤k):Room j A:=⟨r.hd,by have:=r.dp; lia,by have:=r.un; lia⟩
theorem Room.deeper {k:Nat} {A:Around} (r:Room (k+1) A) (env:Env):Room k (A.deeper env) :=
 ⟨r.hd,by have:=r.dp; show A.depth+1+3*k+5 < _; lia,by have:=r.un; show A.units+3+16*k+200 < _; lia⟩
theorem Room.depth {k:Nat} {A:Around} (r:Room k A):A.depth < recursionLimit:=by have:=r.dp; lia
theorem Room.units {k:Nat} {A:Around} (r:Room k A):A.units+64 < cLine:=by have:=r.un; lia
def zrQ:TA:=fun _ H Q=>Q [] H
def zpu (ta:TE) (tr:TA):TA:=fun σ H Q=>ta σ H fun x H1=>tr σ H1 fun xs H2=>Q (x :: xs) H2
section
variable {X:Cx} {e:Expr} {es:List Expr} {te:TE} {t:TA} {pos:Pos}
theorem zd:PA X [] zrQ:=fun _ _ _ _ H Q I h=>fo ⟨[],H,I,.nil,h⟩
theorem za (ha:PE X e te) (hr:PA X es t) (hs:starEach (e :: es) X.env=(false,eval e X.env) :: starEach es X.env:=by rfl):PA X (e :: es) (zpu te t):=by
 intro pos l3 s σ H Q I h;rw [hs];show wpAny _ _ (spliced ((false,eval e X.env) :: backTo pos (starEach es X.env))) _ _ s;refine dZ (thn (ha l3 s σ H _ I h) fun u s1 ⟨x,H1,I1,r1,q1⟩=>?_);exact thn (hr pos l3 s1 σ H1 _ I1 q1) fun us s2 ⟨xs,H2,I2,r2,q2⟩=>⟨x :: xs,H2,I2,.cons r1 r2,q2⟩
theorem ya {X:Cx} {e:Expr} {te:TE} (a:PE X e te) (b:starEach [e] X.env=(false,eval e X.env) :: starEach [] X.env):PA X [e] (zpu te zrQ):=za a zd b
def zrR (t:TA):TE:=fun σ H Q=>t σ H fun xs H1=>xs.length≤sizeLine∧∀ p,H1 p=none→Q (.ref p) (mh H1 p (.tup xs))
def zod (t:TA):TE:=fun σ H Q=>t σ H fun xs H1=>xs.length≤sizeLine∧∀ p,H1 p=none→Q (.ref p) (mh H1 p (.lst xs))
theorem za0 {x1} (h:PA X es t):PE X (.Tuple es x1 pos) (zrR t):=by
 intro l3 s σ H Q I hq;refine wpAny_Tuple_spliced (thn (h pos l3 s σ H _ I hq) fun us s1 ⟨xs,H1,I1,r,z,q⟩=>⟨by rw [← r.length]; exact z,?_⟩);have hf:H1 s1.heap.objs.size=none:=I1.hok.fresh (ag _);refine⟨.ref s1.heap.objs.size,mh H1 s1.heap.objs.size (.tup xs),I1.laid (t':=s1.toks) (fun b u e=>ai _ e) (ag _) ?_,rfl,q _ hf⟩;exact⟨z,us,r,⟨_,aG _ rfl,rfl,_,rfl⟩⟩
theorem z0 (h:PA X es t):PE X (.List es pos) (zod t):=by
 intro l3 s σ H Q I hq;refine wpAny_List_spliced (thn (h pos l3 s σ H _ I hq) fun us s1 ⟨xs,H1,I1,r,z,q⟩=>⟨by rw [← r.length]; exact z,?_⟩);have hf:H1 s1.heap.objs.size=none:=I1.hok.fresh (ag _);refine⟨.ref s1.heap.objs.size,mh H1 s1.heap.objs.size (.lst xs),I1.laid (t':=s1.toks) (fun b u e=>ai _ e) (ag _) ?_,rfl,q _ hf⟩;exact⟨z,us,0,r,aG _ rfl⟩
end
abbrev Sp:=List V→Hp→VK→XK→Prop
abbrev CXT:=List Env→Hp→Shared→XK→Value→Shared→Prop
structure Env0 (P:Program) (w:World) (K:ah) (mg:Str→Option Value) (base:Heap) (A:Around) (outer:List Env) (s:Shared) (H:Hp):Prop where
 frames:A.frames=some outer
 mod:Mod K mg base
 bs:∀ b o,base.get? b=some o→s.heap.get? b=some o∧H b=none
 bsz:base.objs.size≤s.heap.objs.size
 funs:s.heap.FunFrames base outer
 frf:∀ b∈frs outer,H b=none
 hok:HOk P w H s.heap
 bare:AllBare s.gens
def CE (outer:List Env) (P:Program) (w:World) (H:Hp) (s:Shared) (Q:VK) (u:Value) (s':Shared):Prop :=
 ∃ v H',s'.os=s.os∧AllBare s'.gens∧Un (frs outer) [] H H' s.heap s'.heap∧HOk P w H' s'.heap∧RelV v u∧Q v H'
def CR (CX:CXT) (outer:List Env) (P:Program) (w:World) (H:Hp) (s:Shared) (Q:VK) (E:XK) (r:Result) (s':Shared):Prop :=
 match r with
 | .ok (.ret u)=>CE outer P w H s Q u s'
 | .ok _=>False
 | .error e=>CX outer H s E e s'
structure FnOk (P:Program) (w:World) (K:ah) (mg:Str→Option Value) (base:Heap) (CX:CXT) (k:Nat) (f:Addr) (fd:FuncData) (ps:List Str) (sp:Sp):Prop where
 len:∀ vs H Q E,sp vs H Q E→vs.length=ps.length
 run:∀ (A:Around) (outer:List Env) (s:Shared) (H:Hp) (args:Args) (us:List Value) (vs:List V) (Q:VK) (E:XK),Room k A→Env0 P w K mg base A outer s H→BindsTo s fd args (ps.zip us)→zS vs us→sp vs H Q E →
  codeAny (model P w) A (.call (.ref f) args) (CR CX outer P w H s Q E) s
section
variable {X:Cx} {l3:List (Addr×Obj)} {σ:St} {H:Hp} {s s':Shared}
theorem Inv.env0 (I:Inv X l3 σ H s):Env0 X.prog X.w X.K X.mg X.base X.A X.stack s H :=
 ⟨I.ok.frames,I.ok.mod,I.bs,aT I.ok.bsz I.sz,I.stack,I.stkFree,I.hok,I.bare⟩
theorem Inv.after {Q:VK} {u:Value} (I:Inv X l3 σ H s) (h:CE X.stack X.prog X.w H s Q u s'):EP X l3 σ Q u s':=by
 obtain⟨v,H',os,bare,un,hok,r,q⟩:=h;obtain⟨hh,g,d,t,os'⟩:=s';obtain rfl:os'=s.os:=os;exact⟨v,H',I.call (h':=hh) (g':=g) (d':=d) (t':=t) (ch:=[]) un hok bare (fun b z=>absurd z #[M]),r,q⟩
end
def zrc (sp:Sp) (yR:List V) (E:XK) (t:TA):TE:=fun σ H Q=>t σ H fun vs H1=>sp (vs++yR) H1 Q E
def Binds (K:ah) (fd:FuncData) (ps:List Str) (ds:List Value):Prop :=
 ∀ (s:Shared) (us:List Value),K.In s.heap→(us++ds).length=ps.length→BindsTo s fd ⟨us,[]⟩ (ps.zip (us++ds))
theorem Binds.all {K:ah} {fd:FuncData} {ps:List Str} (h:∀ us:List Value,us.length=ps.length→bindArgs fd ⟨us,[]⟩=pure (ps.zip us)):Binds K fd ps []:=fun s us _ hl=>by
 rw [bI] at hl ⊢;exact .of_eq (h us hl)
def zi7 (CX:CXT) (X:Cx) (E:XK):Prop:=∀ (l3:List (Addr×Obj)) (σ:St) (H:Hp) (s:Shared) (e:Value) (s':Shared),Inv X l3 σ H s→CX X.stack H s E e s'→X.xe e s'
section
variable {X:Cx} {CX:CXT} {k:Nat} {f C:Addr} {fd:FuncData} {ps:List Str} {sp:Sp} {yR:List V} {ds:List Value} {E:XK} {x m:Str} {p pos apos:Pos} {e o:Expr} {es:List Expr} {ta:TE} {t:TA}
theorem zp4 {l3:List (Addr×Obj)} {σ:St} {H:Hp} {s:Shared} {Q:VK} {us:List Value} {vs:List V} (F:FnOk X.prog X.w X.K X.mg X.base CX k f fd ps sp) (hr:Room k X.A) (hb:Binds X.K fd ps ds) (hd:zS yR ds) (hx:zi7 CX X E)
  (I:Inv X l3 σ H s) (r:zS vs us) (h:sp (vs++yR) H Q E):wpAny (model X.prog X.w) X.A (call (.ref f) us) (EP X l3 σ Q) X.xe s:=by
 have r2:zS (vs++yR) (us++ds):=r.append hd;have hl:(us++ds).length=ps.length:=by rw [← r2.length]; exact F.len _ _ _ _ h
 refine wpAny_call (kr (F.run X.A X.stack s H ⟨us,[]⟩ (us++ds) (vs++yR) Q E hr I.env0 (hb s us I.kIn hl) r2 h) fun r s' hq=>?_);cases r with
 | error e=>exact hx l3 σ H s e s' I hq
 | ok fl =>
  cases fl with
  | ret u=>exact I.after hq
  | next=>exact eG hq
  | brk=>exact eG hq
  | cont=>exact eG hq
theorem zp (F:FnOk X.prog X.w X.K X.mg X.base CX k f fd ps sp) (hr:Room k X.A) (hg:Gl X x) (hm:X.mg x=some (.ref f)) (hk:gm X.K (.ref f)=true) (hb:Binds X.K fd ps ds) (hd:zS yR ds) (hx:zi7 CX X E)
  (ha:PA X (e :: es) t) (An:(x == ("__debug__" : Str))=false:=by decide) (he:starEach (e :: es) X.env=(false,eval e X.env) :: starEach es X.env:=by rfl) (n5:(backTo pos (starEach es X.env)).any (·.1)=false:=by rfl) :
  PE X (.Call (.Name x p) (e :: es) [] pos) (zrc sp yR E t):=by
 intro l3 s σ H Q I h;refine gg (zn7 I hg hm ?_ An);refine PySem.W.callWith_K (h₀:=X.base) I.ok.mod.kin hk (thn (ha pos l3 s σ H _ I h) fun us s1 ⟨vs,H1,I1,r,q⟩=>⟨I1.kIn,?_⟩) he n5;exact zp4 F hr hb hd hx I1 r q
end
structure FnScope (N P:List Str) (sc:Scope):Prop where
 kind:sc.kind = .function
 co:sc.isCoroutine=false
 gen:sc.isGenerator=false
 nd:N.Nodup
 pre:N.take P.length=P
 par:∀ x∈P,sc.names.lookup x=some .local∨sc.names.lookup x=some .cell
 nofree:∀ y∈sc.names,y.2≠.free
theorem zgc {kindOf:Str→Option NameKind} {x:Str}:∀ {binds:List (Str×Value)} {m:Str→Option Value},(∀ v,(x,v)∉binds)→bindL kindOf binds m x=m x
 | [],_,_=>rfl
 | (n,v) :: r,m,h=>by
  unfold bindL;rw [zgc fun w hw=>h w (aD _ hw)];split
  ·have:x≠n:=by rintro rfl; exact h v aN
   simp [this]
  ·rfl
theorem zgd {kindOf:Str→Option NameKind} {x:Str}:∀ {binds:List (Str×Value)} {m:Str→Option Value},(∀ v,(x,v)∉binds)→bindC kindOf binds m x=m x
 | [],_,_=>rfl
 | (n,v) :: r,m,h=>by
  unfold bindC;rw [zgd fun w hw=>h w (aD _ hw)];split
  ·rfl
  ·have:x≠n:=by rintro rfl; exact h v aN
   simp [this]
theorem zge {kindOf:Str→Option NameKind} {x:Str} {v:Value}:∀ {P:List Str} {vs:List Value} {i:Nat} {m:Str→Option Value},P.Nodup→P[i]? = some x→vs[i]? = some v→kindOf x=some .local →
  bindL kindOf (P.zip vs) m x=some v
 | [],_,_,_,_,h,_,_=>by simp at h
 | _ :: _,[],_,_,_,_,h,_=>by simp at h
 | p :: P,w :: vs,0,m,nd,h1,h2,hk=>by
  simp at h1 h2; subst h1; subst h2;show bindL kindOf ((p,w) :: P.zip vs) m p=_;unfold bindL;rw [zgc fun v hv=>(et.mp nd).1 (gZ hv).1,if_pos hk];simp
 | p :: P,w :: vs,i+1,m,nd,h1,h2,hk=>by
  show bindL kindOf ((p,w) :: P.zip vs) m x=_;unfold bindL;exact zge (i:=i) (et.mp nd).2 (by simpa using h1) (by simpa using h2) hk
theorem zgf {kindOf:Str→Option NameKind} {x:Str} {v:Value}:∀ {P:List Str} {vs:List Value} {i:Nat} {m:Str→Option Value},P.Nodup→P[i]? = some x→vs[i]? = some v→kindOf x≠some .local →
  bindC kindOf (P.zip vs) m x=some v
 | [],_,_,_,_,h,_,_=>by simp at h
 | _ :: _,[],_,_,_,_,h,_=>by simp at h
 | p :: P,w :: vs,0,m,nd,h1,h2,hk=>by
  simp at h1 h2; subst h1; subst h2;show bindC kindOf ((p,w) :: P.zip vs) m p=_;unfold bindC;rw [zgd fun v hv=>(et.mp nd).1 (gZ hv).1,if_neg hk];simp
 | p :: P,w :: vs,i+1,m,nd,h1,h2,hk=>by
  show bindC kindOf ((p,w) :: P.zip vs) m x=_;unfold bindC;exact zgf (i:=i) (et.mp nd).2 (by simpa using h1) (by simpa using h2) hk
def start (N:List Str) (vs:List V):St:=vs.map some++ap (N.length - vs.length) none
def zkY (CX:CXT) (P:Program) (w:World) (K:ah) (mg:Str→Option Value) (base:Heap) (N:List Str) (qual:Str) (scope:Scope) (f:Addr) (cd:Value) (A:Around) (outer:List Env) (s:Shared) (H:Hp) (E:XK):Cx where
 prog:=P
 w:=w
 K:=K
 mg:=mg
 base:=base
 A:=A.deeper (envOfC qual scope s.heap.objs.size f cd)
 N:=N
 s₀:=s
 H₀:=H
 env:=envOfC qual scope s.heap.objs.size f cd
 outer:=outer
 stack:=envOfC qual scope s.heap.objs.size f cd :: outer
 ex:=[]
 calm:=true
 fn:=fun _=>true
 pn:=[]
 xe:=fun e s'=>wpAny (model P w) (A.deeper (envOfC qual scope s.heap.objs.size f cd)) (leaving (envOfC qual scope s.heap.objs.size f cd) e) (fun _ Ci=>CX outer H s E e Ci) (fun e' Ci=>CX outer H s E e' Ci) s'
theorem zhJ {sc:Scope} {n:Nat} {x:Str} (h:sc.names.lookup x=some .cell):∃ c,(cellsFrom n sc.names []).lookup x=some c:=by
 have q:=jv sc.names n [] (.inl h);exact Option.isSome_iff_exists.mp q
theorem zkZ {CX:CXT} {P:Program} {w:World} {K:ah} {mg:Str→Option Value} {base:Heap} {N ps:List Str} {qual:Str} {scope:Scope} {f:Addr} {cd:Value} {A:Around} {outer:List Env} {s s1:Shared} {H:Hp} {E:XK} {us:List Value} {vs:List V}
  (S:FnScope N ps scope) (hd:A.handled=none) (e0:Env0 P w K mg base A outer s H) (hl:vs.length=ps.length) (r:zS vs us)
  (x:InCallC s s.heap.objs.size (bindL (envOfC qual scope s.heap.objs.size f cd).kindOf (ps.zip us) fun _=>none) (cellsFrom (s.heap.objs.size+1) scope.names []) (bindC (envOfC qual scope s.heap.objs.size f cd).kindOf (ps.zip us) fun _=>none) s1) :
  Inv (zkY CX P w K mg base N qual scope f cd A outer s H E) [] (start N vs) H s1:=by
 have n5:ps.length≤N.length:=by have:=congrArg fk S.pre; rw [aI] at this; lia
 obtain⟨h1,tk,rfl,hk⟩:=x.done;have Ao:∀ b:Addr,b∉(zkY CX P w K mg base N qual scope f cd A outer s H E).ex:=fun b z=>absurd (show b∈([]:List Addr) from z) #[M]
 refine⟨⟨e0.mod,S.kind,rfl,rfl,ag _,fun y z c h1 h2=>?_,fun y hy=>?_,fun y c _ h=>?_,fun _=>hd,Around.frames_deeper e0.frames,.inr ⟨rfl,rfl⟩,fun b z=>absurd z (Ao b),e0.bs,e0.bsz,fun b _ _=>Ao b,fun b z=>absurd z (Ao b),e0.funs,e0.frf⟩,
  rfl,e0.bare,Un.kept hk,⟨_,x.toInCall.ns,fun i y v h1 h2 h3=>?_⟩,fun y c h=>⟨_,x.cell y c h⟩,e0.hok.fresh (ag _),fun y c h=>?_,fun p hp=>absurd (show p∈([]:List (Addr×Obj)) from hp) #[M],e0.hok.kept hk,?_⟩
 ·exact name_of_addr x.apart (eX h1) (eX h2)
 ·have hy:scope.names.lookup y=some .cell∨scope.names.lookup y=some .free:=hy;rcases hy with hy | hy
  ·exact zhJ hy
  ·exact absurd rfl (S.nofree _ (eX hy))
 ·exact ge (x.above y c (eX h))
 ·have hi:i < vs.length:=by
   unfold start at h2;by_cases hi:i < vs.length
   ·exact hi
   ·rw [bN (by simpa using hi)] at h2;rw [cC] at h2;split at h2 <;> cases h2
  have ha:vs[i]? = some v:=by
   unfold start at h2;rw [bj (by simpa using hi),af] at h2;cases e:vs[i]? with
   | none=>rw [e] at h2; cases h2
   | some a=>rw [e] at h2; cases h2; rfl
  obtain⟨u,hu,rv⟩:=r.get ha;have hp:ps[i]? = some y:=by
   rw [← S.pre,b9 #[O]]; exact h1
  have ndP:ps.Nodup:=by rw [← S.pre]; exact S.nd.sublist (cK _ _)
  refine⟨u,rv,?_⟩;rcases S.par y (aA hp) with k | k
  ·exact .inl ⟨k,zge ndP hp hu k⟩
  ·obtain⟨c,e⟩:=zhJ (n:=s.heap.objs.size+1) k;refine .inr ⟨.inl k,c,e,?_⟩;have q:=x.cell y c e;rw [zgf ndP hp hu (by show scope.names.lookup y≠_; rw [k]; decide)] at q;exact q
 ·exact e0.hok.fresh (ge (x.above y c (eX h)))
 ·unfold start;show _=N.length;rw [aq,ab,aU];lia
theorem zrd {CX:CXT} {P:Program} {w:World} {K:ah} {mg:Str→Option Value} {base:Heap} {k:Nat} {f:Addr} {name qual:Str} {params:Arguments} {body:List Stmt} {scope:Scope} {dV kV doc pm mQ ct oc:Value} {an od:Option Addr}
  {yS:Array (Option Value)} {N ps:List Str} {sp:Sp} (lk:K.lookup f=some ⟨oc,od,.func (dD name qual params body scope dV kV doc pm an mQ ct),yS⟩) (vL:gn K mQ qual=true) (S:FnScope N ps scope)
  (len:∀ vs H Q E,sp vs H Q E→vs.length=ps.length)
  (wX:∀ (A:Around) (outer:List Env) (s:Shared) (H:Hp) (vs:List V) (Q:VK) (E:XK),Room k (A.deeper (envOfC qual scope s.heap.objs.size f mQ))→sp vs H Q E →
   ∃ t,PSs (zkY CX P w K mg base N qual scope f mQ A outer s H E) body t∧t { nx:=fun _ H'=>Q .non H',rt:=Q } (start N vs) H) :
  FnOk P w K mg base CX (k+1) f (dD name qual params body scope dV kV doc pm an mQ ct) ps sp:=by
 refine⟨len,fun A outer s H args us vs Q E hr e0 hb r xP=>?_⟩;have hl:=len _ _ _ _ xP;have KX:K.In s.heap:=e0.mod.kin.keeps fun b o e=>(e0.bs b o e).1
 have lim:s.heap.NoLimit:=e0.mod.nolimit.keeps fun b o e=>(e0.bs b o e).1
 have tX:∀ y∈ps.zip us,scope.names.lookup y.1=some .local∨(scope.names.lookup y.1=some .cell∧((cellsFrom (s.heap.objs.size+1) scope.names []).lookup y.1).isSome=true):=fun ⟨n,v⟩ hy=>by
  rcases S.par n (gZ hy).1 with q | q
  ·exact .inl q
  ·exact .inr ⟨q,jv _ _ _ (.inl q)⟩
 refine codeAny_call_function hr.depth (KX _ _ lk) rfl S.co S.gen rfl (PySem.W.codeRec_of KX vL) (hb _ _ _ _ ?_);refine wpAny_newFunctionEnv_cells S.kind tX fun env he s1 x=>?_
 subst he;refine⟨lim.keeps x.toInCall.keep,codeAny_func ?_⟩;obtain⟨t,ht,hq⟩:=wX A outer s H vs Q E (hr.deeper _) xP;have I:Inv (zkY CX P w K mg base N qual scope f mQ A outer s H E) [] (start N vs) H s1:=zkZ S hr.hd e0 hl r x;refine da (ht [] s1 (start N vs) H _ I hq) (fun fl s' hs=>?_) fun e s' hs=>hs
 have fin:∀ {σ':St} {H':Hp} {v:V} {u:Value},Inv (zkY CX P w K mg base N qual scope f mQ A outer s H E) [] σ' H' s'→RelV v u→Q v H'→CE outer P w H s Q u s' :=
  fun {σ' H' v u} J rv q=>⟨v,H',J.os,J.bare,J.base,J.hok,rv,q⟩
 cases fl with
 | ret u =>
  obtain⟨v,σ',H',J,rv,q⟩:=hs;exact fin J rv q
 | next =>
  obtain⟨σ',H',J,q⟩:=hs;exact fin (v:=V.non) (u:=dm) J rfl q
 | brk =>
  obtain⟨_,_,_,q⟩:=hs;exact eG q
 | cont =>
  obtain⟨_,_,_,q⟩:=hs;exact eG q
section
variable {X:Cx} {x:Str} {p pos:Pos} {e:Expr} {es:List Expr} {t:TA} {id T:String} {r:List V→Hp→VK→Prop}
def tCB (r:List V→Hp→VK→Prop) (t:TA):TE:=fun σ H Q=>t σ H fun vs H1=>r vs H1 Q
theorem zo (hc:zbn X (.builtin id) r) (hg:Gl X x) (hm:X.mg x=none) (hv:bootBuiltins x=some (.builtin id)) (ha:PA X (e :: es) t) (hn:x≠"__name__":=by decide) (An:(x == ("__debug__" : Str))=false:=by decide)
  (he:starEach (e :: es) X.env=(false,eval e X.env) :: starEach es X.env:=by rfl) (n5:(backTo pos (starEach es X.env)).any (·.1)=false:=by rfl):PE X (.Call (.Name x p) (e :: es) [] pos) (tCB r t):=by
 intro l3 s σ H Q I h;refine gg (zbe I hg hm hv ?_ hn An);exact PyProof.Rows.callWith_builtin1 (thn (ha pos l3 s σ H _ I h) fun us s1 ⟨vs,H1,I1,r1,q1⟩=>hc l3 s1 σ H1 vs us Q I1 r1 q1) he n5
theorem zaE (hc:zbn X (.type T) r) (hg:Gl X x) (hm:X.mg x=none) (hv:bootBuiltins x=some (.type T)) (ha:PA X (e :: es) t) (hn:x≠"__name__":=by decide) (An:(x == ("__debug__" : Str))=false:=by decide)
  (he:starEach (e :: es) X.env=(false,eval e X.env) :: starEach es X.env:=by rfl) (n5:(backTo pos (starEach es X.env)).any (·.1)=false:=by rfl):PE X (.Call (.Name x p) (e :: es) [] pos) (tCB r t):=by
 intro l3 s σ H Q I h;refine gg (zbe I hg hm hv ?_ hn An);exact bA (thn (ha pos l3 s σ H _ I h) fun us s1 ⟨vs,H1,I1,r1,q1⟩=>hc l3 s1 σ H1 vs us Q I1 r1 q1) he n5
end
end L2
namespace HT
open PySem PyProof.Rows
section
variable {prog:Program} {w:World} {A:Around} {E:Value→Shared→Prop} {s:Shared}
theorem cat_tup {t b:Addr} {vs ws:List Value} {Q:Value→Shared→Prop} (ht:IsTup s.heap t vs.toArray) (hb:IsTup s.heap b ws.toArray) (hv:vs≠[])
  (h1:ws = []→Q (.ref t) s) (h2:ws≠[]→Q (.ref s.heap.objs.size) { s with heap:=s.heap.push { cls:=.type "tuple",data:=.seq (vs++ws).toArray } })
  (hsz:vs.length+ws.length≤sizeLine):wpAny (model prog w) A (binaryOp .Add (.ref t) (.ref b)) Q E s:=by
 obtain⟨⟨cls,dd,data,sl⟩,ho,hc,n,hd⟩:=id ht;obtain⟨⟨ET,DW,data2,DX⟩,vA,Ap,n2,hd2⟩:=id hb;simp only at hc hd Ap hd2;subst hc hd Ap hd2;have e:vs.toArray++ws.toArray=(vs++ws).toArray:=by simp
 by_cases hw:ws = []
 ·exact kt ⟨_,ho,rfl⟩ ⟨_,vA,rfl⟩ i3 j4 gG gv (gh _ _)
   (tuple_addW1 t b vs.toArray ws.toArray n n2 dd DW sl DX (by simpa using hv) (by simp [hw])) ⟨ho,vA,h1 hw⟩
 ·refine kt ⟨_,ho,rfl⟩ ⟨_,vA,rfl⟩ i3 j4 gG gv (gh _ _)
   (tuple_addW2 t b vs.toArray ws.toArray n n2 dd DW sl DX (by simpa using hv) (by simpa using hw) (by rw [ar,ar]; exact hsz)) ⟨ho,vA,?_⟩
  rw [e];exact h2 hw
def sIx (n d:Nat):Option Int→Nat
 | none=>d
 | some v=>if v < 0 then (v+(n:Int)).toNat else min v.toNat n
theorem sIx_none (n d:Nat):sIx n d none=d:=rfl
theorem sIx_nat (n d k:Nat):sIx n d (some (k:Int))=min k n:=by
 show (if (k:Int) < 0 then ((k:Int)+(n:Int)).toNat else min (k:Int).toNat n)=min k n;rw [if_neg #[O],bC]
end
end HT
namespace L2
open PySem PySem.Spec PyProof.Rows
abbrev TO:=St→Hp→(Option Int→Hp→Prop)→Prop
def PO (X:Cx) (e:Option Expr) (t:TO):Prop :=
 ∀ (l3:List (Addr×Obj)) (s:Shared) (σ:St) (H:Hp) (Q:Option Int→Hp→Prop),Inv X l3 σ H s→t σ H Q →
  wpAny (model X.prog X.w) X.A (evalPart e X.env) (fun u s'=>∃ o H',Inv X l3 σ H' s'∧IsPart u o∧Q o H') X.xe s
def zoe:TO:=fun _ H Q=>Q none H
def zre (t:TE):TO:=fun σ H Q=>t σ H fun x H1=>∃ i,x = .int i∧Q (some i) H1
theorem intsAre_of {ns:List Int}:∀ {us:List Value},zS (ns.map V.int) us→IntsAre us ns:=by
 induction ns with
 | nil=>intro us r; rw [ft] at r; cases r; exact .nil
 | cons n ns ih =>
  intro us r;rw [bg] at r;cases r with
  | cons r1 r2 =>
   obtain⟨t,e⟩:=r1;subst e;exact .cons n t (ih r2)
section
variable {X:Cx} {e:Expr} {te:TE} {lo hi:Option Expr} {tl th:TO} {pos p2:Pos}
theorem zcp:PO X none zoe:=by
 intro l3 s σ H Q I h;rw [evalPart_none];exact ao ⟨none,H,I,.none,h⟩
theorem zbJ (h:PE X e te):PO X (some e) (zre te):=by
 intro l3 s σ H Q I hw;rw [evalPart_some];refine thn (h l3 s σ H _ I hw) fun u s1 ⟨x,H1,I1,r1,q1⟩=>?_
 obtain⟨i,rfl,q⟩:=q1;obtain⟨t,rfl⟩:=r1;exact⟨some i,H1,I1,.int i t,q⟩
def SlR (X:Cx) (r:V→Option Int→Option Int→Hp→VK→Prop):Prop :=
 ∀ (l3:List (Addr×Obj)) (s:Shared) (σ:St) (H:Hp) (x:V) (v vl vu:Value) (lo hi:Option Int) (sl:Addr) (Q:VK),Inv X l3 σ H s→RelV x v→s.heap.IsSliceOf sl vl vu .none→IsPart vl lo→IsPart vu hi→r x lo hi H Q →
  ∃ T id,typeLookup (.type T) "__getitem__" = pure (some (.builtin id))∧s.TypeIs v T∧wpAny (model X.prog X.w) X.A (getItem v (.ref sl)) (EP X l3 σ Q) X.xe s
def tSl (r:V→Option Int→Option Int→Hp→VK→Prop) (te:TE) (tl th:TO):TE:=fun σ H Q=>te σ H fun x H1=>tl σ H1 fun l H2=>th σ H2 fun u H3=>r x l u H3 Q
theorem zby {r:V→Option Int→Option Int→Hp→VK→Prop} (hr:SlR X r) (he:PE X e te) (hl:PO X lo tl) (hu:PO X hi th):PE X (.Subscript e (.Slice lo hi none p2) pos) (tSl r te tl th):=by
 intro l3 s σ H Q I h;refine Subscript_ (thn (he l3 s σ H _ I h) fun v s1 ⟨x,H1,I1,r1,q1⟩=>?_);refine wpAny_Slice (thn (hl l3 s1 σ H1 _ I1 q1) fun vl s2 ⟨l,H2,I2,pl,q2⟩=>thn (hu l3 s2 σ H2 _ I2 q2) fun vu s3 ⟨u,H3,I3,pu,q3⟩=>?_);rw [evalPart_none];refine ao ?_;have I4:Inv X l3 σ H3 { s3 with heap:=s3.heap.push { cls:=.type "slice",data:=.fields #[vl,vu,.none] } }:=I3.kept (t':=s3.toks) fun b ob q=>ai _ q
 obtain⟨T,id,hT,ht,hg⟩:=hr l3 { s3 with heap:=s3.heap.push { cls:=.type "slice",data:=.fields #[vl,vu,.none] } } σ H3 x v vl vu l u s3.heap.objs.size Q I4 r1 (Heap.IsSliceOf.new ..) pl pu q3;show wpAny (model X.prog X.w) X.A (subscriptTail e (.Slice lo hi none p2) v (.ref s3.heap.objs.size)) (EP X l3 σ Q) X.xe { s3 with heap:=s3.heap.push { cls:=.type "slice",data:=.fields #[vl,vu,.none] } };exact tail_any (ops:=[.ref s3.heap.objs.size,v]) ht hT hg (by with_unfolding_all rfl)
def zcK (xs:List V) (lo hi:Option Int):List V:=(xs.drop (HT.sIx xs.length 0 lo)).take (HT.sIx xs.length xs.length hi - HT.sIx xs.length 0 lo)
theorem zhK (xs:List V) (lo hi:Option Int):(zcK xs lo hi).length≤xs.length:=by
 unfold zcK;rw [aI,dv];lia
def zrf (K:ah):R2:=fun x y H Q=>∃ a b xs ys,x = .ref a∧y = .ref b∧mE K H a xs∧mE K H b ys∧xs≠[]∧xs.length+ys.length≤sizeLine ∧
 (ys = []→Q (.ref a) H)∧(ys≠[]→∀ p,H p=none→Q (.ref p) (mh H p (.tup (xs++ys))))
theorem zS.nil_iff {xs:List V} {us:List Value} (r:zS xs us):us = []↔xs = []:=by
 cases r with
 | nil=>simp
 | cons _ _=>simp
theorem zof:OpR X (binaryOp .Add) (zrf X.K):=by
 intro l3 s σ H x y v u Q I rx ry h;obtain⟨a,b,xs,ys,rfl,rfl,ha,hb,hx,hz,q1,q2⟩:=h;cases rx;cases ry;obtain⟨mf,r1,p1,_⟩:=I.tuple ha;obtain⟨mT,r2,p2,_⟩:=I.tuple hb;refine HT.cat_tup p1 p2 (fun z=>hx (r1.nil_iff.mp z)) (fun z=>⟨.ref a,H,I,rfl,q1 (r2.nil_iff.mp z)⟩) (fun z=>?_) (by rw [← r1.length,← r2.length]; exact hz);refine⟨.ref s.heap.objs.size,_,I.laid (t':=s.toks) (o:=.tup (xs++ys)) (fun b ob q=>ai _ q) (ag _) ?_,rfl,q2 (fun w=>z (r2.nil_iff.mpr w)) _ (I.hok.fresh (ag _))⟩;exact⟨by rw [aq]; exact hz,_,r1.append r2,IsTup.new _ _⟩
end
def ixN (n:Nat) (i:Int):Option Nat:=if 0≤i then (if i < n then some i.toNat else none) else if -(n:Int)≤i then some (i+n).toNat else none
def atI {α:Type} (xs:List α) (i:Int):Option α:=(ixN xs.length i).bind fun j=>xs[j]?
theorem zjQ {n:Nat} {i:Int} {j:Nat} (h:ixN n i=some j):seqIndex? i n=some j∧j < n∧-(n:Int)≤i∧i < n:=by
 unfold ixN at h;by_cases h0:0≤i
 ·rw [if_pos h0] at h;by_cases h1:i < n
  ·rw [if_pos h1] at h;have e:i.toNat=j:=aV h;exact⟨by rw [iq h0 h1,e],#[O],#[O],h1⟩
  ·rw [if_neg h1] at h; cases h
 ·rw [if_neg h0] at h;by_cases h1:-(n:Int)≤i
  ·rw [if_pos h1] at h;have e:(i+n).toNat=j:=aV h;exact⟨by rw [ku #[O] h1,e],#[O],h1,#[O]⟩
  ·rw [if_neg h1] at h; cases h
theorem zjR {α:Type} {xs:List α} {i:Int} {v:α} (h:atI xs i=some v):∃ j,seqIndex? i xs.length=some j∧xs[j]? = some v∧j < xs.length∧-(xs.length:Int)≤i∧i < xs.length:=by
 unfold atI at h;cases e:ixN xs.length i with
 | none=>rw [e] at h; cases h
 | some j =>
  rw [e] at h;obtain⟨h1,h2,h3,h4⟩:=zjQ e;exact⟨j,h1,h,h2,h3,h4⟩
theorem zal {α:Type} {xs:List α} {j:Nat} {v:α} (h:xs[j]? = some v):atI xs (j:Int)=some v:=by
 have hj:j < xs.length:=(au.mp h).1;have e:ixN xs.length (j:Int)=some j:=by
  unfold ixN;rw [if_pos #[O],if_pos #[O]]; simp
 unfold atI; rw [e]; exact h
def zog (b:Expr):Prop:=∀ o i,subscripted b false o i=operate [o,i] (getItem o i)
def IxR (X:Cx) (r:R2):Prop :=
 ∀ (value slice:Expr) (l3:List (Addr×Obj)) (s:Shared) (σ:St) (H:Hp) (x y:V) (v u:Value) (Q:VK),Inv X l3 σ H s→RelV x v→RelV y u→r x y H Q →
  subscripted slice false v u=operate [v,u] (getItem v u)→wpAny (model X.prog X.w) X.A (subscriptTail value slice v u) (EP X l3 σ Q) X.xe s
def MtR (X:Cx) (id:String) (r:V→List V→Hp→VK→Prop):Prop :=
 ∀ (l3:List (Addr×Obj)) (s:Shared) (σ:St) (H:Hp) (x:V) (xs:List V) (v:Value) (us:List Value) (Q:VK),Inv X l3 σ H s→RelV x v→zS xs us→r x xs H Q →
  wpAny (model X.prog X.w) X.A (call (.builtin id) (v :: us)) (EP X l3 σ Q) X.xe s
section
variable {X:Cx} {a b:Expr} {ta tb:TE} {pos:Pos}
theorem zK {r:R2} (hr:IxR X r) (ha:PE X a ta) (hb:PE X b tb) (hs:zog b):PE X (.Subscript a b pos) (tOp r ta tb):=by
 intro l3 s σ H Q I h;exact Subscript_ (zq7 ha hb I h fun v u s2 x y H2 I2 rx ry q=>hr a b l3 s2 σ H2 x y v u Q I2 rx ry q (hs _ _))
def zrg (K:ah):R2:=fun x y H Q=>∃ p xs i v,x = .ref p∧y = .int i∧me K H p xs∧atI xs i=some v∧Q v H
def zrh (K:ah):R2:=fun x y H Q=>∃ p xs i v,x = .ref p∧y = .int i∧mE K H p xs∧atI xs i=some v∧Q v H
theorem zB:IxR X (zrg X.K):=by
 intro value slice l3 s σ H x y v u Q I rx ry h hs;obtain⟨p,xs,i,z,rfl,rfl,hq,he,q⟩:=h;cases rx;obtain⟨t,rfl⟩:=ry;obtain⟨mf,r,pl,hz⟩:=I.list hq;obtain⟨j,h1,h2,h3,h4,h5⟩:=zjR he;obtain⟨w,ew,Aq⟩:=r.get h2;have hl:=r.length;have hn:=ze4;have fin:EP X l3 σ Q w s:=⟨z,H,I,Aq,q⟩;by_cases h0:0≤i
 ·have hj:i.toNat=j:=by
   rw [iq h0 h5] at h1;exact aV h1
  exact item_listR pl.isList h0 #[O] (by rw [hj]; simpa using ew) fin hs
 ·have hj:(i+(mf.toArray.size:Int)).toNat=j:=by
   rw [ku #[O] h4] at h1;rw [ar,← hl];exact aV h1
  exact jw (x:=w) pl.isList.typeIs slot_list_getitem.lookup
   (wpAny_getItem_list_neg (Q:=fun r s'=>r=w∧EP X l3 σ Q r s') pl.isList #[O] (by rw [ar] <;> lia) #[O] (by rw [hj]; simpa using ew) ⟨rfl,fin⟩) hs
theorem zdp:IxR X (zrh X.K):=by
 intro value slice l3 s σ H x y v u Q I rx ry h hs;obtain⟨p,xs,i,z,rfl,rfl,hq,he,q⟩:=h;cases rx;obtain⟨t,rfl⟩:=ry;obtain⟨mf,r,pl,hz⟩:=I.tuple hq;obtain⟨j,h1,h2,h3,h4,h5⟩:=zjR he;obtain⟨w,ew,Aq⟩:=r.get h2;have hl:=r.length;have hn:=ze4;have fin:EP X l3 σ Q w s:=⟨z,H,I,Aq,q⟩;exact jw (x:=w) pl.typeIs slot_tuple_getitem.lookup
  (getItem_tuple (j:=j) (Q:=fun r s'=>r=w∧EP X l3 σ Q r s') pl #[O] #[O] (by rw [ar,← hl]; exact h1) (by simpa using ew) ⟨rfl,fin⟩) hs
theorem zi8 (mf:List Value) (n j:Nat) (u:Value):dE (·.setIfInBounds j u) { cls:=.type "list",data:=.seq mf.toArray n } = { cls:=.type "list",data:=.seq (mf.set j u).toArray n }:=by
 simp [dE]
theorem Inv.lst {l3:List (Addr×Obj)} {σ:St} {H:Hp} {s:Shared} {p:Addr} {xs:List V} (I:Inv X l3 σ H s) (h:H p=some (.lst xs)) :
  ∃ (mf:List Value) (n:Nat),zS xs mf∧s.heap.get? p=some { cls:=.type "list",data:=.seq mf.toArray n }∧xs.length≤sizeLine:=by
 obtain⟨z,mf,n,r,e⟩:=I.hok p _ h;exact⟨mf,n,r,e,z⟩
theorem Inv.lstUpd {l3:List (Addr×Obj)} {σ:St} {H:Hp} {s:Shared} {p:Addr} {xs ys:List V} {mf its':List Value} {n n':Nat} {f:Obj→Obj} (I:Inv X l3 σ H s) (h:H p=some (.lst xs))
  (ho:s.heap.get? p=some { cls:=.type "list",data:=.seq mf.toArray n }) (hf:f { cls:=.type "list",data:=.seq mf.toArray n } = { cls:=.type "list",data:=.seq its'.toArray n' }) (r:zS ys its') (hz:ys.length≤sizeLine) (t:Nat) :
  Inv X l3 σ (mh H p (.lst ys)) { s with heap:=s.heap.update p f,toks:=t }:=by
 have e:(s.heap.update p f).get? p=some { cls:=.type "list",data:=.seq its'.toArray n' }:=by
  rw [cZ f ho (by rw [hf] <;> rfl),hf]
 refine I.write (x:=p) (e:=p) (by rw [h]; trivial) (.inl rfl) (fun b u hb q=>(cH _ _ (dj hb)).trans q) ⟨_,e⟩ ?_;exact⟨hz,its',n',r,e⟩
def zri:V→V→V→Hp→(Hp→Prop)→Prop:=fun o i v H Q=>∃ p xs k j,o = .ref p∧i = .int k∧H p=some (.lst xs)∧ixN xs.length k=some j∧Q (mh H p (.lst (xs.set j v)))
theorem set_list:zq3 X zri:=by
 intro l3 s σ H o i v ov iv u Q I ro ri rv h;obtain⟨p,xs,k,j,rfl,rfl,hp,hj,q⟩:=h;cases ro;obtain⟨t,rfl⟩:=ri;obtain⟨mf,n,r,ho,hz⟩:=I.lst hp;obtain⟨h1,h2,h3,h4⟩:=zjQ hj;have hl:=r.length;have hn:=ze4;have I':Inv X l3 σ (mh H p (.lst (xs.set j v))) { s with heap:=s.heap.update p (dE (·.setIfInBounds j u)) } :=
  I.lstUpd hp ho (zi8 mf n j u) (r.set rv j) (by rw [f9]; exact hz) s.toks
 by_cases h0:0≤k
 ·have hk:k.toNat=j:=by
   rw [iq h0 h4] at h1;exact aV h1
  exact PySem.W.ki_setAt ho h0 #[O] (by rw [ar,← hl]; exact h4) (by rw [hk]; exact⟨_,I',q⟩)
 ·have hk:(k+(mf.toArray.size:Int)).toNat=j:=by
   rw [ku #[O] h3] at h1;rw [ar,← hl];exact aV h1
  exact PySem.W.ki_setBack ho #[O] (by rw [ar,← hl]; exact h3) #[O] (by rw [hk]; exact⟨_,I',q⟩)
theorem zgL (lo hi:Option Int) (n:Nat):(sliceBounds lo hi none n).1=((HT.sIx n 0 lo:Nat):Int)∧(sliceBounds lo hi none n).2.1=((HT.sIx n n hi:Nat):Int)∧(sliceBounds lo hi none n).2.2=1:=by
 refine⟨?_,?_,rfl⟩
 ·cases lo with
  | none=>simp [sliceBounds,HT.sIx]
  | some i =>
   simp only [sliceBounds,HT.sIx,k6,show (1:Int) > 0 by decide,if_true];by_cases h:i < 0
   ·simp only [h,if_true] <;> lia
   ·simp only [h,if_false] <;> lia
 ·cases hi with
  | none=>simp [sliceBounds,HT.sIx]
  | some i =>
   simp only [sliceBounds,HT.sIx,k6,show (1:Int) > 0 by decide,if_true];by_cases h:i < 0
   ·simp only [h,if_true] <;> lia
   ·simp only [h,if_false] <;> lia
theorem zfR (mf:List Value) (lo hi:Option Int):slicePick mf.toArray lo hi none=((mf.drop (HT.sIx mf.length 0 lo)).take (HT.sIx mf.length mf.length hi - HT.sIx mf.length 0 lo)).toArray:=by
 obtain⟨h1,h2,h3⟩:=zgL lo hi mf.toArray.size;unfold slicePick;rw [h1,h2,h3];simp only [sliceRange_one,pick_run,ar] <;> rfl
def zrj (K:ah):V→Option Int→Option Int→Hp→VK→Prop:=fun x lo hi H Q=>∃ a xs,x = .ref a∧me K H a xs∧∀ p,H p=none→Q (.ref p) (mh H p (.lst (zcK xs lo hi)))
theorem zcq:SlR X (zrj X.K):=by
 intro l3 s σ H x v vl vu lo hi sl Q I rx hs pl pu h;obtain⟨a,xs,rfl,hx,q⟩:=h;cases rx;obtain⟨mf,r,ht,hz⟩:=I.list hx;have mB:=r.length;refine⟨"list",_,slot_list_getitem.lookup,ht.isList.typeIs,?_⟩;refine wpAny_getItem_list_slice ht.isList hs pl pu .none #[M] ?_ (by rw [ar] <;> lia);rw [zfR,← mB];refine⟨.ref s.heap.objs.size,_,I.laid (t':=s.toks) (o:=.lst (zcK xs lo hi)) (fun b ob q=>ai _ q) (ag _) ?_,rfl,q _ (I.hok.fresh (ag _))⟩;exact⟨aT (zhK xs lo hi) hz,_,0,(r.drop (HT.sIx xs.length 0 lo)).take (HT.sIx xs.length xs.length hi - HT.sIx xs.length 0 lo),aG _ rfl⟩
def zgg:V→Bool
 | .non=>true
 | .bl _=>true
 | .int _=>true
 | .str _=>true
 | _=>false
def eqV:V→V→Bool
 | .non,.non=>true
 | .bl a,.bl b=>a == b
 | .bl a,.int b=>(if a then 1 else 0) == b
 | .int a,.bl b=>a == (if b then 1 else 0)
 | .int a,.int b=>a == b
 | .str a,.str b=>a == b
 | _,_=>false
theorem zp5 {A:Around} {s:Shared} {y x:V} {u v:Value} (ry:RelV y u) (rx:RelV x v) (fy:zgg y=true) (fx:zgg x=true):SeqAt.EqAt A s u v (eqV y x):=by
 cases y with
 | non =>
  cases ry;cases x with
  | non=>cases rx; exact lx _
  | bl b=>cases rx; exact SeqAt.EqAt.none_bool b
  | int b=>obtain⟨t,rfl⟩:=rx; exact SeqAt.EqAt.none_int b t
  | str b=>obtain⟨t,rfl⟩:=rx; exact SeqAt.EqAt.none_str b t
  | _=>exact absurd (show false=true from fx) aS
 | bl a =>
  cases ry;cases x with
  | non=>cases rx; exact SeqAt.EqAt.bool_none a
  | bl b=>cases rx; exact SeqAt.EqAt.bool_bool a b
  | int b=>obtain⟨t,rfl⟩:=rx; exact SeqAt.EqAt.bool_int a b t
  | str b=>obtain⟨t,rfl⟩:=rx; exact SeqAt.EqAt.bool_str a b t
  | _=>exact absurd (show false=true from fx) aS
 | int a =>
  obtain⟨t',rfl⟩:=ry;cases x with
  | non=>cases rx; exact SeqAt.EqAt.int_none a t'
  | bl b=>cases rx; exact SeqAt.EqAt.int_bool a t' b
  | int b=>obtain⟨t,rfl⟩:=rx; exact SeqAt.EqAt.int_int a t' b t
  | str b=>obtain⟨t,rfl⟩:=rx; exact km a t' b t
  | _=>exact absurd (show false=true from fx) aS
 | str a =>
  obtain⟨t',rfl⟩:=ry;cases x with
  | non=>cases rx; exact SeqAt.EqAt.str_none a t'
  | bl b=>cases rx; exact SeqAt.EqAt.str_bool a t' b
  | int b=>obtain⟨t,rfl⟩:=rx; exact ko a t' b t
  | str b=>obtain⟨t,rfl⟩:=rx; exact SeqAt.EqAt.str_str a t' b t
  | _=>exact absurd (show false=true from fx) aS
 | _=>exact absurd (show false=true from fy) aS
theorem zq:zbn X (.builtin "len") (fun xs H Q=>∃ p ys,xs = [.ref p]∧(me X.K H p ys∨mE X.K H p ys)∧Q (.int ys.length) H):=by
 intro l3 s σ H xs us Q I r h;obtain⟨p,ys,rfl,hq,q⟩:=h;obtain⟨u,rfl,rx⟩:=vals1 r;cases rx;have hn:=ze4;rcases hq with hq | hq
 ·obtain⟨mf,r',pl,hz⟩:=I.list hq;have mB:=r'.length;exact Calls.call_len_list pl.isList (by simp only [ar] <;> lia) ⟨.int ys.length,H,I.tok _,⟨s.toks+1,by rw [ar,mB]⟩,q⟩
 ·obtain⟨mf,r',pl,hz⟩:=I.tuple hq;have mB:=r'.length;exact len_tuple pl (by simp only [ar] <;> lia) ⟨.int ys.length,H,I.tok _,⟨s.toks+1,by rw [ar,mB]⟩,q⟩
theorem zcr:zbn X (.type "list") (fun xs H Q=>∃ p ys,xs = [.ref p]∧(me X.K H p ys∨mE X.K H p ys)∧∀ l,H l=none→Q (.ref l) (mh H l (.lst ys))):=by
 intro l3 s σ H xs us Q I r h;obtain⟨p,ys,rfl,hq,q⟩:=h;obtain⟨u,rfl,rx⟩:=vals1 r;cases rx;have fin:∀ (mf:List Value),zS ys mf→ys.length≤sizeLine→∀ (h':Heap) (c':Nat),(∀ b o',s.heap.get? b=some o'→h'.get? b=some o') →
   h'.get? s.heap.objs.size=some { cls:=.type "list",dict:=none,data:=.seq mf.toArray c',slots:=#[] }→EP X l3 σ Q (.ref s.heap.objs.size) { s with heap:=h' }:=fun mf r' hz h' c' kp e =>
  ⟨.ref s.heap.objs.size,_,I.laid (t':=s.toks) kp (ag _) (show zas X.prog X.w _ h' _ (.lst ys) from ⟨hz,mf,c',r',e⟩),rfl,q _ (I.hok.fresh (ag _))⟩
 rcases hq with hq | hq
 ·obtain⟨mf,r',pl,hz⟩:=I.list hq;have mB:=r'.length;obtain⟨o,ho,hc,n,hd⟩:=pl.isList;exact call_list_seq p (.inl rfl) ho hc hd (fun h' c' kp e=>fin mf r' hz h' c' kp e) (by simp only [ar] <;> lia)
 ·obtain⟨mf,r',pl,hz⟩:=I.tuple hq;have mB:=r'.length;obtain⟨o,ho,hc,n,hd⟩:=pl;exact call_list_seq p (.inr rfl) ho hc hd (fun h' c' kp e=>fin mf r' hz h' c' kp e) (by simp only [ar] <;> lia)
theorem za2:zbn X (.type "tuple") (fun xs H Q=>∃ p ys,xs = [.ref p]∧((me X.K H p ys∧∀ l,H l=none→Q (.ref l) (mh H l (.tup ys)))∨(mE X.K H p ys∧Q (.ref p) H))):=by
 intro l3 s σ H xs us Q I r h;obtain⟨p,ys,rfl,h⟩:=h;obtain⟨u,rfl,rx⟩:=vals1 r;cases rx;rcases h with ⟨hq,q⟩ | ⟨hq,q⟩
 ·obtain⟨mf,r',pl,hz⟩:=I.list hq;have mB:=r'.length;refine call_tuple_list pl.isList (fun h' kp=>?_) (by simp only [ar] <;> lia);have I1:Inv X l3 σ H { s with heap:=h' }:=I.kept (t':=s.toks) kp;have I2:Inv X l3 σ (mh H h'.objs.size (.tup ys)) { s with heap:=h'.push { cls:=.type "tuple",data:=.seq mf.toArray } } :=
   I1.laid (t':=s.toks) (fun b o e=>ai _ e) (ag _) (show zas X.prog X.w _ _ _ (.tup ys) from ⟨hz,mf,r',IsTup.new _ _⟩)
  exact⟨.ref h'.objs.size,_,I2,rfl,q _ (I1.hok.fresh (ag _))⟩
 ·obtain⟨mf,r',pl,hz⟩:=I.tuple hq;exact call_tuple_same pl ⟨.ref p,H,I,rfl,q⟩
def tyV (K:ah) (T:String) (x:V) (H:Hp):Prop:=match x with
 | .str _=>T = "str"
 | .int _=>T = "int"
 | .ref p=>(T = "list"∧∃ xs,me K H p xs)∨(T = "tuple"∧∃ o,K.lookup p=some o∧o.cls = .type "tuple"∧o.dict=none) ∨
   (T = "dict"∧((∃ mo,H p=some (.dK mo))∨∃ mo,H p=some (.dT mo)))∨(T = "set"∧∃ S n,H p=some (.set S n))
 | _=>False
theorem zp6 {l3:List (Addr×Obj)} {σ:St} {H:Hp} {s:Shared} {T:String} {x:V} {v:Value} (I:Inv X l3 σ H s) (r:RelV x v) (ty:tyV X.K T x H) :
  s.TypeIs v T∧∀ a,v = .ref a→∃ ob,s.heap.get? a=some ob∧ob.dict=none:=by
 cases x with
 | str z =>
  obtain⟨t,rfl⟩:=r;cases (show T = "str" from ty);exact⟨typeIs_str s z t,fun _ e=>nomatch e⟩
 | int i =>
  obtain⟨t,rfl⟩:=r;cases (show T = "int" from ty);exact⟨ly s i t,fun _ e=>nomatch e⟩
 | ref p =>
  cases r;rcases ty with ⟨rfl,xs,hq⟩ | ⟨rfl,o,hk,hc,hd⟩ | ⟨rfl,hk⟩ | ⟨rfl,S,n,hk⟩
  ·obtain⟨mf,_,pl,_⟩:=I.list hq;refine⟨pl.isList.typeIs,fun a e=>?_⟩;cases e;obtain⟨o,n,e,c,hd,_⟩:=pl;exact⟨o,e,hd⟩
  ·refine⟨⟨o,I.kIn p o hk,hc⟩,fun a e=>?_⟩;cases e;exact⟨o,I.kIn _ o hk,hd⟩
  ·have z:∃ o,s.heap.get? p=some o∧o.ExactDict:=by
    rcases hk with ⟨mo,hk⟩ | ⟨mo,hk⟩
    ·obtain⟨_,_,_,_,o,_,_,e,ex,_⟩:=I.hok p _ hk;exact⟨o,e,ex⟩
    ·obtain⟨_,_,_,_,o,_,_,e,ex,_⟩:=I.hok p _ hk;exact⟨o,e,ex⟩
   obtain⟨o,e,ex⟩:=z;refine⟨⟨o,e,ex.1⟩,fun a e2=>?_⟩;cases e2;exact⟨o,e,ex.2.1⟩
  ·obtain⟨o,_,_,_,e,ex,_⟩:=I.hok p _ hk;refine⟨⟨o,e,ex.1⟩,fun a e2=>?_⟩;cases e2;exact⟨o,e,ex.2.1⟩
 | _=>exact eG ty
def tBM (K:ah) (T:String) (r:V→List V→Hp→VK→Prop) (to:TE) (t:TA):TE:=fun σ H Q=>to σ H fun x H1=>tyV K T x H1∧t σ H1 fun xs H2=>r x xs H2 Q
variable {o e:Expr} {es:List Expr} {to:TE} {t:TA} {name:Str} {apos nG:Pos} {T id:String} {r:V→List V→Hp→VK→Prop}
theorem zhL (pa:PlainAttrs T) (slot:Slot T name id) (EU:typeOf (.builtin id)=pure (.type "method_descriptor")) (hm:MtR X id r) (ho:PE X o to) (ha:PA X (e :: es) t)
  (wY:attributeBase o name X.env (eval o X.env)=eval o X.env:=by rfl)
  (Ar:((backTo nG (starEach (e :: es) X.env)).all (fun x=>!x.1) && (backToKw nG (keywordEach [] X.env)).all (fun x=>x.1.isSome)
   && decide ((e :: es).length+([]:List Keyword).length+(if ([]:List Keyword).isEmpty then 0 else 1) < 30))=true:=by rfl)
  (wZ:(apos.endLine == nG.line)=true:=by rfl) (hs:starEach (e :: es) X.env=(false,eval e X.env) :: starEach es X.env:=by rfl) (uN:(backTo nG (starEach es X.env)).any (·.1)=false:=by rfl) :
  PE X (.Call (.Attribute o name apos) (e :: es) [] nG) (tBM X.K T r to t):=by
 intro l3 s σ H Q I h;refine wpAny_Call_method_late wY Ar wZ rfl (thn (ho l3 s σ H _ I h) fun v s1 ⟨x,H1,I1,r1,ty,q1⟩=>?_);obtain⟨h1,h2⟩:=zp6 I1 r1 ty;refine⟨T,id,pa,slot,EU,h1,h2,?_⟩;have hA:=ha nG l3 s1 σ H1 _ I1 q1;rw [hs] at hA ⊢;refine jx (by show (false || (backTo nG (starEach es X.env)).any (·.1))=false; rw [uN] <;> rfl) (jP ?_);exact thn hA fun us s2 ⟨vs,H2,I2,r2,q2⟩=>hm l3 s2 σ H2 x vs v us Q I2 r1 r2 q2
end
def MtM (X:Cx) (id:String) (r:V→List V→Hp→VK→Prop):Prop :=
 ∀ (l3:List (Addr×Obj)) (s:Shared) (σ:St) (H:Hp) (x:V) (xs:List V) (v:Value) (us:List Value) (Q:VK),Inv X l3 σ H s→RelV x v→zS xs us→r x xs H Q →
  wpAny (model X.prog X.w) X.A (call (.builtin id) (v :: us)) (EP X l3 σ Q) X.xe s
theorem zS.one:∀ {x:V} {us:List Value},zS [x] us→∃ u,us = [u]∧RelV x u
 | _,_,.cons r .nil=>⟨_,rfl,r⟩
theorem zS.eraseIdx:∀ {xs:List V} {us:List Value} (i:Nat),zS xs us→zS (xs.eraseIdx i) (us.eraseIdx i)
 | _,_,_,.nil=>.nil
 | _,_,0,.cons _ t=>t
 | _,_,i+1,.cons r t=>.cons r (zS.eraseIdx i t)
theorem zS.rep {xs:List V} {us:List Value} (h:zS xs us):∀ k:Nat,zS (ap k xs).flatten (ap k us).flatten
 | 0=>.nil
 | k+1=>by
  rw [cI,cI,eD,eD];exact zS.append h (zS.rep h k)
theorem zgh {α:Type}:∀ (l:List α) (i:Nat),(l.eraseIdx i).length≤l.length
 | [],_=>ag _
 | _ :: _,0=>gH _
 | _ :: r,i+1=>fH (zgh r i)
theorem foldl_rep (mf:List Value):∀ (k:Nat) (acc:List Value),
  lA (fun x1 x2=>x1++x2) acc.toArray (ap k mf.toArray)=(acc++(ap k mf).flatten).toArray
 | 0,acc=>by simp
 | k+1,acc=>by
  have e:acc.toArray++mf.toArray=(acc++mf).toArray:=by simp
  have e2:(acc++mf)++(ap k mf).flatten=acc++(ap (k+1) mf).flatten:=by
   rw [cI,eD,bD]
  rw [← e2,← foldl_rep mf k (acc++mf),← e,cI,jj]
section
variable {X:Cx} {l3:List (Addr×Obj)} {σ:St} {H:Hp} {s:Shared} {l b:Addr} {xs ys zs:List V}
theorem Inv.lset {mf its':List Value} {n:Nat} {f:Array Value→Array Value} {t':Nat} (I:Inv X l3 σ H s) (hH:H l=some (.lst xs))
  (e:s.heap.get? l=some { cls:=.type "list",data:=.seq mf.toArray n }) (hf:f mf.toArray=its'.toArray) (hv:zS ys its') (hz:ys.length≤sizeLine) :
  Inv X l3 σ (mh H l (.lst ys)) { s with heap:=s.heap.update l (dE f),toks:=t' }:=by
 have q:=k7 e f;rw [hf] at q;refine I.write (x:=l) (e:=l) (by rw [hH]; exact trivial) (.inl rfl) (fun b' u hb hu=>(cH s.heap (dE f) (dj hb)).trans hu) ⟨_,q⟩ ?_;exact⟨hz,its',_,hv,q⟩
theorem Inv.lnew {mf:List Value} {t':Nat} (I:Inv X l3 σ H s) (hv:zS ys mf) (hz:ys.length≤sizeLine) :
  Inv X l3 σ (mh H s.heap.objs.size (.lst ys)) { s with heap:=s.heap.push { cls:=.type "list",data:=.seq mf.toArray },toks:=t' } :=
 I.laid (fun _ _ q=>ai _ q) (ag _) ⟨hz,mf,0,hv,aG _ rfl⟩
theorem Inv.fresh (I:Inv X l3 σ H s):H s.heap.objs.size=none:=I.hok.fresh (ag _)
theorem Inv.lstM (I:Inv X l3 σ H s) (hH:H l=some (.lst xs)):xs.length≤sizeLine∧∃ (mf:List Value) (n:Nat),zS xs mf∧xs.length=mf.length∧s.heap.get? l=some { cls:=.type "list",data:=.seq mf.toArray n }:=by
 obtain⟨z,mf,n,r,e⟩:=I.hok l _ hH;exact⟨z,mf,n,r,r.length,e⟩
theorem zhM {n:Nat} (h:n≤sizeLine):eL n=false:=by
 unfold eL;exact decide_eq_false #[O]
end
section
variable {X:Cx}
def zoh:V→List V→Hp→VK→Prop:=fun x vs H Q=>∃ l xs y,x = .ref l∧vs = [y]∧H l=some (.lst xs)∧xs.length < sizeLine∧Q .non (mh H l (.lst (xs++[y])))
theorem zc0:MtM X "list.append" zoh:=by
 intro l3 s σ H x vs v us Q I rx rv h;obtain⟨l,xs,y,rfl,rfl,hH,hz,q⟩:=h;cases rx;obtain⟨u,rfl,ru⟩:=rv.one;obtain⟨z,mf,n,r,hl,e⟩:=I.lstM hH;refine fI kx ⟨_,e,rfl⟩ kf (jQ _ _) (kN l mf.toArray n u (by rw [ar]; lia)) ⟨e,?_⟩;refine⟨.non,_,I.lset (its':=mf++[u]) hH e #[M] (r.append (.cons ru .nil)) ?_,rfl,q⟩;rw [aq,gU];lia
def zp7:V→List V→Hp→VK→Prop:=fun x vs H Q=>∃ l xs i k y,x = .ref l∧vs = [.int i]∧H l=some (.lst xs)∧-(2 ^ 63)≤i∧i < 2 ^ 63∧seqIndex? i xs.length=some k∧xs[k]? = some y∧Q y (mh H l (.lst (xs.eraseIdx k)))
theorem zmb:MtM X "list.pop" zp7:=by
 intro l3 s σ H x vs v us Q I rx rv h;obtain⟨l,xs,i,k,y,rfl,rfl,hH,h1,h2,hk,hy,q⟩:=h;cases rx;obtain⟨u,rfl,ru⟩:=rv.one;obtain⟨t,rfl⟩:=ru;obtain⟨z,mf,n,r,hl,e⟩:=I.lstM hH;obtain⟨w,hw,Aq⟩:=r.get hy;refine fI F.slot_list_pop ⟨_,e,rfl⟩ F.entry_list_pop (F.args_list_pop_2 _ _)
  (MeetsSeq.list_pop_at l mf.toArray n i t k w (fitsIndex_both h1 h2) (by rw [ar,← hl]; exact hk) (by rw [← bE]; exact hw) (by rw [ar]; lia)) ⟨e,?_⟩
 refine⟨y,_,I.lset (its':=mf.eraseIdx k) hH e ?_ (r.eraseIdx k) ?_,Aq,q⟩
 ·show mf.toArray.eraseIdxIfInBounds k=(mf.eraseIdx k).toArray;rw [List.eraseIdxIfInBounds_toArray]
 ·have:=zgh xs k;lia
def zrS:R2:=fun x y H Q=>∃ l b xs zs,x = .ref l∧y = .ref b∧H l=some (.lst xs)∧H b=some (.lst zs)∧xs.length+zs.length≤sizeLine∧∀ p,H p=none→Q (.ref p) (mh H p (.lst (xs++zs)))
theorem zb4:OpR X (binaryOp .Add) zrS:=by
 intro l3 s σ H x y v u Q I rx ry h;obtain⟨l,b,xs,zs,rfl,rfl,hH,hB,hz,q⟩:=h;cases rx;cases ry;obtain⟨z,mf,n,r,hl,e⟩:=I.lstM hH;obtain⟨z2,mT,n2,r2,qJ,e2⟩:=I.lstM hB;refine PySem.P.add_list e e2 ?_ (by rw [ar,ar]; lia);have ea:mf.toArray++mT.toArray=(mf++mT).toArray:=by simp
 rw [ea];exact⟨.ref _,_,I.lnew (t':=s.toks) (r.append r2) (by rw [aq]; lia),rfl,q _ I.fresh⟩
def zoi:R2:=fun x y H Q=>∃ l k xs,x = .ref l∧y = .int k∧H l=some (.lst xs)∧-(2 ^ 63)≤k∧k < 2 ^ 63∧xs.length*k.toNat≤sizeLine ∧
 ∀ p,H p=none→Q (.ref p) (mh H p (.lst (ap k.toNat xs).flatten))
theorem len_rep {α:Type} (xs:List α) (k:Nat):(ap k xs).flatten.length=k*xs.length:=by
 induction k with
 | zero=>simp
 | succ k ih=>rw [cI,eD,aq,ih,fu,Nat.add_comm]
theorem zcs:OpR X (binaryOp .Mult) zoi:=by
 intro l3 s σ H x y v u Q I rx ry h;obtain⟨l,k,xs,rfl,rfl,hH,h1,h2,hz,q⟩:=h;cases rx;obtain⟨t,rfl⟩:=ry;obtain⟨z,mf,n,r,hl,e⟩:=I.lstM hH;have mB:mf.toArray.size*k.toNat≤sizeLine:=by rw [ar,← hl]; exact hz
 have EV:¬ mf.toArray.size*k.toNat > (2 ^ 63 - 1) / 8:=by
  have:(sizeLine:Nat)≤(2 ^ 63 - 1) / 8:=by decide
  lia
 have EW:¬ (!Builtin.List.listFitsIndex k)=true:=by
  rw [fitsIndex_both h1 h2];exact aS
 have w8:¬ eL (mf.toArray.size*k.toNat)=true:=by
  rw [zhM mB];exact aS
 have EX:lA (fun x1 x2=>x1++x2) #[] (ap (if mf.toArray.isEmpty=true then 0 else k.toNat) mf.toArray)=(ap k.toNat mf).flatten.toArray:=by
  have f0:∀ m:Nat,lA (fun x1 x2=>x1++x2) #[] (ap m mf.toArray)=(ap m mf).flatten.toArray:=fun m=>by
   have:=foldl_rep mf m [];rw [lB] at this;exact this
  rw [f0];cases mf with
  | nil=>simp
  | cons a r'=>rw [if_neg #[M]]
 refine wpAny_binaryOp_repeat_ref (T:="list") (U:="int") #[D] ⟨_,e,rfl⟩ (fun s'=>ly s' k t) noFill_list_mul F.fills_int_mul F.slot_int_rmul repeat_list F.slot_int_index.lookup
  (fI F.slot_int_rmul (ly s k t) F.entry_int_rmul (F.args_int_rmul_2 _ _) (int___rmul___int_list k t l mf.toArray n)
   ⟨e,rfl,⟨_,e,rfl⟩,fI F.slot_list_mul ⟨_,e,rfl⟩ F.entry_list_mul (F.args_list_mul_2 _ _) (AutoListH.list___mul___list_int_3 l mf.toArray n k t EW EV w8) ⟨e,?_⟩⟩)
 rw [EX];exact⟨.ref _,_,I.lnew (t':=s.toks) (r.rep k.toNat) (by rw [len_rep,eP]; exact hz),rfl,q _ I.fresh⟩
end
end L2
namespace Att
open PySem PySem.W PySem.Calls PyProof.Rows
theorem zep {P:Params} {h:Heap}:∀ (ns:List Int) (vs:List Value),WellAll P h vs (ns.map WData.int)→IntsAre vs ns:=by
 intro ns;induction ns with
 | nil =>
  intro vs w;rw [ft] at w;cases w;exact .nil
 | cons n ns ih =>
  intro vs w;rw [bg] at w;cases w with
  | cons a b =>
   cases a;exact .cons _ _ (ih _ b)
theorem zk0 {l:OpenLaw} {n:Nat} (hn:l.most=some n) {P:Params} {h:Heap} {args:List WData} {vals:List Value}
  (rP:l.row.toRowW.claim.pre args=true) (As:WellAll P h vals args) :
  ∃ a vs ns,vals = [bd a]∧args = [WData.list (ns.map WData.int)]∧h.get? a=some { cls:=.type "list",data:=.seq vs.toArray }∧IntsAre vs ns∧ns.length≤n:=by
 have hsh:WShape.hasAll [] args [.list .int]=true:=(pre_splitW rP).1;have hc:l.pre.holds [] { args:=args }=true:=(pre_splitW rP).2;obtain⟨d,r,rfl,h1,h2⟩:=hasAllW_cons hsh;obtain rfl:=hasAllW_nil h2;obtain⟨xs,rfl,h3⟩:=hasW_list h1;obtain⟨ns,rfl⟩:=items_int h3;have mB:ns.length≤n:=by
  unfold OpenLaw.pre at hc;have h4:(WTm.not (.lt (.lit (.int (n:Int))) (.len (.arg 0)))).holds [] { args:=[.list (ns.map .int)] }=true:=by
   have h4:=(holds_andW hc).1;rw [hn] at h4;exact h4
  have h5:=condW_of h4 (w_not (w_lt w_lit (w_len_list (w_arg rfl))));rw [ab] at h5;refine i4 fun q=>?_
  have q':(n:Int) < ((ns.length:Nat):Int):=by lia
  first
   | (rw [decide_eq_true q'] at h5; exact absurd h5 #[D])
   | (simp at h5; lia)
 cases As with
 | cons w1 w2 =>
  cases w2;cases w1 with
  | list ho pU=>exact⟨_,_,ns,rfl,rfl,ho,zep ns _ pU,mB⟩
theorem zk1 (l:OpenLaw) (args:List WData):l.row.toRowW.claim.post args (.bool true) args=true :=
 postW_of (r:=l.row.toRowW) (X:=(true == true))
  (show WShape.has [] (.bool true) .bool=true by first | rfl | decide | simp [WShape.has,WShape.arms,WShape.armsAll])
  (show (WTm.eq .res (.lit (.bool true))).value [] { args:=args,res:=some (.bool true),after:=args }=some (.bool (true == true)) from w_eq_bool (w_res rfl) w_lit) rfl
theorem attach_call {l:OpenLaw} {n:Nat} {q:Program} {loose:List Str} {XP:(Str→Option Value)→Heap→Prop} {YP:World→Heap→Prop} {d:DefRec}
  (hn:l.most=some n) (Cj:d.params.defaults = [])
  (call:∀ (w:World) (s₀ s₁:Shared) (mg mb:Str→Option Value) (fa:Addr) (o:Obj) (pm cd doc:Value) (a:Addr) (vs:List Value) (ns:List Int),
   Ground q loose [] XP w s₀ mg mb s₁.heap→YP w s₁.heap →
   s₁.heap.get? fa=some o→o.data = .func (docDef d.name d.params d.body d.scope pm cd doc)→s₁.heap.CodeRec cd d.name→mg d.name=some (.ref fa) →
   s₁.heap.get? a=some { cls:=.type "list",data:=.seq vs.toArray }→IntsAre vs ns→ns.length≤n→s₁.gens = #[] →
   codeAny (model l.prog w) callerA (.call (.ref fa) ⟨[.ref a],[]⟩) (fun r s'=>r = .ok (.ret (.bool true))∧OldK s₁.heap s'.heap∧s'.os=s₁.os∧AllBare s'.gens) s₁) :
  WalkO q loose XP YP l.row.toRowW d [] (fun f vs=>lC f vs):=by
 intro w s₀ s₁ mg mb G Y fa o pm cd doc dV kV ho hd vL hD vM hg args vals as rP hlay hrd As qK;obtain rfl:dV = .none:=Dflts.none hD Cj;obtain rfl:kV = .none:=Dflts.noKw hD;obtain⟨a,vs,ns,rfl,rfl,Au,hints,mB⟩:=zk0 hn rP As;refine enter_call (kr (call w s₀ s₁ mg mb fa o pm cd doc a vs ns G Y ho (fd_plain hd) vL vM Au hints mB hg) fun r s' hq=>?_);obtain⟨rfl,h2,h3,h4⟩:=hq;exact⟨.inl ⟨.bool true,.bool true,[],rfl,fun _=>rfl,.bool true,zk1 l _,fun _=>⟨iO,fun _ hm=>(nomatch hm)⟩⟩,h2,h3,h4⟩
end Att
namespace L2
open PySem PySem.Spec PyProof.Rows
theorem zgi:∀ {vs:List Value} {ns:List Int},IntsAre vs ns→zS (ns.map V.int) vs
 | _,_,.nil=>.nil
 | _,_,.cons n t h=>.cons ⟨t,rfl⟩ (zgi h)
def zp8 (H:Hp):Prop:=∀ b,H b=none∨∃ o xs,H b=some (.frz o (.lst xs))
theorem zmc {P:Program} {w:World} {K:ah} {mg mb:Str→Option Value} {CX:CXT} {k:Nat} {fa a:Addr} {fd:FuncData} {x:Str} {sp:Sp} {s₁:Shared} {vs:List Value} {ns:List Int}
  (KX:K.In s₁.heap) (vB:s₁.heap.Ns mainGlobals mg) (hb:s₁.heap.Ns builtinsNs mb) (hbb:∀ x:Str,x≠"__name__"→mb x=bootBuiltins x) (EY:s₁.heap.NoLimit) (hg:s₁.gens = #[])
  (ha:s₁.heap.get? a=some { cls:=.type "list",data:=.seq vs.toArray }) (hi:IntsAre vs ns) (hl:ns.length≤sizeLine) (hr:Room k callerA)
  (F:∀ base:Heap,K.In base→base.Ns mainGlobals mg→FnOk P w K mg base CX k fa fd [x] sp) (Ck:∀ (s:Shared) (u:Value),BindsTo s fd ⟨[u],[]⟩ [(x,u)])
  (xP:∀ H:Hp,zp8 H→me K H a (ns.map V.int)→sp [.ref a] H (fun v _=>v = .bl true) fun _ _ _=>False)
  (EZ:∀ H e s',CX [] H s₁ (fun _ _ _=>False) e s'→False) :
  codeAny (model P w) callerA (.call (.ref fa) ⟨[.ref a],[]⟩) (fun r s'=>r = .ok (.ret (.bool true))∧OldK s₁.heap s'.heap∧s'.os=s₁.os∧AllBare s'.gens) s₁:=by
 have rv:=zgi hi;have E1:=hi.length;have core:∀ H:Hp,zp8 H→me K H a (ns.map V.int)→HOk P w H s₁.heap→(∀ b,H b≠none→b=a)→(H a≠none→K.lookup a=none) →
   codeAny (model P w) callerA (.call (.ref fa) ⟨[.ref a],[]⟩) (fun r s'=>r = .ok (.ret (.bool true))∧OldK s₁.heap s'.heap∧s'.os=s₁.os∧AllBare s'.gens) s₁:=by
  intro H hO hS hok hA hK;have vC:∀ {b:Addr} {o:Obj},s₁.heap.get? b=some o→H b=none→(zgH s₁.heap H).get? b=some o:=fun e n=>zl2 e n
  have Ao:∀ {b:Addr} {o:Obj} {es:Array DictEntry} {ep:Nat},s₁.heap.get? b=some o→o.data = .dict es ep→H b=none:=fun {b o es ep} e d=>by
   cases q:H b with
   | none=>rfl
   | some u =>
    have e':b=a:=hA b (by rw [q]; simp);subst e';rw [ha] at e; cases e;have d':Data.seq vs.toArray _=Data.dict es ep:=d;cases d'
  have DY:∀ {b:Addr} {m:Str→Option Value},s₁.heap.Ns b m→(zgH s₁.heap H).Ns b m:=fun {b m} ⟨o,es,ep,e,d,r⟩=>⟨o,es,ep,vC e (Ao e d),d,r⟩
  have hKb:K.In (zgH s₁.heap H):=fun b o e=>vC (KX b o e) (by
   cases q:H b with
   | none=>rfl
   | some u =>
    have e':b=a:=hA b (by rw [q]; simp);subst e';rw [hK (by rw [q]; simp)] at e; cases e)
  have hM:Mod K mg (zgH s₁.heap H):=⟨hKb,DY vB,⟨mb,DY hb,hbb⟩,let ⟨mc,h1,h2⟩:=EY; ⟨mc,DY h1,h2⟩⟩;have e0:Env0 P w K mg (zgH s₁.heap H) callerA [] s₁ H:=⟨rfl,hM,fun b o e=>zn6 e,Nat.le_of_eq (zkV _ _),trivial,fun b hb=>absurd (show b∈([]:List Addr) from hb) #[M],hok,.of_eq hg⟩;refine kr ((F _ hKb (DY vB)).run callerA [] s₁ H ⟨[.ref a],[]⟩ [.ref a] [.ref a] _ _ hr e0 (Ck s₁ (.ref a)) (.cons rfl .nil) (xP H hO hS)) fun r s' h=>?_
  cases r with
  | error e=>exact (EZ H e s' h).elim
  | ok fl =>
   cases fl with
   | next=>exact eG h
   | brk=>exact eG h
   | cont=>exact eG h
   | ret u =>
    obtain⟨v,H',os,bare,un,E2,r',q⟩:=h;have q':v = .bl true:=q;subst q';obtain rfl:u=Value.bool true:=r';refine⟨rfl,OldK.of_keep fun b o e=>?_,os,bare⟩;cases q:H b with
    | none=>exact un.keep b o e q (by intro z; exact absurd (show b∈([]:List Addr) from z) #[M]) #[M]
    | some u =>
     rcases hO b with z | ⟨ob,xs,z⟩
     ·rw [q] at z; cases z
     ·have z2:=un.frzs b ob _ z;obtain⟨e1,_⟩:=hok b _ z;obtain⟨e2,_⟩:=E2 b _ z2;rw [e] at e1; cases e1;exact e2
 cases hk:K.lookup a with
 | some o =>
  have e:=KX a o hk;rw [ha] at e;cases e;refine core (fun _=>none) (fun _=>.inl rfl) (.inr ⟨_,vs.toArray,_,hk,rfl,rfl,rfl,by rw [ar,E1]; exact hl,by simpa using rv⟩) (fun b u z=>by have z':(none:Option HO)=some u:=z; cases z') (fun b z=>absurd rfl z) fun z=>absurd rfl z
 | none =>
  refine core (fun b=>if b=a then some (.frz { cls:=.type "list",data:=.seq vs.toArray } (.lst (ns.map V.int))) else none) (fun b=>?_) (.inl (.inr ⟨{ cls:=.type "list",data:=.seq vs.toArray },if_pos rfl⟩)) (fun b u z=>?_) (fun b z=>?_) fun _=>hk
  ·by_cases hb:b=a
   ·exact .inr ⟨_,_,if_pos hb⟩
   ·exact .inl (if_neg hb)
  ·by_cases hb:b=a
   ·have z':=(if_pos hb).symm.trans z;cases z';subst hb;exact⟨ha,by rw [ab]; exact hl,vs,_,rv,ha⟩
   ·have z':=(if_neg hb).symm.trans z;cases z'
  ·by_cases hb:b=a
   ·exact hb
   ·exact absurd (if_neg hb) z
theorem zoj {l:jk} {n k:Nat} {q:Program} {loose:List Str} {XP:(Str→Option Value)→Heap→Prop} {YP:World→Heap→Prop} {d:DefRec} {K:Params→ah} {CX:World→CXT} {sp:World→Sp} {x:Str}
  (hn:l.most=some n) (uC:n≤sizeLine) (Cj:d.params.defaults = []) (hr:Room k callerA)
  (hY:∀ (w:World) (h:Heap),YP w h→(K w.params).In h)
  (F:∀ (w:World) (mg:Str→Option Value) (fa:Addr) (h:Heap),(K w.params).In h→h.Ns mainGlobals mg→mg d.name=some (.ref fa) →
   ∃ fd:FuncData,(∀ (s:Shared) (u:Value),BindsTo s fd ⟨[u],[]⟩ [(x,u)]) ∧
    ∀ base:Heap,(K w.params).In base→base.Ns mainGlobals mg→FnOk l.prog w (K w.params) mg base (CX w) k fa fd [x] (sp w))
  (xP:∀ (w:World) (H:Hp) (a:Addr) (ns:List Int),ns.length≤n→zp8 H→me (K w.params) H a (ns.map V.int)→sp w [.ref a] H (fun v _=>v = .bl true) fun _ _ _=>False)
  (EZ:∀ (w:World) (H:Hp) (s:Shared) (e:Value) (s':Shared),CX w [] H s (fun _ _ _=>False) e s'→False) :
  lS q loose XP YP l.row.toRowW d [] (fun f vs=>lC f vs):=by
 refine Att.attach_call hn Cj fun w s₀ s₁ mg mb fa o pm cd doc a vs ns G Y ho hd vL vM Au hints mB hg=>?_
 have KX:=hY w _ Y;obtain⟨fd,hb,hF⟩:=F w mg fa _ KX G.T.g vM;exact zmc KX G.T.g G.T.b G.T.builtins G.T.nolimit hg Au hints (aT mB uC) hr hF hb (fun H hO hS=>xP w H a ns mB hO hS) fun H e s'=>EZ w H s₁ e s'
def zbY (s:Stmt):Arguments:=match s with
 | .FunctionDef _ a _ _ _ _ _ _ _ _=>a
 | _=>{ posonlyargs:=[],args:=[],vararg:=none,kwonlyargs:=[],kw_defaults:=[],kwarg:=none,defaults:=[] }
def zbK (s:Stmt):List Stmt:=match s with
 | .FunctionDef _ _ b _ _ _ _ _ _ _=>b
 | _=>[]
def zh (s:Stmt):Scope:=match s with
 | .FunctionDef _ _ _ _ _ _ sc _ _ _=>sc
 | _=>{ kind:=.function,names:=[],isGenerator:=false,isCoroutine:=false }
abbrev CX0:CXT:=fun _ _ _ _ _ _=>False
abbrev E0:XK:=fun _ _ _=>False
theorem zN {X:Cx}:zi7 CX0 X E0:=fun _ _ _ _ _ _ _ h=>h.elim
structure Fun (K:ah) (x qual:Str) (st:Stmt) (f:Addr) (fd:FuncData):Prop where
 ex:∃ (oc:Value) (od:Option Addr) (kV doc pm:Value) (an:Option Addr) (mQ ct:Value) (yS:Array (Option Value)),
  fd=dD x qual (zbY st) (zbK st) (zh st) .none kV doc pm an mQ ct∧K.lookup f=some ⟨oc,od,.func fd,yS⟩∧gn K mQ qual=true
 kp:gm K (.ref f)=true
section
variable {P:Program} {w:World} {K:ah} {mg:Str→Option Value} {base:Heap}
theorem Fun.ok {x qual:Str} {st:Stmt} {f:Addr} {fd:FuncData} {N ps:List Str} {k:Nat} {sp:Sp} (F:Fun K x qual st f fd) (S:FnScope N ps (zh st)) (len:∀ vs H Q E,sp vs H Q E→vs.length=ps.length)
  (wX:∀ (mQ:Value) (A:Around) (outer:List Env) (s:Shared) (H:Hp) (vs:List V) (Q:VK) (E:XK),Room k (A.deeper (envOfC qual (zh st) s.heap.objs.size f mQ))→sp vs H Q E →
   ∃ t,PSs (zkY CX0 P w K mg base N qual (zh st) f mQ A outer s H E).nox (zbK st) t∧t { nx:=fun _ H'=>Q .non H',rt:=Q } (start N vs) H):FnOk P w K mg base CX0 (k+1) f fd ps sp:=by
 obtain⟨oc,od,kV,doc,pm,an,mQ,ct,yS,rfl,lk,vL⟩:=F.ex;refine zrd lk vL S len fun A outer s H vs Q E hr xP=>?_
 obtain⟨t,h,q⟩:=wX mQ A outer s H vs Q E hr xP;exact⟨t,h.nox,q⟩
theorem Fun.binds {x qual:Str} {st:Stmt} {f:Addr} {fd:FuncData} {ps:List Str} (F:Fun K x qual st f fd)
  (h:∀ (kV doc pm:Value) (an:Option Addr) (mQ ct:Value) (us:List Value),us.length=ps.length→bindArgs (dD x qual (zbY st) (zbK st) (zh st) .none kV doc pm an mQ ct) ⟨us,[]⟩=pure (ps.zip us)):Binds K fd ps []:=by
 obtain⟨oc,od,kV,doc,pm,an,mQ,ct,yS,rfl,lk,vL⟩:=F.ex;exact .all (h kV doc pm an mQ ct)
theorem zmd {x qual:Str} {st:Stmt} {f:Addr} {oc:Value} {od an:Option Addr} {yS:Array (Option Value)} {kV doc pm mQ ct:Value} (l:K.lookup f=some ⟨oc,od,.func (dD x qual (zbY st) (zbK st) (zh st) .none kV doc pm an mQ ct),yS⟩)
  (c:gn K mQ qual=true) (k:gm K (.ref f)=true):Fun K x qual st f (dD x qual (zbY st) (zbK st) (zh st) .none kV doc pm an mQ ct):=⟨⟨oc,od,kV,doc,pm,an,mQ,ct,yS,rfl,l,c⟩,k⟩
end
theorem zme {A B:Prop} (h:B):if false=true then A else B:=by
 rw [if_neg aS];exact h
theorem zrT {A B:Prop} (h:A):if true=true then A else B:=by
 rw [if_pos rfl];exact h
theorem zaM {c A B:Prop} [Decidable c] (h1:c→A) (h2:¬ c→B):if c then A else B:=by
 by_cases h:c
 ·rw [if_pos h];exact h1 h
 ·rw [if_neg h];exact h2 h
def zu (H H':Hp):Prop:=∀ b o,H b=some o→H' b=some o
theorem zu.trans {H H1 H2:Hp} (a:zu H H1) (b:zu H1 H2):zu H H2:=fun c o h=>b c o (a c o h)
theorem zu.free {H H':Hp} (e:zu H H') {l:Addr} (h:H' l=lY):H l=lY:=by
 cases q:H l with
 | none=>rfl
 | some o =>
  rw [e l o q] at h;cases h
theorem zu.seq {K:ah} {H H':Hp} {a:Addr} {xs:List V} (e:zu H H') (h:me K H a xs):me K H' a xs:=by
 rcases h with (h | ⟨o,h⟩) | h
 ·exact .inl (.inl (e _ _ h))
 ·exact .inl (.inr ⟨o,e _ _ h⟩)
 ·exact .inr h
end L2
section
namespace L2
open PySem
abbrev Ends.n (D:Ends) (N:St→Hp→Prop):Ends:={ D with nx:=N }
section
variable {r1 r2 r3 r4 r5 r6 r7 r8 r9 r10 r11 r12 r13 r14 r15:TS} {D:Ends} {σ:St} {H:Hp}
theorem zi9 (h:let N2:=r2 D; r1 (D.n N2) σ H):(zaI r1 r2) D σ H:=h
theorem ze5 (h:let N3:=r3 D; let N2:=r2 (D.n N3); r1 (D.n N2) σ H):(zaI r1 (zaI r2 r3)) D σ H:=h
theorem zja (h:let N4:=r4 D; let N3:=r3 (D.n N4); let N2:=r2 (D.n N3); r1 (D.n N2) σ H):(zaI r1 (zaI r2 (zaI r3 r4))) D σ H:=h
theorem zok (h:let N5:=r5 D; let N4:=r4 (D.n N5); let N3:=r3 (D.n N4); let N2:=r2 (D.n N3); r1 (D.n N2) σ H):(zaI r1 (zaI r2 (zaI r3 (zaI r4 r5)))) D σ H:=h
theorem zrk (h:let N6:=r6 D; let N5:=r5 (D.n N6); let N4:=r4 (D.n N5); let N3:=r3 (D.n N4); let N2:=r2 (D.n N3); r1 (D.n N2) σ H):(zaI r1 (zaI r2 (zaI r3 (zaI r4 (zaI r5 r6))))) D σ H:=h
theorem zrl (h:let N7:=r7 D; let N6:=r6 (D.n N7); let N5:=r5 (D.n N6); let N4:=r4 (D.n N5); let N3:=r3 (D.n N4); let N2:=r2 (D.n N3); r1 (D.n N2) σ H):(zaI r1 (zaI r2 (zaI r3 (zaI r4 (zaI r5 (zaI r6 r7)))))) D σ H:=h
theorem zrU (h:let N8:=r8 D; let N7:=r7 (D.n N8); let N6:=r6 (D.n N7); let N5:=r5 (D.n N6); let N4:=r4 (D.n N5); let N3:=r3 (D.n N4); let N2:=r2 (D.n N3); r1 (D.n N2) σ H):(zaI r1 (zaI r2 (zaI r3 (zaI r4 (zaI r5 (zaI r6 (zaI r7 r8))))))) D σ H:=h
theorem zrV (h:let N9:=r9 D; let N8:=r8 (D.n N9); let N7:=r7 (D.n N8); let N6:=r6 (D.n N7); let N5:=r5 (D.n N6); let N4:=r4 (D.n N5); let N3:=r3 (D.n N4); let N2:=r2 (D.n N3); r1 (D.n N2) σ H):(zaI r1 (zaI r2 (zaI r3 (zaI r4 (zaI r5 (zaI r6 (zaI r7 (zaI r8 r9)))))))) D σ H:=h
theorem zaF {X0:Cx} {B:List PySem.Stmt} (h:let X:=X0; ∃ t,PSs X B t∧t D σ H):∃ t,PSs X0 B t∧t D σ H:=h
end
theorem nd_ (l:List Str) (h:l.Nodup:=by decide +kernel):l.Nodup:=h
end L2
end
section
namespace L2
open PySem PySem.Spec PyProof.Rows
def zam (cs:List (Str×Addr)):List (Str×NameKind)→List (Str×Addr)→List (Str×Addr)
 | [],acc=>acc
 | (n,k) :: r,acc=>if k == .free then zam cs r ((n,(cs.lookup n).getD 0) :: acc) else zam cs r acc
theorem zdi {scope:Scope} {env:Env} (h:∀ y∈scope.names,y.2 = .free→∃ c,env.cells.lookup y.1=some c) :
  closureFor scope env=pure (zam env.cells scope.names []):=by
 have go:∀ (names:List (Str×NameKind)) (acc:List (Str×Addr)),(∀ y∈names,y.2 = .free→∃ c,env.cells.lookup y.1=some c) →
   (forIn names acc (fun (x:Str×NameKind) (cs:List (Str×Addr))=>(if (x.2 == cE)=true then do
    let a ← cellOf env x.1
    pure (cW ((x.1,a) :: cs)) else pure (cW cs):Sem (ForInStep (List (Str×Addr))))))=(pure (zam env.cells names acc):Sem _):=by
  intro names;induction names with
  | nil=>intro acc _; rfl
  | cons y r ih =>
   intro acc hy;obtain⟨n,k⟩:=y;rw [fc];cases hk:(k == cE) with
   | true =>
    obtain⟨c,hc⟩:=hy (n,k) aN (by simpa using hk);have qu:cellOf env n=pure c:=by
     unfold cellOf;have mC:env.cells.lookup n=some c:=hc;rw [mC]
    simp only [hk,if_true,qu];have e:=ih ((n,c) :: acc) fun y Av=>hy y (aD _ Av)
    have mC:env.cells.lookup n=some c:=hc;simp only [zam,hk,if_true,mC,i5];exact e
   | false =>
    simp only [hk,br,if_false];have e:=ih acc fun y Av=>hy y (aD _ Av)
    simp only [zam,hk,br,if_false];exact e
 have e:=go scope.names [] h;unfold closureFor;show (forIn scope.names [] _ >>= fun cs=>pure cs)=_
 first
  | (rw [e]; rfl)
  | (simp only []; rw [e]; rfl)
  | (have e':=e; simp at e' ⊢; exact e')
theorem zb5 {cs:List (Str×Addr)}:∀ (names:List (Str×NameKind)) (acc:List (Str×Addr)),
  (∀ y∈names,y.2 = .free→∃ c,cs.lookup y.1=some c)→(∀ x c,acc.lookup x=some c→cs.lookup x=some c) →
  ∀ x c,(zam cs names acc).lookup x=some c→cs.lookup x=some c
 | [],acc,_,h,x,c,e=>h x c e
 | (n,k) :: r,acc,hy,h,x,c,e=>by
  have hr:∀ y∈r,y.2 = .free→∃ c,cs.lookup y.1=some c:=fun y Av=>hy y (aD _ Av)
  unfold zam at e;cases hk:(k == cE) with
  | false =>
   rw [hk] at e;exact zb5 r acc hr h x c e
  | true =>
   rw [hk] at e;obtain⟨d,hd⟩:=hy (n,k) aN (by simpa using hk);have BH:cs.lookup n=some d:=hd;refine zb5 r _ hr (fun x c e'=>?_) x c e;rw [BH,i5,bn] at e';cases hx:(x == n) with
   | true =>
    rw [hx] at e';have:x=n:=by simpa using hx
    subst this;rw [BH];exact e'
   | false =>
    rw [hx] at e';exact h x c e'
theorem zct {cs:List (Str×Addr)}:∀ (names:List (Str×NameKind)) (acc:List (Str×Addr)) (x:Str),
  ((∃ c,acc.lookup x=some c)∨(x,cE)∈names)→∃ c,(zam cs names acc).lookup x=some c
 | [],acc,x,h=>by
  rcases h with h | h
  ·exact h
  ·cases h
 | (n,k) :: r,acc,x,h=>by
  unfold zam;cases hk:(k == cE) with
  | false =>
   refine zct r acc x ?_;rcases h with h | h
   ·exact .inl h
   ·rcases aF.mp h with h | h
    ·cases h;exact absurd hk #[D]
    ·exact .inr h
  | true =>
   refine zct r _ x ?_;cases hx:(x == n) with
   | true=>exact .inl ⟨_,by rw [bn,hx]⟩
   | false =>
    rcases h with ⟨c,h⟩ | h
    ·exact .inl ⟨c,by rw [bn,hx]; exact h⟩
    ·rcases aF.mp h with h | h
     ·cases h;simp at hx
     ·exact .inr h
theorem lookup_mem {α:Type}:∀ {l:List (Str×α)} {x:Str} {k:α},l.lookup x=some k→(x,k)∈l
 | [],x,k,h=>by simp at h
 | (n,j) :: r,x,k,h=>by
  rw [bn] at h;cases hx:(x == n) with
  | true =>
   rw [hx] at h;have:x=n:=by simpa using hx
   subst this;cases h;exact aN
  | false =>
   rw [hx] at h;exact aD _ (lookup_mem h)
theorem zbI {env:Env}:∀ {names:List (Str×NameKind)} {x:Str},names.lookup x=some .free →
  (names.map fun (n,k)=>if (k == cE && env.scope.kind == .function && env.kindOf n == some .cell) then (n,dn) else (n,k)).lookup x=some .cell ∨
  (names.map fun (n,k)=>if (k == cE && env.scope.kind == .function && env.kindOf n == some .cell) then (n,dn) else (n,k)).lookup x=some .free
 | [],_,h=>by simp at h
 | (n,k) :: r,x,h=>by
  have ih:=@zbI env r x;simp only [bg];cases hx:x == n with
  | true =>
   simp only [bn,hx] at h; cases h;by_cases hc:(cE == cE && env.scope.kind == .function && env.kindOf n == some .cell)=true
   ·rw [if_pos hc]; left; simp only [bn,hx]
   ·rw [if_neg hc]; right; simp only [bn,hx]
  | false =>
   simp only [bn,hx] at h; rcases kz ((k == cE && env.scope.kind == .function && env.kindOf n == some .cell)=true) with hc | hc
   ·exact (by rw [if_pos hc]; simp only [bn,hx]; exact ih h)
   ·exact (by rw [if_neg hc]; simp only [bn,hx]; exact ih h)
theorem zdz {env:Env}:∀ {names:List (Str×NameKind)} {x:Str},
  ((names.map fun (n,k)=>if (k == cE && env.scope.kind == .function && env.kindOf n == some .cell) then (n,dn) else (n,k)).lookup x=some .cell ∨
  (names.map fun (n,k)=>if (k == cE && env.scope.kind == .function && env.kindOf n == some .cell) then (n,dn) else (n,k)).lookup x=some .free) →
  names.lookup x=some .free∨names.lookup x=some .cell
 | [],_,h=>by simp at h
 | (n,k) :: r,x,h=>by
  have ih:=@zdz env r x;simp only [bg] at h;cases hx:x == n with
  | true =>
   rcases kz ((k == cE && env.scope.kind == .function && env.kindOf n == some .cell)=true) with hc | hc
   ·have hk:k = .free:=by
     simp only [fJ] at hc; simpa using hc.1.1
    subst hk;exact .inl (by simp only [bn,hx])
   ·rw [if_neg hc] at h;simp only [bn,hx] at h ⊢;rcases h with h | h
    ·exact .inr h
    ·exact .inl h
  | false =>
   rcases kz ((k == cE && env.scope.kind == .function && env.kindOf n == some .cell)=true) with hc | hc
   ·rw [if_pos hc] at h;simp only [bn,hx] at h ⊢;exact ih h
   ·rw [if_neg hc] at h;simp only [bn,hx] at h ⊢;exact ih h
theorem zgM:∀ (names:List (Str×NameKind)) (n:Nat) (acc:List (Str×Addr)) (x:Str),(x,dn)∉names→(cellsFrom n names acc).lookup x=acc.lookup x
 | [],_,_,_,_=>rfl
 | (y,k) :: r,n,acc,x,h=>by
  have hr:(x,dn)∉r:=fun z=>h (aD _ z)
  unfold cellsFrom;split
  ·rename_i hk
   have vN:k = .cell:=by simpa using hk
   rw [zgM r _ _ x hr,bn];cases hx:(x == y) with
   | true =>
    have:x=y:=by simpa using hx
    subst this;subst vN;exact absurd aN h
   | false=>rfl
  ·exact zgM r _ _ x hr
theorem zgN:∀ (names:List (Str×NameKind)) (n:Nat) (acc:List (Str×Addr)) (x:Str),(x,dn)∈names→∃ c,(cellsFrom n names acc).lookup x=some c∧n≤c
 | (y,k) :: r,n,acc,x,h=>by
  by_cases hr:(x,dn)∈r
  ·unfold cellsFrom;split
   ·obtain⟨c,e,l⟩:=zgN r (n+1) ((y,n) :: acc) x hr;exact⟨c,e,#[O]⟩
   ·exact zgN r n acc x hr
  ·rcases aF.mp h with e | e
   ·cases e;unfold cellsFrom;rw [if_pos #[D],zgM r _ _ _ hr,bn,beq_self_eq_true];exact⟨n,rfl,ag _⟩
   ·exact absurd e hr
structure CO (h:Heap) (lo:Nat) (old cs:List (Str×Addr)):Prop where
 each:∀ x c,cs.lookup x=some c→(h.IsCell c none∧lo≤c)∨(old.lookup x=some c∧c < lo)
 inj:∀ x y c,cs.lookup x=some c→cs.lookup y=some c→x=y
theorem zmf {lo:Nat} {old:List (Str×Addr)}:∀ (names:List (Str×NameKind)) (h:Heap) (acc:List (Str×Addr)),CO h lo old acc→lo≤h.objs.size→CO (pushCells h names) lo old (cellsFrom h.objs.size names acc)
 | [],_,_,a,_=>a
 | (y,k) :: r,h,acc,a,hl=>by
  unfold pushCells cellsFrom;split
  ·have lt:∀ x c,acc.lookup x=some c→c < h.objs.size:=fun x c e=>(a.each x c e).elim (fun z=>z.1.lt) fun z=>bw z.2 hl
   have key:∀ x c,jy x ((y,h.objs.size) :: acc)=some c→(x=y∧c=h.objs.size)∨acc.lookup x=some c:=fun x c e=>by
    rw [bn] at e;cases hx:(x == y) with
    | true =>
     rw [hx] at e;exact .inl ⟨by simpa using hx,(aV e).symm⟩
    | false =>
     rw [hx] at e;exact .inr e
   have:=zmf (lo:=lo) (old:=old) r (h.push { cls:=.type "cell",data:=.cell none }) ((y,h.objs.size) :: acc) ⟨fun x c e=>?_,fun x z c e1 e2=>?_⟩ (by rw [bZ]; lia)
   ·rw [bZ] at this;exact this
   ·rcases key x c e with ⟨_,rfl⟩ | e
    ·exact .inl ⟨⟨_,aG _ rfl,rfl⟩,hl⟩
    ·rcases a.each x c e with z | z
     ·exact .inl ⟨z.1.keeps fun b o e=>ai _ e,z.2⟩
     ·exact .inr z
   ·rcases key x c e1 with ⟨p1,q1⟩ | f1 <;> rcases key z c e2 with ⟨p2,q2⟩ | f2
    ·exact p1.trans p2.symm
    ·exact absurd (lt _ _ f2) (by rw [q1]; exact cD _)
    ·exact absurd (lt _ _ f1) (by rw [q2]; exact cD _)
    ·exact a.inj x z c f1 f2
  ·exact zmf r h acc a hl
theorem zk2 {M:Model} {A:Around} {E:Value→Shared→Prop} {s:Shared} {scope:Scope} {globals:Addr} {closure:List (Str×Addr)} {qual:Str} {env:Env} {Q:Env→Shared→Prop}
  (h:Q (newEnv scope s.heap.objs.size globals (cellsFrom (s.heap.objs.size+1) scope.names closure) qual none .none (some env) builtinsNs) { s with heap:=pushCells (s.heap.push { cls:=.type "dict",data:=.dict #[] }) scope.names }) :
  wpAny M A (newFunctionEnv scope globals closure [] qual none .none (some env)) Q E s:=by
 (simp only [newFunctionEnv,kA,if_true])
 (refine ae (wpAny_alloc ?_))
 (refine ae (wpAny_layCells _ (fun name kind cells=>by cases E3:kind == dn <;> simp [E3]) _ _ _ _ ?_))
 rw [show ({ s with heap:=s.heap.push { cls:=.type "dict",data:=.dict #[] } }:Shared).heap.objs.size=s.heap.objs.size+1 from bZ ..]
 (exact ae (ao (ao h)))
abbrev zM (X:Cx) (N':List Str) (scope:Scope) (s₃:Shared) (H₃:Hp) (ex:List Addr) (l3:List (Addr×Obj)):Cx :=
 { X with N:=N',s₀:=s₃,H₀:=H₃,env:=compEnvC scope (cellsFrom (s₃.heap.objs.size+1) scope.names (zam X.env.cells scope.names [])) s₃.heap.objs.size X.env,outer:=X.stack,stack:=X.stack,ex:=ex,fn:=fun x=>scope.names.lookup x == some .cell,pn:=X.pn++l3,xe:=fun _ _=>False }
def zjb (ifs:List Expr) (env:Env):Sem Bool :=
 forIn ifs true fun c r=>if r=true then do let ok ← isTrue c env (eval c env); pure (cW ok) else pure (cW r)
def zdA (X:Cx) (ifs:List Expr) (t:TT):Prop :=
 ∀ (l3:List (Addr×Obj)) (s:Shared) (σ:St) (H:Hp) (Q:Bool→Hp→Prop),Inv X l3 σ H s→t σ H Q→wpAny (model X.prog X.w) X.A (zjb ifs X.env) (TP X l3 σ Q) X.xe s
def zol:TT:=fun _ H Q=>Q true H
theorem zz {X:Cx}:zdA X [] zol:=fun _ _ _ H _ I h=>ao ⟨H,I,h⟩
theorem zaJ {X:Cx} {c:Expr} {t:TT} (h:PT X c t):zdA X [c] t:=by
 intro l3 s σ H Q I hw;unfold zjb;rw [fc];simp only [if_true];exact ae (ae (thn (h l3 s σ H _ I hw) fun b s1 q=>ao (ao q)))
structure CompSc (X:Cx) (N':List Str) (ix:List (Option Nat)) (scope:Scope):Prop where
 kind:scope.kind = .function
 cells:∀ y∈scope.names,y.2 = .cell→scope.names.lookup y.1=some .cell
 names:∀ y∈scope.names,y.2 = .local→scope.names.lookup y.1=some .local
 free:∀ y∈scope.names,y.2 = .free→X.env.kindOf y.1=some .cell∨X.env.kindOf y.1=some .free
 len:N'.length=ix.length
 cap:∀ j i:Nat,ix[j]? = some (some i)→∃ x,N'[j]? = some x∧X.N[i]? = some x∧scope.names.lookup x=some .free
def zjS (BJ:Scope) (oN N':List Str) (ix:List (Option Nat)) (scope:Scope):Bool :=
 (scope.kind == .function) && (scope.names.all fun y=>y.2 != .cell || scope.names.lookup y.1 == some .cell) && (scope.names.all fun y=>y.2 != .local || scope.names.lookup y.1 == some .local) &&
 (scope.names.all fun y=>y.2 != .free || (BJ.names.lookup y.1 == some .cell || BJ.names.lookup y.1 == some .free)) && (N'.length == ix.length) &&
 ((av ix.length).all fun j=>match ix[j]? with
  | some (some i)=>(match N'[j]? with
   | some x=>oN[i]? == some x && scope.names.lookup x == some .free
   | none=>false)
  | _=>true)
theorem CompSc.of {X:Cx} {N':List Str} {ix:List (Option Nat)} {scope:Scope} (BJ:Scope) (oN:List Str) (h1:X.env.scope=BJ) (h2:X.N=oN) (hb:zjS BJ oN N' ix scope=true):CompSc X N' ix scope:=by
 unfold zjS at hb;simp only [fJ,fK] at hb;obtain⟨⟨⟨⟨⟨a,b⟩,c⟩,d⟩,e⟩,f⟩:=hb;refine⟨?_,fun y hy hl=>?_,fun y hy hl=>?_,fun y hy hf=>?_,by simpa using e,fun j i hj=>?_⟩
 ·revert a
  cases scope.kind <;> first | (intro _; rfl) | (intro h; exact absurd h #[D])
 ·have:=b y hy;rw [hl] at this;simpa using this
 ·have:=c y hy;rw [hl] at this;simpa using this
 ·have:=d y hy;rw [hf] at this;have e1:X.env.kindOf y.1=BJ.names.lookup y.1:=by rw [← h1]; rfl
  rw [e1];simpa using this
 ·have mM:j < ix.length:=(au.mp hj).1;have:=f j (aZ.mpr mM);rw [hj] at this;cases hN:N'[j]? with
  | none =>
   rw [hN] at this;simp at this
  | some x =>
   rw [hN] at this;refine⟨x,rfl,?_⟩;rw [h2];simpa using this
def zdB (ix:List (Option Nat)) (σ:St):St:=ix.map fun o=>match o with
 | none=>none
 | some i=>(σ[i]?).join
theorem Inv.track {X:Cx} {l3:List (Addr×Obj)} {σ:St} {H:Hp} {s:Shared} {D:Addr} {o:HO} (I:Inv X l3 σ H s) (hn:H D=none) (hs:X.s₀.heap.objs.size≤D) (hL:X.env.locals≠D)
  (hC:∀ x c,X.env.cells.lookup x=some c→c≠D) (hp:∀ p∈X.pn++l3,p.1≠D) (ok:zas X.prog X.w (mh H D o) s.heap D o):Inv X l3 σ (mh H D o) s:=by
 have ne:∀ b u,H b=some u→b≠D:=fun b u e=>zA e hn
 refine⟨I.ok,I.os,I.bare,⟨I.base.keep,I.base.slot,fun b u e n hx=>?_,I.base.there,fun b xs e=>?_,fun b u xs e=>?_,fun b ps e=>?_⟩,I.loc,I.cell,?_,fun x c e=>?_,fun p rQ=>?_,fun b u e=>?_,I.len⟩
 ·have:b≠D:=bz (bw (aK e) hs);rw [zn this];exact I.base.free b u e n hx
 ·have:=I.base.tups b xs e;rw [zn (ne b _ this)];exact this
 ·have:=I.base.frzs b u xs e;rw [zn (ne b _ this)];exact this
 ·obtain⟨more,q⟩:=I.base.tbls b ps e;exact⟨more,by rw [zn (ne b _ q)]; exact q⟩
 ·rw [zn hL];exact I.free
 ·rw [zn (hC x c e)];exact I.freeC x c e
 ·obtain⟨a1,a2,a3⟩:=I.pin p rQ;exact⟨a1,by rw [zn (hp p rQ)]; exact a2,a3⟩
 ·by_cases hb:b=D
  ·subst hb;rw [zc] at e;cases e;exact ok
  ·rw [zn hb] at e;exact (I.hok b u e).stay (fun c v _ q=>q) (fun c q=>by rw [zn (ne c _ q)]; exact q) fun c xs q=>by rw [zn (ne c _ q)]; exact q
def cGo (g:TG) (ts:TT) (te:TE) (σ0:St) (J:It) (Q:VK) (H1:Hp):Prop :=
 ∃ W:Nat→Nat→List V→Hp→Prop,(∃ m,W 0 m [] H1)∧∀ i m ys H,W i m ys H →
  (J.stop i H∧∀ D,H D=none→Q (.ref D) (mh H D (.lst ys))) ∨
  (J.go i H∧∃ N:List V→Hp→Prop,(∀ tY H',N tY H'→∃ m',m' < m∧W (i+1) m' tY H')∧∀ x H',J.yld i H x H'→g x σ0 H' fun σ2 H2=>ts σ2 H2 fun b H3 =>
   if b=true then te σ2 H3 fun y H4=>ys.length < sizeLine∧N (ys++[y]) H4 else N ys H3)
def zpv (ix:List (Option Nat)) (wi:TI) (g:TG) (ts:TT) (te:TE):TE:=fun σ H Q=>wi σ H fun J H1=>cGo g ts te (zdB ix σ) J Q H1
theorem zV {J:It} {n:Nat} {g:TG} {ts:TT} {te:TE} {σ0:St} {Q:VK} {H:Hp} (Pv:Nat→List V→Hp→Prop) (h0:Pv 0 [] H) (Aw:∀ i ys H,i < n→Pv i ys H→J.go i H) (nS:∀ ys H,Pv n ys H→J.stop n H)
  (hs:∀ i x ys H H',i < n→Pv i ys H→J.yld i H x H'→g x σ0 H' fun σ2 H2=>ts σ2 H2 fun b H3=>if b=true then te σ2 H3 fun y H4=>ys.length < sizeLine∧Pv (i+1) (ys++[y]) H4 else Pv (i+1) ys H3)
  (hd:∀ ys H D,Pv n ys H→H D=none→Q (.ref D) (mh H D (.lst ys))):cGo g ts te σ0 J Q H:=by
 refine⟨fun i m ys H=>m=n - i∧i≤n∧Pv i ys H,⟨n,#[M],bm _,h0⟩,?_⟩;rintro i m ys H ⟨rfl,hi,p⟩;by_cases mM:i < n
 ·exact .inr ⟨Aw i ys H mM p,Pv (i+1),fun tY H' p'=>⟨n - (i+1),#[O],rfl,mM,p'⟩,fun x H' y=>hs i x ys H H' mM p y⟩
 ·have e:i=n:=by lia
  subst e;exact .inl ⟨nS ys H p,fun D hD=>hd ys H D p hD⟩
theorem zp9 {J:It} {n:Nat} {g:TG} {tb:TS} {D:Ends} {σ:St} {H:Hp} (Pv:Nat→St→Hp→Prop) (h0:Pv 0 σ H) (Aw:∀ i σ H,i < n→Pv i σ H→J.go i H) (nS:∀ σ H,Pv n σ H→J.stop n H)
  (hs:∀ i x σ H H',i < n→Pv i σ H→J.yld i H x H'→g x σ H' fun σ2 H2=>tb { D with nx:=Pv (i+1),ct:=Pv (i+1),bk:=D.nx } σ2 H2) (hd:∀ σ H,Pv n σ H→D.nx σ H) :
  ∃ W:Nat→Nat→St→Hp→Prop,(∃ m,W 0 m σ H)∧∀ i m σ H,W i m σ H →
   (J.stop i H∧D.nx σ H)∨(J.go i H∧∃ N:St→Hp→Prop,(∀ σ' H',N σ' H'→∃ m',m' < m∧W (i+1) m' σ' H')∧∀ x H',J.yld i H x H'→g x σ H' fun σ2 H2=>tb { D with nx:=N,ct:=N,bk:=D.nx } σ2 H2):=by
 refine⟨fun i m σ H=>m=n - i∧i≤n∧Pv i σ H,⟨n,#[M],bm _,h0⟩,?_⟩;rintro i m σ H ⟨rfl,hi,p⟩;by_cases mM:i < n
 ·exact .inr ⟨Aw i σ H mM p,Pv (i+1),fun σ' H' p'=>⟨n - (i+1),#[O],rfl,mM,p'⟩,fun x H' y=>hs i x σ H H' mM p y⟩
 ·have e:i=n:=by lia
  subst e;exact .inl ⟨nS σ H p,hd σ H p⟩
end L2
end
section
namespace L2
open PySem
abbrev Lp (J:It) (g:TG) (tb:TS) (D:Ends) (σ:St) (H:Hp):Prop:=∃ W:Nat→Nat→St→Hp→Prop,(∃ m,W 0 m σ H)∧∀ i m σ H,W i m σ H→(J.stop i H∧D.nx σ H)∨(J.go i H∧∃ N:St→Hp→Prop,(∀ σ' H',N σ' H'→∃ m',m' < m∧W (i+1) m' σ' H')∧∀ x H',J.yld i H x H'→g x σ H' fun σ2 H2=>tb { D with nx:=N,ct:=N,bk:=D.nx } σ2 H2)
abbrev Ends.l (D:Ends) (Pv:Nat→St→Hp→Prop) (i:Nat):Ends:={ D with nx:=Pv (i+1),ct:=Pv (i+1),bk:=D.nx }
section
variable {g:TG} {tb:TS} {D:Ends} {σ:St} {H:Hp} (Pv:Nat→St→Hp→Prop) {n:Nat} {K:ah} {a:Addr} {xs:List V}
theorem zeF {J:It} (h0:Pv 0 σ H) (Aw:∀ i σ H,i < n→Pv i σ H→J.go i H) (nS:∀ σ H,Pv n σ H→J.stop n H) (hs:let N:=D.l Pv; let T:=tb; ∀ i x σ H H',i < n→Pv i σ H→J.yld i H x H'→g x σ H' (T (N i))) (hd:∀ σ H,Pv n σ H→D.nx σ H):Lp J g tb D σ H:=zp9 Pv h0 Aw nS hs hd
theorem zbq (h0:Pv 0 σ H) (hl:∀ i σ H,i≤xs.length→Pv i σ H→me K H a xs) (hs:let N:=D.l Pv; let T:=tb; ∀ i x σ H,xs[i]? = some x→Pv i σ H→g x σ H (T (N i))) (hd:∀ σ H,Pv xs.length σ H→D.nx σ H):Lp (Itl K a) g tb D σ H:=zl6 Pv h0 hl hs hd
theorem zhN (h0:Pv 0 σ H) (hl:∀ i σ H,i≤xs.length→Pv i σ H→mE K H a xs) (hs:let N:=D.l Pv; let T:=tb; ∀ i x σ H,xs[i]? = some x→Pv i σ H→g x σ H (T (N i))) (hd:∀ σ H,Pv xs.length σ H→D.nx σ H):Lp (Itt K a) g tb D σ H:=zn9 Pv h0 hl hs hd
theorem zaN {lo:Int} (h0:Pv 0 σ H) (hs:let N:=D.l Pv; let T:=tb; ∀ i σ H,i < n→Pv i σ H→g (.int (lo+i)) σ H (T (N i))) (hd:∀ σ H,Pv n σ H→D.nx σ H):Lp (Itr lo n) g tb D σ H:=zkX Pv h0 hs hd
end
end L2
end
section
namespace L2
theorem l5 {α β:Type} {a:β} {f:α→β} {B:α→Prop} {v:α} (h:a=f v) (hb:B v):∃ v,a=f v∧B v:=⟨v,h,hb⟩
theorem mv {α β γ δ:Type} {a:γ} {b:δ} {f:α→γ} {g:β→δ} {B:α→β→Prop} {v:α} {w:β} (h:a=f v) (h':b=g w) (hb:B v w):∃ v w,a=f v∧b=g w∧B v w:=⟨v,w,h,h',hb⟩
theorem ex3 {A0 A1 A2:Type} {P:A0→A1→A2→Prop} (x0:A0) (x1:A1) (x2:A2) (h:P x0 x1 x2):∃ x0 x1 x2,P x0 x1 x2:=⟨x0,x1,x2,h⟩
theorem ex4 {A0 A1 A2 A3:Type} {P:A0→A1→A2→A3→Prop} (x0:A0) (x1:A1) (x2:A2) (x3:A3) (h:P x0 x1 x2 x3):∃ x0 x1 x2 x3,P x0 x1 x2 x3:=⟨x0,x1,x2,x3,h⟩
theorem ex5 {A0 A1 A2 A3 A4:Type} {P:A0→A1→A2→A3→A4→Prop} (x0:A0) (x1:A1) (x2:A2) (x3:A3) (x4:A4) (h:P x0 x1 x2 x3 x4):∃ x0 x1 x2 x3 x4,P x0 x1 x2 x3 x4:=⟨x0,x1,x2,x3,x4,h⟩
theorem ex6 {A0 A1 A2 A3 A4 A5:Type} {P:A0→A1→A2→A3→A4→A5→Prop} (x0:A0) (x1:A1) (x2:A2) (x3:A3) (x4:A4) (x5:A5) (h:P x0 x1 x2 x3 x4 x5):∃ x0 x1 x2 x3 x4 x5,P x0 x1 x2 x3 x4 x5:=⟨x0,x1,x2,x3,x4,x5,h⟩
theorem ex7 {A0 A1 A2 A3 A4 A5 A6:Type} {P:A0→A1→A2→A3→A4→A5→A6→Prop} (x0:A0) (x1:A1) (x2:A2) (x3:A3) (x4:A4) (x5:A5) (x6:A6) (h:P x0 x1 x2 x3 x4 x5 x6):∃ x0 x1 x2 x3 x4 x5 x6,P x0 x1 x2 x3 x4 x5 x6:=⟨x0,x1,x2,x3,x4,x5,x6,h⟩
theorem ex8 {A0 A1 A2 A3 A4 A5 A6 A7:Type} {P:A0→A1→A2→A3→A4→A5→A6→A7→Prop} (x0:A0) (x1:A1) (x2:A2) (x3:A3) (x4:A4) (x5:A5) (x6:A6) (x7:A7) (h:P x0 x1 x2 x3 x4 x5 x6 x7):∃ x0 x1 x2 x3 x4 x5 x6 x7,P x0 x1 x2 x3 x4 x5 x6 x7:=⟨x0,x1,x2,x3,x4,x5,x6,x7,h⟩
theorem ex9 {A0 A1 A2 A3 A4 A5 A6 A7 A8:Type} {P:A0→A1→A2→A3→A4→A5→A6→A7→A8→Prop} (x0:A0) (x1:A1) (x2:A2) (x3:A3) (x4:A4) (x5:A5) (x6:A6) (x7:A7) (x8:A8) (h:P x0 x1 x2 x3 x4 x5 x6 x7 x8):∃ x0 x1 x2 x3 x4 x5 x6 x7 x8,P x0 x1 x2 x3 x4 x5 x6 x7 x8:=⟨x0,x1,x2,x3,x4,x5,x6,x7,x8,h⟩
end L2
end
section
namespace L2
open PySem PySem.Spec PyProof.Rows
abbrev TM:=List V→St→Hp→(List V→Hp→Prop)→Prop
abbrev zeq (mf:List Value) (nn:Nat):Obj:={ cls:=.type "list",data:=.seq mf.toArray nn }
structure AccAt (Y:Cx) (l3:List (Addr×Obj)) (H:Hp) (s:Shared) (D:Addr) (ys:List V) (mf:List Value) (nn:Nat):Prop where
 fp:zb3 Y l3 H D
 here:s.heap.get? D=some (zeq mf nn)
 vals:zS ys mf
 len:ys.length≤sizeLine
def zgO (js:List Nat) (σ:St):Prop:=∀ j∈js,∀ v,σ[j]?≠some (some v)
def Kp (js:List Nat) (σ σ2:St):Prop:=σ2.length=σ.length∧∀ j,j∉js→σ2[j]? = σ[j]?
theorem Kp.refl {js:List Nat} {σ:St}:Kp js σ σ:=⟨rfl,fun _ _=>rfl⟩
theorem Kp.set {js:List Nat} {σ σ2:St} {i:Nat} {v:Option V} (hi:i∈js) (h:Kp js σ σ2):Kp js σ (σ2.set i v):=by
 refine⟨by rw [f9]; exact h.1,fun j hj=>?_⟩;rw [dC (fun z=>hj (by rw [← z]; exact hi))];exact h.2 j hj
def GS (js:List Nat) (g:TG):Prop:=∀ (σ σ1:St) (x:V) (H:Hp) (Q:St→Hp→Prop),Kp js σ σ1→g x σ1 H Q→g x σ1 H fun σ2 H2=>Kp js σ σ2∧Q σ2 H2
def GSs (js:List Nat) (g:TGs):Prop:=∀ (σ σ1:St) (xs:List V) (H:Hp) (Q:St→Hp→Prop),Kp js σ σ1→g xs σ1 H Q→g xs σ1 H fun σ2 H2=>Kp js σ σ2∧Q σ2 H2
theorem zdC {js:List Nat} {i:Nat} (hi:i∈js):GS js (zaZ i):=fun σ σ1 x H Q hw h=>⟨hw.set hi,h⟩
theorem zdD {js:List Nat}:GSs js zi2:=fun σ σ1 xs H Q hw h=>⟨h.1,hw,h.2⟩
theorem zbg {js:List Nat} {i:Nat} {u:TGs} (hi:i∈js) (h2:GSs js u):GSs js (zcb (zaZ i) u):=fun σ σ1 xs H Q hw h=>by
 obtain⟨v,r,e,h⟩:=h;exact⟨v,r,e,h2 σ _ r H Q (hw.set hi) h⟩
theorem ze6 {js:List Nat} {K:ah} {n:Nat} {t:TGs} (h:GSs js t):GS js (zhF K n t):=fun σ σ1 x H Q hw hg=>by
 obtain⟨a,xs,e,hq,hl,hg⟩:=hg;exact⟨a,xs,e,hq,hl,h σ σ1 xs H Q hw hg⟩
theorem Inv.fewer {X:Cx} {l3 qt:List (Addr×Obj)} {σ:St} {H:Hp} {s:Shared} (I:Inv X l3 σ H s) (h:∀ p∈qt,p∈l3):Inv X qt σ H s :=
 I.pins_of fun p hp=>I.pin p (aP _ (h p hp))
section
variable {Y:Cx} {l3:List (Addr×Obj)} {σ:St} {H:Hp} {s:Shared} {D:Addr} {ys:List V} {mf:List Value} {nn:Nat}
theorem AccAt.pin (a:AccAt Y l3 H s D ys mf nn) (I:Inv Y l3 σ H s):Inv Y (l3++[(D,zeq mf nn)]) σ H s :=
 I.pins_of fun p hp=>by
  rcases (aY.mp hp) with hp | hp
  ·exact I.pin p (aP _ hp)
  ·obtain rfl:p=(D,zeq mf nn):=by simpa using hp
   obtain⟨a0,a1,a2,_⟩:=a.fp;exact⟨a.here,a0,a1,a2,fun v z=>by cases z⟩
theorem AccAt.back {qt:List (Addr×Obj)} {σ':St} {H':Hp} {s':Shared} (a:AccAt Y l3 H s D ys mf nn) (I:Inv Y qt σ' H' s') (hm:(D,zeq mf nn)∈qt):AccAt Y l3 H' s' D ys mf nn:=by
 have p:=I.pin (D,zeq mf nn) (aP _ hm);exact⟨⟨p.2.1,a.fp.2⟩,p.1,a.vals,a.len⟩
end
def PM (Y:Cx) (D:Addr) (js:List Nat) (mk:Sem Fin→Sem Fin) (tm:TM):Prop :=
 ∀ (last:Sem Fin) (l3:List (Addr×Obj)) (s:Shared) (σ:St) (H:Hp) (ys:List V) (mf:List Value) (nn:Nat) (Q:List V→Hp→Prop) (Φ:Fin→Shared→Prop),Inv Y l3 σ H s→AccAt Y l3 H s D ys mf nn→zgO js σ→tm ys σ H Q →
  (∀ (s':Shared) (tY:List V) (its':List Value) (Ax:Nat) (H':Hp),Inv Y l3 σ H' s'→AccAt Y l3 H' s' D tY its' Ax→Q tY H'→wpAny (model Y.prog Y.w) Y.A last Φ (fun _ _=>False) s') →
  wpAny (model Y.prog Y.w) Y.A (mk last) Φ (fun _ _=>False) s
def zgj (elt:Expr) (acc:Value) (env:Env) (last:Sem Fin):Sem Fin:=(eval elt env >>= fun x=>call (.builtin "list.append") [acc,x] >>= fun _=>pure ()) >>= fun _=>last
def zjT (e iter:Expr) (d:Nat) (acc:Value) (env:Env) (last:Sem Fin):Sem Fin :=
 eval iter env >>= fun x=>standAt iter.pos >>= fun _=>foldedSetIterable iter env x >>= fun x=>holding [x] (pyIter x) >>= fun Al=>runOwn (.compStart e d Al acc env) env >>= fun _=>last
def zjU (te:TE):TM:=fun ys σ H Q=>te σ H fun y H4=>ys.length < sizeLine∧Q (ys++[y]) H4
def cIn (g:TG) (ts:TT) (tm:TM) (σ:St) (J:It) (Q:List V→Hp→Prop) (ys:List V) (H1:Hp):Prop :=
 ∃ W:Nat→Nat→List V→Hp→Prop,(∃ m,W 0 m ys H1)∧∀ i m ys H,W i m ys H →
  (J.stop i H∧Q ys H) ∨
  (J.go i H∧∃ N:List V→Hp→Prop,(∀ tY H',N tY H'→∃ m',m' < m∧W (i+1) m' tY H')∧∀ x H',J.yld i H x H'→g x σ H' fun σ2 H2=>ts σ2 H2 fun b H3 =>
   if b=true then tm ys σ2 H3 N else N ys H3)
def zjV (wi:TI) (g:TG) (ts:TT) (tm:TM):TM:=fun ys σ H Q=>wi σ H fun J H1=>cIn g ts tm σ J Q ys H1
def zgP (ix:List (Option Nat)) (wi:TI) (g:TG) (ts:TT) (tm:TM):TE:=fun σ H Q=>wi σ H fun J H1=>cIn g ts tm (zdB ix σ) J (fun ys H'=>∀ D,H' D=none→Q (.ref D) (mh H' D (.lst ys))) [] H1
theorem thx {α:Type} {X:Cx} {m:Sem α} {P Q:α→Shared→Prop} {E:Value→Shared→Prop} {s:Shared} (hx:X.xe=fun _ _=>False) (h:wpAny (model X.prog X.w) X.A m P X.xe s) (k:∀ a s',P a s'→Q a s'):wpAny (model X.prog X.w) X.A m Q E s :=
 da h k fun _ _ z=>by rw [hx] at z; exact z.elim
theorem zjc {Y:Cx} {D:Addr} {elt:Expr} {te:TE} (hx:Y.xe=fun _ _=>False) (he:PE Y elt te):PM Y D [] (zgj elt (.ref D) Y.env) (zjU te):=by
 intro last l3 s σ H ys mf nn Q Φ I a no h k;unfold zgj;refine ae (ae (thx hx (he (l3++[(D,zeq mf nn)]) s σ H _ (a.pin I) h) fun yv s1 ⟨y,H1,I1,r1,hz,q1⟩=>ae ?_));have a1:=a.back I1 (aP _ aN);have J1:Inv Y l3 σ H1 s1:=I1.fewer fun p hp=>ba _ hp
 have wL:=a1.vals.length;refine fI kx ⟨_,a1.here,rfl⟩ kf (jQ _ _) (kN D mf.toArray nn yv (by rw [ar]; lia)) ⟨a1.here,?_⟩;refine ao ?_;have q:=k7 a1.here (·.push yv);have k10:∀ b o,b≠D→s1.heap.get? b=some o→(s1.heap.update D (dE (·.push yv))).get? b=some o:=fun b o hb e=>(cH s1.heap (dE (·.push yv)) (dj hb)).trans e
 obtain⟨b0,b1,b2,b3,b4,b5⟩:=a1.fp;have I11:Inv Y l3 σ H1 { s1 with heap:=s1.heap.update D (dE (·.push yv)) }:=J1.turned (t':=s1.toks) k10 b0 b1 b3 b4 b5;have e1:mf.toArray.push yv=(mf++[yv]).toArray:=by simp
 rw [e1] at q;refine k _ (ys++[y]) (mf++[yv]) _ H1 I11 ⟨a1.fp,q,a1.vals.append (.cons r1 .nil),?_⟩ q1;rw [aq,gU];lia
section
variable {Y:Cx} {D:Addr} {js js':List Nat} {elt:Expr} {gens:List Comprehension} {scope:Scope} {pos:Pos} {d:Nat} {tg:Expr} {ifs:List Expr} {p:Pos} {mk:Sem Fin→Sem Fin} {g:TG} {ts:TT} {tm:TM}
def zcu (tg:Expr) (ifs:List Expr) (p:Pos) (mk:Sem Fin→Sem Fin) (c:Code) (it:Value) (env:Env):Sem Fin :=
 standAt p >>= fun _=>pyNext it >>= fun r=>match r with
  | none=>pure (.done .next)
  | some v=>letOwnedTupleGo tg it v >>= fun _=>assign tg env v >>= fun _=>zjb ifs env >>= fun ok=>if ok=true then mk (again c) else again c
theorem zjW (hc:Y.calm=true) (hx:Y.xe=fun _ _=>False) (wM:GS js g) (pV:∀ j∈js,j∉js') (hg:PG Y tg g) (ht:zdA Y ifs ts) (hm:PM Y D js' mk tm)
  (pJ:∀ it,compTurn (.ListComp elt gens scope pos) d it (.ref D) Y.env=zcu tg ifs p mk (.compLoop (.ListComp elt gens scope pos) d it (.ref D) Y.env) it Y.env)
  {l3:List (Addr×Obj)} {σ:St} {H2:Hp} {s2:Shared} {it:Addr} {fp:List Addr} {tn:Nat→Heap→Prop} {J:It} {Q:List V→Hp→Prop} {R:Result→Shared→Prop} {ys:List V} {mf:List Value} {nn:Nat}
  (I2:Inv Y l3 σ H2 s2) (a2:AccAt Y l3 H2 s2 D ys mf nn) (no:zgO (js++js') σ) (T:Turn Y.prog Y.w Y.K tg J fp it tn) (ng:tn 0 s2.heap) (f2:∀ b∈fp,zb3 Y l3 H2 b) (fD:∀ b∈fp,b≠D) (q:cIn g ts tm σ J Q ys H2)
  (hR:∀ (s':Shared) (tY:List V) (its':List Value) (Ax:Nat) (H':Hp),Inv Y l3 σ H' s'→AccAt Y l3 H' s' D tY its' Ax→Q tY H'→R (.ok .next) s') :
  codeAny (model Y.prog Y.w) Y.A (.compLoop (.ListComp elt gens scope pos) d (.ref it) (.ref D) Y.env) R s2:=by
 obtain⟨W,⟨m0,w0⟩,turn⟩:=q;have BK:∀ {H':Hp} {mf:List Value} {nn:Nat},(∀ b∈fp,H' b=none)→∀ b∈fp,zb3 Y (l3++[(D,zeq mf nn)]) H' b:=fun {H' mf nn} hn b hb=>by
  obtain⟨_,a1,a2,a3,a4,a5⟩:=f2 b hb;refine⟨hn b hb,a1,a2,a3,a4,fun p hp=>?_⟩;rcases (aY.mp hp) with hp | hp
  ·exact a5 p (ba _ hp)
  ·rcases (aY.mp hp) with hp | hp
   ·exact a5 p (aP _ hp)
   ·obtain rfl:p=(D,zeq mf nn):=by simpa using hp
    exact (fD b hb).symm
 refine codeAny_loop rfl (fun n s'=>∃ i ys H' mf nn,Inv Y l3 σ H' s'∧tn i s'.heap∧(∀ b∈fp,H' b=none)∧AccAt Y l3 H' s' D ys mf nn∧W i n ys H') ?_ m0
  ⟨0,ys,H2,mf,nn,I2,ng,fun b hb=>(f2 b hb).1,a2,w0⟩
 rintro n s5 ⟨i,ys,H5,mf,nn,I5,BI,fr5,a5,w5⟩;show wpAny _ Y.A ((compTurn (.ListComp elt gens scope pos) d (.ref it) (.ref D) Y.env).onRaise (fun x=>do noteFrame x Y.env; theTreesLotGoes x)) _ _ s5;refine wpAny_noted ?_;rw [pJ];unfold zcu;have I5p:=a5.pin I5
 (refine ae (fQ (ae ?_)))
 rcases turn i n ys H5 w5 with ⟨stop,qn⟩ | ⟨go,N,hN,step⟩
 ·refine da (T.done Y rfl rfl rfl hc i _ s5 _ H5 (fun _ _=>False) I5p (BK fr5) BI stop) (fun r s6 ⟨hr,I6⟩=>?_) fun _ _ z=>z.elim
  subst hr;exact ao (hR s6 ys mf nn H5 (I6.fewer fun p hp=>ba _ hp) (a5.back I6 (aP _ aN)) qn)
 ·refine da (T.item Y rfl rfl rfl hc i _ s5 _ H5 (fun _ _=>False) I5p (BK fr5) BI go) (fun r s6 ⟨u,hr,h6⟩=>?_) fun _ _ z=>z.elim
  subst hr;refine ae (da h6 (fun _ s7 ⟨x,H7,I7,r7,y7,E4,fr7⟩=>?_) fun _ _ z=>z.elim);have I7':=I7.pinned (BK fr7) (T.obj _ _ E4);refine ae (thx hx (hg _ s7 _ H7 x u _ I7' r7 (wM σ σ x H7 _ Kp.refl (step x H7 y7))) fun _ s8 ⟨σ8,H8,I8,kp,q8⟩=>?_);refine ae (thx hx (ht _ s8 σ8 H8 _ I8 q8) fun ok s9 ⟨H9,I9,q9⟩=>?_);have mD:(D,zeq mf nn)∈(l3++[(D,zeq mf nn)])++zcM fp s7.heap:=ba _ (aP _ aN);have a9:=a5.back I9 mD;have K9:Inv Y (l3++zcM fp s7.heap) σ8 H9 s9:=I9.fewer fun p hp=>(aY.mp hp).elim (fun z=>ba _ (ba _ z)) fun z=>aP _ z
  have wk:∀ (j:Nat) v,σ[j]? = some (some v)→σ8[j]? = some (some v):=fun j v e=>by
   have hj:j∉js:=fun z=>no j (ba _ z) v e
   rw [kp.2 j hj];exact e
  have back:∀ {H':Hp} {s':Shared},Inv Y (l3++zcM fp s7.heap) σ8 H' s'→Inv Y l3 σ H' s'∧tn (i+1) s'.heap∧∀ b∈fp,H' b=none:=fun {H' s'} I'=>by
   refine⟨(I'.fewer fun p hp=>ba _ hp).weak kp.1.symm wk,T.keep _ _ _ E4 fun b hb o e=>(I'.pin (b,o) (aP _ (aP _ (zco hb e)))).1,fun b hb=>?_⟩;obtain⟨o,e,d⟩:=T.obj _ _ E4 b hb;exact (I'.pin (b,o) (aP _ (aP _ (zco hb e)))).2.1
  cases ok with
  | false =>
   rw [if_neg aS] at q9 ⊢;obtain⟨m',Cm,w9⟩:=hN _ _ q9;obtain⟨b1,b2,b3⟩:=back K9;exact ao ⟨rfl,m',Cm,i+1,ys,H9,mf,nn,b1,b2,b3,a9,w9⟩
  | true =>
   rw [if_pos rfl] at q9 ⊢;have a9':AccAt Y (l3++zcM fp s7.heap) H9 s9 D ys mf nn:=by
    obtain⟨b0,b1,b2,b3,b4,b5⟩:=a9.fp;refine⟨⟨b0,b1,b2,b3,b4,fun p hp=>?_⟩,a9.here,a9.vals,a9.len⟩;rcases (aY.mp hp) with hp | hp
    ·exact b5 p (ba _ hp)
    ·rcases (aY.mp hp) with hp | hp
     ·exact b5 p (aP _ hp)
     ·exact fD _ (zf9 hp).1
   have no':zgO js' σ8:=fun j hj v e=>by
    have pT:j∉js:=fun z=>pV j z hj
    rw [kp.2 j pT] at e;exact no j (aP _ hj) v e
   refine da (hm (again _) _ s9 σ8 H9 ys mf nn N (fun fin s'=>match fin with | .done f=>R (.ok f) s' | .again c'=>c'=_∧∃ m,m < n∧_) K9 a9' no' q9 fun s' tY its' Ax H' I' a' n'=>?_) (fun _ _ z=>z) fun _ _ z=>z.elim
   obtain⟨m',Cm,w'⟩:=hN _ _ n';obtain⟨b1,b2,b3⟩:=back I';obtain⟨c0,c1,c2,c3,c4,c5⟩:=a'.fp;refine ao ⟨rfl,m',Cm,i+1,tY,H',its',Ax,b1,b2,b3,⟨⟨c0,c1,c2,c3,c4,fun p hp=>?_⟩,a'.here,a'.vals,a'.len⟩,w'⟩;rcases (aY.mp hp) with hp | hp
   ·exact c5 p (ba _ hp)
   ·exact c5 p (aP _ (ba _ hp))
theorem zhO {prog:Program} {w:World} {A:Around} {R:Result→Shared→Prop} {s:Shared} {iter:Expr} {it acc:Value} {env:Env} (hd:gens[d]? = some ⟨tg,iter,ifs,0⟩)
  (h0:codeAny (model prog w) A (.compLoop (.ListComp elt gens scope pos) d it acc env) R s)
  (h:wpAny (model prog w) A (pyIter it) (fun E5 s'=>codeAny (model prog w) A (.compLoop (.ListComp elt gens scope pos) d E5 acc env) R s') (fun _ _=>False) s) :
  codeAny (model prog w) A (.compStart (.ListComp elt gens scope pos) d it acc env) R s:=by
 refine codeAny_of_tree ?_;show wpAny _ _ ((compStart (.ListComp elt gens scope pos) d it acc env).onRaise (fun x=>do noteFrame x env; standAt theWindowsPlace)) _ _ s;refine wpAny_notedAt ?_;unfold compStart;have e1:(clausesOf (.ListComp elt gens scope pos))[d]? = some ⟨tg,iter,ifs,0⟩:=hd;rw [e1]
 (show wpAny _ _ (ask >>= _) _ _ s)
 (refine ae (wpAny_askSetting (wpAny_ite ?_)))
 split
 ·first
   | (exact ae (ao (ao ⟨rfl,h0⟩)))
   | (exact ao ⟨rfl,h0⟩)
 ·first
   | exact ae (cF (ae (fQ (ae (da h (fun E5 s' h'=>ao (And.intro rfl h')) fun _ _ x=>x.elim)))))
   | (refine ae (cF ?_); show wpAny _ _ (standAt iter.pos >>= _) _ _ s; exact ae (fQ (ae (da h (fun E5 s' h'=>ao (And.intro rfl h')) fun _ _ x=>x.elim))))
theorem zqa {iter:Expr} {wi:TI} (hc:Y.calm=true) (hx:Y.xe=fun _ _=>False) (wM:GS js g) (pV:∀ j∈js,j∉js') (hi:PI Y tg iter wi) (hg:PG Y tg g) (ht:zdA Y ifs ts) (hm:PM Y D js' mk tm) (hd:gens[d]? = some ⟨tg,iter,ifs,0⟩)
  (pJ:∀ it,compTurn (.ListComp elt gens scope pos) d it (.ref D) Y.env=zcu tg ifs p mk (.compLoop (.ListComp elt gens scope pos) d it (.ref D) Y.env) it Y.env)
  (hs:∀ x,foldedSetIterable iter Y.env x=pure x:=by intro _; rfl) :
  PM Y D (js++js') (zjT (.ListComp elt gens scope pos) iter d (.ref D) Y.env) (zjV wi g ts tm):=by
 intro last l3 s σ H ys mf nn Q Φ I a no h k;unfold zjT;refine ae (thx hx (hi (l3++[(D,zeq mf nn)]) s σ H _ (a.pin I) h) fun v s1 h1=>ae (fQ (ae ?_)));rw [hs v];refine ao (ae (b7 (thx hx h1 fun Al s2 h2=>?_)));obtain⟨it,fp,tn,J,H2,e,I2,T,ng,f2,q⟩:=h2;subst e;have a2:=a.back I2 (aP _ aN);have J2:Inv Y l3 σ H2 s2:=I2.fewer fun p hp=>ba _ hp
 have E6:∀ b∈fp,zb3 Y l3 H2 b:=fun b hb=>by
  obtain⟨c0,c1,c2,c3,c4,c5⟩:=f2 b hb;refine⟨c0,c1,c2,c3,c4,fun p hp=>?_⟩;rcases (aY.mp hp) with hp | hp
  ·exact c5 p (ba _ hp)
  ·exact c5 p (aP _ (ba _ hp))
 have fD:∀ b∈fp,b≠D:=fun b hb=>((f2 b hb).2.2.2.2.2 (D,zeq mf nn) (aP _ (aP _ aN))).symm
 have loop:codeAny (model Y.prog Y.w) Y.A (.compLoop (.ListComp elt gens scope pos) d (.ref it) (.ref D) Y.env) (fun r s'=>match r with | .ok f=>wpAny (model Y.prog Y.w) Y.A last Φ (fun _ _=>False) s' | .error e=>cameBackBy (model Y.prog Y.w) Y.A Y.env (fun _ _=>False) e s') s2 :=
  zjW hc hx wM pV hg ht hm pJ J2 a2 no T ng E6 fD q fun s' tY its' Ax H' I' a' q'=>k s' tY its' Ax H' I' a' q'
 exact ae (wpAny_runOwn (zhO hd loop (T.self _ 0 _ _ _ ng loop)))
end
section
variable {X:Cx} {elt tg iter:Expr} {ifs:List Expr} {gs:List Comprehension} {scope:Scope} {pos:Pos} {N':List Str} {ix:List (Option Nat)} {js js':List Nat} {g:TG} {ts:TT} {tm:TM} {mk:Addr→Env→Sem Fin→Sem Fin}
theorem zeh {l3:List (Addr×Obj)} {σ:St} {H2:Hp} {s2:Shared} {it:Addr} {fp:List Addr} {tn:Nat→Heap→Prop} {J:It} {Q:VK} {E:Value→Shared→Prop} {RR:Value→Addr→Result→Shared→Prop}
  (SC:CompSc X N' ix scope) (hc:X.calm=true) (wM:GS js g) (pV:∀ j∈js,j∉js') (uO:∀ j∈js++js',ix[j]? = some none)
  (hg:∀ s₃ H₃ ex l3,PG (zM X N' scope s₃ H₃ ex l3) tg g) (ht:∀ s₃ H₃ ex l3,zdA (zM X N' scope s₃ H₃ ex l3) ifs ts) (hm:∀ s₃ H₃ ex l3 D,PM (zM X N' scope s₃ H₃ ex l3) D js' (mk D (zM X N' scope s₃ H₃ ex l3).env) tm)
  (pJ:∀ it D env,compTurn (.ListComp elt (⟨tg,iter,ifs,0⟩ :: gs) scope pos) 0 it (.ref D) env=zcu tg ifs iter.pos (mk D env) (.compLoop (.ListComp elt (⟨tg,iter,ifs,0⟩ :: gs) scope pos) 0 it (.ref D) env) it env)
  (I2:Inv X l3 σ H2 s2) (T:Turn X.prog X.w X.K tg J fp it tn) (ng:tn 0 s2.heap) (f2:∀ b∈fp,zb3 X l3 H2 b) (q:cIn g ts tm (zdB ix σ) J (fun ys H'=>∀ D,H' D=none→Q (.ref D) (mh H' D (.lst ys))) [] H2)
  (hRR:∀ (D C:Addr) (s':Shared) (ys:List V) (H':Hp) (m:Str→Option Value),Inv X l3 σ (mh H' D (.lst ys)) s'→zb3 X l3 (mh H' D (.lst ys)) C→s'.heap.Ns C m→Q (.ref D) (mh H' D (.lst ys))→RR (.ref D) C (.ok .next) s') :
  wpAny (model X.prog X.w) X.A (newList []) (fun acc s₃=>wpAny (model X.prog X.w) X.A (newFunctionEnv scope X.env.globals (zam X.env.cells scope.names []) [] X.env.qual none .none (some X.env)) (fun Cn s₄ =>
   codeAny (model X.prog X.w) X.A (.compStart (.ListComp elt (⟨tg,iter,ifs,0⟩ :: gs) scope pos) 0 (.ref it) acc { Cn with scope:=relabel scope X.env }) (RR acc Cn.locals) s₄) E s₃) E s2:=by
 have wN:∀ y∈scope.names,y.2 = .free→∃ c,X.env.cells.lookup y.1=some c:=fun y hy hf=>I2.ok.has y.1 (SC.free y hy hf)
 have uE:∀ x c,(zam X.env.cells scope.names []).lookup x=some c→X.env.cells.lookup x=some c:=zb5 scope.names [] wN (fun x c e=>by simp at e);refine cL (zk2 ?_);have I3:Inv X l3 σ H2 { s2 with heap:=s2.heap.push { cls:=.type "list",dict:=none,data:=.seq ([]:List Value).toArray } }:=I2.kept (t':=s2.toks) fun b o e=>ai _ e
 have xQ:(s2.heap.push { cls:=.type "list",dict:=none,data:=.seq ([]:List Value).toArray }).get? s2.heap.objs.size=some { cls:=.type "list",dict:=none,data:=.seq ([]:List Value).toArray }:=aG _ rfl;have Cp:tn 0 (s2.heap.push { cls:=.type "list",dict:=none,data:=.seq ([]:List Value).toArray }):=T.keep _ _ _ ng fun b hb o e=>ai _ e
 have Cq:(s2.heap.push { cls:=.type "list",dict:=none,data:=.seq ([]:List Value).toArray }).objs.size=s2.heap.objs.size+1:=bZ _ _;generalize hh3:s2.heap.push { cls:=.type "list",dict:=none,data:=.seq ([]:List Value).toArray }=h3 at *;have E7:=T.obj _ _ ng;have yT:∀ b∈fp,b < s2.heap.objs.size:=fun b hb=>by obtain⟨o,e,_⟩:=E7 b hb; exact aK e
 have stk:∀ b∈frs X.stack,b=X.env.locals∨b∈X.fs:=fun b hb=>aF.mp (I2.stkSub b hb)
 have Cr:zb3 X l3 H2 s2.heap.objs.size:=I2.fpOk (ag _) I2.fresh;have vO:∀ b∈s2.heap.objs.size :: fp,zb3 X l3 H2 b:=fun b hb=>by
  rcases (aF.mp hb) with e | hb
  ·rw [e]; exact Cr
  ·exact f2 b hb
 have Ay:∀ b∈s2.heap.objs.size :: fp,b < h3.objs.size:=fun b hb=>by
  rw [Cq];rcases (aF.mp hb) with e | hb; · rw [e]; exact k8 _
  ·exact fq (yT b hb)
 have yU:∀ b∈s2.heap.objs.size :: fp,b∉frs X.stack:=fun b hb z=>by
  obtain⟨_,a1,a2,_⟩:=vO b hb;rcases stk b z with e | e
  ·exact a1 e
  ·exact a2 e
 have hns₁:(pushCells (h3.push { cls:=.type "dict",data:=.dict #[] }) scope.names).Ns h3.objs.size (fun _=>none):=(Heap.Ns.new h3 (.type "dict")).keeps (pushCells_keeps _ _);have old:∀ b o,h3.get? b=some o→(pushCells (h3.push { cls:=.type "dict",data:=.dict #[] }) scope.names).get? b=some o:=fun b o e=>pushCells_keeps _ _ b o (ai _ e)
 have E8:∀ x c,X.env.cells.lookup x=some c→c < h3.objs.size:=fun x c e=>by
  obtain⟨v,q⟩:=I3.cell x c e;exact q.lt
 have co:CO (pushCells (h3.push { cls:=.type "dict",data:=.dict #[] }) scope.names) (h3.objs.size+1) (zam X.env.cells scope.names []) (cellsFrom (h3.objs.size+1) scope.names (zam X.env.cells scope.names [])):=by
  have:=zmf (lo:=h3.objs.size+1) (old:=zam X.env.cells scope.names []) scope.names (h3.push { cls:=.type "dict",data:=.dict #[] }) (zam X.env.cells scope.names [])
   ⟨fun x c e=>.inr ⟨e,fq (E8 x c (uE x c e))⟩,fun x y c e1 e2=>I2.ok.inj x y c (uE x c e1) (uE y c e2)⟩ (by rw [bZ]; exact ag _)
  rw [bZ] at this;exact this
 generalize pushCells (h3.push { cls:=.type "dict",data:=.dict #[] }) scope.names=h₁ at hns₁ old co ⊢;have E9:∀ {x c},(cellsFrom (h3.objs.size+1) scope.names (zam X.env.cells scope.names [])).lookup x=some c→(h₁.IsCell c none∧h3.objs.size+1≤c)∨X.env.cells.lookup x=some c:=fun {x c} e=>(co.each x c e).elim .inl fun z=>.inr (uE x c z.1)
 have cfr:∀ x,scope.names.lookup x=some .free→(cellsFrom (h3.objs.size+1) scope.names (zam X.env.cells scope.names [])).lookup x=(zam X.env.cells scope.names []).lookup x:=fun x hx=>zgM _ _ _ _ fun z=>by
  have:=SC.cells _ z rfl;rw [hx] at this;cases this
 let s3:Shared:={ s2 with heap:=h3 }
 let Y:Cx:=zM X N' scope s3 H2 (s2.heap.objs.size :: fp) l3
 have wO:Inv X l3 σ H2 s3:=I3;have okY:Y.Ok:=by
  refine⟨I2.ok.mod,SC.kind,I2.ok.glob,I2.ok.blt,ag _,co.inj,fun x hx=>?_,fun x c z e=>?_,I2.ok.hd,I2.ok.frames,.inl rfl,fun b hb=>?_,fun b o e=>wO.bs b o e,?_,fun b o e hb=>?_,yU,wO.stack,wO.stkFree⟩
  ·have vD:=zdz (env:=X.env) (names:=scope.names) (x:=x) hx;rcases vD with vD | vD
   ·obtain⟨c,e⟩:=zct (cs:=X.env.cells) scope.names [] x (.inr (lookup_mem vD));exact⟨c,(cfr x vD).trans e⟩
   ·obtain⟨c,e,_⟩:=zgN scope.names (h3.objs.size+1) (zam X.env.cells scope.names []) x (lookup_mem vD);exact⟨c,e⟩
  ·obtain⟨c',e',l'⟩:=zgN scope.names (h3.objs.size+1) (zam X.env.cells scope.names []) x (lookup_mem (by have z':(scope.names.lookup x == some dn)=true:=z; simpa using z'));have e2:(cellsFrom (h3.objs.size+1) scope.names (zam X.env.cells scope.names [])).lookup x=some c:=e;rw [e'] at e2;cases e2;exact iP l'
  ·refine⟨bz (Ay b hb),fun x c e=>(E9 e).elim (fun z y=>?_) fun z=>(vO b hb).2.2.2.2.1 x c z⟩;subst y;exact cD _ (bw (Ay _ hb) (iP z.2))
  ·exact aT I2.ok.bsz wO.sz
  ·obtain⟨_,_,_,a3,_⟩:=vO b hb;rcases a3 with z | z
   ·exact I2.ok.noex b o e z
   ·have:=(I2.ok.bs b o e).1;exact absurd (bw (aK this) z) (cD _)
 have Fb:Inv Y [] (zdB ix σ) H2 { s3 with heap:=h₁ }:=by
  refine⟨okY,rfl,I2.bare,Un.kept old,⟨_,hns₁,fun j x v e1 e2 e3=>?_⟩,fun x c e=>?_,wO.fresh,fun x c e=>(E9 e).elim (fun z=>wO.hok.fresh (iP z.2)) fun z=>I2.freeC x c z,fun p hp=>?_,wO.hok.kept old,?_⟩
  ·unfold zdB at e2;rw [af] at e2;cases hj:ix[j]? with
   | none=>rw [hj] at e2; simp at e2
   | some oi =>
    rw [hj] at e2;cases oi with
    | none=>simp at e2
    | some i =>
     obtain⟨y,h1,h2,DZ⟩:=SC.cap j i hj;have hxy:y=x:=by
      have e1':N'[j]? = some x:=e1;rw [h1] at e1';exact aV e1'
     subst hxy;have Cs:(σ[i]?).join=some v:=by simpa using e2
     have Fc:σ[i]? = some (some v):=by
      cases hs:σ[i]? with
      | none=>rw [hs] at Cs; simp at Cs
      | some w=>rw [hs] at Cs; simp at Cs; rw [Cs]
     obtain⟨m,hn,hl⟩:=wO.loc;have hk:=SC.free (y,.free) (lookup_mem DZ) rfl;have Fd:Vis X.env.scope y:=hk.elim (fun z=>.inr (.inl z)) fun z=>.inr (.inr z)
     obtain⟨u,r,l⟩:=hl i y v h2 Fc Fd;refine⟨u,r,.inr ⟨zbI DZ,?_⟩⟩;obtain⟨c,ni⟩:=zct (cs:=X.env.cells) scope.names [] y (.inr (lookup_mem DZ));refine⟨c,(cfr y DZ).trans ni,?_⟩;rcases l with ⟨vN,_⟩ | ⟨_,c',mC,qu⟩
     ·rcases hk with hk | hk
      ·have rR:X.env.kindOf y=some .cell:=hk;rw [rR] at vN; cases vN
      ·have rR:X.env.kindOf y=some .free:=hk;rw [rR] at vN; cases vN
     ·have:=uE y c ni;rw [mC] at this;cases this;obtain⟨o,ho,hd⟩:=qu;exact⟨o,old _ _ ho,hd⟩
  ·rcases E9 e with z | z
   ·exact⟨_,z.1⟩
   ·obtain⟨v,o,ho,hd⟩:=wO.cell x c z;exact⟨v,o,old _ _ ho,hd⟩
  ·have rQ:p∈X.pn++l3:=by
    have:p∈(X.pn++l3)++([]:List (Addr×Obj)):=hp;simpa using this
   obtain⟨a1,a2,a3,a4,a5⟩:=wO.pin p rQ;exact⟨old _ _ a1,a2,bz (aK a1),fun z=>(stk _ z).elim a3 a4,a5⟩
  ·unfold zdB;rw [ab];exact SC.len.symm
 have BK:∀ {H':Hp},(∀ b∈s2.heap.objs.size :: fp,H' b=none)→∀ b∈s2.heap.objs.size :: fp,zb3 Y [] H' b:=fun {H'} hn b hb=>by
  obtain⟨_,a1,a2,a3,a4,a5⟩:=vO b hb;refine⟨hn b hb,bz (Ay b hb),yU b hb,.inl hb,(okY.exf b hb).2,fun p hp=>?_⟩;have:p∈(X.pn++l3)++([]:List (Addr×Obj)):=hp;exact a5 p (by simpa using this)
 have nn2:∀ b∈s2.heap.objs.size :: fp,H2 b=none:=fun b hb=>(vO b hb).1
 have Ao:zgO (js++js') (zdB ix σ):=fun j hj v e=>by
  unfold zdB at e;rw [af,uO j hj] at e;simp at e
 have loop:∀ s₅:Shared,s₅ = { s2 with heap:=h₁ } →
   codeAny (model X.prog X.w) X.A (.compLoop (.ListComp elt (⟨tg,iter,ifs,0⟩ :: gs) scope pos) 0 (.ref it) (.ref s2.heap.objs.size) (compEnvC scope (cellsFrom (h3.objs.size+1) scope.names (zam X.env.cells scope.names [])) h3.objs.size X.env)) (RR (.ref s2.heap.objs.size) h3.objs.size) s₅:=by
  rintro s₅ rfl;refine zjW (Y:=Y) (l3:=[]) (σ:=zdB ix σ) (mf:=[]) (nn:=0) hc rfl wM pV (hg s3 H2 _ l3) (ht s3 H2 _ l3) (hm s3 H2 _ l3 s2.heap.objs.size) (fun it=>pJ it _ _) Fb ⟨BK nn2 _ aN,old _ _ xQ,.nil,bm _⟩ Ao T (T.keep _ _ _ Cp fun b hb o e=>old b o e)
   (fun b hb=>BK nn2 b (aD _ hb)) (fun b hb=>bz (yT b hb)) q fun s6 ys mf nn H5 I6 a6 qn=>?_
  have dn5:H5 s2.heap.objs.size=none:=a6.fp.1;have I7:Inv X l3 σ H5 s6:=by
   refine wO.call' (s':=s6) (ch:=s2.heap.objs.size :: fp) I6.os I6.base I6.hok I6.bare fun b hb=>?_
   obtain⟨_,a1,a2,a3,a4,a5⟩:=vO b hb;exact⟨a3,a1,a4,a5⟩
  have I8:Inv X l3 σ (mh H5 s2.heap.objs.size (.lst ys)) s6:=by
   obtain⟨_,a1,a2,a3,a4,a5⟩:=Cr;exact I7.track dn5 I2.sz (dj a1) a4 a5 ⟨a6.len,mf,nn,a6.vals,a6.here⟩
  obtain⟨mm,hmm,_⟩:=I6.loc;have dne:h3.objs.size≠s2.heap.objs.size:=by rw [Cq]; exact i6 _
  refine hRR _ _ s6 ys H5 mm I8 (wO.fpOk (H':=mh H5 s2.heap.objs.size (.lst ys)) (ag _) ?_) hmm (qn _ dn5);show mh H5 s2.heap.objs.size (.lst ys) h3.objs.size=none;rw [zn dne];exact I6.free
 exact zhO rfl (loop _ rfl) (T.self _ 0 _ _ _ (T.keep _ _ _ Cp fun b hb o e=>old b o e) (loop _ rfl))
theorem zhP {wi:TI} (SC:CompSc X N' ix scope) (hc:X.calm=true) (wM:GS js g) (pV:∀ j∈js,j∉js') (uO:∀ j∈js++js',ix[j]? = some none) (hi:PI X tg iter wi)
  (hg:∀ s₃ H₃ ex l3,PG (zM X N' scope s₃ H₃ ex l3) tg g) (ht:∀ s₃ H₃ ex l3,zdA (zM X N' scope s₃ H₃ ex l3) ifs ts) (hm:∀ s₃ H₃ ex l3 D,PM (zM X N' scope s₃ H₃ ex l3) D js' (mk D (zM X N' scope s₃ H₃ ex l3).env) tm)
  (pJ:∀ it D env,compTurn (.ListComp elt (⟨tg,iter,ifs,0⟩ :: gs) scope pos) 0 it (.ref D) env=zcu tg ifs iter.pos (mk D env) (.compLoop (.ListComp elt (⟨tg,iter,ifs,0⟩ :: gs) scope pos) 0 it (.ref D) env) it env)
  (hs:∀ x,foldedSetIterable iter X.env x=pure x:=by intro _; rfl):PE X (.ListComp elt (⟨tg,iter,ifs,0⟩ :: gs) scope pos) (zgP ix wi g ts tm):=by
 intro l3 s σ H Q I h;rw [eval_ListComp];have wN:∀ y∈scope.names,y.2 = .free→∃ c,X.env.cells.lookup y.1=some c:=fun y hy hf=>I.ok.has y.1 (SC.free y hy hf)
 refine i7 (use:=none) rfl hs (zdi wN) SC.kind SC.names (thn (hi l3 s σ H _ I h) fun v s1 h1=>thn h1 fun Al s2 h2=>?_);obtain⟨it,fp,tn,J,H2,e,I2,T,ng,f2,q⟩:=h2;subst e;refine zeh (RR:=fun acc C=>compPost (model X.prog X.w) X.A X.xe none (EP X l3 σ Q) acc C) SC hc wM pV uO hg ht hm pJ I2 T ng f2 q ?_;intro D C s' ys H' m I' Fe hm q';refine⟨m,hm,fun xR oV=>⟨.ref D,_,?_,rfl,q'⟩⟩;obtain⟨f0,f1,E6,f3,f4,f5⟩:=Fe;exact I'.turned (t':=s'.toks) (fun b o hb e=>oV.extBut b o hb e) f0 f1 f3 f4 f5
theorem zei {wi:TI} {i:Nat} {x:Str} {pos' qL:Pos} (hN:X.N.Nodup) (yd:X.N[i]? = some x) (hx:Loc X.env.scope x) (SC:CompSc X N' ix scope) (hc:X.calm=true) (wM:GS js g) (pV:∀ j∈js,j∉js') (uO:∀ j∈js++js',ix[j]? = some none) (hi:PI X tg iter wi)
  (hg:∀ s₃ H₃ ex l3,PG (zM X N' scope s₃ H₃ ex l3) tg g) (ht:∀ s₃ H₃ ex l3,zdA (zM X N' scope s₃ H₃ ex l3) ifs ts) (hm:∀ s₃ H₃ ex l3 D,PM (zM X N' scope s₃ H₃ ex l3) D js' (mk D (zM X N' scope s₃ H₃ ex l3).env) tm)
  (pJ:∀ it D env,compTurn (.ListComp elt (⟨tg,iter,ifs,0⟩ :: gs) scope pos) 0 it (.ref D) env=zcu tg ifs iter.pos (mk D env) (.compLoop (.ListComp elt (⟨tg,iter,ifs,0⟩ :: gs) scope pos) 0 it (.ref D) env) it env)
  (Ct:swapsWith (.ListComp elt (⟨tg,iter,ifs,0⟩ :: gs) scope pos) (some (.Name x pos')) qL.line X.env=pure true:=by rfl)
  (hs:∀ x,foldedSetIterable iter X.env x=pure x:=by intro _; rfl) (hf:X.fn x=true∨X.env.scope.names.lookup x=some .local:=by first | exact .inl rfl | exact .inr rfl | assumption) :
  PS X (.Assign [.Name x pos'] (.ListComp elt (⟨tg,iter,ifs,0⟩ :: gs) scope pos) qL) (zi3 (zgP ix wi g ts tm) (zaZ i)):=by
 intro l3 s σ H D I h;have wN:∀ y∈scope.names,y.2 = .free→∃ c,X.env.cells.lookup y.1=some c:=fun y hy hf=>I.ok.has y.1 (SC.free y hy hf)
 rw [exec_Assign_Name_used _ _ _ _ Ct]; refine ae (fQ (ae ?_));show wpAny _ X.A (do let _ ← comprehension (.ListComp elt (⟨tg,iter,ifs,0⟩ :: gs) scope pos) scope X.env _ (newList []) false (eval iter X.env) (some (assign (.Name x pos') X.env))) _ _ s;refine ae (da (i7 (use:=some (assign (.Name x pos') X.env)) (Q:=fun _ s'=>SP X l3 D .next s') rfl hs (zdi wN) SC.kind SC.names
  (thn (hi l3 s σ H _ I h) fun v s1 h1=>thn h1 fun Al s2 h2=>?_)) (fun _ s' hq=>ao (ao hq)) fun _ _ e=>e)
 obtain⟨it,fp,tn,J,H2,e,I2,T,ng,f2,q⟩:=h2;subst e;refine zeh (Q:=fun x H1=>zaZ i x σ H1 D.nx) (RR:=fun acc C=>compPost (model X.prog X.w) X.A X.xe (some (assign (.Name x pos') X.env)) (fun _ s'=>SP X l3 D .next s') acc C) SC hc wM pV uO hg ht hm pJ I2 T ng f2 q ?_;intro Da C s' ys H' m I' Fe hm q';show wpAny _ X.A (assign (.Name x pos') X.env (.ref Da)) _ _ _;refine wpAny_assign_Name (zf5 I' hN yd hx (show RelV (.ref Da) (.ref Da) from rfl) (fun Ci I'' ⟨a,n6,ha⟩=>?_) hf);obtain⟨f0,f1,E6,f3,f4,f5⟩:=Fe;have hCa:C≠a:=by
  rcases ha with e | e
  ·rw [e]; exact f1
  ·exact dj (f4 x a e)
 refine⟨m,hm.sameBut n6 hCa,fun h₃ hs₃=>⟨_,_,?_,q'⟩⟩;exact I''.turned (t':=Ci.toks) (fun b o hb e=>hs₃.extBut b o hb e) f0 f1 f3 f4 f5
end
theorem zmg {elt t1 i1 t2 i2:Expr} {f1 f2:List Expr} {scope:Scope} {pos:Pos} (it:Value) (D:Addr) (env:Env):compTurn (.ListComp elt [⟨t1,i1,f1,0⟩,⟨t2,i2,f2,0⟩] scope pos) 0 it (.ref D) env =
  zcu t1 f1 i1.pos (zjT (.ListComp elt [⟨t1,i1,f1,0⟩,⟨t2,i2,f2,0⟩] scope pos) i2 1 (.ref D) env) (.compLoop (.ListComp elt [⟨t1,i1,f1,0⟩,⟨t2,i2,f2,0⟩] scope pos) 0 it (.ref D) env) it env:=by rfl
theorem zqb {elt t1 i1 t2 i2:Expr} {f1 f2:List Expr} {scope:Scope} {pos:Pos} (it:Value) (D:Addr) (env:Env):compTurn (.ListComp elt [⟨t1,i1,f1,0⟩,⟨t2,i2,f2,0⟩] scope pos) 1 it (.ref D) env =
  zcu t2 f2 i2.pos (zgj elt (.ref D) env) (.compLoop (.ListComp elt [⟨t1,i1,f1,0⟩,⟨t2,i2,f2,0⟩] scope pos) 1 it (.ref D) env) it env:=by rfl
def zd3 (ix:List (Option Nat)):List Nat:=(av ix.length).filter fun j=>ix[j]? == some none
theorem zcv {ix:List (Option Nat)} {i:Nat}:i∈zd3 ix↔ix[i]? = some none:=by
 unfold zd3;rw [bv,aZ,beq_iff_eq];exact⟨fun h=>h.2,fun h=>⟨(au.mp h).1,h⟩⟩
def GK (ix:List (Option Nat)) (g:TG):Prop:=GS (zd3 ix) g
def GKs (ix:List (Option Nat)) (g:TGs):Prop:=GSs (zd3 ix) g
theorem zae {ix:List (Option Nat)} {i:Nat} (hi:ix[i]? = some none):GK ix (zaZ i):=zdC (zcv.2 hi)
theorem zar {ix:List (Option Nat)}:GKs ix zi2:=zdD
theorem zy {ix:List (Option Nat)} {i:Nat} {u:TGs} (hi:ix[i]? = some none) (h2:GKs ix u):GKs ix (zcb (zaZ i) u):=zbg (zcv.2 hi) h2
theorem zaL {ix:List (Option Nat)} {K:ah} {n:Nat} {t:TGs} (h:GKs ix t):GK ix (zhF K n t):=ze6 h
theorem zk3 {ix:List (Option Nat)} {g:TG} {u:TGs} (h1:GK ix g) (h2:GKs ix u) (mono:∀ (x:V) (σ:St) (H:Hp) (Q Q':St→Hp→Prop),(∀ σ' H',Q σ' H'→Q' σ' H')→g x σ H Q→g x σ H Q'):GKs ix (zcb g u):=fun σ σ1 xs H Q hw h=>by
 obtain⟨v,r,e,h⟩:=h;refine⟨v,r,e,mono v σ1 H _ _ (fun σ' H' q=>?_) (h1 σ σ1 v H _ hw h)⟩;exact h2 σ σ' r H' Q q.1 q.2
theorem zpw {elt t1 i1:Expr} {f1:List Expr} {scope:Scope} {pos:Pos} (it:Value) (D:Addr) (env:Env):compTurn (.ListComp elt [⟨t1,i1,f1,0⟩] scope pos) 0 it (.ref D) env =
  zcu t1 f1 i1.pos (zgj elt (.ref D) env) (.compLoop (.ListComp elt [⟨t1,i1,f1,0⟩] scope pos) 0 it (.ref D) env) it env:=by rfl
section
variable {X:Cx} {elt tg iter:Expr} {ifs:List Expr} {scope:Scope} {pos:Pos} {N':List Str} {ix:List (Option Nat)} {g:TG} {ts:TT} {te:TE}
theorem zO {wi:TI} (SC:CompSc X N' ix scope) (hc:X.calm=true) (hk:GK ix g) (hi:PI X tg iter wi)
  (hg:∀ s₃ H₃ ex l3,PG (zM X N' scope s₃ H₃ ex l3) tg g) (ht:∀ s₃ H₃ ex l3,zdA (zM X N' scope s₃ H₃ ex l3) ifs ts) (he:∀ s₃ H₃ ex l3,PE (zM X N' scope s₃ H₃ ex l3) elt te)
  (hs:∀ x,foldedSetIterable iter X.env x=pure x:=by intro _; rfl):PE X (.ListComp elt [⟨tg,iter,ifs,0⟩] scope pos) (zpv ix wi g ts te) :=
 zhP (mk:=fun D env=>zgj elt (.ref D) env) (js:=zd3 ix) (js':=[]) SC hc hk (fun _ _ h=>nomatch h) (fun j h=>zcv.1 (by simpa using h)) hi hg ht (fun s₃ H₃ ex l3 D=>zjc rfl (he s₃ H₃ ex l3)) (fun _ _ _=>zpw _ _ _) hs
theorem zaO {wi:TI} {i:Nat} {x:Str} {pos' qL:Pos} (hN:X.N.Nodup) (yd:X.N[i]? = some x) (hx:Loc X.env.scope x) (SC:CompSc X N' ix scope) (hc:X.calm=true) (hk:GK ix g) (hi:PI X tg iter wi)
  (hg:∀ s₃ H₃ ex l3,PG (zM X N' scope s₃ H₃ ex l3) tg g) (ht:∀ s₃ H₃ ex l3,zdA (zM X N' scope s₃ H₃ ex l3) ifs ts) (he:∀ s₃ H₃ ex l3,PE (zM X N' scope s₃ H₃ ex l3) elt te)
  (Ct:swapsWith (.ListComp elt [⟨tg,iter,ifs,0⟩] scope pos) (some (.Name x pos')) qL.line X.env=pure true:=by rfl)
  (hs:∀ x,foldedSetIterable iter X.env x=pure x:=by intro _; rfl) (hf:X.fn x=true∨X.env.scope.names.lookup x=some .local:=by first | exact .inl rfl | exact .inr rfl | assumption) :
  PS X (.Assign [.Name x pos'] (.ListComp elt [⟨tg,iter,ifs,0⟩] scope pos) qL) (zi3 (zpv ix wi g ts te) (zaZ i)) :=
 zei (mk:=fun D env=>zgj elt (.ref D) env) (js:=zd3 ix) (js':=[]) hN yd hx SC hc hk (fun _ _ h=>nomatch h) (fun j h=>zcv.1 (by simpa using h)) hi hg ht (fun s₃ H₃ ex l3 D=>zjc rfl (he s₃ H₃ ex l3)) (fun _ _ _=>zpw _ _ _) Ct hs hf
end
section
variable {X:Cx} {l3:List (Addr×Obj)} {σ:St} {H:Hp} {s:Shared} {h':Heap}
theorem Inv.turnedL {t':Nat} {ch:List Addr} (I:Inv X l3 σ H s) (k:∀ b o,b∉ch→s.heap.get? b=some o→h'.get? b=some o) (hf:∀ b∈ch,zb3 X l3 H b)
  (th:∀ b∈ch,∃ o,h'.get? b=some o):Inv X l3 σ H { s with heap:=h',toks:=t' }:=by
 have tW:∀ b u,H b=some u→b∉ch:=fun b u e z=>by rw [(hf b z).1] at e; cases e
 refine I.step (g':=s.gens) (d':=s.drawn) (ch:=ch) (fun b hb=>?_) (fun b o _ _ hc e _=>k b o hc e) (fun b o _ _ hc e _=>⟨o.slots,k b o hc e⟩) (fun _ _ _ _ n=>n)
  (fun b o hc e=>⟨o,k b o hc e⟩) (fun _ _ e=>e) (fun _ _ _ e=>e) (fun b ps e=>⟨#[],by rw [e]; simp⟩) (fun m hm=>?_) (fun b u e=>?_) I.bare
 ·obtain⟨_,a1,_,a3,a4,a5⟩:=hf b hb;exact⟨a3,a1,a4,a5⟩
 ·obtain⟨o,es,ep,ho,r⟩:=hm;exact⟨o,es,ep,k _ o (fun z=>(hf _ z).2.1 rfl) ho,r⟩
 ·refine (I.hok b u e).stay (fun c v hc q=>k c v ?_ q) (fun _ q=>q) fun _ _ q=>q
  rcases hc with z | z
  ·rw [z]; exact tW b u e
  ·exact tW c _ z
theorem Inv.turnedNew {t':Nat} {ch:List Addr} {T:Addr} {o:HO} (I:Inv X l3 σ H s) (k:∀ b o,b∉ch→s.heap.get? b=some o→h'.get? b=some o) (hf:∀ b∈ch,zb3 X l3 H b)
  (th:∀ b∈ch,∃ o,h'.get? b=some o) (hT:s.heap.objs.size≤T) (ok:zas X.prog X.w (mh H T o) h' T o):Inv X l3 σ (mh H T o) { s with heap:=h',toks:=t' }:=by
 have I1:Inv X l3 σ H { s with heap:=h',toks:=t' }:=I.turnedL k hf th;have hn:H T=none:=I.hok.fresh hT;obtain⟨_,a1,a2,a3,a4,a5⟩:=I.fpOk (H':=H) hT hn;exact I1.track hn (aT I.sz hT) (dj a1) a4 a5 ok
end
def zqc (Sq:Hp→Addr→List V→Prop) (a:Addr):It :=
 ⟨fun i H=>∃ xs x,Sq H a xs∧xs[i]? = some x,fun i H x H'=>∃ T v,H T=none∧x = .ref T∧H'=mh H T (.tup [.int i,v])∧∀ xs,Sq H a xs→xs[i]? = some v,fun i H=>∃ xs,Sq H a xs∧xs.length≤i⟩
theorem zbQ {h:Heap} {T:Addr} {a b:Value} (e:h.get? T=some { cls:=.type "tuple",data:=.seq #[a,b] }):IsTup h T ([a,b]:List Value).toArray:=⟨_,e,rfl,_,rfl⟩
theorem zaP:2≤sizeLine:=by rw [bf]; decide
theorem zjd {P:Program} {w:World} {K:ah} {es:List Expr} {k:Nat} {pos:Pos} (a it e:Addr) (hei:e≠it):Turn P w K (.Tuple es k pos) (zqc (me K) a) [e,it] e (fun i h=>(∃ old,IsEnum h e it i old)∧h.IsListIter it a i) where
 mem:=by simp
 obj:=fun i h st b hb=>by
  obtain⟨⟨old,he⟩,o,ho,hc,hd⟩:=st;rcases aF.mp hb with z | z
  ·subst z;exact⟨_,he,fun v z=>by cases z⟩
  ·have z:b=it:=by simpa using z
   subst z;exact⟨o,ho,fun v z=>by rw [hd] at z; cases z⟩
 keep:=fun i h h' st kk=>⟨st.1.imp fun old he=>kk e #[M] _ he,st.2.at fun o eo=>kk it #[M] o eo⟩
 item:=by
  intro X hP hw hK hc i l3 s σ H E I hf st hg;subst hP hw hK;obtain⟨xs,x,hq,hx⟩:=hg;obtain⟨⟨old,he⟩,hit⟩:=st;obtain⟨mf,rv,p,hz⟩:=I.list hq;obtain⟨u,hu,ru⟩:=rv.get hx;have xa:e < s.heap.objs.size:=aK he;have hits:it < s.heap.objs.size:=by obtain⟨o,ho,_⟩:=hit; exact aK ho
  refine wpAny_pyNext_enum_item he hit p.isList (x:=u) (by simpa using hu) hei fun h' vK uP hT hsz kk=>?_
  have k1:∀ b o,b∉[e,it]→s.heap.get? b=some o→h'.get? b=some o:=fun b o hb eo=>kk b o (fun z=>hb (by simp [z])) (fun z=>hb (by simp [z])) eo
  have Az:∀ b∈[e,it],∃ o,h'.get? b=some o:=fun b hb=>by
   rcases aF.mp hb with z | z
   ·subst z; exact⟨_,vK⟩
   ·have z:b=it:=by simpa using z
    subst z;obtain⟨o,eo,_⟩:=uP;exact⟨o,eo⟩
  have I1:Inv X l3 σ (mh H s.heap.objs.size (.tup [.int i,x])) { s with heap:=h',toks:=s.toks+1 } :=
   I.turnedNew k1 hf Az (ag _) ⟨zaP,_,.cons ⟨s.toks,rfl⟩ (.cons ru .nil),zbQ hT⟩
  refine⟨_,rfl,iH vK fun xR uQ oV=>?_⟩;have fr:∀ b∈[e,it],mh H s.heap.objs.size (.tup [.int i,x]) b=none:=fun b hb=>by
   have mM:b < s.heap.objs.size:=by
    rcases aF.mp hb with z | z
    ·subst z; exact xa
    ·have z:b=it:=by simpa using z
     subst z; exact hits
   rw [zn (bz mM)];exact (hf b hb).1
  have I2:Inv X l3 σ (mh H s.heap.objs.size (.tup [.int i,x])) { s with heap:=xR,toks:=s.toks+1 } :=
   Inv.turnedL (s:={ s with heap:=h',toks:=s.toks+1 }) (ch:=[e]) (t':=s.toks+1) I1 (fun b o hb eo=>oV.extBut b o (by simpa using hb) eo) (fun b hb=>by
    have z:b=e:=by simpa using hb
    subst z;exact⟨fr b #[M],(hf b #[M]).2⟩) (fun b hb=>by
    have z:b=e:=by simpa using hb
    subst z;exact⟨_,uQ⟩)
  refine⟨.ref s.heap.objs.size,_,I2,rfl,⟨_,x,I.fresh,rfl,rfl,fun ys hy=>by rw [I.list_inj hy hq]; exact hx⟩,⟨⟨_,by simpa using uQ⟩,uP.extBut oV.extBut (dj hei)⟩,fr⟩
 done:=by
  intro X hP hw hK hc i l3 s σ H E I hf st hg;subst hP hw hK;obtain⟨xs,hq,hx⟩:=hg;obtain⟨⟨old,he⟩,hit⟩:=st;obtain⟨mf,rv,p,hz⟩:=I.list hq;have hl:=rv.length;obtain⟨f0,f1,f2,f3,f4,f5⟩:=hf it #[M];exact wpAny_pyNext_enum_end (I.ok.hd hc) he hit p.isList (by simp; lia) fun h' eb=>⟨rfl,I.turned (t':=s.toks) (fun b o hb e=>eb b o hb e) f0 f1 f3 f4 f5⟩
 self:=fun _ _ _ _ _ st h=>by
  obtain⟨⟨old,he⟩,_⟩:=st;exact gC he h
def iEn (Sq:Hp→Addr→List V→Prop) (ta:TA):TI:=fun σ H R=>ta σ H fun vs H1=>∃ a xs,vs = [.ref a]∧Sq H1 a xs∧R (zqc Sq a) H1
theorem zcN {X:Cx} {es:List Expr} {k:Nat} {pW p pos:Pos} {a:Expr} {ta:TA} (hg:Gl X "enumerate") (hm:X.mg "enumerate" = none) (ha:PA X [a] ta) (hs:starEach [a] X.env = [(false,eval a X.env)]:=by rfl) :
  PI X (.Tuple es k pW) (.Call (.Name "enumerate" p) [a] [] pos) (iEn (me X.K) ta):=by
 intro l3 s σ H R I h;refine Call_ (zbe I hg hm boot_enumerate (bA (thn (ha pos l3 s σ H _ I h) fun us s1 ⟨vs,H1,I1,r1,q1⟩=>?_) hs rfl));obtain⟨l,xs,e,hq,q⟩:=q1;subst e;cases r1 with
 | cons r rr =>
  cases rr;cases r;obtain⟨mf,rv,pl,hz⟩:=I1.list hq;refine call_enumerate_list pl.isList fun h' he hi hsz kk=>?_
  have I2:Inv X l3 σ H1 { s1 with heap:=h' }:=I1.kept (t':=s1.toks) kk;refine gC he ?_; refine⟨_,[s1.heap.objs.size+1,s1.heap.objs.size],_,zqc (me X.K) l,H1,rfl,I2,zjd l s1.heap.objs.size (s1.heap.objs.size+1) (i6 _),⟨⟨_,he⟩,hi⟩,fun b hb=>?_,q⟩;have hle:s1.heap.objs.size≤b:=by
   rcases aF.mp hb with z | z
   ·rw [z]; exact gH _
   ·have z:b=s1.heap.objs.size:=by simpa using z
    rw [z]; exact ag _
  exact I1.fpOk hle (I1.hok.fresh hle)
def zk4 (sy sC:Hp→Addr→List V→Prop) (a b:Addr):It :=
 ⟨fun i H=>∃ xs ys x y,sy H a xs∧sC H b ys∧xs[i]? = some x∧ys[i]? = some y,
  fun i H x H'=>∃ T u v,H T=none∧x = .ref T∧H'=mh H T (.tup [u,v])∧(∀ xs,sy H a xs→xs[i]? = some u)∧∀ ys,sC H b ys→ys[i]? = some v,
  fun i H=>∃ xs ys,sy H a xs∧sC H b ys∧(xs.length≤i∨ys.length≤i)⟩
theorem zk5 {P:Program} {w:World} {K:ah} {es:List Expr} {k:Nat} {pos:Pos} (a b:Addr) (n:Nat) (ha:a < n) (hb:b < n):Turn P w K (.Tuple es k pos) (zk4 (me K) (me K) a b) [n+4,n+2,n+3,n,n+1] (n+4)
  (fun i h=>IsZip h (n+4) (n+2) (n+3) .none∧IsPair h (n+2) (.ref n) (.ref (n+1))∧(∃ u v,IsPair h (n+3) u v)∧h.IsListIter n a i∧h.IsListIter (n+1) b i) where
 mem:=by simp
 obj:=fun i h st c hc=>by
  obtain⟨h1,h2,⟨u,v,h3⟩,⟨o4,e4,_,d4⟩,⟨o5,e5,_,d5⟩⟩:=st;simp only [aF,be,or_false] at hc;rcases hc with z | z | z | z | z <;> subst z
  ·exact⟨_,h1,fun v z=>by cases z⟩
  ·exact⟨_,h2,fun v z=>by cases z⟩
  ·exact⟨_,h3,fun v z=>by cases z⟩
  ·exact⟨_,e4,fun v z=>by rw [d4] at z; cases z⟩
  ·exact⟨_,e5,fun v z=>by rw [d5] at z; cases z⟩
 keep:=fun i h h' st kk=>by
  obtain⟨h1,h2,⟨u,v,h3⟩,h4,h5⟩:=st;exact⟨kk _ #[M] _ h1,kk _ #[M] _ h2,⟨u,v,kk _ #[M] _ h3⟩,h4.at fun o eo=>kk _ #[M] o eo,h5.at fun o eo=>kk _ #[M] o eo⟩
 item:=by
  intro X hP hw hK hc i l3 s σ H E I hf st hg;subst hP hw hK;obtain⟨xs,ys,x,y,pX,oC,hx,hy⟩:=hg;obtain⟨h1,h2,⟨u0,v0,h3⟩,h4,h5⟩:=st;obtain⟨mZ,sE,p1,rK⟩:=I.list pX;obtain⟨mT,sP,p2,uF⟩:=I.list oC;obtain⟨u,hu,ru⟩:=sE.get hx;obtain⟨v,hv,rv⟩:=sP.get hy;have hzs:n+4 < s.heap.objs.size:=aK h1;refine wpAny_pyNext_zip_item (dF ha hb) h1 h2 h3 h4 h5 p1.isList p2.isList (x:=u) (y:=v) (by simpa using hu) (by simpa using hv) fun h' a1 a2 a3 a4 a5 a6 kk=>?_
  have k1:∀ c o,c∉[n+4,n+3,n,n+1]→s.heap.get? c=some o→h'.get? c=some o:=fun c o mC eo =>
   kk c o (fun z=>mC (by simp [z])) (fun z=>mC (by simp [z])) (fun z=>mC (by simp [z])) (fun z=>mC (by simp [z])) eo
  have sub:∀ c∈[n+4,n+3,n,n+1],c∈[n+4,n+2,n+3,n,n+1]:=fun c mC=>by
   simp only [aF,be,or_false] at mC ⊢;rcases mC with z | z | z | z <;> subst z <;> simp
  have Az:∀ c∈[n+4,n+3,n,n+1],∃ o,h'.get? c=some o:=fun c mC=>by
   simp only [aF,be,or_false] at mC;rcases mC with z | z | z | z <;> subst z
   ·exact⟨_,a1⟩
   ·exact⟨_,a2⟩
   ·obtain⟨o,e,_⟩:=a3; exact⟨o,e⟩
   ·obtain⟨o,e,_⟩:=a4; exact⟨o,e⟩
  have I1:Inv X l3 σ (mh H s.heap.objs.size (.tup [x,y])) { s with heap:=h' } :=
   I.turnedNew (t':=s.toks) k1 (fun c mC=>hf c (sub c mC)) Az (ag _) ⟨zaP,_,.cons ru (.cons rv .nil),zbQ a5⟩
  refine⟨_,rfl,wpAny_letOwnedTupleGo_zip a1 fun xR xb oV=>?_⟩;have fr:∀ c∈[n+4,n+2,n+3,n,n+1],mh H s.heap.objs.size (.tup [x,y]) c=none:=fun c mC=>by
   have mM:c < s.heap.objs.size:=by
    simp only [aF,be,or_false] at mC;rcases mC with z | z | z | z | z <;> subst z <;> lia
   rw [zn (bz mM)];exact (hf c mC).1
  have I2:Inv X l3 σ (mh H s.heap.objs.size (.tup [x,y])) { s with heap:=xR } :=
   Inv.turnedL (s:={ s with heap:=h' }) (ch:=[n+4]) (t':=s.toks) I1 (fun c o mC eo=>oV.extBut c o (by simpa using mC) eo) (fun c mC=>by
    have z:c=n+4:=by simpa using mC
    subst z;exact⟨fr _ #[M],(hf _ #[M]).2⟩) (fun c mC=>by
    have z:c=n+4:=by simpa using mC
    subst z;exact⟨_,xb⟩)
  refine⟨.ref s.heap.objs.size,_,I2,rfl,⟨_,x,y,I.fresh,rfl,rfl,fun zs hz=>by rw [I.list_inj hz pX]; exact hx,fun zs hz=>by rw [I.list_inj hz oC]; exact hy⟩,
   ⟨xb,oV.extBut _ _ (dF ha hb).TIz (kk _ _ (dF ha hb).TIz (dF ha hb).TITO (dF ha hb).TIi1 (dF ha hb).TIi2 h2),⟨_,_,oV.extBut _ _ (dF ha hb).TOz a2⟩,a3.extBut oV.extBut (dF ha hb).i1z,a4.extBut oV.extBut (dF ha hb).i2z⟩,fr⟩
 done:=by
  intro X hP hw hK hc i l3 s σ H E I hf st hg;subst hP hw hK;obtain⟨xs,ys,pX,oC,hx⟩:=hg;obtain⟨h1,h2,⟨u0,v0,h3⟩,h4,h5⟩:=st;obtain⟨mZ,sE,p1,rK⟩:=I.list pX;obtain⟨mT,sP,p2,uF⟩:=I.list oC;have vP:=sE.length;have qJ:=sP.length;refine wpAny_pyNext_zip_end (I.ok.hd hc) (dF ha hb) h1 h2 h3 h4 h5 p1.isList p2.isList ?_ fun h' kk=>⟨rfl,?_⟩
  ·rcases hx with z | z
   ·exact .inl (by simp; lia)
   ·exact .inr (by simp; lia)
  ·have hth:∀ c∈[n+4,n+3,n,n+1],c∈[n+4,n+2,n+3,n,n+1]:=fun c mC=>by
    simp only [aF,be,or_false] at mC ⊢;rcases mC with z | z | z | z <;> subst z <;> simp
   refine I.step (g':=s.gens) (d':=s.drawn) (t':=s.toks) (ch:=[n+4,n+3,n,n+1]) (fun c mC=>?_) (fun c o _ _ ni e _=>kk c o (fun z=>ni (by simp [z])) (fun z=>ni (by simp [z])) (fun z=>ni (by simp [z])) (fun z=>ni (by simp [z])) e)
    (fun c o _ _ ni e _=>⟨o.slots,kk c o (fun z=>ni (by simp [z])) (fun z=>ni (by simp [z])) (fun z=>ni (by simp [z])) (fun z=>ni (by simp [z])) e⟩) (fun _ _ _ _ n=>n)
    (fun c o ni e=>⟨o,kk c o (fun z=>ni (by simp [z])) (fun z=>ni (by simp [z])) (fun z=>ni (by simp [z])) (fun z=>ni (by simp [z])) e⟩) (fun _ _ e=>e) (fun _ _ _ e=>e) (fun c ps e=>⟨#[],by rw [e]; simp⟩) (fun m hm=>?_) (fun c u e=>?_) I.bare
   ·obtain⟨_,a1,_,a3,a4,a5⟩:=hf c (hth c mC);exact⟨a3,a1,a4,a5⟩
   ·obtain⟨o,wK,ep,ho,r⟩:=hm;have ne:∀ c∈[n+4,n+2,n+3,n,n+1],X.env.locals≠c:=fun c mC=>dj (hf c mC).2.1
    exact⟨o,wK,ep,kk _ o (ne _ #[M]) (ne _ #[M]) (ne _ #[M]) (ne _ #[M]) ho,r⟩
   ·have tW:∀ d u',H d=some u'→∀ c∈[n+4,n+2,n+3,n,n+1],d≠c:=fun d u' e' c mC z=>by rw [z,(hf c mC).1] at e'; cases e'
    refine (I.hok c u e).stay (fun d v' hd q=>kk d v' ?_ ?_ ?_ ?_ q) (fun _ q=>q) fun _ _ q=>q
    all_goals
     rcases hd with z | z
     ·rw [z]; exact tW c u e _ #[M]
     ·exact tW d _ z _ #[M]
 self:=fun _ _ _ _ _ st h=>gK st.1 h
def iZp (sy sC:Hp→Addr→List V→Prop) (ta:TA):TI:=fun σ H R=>ta σ H fun vs H1=>∃ a b xs ys,vs = [.ref a,.ref b]∧sy H1 a xs∧sC H1 b ys∧R (zk4 sy sC a b) H1
theorem zdE {X:Cx} {es:List Expr} {k:Nat} {pW p pos:Pos} {a b:Expr} {ta:TA} (hg:Gl X "zip") (hm:X.mg "zip" = none) (ha:PA X [a,b] ta) (hs:starEach [a,b] X.env = [(false,eval a X.env),(false,eval b X.env)]:=by rfl) (oU:starEach [b] X.env = [(false,eval b X.env)]:=by rfl) :
  PI X (.Tuple es k pW) (.Call (.Name "zip" p) [a,b] [] pos) (iZp (me X.K) (me X.K) ta):=by
 intro l3 s σ H R I h;refine Call_ (zbe I hg hm k9 (bA (thn (ha pos l3 s σ H _ I h) fun us s1 ⟨vs,H1,I1,r1,q1⟩=>?_) (by rw [hs,oU]) (by rw [oU]; rfl)));obtain⟨l1,l2,xs,ys,e,pX,oC,q⟩:=q1;subst e;cases r1 with
 | cons r rr =>
  cases rr with
  | cons r' rr =>
   cases rr;cases r;cases r';obtain⟨mZ,sE,xc,rK⟩:=I1.list pX;obtain⟨mT,sP,xS,uF⟩:=I1.list oC;have qC:l1 < s1.heap.objs.size:=by obtain⟨_,_,e,_⟩:=xc; exact aK e
   have qD:l2 < s1.heap.objs.size:=by obtain⟨_,_,e,_⟩:=xS; exact aK e
   refine call_zip_2 xc.isList xS.isList fun h' b1 b2 b3 b4 b5 b6 kk=>?_
   have I2:Inv X l3 σ H1 { s1 with heap:=h' }:=I1.kept (t':=s1.toks) kk;refine gK b1 ?_;refine⟨_,_,_,zk4 (me X.K) (me X.K) l1 l2,H1,rfl,I2,zk5 l1 l2 s1.heap.objs.size qC qD,⟨b1,b2,⟨_,_,b3⟩,b4,b5⟩,fun c hc=>?_,q⟩;have hle:s1.heap.objs.size≤c:=by
    simp only [aF,be,or_false] at hc;rcases hc with z | z | z | z | z <;> subst z <;> lia
   exact I1.fpOk hle (I1.hok.fresh hle)
def zhQ (Sq:Hp→Addr→List V→Prop) (a:Addr) (n:Nat):It :=
 ⟨fun i H=>i < n∧∃ xs,Sq H a xs∧xs.length=n,fun i H x H'=>H'=H∧∀ xs,Sq H a xs→xs[n - 1 - i]? = some x,fun i H=>n≤i⟩
theorem zk6 {P:Program} {w:World} {K:ah} {tg:Expr} (a it:Addr) (n:Nat):Turn P w K tg (zhQ (me K) a n) [it] it (fun i h=>i≤n∧h.IsRevIter it a ((n:Int) - 1 - (i:Int))) where
 mem:=by simp
 obj:=fun i h st b hb=>by
  have z:b=it:=by simpa using hb
  subst z;obtain⟨_,o,e,c,d⟩:=st;exact⟨o,e,fun v z=>by rw [d] at z; cases z⟩
 keep:=fun i h h' st k=>⟨st.1,st.2.at fun o e=>k it #[M] o e⟩
 item:=by
  intro X hP hw hK hc i l3 s σ H E I hf st hg;subst hP hw hK;obtain⟨tU,xs,hq,hl⟩:=hg;obtain⟨mf,rv,p,hz⟩:=I.list hq;have mB:=rv.length;obtain⟨x,hx⟩:∃ x,xs[n - 1 - i]? = some x:=⟨xs[n - 1 - i]'#[O],#[M]⟩;obtain⟨u,hu,ru⟩:=rv.get hx;obtain⟨f0,f1,f2,f3,f4,f5⟩:=hf it #[M];have e:(n:Int) - 1 - (i:Int)=((n - 1 - i:Nat):Int):=by lia
  have hit:=st.2;rw [e] at hit;refine wpAny_pyNext_rev_item hit p.isList (x:=u) (by simpa using hu) fun h' mj sb=>?_
  have I1:Inv X l3 σ H { s with heap:=h' }:=I.turned (t':=s.toks) (fun b o hb e=>(sb.2 b hb).trans e) f0 f1 f3 f4 f5;have e2:((n - 1 - i:Nat):Int) - 1=(n:Int) - 1 - ((i+1:Nat):Int):=by lia
  rw [e2] at mj;obtain⟨o,eo,c,d⟩:=id mj;exact⟨u,rfl,ze0 (s:={ s with heap:=h' }) eo c d #[D] ⟨x,H,I1,ru,⟨rfl,fun ys hy=>by rw [I.list_inj hy hq]; exact hx⟩,⟨tU,mj⟩,fun b hb=>(hf b hb).1⟩⟩
 done:=by
  intro X hP hw hK hc i l3 s σ H E I hf st hg;subst hP hw hK;obtain⟨f0,f1,f2,f3,f4,f5⟩:=hf it #[M];have tU:n≤i:=hg;have e:(n:Int) - 1 - (i:Int) = -1:=by have:=st.1; lia
  have hit:=st.2;rw [e] at hit;exact wpAny_pyNext_rev_end (I.ok.hd hc) hit fun h' eb=>⟨rfl,I.turned (t':=s.toks) (fun b o hb e=>eb b o hb e) f0 f1 f3 f4 f5⟩
 self:=fun _ _ _ _ _ st h=>jR st.2 h
end L2
end
section
namespace PySem
namespace F
theorem zgk:Manifest.owners.lookup (String.ofList ['d','e','s','r','e','v','e','r'].reverse)=some Manifest.sig_reversed:=by kernel_rfl
theorem slot_rvd_next:Slot "reversed" "__next__" "reversed.__next__" :=
 .of (owner:="reversed") (n:="__next__") (by rw [eA,c6]; kernel_rfl) #[N] #[N] #[N] (by first | exact .inl #[N] | exact .inr #[N]) (by rw [gp]; kernel_rfl)
theorem entry_rvd_next:entryFor table "reversed.__next__" = some Builtin.«reversed.__next__»:=entryFor_of_tree (by kernel_rfl)
theorem args_rvd_next_1 (a:Value):argsOk "reversed.__next__" ⟨[a],[]⟩:=by
 unfold argsOk; rw [signature?_of (id:="reversed.__next__") (n:=['_','_','t','x','e','n','_','_']) (o:=['d','e','s','r','e','v','e','r']) (by kernel_rfl) zgk]; kernel_rfl
theorem slot_rvd_iter:Slot "reversed" "__iter__" "reversed.__iter__" :=
 .of (owner:="reversed") (n:="__iter__") (by rw [eA,c6]; kernel_rfl) #[N] #[N] #[N] (by first | exact .inl #[N] | exact .inr #[N]) (by rw [gp]; kernel_rfl)
theorem args_rvd_iter_1 (a:Value):argsOk "reversed.__iter__" ⟨[a],[]⟩:=by
 unfold argsOk; rw [signature?_of (id:="reversed.__iter__") (n:=['_','_','r','e','t','i','_','_']) (o:=['d','e','s','r','e','v','e','r']) (by kernel_rfl) zgk]; kernel_rfl
theorem entry_rvd_iter:entryFor table "reversed.__iter__" = some Builtin.«dict_keyiterator.__iter__»:=entryFor_alias (id':="dict_keyiterator.__iter__") (by kernel_rfl) (by first | rfl | decide +kernel | (unfold String.splitOn; simp +decide [String.splitOnAux])) #[N] (by kernel_rfl)
theorem zfS:Slot "reversed" "__init__" "object.__init__":=.of (owner:="object") (n:="__init__") (by rw [eA,c6]; kernel_rfl) #[N] #[N] #[N] (by first | exact .inl #[N] | exact .inr #[N]) (by rw [gp]; kernel_rfl)
theorem called_rvd:TypeCalled "reversed" "reversed.__new__" "object.__init__" :=
 ⟨#[N],#[N],⟨_,_,mro_reversed⟩,made_reversed,#[N],by rw [gp]; kernel_rfl,zfS⟩
theorem noRev_tuple:typeLookup (.type "tuple") "__reversed__" = pure none:=by rw [eA,c6]; kernel_rfl
end F
def zgQ (l:Addr) (i:Int):Obj:={ cls:=.type "reversed",data:=.fields #[.ref l,rawInt i] }
def Heap.IsRvd (h:Heap) (a l:Addr) (i:Int):Prop:=∃ o,h.get? a=some o∧o.cls = .type "reversed"∧o.data = .fields #[.ref l,rawInt i]
theorem Heap.IsRvd.typeIs {s:Shared} {a l:Addr} {i:Int} (x:s.heap.IsRvd a l i):s.TypeIs (.ref a) "reversed":=let ⟨o,ho,hc,_⟩:=x; ⟨o,ho,hc⟩
theorem Heap.IsRvd.at {h h':Heap} {a l:Addr} {i:Int} (x:h.IsRvd a l i) (e:∀ o,h.get? a=some o→h'.get? a=some o):h'.IsRvd a l i:=let ⟨o,ho,r⟩:=x; ⟨o,e _ ho,r⟩
open PyProof.Rows in
theorem zfT (l:Addr) (items:Array Value) :
  Meets (Builtin.«reversed.__new__» ⟨[.type "reversed",.ref l],[]⟩) (fun _ R s=>IsTup s.heap l items∧(items.size:Int) < 2 ^ 63 ∧
   R (.ok (.ret (.ref s.heap.objs.size))) { s with heap:=s.heap.push (zgQ l ((items.size:Int) - 1)),toks:=s.toks+1+1 }) :=
 .of_wp fun prog w A R s h=>by
  obtain⟨hl,hsz,h⟩:=h;unfold Builtin.«reversed.__new__»; refine ae (cA (newClass_reversed _) ?_)
  try dsimp only
  iterate 2 refine ae (cA (a:=()) (by first | rfl | kernel_rfl) ?_)
  try dsimp only
  refine ae (g7 hl.typeIs F.noRev_tuple ?_)
  try dsimp only
  refine ae (ae (m:=isInstance (.ref l) (.type "dict")) (fL hl.typeIs F.sub_tuple_dict ?_));simp only [br,if_false]; refine ae (m:=specialOf (.ref l) "__getitem__") (g7 hl.typeIs slot_tuple_getitem.lookup ?_);refine ao ?_
  try dsimp only
  try simp only [Bool.not_true,br,if_false]
  refine ae (len_tuple hl hsz ?_);refine ae (m:=asInt? _) (cA (a:=some (items.size:Int)) rfl ?_)
  try dsimp only
  refine ae (m:=lL _ _) ?_;show wpAny _ _ (newObj (.type "reversed") (.fields #[.ref l,rawInt ((items.size:Int) - 1)]) none) _ _ _;refine cL ?_;exact ao ⟨_,rfl,h⟩
section
variable {prog:Program} {w:World} {A:Around} {E:Value→Shared→Prop} {s:Shared}
open PyProof.Rows
theorem ze7 {l:Addr} {items:Array Value} {Q:Value→Shared→Prop} (hl:IsTup s.heap l items) (hsz:(items.size:Int) < 2 ^ 63)
  (h:Q (.ref s.heap.objs.size) { s with heap:=s.heap.push (zgQ l ((items.size:Int) - 1)),toks:=s.toks+1+1 }):wpAny (model prog w) A (call (.type "reversed") [.ref l]) Q E s:=by
 refine kB F.called_rvd #[D] (jF _) (jS _) (fun obj=>jT obj _) jU (zfT l items) ⟨hl,hsz,?_⟩; exact⟨⟨_,aG _ rfl,rfl⟩,h⟩
theorem zcL {it l:Addr} {i:Nat} {items:Array Value} {x:Value} {Q:Option Value→Shared→Prop} (hit:s.heap.IsRvd it l (i:Int)) (hl:IsTup s.heap l items) (hx:items[i]? = some x) (hi:(i:Int) < 2 ^ 62)
  (hQ:∀ h',h'.IsRvd it l ((i:Int) - 1)→bF it s.heap h'→Q (some x) { s with heap:=h',toks:=s.toks+1 }):wpAny (model prog w) A (pyNext (.ref it)) Q E s:=by
 obtain⟨o,ho,hc,hd⟩:=id hit; unfold pyNext;refine ae (dq (bJ (name:=bK "__next__") hit.typeIs F.slot_rvd_next
  (bO F.slot_rvd_next hit.typeIs F.entry_rvd_next ?_ (F.args_rvd_next_1 _))))
 unfold Builtin.«reversed.__next__»;refine ae (cA (a:=(bd it,[])) rfl ?_); try dsimp only
 refine ae (bM ho hd (x:=.ref l) rfl ?_); refine ae (bM ho hd (x:=rawInt (i:Int)) rfl ?_);show wpAny _ _ (if (i:Int) < 0 then _ else _) _ _ s; rw [if_neg #[O]];refine ae (g7 hl.typeIs slot_tuple_getitem.lookup ?_)
 try simp only [Option.isNone_some,br,if_false]
 refine ae (wpAny_mkInt ?_); have mM:i < items.size:=by
  obtain⟨h1,_⟩:=dt.mp hx;exact h1
 refine ae (dq (getItem_tuple (j:=i) hl #[O] #[O] (by rw [iq #[O] #[O]]; simp) hx ?_))
 try dsimp only
 refine ae (bM (s:={ s with toks:=s.toks+1 }) ho hd (x:=rawInt (i:Int)) rfl ?_);show wpAny _ _ (setField (.ref it) 1 (rawInt ((i:Int) - 1)) >>= _) _ _ _;refine ae (eI (s:={ s with toks:=s.toks+1 }) ho hd #[M] (ao ⟨x,rfl,ao (hQ _ ?_ (dk ..))⟩));exact⟨_,cZ _ ho (fw (dz hd _)),(iQ ..).trans hc,by rw [dz hd]; simp⟩
theorem zcO {it l:Addr} {Q:Option Value→Shared→Prop} (hh:A.handled=none) (hit:s.heap.IsRvd it l (-1)) (hQ:∀ h',kT it s.heap h'→Q none { s with heap:=h' }):wpAny (model prog w) A (pyNext (.ref it)) Q E s:=by
 obtain⟨o,ho,hc,hd⟩:=id hit; unfold pyNext;refine ae (dq (bJ (name:=bK "__next__") hit.typeIs F.slot_rvd_next
  (bO F.slot_rvd_next hit.typeIs F.entry_rvd_next ?_ (F.args_rvd_next_1 _))))
 unfold Builtin.«reversed.__next__»;refine ae (cA (a:=(bd it,[])) rfl ?_); try dsimp only
 refine ae (bM ho hd (x:=.ref l) rfl ?_); refine ae (bM ho hd (x:=rawInt (-1)) rfl ?_);show wpAny _ _ (if (-1:Int) < 0 then _ else _) _ _ s; rw [if_pos #[D]];refine ae (cF ?_);refine ae (ae (m:=setField (.ref it) 1 (rawInt (-1))) (eI ho hd #[M] ?_));have hd2:=dz hd (·.setIfInBounds 1 (rawInt (-1)));have vA:=cZ (iI (·.setIfInBounds 1 (rawInt (-1)))) ho (fw hd2);refine eI vA hd2 #[M] ?_
 try dsimp only
 refine ae ?_; show wpAny _ _ (newExc (.type "StopIteration") [] >>= _) _ _ _;refine ae ?_;simp only [newExc,newTuple];refine ae (cL ?_ (by size_fits)); refine ae (m:=firstArgMember _ _) (cA (a:=dm) (by first | rfl | (simp only [firstArgMember]; rfl)) ?_);refine cL ?_ (by size_fits); simp only [raiseNew];refine ae (j5 ?_); first | rw [show A.in1.handled=none from hh] | rw [hh]
 refine ae (ao (kU ?_)); refine ae (fL (T:="StopIteration") (b:=true) ⟨_,aG _ rfl,rfl⟩ ij ?_);exact ao (hQ _ ((((dk ..).extBut.trans (dk ..).extBut).push _).push _))
theorem zcc {it l:Addr} {i:Int} {Q:Value→Shared→Prop} (hit:s.heap.IsRvd it l i) (h:Q (.ref it) s):wpAny (model prog w) A (pyIter (.ref it)) Q E s:=by
 refine iR hit.typeIs F.slot_rvd_iter (bO F.slot_rvd_iter hit.typeIs F.entry_rvd_iter ?_ (F.args_rvd_iter_1 _));show wpAny _ _ (ret (.ref it)) _ _ s; exact ao ⟨_,rfl,"reversed",_,hit.typeIs,F.slot_rvd_next.lookup,h⟩
end
section
variable {prog:Program} {w:World} {A:Around} {E:Value→Shared→Prop} {s:Shared}
theorem zhR {it t:Addr} {i:Nat} {items:Array Value} {x:Value} {Q:Value→Shared→Prop} (hit:s.heap.IsTupleIter it t i) (ht:s.heap.IsTuple t items) (hx:items[i]? = some x)
  (hQ:∀ h',h'.IsTupleIter it t (i+1)→bF it s.heap h'→Q x { s with heap:=h' }):wpAny (model prog w) A (bp (.ref it)) Q E s:=by
 obtain⟨o,ho,hc,hd⟩:=id hit; obtain⟨ot,Ff,_,nt,Fg⟩:=ht;unfold bp; refine ae (bJ (name:=bK "__next__") hit.typeIs eC (bO eC hit.typeIs iA ?_ (ik _)));show wpAny _ _ (field (.ref it) 0 >>= _) _ _ s; refine ae (bM ho hd (x:=.ref t) rfl ?_); show wpAny _ _ (if (bd t == dm)=true then _ else _) _ _ _; rw [if_neg (by exact aS)];refine ae (bM ho hd (x:=.int _ 0) rfl ?_); refine ae (m:=seqItems? _) (cN Ff Fg ?_); simp only [bC,hx];have hn:=cZ (iI (·.setIfInBounds 1 (rawInt ((i+1:Nat):Int)))) ho (fw (dz hd _));refine ae (eI ho hd #[M] (ao ⟨x,rfl,ao (hQ _ ⟨_,hn,(iQ ..).trans hc,?_⟩ (dk ..))⟩)); rw [dz hd]; simp [rawInt]
theorem zhS {it t:Addr} {i:Nat} {items:Array Value} {Q:Value→Shared→Prop} (hh:A.handled=none) (hit:s.heap.IsTupleIter it t i) (ht:s.heap.IsTuple t items) (hx:items[i]? = none)
  (hE:∀ h' e,kT it s.heap h'→(∃ o,h'.get? e=some o∧o.cls = .type "StopIteration")→E (.ref e) { s with heap:=h' }):wpAny (model prog w) A (bp (.ref it)) Q E s:=by
 obtain⟨o,ho,hc,hd⟩:=id hit; obtain⟨ot,Ff,_,nt,Fg⟩:=ht;unfold bp; refine ae (bJ (name:=bK "__next__") hit.typeIs eC (bO eC hit.typeIs iA ?_ (ik _)));show wpAny _ _ (field (.ref it) 0 >>= _) _ _ s; refine ae (bM ho hd (x:=.ref t) rfl ?_); show wpAny _ _ (if (bd t == dm)=true then _ else _) _ _ _; rw [if_neg (by exact aS)];refine ae (bM ho hd (x:=.int _ 0) rfl ?_); refine ae (m:=seqItems? _) (cN Ff Fg ?_); simp only [bC,hx];refine ae (cF (ae (eI ho hd #[M] ?_))); show wpAny _ _ (newExc (.type "StopIteration") [] >>= _) _ _ _; refine ae ?_;simp only [newExc,newTuple]; refine ae (cL ?_ (by size_fits)); refine ae (m:=firstArgMember _ _) (cA (a:=dm) (by first | rfl | (simp only [firstArgMember]; rfl)) ?_);refine cL ?_ (by size_fits); simp only [raiseNew]; refine ae (j5 ?_); first | rw [show A.in1.handled=none from hh] | rw [hh]
 refine ae (ao (kU ?_)); exact hE _ _ (((dk ..).extBut.push _).push _) ⟨_,aG _ rfl,rfl⟩
end
theorem Draws.tuple {prog:Program} {w:World} {A:Around} (hh:A.handled=none) (it t:Addr) (mV:t≠it) (items:Array Value):Draws prog w A it [it,t] items.size (fun i v=>items[i]? = some v) (fun i h=>h.IsTupleIter it t i∧h.IsTuple t items) where
 live:=fun i h st=>st.1.imp fun o r=>r.1
 frame:=fun i h h' st kk=>⟨st.1.at fun o=>kk it #[M] o,st.2.at fun o=>kk t #[M] o⟩
 item:=fun i s Q E hi st hQ=>zhR st.1 st.2 (x:=items[i]) (by simp [hi]) fun h' a b=>hQ _ h' s.toks (by simp [hi]) ⟨a,st.2.extBut b.extBut mV⟩ b
 done:=fun s Q E st hE=>zhS hh st.1 st.2 #[M] hE
def zcH (t:Addr):Obj:={ cls:=.type "tuple_iterator",data:=.fields #[.ref t,.int 0 0] }
def zmh (it:Addr):Obj:={ cls:=.type "enumerate",data:=.fields #[.none,.bool false,.ref it,rawInt 0,.none,.none] }
end PySem
namespace L2
open PySem PySem.Spec PyProof.Rows
theorem zk7 {P:Program} {w:World} {K:ah} {tg:Expr} (a it:Addr) (n:Nat):Turn P w K tg (zhQ (mE K) a n) [it] it (fun i h=>i≤n∧h.IsRvd it a ((n:Int) - 1 - (i:Int))) where
 mem:=by simp
 obj:=fun i h st b hb=>by
  have z:b=it:=by simpa using hb
  subst z;obtain⟨_,o,e,c,d⟩:=st;exact⟨o,e,fun v z=>by rw [d] at z; cases z⟩
 keep:=fun i h h' st k=>⟨st.1,st.2.at fun o e=>k it #[M] o e⟩
 item:=by
  intro X hP hw hK hc i l3 s σ H E I hf st hg;subst hP hw hK;obtain⟨tU,xs,hq,hl⟩:=hg;obtain⟨mf,rv,p,hz⟩:=I.tuple hq;have mB:=rv.length;have pf:=bf;obtain⟨x,hx⟩:∃ x,xs[n - 1 - i]? = some x:=⟨xs[n - 1 - i]'#[O],#[M]⟩;obtain⟨u,hu,ru⟩:=rv.get hx;obtain⟨f0,f1,f2,f3,f4,f5⟩:=hf it #[M];have e:(n:Int) - 1 - (i:Int)=((n - 1 - i:Nat):Int):=by lia
  have hit:=st.2;rw [e] at hit;refine zcL hit p (x:=u) (by simpa using hu) #[O] fun h' mj sb=>?_
  have I1:Inv X l3 σ H { s with heap:=h',toks:=s.toks+1 }:=I.turned (t':=s.toks+1) (fun b o hb e=>(sb.2 b hb).trans e) f0 f1 f3 f4 f5;have e2:((n - 1 - i:Nat):Int) - 1=(n:Int) - 1 - ((i+1:Nat):Int):=by lia
  rw [e2] at mj;obtain⟨o,eo,c,d⟩:=id mj;exact⟨u,rfl,ze0 (s:={ s with heap:=h',toks:=s.toks+1 }) eo c d #[D] ⟨x,H,I1,ru,⟨rfl,fun ys hy=>by rw [I.tuple_inj hy hq]; exact hx⟩,⟨tU,mj⟩,fun b hb=>(hf b hb).1⟩⟩
 done:=by
  intro X hP hw hK hc i l3 s σ H E I hf st hg;subst hP hw hK;obtain⟨f0,f1,f2,f3,f4,f5⟩:=hf it #[M];have tU:n≤i:=hg;have e:(n:Int) - 1 - (i:Int) = -1:=by have:=st.1; lia
  have hit:=st.2;rw [e] at hit;exact zcO (I.ok.hd hc) hit fun h' eb=>⟨rfl,I.turned (t':=s.toks) (fun b o hb e=>eb b o hb e) f0 f1 f3 f4 f5⟩
 self:=fun _ _ _ _ _ st h=>zcc st.2 h
theorem zgR {X:Cx} {tg:Expr} {l3:List (Addr×Obj)} {σ:St} {H1:Hp} {s1:Shared} {R:It→Hp→Prop} {l:Addr} {xs:List V} (I1:Inv X l3 σ H1 s1) (hq:mE X.K H1 l xs) (q:R (zhQ (mE X.K) l xs.length) H1) :
  wpAny (model X.prog X.w) X.A (call (.type "reversed") [.ref l]) (fun v s2=>wpAny (model X.prog X.w) X.A (pyIter v) (PIE X l3 σ tg R) X.xe s2) X.xe s1:=by
 obtain⟨mf,rv,pl,hz⟩:=I1.tuple hq;have mB:=rv.length;have pf:=bf;refine ze7 pl (by rw [ar]; lia) ?_;have I2:Inv X l3 σ H1 { s1 with heap:=s1.heap.push (zgQ l ((mf.toArray.size:Int) - 1)),toks:=s1.toks+1+1 }:=I1.kept fun b o e=>ai _ e
 have hr:(s1.heap.push (zgQ l ((mf.toArray.size:Int) - 1))).IsRvd s1.heap.objs.size l ((xs.length:Int) - 1 - ((0:Nat):Int)):=by
  refine⟨_,aG _ rfl,rfl,?_⟩;have e1:(mf.toArray.size:Int) - 1=(xs.length:Int) - 1 - ((0:Nat):Int):=by rw [ar,mB]; lia
  show jr #[.ref l,rawInt ((mf.toArray.size:Int) - 1)]=_;rw [e1]
 refine zcc hr ?_;refine⟨_,[s1.heap.objs.size],_,zhQ (mE X.K) l xs.length,H1,rfl,I2,zk7 l s1.heap.objs.size xs.length,⟨bm _,hr⟩,fun b hb=>?_,q⟩;have z:b=s1.heap.objs.size:=by simpa using hb
 subst z;exact I1.fpOk (ag _) (I1.hok.fresh (ag _))
theorem zhT {X:Cx} {tg:Expr} {l3:List (Addr×Obj)} {σ:St} {H1:Hp} {s1:Shared} {R:It→Hp→Prop} {l:Addr} {xs:List V} (I1:Inv X l3 σ H1 s1) (hq:me X.K H1 l xs) (q:R (zhQ (me X.K) l xs.length) H1) :
  wpAny (model X.prog X.w) X.A (call (.type "reversed") [.ref l]) (fun v s2=>wpAny (model X.prog X.w) X.A (pyIter v) (PIE X l3 σ tg R) X.xe s2) X.xe s1:=by
 obtain⟨mf,rv,pl,hz⟩:=I1.list hq;have mB:=rv.length;refine call_reversed_list pl.isList ?_;have I2:Inv X l3 σ H1 { s1 with heap:=s1.heap.push (revObj l ((mf.toArray.size:Int) - 1)) }:=I1.kept (t':=s1.toks) fun b o e=>ai _ e
 have hr:(s1.heap.push (revObj l ((mf.toArray.size:Int) - 1))).IsRevIter s1.heap.objs.size l ((xs.length:Int) - 1 - ((0:Nat):Int)):=by
  refine⟨_,aG _ rfl,rfl,?_⟩;have e1:(mf.toArray.size:Int) - 1=(xs.length:Int) - 1 - ((0:Nat):Int):=by rw [ar,mB]; lia
  show jr #[.ref l,rawInt ((mf.toArray.size:Int) - 1)]=_;rw [e1]
 refine jR hr ?_;refine⟨_,[s1.heap.objs.size],_,zhQ (me X.K) l xs.length,H1,rfl,I2,zk6 l s1.heap.objs.size xs.length,⟨bm _,hr⟩,fun b hb=>?_,q⟩;have z:b=s1.heap.objs.size:=by simpa using hb
 subst z;exact I1.fpOk (ag _) (I1.hok.fresh (ag _))
def zrW (K:ah) (ta:TA):TI:=fun σ H R=>ta σ H fun vs H1=>∃ a xs,vs = [.ref a]∧((me K H1 a xs∧R (zhQ (me K) a xs.length) H1)∨(mE K H1 a xs∧R (zhQ (mE K) a xs.length) H1))
theorem zqd {X:Cx} {tg:Expr} {p pos:Pos} {a:Expr} {ta:TA} (hg:Gl X "reversed") (hm:X.mg "reversed" = none) (ha:PA X [a] ta) (hs:starEach [a] X.env = [(false,eval a X.env)]:=by rfl) :
  PI X tg (.Call (.Name "reversed" p) [a] [] pos) (zrW X.K ta):=by
 intro l3 s σ H R I h;refine Call_ (zbe I hg hm boot_reversed (bA (thn (ha pos l3 s σ H _ I h) fun us s1 ⟨vs,H1,I1,r1,q1⟩=>?_) hs rfl));obtain⟨l,xs,e,hq⟩:=q1;subst e;cases r1 with
 | cons r rr =>
  cases rr;cases r;rcases hq with ⟨hq,q⟩ | ⟨hq,q⟩
  ·exact zhT I1 hq q
  ·exact zgR I1 hq q
inductive EqD (K:ah) (H:Hp):Nat→V→V→Bool→Prop where
 | flat {d:Nat} {x y:V} (hx:zgg x=true) (hy:zgg y=true):EqD K H d x y (eqV x y)
 | same {d:Nat} {a:Addr}:EqD K H d (.ref a) (.ref a) true
 | lists {d:Nat} {a b:Addr} {xs ys:List V} {e:Nat→Bool} (mV:a≠b) (ha:me K H a xs) (hb:me K H b ys) (hl:xs.length=ys.length)
   (he:∀ (j:Nat) x y,xs[j]? = some x→ys[j]? = some y→EqD K H d x y (e j)):EqD K H (d+1) (.ref a) (.ref b) ((av xs.length).all e)
 | lens {d:Nat} {a b:Addr} {xs ys:List V} (mV:a≠b) (ha:me K H a xs) (hb:me K H b ys) (hl:xs.length≠ys.length):EqD K H (d+1) (.ref a) (.ref b) false
 | tups {d:Nat} {a b:Addr} {xs ys:List V} {e:Nat→Bool} (mV:a≠b) (ha:mE K H a xs) (hb:mE K H b ys)
   (he:∀ (j:Nat) x y,xs[j]? = some x→ys[j]? = some y→EqD K H d x y (e j)):EqD K H (d+1) (.ref a) (.ref b) ((av (min xs.length ys.length)).all e && xs.length == ys.length)
theorem zS.getE {xs:List V} {us:List Value} (r:zS xs us) {j:Nat} (h:j < us.toArray.size):∃ x,xs[j]? = some x∧RelV x us.toArray[j]:=by
 have hl:=r.length;have hj:j < xs.length:=by rw [hl]; simpa using h
 obtain⟨u,hu,ru⟩:=r.get (i:=j) (x:=xs[j]) #[M];refine⟨xs[j],#[M],?_⟩;have:us.toArray[j]=u:=by
  have h2:j < us.length:=by simpa using h
  rw [aj h2] at hu;simpa using aV hu
 rw [this];exact ru
theorem EqD.at {X:Cx} {l3:List (Addr×Obj)} {σ:St} {H:Hp} {s:Shared} (I:Inv X l3 σ H s) {d:Nat} {x y:V} {b:Bool} (h:EqD X.K H d x y b) :
  ∀ (A:Around) (u v:Value),RelV x u→RelV y v→A.units+d < cLine→SeqAt.EqAt A s u v b:=by
 induction h with
 | flat hx hy=>exact fun A u v rx ry _=>zp5 rx ry hx hy
 | same=>intro A u v rx ry _; cases rx; cases ry; exact lx _
 | lists mV ha hb hl he ih =>
  intro A u v rx ry hu;cases rx; cases ry;obtain⟨AA,r1,p1,_⟩:=I.list ha;obtain⟨AB,r2,p2,_⟩:=I.list hb;have l1:=r1.length;have l2:=r2.length;refine iB mV ?_;have q:=SeqAt.RcAt.lists (A:=A) p1.isList p2.isList (by simp only [ar]; lia) #[O] fun j h1 h2=>by
   obtain⟨x,hx,rx⟩:=r1.getE h1;obtain⟨y,hy,ry⟩:=r2.getE h2;exact ih j x y hx hy A.in1 _ _ rx ry (by simp only [dw]; lia)
  rw [ar,← l1] at q;exact q
 | lens mV ha hb hl =>
  intro A u v rx ry hu;cases rx; cases ry;obtain⟨AA,r1,p1,_⟩:=I.list ha;obtain⟨AB,r2,p2,_⟩:=I.list hb;have l1:=r1.length;have l2:=r2.length;exact iB mV (SeqAt.RcAt.lists_lengths p1.isList p2.isList (by simp only [ar,bne_iff_ne]; lia) #[O])
 | tups mV ha hb he ih =>
  intro A u v rx ry hu;cases rx; cases ry;obtain⟨AA,r1,p1,_⟩:=I.tuple ha;obtain⟨AB,r2,p2,_⟩:=I.tuple hb;have l1:=r1.length;have l2:=r2.length;refine iB mV ?_;have q:=SeqAt.RcAt.tuples (A:=A) (s:=s) p1 p2 #[O] fun j h1 h2=>by
   obtain⟨x,hx,rx⟩:=r1.getE h1;obtain⟨y,hy,ry⟩:=r2.getE h2;exact ih j x y hx hy A.in1 _ _ rx ry (by simp only [dw]; lia)
  rw [ar,ar,← l1,← l2] at q;exact q
def zrm (K:ah) (neg:Bool):R2:=fun x y H Q=>∃ a b xs ys,x = .ref a∧y = .ref b∧((me K H a xs∧me K H b ys)∨(mE K H a xs∧mE K H b ys)) ∧
 ((xs.length≠ys.length∧(∀ (j:Nat) x y,xs[j]? = some x→ys[j]? = some y→∃ c,EqD K H 8 x y c)∧Q (.bl neg) H) ∨
  (xs.length=ys.length∧∃ e:Nat→Bool,(∀ (j:Nat) x y,xs[j]? = some x→ys[j]? = some y→EqD K H 8 x y (e j))∧Q (.bl (if neg then !(av xs.length).all e else (av xs.length).all e)) H))
theorem zqe {X:Cx} (hu:X.A.units+20 < cLine):OpR X (compareOp .NotEq) (zrm X.K true):=by
 intro l3 s σ H x y v u Q I rx ry h;obtain⟨a,b,xs,ys,rfl,rfl,hk,h⟩:=h;cases rx; cases ry;rcases hk with ⟨ha,hb⟩ | ⟨ha,hb⟩
 ·obtain⟨AA,r1,p1,_⟩:=I.list ha;obtain⟨AB,r2,p2,_⟩:=I.list hb;have l1:=r1.length;have l2:=r2.length;rcases h with ⟨hl,_,q⟩ | ⟨hl,e,he,q⟩
  ·exact SeqAt.RcNeAt.lists_lengths p1.isList p2.isList (by simp only [ar,bne_iff_ne]; lia) #[O] _ _ _ _ ⟨.bl true,H,I,rfl,q⟩
  ·refine SeqAt.RcNeAt.lists p1.isList p2.isList (e:=e) (by simp only [ar]; lia) #[O] (fun j h1 h2=>?_) _ _ _ _ ⟨.bl _,H,I,rfl,?_⟩
   ·obtain⟨x,hx,rx⟩:=r1.getE h1;obtain⟨y,hy,ry⟩:=r2.getE h2;exact (he j x y hx hy).at I _ _ _ rx ry (by simp only [dw]; lia)
   ·rw [ar,← l1];exact q
 ·obtain⟨AA,r1,p1,_⟩:=I.tuple ha;obtain⟨AB,r2,p2,_⟩:=I.tuple hb;have l1:=r1.length;have l2:=r2.length;rcases h with ⟨hl,he,q⟩ | ⟨hl,e,he,q⟩
  ·have AD:∀ j:Nat,∃ c:Bool,∀ x y,xs[j]? = some x→ys[j]? = some y→EqD X.K H 8 x y c:=fun j=>by
    cases hx:xs[j]? with
    | none=>exact⟨true,fun x y z=>by cases z⟩
    | some x =>
     cases hy:ys[j]? with
     | none=>exact⟨true,fun x y _ z=>by cases z⟩
     | some y =>
      obtain⟨c,hc⟩:=he j x y hx hy;exact⟨c,fun x' y' z1 z2=>by cases z1; cases z2; exact hc⟩
   obtain⟨e,uQ⟩:=Classical.axiomOfChoice AD;refine kg (s:=s) p1 p2 (e:=e) #[O] (fun j h1 h2=>?_) _ _ _ _ ⟨.bl _,H,I,rfl,?_⟩
   ·obtain⟨x,hx,rx⟩:=r1.getE h1;obtain⟨y,hy,ry⟩:=r2.getE h2;exact (uQ j x y hx hy).at I _ _ _ rx ry (by simp only [dw]; lia)
   ·have tZ:(AA.toArray.size == AB.toArray.size)=false:=by
     rw [ar,ar]; exact beq_eq_false_iff_ne.mpr #[O]
    rw [tZ,lM];exact q
  ·refine kg (s:=s) p1 p2 (e:=e) #[O] (fun j h1 h2=>?_) _ _ _ _ ⟨.bl _,H,I,rfl,?_⟩
   ·obtain⟨x,hx,rx⟩:=r1.getE h1;obtain⟨y,hy,ry⟩:=r2.getE h2;exact (he j x y hx hy).at I _ _ _ rx ry (by simp only [dw]; lia)
   ·have tZ:(AA.toArray.size == AB.toArray.size)=true:=by
     rw [ar,ar]; exact beq_iff_eq.mpr #[O]
    have Fh:min AA.toArray.size AB.toArray.size=xs.length:=by rw [ar,ar]; lia
    rw [tZ,Bool.and_true,Fh];exact q
theorem zmi {K:ah} {H:Hp} {ms ns:List Int}:∀ (j:Nat) x y,(ms.map V.int)[j]? = some x→(ns.map V.int)[j]? = some y→EqD K H 8 x y ((fun j=>decide (ms[j]? = ns[j]?)) j):=fun j x y hx hy=>by
 rw [af] at hx hy;cases h1:ms[j]? with
 | none=>rw [h1] at hx; cases hx
 | some m =>
  cases h2:ns[j]? with
  | none=>rw [h2] at hy; cases hy
  | some n =>
   rw [h1] at hx; rw [h2] at hy;cases hx; cases hy;have e:eqV (.int m) (.int n)=decide (some m=some n):=by
    show (m == n)=_;rw [cV]; simp
   show EqD K H 8 (.int m) (.int n) (decide (ms[j]? = ns[j]?));rw [h1,h2,← e];exact EqD.flat rfl rfl
theorem zhU {X:Cx}:zbn X (.type "range") (fun xs H Q=>∃ j:Int,xs = [.int j]∧∀ l,H l=none→Q (.ref l) (mh H l (.rng 0 j))):=by
 intro l3 s σ H xs us Q I r h;obtain⟨j,rfl,q⟩:=h;obtain⟨u,rfl,t,rfl⟩:=vals1 r;refine call_range_1 ?_;exact⟨.ref s.heap.objs.size,_,I.laid (o:=.rng 0 j) (fun b o e=>ai _ e) (ag _) ⟨_,_,_,aG _ rfl⟩,rfl,q _ I.fresh⟩
def zb6 (lo:Int) (n:Nat):List Int:=(av n).map fun (i:Nat)=>lo+(i:Int)
theorem zdj (lo:Int) (n:Nat):(zb6 lo n).length=n:=by simp [zb6]
theorem zfU {acc:Array Value} {lo:Int} {n:Nat} (h:ItemsOf (fun i v=>∃ t,v = .int (lo+(i:Nat)*1) t) acc n):zS ((zb6 lo n).map V.int) acc.toList:=by
 obtain⟨hsz,hv⟩:=h;have go:∀ (us:List Value) (k:Nat),(∀ (j:Nat) v,us[j]? = some v→∃ t,v = .int (lo+((k+j:Nat):Int)) t)→zS (((av us.length).map fun (i:Nat)=>V.int (lo+((k+i:Nat):Int)))) us:=by
  intro us;induction us with
  | nil=>intro k _; exact .nil
  | cons u us ih =>
   intro k hu;rw [bT,gI,bg,bH];refine .cons ?_ ?_
   ·obtain⟨t,e⟩:=hu 0 u rfl;exact⟨t,e⟩
   ·have:=ih (k+1) fun j v e=>by
     obtain⟨t,z⟩:=hu (j+1) v (by simpa using e);exact⟨t,by rw [z]; congr 1; lia⟩
    have e2:(fun (i:Nat)=>V.int (lo+((k+1+i:Nat):Int)))=((fun (i:Nat)=>V.int (lo+((k+i:Nat):Int))) ∘ lW):=by
     funext i;show V.int _=V.int _;congr 2;show ((k+1+i:Nat):Int)=((k+(i+1):Nat):Int);lia
    rw [← e2];exact this
 have h1:=go acc.toList 0 fun j v e=>by
  obtain⟨t,z⟩:=hv j v (by simpa using e);exact⟨t,by rw [z]; simp⟩
 have e1:acc.toList.length=n:=by simpa using hsz
 rw [e1] at h1;unfold zb6;rw [bH];have e2:(V.int ∘ fun (i:Nat)=>lo+(i:Int))=fun (i:Nat)=>V.int (lo+((0+i:Nat):Int)):=by
  funext i;show V.int (lo+(i:Int))=V.int (lo+((0+i:Nat):Int));rw [cG]
 rw [e2];exact h1
theorem zfV {X:Cx} (hc:X.calm=true):zbn X (.type "list") (fun xs H Q=>∃ p hi,xs = [.ref p]∧H p=some (.rng 0 hi)∧0≤hi∧hi≤1000∧∀ l,H l=none→Q (.ref l) (mh H l (.lst ((zb6 0 hi.toNat).map V.int)))):=by
 intro l3 s σ H xs us Q I r h;obtain⟨p,hi,rfl,hp,h0,h1,q⟩:=h;obtain⟨u,rfl,rx⟩:=vals1 r;cases rx;obtain⟨t,u',v,e⟩:=(show zas X.prog X.w H s.heap p (.rng 0 hi) from I.hok p _ hp);have pf:=bf;refine call_list_range (n:=hi.toNat) (I.ok.hd hc) (show IsRange s.heap p 0 hi 1 t u' v from e) (small_one #[O] #[O] #[O] #[O]) (by rw [rangeSize_one]; split <;> lia) #[O] fun h' tk Fi c' kk ho xf=>?_
 have hv:=zfU (lo:=0) (n:=hi.toNat) xf;refine⟨.ref s.heap.objs.size,_,I.laid kk (ag _) ?_,rfl,q _ I.fresh⟩;exact⟨by rw [ab,zdj]; lia,Fi.toList,c',hv,by simpa using ho⟩
def zrX (K:ah) (tl:TE):TI:=fun σ H R=>tl σ H fun x H1=>∃ a,x = .ref a∧(((∃ xs,me K H1 a xs)∧R (Itl K a) H1)∨((∃ xs,mE K H1 a xs)∧R (Itt K a) H1))
theorem zmj {X:Cx} {tg l:Expr} {tl:TE} (hl:PE X l tl):PI X tg l (zrX X.K tl):=by
 intro l3 s σ H R I h;refine thn (hl l3 s σ H _ I h) fun v s1 ⟨x,H1,I1,r1,q1⟩=>?_
 obtain⟨a,e,q⟩:=q1;subst e;cases r1;rcases q with ⟨⟨xs,hq⟩,q⟩ | ⟨⟨xs,hq⟩,q⟩
 ·obtain⟨mf,rv,p,hz⟩:=I1.list hq;refine gB p.isList ?_;refine⟨s1.heap.objs.size,[s1.heap.objs.size],_,_,H1,rfl,I1.kept (t':=s1.toks) fun b o e=>ai _ e,zf8 a _,⟨_,aG _ rfl,rfl,rfl⟩,fun b hb=>?_,q⟩;have e:b=s1.heap.objs.size:=by simpa using hb
  subst e;exact I1.fpOk (ag _) (I1.hok.fresh (ag _))
 ·obtain⟨mf,rv,p,hz⟩:=I1.tuple hq;refine iz (show s1.heap.IsTuple a mf.toArray from p) ?_;refine⟨s1.heap.objs.size,[s1.heap.objs.size],_,_,H1,rfl,I1.kept (t':=s1.toks) fun b o e=>ai _ e,ze1 a _,⟨_,aG _ rfl,rfl,rfl⟩,fun b hb=>?_,q⟩;have e:b=s1.heap.objs.size:=by simpa using hb
  subst e;exact I1.fpOk (ag _) (I1.hok.fresh (ag _))
def intsOf:List Expr→Option (List Int)
 | []=>some []
 | .Constant (.int i) _ _ :: r=>(intsOf r).map (i :: ·)
 | _=>none
def zgl (ns:List Int):TA:=fun _ H Q=>Q (ns.map V.int) H
theorem zmk {X:Cx}:∀ (es:List Expr) (ns:List Int),intsOf es=some ns→PA X es (zgl ns):=by
 intro es;induction es with
 | nil =>
  intro ns h;have e:ns = []:=(aV h).symm;subst e;exact zd
 | cons e r ih =>
  intro ns h;unfold intsOf at h;split at h
  ·rename_i heq
   cases heq
  ·rename_i i j p r' heq
   injection heq with e1 e2
   subst e1 e2;cases hr:intsOf r with
   | none=>rw [hr] at h; cases h
   | some ms =>
    rw [hr] at h;have e:i :: ms=ns:=aV h;subst e;exact za zf (ih ms hr)
  ·cases h
theorem zom {X:Cx} {es:List Expr} {ns:List Int} (h:intsOf es=some ns):PA X es (zgl ns):=zmk es ns h
theorem zcP {X:Cx} {i:Int} {j:Nat} {p:Pos} {es:List Expr} {t:TA} (hr:PA X es t):PA X (.Constant (.int i) j p :: es) (zpu (tC (.int i)) t):=za zf hr
theorem zml {X:Cx} {i:Nat} {x:Str} {pos' oW qL:Pos} {rest:List Stmt} {u:TS} {es:List Expr} {ns:List Int} (h:intsOf es=some ns) (hN:X.N.Nodup) (hi:X.N[i]? = some x) (hx:Loc X.env.scope x)
  (hf:X.fn x=true∨X.env.scope.names.lookup x=some .local) (hr:PSs X rest u):PSs X (.Assign [.Name x pos'] (.List es oW) qL :: rest) (zaI (zi3 (zod (zgl ns)) (zaZ i)) u):=by
 have h1:PE X (.List es oW) (zod (zgl ns)):=@z0 X es (zgl ns) oW (@zom X es ns h);have h2:PS X (.Assign [.Name x pos'] (.List es oW) qL) (zi3 (zod (zgl ns)) (zaZ i)):=zm hN hi hx h1 (by rfl) hf;exact ze h2 hr
section
variable {X:Cx} {K:ah}
theorem zaQ (hK:X.K=K):IxR X (zrg K):=by subst hK; exact zB
theorem zjX (hK:X.K=K):IxR X (zrh K):=by subst hK; exact zdp
theorem zhV (hK:X.K=K):SlR X (zrj K):=by subst hK; exact zcq
def zrn (K:ah):List V→Hp→VK→Prop:=fun xs H Q=>∃ p ys,xs = [.ref p]∧(me K H p ys∨mE K H p ys)∧Q (.int ys.length) H
theorem zaz (hK:X.K=K):zbn X (.builtin "len") (zrn K):=by subst hK; exact zq
theorem zaf {es:List Expr} {k:Nat} {t:TGs} {n:Nat} {pos:Pos} (hK:X.K=K) (hc:X.calm=true) (h:PGs X es t)
  (hn:(assignEach es X.env).length=n:=by rfl) (nS:(assignEach es X.env).findIdx? (·.1)=none:=by rfl):PG X (.Tuple es k pos) (zhF K n t):=by subst hK; exact zbf hc h hn nS
theorem zqf {o e:Expr} {es:List Expr} {to:TE} {t:TA} {name:Str} {apos nG:Pos} {T id:String} {r:V→List V→Hp→VK→Prop} (hK:X.K=K) (pa:PlainAttrs T) (slot:Slot T name id) (EU:typeOf (.builtin id)=pure (.type "method_descriptor")) (hm:MtR X id r) (ho:PE X o to) (ha:PA X (e :: es) t)
  (wY:attributeBase o name X.env (eval o X.env)=eval o X.env:=by rfl)
  (Ar:((backTo nG (starEach (e :: es) X.env)).all (fun x=>!x.1) && (backToKw nG (keywordEach [] X.env)).all (fun x=>x.1.isSome)
   && decide ((e :: es).length+([]:List Keyword).length+(if ([]:List Keyword).isEmpty then 0 else 1) < 30))=true:=by rfl)
  (wZ:(apos.endLine == nG.line)=true:=by rfl) (hs:starEach (e :: es) X.env=(false,eval e X.env) :: starEach es X.env:=by rfl) (uN:(backTo nG (starEach es X.env)).any (·.1)=false:=by rfl) :
  PE X (.Call (.Attribute o name apos) (e :: es) [] nG) (tBM K T r to t):=by subst hK; exact zhL pa slot EU hm ho ha wY Ar wZ hs uN
end
end L2
end
section
namespace My
def Cg (p a b:Int):Prop:=∃ k,a=b+p*k
theorem Cg.refl (p a:Int):Cg p a a:=⟨0,by grind⟩
theorem Cg.symm {p a b:Int} (h:Cg p a b):Cg p b a:=by obtain⟨k,e⟩:=h; exact⟨-k,by grind⟩
theorem Cg.trans {p a b c:Int} (h:Cg p a b) (h':Cg p b c):Cg p a c:=by
 obtain⟨k,e⟩:=h; obtain⟨l,e'⟩:=h'; exact⟨k+l,by grind⟩
theorem Cg.add {p a b c d:Int} (h:Cg p a b) (h':Cg p c d):Cg p (a+c) (b+d):=by
 obtain⟨k,e⟩:=h; obtain⟨l,e'⟩:=h'; exact⟨k+l,by grind⟩
theorem Cg.sub {p a b c d:Int} (h:Cg p a b) (h':Cg p c d):Cg p (a - c) (b - d):=by
 obtain⟨k,e⟩:=h; obtain⟨l,e'⟩:=h'; exact⟨k - l,by grind⟩
theorem Cg.mul {p a b c d:Int} (h:Cg p a b) (h':Cg p c d):Cg p (a*c) (b*d):=by
 obtain⟨k,e⟩:=h; obtain⟨l,e'⟩:=h';exact⟨k*d+b*l+p*k*l,by subst e e'; grind⟩
theorem Cg.of_eq {p a b:Int} (h:a=b):Cg p a b:=h ▸ Cg.refl p a
theorem Cg.emod (p a:Int):Cg p (a % p) a:=⟨-(a / p),by have:=Int.emod_add_mul_ediv a p; grind⟩
theorem Cg.mod_eq {p a b:Int} (h:Cg p a b):a % p=b % p:=by
 obtain⟨k,e⟩:=h; rw [e,Int.add_mul_emod_self_left]
theorem Cg.of_mod {p a b:Int} (h:a % p=b % p):Cg p a b:=(Cg.emod p a).symm.trans (h ▸ Cg.emod p b)
theorem Cg.eq {p a b:Int} (h:Cg p a b) (ha:0≤a) (ha':a < p) (hb:0≤b) (tZ:b < p):a=b:=by
 have:=h.mod_eq
 rwa [cM ha ha',cM hb tZ] at this
def zt (p x:Int):List Int→Int
 | []=>0
 | c :: r=>(c+x*zt p x r) % p
theorem zbL {p x:Int} (hp:0 < p):∀ l,0≤zt p x l
 | []=>bS 0
 | _ :: _=>aQ _ #[O]
theorem zbM {p x:Int} (hp:0 < p):∀ l,zt p x l < p
 | []=>hp
 | _ :: _=>aH _ hp
theorem zag (p x c:Int) (r:List Int):Cg p (zt p x (c :: r)) (c+x*zt p x r):=Cg.emod _ _
def lv (p x:Int):Int→Int→List Int→Int
 | mF,_,[]=>mF
 | mF,power,c :: r=>lv p x ((mF+c*power) % p) (power*x % p) r
theorem zpx {p x:Int}:∀ (l:List Int) (mF power:Int),Cg p (lv p x mF power l) (mF+power*zt p x l)
 | [],mF,power=>Cg.of_eq (by show mF=mF+power*0; grind)
 | c :: r,mF,power=>by
  have h1:=zpx (p:=p) (x:=x) r ((mF+c*power) % p) (power*x % p);refine h1.trans ?_;have h2:Cg p ((mF+c*power) % p+power*x % p*zt p x r) (mF+c*power+power*x*zt p x r):=(Cg.emod p _).add ((Cg.emod p (power*x)).mul (Cg.refl p _));refine h2.trans ?_;have h3:Cg p (mF+power*(c+x*zt p x r)) (mF+power*zt p x (c :: r)):=(Cg.refl p _).add ((Cg.refl p _).mul (zag p x c r).symm);refine (Cg.of_eq ?_).trans h3;grind
theorem zmm {p x:Int} (hp:0 < p):∀ (l:List Int) (mF power:Int),0≤mF→mF < p→0≤lv p x mF power l∧lv p x mF power l < p
 | [],mF,power,h1,h2=>⟨h1,h2⟩
 | c :: r,mF,power,h1,h2=>zmm hp r _ _ (aQ _ #[O]) (aH _ hp)
theorem zjY {p x:Int} (hp:0 < p) (l:List Int):lv p x 0 1 l=zt p x l:=by
 obtain⟨a,b⟩:=zmm (x:=x) hp l 0 1 (bS _) hp;exact ((zpx l 0 1).trans (Cg.of_eq (by grind))).eq a b (zbL hp l) (zbM hp l)
def zr:List Int:=[5,7,11,13,17,19,23,29,31,37,41,43,47,53,59,61,67,71,73,79,83,89,97]
def zc1 (p:Int):Nat→Int→Int→Int→Int
 | 0,prod,_,_=>prod
 | n+1,prod,sq,left=>if 0 < left then zc1 p n (if left % 2=1 then prod*sq % p else prod) (sq*sq % p) (left / 2) else prod
def inv (p h:Int):Int:=zc1 p 7 1 (h % p) (p - 2)
def zrY:Bool:=zr.all fun p=>(av p.toNat).all fun h=>h == 0 || (inv p h*h) % p == 1
theorem zk8:zrY=true:=by decide +kernel
theorem zw {p:Int} (hp:p∈zr):5≤p∧p≤97:=by
 have:zr.all (fun p=>decide (5≤p∧p≤97))=true:=by decide +kernel
 have:=fK.mp this p hp;simpa using this
theorem zd4 {p h:Int} (hp:p∈zr) (h0:0 < h) (h1:h < p):Cg p (inv p h*h) 1:=by
 have e:=fK.mp (fK.mp zk8 p hp) h.toNat (aZ.mpr #[O]);have hh:((h.toNat:Nat):Int)=h:=by lia
 have:h.toNat≠0:=by lia
 simp only [lD,beq_iff_eq,hh,this,false_or] at e;have hr:=zw hp;exact Cg.of_mod (by rw [e,cM #[O] #[O]])
theorem zhW {p a b:Int} (hp:p∈zr) (h:Cg p (a*b) 0):Cg p a 0∨Cg p b 0:=by
 have hr:=zw hp;by_cases ha:a % p=0
 ·exact .inl (Cg.of_mod (by rw [ha]; simp))
 ·right;have h0:0 < a % p:=by have:=aQ a (show p≠0 by lia); lia
  have hi:=zd4 hp h0 (aH a #[O]);have h1:Cg p (inv p (a % p)*(a*b)) 0:=((Cg.refl p _).mul h).trans (Cg.of_eq (by grind));have h2:Cg p (inv p (a % p)*(a % p)*b) (1*b):=hi.mul (Cg.refl p b);have h3:Cg p (inv p (a % p)*(a*b)) (inv p (a % p)*(a % p)*b):=by
   have:=((Cg.refl p (inv p (a % p))).mul (Cg.emod p a).symm).mul (Cg.refl p b);exact (Cg.of_eq (by grind)).trans this
  exact ((Cg.of_eq (by grind)).trans (h2.symm.trans (h3.symm.trans h1)))
def trF (p r:Int) (high low:Int):Int:=(high - r*low) % p
def zbZ (p r:Int) (v:List Int):List Int:=bu (trF p r) (0 :: v) (v++[0])
theorem zpy {p r z:Int}:∀ (v:List Int) (h:Int),Cg p (zt p z (bu (trF p r) (h :: v) (v++[0]))) (h+(z - r)*zt p z v)
 | [],h=>by
  show Cg p ((trF p r h 0+z*0) % p) (h+(z - r)*0);refine (Cg.emod p _).trans ?_;have:Cg p (trF p r h 0) (h - r*0):=Cg.emod p _;exact (this.add (Cg.refl p (z*0))).trans (Cg.of_eq (by grind))
 | c :: w,h=>by
  show Cg p ((trF p r h c+z*zt p z (bu (trF p r) (c :: w) (w++[0]))) % p) (h+(z - r)*zt p z (c :: w));have ih:=zpy (p:=p) (r:=r) (z:=z) w c;have h1:Cg p (trF p r h c) (h - r*c):=Cg.emod p _;refine (Cg.emod p _).trans ((h1.add ((Cg.refl p z).mul ih)).trans ?_);have h2:Cg p (h+(z - r)*(c+z*zt p z w)) (h+(z - r)*zt p z (c :: w)):=(Cg.refl p h).add ((Cg.refl p _).mul (zag p z c w).symm);exact (Cg.of_eq (by grind)).trans h2
theorem zon {p r z:Int} (v:List Int):Cg p (zt p z (zbZ p r v)) ((z - r)*zt p z v):=(zpy v 0).trans (Cg.of_eq (by grind))
theorem zcd (p r:Int) (v:List Int):(zbZ p r v).length=v.length+1:=by simp [zbZ]
theorem ze8 {α β γ:Type} {f:α→β→γ}:∀ {as:List α} {bs:List β} {c:γ},c∈bu f as bs→∃ a b,c=f a b
 | [],_,c,h=>by simp at h
 | _ :: _,[],c,h=>by simp at h
 | a :: as,b :: bs,c,h=>by
  rcases aF.mp h with e | e
  ·exact⟨a,b,e⟩
  ·exact ze8 e
theorem zqg {p r:Int} (hp:0 < p) (v:List Int):∀ c∈zbZ p r v,0≤c∧c < p:=by
 intro c hc;obtain⟨a,b,e⟩:=ze8 hc;rw [e]; exact⟨aQ _ #[O],aH _ hp⟩
def ad (p f:Int):List Int→List Int→List Int
 | c :: cs,v :: vs=>(c+f*v) % p :: ad p f cs vs
 | cs,[]=>cs
 | [],_ :: _=>[]
theorem zgm (p f:Int):∀ (cs vs:List Int),(ad p f cs vs).length=cs.length
 | _ :: cs,_ :: vs=>by show (ad p f cs vs).length+1=_; rw [zgm p f cs vs]; rfl
 | [],[]=>rfl
 | _ :: _,[]=>rfl
 | [],_ :: _=>rfl
theorem zmn {p f:Int} (hp:0 < p):∀ (cs vs:List Int),(∀ c∈cs,0≤c∧c < p)→∀ c∈ad p f cs vs,0≤c∧c < p
 | c :: cs,v :: vs,h,d,hd=>by
  rcases aF.mp hd with e | e
  ·rw [e]; exact⟨aQ _ #[O],aH _ hp⟩
  ·exact zmn hp cs vs (fun c hc=>h c (aD _ hc)) d e
 | [],[],h,d,hd=>h d hd
 | _ :: _,[],h,d,hd=>h d hd
 | [],_ :: _,h,d,hd=>by cases hd
theorem zjZ {p f z:Int}:∀ (cs vs:List Int),vs.length≤cs.length→Cg p (zt p z (ad p f cs vs)) (zt p z cs+f*zt p z vs)
 | c :: cs,v :: vs,h=>by
  have ih:=zjZ (p:=p) (f:=f) (z:=z) cs vs (by simpa using h);show Cg p (((c+f*v) % p+z*zt p z (ad p f cs vs)) % p) (zt p z (c :: cs)+f*zt p z (v :: vs));refine (Cg.emod p _).trans (((Cg.emod p (c+f*v)).add ((Cg.refl p z).mul ih)).trans ?_);have h2:Cg p ((c+z*zt p z cs)+f*(v+z*zt p z vs)) (zt p z (c :: cs)+f*zt p z (v :: vs)):=(zag p z c cs).symm.add ((Cg.refl p f).mul (zag p z v vs).symm);exact (Cg.of_eq (by grind)).trans h2
 | [],[],_=>Cg.of_eq (by show (0:Int)=0+f*0; grind)
 | c :: cs,[],_=>Cg.of_eq (by show zt p z (c :: cs)=zt p z (c :: cs)+f*0; grind)
 | [],_ :: _,h=>by simp at h
def zcQ (p:Int) (s:List Int×List Int) (q:Int×Int):List Int×List Int :=
 (ad p ((q.2 - zt p q.1 s.1)*inv p (zt p q.1 s.2) % p) s.1 s.2,zbZ p q.1 s.2)
def zro (p:Int) (n:Nat) (mi:List (Int×Int)):List Int×List Int:=mi.foldl (zcQ p) (ap n 0,[1])
def thr (p:Int) (mi:List (Int×Int)):List Int:=(zro p mi.length mi).1
def zcR (z:Int):List (Int×Int)→Int
 | []=>1
 | q :: r=>(z - q.1)*zcR z r
theorem ze9 (z:Int) (q:Int×Int):∀ l,zcR z (l++[q])=zcR z l*(z - q.1)
 | []=>by show (z - q.1)*1=1*(z - q.1); grind
 | a :: l=>by show (z - a.1)*zcR z (l++[q])=(z - a.1)*zcR z l*(z - q.1); rw [ze9 z q l]; grind
theorem zfa {z:Int}:∀ {l:List (Int×Int)},(∃ q∈l,q.1=z)→zcR z l=0
 | [],h=>by obtain⟨q,hq,_⟩:=h; cases hq
 | a :: l,h=>by
  show (z - a.1)*zcR z l=0;obtain⟨q,hq,e⟩:=h;rcases aF.mp hq with hq | hq
  ·subst hq; rw [e]; simp
  ·rw [zfa ⟨q,hq,e⟩]; simp
theorem zhX {p z:Int} (hp:p∈zr) (hz:0≤z) (D4:z < p):∀ {l:List (Int×Int)},(∀ q∈l,0≤q.1∧q.1 < p∧q.1≠z)→¬ Cg p (zcR z l) 0
 | [],_,h=>by
  have hr:=zw hp;have:=h.mod_eq;have e1:(zcR z []:Int)=1:=rfl;rw [e1,cM #[O] #[O]] at this;simp at this
 | a :: l,hl,h=>by
  rcases zhW hp (show Cg p ((z - a.1)*zcR z l) 0 from h) with h | h
  ·obtain⟨h1,h2,h3⟩:=hl a aN;have:Cg p z a.1:=by
    have:=h.add (Cg.refl p a.1);exact (Cg.of_eq (by grind)).trans (this.trans (Cg.of_eq (by grind)))
   exact h3 (this.eq hz D4 h1 h2).symm
  ·exact zhX hp hz D4 (fun q hq=>hl q (aD _ hq)) h
structure Nw (p:Int) (n:Nat) (done:List (Int×Int)) (s:List Int×List Int):Prop where
 lc:s.1.length=n
 lv:s.2.length=done.length+1
 rc:∀ c∈s.1,0≤c∧c < p
 rv:∀ c∈s.2,0≤c∧c < p
 van:∀ z,Cg p (zt p z s.2) (zcR z done)
 hit:∀ q∈done,zt p q.1 s.1=q.2
theorem zhY {p:Int} (hp:p∈zr) (n:Nat):Nw p n [] (ap n 0,[1]):=by
 have hr:=zw hp;refine⟨#[M],rfl,fun c hc=>?_,fun c hc=>?_,fun z=>?_,fun q hq=>by cases hq⟩
 ·obtain⟨_,e⟩:=List.mem_replicate.mp hc;lia
 ·have:c=1:=by simpa using hc
  lia
 ·show Cg p ((1+z*0) % p) 1;exact (Cg.emod p _).trans (Cg.of_eq (by grind))
theorem zj0 {p:Int} {n:Nat} {done:List (Int×Int)} {s:List Int×List Int} (hp:p∈zr) (h:Nw p n done s) {q:Int×Int} (q0:0≤q.1) (q1:q.1 < p) (hd:∀ a∈done,0≤a.1∧a.1 < p∧a.1≠q.1) :
  0 < zt p q.1 s.2∧zt p q.1 s.2 < p:=by
 have hr:=zw hp;refine⟨?_,zbM #[O] _⟩;have h0:=zbL (x:=q.1) (show 0 < p by lia) s.2;by_cases e:zt p q.1 s.2=0
 ·exact absurd ((h.van q.1).symm.trans (Cg.of_eq e)) (zhX hp q0 q1 hd)
 ·lia
theorem zk9 {p:Int} {n:Nat} {done:List (Int×Int)} {s:List Int×List Int} (hp:p∈zr) (h:Nw p n done s) {q:Int×Int} (q0:0≤q.1) (q1:q.1 < p) (hd:∀ a∈done,0≤a.1∧a.1 < p∧a.1≠q.1) :
  Cg p ((q.2 - zt p q.1 s.1)*inv p (zt p q.1 s.2) % p*zt p q.1 s.2) (q.2 - zt p q.1 s.1):=by
 obtain⟨h0,h1⟩:=zj0 hp h q0 q1 hd;have hi:=zd4 hp h0 h1;refine ((Cg.emod p _).mul (Cg.refl p _)).trans ?_;have:=(Cg.refl p (q.2 - zt p q.1 s.1)).mul hi;exact (Cg.of_eq (by grind)).trans (this.trans (Cg.of_eq (by grind)))
theorem zj1 {p:Int} {n:Nat} {done:List (Int×Int)} {s:List Int×List Int} (hp:p∈zr) (h:Nw p n done s) {q:Int×Int} (hn:done.length < n) (q0:0≤q.1) (q1:q.1 < p) (q2:0≤q.2) (q3:q.2 < p)
  (hd:∀ a∈done,0≤a.1∧a.1 < p∧a.1≠q.1∧0≤a.2∧a.2 < p):Nw p n (done++[q]) (zcQ p s q):=by
 have hr:=zw hp;have BH:∀ a∈done,0≤a.1∧a.1 < p∧a.1≠q.1:=fun a ha=>⟨(hd a ha).1,(hd a ha).2.1,(hd a ha).2.2.1⟩
 have hlv:=h.lv;have hlc:=h.lc;have hle:s.2.length≤s.1.length:=by lia
 refine⟨by show (ad _ _ _ _).length=n; rw [zgm,h.lc],by show (zbZ _ _ _).length=_; rw [zcd,h.lv,aq,gU],zmn #[O] _ _ h.rc,zqg #[O] _,fun z=>?_,fun a ha=>?_⟩
 ·rw [ze9];exact (zon s.2).trans (((Cg.refl p _).mul (h.van z)).trans (Cg.of_eq (by grind)))
 ·have hv:=zjZ (p:=p) (f:=(q.2 - zt p q.1 s.1)*inv p (zt p q.1 s.2) % p) (z:=a.1) s.1 s.2 hle; rcases aY.mp ha with ha | ha
  ·obtain⟨b0,b1,b2,b3,b4⟩:=hd a ha;have hz:Cg p (zt p a.1 s.2) 0:=(h.van a.1).trans (Cg.of_eq (zfa ⟨a,ha,rfl⟩));have h2:Cg p (zt p a.1 (ad p ((q.2 - zt p q.1 s.1)*inv p (zt p q.1 s.2) % p) s.1 s.2)) (zt p a.1 s.1):=hv.trans (((Cg.refl p (zt p a.1 s.1)).add ((Cg.refl p _).mul hz)).trans (Cg.of_eq (by rw [dG,cT])));rw [h.hit a ha] at h2;exact h2.eq (zbL #[O] _) (zbM #[O] _) b3 b4
  ·have e:a=q:=by simpa using ha
   subst e;have h2:Cg p (zt p a.1 (ad p ((a.2 - zt p a.1 s.1)*inv p (zt p a.1 s.2) % p) s.1 s.2)) a.2:=hv.trans (((Cg.refl p (zt p a.1 s.1)).add (zk9 hp h q0 q1 BH)).trans (Cg.of_eq #[O]));exact h2.eq (zbL #[O] _) (zbM #[O] _) q2 q3
structure Pts (p:Int) (mi:List (Int×Int)):Prop where
 nd:(mi.map (·.1)).Nodup
 rg:∀ q∈mi,0≤q.1∧q.1 < p∧0≤q.2∧q.2 < p
theorem Pts.apart {p:Int} {done rest:List (Int×Int)} {q:Int×Int} (h:Pts p (done++q :: rest)):∀ a∈done,0≤a.1∧a.1 < p∧a.1≠q.1∧0≤a.2∧a.2 < p:=fun a ha=>by
 obtain⟨r1,r2,r3,r4⟩:=h.rg a (ba _ ha);refine⟨r1,r2,fun e=>?_,r3,r4⟩;have nd:=h.nd;rw [am,eE] at nd;exact nd.2.2 a.1 (az.mpr ⟨a,ha,rfl⟩) q.1 #[M] e
theorem zmo {p:Int} (hp:p∈zr) {n:Nat}:∀ (rest done:List (Int×Int)) (s:List Int×List Int),Pts p (done++rest)→(done++rest).length=n→Nw p n done s→Nw p n (done++rest) (rest.foldl (zcQ p) s)
 | [],done,s,_,_,h=>by rw [bI]; exact h
 | q :: rest,done,s,hP,hn,h=>by
  have yc:done.length < n:=by rw [← hn]; simp
  obtain⟨a,b,c,d⟩:=hP.rg q #[M];have hs:=zj1 hp h (q:=q) yc a b c d hP.apart;have e:done++q :: rest=(done++[q])++rest:=by simp
  rw [e] at hP hn ⊢;exact zmo hp rest (done++[q]) _ hP hn hs
theorem zmp {p:Int} (hp:p∈zr) {mi:List (Int×Int)} (hP:Pts p mi):(thr p mi).length=mi.length∧(∀ c∈thr p mi,0≤c∧c < p)∧∀ q∈mi,zt p q.1 (thr p mi)=q.2:=by
 have h:=zmo hp (n:=mi.length) mi [] _ (by simpa using hP) #[M] (zhY hp mi.length);exact⟨h.lc,h.rc,h.hit⟩
end My
end
section
namespace My
open PySem L2 PyProof.Rows
section
variable {K:ah}
theorem zmq {ns:List Int} {k:Int} (h0:0≤k) (h1:k < ns.length):∃ c:Int,ns[k.toNat]? = some c∧atI (ns.map V.int) k=some (.int c):=by
 have mM:k.toNat < ns.length:=by lia
 have e:atI (ns.map V.int) ((k.toNat:Nat):Int)=some (.int ns[k.toNat]):=zal (by simp [af,aj mM]);have hk:((k.toNat:Nat):Int)=k:=by lia
 rw [hk] at e;exact⟨ns[k.toNat],#[M],e⟩
theorem zc2 {ns:List Int} {k:Int} (h0:0≤k) (h1:k < ns.length):∃ c:Int,atI (ns.map V.int) k=some (.int c):=let ⟨c,_,e⟩:=zmq h0 h1; ⟨c,e⟩
theorem zb {H:Hp} {a:Addr} {o:HO} (h:H a=none):zu H (mh H a o):=fun b u e=>by rw [zn (zA e h)]; exact e
theorem zah {H H':Hp} {a:Addr} {o:HO} (s:zu H H') (h:H a=none):zu H (mh H' a o):=fun b u e=>by rw [zn (zA e h)]; exact s b u e
theorem zad {n:Nat} (h:n≤10000):n < sizeLine:=by rw [bf]; lia
def zla (K:ah):Sp:=fun vs H Q _=>∃ (a:Addr) (ns:List Int) (k:Int),vs = [.ref a,.int k]∧me K H a (ns.map V.int)∧ns.length≤63∧0≤k∧k≤1000∧∀ c:Int,Q (.int c) H
def zj2 (many:Nat) (base:Int) (ds:List Int):Prop:=ds.length=many∧∀ d∈ds,0≤d∧d < base
def zje (K:ah):Sp:=fun vs H Q _=>∃ (a:Addr) (ns:List Int) (k many base:Int),vs = [.ref a,.int k,.int many,.int base]∧me K H a (ns.map V.int)∧ns.length≤63∧0≤k∧k≤1000∧0≤many∧many≤1000∧0 < base∧base < 1073741824 ∧
 ∀ (l:Addr) (ds:List Int) (H':Hp),H l=none→zu H H'→zj2 many.toNat base ds→H' l=some (.lst (ds.map V.int))→Q (.ref l) H'
abbrev zoo:List V:=[.int 2147483647,.int 2147483629,.int 2147483587,.int 2147483579,.int 2147483563,.int 2147483549,.int 2147483543,.int 2147483497]
theorem zop {m:Int} (h0:0≤m) (h1:m < 8):∃ q:Int,atI zoo m=some (.int q)∧0 < q∧q < 2147483648:=by
 have:m=0∨m=1∨m=2∨m=3∨m=4∨m=5∨m=6∨m=7:=by lia
 rcases this with e | e | e | e | e | e | e | e <;> subst e <;> exact⟨_,rfl,#[D],#[D]⟩
theorem zfb (j:Int):∃ q:Int,atI zoo (j % 8)=some (.int q)∧0 < q∧q < 2147483648:=zop (aQ _ #[D]) (aH _ #[D])
theorem gY {i:Nat} {x:V} {σ:L2.St} {H:Hp} {A B:L2.St→Hp→Prop} (h:A (σ.set i (some x)) H):zaZ i x σ H (fun σ2 H2=>zol σ2 H2 fun b H3=>if b=true then A σ2 H3 else B σ2 H3):=by
 show (if true=true then A (σ.set i (some x)) H else B (σ.set i (some x)) H);rw [if_pos rfl];exact h
structure CodeOk (mk mn p k:Int) (pl:List Int):Prop where
 pr:p∈zr
 k1:1≤k
 kk:k≤mk
 kl:k≤pl.length
 ln:(pl.length:Int)≤mn
 nd:pl.Nodup
 rg:∀ x∈pl,0≤x∧x < p
def zlb (K:ah):Sp:=fun vs H Q _=>∃ (a:Addr) (ns:List Int) (at' mk mn:Int),vs = [.ref a,.int at',.int mk,.int mn]∧me K H a (ns.map V.int)∧ns.length≤63∧0≤at'∧at'≤1000∧1≤mk∧mk≤5∧mk≤mn∧mn≤16 ∧
 ∀ (c tt:Addr) (p k:Int) (pl:List Int) (H':Hp),H c=none→zu H H'→CodeOk mk mn p k pl→H' c=some (.tup [.int p,.int k,.ref tt])→H' tt=some (.tup (pl.map V.int))→Q (.ref c) H'
theorem zqh {x y m:Int} (h0:0≤m) (h1:m < 2):∃ z:Int,atI [V.int x,V.int y] m=some (.int z)∧(z=x∨z=y):=by
 have:m=0∨m=1:=by lia
 rcases this with e | e <;> subst e
 ·exact⟨x,rfl,.inl rfl⟩
 ·exact⟨y,rfl,.inr rfl⟩
theorem zgS {ns:List Int} {k:Int} (h0:0≤k) (h1:k < ns.length):∃ c:Int,c∈ns∧atI (ns.map V.int) k=some (.int c):=by
 obtain⟨c,e,h⟩:=zmq h0 h1;exact⟨c,aA e,h⟩
theorem zgn {α β:Type} (f:α→β):∀ (l:List α) (k:Nat),(l.map f).eraseIdx k=(l.eraseIdx k).map f
 | [],_=>rfl
 | _ :: _,0=>rfl
 | a :: l,k+1=>by show f a :: (l.map f).eraseIdx k=f a :: (l.eraseIdx k).map f; rw [zgn f l k]
theorem zfc {α:Type}:∀ {l:List α} {k:Nat} {x:α},l[k]? = some x→(x :: l.eraseIdx k).Perm l
 | [],_,_,h=>by simp at h
 | a :: l,0,x,h=>by
  have e:a=x:=by simpa using h
  subst e;exact List.Perm.refl _
 | a :: l,k+1,x,h=>by
  have ih:=zfc (l:=l) (k:=k) (x:=x) (by simpa using h);exact (List.Perm.swap a x _).trans (ih.cons a)
theorem zoq {p:Int} {xs ls:List Int} {k:Nat} {x:Int} (h:ls[k]? = some x) (nd:(xs++ls).Nodup) (rg:∀ y∈xs++ls,0≤y∧y < p):((xs++[x])++ls.eraseIdx k).Nodup∧∀ y∈(xs++[x])++ls.eraseIdx k,0≤y∧y < p:=by
 have hp:((xs++[x])++ls.eraseIdx k).Perm (xs++ls):=by
  rw [bD];exact (zfc h).append_left xs
 exact⟨hp.nodup_iff.mpr nd,fun y hy=>rg y (hp.mem_iff.mp hy)⟩
theorem zlc (p:Int):(zb6 0 p.toNat).Nodup∧∀ y∈zb6 0 p.toNat,0≤y∧y < p:=by
 unfold zb6;constructor
 ·rw [du,cj];exact (du.mp (gL (n:=p.toNat))).imp fun {a b} BL=>by lia
 ·intro y hy;obtain⟨i,hi,e⟩:=az.mp hy;have:=aZ.mp hi;lia
def zej (K:ah):Sp:=fun vs H Q _=>∃ (p x:Int) (a:Addr) (cs:List Int),vs = [.int p,.ref a,.int x]∧(me K H a (cs.map V.int)∨mE K H a (cs.map V.int))∧0 < p∧p≤97∧0≤x∧x < p∧Q (.int (zt p x cs)) H
def zjf (K:ah):Sp:=zej K
theorem zgo {cs:List Int} {i:Nat} {c:Int} (hi:i < cs.length) (h:cs[cs.length - 1 - i]? = some c):cs.drop (cs.length - (i+1))=c :: cs.drop (cs.length - i):=by
 have e:cs.length - (i+1)=cs.length - 1 - i:=by lia
 have mM:cs.length - 1 - i < cs.length:=by lia
 rw [e,cX mM];have:cs[cs.length - 1 - i]=c:=by
  rw [aj mM] at h;exact aV h
 rw [this];congr 2;lia
theorem zaj {cs:List Int} {j:Nat} {x:V} (h:(cs.map V.int)[j]? = some x):∃ c,x = .int c∧cs[j]? = some c:=by
 rw [af] at h;cases e:cs[j]? with
 | none=>rw [e] at h; cases h
 | some c=>rw [e] at h; exact⟨c,(aV h).symm,rfl⟩
theorem zj3 {p x mF power c:Int} {cs:List Int} {i:Nat} (h:cs[i]? = some c):lv p x mF power (cs.drop i)=lv p x ((mF+c*power) % p) (power*x % p) (cs.drop (i+1)):=by
 obtain⟨mM,e⟩:=au.mp h;rw [cX mM,e];rfl
def zjg (K:ah):Sp:=fun vs H Q _=>∃ (p h:Int),vs = [.int p,.int h]∧p∈zr∧0≤h∧h < p∧Q (.int (inv p h)) H
def zqi (σ:L2.St):Nat:=match (σ[4]?:Option (Option V)) with
 | some (some (V.int l))=>l.toNat
 | _=>0
theorem zgT {p prod sq left:Int} {n:Nat} (h0:0 < left) (h1:left < 2 ^ (n+1)):zc1 p (n+1) prod sq left=zc1 p n (if left % 2=1 then prod*sq % p else prod) (sq*sq % p) (left / 2):=by
 show (if 0 < left then _ else _)=_;rw [if_pos h0]
theorem zhZ {p prod sq:Int}:∀ n,zc1 p n prod sq 0=prod
 | 0=>rfl
 | n+1=>by show (if (0:Int) < 0 then _ else prod)=prod; rw [if_neg #[D]]
theorem gY2 {K:ah} {i j:Nat} {T:Addr} {x y:V} {σ:L2.St} {H:Hp} {A B:L2.St→Hp→Prop} (hT:mE K H T [x,y]) (h:A ((σ.set i (some x)).set j (some y)) H) :
  zhF K 2 (zcb (zaZ i) (zcb (zaZ j) zi2)) (.ref T) σ H (fun σ2 H2=>zol σ2 H2 fun b H3=>if b=true then A σ2 H3 else B σ2 H3):=by
 refine⟨T,_,rfl,hT,rfl,x,_,rfl,y,_,rfl,rfl,?_⟩;show (if true=true then A ((σ.set i (some x)).set j (some y)) H else B ((σ.set i (some x)).set j (some y)) H);rw [if_pos rfl];exact h
theorem zh0 {f:Int→Int→Int} {as bs:List Int} {i:Nat} {x y:Int} (hx:as[i]? = some x) (hy:bs[i]? = some y):(bu f as bs).take (i+1)=(bu f as bs).take i++[f x y]:=by
 have e:(bu f as bs)[i]? = some (f x y):=by rw [jG,hx,hy]
 rw [iS,e,j6]
def zpz (K:ah) (H:Hp) (a:Addr) (mi:List (Int×Int)):Prop:=∃ bs:List Addr,me K H a (bs.map V.ref)∧bs.length=mi.length∧∀ (i:Nat) (b:Addr) (q:Int×Int),bs[i]? = some b→mi[i]? = some q→H b=some (.tup [.int q.1,.int q.2])
theorem zh1 (n:Nat):(ap n [V.int 0]).flatten=(ap n (0:Int)).map V.int:=by
 induction n with
 | zero=>rfl
 | succ n ih=>rw [cI,eD,ih,cI]; rfl
theorem zgU {n j:Nat} (h:j < n):ixN n (j:Int)=some j:=by
 unfold ixN;rw [if_pos #[O],if_pos #[O]];rfl
theorem zQ {bs:List Addr} {i:Nat} {x:V} (h:(bs.map V.ref)[i]? = some x):∃ b,x = .ref b∧bs[i]? = some b:=by
 rw [af] at h;cases e:bs[i]? with
 | none=>rw [e] at h; cases h
 | some b=>rw [e] at h; exact⟨b,(aV h).symm,rfl⟩
theorem take_snoc {α:Type} {l:List α} {i:Nat} {x:α} (h:l[i]? = some x):l.take (i+1)=l.take i++[x]:=by
 rw [iS,h,j6]
theorem zfd {α:Type} {l:List α} {i:Nat} {x:α} (h:l[i]? = some x):l=l.take i++x :: l.drop (i+1):=by
 obtain⟨hi,e⟩:=au.mp h; have:=cw i l;rw [cX hi,e] at this;exact this.symm
theorem zmr {f:Int→Int→Int} {as bs:List Int} {n:Nat} (h1:n≤as.length) (h2:n≤bs.length) (h3:as.length≤n∨bs.length≤n):(bu f as bs).length=n:=by
 rw [fV];lia
theorem zd5 {a b:Addr} {as bs:List Int} {n:Nat} {f:Int→Int→Int} {g:TG} {ts:TT} {te:TE} {σ0:L2.St} {Q:VK} {H:Hp} (ha:H a=some (.lst (as.map V.int))) (hb:H b=some (.lst (bs.map V.int))) (h1:n≤as.length) (h2:n≤bs.length) (h3:as.length≤n∨bs.length≤n) (hn:n≤10000)
  (hs:∀ (i:Nat) (x y:Int) (H1:Hp) (T:Addr) (R:VK) (B:L2.St→Hp→Prop),as[i]? = some x→bs[i]? = some y→zu H H1→H1 T=none→R (.int (f x y)) (mh H1 T (.tup [.int x,.int y]))→g (.ref T) σ0 (mh H1 T (.tup [.int x,.int y])) fun σ2 H2=>ts σ2 H2 fun b H3=>if b=true then te σ2 H3 R else B σ2 H3)
  (hd:∀ D H1,zu H H1→H1 D=none→Q (.ref D) (mh H1 D (.lst ((bu f as bs).map V.int)))):cGo g ts te σ0 (zk4 (me K) (me K) a b) Q H:=by
 have hl:=zmr (f:=f) h1 h2 h3;refine zV (n:=n) (fun i ys H'=>ys=((bu f as bs).take i).map V.int∧zu H H') ⟨#[M],fun _ _ e=>e⟩ ?_ ?_ ?_ ?_
 ·rintro i ys H3 hi ⟨_,s3⟩;obtain⟨x,hx⟩:∃ x,as[i]? = some x:=⟨as[i]'#[O],#[M]⟩;obtain⟨y,hy⟩:∃ y,bs[i]? = some y:=⟨bs[i]'#[O],#[M]⟩;exact⟨_,_,.int x,.int y,me.of (s3 _ _ ha),me.of (s3 _ _ hb),by rw [af,hx]; rfl,by rw [af,hy]; rfl⟩
 ·rintro ys H3 ⟨_,s3⟩;exact⟨_,_,me.of (s3 _ _ ha),me.of (s3 _ _ hb),by rw [ab,ab]; exact h3⟩
 ·rintro i x ys H3 H4 hi ⟨rfl,s3⟩ ⟨T,u,v,hT,rfl,rfl,hu,hv⟩;obtain⟨x,rfl,hx⟩:=zaj (hu _ (me.of (s3 _ _ ha)));obtain⟨y,rfl,hy⟩:=zaj (hv _ (me.of (s3 _ _ hb)));refine hs i x y H3 T _ _ hx hy s3 hT ⟨zad ?_,?_,s3.trans (zb hT)⟩
  ·rw [ab];exact aT (eY _ _) #[O]
  ·rw [zh0 hx hy,am];rfl
 ·rintro ys H3 D ⟨rfl,s3⟩ hD;rw [aJ #[O]];exact hd D H3 s3 hD
theorem zce {a:Addr} {xs fs:List V} {g:TG} {ts:TT} {te:TE} {σ0:L2.St} {Q:VK} {H:Hp} (ha:me K H a xs) (hl:fs.length=xs.length) (hn:xs.length≤10000)
  (hs:∀ (i:Nat) (x y:V) (R:VK) (B:L2.St→Hp→Prop),xs[i]? = some x→fs[i]? = some y→R y H→g x σ0 H fun σ2 H2=>ts σ2 H2 fun b H3=>if b=true then te σ2 H3 R else B σ2 H3)
  (hd:∀ D,H D=none→Q (.ref D) (mh H D (.lst fs))):cGo g ts te σ0 (Itl K a) Q H:=by
 refine zV (n:=xs.length) (fun i ys H'=>ys=fs.take i∧H'=H) ⟨#[M],rfl⟩ ?_ ?_ ?_ ?_
 ·rintro i ys H3 hi ⟨_,rfl⟩;exact⟨_,xs[i],ha,#[M]⟩
 ·rintro ys H3 ⟨_,rfl⟩;exact⟨_,ha,ag _⟩
 ·rintro i x ys H3 H4 hi ⟨rfl,rfl⟩ ⟨rfl,hx⟩;have hy:fs[i]? = some fs[i]:=by simp
  refine hs i x fs[i] _ _ (hx _ ha) hy ⟨zad (aT (eY _ _) #[O]),?_,rfl⟩;rw [take_snoc hy]
 ·rintro ys H3 D ⟨rfl,rfl⟩ hD;rw [aJ #[O]];exact hd D hD
theorem zd6 {a:Addr} {xs fs:List V} {g:TG} {ts:TT} {te:TE} {σ0:L2.St} {Q:VK} {H:Hp} (ha:mE K H a xs) (hl:fs.length=xs.length) (hn:xs.length≤10000)
  (hs:∀ (i:Nat) (x y:V) (R:VK) (B:L2.St→Hp→Prop),xs[i]? = some x→fs[i]? = some y→R y H→g x σ0 H fun σ2 H2=>ts σ2 H2 fun b H3=>if b=true then te σ2 H3 R else B σ2 H3)
  (hd:∀ D,H D=none→Q (.ref D) (mh H D (.lst fs))):cGo g ts te σ0 (Itt K a) Q H:=by
 refine zV (n:=xs.length) (fun i ys H'=>ys=fs.take i∧H'=H) ⟨#[M],rfl⟩ ?_ ?_ ?_ ?_
 ·rintro i ys H3 hi ⟨_,rfl⟩;exact⟨_,xs[i],ha,#[M]⟩
 ·rintro ys H3 ⟨_,rfl⟩;exact⟨_,ha,ag _⟩
 ·rintro i x ys H3 H4 hi ⟨rfl,rfl⟩ ⟨rfl,hx⟩;have hy:fs[i]? = some fs[i]:=by simp
  refine hs i x fs[i] _ _ (hx _ ha) hy ⟨zad (aT (eY _ _) #[O]),?_,rfl⟩;rw [take_snoc hy]
 ·rintro ys H3 D ⟨rfl,rfl⟩ hD;rw [aJ #[O]];exact hd D hD
theorem zh2 (ds:List Int) (lo hi:Option Int):∃ ms:List Int,zcK (ds.map V.int) lo hi=ms.map V.int∧ms.length≤ds.length:=by
 refine⟨(ds.drop (HT.sIx (ds.map V.int).length 0 lo)).take (HT.sIx (ds.map V.int).length (ds.map V.int).length hi - HT.sIx (ds.map V.int).length 0 lo),?_,?_⟩
 ·unfold zcK; rw [fR,iJ]
 ·rw [aI,dv];lia
theorem zh3 {ms:List Int} {f:Int→V} {i:Nat} {x y:V} (hx:(ms.map V.int)[i]? = some x) (hy:(ms.map f)[i]? = some y):∃ c,ms[i]? = some c∧x = .int c∧y=f c:=by
 obtain⟨c,rfl,hc⟩:=zaj hx;rw [af,hc] at hy;exact⟨c,hc,rfl,(aV hy).symm⟩
def zgV (K:ah):Sp:=fun vs H Q _=>∃ (a:Addr) (ns:List Int),vs = [.ref a]∧me K H a (ns.map V.int)∧ns.length≤63∧∀ H',Q (.bl true) H'
end
end My
end
section
namespace PySem
abbrev IsZ (h:Heap) (z TI TO:Addr) (f0 f1:Value):Prop:=h.get? z=some { cls:=.type "zip",dict:=none,data:=.fields #[f0,f1,.bool false,.ref TI,.ref TO],slots:=#[] }
def ZF (f0 f1:Value):Prop:=(f0 = .none∨∃ a t,f0 = .int a t)∧∃ b,f1 = .bool b
structure Zap (z TI TO i1 i2:Addr) (rL rM:List Addr):Prop where
 zTI:TI≠z
 zTO:TO≠z
 z1:i1≠z
 z2:i2≠z
 TT:TI≠TO
 T1:TI≠i1
 T2:TI≠i2
 O1:TO≠i1
 O2:TO≠i2
 ii:i1≠i2
 a1:z∉rL
 a2:TO∉rL
 a3:i2∉rL
 b1:z∉rM
 b2:TO∉rM
 b3:i1∉rM
section
variable {prog:Program} {w:World} {A:Around} {E:Value→Shared→Prop} {s:Shared}
theorem zld {a:Addr} {Q:Option Obj→Shared→Prop} (h:Q (s.heap.get? a) s):wpAny (model prog w) A (loadIfAlive a) Q E s:=fun _ _ _=>h
theorem zms {z TI TO:Addr} {f0 f1:Value} {Q:Bool→Shared→Prop} (hz:IsZ s.heap z TI TO f0 f1) (hf:ZF f0 f1) (h1:Q true s)
  (h2:∀ h',IsZ h' z TI TO f0 (.bool true)→bF z s.heap h'→Q false { s with heap:=h' }):wpAny (model prog w) A (cb (.ref z)) Q E s:=by
 obtain⟨hf,b,rfl⟩:=hf;unfold cb; rcases hf with rfl | ⟨a,t,rfl⟩
 ·exact ae (bM hz rfl (x:=.none) rfl (ao h1))
 ·refine ae (bM hz rfl (x:=.int a t) rfl ?_);refine ae (zld ?_);cases s.heap.get? a.toNat with
  | none=>exact ao h1
  | some o =>
   refine ae (bM hz rfl (x:=.bool b) rfl ?_);cases b with
   | true=>exact ao (h2 s.heap hz ⟨rfl,fun _ _=>rfl⟩)
   | false=>exact ae (bU hz #[M] fun h' a' b'=>ao (h2 h' a' b'))
theorem zj4 {z TI TO i1 i2:Addr} {rL rM:List Addr} {n1 n2 k1 k2:Nat} {P1 P2:Nat→Value→Prop} {S1 S2:Nat→Heap→Prop} {f0 f1 a b:Value} {Q:Value→Shared→Prop} (D1:Draws prog w A i1 rL n1 P1 S1) (D2:Draws prog w A i2 rM n2 P2 S2) (Z:Zap z TI TO i1 i2 rL rM)
  (hz:IsZ s.heap z TI TO f0 f1) (hf:ZF f0 f1) (vQ:IsPair s.heap TI (.ref i1) (.ref i2)) (wQ:IsPair s.heap TO a b) (oY:S1 k1 s.heap) (ng:S2 k2 s.heap) (l1:k1 < n1) (l2:k2 < n2)
  (hQ:∀ x y h' tk g0 g1 a' b',P1 k1 x→P2 k2 y→IsZ h' z TI TO g0 g1→ZF g0 g1→IsPair h' TI (.ref i1) (.ref i2)→IsPair h' TO a' b'→S1 (k1+1) h'→S2 (k2+1) h'→IsPair h' s.heap.objs.size x y→h'.objs.size=s.heap.objs.size+1 →
   (∀ c o,c≠z→c≠TO→c≠i1→c≠i2→s.heap.get? c=some o→h'.get? c=some o)→Q (.ref s.heap.objs.size) { s with heap:=h',toks:=tk }):wpAny (model prog w) A (Builtin.«zip.__next__» ⟨[.ref z],[]⟩) (fun fin s'=>∃ v,fin = .done (.ret v)∧Q v s') E s:=by
 obtain⟨hp,g,d,D6,os⟩:=s;show wpAny _ _ (field (.ref z) 2 >>= _) _ _ _; refine ae (bM hz rfl (x:=.bool false) rfl ?_); show wpAny _ _ (field (.ref z) 3 >>= _) _ _ _;refine ae (bM hz rfl (x:=.ref TI) rfl ?_); refine ae (cN vQ rfl ?_);show wpAny _ _ (cb (.ref z) >>= _) _ _ _; refine ae (zms hz hf ?_ fun h0 BM uG=>?_)
 ·simp only [if_true];refine ae (cF (ae (bM hz rfl (x:=.ref TO) rfl ?_)));refine ae (bU hz #[M] fun ha yV t6=>?_);replace yV:IsZ ha z TI TO .ellipsis f1:=yV;replace t6:bF z hp ha:=t6;refine ae ?_;simp only [lg,lE,fc,il]; refine ae (ae (iK ?_)); show wpAny _ _ (bp (.ref i1) >>= _) _ _ _;refine ae (D1.item k1 _ _ _ l1 (D1.frame _ _ _ oY fun c hc o e=>t6.extBut c o (fun q=>Z.a1 (q ▸ hc)) e) fun x hb Cu px Cv n6=>ao ?_);replace n6:bF i1 ha hb:=n6;have xg:IsPair hb TO a b:=n6.extBut _ _ Z.O1 (t6.extBut _ _ Z.zTO wQ);refine ae (cN xg rfl (ae (g8 xg fun hc ye vR=>?_)));replace ye:IsPair hc TO x b:=ye;replace vR:bF TO hb hc:=vR;refine ae (fm (ao (ae (ae (iK ?_))))); show wpAny _ _ (bp (.ref i2) >>= _) _ _ _;refine ae (D2.item k2 _ _ _ l2 (D2.frame _ _ _ ng fun c qE o e=>vR.extBut c o (fun q=>Z.b2 (q ▸ qE)) (n6.extBut c o (fun q=>Z.b3 (q ▸ qE)) (t6.extBut c o (fun q=>Z.b1 (q ▸ qE)) e))) fun y hd Fj py Fk sF=>ao ?_);replace sF:bF i2 hc hd:=sF;have yf:IsPair hd TO x b:=sF.extBut _ _ Z.O2 ye;refine ae (cN yf rfl (ae (g8 yf fun he yg AE=>?_)));replace yg:IsPair he TO x y:=yg;replace AE:bF TO hd he:=AE;refine ae (fm (ao (ao ?_))); refine ae (cN yg rfl (ae (im ?_)));have hsz:he.objs.size=hp.objs.size:=by rw [AE.1,sF.1,vR.1,n6.1,t6.1]
  have hze:IsZ he z TI TO .ellipsis f1:=AE.extBut _ _ Z.zTO.symm (sF.extBut _ _ Z.z2.symm (vR.extBut _ _ Z.zTO.symm (n6.extBut _ _ Z.z1.symm yV)));have kk:∀ c o,c≠z→c≠TO→c≠i1→c≠i2→hp.get? c=some o→he.get? c=some o:=fun c o c1 c2 c3 c4 e=>AE.extBut _ _ c2 (sF.extBut _ _ c4 (vR.extBut _ _ c2 (n6.extBut _ _ c3 (t6.extBut _ _ c1 e))))
  have Fl:S1 (k1+1) he:=D1.frame _ _ _ Cv fun c qE o e=>AE.extBut c o (fun q=>Z.a2 (q ▸ qE)) (sF.extBut c o (fun q=>Z.a3 (q ▸ qE)) (vR.extBut c o (fun q=>Z.a2 (q ▸ qE)) e))
  have Fm:S2 (k2+1) he:=D2.frame _ _ _ Fk fun c qE o e=>AE.extBut c o (fun q=>Z.b2 (q ▸ qE)) e
  have zlt:z < he.objs.size:=aK hze;show wpAny _ _ (c8 (.ref z) (.ref he.objs.size) >>= _) _ _ _;refine ae ?_;unfold c8; have vS:IsZ (he.push { cls:=.type "tuple",data:=.seq #[x,y] }) z TI TO .ellipsis f1:=ai _ hze;refine ae (bU vS #[M] fun h7 Fn yW=>?_);replace Fn:IsZ h7 z TI TO (rawInt he.objs.size) f1:=Fn;refine bU Fn #[M] fun h8 D7 Fo=>ao ⟨_,rfl,?_⟩
  replace D7:IsZ h8 z TI TO (rawInt he.objs.size) (.bool false):=D7;have up:∀ c o,c≠z→he.get? c=some o→h8.get? c=some o:=fun c o c1 e=>Fo.extBut _ _ c1 (yW.extBut _ _ c1 (ai _ e))
  have Cw:IsPair h8 he.objs.size x y:=Fo.extBut _ _ (gf zlt) (yW.extBut _ _ (gf zlt) (aG _ rfl));have xh:h8.objs.size=he.objs.size+1:=by rw [Fo.1,yW.1,bZ]
  show Q (.ref he.objs.size) _;rw [hsz] at D7 Cw xh ⊢;exact hQ x y h8 Fj _ _ _ _ px py D7 ⟨.inr ⟨_,_,rfl⟩,_,rfl⟩ (up _ _ Z.zTI (kk _ _ Z.zTI Z.TT Z.T1 Z.T2 vQ)) (up _ _ Z.zTO yg) (D1.frame _ _ _ Fl fun c qE o e=>up c o (fun q=>Z.a1 (q ▸ qE)) e) (D2.frame _ _ _ Fm fun c qE o e=>up c o (fun q=>Z.b1 (q ▸ qE)) e) Cw xh fun c o c1 c2 c3 c4 e=>up c o c1 (kk c o c1 c2 c3 c4 e)
 ·simp only [br,if_false]; replace uG:bF z hp h0:=uG;rw [show (#[bd i1,bd i2]:Array Value) = [bd i1,bd i2].toArray from rfl];simp only [kC,fc,il];refine ae (ae (ae (b7 ?_))); show wpAny _ _ (bp (.ref i1) >>= _) _ _ _;refine ae (D1.item k1 _ _ _ l1 (D1.frame _ _ _ oY fun c hc o e=>uG.extBut c o (fun q=>Z.a1 (q ▸ hc)) e) fun x hb Cu px Cv n6=>ao (ao ?_));replace n6:bF i1 h0 hb:=n6;refine ae (ae (b7 ?_)); show wpAny _ _ (bp (.ref i2) >>= _) _ _ _;refine ae (D2.item k2 _ _ _ l2 (D2.frame _ _ _ ng fun c qE o e=>n6.extBut c o (fun q=>Z.b3 (q ▸ qE)) (uG.extBut c o (fun q=>Z.b1 (q ▸ qE)) e)) fun y hd Fj py Fk sF=>ao (ao (ao ?_)));replace sF:bF i2 hb hd:=sF;show wpAny _ _ (newTuple [x,y] >>= _) _ _ _;refine ae (im (ao ⟨_,rfl,?_⟩));have hsz:hd.objs.size=hp.objs.size:=by rw [sF.1,n6.1,uG.1]
  have kk:∀ c o,c≠z→c≠TO→c≠i1→c≠i2→hp.get? c=some o→hd.get? c=some o:=fun c o c1 c2 c3 c4 e=>sF.extBut _ _ c4 (n6.extBut _ _ c3 (uG.extBut _ _ c1 e))
  have D8:IsZ hd z TI TO f0 (.bool true):=sF.extBut _ _ Z.z2.symm (n6.extBut _ _ Z.z1.symm BM);have yf:IsPair hd TO a b:=sF.extBut _ _ Z.O2 (n6.extBut _ _ Z.O1 (uG.extBut _ _ Z.zTO wQ));have Fp:S1 (k1+1) hd:=D1.frame _ _ _ Cv fun c qE o e=>sF.extBut c o (fun q=>Z.a3 (q ▸ qE)) e
  have up:∀ c o,hd.get? c=some o→(hd.push { cls:=.type "tuple",data:=.seq #[x,y] }).get? c=some o:=fun c o e=>ai _ e
  have Cw:IsPair (hd.push { cls:=.type "tuple",data:=.seq #[x,y] }) hd.objs.size x y:=aG _ rfl;have xh:(hd.push { cls:=.type "tuple",data:=.seq #[x,y] }).objs.size=hd.objs.size+1:=bZ ..;show Q (.ref hd.objs.size) _;rw [hsz] at Cw xh ⊢;exact hQ x y _ Fj _ _ _ _ px py (up _ _ D8) ⟨hf.1,_,rfl⟩ (up _ _ (kk _ _ Z.zTI Z.TT Z.T1 Z.T2 vQ)) (up _ _ yf) (D1.frame _ _ _ Fp fun c _ o e=>up c o e) (D2.frame _ _ _ Fk fun c _ o e=>up c o e) Cw xh fun c o c1 c2 c3 c4 e=>up c o (kk c o c1 c2 c3 c4 e)
theorem zmt {z TI TO i1 i2:Addr} {rL rM:List Addr} {n1 n2 k1 k2:Nat} {P1 P2:Nat→Value→Prop} {S1 S2:Nat→Heap→Prop} {f0 f1 a b:Value} {Q:Fin→Shared→Prop} (D1:Draws prog w A i1 rL n1 P1 S1) (D2:Draws prog w A i2 rM n2 P2 S2) (Z:Zap z TI TO i1 i2 rL rM)
  (hz:IsZ s.heap z TI TO f0 f1) (hf:ZF f0 f1) (vQ:IsPair s.heap TI (.ref i1) (.ref i2)) (wQ:IsPair s.heap TO a b) (oY:S1 k1 s.heap) (ng:S2 k2 s.heap) (l1:k1=n1∨(k1 < n1∧k2=n2))
  (hE:∀ h' tk e,(∀ c o,c≠z→c≠TO→c≠i1→c≠i2→s.heap.get? c=some o→h'.get? c=some o)→(∃ o,h'.get? e=some o∧o.cls = .type "StopIteration")→E (.ref e) { s with heap:=h',toks:=tk }):wpAny (model prog w) A (Builtin.«zip.__next__» ⟨[.ref z],[]⟩) Q E s:=by
 obtain⟨hp,g,d,D6,os⟩:=s;have nz:∀ {h:Heap} {e:Addr} {o:Obj} {x y:Value},IsZ h z TI TO x y→h.get? e=some o→o.cls = .type "StopIteration"→e≠z:=fun h1 h2 h3 q=>by subst q; rw [h1] at h2; cases h2; simp at h3
 show wpAny _ _ (field (.ref z) 2 >>= _) _ _ _; refine ae (bM hz rfl (x:=.bool false) rfl ?_); show wpAny _ _ (field (.ref z) 3 >>= _) _ _ _;refine ae (bM hz rfl (x:=.ref TI) rfl ?_); refine ae (cN vQ rfl ?_);show wpAny _ _ (cb (.ref z) >>= _) _ _ _; refine ae (zms hz hf ?_ fun h0 BM uG=>?_)
 ·simp only [if_true];refine ae (cF (ae (bM hz rfl (x:=.ref TO) rfl ?_)));refine ae (bU hz #[M] fun ha yV t6=>?_);replace yV:IsZ ha z TI TO .ellipsis f1:=yV;replace t6:bF z hp ha:=t6;refine ae ?_;simp only [lg,lE,fc,il]; refine ae (ae (iK ?_)); show wpAny _ _ (bp (.ref i1) >>= _) _ _ _;have xi:S1 k1 ha:=D1.frame _ _ _ oY fun c hc o e=>t6.extBut c o (fun q=>Z.a1 (q ▸ hc)) e
  rcases l1 with rfl | ⟨l1,rfl⟩
  ·refine ae (D1.done _ _ _ xi fun hb e n6 ⟨oe,Cy,AF⟩=>?_);have hzb:IsZ hb z TI TO .ellipsis f1:=n6 _ _ Z.z1.symm yV;exact bU hzb #[M] fun h3 _ uH=>hE h3 D6 e (fun c o c1 _ c3 _ x=>uH.extBut _ _ c1 (n6 _ _ c3 (t6.extBut _ _ c1 x))) ⟨oe,uH.extBut _ _ (nz hzb Cy AF) Cy,AF⟩
  ·refine ae (D1.item k1 _ _ _ l1 xi fun x hb Cu px Cv n6=>ao ?_);replace n6:bF i1 ha hb:=n6;have xg:IsPair hb TO a b:=n6.extBut _ _ Z.O1 (t6.extBut _ _ Z.zTO wQ);refine ae (cN xg rfl (ae (g8 xg fun hc ye vR=>?_)));replace vR:bF TO hb hc:=vR;refine ae (fm (ao (ae (ae (iK ?_))))); show wpAny _ _ (bp (.ref i2) >>= _) _ _ _;refine ae (D2.done _ _ _ (D2.frame _ _ _ ng fun c qE o e=>vR.extBut c o (fun q=>Z.b2 (q ▸ qE)) (n6.extBut c o (fun q=>Z.b3 (q ▸ qE)) (t6.extBut c o (fun q=>Z.b1 (q ▸ qE)) e))) fun hd e sF ⟨oe,Cy,AF⟩=>?_);have D8:IsZ hd z TI TO .ellipsis f1:=sF _ _ Z.z2.symm (vR.extBut _ _ Z.zTO.symm (n6.extBut _ _ Z.z1.symm yV));exact bU D8 #[M] fun h3 _ uH=>hE h3 Cu e (fun c o c1 c2 c3 c4 x=>uH.extBut _ _ c1 (sF _ _ c4 (vR.extBut _ _ c2 (n6.extBut _ _ c3 (t6.extBut _ _ c1 x))))) ⟨oe,uH.extBut _ _ (nz D8 Cy AF) Cy,AF⟩
 ·simp only [br,if_false]; replace uG:bF z hp h0:=uG;rw [show (#[bd i1,bd i2]:Array Value) = [bd i1,bd i2].toArray from rfl];simp only [kC,fc,il];refine ae (ae (ae (b7 ?_))); show wpAny _ _ (bp (.ref i1) >>= _) _ _ _;have xi:S1 k1 h0:=D1.frame _ _ _ oY fun c hc o e=>uG.extBut c o (fun q=>Z.a1 (q ▸ hc)) e
  rcases l1 with rfl | ⟨l1,rfl⟩
  ·exact ae (D1.done _ _ _ xi fun hb e n6 he=>hE hb D6 e (fun c o c1 _ c3 _ x=>n6 _ _ c3 (uG.extBut _ _ c1 x)) he)
  ·refine ae (D1.item k1 _ _ _ l1 xi fun x hb Cu px Cv n6=>ao (ao ?_));replace n6:bF i1 h0 hb:=n6;refine ae (ae (b7 ?_)); show wpAny _ _ (bp (.ref i2) >>= _) _ _ _;exact ae (D2.done _ _ _ (D2.frame _ _ _ ng fun c qE o e=>n6.extBut c o (fun q=>Z.b3 (q ▸ qE)) (uG.extBut c o (fun q=>Z.b1 (q ▸ qE)) e)) fun hd e sF he=>hE hd Cu e (fun c o c1 _ c3 c4 x=>sF _ _ c4 (n6.extBut _ _ c3 (uG.extBut _ _ c1 x))) he)
theorem zor {e z TI TO i1 i2:Addr} {rL rM:List Addr} {n1 n2 i:Nat} {P1 P2:Nat→Value→Prop} {S1 S2:Nat→Heap→Prop} {f0 f1 a b old:Value} {Q:Option Value→Shared→Prop} (D1:Draws prog w A.in1.in1 i1 rL n1 P1 S1) (D2:Draws prog w A.in1.in1 i2 rM n2 P2 S2) (Z:Zap z TI TO i1 i2 rL rM)
  (he:IsEnum s.heap e z i old) (ez:e≠z) (eT:e≠TI) (eO:e≠TO) (e1:e≠i1) (e2:e≠i2) (ef1:e∉rL) (ef2:e∉rM)
  (hz:IsZ s.heap z TI TO f0 f1) (hf:ZF f0 f1) (vQ:IsPair s.heap TI (.ref i1) (.ref i2)) (wQ:IsPair s.heap TO a b) (oY:S1 i s.heap) (ng:S2 i s.heap) (l1:i < n1) (l2:i < n2)
  (hQ:∀ x y h' tk g0 g1 a' b',P1 i x→P2 i y→IsEnumOut h' e z ((i:Int)+1) (.ref s.heap.objs.size) (s.heap.objs.size+1)→IsZ h' z TI TO g0 g1→ZF g0 g1→IsPair h' TI (.ref i1) (.ref i2)→IsPair h' TO a' b'→S1 (i+1) h'→S2 (i+1) h'→IsPair h' s.heap.objs.size x y →
   IsPair h' (s.heap.objs.size+1) (.int i tk) (.ref s.heap.objs.size)→h'.objs.size=s.heap.objs.size+2 →
   (∀ c o,c≠e→c≠z→c≠TO→c≠i1→c≠i2→s.heap.get? c=some o→h'.get? c=some o)→Q (some (.ref (s.heap.objs.size+1))) { s with heap:=h',toks:=tk+1 }):wpAny (model prog w) A (pyNext (.ref e)) Q E s:=by
 have hT:s.TypeIs (.ref e) "enumerate":=⟨_,he,rfl⟩; have vT:s.TypeIs (.ref z) "zip":=⟨_,hz,rfl⟩;unfold pyNext;refine ae (dq (bJ (name:=bK "__next__") hT fz (bO fz hT jz ?_ (jf _))));obtain⟨hp,g,d,D6,os⟩:=s;show wpAny _ _ (field (.ref e) 2 >>= _) _ _ _; refine ae (bM he rfl (x:=.ref z) rfl (ae ?_));unfold bp; refine ae (bJ (name:=bK "__next__") vT dH (bO dH vT gM ?_ (gD _)));refine zj4 D1 D2 Z hz hf vQ wQ oY ng l1 l2 fun x y h1 tk g0 g1 a' b' px py rK Fq AG AH AI AJ uR AK kk=>ao ?_
 have Fs:IsEnum h1 e z i old:=kk _ _ ez eO e1 e2 he;have elt:e < hp.objs.size:=aK he;show wpAny _ _ (field (.ref e) 3 >>= _) _ _ ⟨h1,g,d,tk,os⟩; refine ae (bM Fs rfl (x:=rawInt i) rfl ?_);show wpAny _ _ (field (.ref e) 4 >>= _) _ _ ⟨h1,g,d,tk,os⟩; refine ae (bM Fs rfl (x:=.none) rfl ?_);show wpAny _ _ (mkInt i >>= _) _ _ ⟨h1,g,d,tk,os⟩; refine ae (wpAny_mkInt ?_);show wpAny _ _ (setField (.ref e) 3 (rawInt ((i:Int)+1)) >>= _) _ _ ⟨h1,g,d,tk+1,os⟩; refine ae (bU Fs #[M] fun h2 Ft oU=>?_);replace oU:bF e h1 h2:=oU;replace Ft:IsEnum h2 e z ((i:Int)+1) old:=Ft;show wpAny _ _ (setField (.ref e) 4 .none >>= _) _ _ ⟨h2,g,d,tk+1,os⟩; refine ae (bU Ft #[M] fun h3 Fu uH=>?_);replace uH:bF e h2 h3:=uH;replace Fu:IsEnum h3 e z ((i:Int)+1) old:=Fu;show wpAny _ _ (newTuple [.int i tk,.ref hp.objs.size] >>= _) _ _ ⟨h3,g,d,tk+1,os⟩; refine ae (im ?_);have z3:h3.objs.size=hp.objs.size+1:=by rw [uH.1,oU.1]; exact AK
 rw [z3];have D9:IsEnum (h3.push { cls:=.type "tuple",data:=.seq #[.int i tk,.ref hp.objs.size] }) e z ((i:Int)+1) old:=ai _ Fu;have Fv:=aG h3 (o:={ cls:=.type "tuple",data:=.seq #[.int i tk,.ref hp.objs.size] }) rfl;rw [z3] at Fv;have k4:∀ c o,c≠e→h1.get? c=some o→(h3.push { cls:=.type "tuple",data:=.seq #[.int i tk,.ref hp.objs.size] }).get? c=some o:=fun c o ce x=>ai _ (uH.extBut c o ce (oU.extBut c o ce x))
 have z4:(h3.push { cls:=.type "tuple",data:=.seq #[.int i tk,.ref hp.objs.size] }).objs.size=hp.objs.size+2:=by rw [bZ,z3]
 generalize h3.push { cls:=.type "tuple",data:=.seq #[.int i tk,.ref hp.objs.size] }=h4 at D9 Fv k4 z4 ⊢;show wpAny _ _ (cb (.ref e) >>= _) _ _ ⟨h4,g,d,tk+1,os⟩;refine ae ?_;unfold cb; refine ae (bM D9 rfl (x:=.none) rfl (ao ?_));simp only [if_true]; refine ae (cF (ae (bM D9 rfl (x:=old) rfl ?_)));refine ae (bU D9 #[M] fun h5 Fw D'=>?_);replace D':bF e h4 h5:=D';replace Fw:IsEnum h5 e z ((i:Int)+1) (.ref hp.objs.size):=Fw;show wpAny _ _ (c8 (.ref e) (.ref (hp.objs.size+1)) >>= _) _ _ ⟨h5,g,d,tk+1,os⟩;refine ae ?_;unfold c8; refine ae (bU Fw #[M] fun h6 Fx Ea=>?_);replace Ea:bF e h5 h6:=Ea;replace Fx:IsEnumOut h6 e z ((i:Int)+1) (.ref hp.objs.size) (hp.objs.size+1):=Fx;refine bU Fx #[M] fun h7 Fy yW=>?_
 replace yW:bF e h6 h7:=yW;replace Fy:IsEnumOut h7 e z ((i:Int)+1) (.ref hp.objs.size) (hp.objs.size+1):=Fy;have up:∀ c o,c≠e→h4.get? c=some o→h7.get? c=some o:=fun c o ce x=>yW.extBut c o ce (Ea.extBut c o ce (D'.extBut c o ce x))
 have z7:h7.objs.size=hp.objs.size+2:=by rw [yW.1,Ea.1,D'.1,z4]
 refine ae (fm (ao ⟨_,rfl,ao ?_⟩));exact hQ x y h7 tk g0 g1 a' b' px py Fy (up _ _ ez.symm (k4 _ _ ez.symm rK)) Fq (up _ _ eT.symm (k4 _ _ eT.symm AG)) (up _ _ eO.symm (k4 _ _ eO.symm AH))
  (D1.frame _ _ _ AI fun c hc o x=>up c o (fun q=>ef1 (q ▸ hc)) (k4 c o (fun q=>ef1 (q ▸ hc)) x)) (D2.frame _ _ _ AJ fun c hc o x=>up c o (fun q=>ef2 (q ▸ hc)) (k4 c o (fun q=>ef2 (q ▸ hc)) x))
  (up _ _ (gf elt) (k4 _ _ (gf elt) uR)) (up _ _ (gf (fq elt)) Fv) z7 fun c o ce cz cO c1 c2 x=>up c o ce (k4 c o ce (kk c o cz cO c1 c2 x))
theorem zqj {e z TI TO i1 i2:Addr} {rL rM:List Addr} {n1 n2 k:Nat} {i:Int} {P1 P2:Nat→Value→Prop} {S1 S2:Nat→Heap→Prop} {f0 f1 a b old:Value} {Q:Option Value→Shared→Prop} (D1:Draws prog w A.in1.in1 i1 rL n1 P1 S1) (D2:Draws prog w A.in1.in1 i2 rM n2 P2 S2) (Z:Zap z TI TO i1 i2 rL rM)
  (he:IsEnum s.heap e z i old) (hz:IsZ s.heap z TI TO f0 f1) (hf:ZF f0 f1) (vQ:IsPair s.heap TI (.ref i1) (.ref i2)) (wQ:IsPair s.heap TO a b) (oY:S1 k s.heap) (ng:S2 k s.heap) (l1:k=n1∨(k < n1∧k=n2))
  (hQ:∀ h' tk,(∀ c o,c≠z→c≠TO→c≠i1→c≠i2→s.heap.get? c=some o→h'.get? c=some o)→Q none { s with heap:=h',toks:=tk }):wpAny (model prog w) A (pyNext (.ref e)) Q E s:=by
 have hT:s.TypeIs (.ref e) "enumerate":=⟨_,he,rfl⟩; have vT:s.TypeIs (.ref z) "zip":=⟨_,hz,rfl⟩;unfold pyNext;refine ae (dq (bJ (name:=bK "__next__") hT fz (bO fz hT jz ?_ (jf _))));show wpAny _ _ (field (.ref e) 2 >>= _) _ _ _; refine ae (bM he rfl (x:=.ref z) rfl (ae ?_));unfold bp; refine ae (bJ (name:=bK "__next__") vT dH (bO dH vT gM ?_ (gD _)));refine zmt D1 D2 Z hz hf vQ wQ oY ng l1 fun h' tk x kk ⟨o,ho,hc⟩=>?_
 exact ae (fL (T:="StopIteration") (b:=true) ⟨o,ho,hc⟩ ij (ao (hQ h' tk kk)))
end
def zgW (x y:Value):Obj:={ cls:=.type "tuple",data:=.seq #[x,y] }
def zrp (a b:Addr):Obj:={ cls:=.type "zip",data:=.fields #[.none,.bool false,.bool false,.ref a,.ref b] }
def itO (C:String) (l:Addr):Obj:={ cls:=.type C,data:=.fields #[.ref l,.int 0 0] }
abbrev zt2 (C:String) (h:Heap) (l1 l2:Addr):Heap:=(h.push (zcH l1)).push (itO C l2)
abbrev zt4 (C:String) (h:Heap) (l1 l2:Addr):Heap:=((zt2 C h l1 l2).push (zgW (.ref h.objs.size) (.ref (h.push (zcH l1)).objs.size))).push (zgW .none .none)
abbrev zt5 (C:String) (h:Heap) (l1 l2:Addr):Heap:=(zt4 C h l1 l2).push (zrp (zt2 C h l1 l2).objs.size ((zt2 C h l1 l2).push (zgW (.ref h.objs.size) (.ref (h.push (zcH l1)).objs.size))).objs.size)
def ItC (C:String) (h:Heap) (a l:Addr) (i:Nat):Prop:=∃ o,h.get? a=some o∧o.cls = .type C∧o.data = .fields #[.ref l,.int i 0]
structure SkH (C:String) (Is:Heap→Addr→Array Value→Prop):Prop where
 it:∀ {prog:Program} {w:World} {A:Around} {E:Value→Shared→Prop} {s:Shared} {l:Addr} {items:Array Value} {Q:Value→Shared→Prop},Is s.heap l items→Q (.ref s.heap.objs.size) { s with heap:=s.heap.push (itO C l) }→wpAny (model prog w) A (pyIter (.ref l)) Q E s
 pu:∀ {h:Heap} {l:Addr} {items:Array Value} (o:Obj),Is h l items→Is (h.push o) l items
 dr:∀ {prog:Program} {w:World} {A:Around},A.handled=none→∀ (it l:Addr),l≠it→∀ (items:Array Value),Draws prog w A it [it,l] items.size (fun i v=>items[i]? = some v) fun i h=>ItC C h it l i∧Is h l items
theorem skL:SkH "list_iterator" Heap.IsList:=⟨fun h q=>gB h q,fun o h=>Heap.IsList.push h o,fun hh it l ne items=>gq hh it l ne items⟩
theorem zh4 {C:String} {Is:Heap→Addr→Array Value→Prop} (S:SkH C Is) (l1 l2:Addr) (xs ys:Array Value):Meets (Builtin.«zip.__new__» ⟨[.type "zip",.ref l1,.ref l2],[]⟩) (fun _ R s=>s.heap.IsTuple l1 xs∧Is s.heap l2 ys∧R (.ok (.ret (.ref (zt4 C s.heap l1 l2).objs.size))) { s with heap:=zt5 C s.heap l1 l2 }) :=
 .of_wp fun prog w A R s h=>by
  obtain⟨hp,g,d,tk,os⟩:=s; obtain⟨vP,qJ,h⟩:=h; have yh:=sub_zip;have yi:Heap.IsTuple (kW ⟨hp,g,d,tk,os⟩) l1 xs:=vP;have BN:Is (kW ⟨hp.push { cls:=.type "tuple_iterator",data:=.fields #[.ref l1,.int 0 0] },g,d,tk,os⟩) l2 ys:=S.pu _ qJ
  wp_walk using iz yi,S.it BN
  exact⟨_,rfl,h⟩
section
variable {prog:Program} {w:World} {A:Around} {E:Value→Shared→Prop} {s:Shared}
theorem zfe {C:String} {Is:Heap→Addr→Array Value→Prop} (S:SkH C Is) {l1 l2:Addr} {xs ys:Array Value} {Q:Value→Shared→Prop} (vP:s.heap.IsTuple l1 xs) (qJ:Is s.heap l2 ys)
  (h:∀ h' n,n=s.heap.objs.size→IsZ h' (n+4) (n+2) (n+3) .none (.bool false)→IsPair h' (n+2) (.ref n) (.ref (n+1))→IsPair h' (n+3) .none .none→h'.IsTupleIter n l1 0→ItC C h' (n+1) l2 0→h'.objs.size=n+5 →
   (∀ c o,s.heap.get? c=some o→h'.get? c=some o)→Q (.ref (n+4)) { s with heap:=h' }):wpAny (model prog w) A (call (.type "zip") [.ref l1,.ref l2]) Q E s:=by
 refine kB F.called_zip #[D] (F.typeCall_zip_2 _ _) (F.newCall_zip_2 _ _) (fun obj=>F.args_object_init_3 obj _ _) F.entry_zip_new (zh4 S l1 l2 xs ys) ⟨vP,qJ,?_⟩;have z1:(s.heap.push (zcH l1)).objs.size=s.heap.objs.size+1:=bZ ..;have z2:(zt2 C s.heap l1 l2).objs.size=s.heap.objs.size+2:=by rw [bZ,z1]
 have z3:((zt2 C s.heap l1 l2).push (zgW (.ref s.heap.objs.size) (.ref (s.heap.push (zcH l1)).objs.size))).objs.size=s.heap.objs.size+3:=by rw [bZ,z2]
 have z4:(zt4 C s.heap l1 l2).objs.size=s.heap.objs.size+4:=by rw [bZ,z3]
 have g5:=aG (zt4 C s.heap l1 l2) (o:=zrp (zt2 C s.heap l1 l2).objs.size ((zt2 C s.heap l1 l2).push (zgW (.ref s.heap.objs.size) (.ref (s.heap.push (zcH l1)).objs.size))).objs.size) rfl;have g4:(zt5 C s.heap l1 l2).get? _=some _:=ai _ (aG ((zt2 C s.heap l1 l2).push (zgW (.ref s.heap.objs.size) (.ref (s.heap.push (zcH l1)).objs.size))) (o:=zgW .none .none) rfl);have g3:(zt5 C s.heap l1 l2).get? _=some _:=ai _ (ai _ (aG (zt2 C s.heap l1 l2) (o:=zgW (.ref s.heap.objs.size) (.ref (s.heap.push (zcH l1)).objs.size)) rfl));have g2:(zt5 C s.heap l1 l2).get? _=some _:=ai _ (ai _ (ai _ (aG (s.heap.push (zcH l1)) (o:=itO C l2) rfl)));have g1:(zt5 C s.heap l1 l2).get? s.heap.objs.size=some (zcH l1):=ai _ (ai _ (ai _ (ai _ (aG _ rfl))));have z5:(zt5 C s.heap l1 l2).objs.size=s.heap.objs.size+5:=by rw [bZ,z4]
 have k5:∀ c o,s.heap.get? c=some o→(zt5 C s.heap l1 l2).get? c=some o:=fun c o x=>ai _ (ai _ (ai _ (ai _ (ai _ x))))
 show _∧_;rw [z4] at g5 ⊢;rw [z3] at g4;rw [z2] at g3;rw [z1] at g2;refine⟨⟨_,g5,rfl⟩,h _ _ rfl ?_ ?_ g4 ⟨_,g1,rfl,rfl⟩ ⟨_,g2,rfl,rfl⟩ z5 k5⟩
 ·have:IsZ (zt5 C s.heap l1 l2) (s.heap.objs.size+4) (zt2 C s.heap l1 l2).objs.size ((zt2 C s.heap l1 l2).push (zgW (.ref s.heap.objs.size) (.ref (s.heap.push (zcH l1)).objs.size))).objs.size .none (.bool false):=g5;rw [z2,z3] at this;exact this
 ·have:IsPair (zt5 C s.heap l1 l2) (s.heap.objs.size+2) (.ref s.heap.objs.size) (.ref (s.heap.push (zcH l1)).objs.size):=g3;rw [z1] at this;exact this
theorem zjh {l1 l2:Addr} {xs ys:Array Value} {Q:Value→Shared→Prop} (vP:s.heap.IsTuple l1 xs) (qJ:s.heap.IsList l2 ys)
  (h:∀ h' n,n=s.heap.objs.size→IsZ h' (n+4) (n+2) (n+3) .none (.bool false)→IsPair h' (n+2) (.ref n) (.ref (n+1))→IsPair h' (n+3) .none .none→h'.IsTupleIter n l1 0→h'.IsListIter (n+1) l2 0→h'.objs.size=n+5 →
   (∀ c o,s.heap.get? c=some o→h'.get? c=some o)→Q (.ref (n+4)) { s with heap:=h' }):wpAny (model prog w) A (call (.type "zip") [.ref l1,.ref l2]) Q E s:=zfe skL vP qJ h
end
open AutoSeq1 (wpAny_loadPart') in
theorem zh5 (z TI TO:Addr) (f0:Value):Meets (Builtin.«enumerate.__new__» ⟨[.type "enumerate",.ref z],[]⟩) (fun _ R s=>IsZip s.heap z TI TO f0∧R (.ok (.ret (.ref s.heap.objs.size))) { s with heap:=s.heap.push (zmh z) }) :=
 .of_wp fun prog w A R s h=>by
  obtain⟨hp,g,d,tk,os⟩:=s; obtain⟨hz,h⟩:=h;have hZ:IsZip (kW ⟨hp,g,d,tk,os⟩) z TI TO f0:=hz;have yh:=sub_enumerate; wp_walk using jl hz;refine wpAny_stack_any fun st=>ao ?_; split
  ·rename_i c _ _ _ _ _; cases (c == Value.type "enumerate") <;> (wp_walk using jl hz,gK hZ; exact⟨_,rfl,h⟩)
  ·wp_walk using jl hz,gK hZ; exact⟨_,rfl,h⟩
theorem zji {prog:Program} {w:World} {A:Around} {E:Value→Shared→Prop} {s:Shared} {z TI TO:Addr} {f0:Value} {Q:Value→Shared→Prop} (hz:IsZip s.heap z TI TO f0)
  (h:∀ h',IsEnum h' s.heap.objs.size z 0 .none→h'.objs.size=s.heap.objs.size+1→(∀ b o,s.heap.get? b=some o→h'.get? b=some o)→Q (.ref s.heap.objs.size) { s with heap:=h' }):wpAny (model prog w) A (call (.type "enumerate") [.ref z]) Q E s:=by
 refine kB F.called_enumerate #[D] (F.typeCall_enumerate_1 _) (F.newCall_enumerate_1 _) (fun obj=>jT obj _) F.entry_enumerate_new (zh5 z TI TO f0) ⟨hz,?_⟩;have he:=aG s.heap (o:=zmh z) rfl;exact⟨⟨_,he,rfl⟩,h _ he (bZ ..) fun b o x=>ai _ x⟩
end PySem
end
section
namespace L2
open PySem PySem.Spec PyProof.Rows
def zos (sy sC:Hp→Addr→List V→Prop) (a b:Addr):It :=
 ⟨fun i H=>∃ xs ys x y,sy H a xs∧sC H b ys∧xs[i]? = some x∧ys[i]? = some y,
  fun i H x H'=>∃ T1 T2 u v,H T1=none∧H T2=none∧T1≠T2∧x = .ref T2∧H'=mh (mh H T1 (.tup [u,v])) T2 (.tup [.int i,.ref T1])∧(∀ xs,sy H a xs→xs[i]? = some u)∧∀ ys,sC H b ys→ys[i]? = some v,
  fun i H=>∃ xs ys,sy H a xs∧sC H b ys∧xs.length=i⟩
abbrev zff (n:Nat):List Addr:=[n+5,n+4,n+2,n+3,n,n+1]
abbrev zqk (n a b:Nat) (i:Nat) (h:Heap):Prop:=(∃ old,IsEnum h (n+5) (n+4) i old)∧(∃ f0 f1,IsZ h (n+4) (n+2) (n+3) f0 f1∧ZF f0 f1)∧IsPair h (n+2) (.ref n) (.ref (n+1))∧(∃ u v,IsPair h (n+3) u v)∧h.IsTupleIter n a i∧h.IsListIter (n+1) b i
theorem nq {x y:Nat} (h:x≠y):@Ne Addr x y:=h
theorem nl {x y:Nat} (h:x < y):@LT.lt Nat _ x y:=h
theorem nm2 {c x y:Nat} (h1:c≠x) (h2:c≠y):¬ @Membership.mem Addr (List Addr) _ [x,y] c:=fun h=>by
 rcases aF.mp h with e | e
 ·exact h1 e
 ·exact h2 (aW.mp e)
theorem zc3 {n a b:Nat} (ha:a < n) (hb:b < n):Zap (n+4) (n+2) (n+3) n (n+1) [n,a] [n+1,b] :=
 ⟨nq #[O],nq #[O],nq #[O],nq #[O],nq #[O],nq #[O],nq #[O],nq #[O],nq #[O],nq #[O],nm2 #[O] #[O],nm2 #[O] #[O],nm2 #[O] #[O],nm2 #[O] #[O],nm2 #[O] #[O],nm2 #[O] #[O]⟩
theorem zot {P:Program} {w:World} {K:ah} {es:List Expr} {k:Nat} {pos:Pos} (a b n:Nat) (ha:a < n) (hb:b < n):Turn P w K (.Tuple es k pos) (zos (mE K) (me K) a b) (zff n) (n+5) (zqk n a b) where
 mem:=by simp
 obj:=fun i h st c hc=>by
  obtain⟨⟨old,h0⟩,⟨f0,f1,h1,_⟩,h2,⟨u,v,h3⟩,⟨o4,e4,_,d4⟩,⟨o5,e5,_,d5⟩⟩:=st;simp only [zff,aF,be,or_false] at hc;rcases hc with z | z | z | z | z | z <;> subst z
  ·exact⟨_,h0,fun v z=>by cases z⟩
  ·exact⟨_,h1,fun v z=>by cases z⟩
  ·exact⟨_,h2,fun v z=>by cases z⟩
  ·exact⟨_,h3,fun v z=>by cases z⟩
  ·exact⟨_,e4,fun v z=>by rw [d4] at z; cases z⟩
  ·exact⟨_,e5,fun v z=>by rw [d5] at z; cases z⟩
 keep:=fun i h h' st kk=>by
  obtain⟨⟨old,h0⟩,⟨f0,f1,h1,hf⟩,h2,⟨u,v,h3⟩,h4,h5⟩:=st;exact⟨⟨old,kk _ #[M] _ h0⟩,⟨f0,f1,kk _ #[M] _ h1,hf⟩,kk _ #[M] _ h2,⟨u,v,kk _ #[M] _ h3⟩,h4.at fun o eo=>kk _ #[M] o eo,h5.at fun o eo=>kk _ #[M] o eo⟩
 item:=by
  intro X hP hw hK hc i l3 s σ H E I hf st hg;subst hP hw hK;obtain⟨xs,ys,x,y,pX,oC,hx,hy⟩:=hg;obtain⟨⟨old,h0⟩,⟨f0,f1,h1,vS⟩,h2,⟨u0,v0,h3⟩,h4,h5⟩:=st;obtain⟨mZ,sE,p1,rK⟩:=I.tuple pX;obtain⟨mT,sP,p2,uF⟩:=I.list oC;obtain⟨u,hu,ru⟩:=sE.get hx;obtain⟨v,hv,rv⟩:=sP.get hy;have xa:n+5 < s.heap.objs.size:=aK h0;have hh:X.A.in1.in1.handled=none:=by simp [I.ok.hd hc]
  have qC:i < mZ.toArray.size:=by have:=(au.mp hu).1; simpa using this
  have qD:i < mT.toArray.size:=by have:=(au.mp hv).1; simpa using this
  refine zor (Draws.tuple hh n a (nq #[O]) mZ.toArray) (gq hh (n+1) b (nq #[O]) mT.toArray) (zc3 ha hb) h0 (nq #[O]) (nq #[O]) (nq #[O]) (nq #[O]) (nq #[O]) (nm2 #[O] #[O]) (nm2 #[O] #[O]) h1 vS h2 h3 ⟨h4,(show s.heap.IsTuple a mZ.toArray from p1)⟩ ⟨h5,p2.isList⟩ qC qD
   fun x' y' h' tk g0 g1 a' b' px py eo ez Cz e2 e3 t4 t5 pp pe hsz kk=>?_
  have eu:x'=u:=by
   have e1:mZ[i]? = some x':=by simpa using px
   rw [hu] at e1; exact (aV e1).symm
  have ev:y'=v:=by
   have e1:mT[i]? = some y':=by simpa using py
   rw [hv] at e1; exact (aV e1).symm
  subst eu ev;have ch:∀ c∈[n+5,n+4,n+3,n,n+1],c∈zff n:=fun c mC=>by
   simp only [zff,aF,be,or_false] at mC ⊢;rcases mC with z | z | z | z | z <;> subst z <;> simp
  have k1:∀ c o,c∉[n+5,n+4,n+3,n,n+1]→s.heap.get? c=some o→h'.get? c=some o:=fun c o mC eo=>by
   simp only [aF,be,or_false,not_or] at mC;exact kk c o mC.1 mC.2.1 mC.2.2.1 mC.2.2.2.1 mC.2.2.2.2 eo
  have Az:∀ c∈[n+5,n+4,n+3,n,n+1],∃ o,h'.get? c=some o:=fun c mC=>by
   simp only [aF,be,or_false] at mC;rcases mC with z | z | z | z | z <;> subst z
   ·exact⟨_,eo⟩
   ·exact⟨_,ez⟩
   ·exact⟨_,e3⟩
   ·obtain⟨o,e,_⟩:=t4.1; exact⟨o,e⟩
   ·obtain⟨o,e,_⟩:=t5.1; exact⟨o,e⟩
  have I1:Inv X l3 σ (mh H s.heap.objs.size (.tup [x,y])) { s with heap:=h',toks:=tk+1 } :=
   I.turnedNew k1 (fun c mC=>hf c (ch c mC)) Az (ag _) ⟨zaP,_,.cons ru (.cons rv .nil),zbQ pp⟩
  have uC:H (s.heap.objs.size+1)=none:=I.hok.fresh (gH _);have Fz:mh H s.heap.objs.size (.tup [x,y]) (s.heap.objs.size+1)=none:=by rw [zn (i6 _)]; exact uC
  obtain⟨_,a1,a2,a3,a4,a5⟩:=I.fpOk (H':=H) (gH s.heap.objs.size) uC;have I1':Inv X l3 σ (mh (mh H s.heap.objs.size (.tup [x,y])) (s.heap.objs.size+1) (.tup [.int i,.ref s.heap.objs.size])) { s with heap:=h',toks:=tk+1 } :=
   I1.track Fz (aT I.sz (gH _)) (dj a1) a4 a5 ⟨zaP,_,.cons ⟨tk,rfl⟩ (.cons rfl .nil),zbQ pe⟩
  refine⟨_,rfl,iH eo fun xR uQ oV=>?_⟩;have fr:∀ c∈zff n,mh (mh H s.heap.objs.size (.tup [x,y])) (s.heap.objs.size+1) (.tup [.int i,.ref s.heap.objs.size]) c=none:=fun c mC=>by
   have mM:c < s.heap.objs.size:=by
    simp only [zff,aF,be,or_false] at mC;rcases mC with z | z | z | z | z | z <;> subst z <;> exact nl #[O]
   rw [zn (bz (fq mM)),zn (bz mM)];exact (hf c mC).1
  have I2:Inv X l3 σ (mh (mh H s.heap.objs.size (.tup [x,y])) (s.heap.objs.size+1) (.tup [.int i,.ref s.heap.objs.size])) { s with heap:=xR,toks:=tk+1 } :=
   Inv.turnedL (s:={ s with heap:=h',toks:=tk+1 }) (ch:=[n+5]) (t':=tk+1) I1' (fun c o mC eo=>oV.extBut c o (by simpa using mC) eo) (fun c mC=>by
    have z:c=n+5:=by simpa using mC
    subst z;exact⟨fr _ #[M],(hf _ #[M]).2⟩) (fun c mC=>by
    have z:c=n+5:=by simpa using mC
    subst z;exact⟨_,uQ⟩)
  have up:∀ c o,c≠n+5→h'.get? c=some o→xR.get? c=some o:=fun c o mC e=>oV.extBut c o mC e
  exact⟨.ref (s.heap.objs.size+1),_,I2,rfl,⟨_,_,x,y,I.fresh,uC,bz (k8 _),rfl,rfl,fun zs hz=>by rw [I.tuple_inj hz pX]; exact hx,fun zs hz=>by rw [I.list_inj hz oC]; exact hy⟩,
   ⟨⟨_,by simpa using uQ⟩,⟨g0,g1,up _ _ (nq #[O]) ez,Cz⟩,up _ _ (nq #[O]) e2,⟨_,_,up _ _ (nq #[O]) e3⟩,t4.1.at fun o e=>up _ o (nq #[O]) e,t5.1.at fun o e=>up _ o (nq #[O]) e⟩,fr⟩
 done:=by
  intro X hP hw hK hc i l3 s σ H E I hf st hg;subst hP hw hK;obtain⟨xs,ys,pX,oC,hx⟩:=hg;obtain⟨⟨old,h0⟩,⟨f0,f1,h1,vS⟩,h2,⟨u0,v0,h3⟩,h4,h5⟩:=st;obtain⟨mZ,sE,p1,rK⟩:=I.tuple pX;obtain⟨mT,sP,p2,uF⟩:=I.list oC;have hh:X.A.in1.in1.handled=none:=by simp [I.ok.hd hc]
  have vP:=sE.length;refine zqj (Draws.tuple hh n a (nq #[O]) mZ.toArray) (gq hh (n+1) b (nq #[O]) mT.toArray) (zc3 ha hb) h0 h1 vS h2 h3 ⟨h4,(show s.heap.IsTuple a mZ.toArray from p1)⟩ ⟨h5,p2.isList⟩ (.inl (by rw [ar]; lia)) fun h' tk kk=>⟨rfl,?_⟩
  have sub:∀ c∈[n+4,n+3,n,n+1],c∈zff n:=fun c mC=>by
   simp only [zff,aF,be,or_false] at mC ⊢;rcases mC with z | z | z | z <;> subst z <;> simp
  have k1:∀ c o,c∉[n+4,n+3,n,n+1]→s.heap.get? c=some o→h'.get? c=some o:=fun c o mC e=>by
   simp only [aF,be,or_false,not_or] at mC;exact kk c o mC.1 mC.2.1 mC.2.2.1 mC.2.2.2 e
  have tW:∀ d u',H d=some u'→d∉[n+4,n+3,n,n+1]:=fun d u' e' hd=>by rw [(hf d (sub d hd)).1] at e'; cases e'
  refine I.step (g':=s.gens) (d':=s.drawn) (t':=tk) (ch:=[n+4,n+3,n,n+1]) (fun c mC=>?_) (fun c o _ _ ni e _=>k1 c o ni e) (fun c o _ _ ni e _=>⟨o.slots,k1 c o ni e⟩) (fun _ _ _ _ n=>n)
   (fun c o ni e=>⟨o,k1 c o ni e⟩) (fun _ _ e=>e) (fun _ _ _ e=>e) (fun c ps e=>⟨#[],by rw [e]; simp⟩) (fun m hm=>?_) (fun c u e=>?_) I.bare
  ·obtain⟨_,a1,_,a3,a4,a5⟩:=hf c (sub c mC);exact⟨a3,a1,a4,a5⟩
  ·obtain⟨o,wK,ep,ho,r⟩:=hm;exact⟨o,wK,ep,k1 _ o (fun z=>(hf _ (sub _ z)).2.1 rfl) ho,r⟩
  ·refine (I.hok c u e).stay (fun d v' hd q=>k1 d v' ?_ q) (fun _ q=>q) fun _ _ q=>q
   rcases hd with z | z
   ·rw [z]; exact tW c u e
   ·exact tW d _ z
 self:=fun _ _ _ _ _ st h=>by
  obtain⟨⟨old,he⟩,_⟩:=st;exact gC he h
def iEZ (sy sC:Hp→Addr→List V→Prop) (ta:TA):TI:=fun σ H R=>ta σ H fun vs H1=>∃ a b xs ys,vs = [.ref a,.ref b]∧sy H1 a xs∧sC H1 b ys∧R (zos sy sC a b) H1
theorem zjj {X:Cx} {es:List Expr} {k:Nat} {pW p p2 pos oW:Pos} {a b:Expr} {ta:TA} (hg:Gl X "enumerate") (hm:X.mg "enumerate" = none) (yj:Gl X "zip") (uI:X.mg "zip" = none) (ha:PA X [a,b] ta) (hs:starEach [a,b] X.env = [(false,eval a X.env),(false,eval b X.env)]:=by rfl) (oU:starEach [b] X.env = [(false,eval b X.env)]:=by rfl)
  (uH:starEach [.Call (.Name "zip" p2) [a,b] [] oW] X.env = [(false,eval (.Call (.Name "zip" p2) [a,b] [] oW) X.env)]:=by rfl) :
  PI X (.Tuple es k pW) (.Call (.Name "enumerate" p) [.Call (.Name "zip" p2) [a,b] [] oW] [] pos) (iEZ (mE X.K) (me X.K) ta):=by
 intro l3 s σ H R I h;refine Call_ (zbe I hg hm boot_enumerate (bA ?_ uH rfl));rw [uH];show wpAny _ _ (spliced ((false,eval (.Call (.Name "zip" p2) [a,b] [] oW) X.env) :: [])) _ _ s;refine dZ ?_;refine Call_ (zbe I yj uI k9 (bA (thn (ha oW l3 s σ H _ I h) fun us s1 ⟨vs,H1,I1,r1,q1⟩=>?_) (by rw [hs,oU]) (by rw [oU]; rfl)));obtain⟨l1,l2,xs,ys,e,pX,oC,q⟩:=q1;subst e;cases r1 with
 | cons r rr =>
  cases rr with
  | cons r' rr =>
   cases rr;cases r;cases r';obtain⟨mZ,sE,xc,rK⟩:=I1.tuple pX;obtain⟨mT,sP,xS,uF⟩:=I1.list oC;have qC:l1 < s1.heap.objs.size:=by obtain⟨_,e,_⟩:=xc; exact aK e
   have qD:l2 < s1.heap.objs.size:=by obtain⟨_,_,e,_⟩:=xS; exact aK e
   refine zjh (show s1.heap.IsTuple l1 mZ.toArray from xc) xS.isList fun h' n hn b1 b2 b3 b4 b5 b6 kk=>?_
   refine fo ?_;refine zji b1 fun h2 he hsz xT=>?_
   have I2:Inv X l3 σ H1 { s1 with heap:=h2 }:=I1.kept (t':=s1.toks) fun c o e=>xT c o (kk c o e)
   refine gC he ?_; have e5:h'.objs.size=n+5:=b6;have AD:IsEnum h2 (n+5) (n+4) 0 .none:=by rw [← e5]; exact he
   refine⟨_,zff n,zqk n l1 l2,zos (mE X.K) (me X.K) l1 l2,H1,rfl,I2,?_,⟨⟨_,AD⟩,⟨_,_,xT _ _ b1,.inl rfl,_,rfl⟩,xT _ _ b2,⟨_,_,xT _ _ b3⟩,b4.at fun o e=>xT _ o e,b5.at fun o e=>xT _ o e⟩,fun c hc=>?_,q⟩
   ·show Turn X.prog X.w X.K (.Tuple es k pW) (zos (mE X.K) (me X.K) l1 l2) (zff n) h'.objs.size (zqk n l1 l2);rw [e5];exact zot l1 l2 n (by rw [hn]; exact qC) (by rw [hn]; exact qD)
   ·have hle:s1.heap.objs.size≤c:=by
     simp only [zff,aF,be,or_false] at hc;rw [← hn];rcases hc with z | z | z | z | z | z <;> subst z
     all_goals first | exact fM _ _ | exact ag _
    exact I1.fpOk hle (I1.hok.fresh hle)
theorem zjk {K:ah} {i j:Nat}:∀ (x:V) (σ:St) (H:Hp) (Q Q':St→Hp→Prop),(∀ σ' H',Q σ' H'→Q' σ' H')→zhF K 2 (zcb (zaZ i) (zcb (zaZ j) zi2)) x σ H Q→zhF K 2 (zcb (zaZ i) (zcb (zaZ j) zi2)) x σ H Q':=fun x σ H Q Q' hq ⟨a,xs,e1,h1,h2,v,r,e3,v2,r2,e4,e5,h⟩=>⟨a,xs,e1,h1,h2,v,r,e3,v2,r2,e4,e5,hq _ _ h⟩
end L2
end
section
namespace My
open PySem L2 PyProof.Rows
section
variable {K:ah}
def zr5 (H:Hp):V→Option (List V)
 | .ref a=>match H a with
  | some (.lst xs)=>some xs
  | _=>none
 | _=>none
def zb7 (H:Hp) (c tt:Addr) (p k:Int) (pl:List Int):Prop:=H c=some (.tup [.int p,.int k,.ref tt])∧H tt=some (.tup (pl.map V.int))
theorem zb7.same {H H':Hp} {c tt:Addr} {p k:Int} {pl:List Int} (s:zu H H') (h:zb7 H c tt p k pl):zb7 H' c tt p k pl:=⟨s _ _ h.1,s _ _ h.2⟩
theorem zd7 {a:Addr} {xs:List V} {kp:V→Bool} {f:V→V} {g:TG} {ts:TT} {te:TE} {σ0:L2.St} {Q:VK} {H:Hp} (ha:me K H a xs) (hn:xs.length≤10000)
  (hs:∀ (i:Nat) (x:V) (R:VK) (B:Hp→Prop),xs[i]? = some x→(if kp x=true then R (f x) H else B H)→g x σ0 H fun σ2 H2=>ts σ2 H2 fun b H3=>if b=true then te σ2 H3 R else B H3)
  (hd:∀ D,H D=none→Q (.ref D) (mh H D (.lst ((xs.filter kp).map f)))):cGo g ts te σ0 (Itl K a) Q H:=by
 refine zV (n:=xs.length) (fun i ys H'=>ys=((xs.take i).filter kp).map f∧H'=H) ⟨#[M],rfl⟩ ?_ ?_ ?_ ?_
 ·rintro i ys H3 hi ⟨_,rfl⟩;exact⟨_,xs[i],ha,#[M]⟩
 ·rintro ys H3 ⟨_,rfl⟩;exact⟨_,ha,ag _⟩
 ·rintro i x ys H3 H4 hi ⟨rfl,rfl⟩ ⟨rfl,hx⟩;refine hs i x _ _ (hx _ ha) ?_;rw [take_snoc (hx _ ha),cn,am];by_cases h:kp x=true
  ·rw [if_pos h];refine⟨zad ?_,?_,rfl⟩
   ·rw [ab];exact aT (cg _ _) (aT (eY _ _) #[O])
   ·congr 1;simp [h]
  ·rw [if_neg h];refine⟨?_,rfl⟩;simp [h]
 ·rintro ys H3 D ⟨rfl,rfl⟩ hD;rw [ci];exact hd D hD
def pK:Option Int→V
 | none=>.non
 | some i=>.int i
def zcI (p:Int) (pl:List Int) (rw:List (Option Int)) (mK:List Int) (j:Nat):Bool:=match pl[j]?,rw[j]? with
 | some x,some (some i)=>decide (i=zt p x mK)
 | _,_=>false
def zdF (p:Int) (pl:List Int) (rw:List (Option Int)) (mK:List Int) (n:Nat):List Int:=((av n).filter (zcI p pl rw mK)).map fun (j:Nat)=>(j:Int)
theorem zgp {p:Int} {pl:List Int} {rw:List (Option Int)} {mK:List Int} {n:Nat}:zdF p pl rw mK (n+1)=zdF p pl rw mK n++if zcI p pl rw mK n then [(n:Int)] else []:=by
 unfold zdF;rw [bX,cn,am];congr 1;by_cases h:zcI p pl rw mK n=true
 ·rw [if_pos h]; simp [h]
 ·rw [if_neg h]; simp [h]
theorem zh6 (p:Int) (pl:List Int) (rw:List (Option Int)) (mK:List Int) (n:Nat):(zdF p pl rw mK n).length≤n:=by
 unfold zdF;rw [ab];exact aT (cg _ _) (by rw [aL]; exact ag _)
theorem zgX {rw:List (Option Int)} {j:Nat} {x:V} (h:(rw.map pK)[j]? = some x):∃ o,x=pK o∧rw[j]? = some o:=by
 rw [af] at h;cases e:rw[j]? with
 | none=>rw [e] at h; cases h
 | some c=>rw [e] at h; exact⟨c,(aV h).symm,rfl⟩
def hide (H:Hp) (a:Addr):Hp:=fun b=>if b=a then none else H b
theorem zh7 (H:Hp) (a:Addr):zu (hide H a) H:=fun b o e=>by
 unfold hide at e;split at e
 ·cases e
 ·exact e
theorem zcw {H:Hp} {a b:Addr} {o:HO} (h:H b=some o) (mV:b≠a):hide H a b=some o:=by unfold hide; rw [if_neg mV]; exact h
end
section
variable {K:ah}
def zj5 (K:ah):Sp:=fun vs H Q _=>∃ (c tt ra po:Addr) (p k:Int) (pl mK:List Int) (rw:List (Option Int)),vs = [.ref c,.ref ra,.ref po]∧zb7 H c tt p k pl∧H ra=some (.lst (rw.map pK))∧rw.length=pl.length∧H po=some (.tup (mK.map V.int))∧0 < p∧p≤97∧(∀ x∈pl,0≤x∧x < p)∧pl.length≤100 ∧
 ∀ (l:Addr) (H':Hp),H l=none→zu H H'→H' l=some (.lst ((zdF p pl rw mK pl.length).map V.int))→Q (.ref l) H'
def zle (K:ah):Sp:=zj5 K
theorem zmu (o:Option Int) (z:Int):zoc (pK o) (.int z)=true:=by cases o <;> rfl
theorem zlf (o:Option Int) (z:Int):zoc (.int z) (pK o)=true:=by cases o <;> rfl
theorem zh8 {p:Int} {pl:List Int} {rw:List (Option Int)} {mK:List Int} {j:Nat} {x:Int} {o:Option Int} (hx:pl[j]? = some x) (ho:rw[j]? = some o):zcI p pl rw mK j=decide (pK o = .int (zt p x mK)):=by
 unfold zcI;rw [hx,ho];cases o with
 | none=>rfl
 | some i=>simp [pK]
def zbR (rw:List (Option Int)) (n:Nat):List Int:=((av n).filter fun j=>(rw[j]?.getD none).isSome).map fun (j:Nat)=>(j:Int)
theorem zjl {rw:List (Option Int)} {n:Nat}:zbR rw (n+1)=zbR rw n++if (rw[n]?.getD none).isSome=true then [(n:Int)] else []:=by
 unfold zbR;rw [bX,cn,am];congr 1;by_cases h:(rw[n]?.getD none).isSome=true
 ·rw [if_pos h]; simp [h]
 ·rw [if_neg h]; simp [h]
theorem zdG (rw:List (Option Int)) (n:Nat):(zbR rw n).length≤n:=by
 unfold zbR;rw [ab];exact aT (cg _ _) (by rw [aL]; exact ag _)
def zql (p:Int) (pl:List Int) (rw:List (Option Int)) (mK:List Int):V→Bool
 | .int z=>zcI p pl rw mK z.toNat
 | _=>false
theorem zlg {p:Int} {pl:List Int} {rw:List (Option Int)} {mK:List Int} (n:Nat):(((zbR rw n).map V.int).filter (zql p pl rw mK)).map id=(zdF p pl rw mK n).map V.int:=by
 rw [ir];unfold zbR zdF;rw [g9,g9,kD];congr 2;refine iT fun j _=>?_
 show (zcI p pl rw mK ((j:Int)).toNat && (rw[j]?.getD none).isSome)=zcI p pl rw mK j;rw [bC];by_cases h:zcI p pl rw mK j=true
 ·rw [h,Bool.true_and];unfold zcI at h;split at h
  ·rename_i _ _ e; rw [e]; rfl
  ·cases h
 ·rw [Bool.eq_false_iff.mpr h,lK]
theorem zlh {rw:List (Option Int)} {n:Nat} {z:Int} (h:z∈zbR rw n):∃ j:Nat,z=j∧j < n:=by
 unfold zbR at h;obtain⟨j,hj,e⟩:=az.mp h;exact⟨j,e.symm,aZ.mp (bv.mp hj).1⟩
end
end My
end
section
namespace PySem
section
variable {prog:Program} {w:World} {A:Around} {E:Value→Shared→Prop} {s:Shared}
theorem zj6 {z TI TO i1 i2:Addr} {rL rM:List Addr} {n1 n2 k1 k2:Nat} {P1 P2:Nat→Value→Prop} {S1 S2:Nat→Heap→Prop} {f0 f1 a b:Value} {Q:Option Value→Shared→Prop} (D1:Draws prog w A.in1 i1 rL n1 P1 S1) (D2:Draws prog w A.in1 i2 rM n2 P2 S2) (Z:Zap z TI TO i1 i2 rL rM)
  (hz:IsZ s.heap z TI TO f0 f1) (hf:ZF f0 f1) (vQ:IsPair s.heap TI (.ref i1) (.ref i2)) (wQ:IsPair s.heap TO a b) (oY:S1 k1 s.heap) (ng:S2 k2 s.heap) (l1:k1 < n1) (l2:k2 < n2)
  (hQ:∀ x y h' tk g0 g1 a' b',P1 k1 x→P2 k2 y→IsZ h' z TI TO g0 g1→ZF g0 g1→IsPair h' TI (.ref i1) (.ref i2)→IsPair h' TO a' b'→S1 (k1+1) h'→S2 (k2+1) h'→IsPair h' s.heap.objs.size x y→h'.objs.size=s.heap.objs.size+1 →
   (∀ c o,c≠z→c≠TO→c≠i1→c≠i2→s.heap.get? c=some o→h'.get? c=some o)→Q (some (.ref s.heap.objs.size)) { s with heap:=h',toks:=tk }):wpAny (model prog w) A (pyNext (.ref z)) Q E s:=by
 have vT:s.TypeIs (.ref z) "zip":=⟨_,hz,rfl⟩;unfold pyNext;refine ae (dq (bJ (name:=bK "__next__") vT dH (bO dH vT gM ?_ (gD _))));exact zj4 D1 D2 Z hz hf vQ wQ oY ng l1 l2 fun x y h1 tk g0 g1 a' b' px py rK Fq AG AH AI AJ uR AK kk=>ao (hQ x y h1 tk g0 g1 a' b' px py rK Fq AG AH AI AJ uR AK kk)
theorem zmv {z TI TO i1 i2:Addr} {rL rM:List Addr} {n1 n2 k1 k2:Nat} {P1 P2:Nat→Value→Prop} {S1 S2:Nat→Heap→Prop} {f0 f1 a b:Value} {Q:Option Value→Shared→Prop} (D1:Draws prog w A.in1 i1 rL n1 P1 S1) (D2:Draws prog w A.in1 i2 rM n2 P2 S2) (Z:Zap z TI TO i1 i2 rL rM)
  (hz:IsZ s.heap z TI TO f0 f1) (hf:ZF f0 f1) (vQ:IsPair s.heap TI (.ref i1) (.ref i2)) (wQ:IsPair s.heap TO a b) (oY:S1 k1 s.heap) (ng:S2 k2 s.heap) (l1:k1=n1∨(k1 < n1∧k2=n2))
  (hQ:∀ h' tk,(∀ c o,c≠z→c≠TO→c≠i1→c≠i2→s.heap.get? c=some o→h'.get? c=some o)→Q none { s with heap:=h',toks:=tk }):wpAny (model prog w) A (pyNext (.ref z)) Q E s:=by
 have vT:s.TypeIs (.ref z) "zip":=⟨_,hz,rfl⟩;unfold pyNext;refine ae (dq (bJ (name:=bK "__next__") vT dH (bO dH vT gM ?_ (gD _))));refine zmt D1 D2 Z hz hf vQ wQ oY ng l1 fun h' tk x kk ⟨o,ho,hc⟩=>?_
 exact ae (fL (T:="StopIteration") (b:=true) ⟨o,ho,hc⟩ ij (ao (hQ h' tk kk)))
theorem zgY {z TI TO:Addr} {f0 f1:Value} {Q:Value→Shared→Prop} (hz:IsZ s.heap z TI TO f0 f1) (h:Q (.ref z) s):wpAny (model prog w) A (pyIter (.ref z)) Q E s:=by
 have hT:s.TypeIs (.ref z) "zip":=⟨_,hz,rfl⟩; refine iR hT F.slot_zip_iter (bO F.slot_zip_iter hT F.entry_zip_iter ?_ (F.args_zip_iter_1 _));show wpAny _ _ (ret (.ref z)) _ _ s; exact ao ⟨_,rfl,"zip",_,hT,F.slot_zip_next.lookup,h⟩
theorem zrq {elts:List Expr} {x1} {pos:Pos} {z TI TO T:Addr} {f0 f1:Value} {Q:Unit→Shared→Prop} (hz:IsZ s.heap z TI TO f0 f1) (hf:ZF f0 f1)
  (hQ:∀ h' g0,IsZ h' z TI TO g0 f1→ZF g0 f1→bF z s.heap h'→Q () { s with heap:=h' }):wpAny (model prog w) A (letOwnedTupleGo (.Tuple elts x1 pos) (.ref z) (.ref T)) Q E s:=by
 unfold letOwnedTupleGo; refine ae (wpAny_load hz ?_);show wpAny _ _ (if _ then _ else _) Q E s;split
 ·refine ae (cF ?_); show wpAny _ _ (setField (.ref z) 0 .none) Q E s;exact bU hz #[M] fun h' D4 nT=>hQ h' .none D4 ⟨.inl rfl,hf.2⟩ nT
 ·exact ao (hQ s.heap f0 hz hf ⟨rfl,fun _ _=>rfl⟩)
end
end PySem
namespace L2
open PySem PySem.Spec PyProof.Rows
def zqm (sy sC:Hp→Addr→List V→Prop) (a b:Addr):It :=
 ⟨(zk4 sy sC a b).go,(zk4 sy sC a b).yld,fun i H=>∃ xs ys,sy H a xs∧sC H b ys∧(xs.length=i∨(i < xs.length∧ys.length=i))⟩
abbrev zb8 (n:Nat):List Addr:=[n+4,n+2,n+3,n,n+1]
abbrev zrr (C:String) (n a b:Nat) (i:Nat) (h:Heap):Prop:=(∃ f0 f1,IsZ h (n+4) (n+2) (n+3) f0 f1∧ZF f0 f1)∧IsPair h (n+2) (.ref n) (.ref (n+1))∧(∃ u v,IsPair h (n+3) u v)∧h.IsTupleIter n a i∧ItC C h (n+1) b i
structure Sk (C:String) (Is:Heap→Addr→Array Value→Prop) (Sq:ah→Hp→Addr→List V→Prop):Prop where
 h:SkH C Is
 inv:∀ {X:Cx} {l3:List (Addr×Obj)} {σ:St} {H:Hp} {s:Shared} {a:Addr} {xs:List V},Inv X l3 σ H s→Sq X.K H a xs→∃ mf:List Value,zS xs mf∧Is s.heap a mf.toArray∧a < s.heap.objs.size
 inj:∀ {X:Cx} {l3:List (Addr×Obj)} {σ:St} {H:Hp} {s:Shared} {a:Addr} {xs ys:List V},Inv X l3 σ H s→Sq X.K H a xs→Sq X.K H a ys→xs=ys
theorem sqL:Sk "list_iterator" Heap.IsList me:=⟨skL,fun I h=>let ⟨mf,r,p,_⟩:=I.list h; ⟨mf,r,p.isList,by obtain⟨_,_,e,_⟩:=p; exact aK e⟩,fun I h h'=>I.list_inj h h'⟩
theorem zmw {C:String} {Is:Heap→Addr→Array Value→Prop} {Sq:ah→Hp→Addr→List V→Prop} (S:Sk C Is Sq) {P:Program} {w:World} {K:ah} {es:List Expr} {k:Nat} {pos:Pos} (a b n:Nat) (ha:a < n) (hb:b < n):Turn P w K (.Tuple es k pos) (zqm (mE K) (Sq K) a b) (zb8 n) (n+4) (zrr C n a b) where
 mem:=by simp
 obj:=fun i h st c hc=>by
  obtain⟨⟨f0,f1,h1,_⟩,h2,⟨u,v,h3⟩,⟨o4,e4,_,d4⟩,⟨o5,e5,_,d5⟩⟩:=st;simp only [zb8,aF,be,or_false] at hc;rcases hc with z | z | z | z | z <;> subst z
  ·exact⟨_,h1,fun v z=>by cases z⟩
  ·exact⟨_,h2,fun v z=>by cases z⟩
  ·exact⟨_,h3,fun v z=>by cases z⟩
  ·exact⟨_,e4,fun v z=>by rw [d4] at z; cases z⟩
  ·exact⟨_,e5,fun v z=>by rw [d5] at z; cases z⟩
 keep:=fun i h h' st kk=>by
  obtain⟨⟨f0,f1,h1,hf⟩,h2,⟨u,v,h3⟩,h4,h5⟩:=st;obtain⟨o5,e5,r5⟩:=h5;exact⟨⟨f0,f1,kk _ #[M] _ h1,hf⟩,kk _ #[M] _ h2,⟨u,v,kk _ #[M] _ h3⟩,h4.at fun o eo=>kk _ #[M] o eo,o5,kk _ #[M] _ e5,r5⟩
 item:=by
  intro X hP hw hK hc i l3 s σ H E I hf st hg;subst hP hw hK;obtain⟨xs,ys,x,y,pX,oC,hx,hy⟩:=hg;obtain⟨⟨f0,f1,h1,vS⟩,h2,⟨u0,v0,h3⟩,h4,h5⟩:=st;obtain⟨mZ,sE,p1,rK⟩:=I.tuple pX;obtain⟨mT,sP,p2,_⟩:=S.inv I oC;obtain⟨u,hu,ru⟩:=sE.get hx;obtain⟨v,hv,rv⟩:=sP.get hy;have xa:n+4 < s.heap.objs.size:=aK h1;have hh:X.A.in1.handled=none:=by simp [I.ok.hd hc]
  have qC:i < mZ.toArray.size:=by have:=(au.mp hu).1; simpa using this
  have qD:i < mT.toArray.size:=by have:=(au.mp hv).1; simpa using this
  refine zj6 (Draws.tuple hh n a (nq #[O]) mZ.toArray) (S.h.dr hh (n+1) b (nq #[O]) mT.toArray) (zc3 ha hb) h1 vS h2 h3 ⟨h4,(show s.heap.IsTuple a mZ.toArray from p1)⟩ ⟨h5,p2⟩ qC qD
   fun x' y' h' tk g0 g1 a' b' px py ez Cz e2 e3 t4 t5 pp hsz kk=>?_
  have eu:x'=u:=by
   have e1:mZ[i]? = some x':=by simpa using px
   rw [hu] at e1; exact (aV e1).symm
  have ev:y'=v:=by
   have e1:mT[i]? = some y':=by simpa using py
   rw [hv] at e1; exact (aV e1).symm
  subst eu ev;have ch:∀ c∈[n+4,n+3,n,n+1],c∈zb8 n:=fun c mC=>by
   simp only [zb8,aF,be,or_false] at mC ⊢;rcases mC with z | z | z | z <;> subst z <;> simp
  have k1:∀ c o,c∉[n+4,n+3,n,n+1]→s.heap.get? c=some o→h'.get? c=some o:=fun c o mC eo=>by
   simp only [aF,be,or_false,not_or] at mC;exact kk c o mC.1 mC.2.1 mC.2.2.1 mC.2.2.2 eo
  have Az:∀ c∈[n+4,n+3,n,n+1],∃ o,h'.get? c=some o:=fun c mC=>by
   simp only [aF,be,or_false] at mC;rcases mC with z | z | z | z <;> subst z
   ·exact⟨_,ez⟩
   ·exact⟨_,e3⟩
   ·obtain⟨o,e,_⟩:=t4.1; exact⟨o,e⟩
   ·obtain⟨o,e,_⟩:=t5.1; exact⟨o,e⟩
  have I1:Inv X l3 σ (mh H s.heap.objs.size (.tup [x,y])) { s with heap:=h',toks:=tk } :=
   I.turnedNew k1 (fun c mC=>hf c (ch c mC)) Az (ag _) ⟨zaP,_,.cons ru (.cons rv .nil),zbQ pp⟩
  refine⟨_,rfl,zrq (s:={ s with heap:=h',toks:=tk }) ez Cz fun xR g2 xb CA oV=>?_⟩;have fr:∀ c∈zb8 n,mh H s.heap.objs.size (.tup [x,y]) c=none:=fun c mC=>by
   have mM:c < s.heap.objs.size:=by
    simp only [zb8,aF,be,or_false] at mC;rcases mC with z | z | z | z | z <;> subst z <;> exact nl #[O]
   rw [zn (bz mM)];exact (hf c mC).1
  have I2:Inv X l3 σ (mh H s.heap.objs.size (.tup [x,y])) { s with heap:=xR,toks:=tk } :=
   Inv.turnedL (s:={ s with heap:=h',toks:=tk }) (ch:=[n+4]) (t':=tk) I1 (fun c o mC eo=>oV.extBut c o (by simpa using mC) eo) (fun c mC=>by
    have z:c=n+4:=by simpa using mC
    subst z;exact⟨fr _ #[M],(hf _ #[M]).2⟩) (fun c mC=>by
    have z:c=n+4:=by simpa using mC
    subst z;exact⟨_,xb⟩)
  have up:∀ c o,c≠n+4→h'.get? c=some o→xR.get? c=some o:=fun c o mC e=>oV.extBut c o mC e
  exact⟨.ref s.heap.objs.size,_,I2,rfl,⟨_,x,y,I.fresh,rfl,rfl,fun zs hz=>by rw [I.tuple_inj hz pX]; exact hx,fun zs hz=>by rw [S.inj I hz oC]; exact hy⟩,
   ⟨⟨g2,g1,xb,CA⟩,up _ _ (nq #[O]) e2,⟨_,_,up _ _ (nq #[O]) e3⟩,t4.1.at fun o e=>up _ o (nq #[O]) e,⟨t5.1.choose,up _ _ (nq #[O]) t5.1.choose_spec.1,t5.1.choose_spec.2⟩⟩,fr⟩
 done:=by
  intro X hP hw hK hc i l3 s σ H E I hf st hg;subst hP hw hK;obtain⟨xs,ys,pX,oC,hx⟩:=hg;obtain⟨⟨f0,f1,h1,vS⟩,h2,⟨u0,v0,h3⟩,h4,h5⟩:=st;obtain⟨mZ,sE,p1,rK⟩:=I.tuple pX;obtain⟨mT,sP,p2,_⟩:=S.inv I oC;have hh:X.A.in1.handled=none:=by simp [I.ok.hd hc]
  have vP:=sE.length;have qJ:=sP.length;refine zmv (Draws.tuple hh n a (nq #[O]) mZ.toArray) (S.h.dr hh (n+1) b (nq #[O]) mT.toArray) (zc3 ha hb) h1 vS h2 h3 ⟨h4,(show s.heap.IsTuple a mZ.toArray from p1)⟩ ⟨h5,p2⟩ (by rw [ar,ar]; lia) fun h' tk kk=>⟨rfl,?_⟩
  have sub:∀ c∈[n+4,n+3,n,n+1],c∈zb8 n:=fun c mC=>by
   simp only [zb8,aF,be,or_false] at mC ⊢;rcases mC with z | z | z | z <;> subst z <;> simp
  have k1:∀ c o,c∉[n+4,n+3,n,n+1]→s.heap.get? c=some o→h'.get? c=some o:=fun c o mC e=>by
   simp only [aF,be,or_false,not_or] at mC;exact kk c o mC.1 mC.2.1 mC.2.2.1 mC.2.2.2 e
  have tW:∀ d u',H d=some u'→d∉[n+4,n+3,n,n+1]:=fun d u' e' hd=>by rw [(hf d (sub d hd)).1] at e'; cases e'
  refine I.step (g':=s.gens) (d':=s.drawn) (t':=tk) (ch:=[n+4,n+3,n,n+1]) (fun c mC=>?_) (fun c o _ _ ni e _=>k1 c o ni e) (fun c o _ _ ni e _=>⟨o.slots,k1 c o ni e⟩) (fun _ _ _ _ n=>n)
   (fun c o ni e=>⟨o,k1 c o ni e⟩) (fun _ _ e=>e) (fun _ _ _ e=>e) (fun c ps e=>⟨#[],by rw [e]; simp⟩) (fun m hm=>?_) (fun c u e=>?_) I.bare
  ·obtain⟨_,a1,_,a3,a4,a5⟩:=hf c (sub c mC);exact⟨a3,a1,a4,a5⟩
  ·obtain⟨o,wK,ep,ho,r⟩:=hm;exact⟨o,wK,ep,k1 _ o (fun z=>(hf _ (sub _ z)).2.1 rfl) ho,r⟩
  ·refine (I.hok c u e).stay (fun d v' hd q=>k1 d v' ?_ q) (fun _ q=>q) fun _ _ q=>q
   rcases hd with z | z
   ·rw [z]; exact tW c u e
   ·exact tW d _ z
 self:=fun _ _ _ _ _ st h=>by
  obtain⟨⟨f0,f1,hz,_⟩,_⟩:=st;exact zgY hz h
def iZq (sy sC:Hp→Addr→List V→Prop) (ta:TA):TI:=fun σ H R=>ta σ H fun vs H1=>∃ a b xs ys,vs = [.ref a,.ref b]∧sy H1 a xs∧sC H1 b ys∧R (zqm sy sC a b) H1
theorem zmx {C:String} {Is:Heap→Addr→Array Value→Prop} {Sq:ah→Hp→Addr→List V→Prop} (S:Sk C Is Sq) {X:Cx} {es:List Expr} {k:Nat} {pW p pos:Pos} {a b:Expr} {ta:TA} (hg:Gl X "zip") (hm:X.mg "zip" = none) (ha:PA X [a,b] ta) (hs:starEach [a,b] X.env = [(false,eval a X.env),(false,eval b X.env)]:=by rfl) (oU:starEach [b] X.env = [(false,eval b X.env)]:=by rfl) :
  PI X (.Tuple es k pW) (.Call (.Name "zip" p) [a,b] [] pos) (iZq (mE X.K) (Sq X.K) ta):=by
 intro l3 s σ H R I h;refine Call_ (zbe I hg hm k9 (bA (thn (ha pos l3 s σ H _ I h) fun us s1 ⟨vs,H1,I1,r1,q1⟩=>?_) (by rw [hs,oU]) (by rw [oU]; rfl)));obtain⟨l1,l2,xs,ys,e,pX,oC,q⟩:=q1;subst e;cases r1 with
 | cons r rr =>
  cases rr with
  | cons r' rr =>
   cases rr;cases r;cases r';obtain⟨mZ,sE,xc,rK⟩:=I1.tuple pX;obtain⟨mT,sP,xS,qD⟩:=S.inv I1 oC;have qC:l1 < s1.heap.objs.size:=by obtain⟨_,e,_⟩:=xc; exact aK e
   refine zfe S.h (show s1.heap.IsTuple l1 mZ.toArray from xc) xS fun h' n hn b1 b2 b3 b4 b5 b6 kk=>?_
   have I2:Inv X l3 σ H1 { s1 with heap:=h' }:=I1.kept (t':=s1.toks) kk;refine zgY b1 ?_;refine⟨_,zb8 n,zrr C n l1 l2,zqm (mE X.K) (Sq X.K) l1 l2,H1,rfl,I2,zmw S l1 l2 n (by rw [hn]; exact qC) (by rw [hn]; exact qD),⟨⟨_,_,b1,.inl rfl,_,rfl⟩,b2,⟨_,_,b3⟩,b4,b5⟩,fun c hc=>?_,q⟩;have hle:s1.heap.objs.size≤c:=by
    simp only [zb8,aF,be,or_false] at hc;rw [← hn];rcases hc with z | z | z | z | z <;> subst z
    all_goals first | exact fM _ _ | exact ag _
   exact I1.fpOk hle (I1.hok.fresh hle)
theorem zmy {X:Cx} {es:List Expr} {k:Nat} {pW p pos:Pos} {a b:Expr} {ta:TA} (hg:Gl X "zip") (hm:X.mg "zip" = none) (ha:PA X [a,b] ta) (hs:starEach [a,b] X.env = [(false,eval a X.env),(false,eval b X.env)]:=by rfl) (oU:starEach [b] X.env = [(false,eval b X.env)]:=by rfl) :
  PI X (.Tuple es k pW) (.Call (.Name "zip" p) [a,b] [] pos) (iZq (mE X.K) (me X.K) ta):=zmx sqL hg hm ha hs oU
section
variable {P:Program} {w:World} {outer:List Env} {H H':Hp} {h h' B:Heap} {e C:Addr}
theorem zqn {o:HO} {a:Addr} (x:zas P w H h a o):∃ ob,h.get? a=some ob:=by
 cases o with
 | lst xs=>obtain⟨_,_,_,_,e⟩:=x; exact⟨_,e⟩
 | tup xs=>obtain⟨_,_,_,o,e,_⟩:=x; exact⟨_,e⟩
 | dK mo=>obtain⟨_,_,_,_,o,_,_,e,_⟩:=x; exact⟨_,e⟩
 | dT mo=>obtain⟨_,_,_,_,o,_,_,e,_⟩:=x; exact⟨_,e⟩
 | set S n=>obtain⟨o,_,_,_,e,_⟩:=x; exact⟨_,e⟩
 | ins C dx fs=>obtain⟨_,_,_,e,_⟩:=x; exact⟨_,e⟩
 | own y=>obtain⟨_,e⟩:=x; exact⟨_,e⟩
 | xd fs=>obtain⟨_,⟨_,_,_,e,_⟩,_⟩:=x; exact⟨_,e⟩
 | rng lo hi=>obtain⟨_,_,_,e⟩:=x; exact⟨_,e⟩
 | frz ob u=>obtain⟨e,_⟩:=x; exact⟨_,e⟩
 | tbl ps=>exact⟨_,(show h.get? a=some _ from x)⟩
 | met f y=>exact⟨_,(show h.get? a=some _ from x)⟩
 | ext φ=>obtain⟨_,⟨_,e⟩,_⟩:=x; exact⟨_,e⟩
end
def zli (hi:Int) (n:Nat):It:=⟨fun i _=>i < n,fun i H x H'=>H'=H∧x = .int (hi - i),fun i _=>n≤i⟩
theorem zh9 {P:Program} {w:World} {K:ah} {tg:Expr} (it:Addr) (lo:Int) (n:Nat):Turn P w K tg (zli lo n) [it] it (fun i h=>IsRangeIter h it (lo+(i:Nat)*(-1)) ((n:Int) - (i:Nat)) (-1)) where
 mem:=by simp
 obj:=fun i h st b hb=>by
  have e:b=it:=by simpa using hb
  subst e;exact⟨_,st,fun v z=>by
   have z':jr _=Data.cell v:=z;cases z'⟩
 keep:=fun i h h' st k=>k it #[M] _ st
 item:=by
  intro X hP hw hK hc i l3 s σ H E I hf st hg;subst hP hw hK;obtain⟨f0,f1,f2,f3,f4,f5⟩:=hf it #[M];have W:=Walks.range (prog:=X.prog) (w:=X.w) (I.ok.hd hc) it lo (-1) n;refine W.item i s _ _ hg st fun v h' tk hv mj kk=>?_
  obtain⟨t,rfl⟩:=hv;have I1:Inv X l3 σ H { s with heap:=h',toks:=tk }:=I.turned (fun b o hb e=>kk b o (by simpa using hb) e) f0 f1 f3 f4 f5;refine⟨_,rfl,ze0 (s:={ s with heap:=h',toks:=tk }) (n:="range_iterator") mj rfl rfl #[D] ⟨.int (lo - i),H,I1,⟨t,?_⟩,⟨rfl,rfl⟩,mj,fun b hb=>(hf b hb).1⟩⟩;rw [show lo+(i:Int)*(-1)=lo - i by lia]
 done:=by
  intro X hP hw hK hc i l3 s σ H E I hf st hg;subst hP hw hK;obtain⟨f0,f1,f2,f3,f4,f5⟩:=hf it #[M];exact jt (I.ok.hd hc) st (by have:n≤i:=hg; lia) fun h' eb=>⟨rfl,I.turned (t':=s.toks) (fun b o hb e=>eb b o hb e) f0 f1 f3 f4 f5⟩
 self:=fun _ _ _ _ _ st h=>gF st h
section
variable {X:Cx} {tg:Expr}
theorem zjm {hi:Int} {n:Nat} {g:TG} {tb:TS} {D:Ends} {σ:St} {H:Hp} (Pv:Nat→St→Hp→Prop) (h0:Pv 0 σ H)
  (hs:∀ i σ H,i < n→Pv i σ H→g (.int (hi - i)) σ H fun σ2 H2=>tb { D with nx:=Pv (i+1),ct:=Pv (i+1),bk:=D.nx } σ2 H2) (hd:∀ σ H,Pv n σ H→D.nx σ H) :
  ∃ W:Nat→Nat→St→Hp→Prop,(∃ m,W 0 m σ H)∧∀ i m σ H,W i m σ H →
   ((zli hi n).stop i H∧D.nx σ H)∨((zli hi n).go i H∧∃ N:St→Hp→Prop,(∀ σ' H',N σ' H'→∃ m',m' < m∧W (i+1) m' σ' H')∧∀ x H',(zli hi n).yld i H x H'→g x σ H' fun σ2 H2=>tb { D with nx:=N,ct:=N,bk:=D.nx } σ2 H2):=by
 refine⟨fun i m σ H=>m=n - i∧i≤n∧Pv i σ H,⟨n,#[M],bm _,h0⟩,?_⟩;rintro i m σ H ⟨rfl,hi,p⟩;by_cases mM:i < n
 ·refine .inr ⟨mM,Pv (i+1),fun σ' H' p'=>⟨n - (i+1),#[O],rfl,mM,p'⟩,fun x H' y=>?_⟩;obtain⟨e,y⟩:=y;subst e y;exact hs i σ _ mM p
 ·have e:i=n:=by lia
  subst e;exact .inl ⟨ag _,hd σ H p⟩
end
section
variable {κ:Type} [DecidableEq κ]
def zdq (mo:List (κ×V)) (k:κ):Option V:=(mo.find? fun kv=>decide (kv.1=k)).map (·.2)
def putK (mo:List (κ×V)) (k:κ) (v:V):List (κ×V) :=
 if (mo.any fun kv=>decide (kv.1=k))=true then mo.map (fun kv=>if kv.1=k then (kv.1,v) else kv) else mo++[(k,v)]
theorem zfg {p:κ×V} {r:List (κ×V)} {k:κ} (e:p.1=k):zdq (p :: r) k=some p.2:=by simp [zdq,fe,e]
theorem zfh {p:κ×V} {r:List (κ×V)} {k:κ} (e:¬ p.1=k):zdq (p :: r) k=zdq r k:=by simp [zdq,fe,e]
theorem zfi (k:κ):∀ mo:List (κ×V),(mo.any fun kv=>decide (kv.1=k))=(zdq mo k).isSome
 | []=>rfl
 | p :: r=>by
  rw [fS];by_cases e:p.1=k
  ·simp only [zfg e,decide_eq_true e,Bool.true_or,kA]
  ·rw [zfh e,decide_eq_false e,Bool.false_or]; exact zfi k r
theorem zcS (mo:List (κ×V)) (k:κ) (v:V):(putK mo k v).length≤mo.length+1:=by
 unfold putK;split
 ·rw [ab]; lia
 ·rw [aq,bT,jm]; lia
theorem zmz {mo:List (κ×V)} {k:κ} (v:V) (h:zdq mo k=none):putK mo k v=mo++[(k,v)]:=by
 unfold putK;rw [zfi,h];exact if_neg #[D]
theorem zhD.isSome_eq {o:Option V} {u:Option Value} (r:zhD o u):o.isSome=u.isSome:=by
 cases o with
 | none=>cases u with
  | none=>rfl
  | some _=>exact (show False from r).elim
 | some _=>cases u with
  | none=>exact (show False from r).elim
  | some _=>rfl
theorem zhD.getD {o:Option V} {u:Option Value} {d:V} {d':Value} (r:zhD o u) (rd:RelV d d'):RelV (o.getD d) (u.getD d'):=by
 cases o with
 | none=>cases u with
  | none=>exact rd
  | some _=>exact (show False from r).elim
 | some _=>cases u with
  | none=>exact (show False from r).elim
  | some _=>exact r
theorem KV.val {mo:List (κ×V)} {vs:List (κ×Value)} (r:KV mo vs) (k:κ):zhD (zdq mo k) (valueAt vs k):=by
 unfold KV at r;induction r with
 | nil=>exact iX
 | @cons p q ps qs h t ih =>
  obtain⟨h1,h2⟩:=h;by_cases e:p.1=k
  ·have e':q.1=k:=h1.symm.trans e;have b:valueAt (q :: qs) k=some q.2:=by simp [valueAt,fe,e']
   rw [zfg e,b]; exact h2
  ·have e':¬ q.1=k:=fun z=>e (h1.trans z)
   have b:valueAt (q :: qs) k=valueAt qs k:=by simp [valueAt,fe,e']
   rw [zfh e,b]; exact ih
theorem KV.any {mo:List (κ×V)} {vs:List (κ×Value)} (r:KV mo vs) (k:κ):(mo.any fun kv=>decide (kv.1=k))=vs.any fun kv=>decide (kv.1=k):=by
 unfold KV at r;induction r with
 | nil=>rfl
 | cons h t ih=>rw [fS,fS,ih,h.1]
theorem KV.repl {mo:List (κ×V)} {vs:List (κ×Value)} (r:KV mo vs) (k:κ) {y:V} {u:Value} (ry:RelV y u) :
  KV (mo.map fun kv=>if kv.1=k then (kv.1,y) else kv) (vs.map fun kv=>if kv.1=k then (kv.1,u) else kv):=by
 unfold KV at r ⊢;induction r with
 | nil=>exact .nil
 | @cons p q ps qs h t ih =>
  rw [bg,bg];refine .cons ?_ ih;obtain⟨h1,h2⟩:=h;by_cases e:p.1=k
  ·rw [if_pos e,if_pos (h1.symm.trans e)]; exact⟨h1,ry⟩
  ·rw [if_neg e,if_neg (fun z=>e (h1.trans z))]; exact⟨h1,h2⟩
theorem KV.put {mo:List (κ×V)} {vs:List (κ×Value)} (r:KV mo vs) (k:κ) {y:V} {u:Value} (ry:RelV y u):KV (putK mo k y) (stored vs k u):=by
 unfold putK stored;rw [r.any k];by_cases e:(vs.any fun kv=>decide (kv.1=k))=true
 ·rw [if_pos e,if_pos e]; exact r.repl k ry
 ·rw [if_neg e,if_neg e]; exact b8 r ⟨rfl,ry⟩
theorem KV.length {mo:List (κ×V)} {vs:List (κ×Value)} (r:KV mo vs):mo.length=vs.length:=a8 r
end
theorem zmA {P:Program} {w:World} {k:Key} {u:Value} (r:RelV (kV k) u):(zav P w).is k u=true:=by
 cases k with
 | inl i=>obtain⟨t,e⟩:=(show ∃ t,u=iw i t from r); subst e; exact zhB P w i t
 | inr x=>obtain⟨t,e⟩:=(show ∃ t,u=lQ x t from r); subst e; exact zhC P w x t
theorem zgq {P:Program} {w:World}:∀ {ks:List Key} {us:List Value},zS (ks.map kV) us→ItemsAre (zav P w) ks us
 | [],_,r=>by rw [ft] at r; cases r; exact .nil
 | k :: ks,_,r=>by
  rw [bg] at r;cases r with
  | cons h t=>exact .cons (zmA h) (zgq t)
abbrev KT (H:Hp):List (List Key×V)→List (List Key×Addr×Value)→Prop:=Paired fun p q=>p.1=q.1∧H q.2.1=some (.tup (p.1.map kV))∧RelV p.2 q.2.2
theorem KT.val {H:Hp} {mo:List (List Key×V)} {xs:List (List Key×Addr×Value)} (r:KT H mo xs) (k:List Key):zhD (zdq mo k) ((atKey xs k).map (·.2)):=by
 induction r with
 | nil=>exact iX
 | @cons p q ps qs h t ih =>
  obtain⟨h1,_,h2⟩:=h;by_cases e:p.1=k
  ·have e':q.1=k:=h1.symm.trans e;have b:atKey (q :: qs) k=some q.2:=by simp [atKey,fe,e']
   rw [zfg e,b]; exact h2
  ·have e':¬ q.1=k:=fun z=>e (h1.trans z)
   have b:atKey (q :: qs) k=atKey qs k:=by simp [atKey,fe,e']
   rw [zfh e,b]; exact ih
theorem KT.repl {H:Hp} {mo:List (List Key×V)} {xs:List (List Key×Addr×Value)} (r:KT H mo xs) (k:List Key) {y:V} {u:Value} (ry:RelV y u) :
  KT H (mo.map fun kv=>if kv.1=k then (kv.1,y) else kv) (xs.map (putAt k u)):=by
 induction r with
 | nil=>exact .nil
 | @cons p q ps qs h t ih =>
  rw [bg,bg];refine .cons ?_ ih;obtain⟨h1,h2,h3⟩:=h;unfold putAt;by_cases e:p.1=k
  ·rw [if_pos e,if_pos (h1.symm.trans e)]; exact⟨h1,h2,ry⟩
  ·rw [if_neg e,if_neg (fun z=>e (h1.trans z))]; exact⟨h1,h2,h3⟩
theorem KT.put {H:Hp} {mo:List (List Key×V)} {xs:List (List Key×Addr×Value)} (r:KT H mo xs) (k:List Key) {b:Addr} {y:V} {u:Value} (hb:H b=some (.tup (k.map kV))) (ry:RelV y u) :
  KT H (putK mo k y) (storedH xs k b u):=by
 have e:(mo.any fun kv=>decide (kv.1=k))=(atKey xs k).isSome:=by
  rw [zfi,(r.val k).isSome_eq,Option.isSome_map]
 unfold putK storedH;rw [e];by_cases q:(atKey xs k).isSome=true
 ·rw [if_pos q,if_pos q]; exact r.repl k ry
 ·rw [if_neg q,if_neg q]; exact b8 r ⟨rfl,hb,ry⟩
theorem KT.keeps {H H':Hp} {mo:List (List Key×V)} {xs:List (List Key×Addr×Value)} (r:KT H mo xs) (ht:∀ b ys,H b=some (.tup ys)→H' b=some (.tup ys)):KT H' mo xs :=
 Paired.mapP r fun _ _ z=>⟨z.1,ht _ _ z.2.1,z.2.2⟩
section
variable {P:Program} {w:World} {H:Hp} {h:Heap} {a:Addr}
theorem zpA {u:HO} (ok:HOk P w H h) (e:Rd H a u):zas P w H h a u:=e.ok ok
theorem zmB {mo:List (Key×V)} (ok:HOk P w H h) (e:Rd H a (.dK mo)):mo.length≤sizeLine∧(a == sysModules)=false∧∃ vs,KV mo vs∧h.DictOf (zav P w) a vs :=
 show zas P w H h a (.dK mo) from zpA ok e
theorem zrs {mo:List (Key×V)} (ok:HOk P w H h) (e:H a=some (.dK mo)):mo.length≤sizeLine∧(a == sysModules)=false∧∃ vs,KV mo vs∧h.DictOf (zav P w) a vs:=zmB ok (.inl e)
theorem zgZ {ks:List Key} (ok:HOk P w H h) (e:H a=some (.tup (ks.map kV))):(tupleKind (zav P w)).is h ks a:=by
 obtain⟨_,mf,r,o,h1,h2,n,h3⟩:=(show zas P w H h a (.tup (ks.map kV)) from ok a _ e);exact⟨o,mf.toArray,n,h1,h2,h3,by simpa using zgq r⟩
theorem zmC {mo:List (List Key×V)} (ok:HOk P w H h) (e:Rd H a (.dT mo)):mo.length≤sizeLine∧(a == sysModules)=false ∧
  ∃ xs,KT H mo xs∧h.DictOfH (tupleKind (zav P w)) a xs:=by
 obtain⟨z,y,xs,r,o,es,ep,h1,h2,h3,h4,h5⟩:=(show zas P w H h a (.dT mo) from zpA ok e);refine⟨z,y,xs,r,o,es,ep,h1,h2,h3,h4,fun x hx=>?_,h5⟩;have all:∀ {l:List (List Key×V)} {m:List (List Key×Addr×Value)},KT H l m→∀ x∈m,(tupleKind (zav P w)).is h x.1 x.2.1:=by
  intro l m q;induction q with
  | nil=>intro x hx; exact nomatch hx
  | @cons p q ps qs hq t ih =>
   intro x hx;rcases aF.mp hx with e | hx
   ·subst e;exact zgZ ok (by rw [← hq.1]; exact hq.2.1)
   ·exact ih x hx
 exact all r x hx
theorem zpB {mo:List (List Key×V)} (ok:HOk P w H h) (e:H a=some (.dT mo)):mo.length≤sizeLine∧(a == sysModules)=false ∧
  ∃ xs,KT H mo xs∧h.DictOfH (tupleKind (zav P w)) a xs:=zmC ok (.inl e)
end
def zrt (H:Hp) (a:Addr) (y:V) (r:Option V):Prop :=
 (∃ mo k,Rd H a (.dK mo)∧y=kV k∧r=zdq mo k)∨∃ mo k b,Rd H a (.dT mo)∧y = .ref b∧H b=some (.tup (k.map kV))∧r=zdq mo k
def zmD (H:Hp) (a:Addr) (y v:V) (H':Hp):Prop :=
 (∃ mo k,H a=some (.dK mo)∧y=kV k∧mo.length < sizeLine∧H'=mh H a (.dK (putK mo k v))) ∨
 ∃ mo k b,H a=some (.dT mo)∧y = .ref b∧H b=some (.tup (k.map kV))∧mo.length < sizeLine∧H'=mh H a (.dT (putK mo k v))
theorem zmD.t {H:Hp} {a b:Addr} {mo:List (List Key×V)} {k:List Key} {v:V} (e:H a=some (.dT mo)) (eb:H b=some (.tup (k.map kV))) (hl:mo.length < sizeLine) :
  zmD H a (.ref b) v (mh H a (.dT (putK mo k v))):=.inr ⟨mo,k,b,e,rfl,eb,hl,rfl⟩
section
variable {X:Cx} {l3:List (Addr×Obj)} {σ:St} {H:Hp} {s:Shared} {a:Addr} {y v:V} {u r:Value} {o:Option V} {A:Around} {E:Value→Shared→Prop}
theorem Inv.big (I:Inv X l3 σ H s):sysModules < s.heap.objs.size:=by
 have h:mainGlobals < s.heap.objs.size:=(I.mod.glob.keeps I.bk).lt;exact Nat.lt_trans #[D] h
theorem zg0 {h':Heap} {t':Nat} {ob:HO} (I:Inv X l3 σ H s) (mu:Mut (H a)) (hs:bF a s.heap h') (he:∃ q,h'.get? a=some q) (new:zas X.prog X.w (mh H a ob) h' a ob) :
  Inv X l3 σ (mh H a ob) { s with heap:=h',toks:=t' } :=
 I.write (x:=a) (e:=a) mu (.inl rfl) (fun b q hb z=>(hs.2 b hb).trans z) he new
theorem zqo {P:Program} {w:World} {H':Hp} {h':Heap} {mo:List (Key×V)} {vs:List (Key×Value)} (z:mo.length≤sizeLine) (hd:(a == sysModules)=false) (rel:KV mo vs) (dd:h'.DictOf (zav P w) a vs) :
  zas P w H' h' a (.dK mo):=⟨z,hd,vs,rel,dd⟩
theorem zlj {H':Hp} {Q:Unit→Shared→Prop} (hu:A.units+1 < cLine) (I:Inv X l3 σ H s) (g:zmD H a y v H') (ry:RelV y u) (rv:RelV v r) (h:∀ s',Inv X l3 σ H' s'→Q () s') :
  wpAny (model X.prog X.w) A (setItem (.ref a) u r) Q E s:=by
 rcases g with ⟨mo,k,e,ey,l,eH⟩ | ⟨mo,k,b,e,ey,eb,l,eH⟩
 ·subst ey eH;obtain⟨z,hd,vs,rel,dd⟩:=zrs I.hok e;have hz:vs.length≤sizeLine:=by rw [← rel.length]; exact z
  have hl:(putK mo k v).length≤sizeLine:=by have:=zcS mo k v; lia
  refine wpAny_setItem_pairs (hsz:=hz) (zmA ry) dd fun h' BO hs=>h _ ?_
  have he:∃ q,h'.get? a=some q:=let ⟨q,_,_,hq,_⟩:=BO; ⟨q,hq⟩
  exact zg0 I (by rw [e]; exact iX) hs he (zqo hl hd (rel.put k rv) BO)
 ·subst ey eH;cases (show u=bd b from ry);obtain⟨z,hd,xs,rel,dd⟩:=zpB I.hok e;have hz:xs.length≤sizeLine:=by rw [← a8 rel]; exact z
  have hl:(putK mo k v).length≤sizeLine:=by have:=zcS mo k v; lia
  refine wpAny_setItem_heap (hsz:=hz) (iC hu) (zgZ I.hok eb) dd fun h' BO hs=>h _ ?_
  obtain⟨q,es,ep,hq,h2,h3,h4,_,h5⟩:=BO;refine zg0 I (by rw [e]; exact iX) hs ⟨q,hq⟩ ⟨hl,hd,_,(rel.put k eb rv).keeps fun c ys ec=>?_,q,es,ep,hq,h2,h3,h4,h5⟩;rw [zn (zpp ec e (fun z=>nomatch z))];exact ec
end
def zru (td ty tv:TE):TS:=fun D σ H=>tv σ H fun v H1=>td σ H1 fun x H2=>ty σ H2 fun y H3=>∃ a H4,x = .ref a∧zmD H3 a y v H4∧D.nx σ H4
section
variable {X:Cx} {o i e value:Expr} {pos pos' pW:Pos} {td ty tv:TE}
theorem zou (hu:X.A.units+1 < cLine) (ho:PE X o td) (hi:PE X i ty) (hv:PE X value tv) (hs:swapsWith value (some (.Subscript o i pos')) pos.line X.env=pure false) :
  PS X (.Assign [.Subscript o i pos'] value pos) (zru td ty tv):=by
 intro l3 s σ H D I h;refine wpAny_Assign_Subscript (thn (hv l3 s σ H _ I h) fun r s1 ⟨v,H1,I1,rv,q1⟩=>thn (ho l3 s1 σ H1 _ I1 q1) fun u s2 ⟨x,H2,I2,rx,q2⟩=>thn (hi l3 s2 σ H2 _ I2 q2) fun iv s3 ⟨y,H3,I3,ry,a,H4,ex,g,q3⟩=>?_) hs;subst ex;obtain rfl:u=bd a:=rx;exact zlj hu I3 g ry rv fun s4 I4=>⟨σ,H4,I4,q3⟩
end
theorem zia {P:Program} {w:World} {H:Hp} (h:Heap) (hb:sysModules < h.objs.size):zas P w H (h.push { cls:=.type "dict",data:=.dict #[] }) h.objs.size (.dT []) :=
 ⟨bm _,beq_eq_false_iff_ne.mpr (dj (bz hb)),[],.nil,_,#[],0,aG _ rfl,⟨rfl,rfl,rfl⟩,rfl,rfl,lN⟩
def zqp:TE:=fun _ H Q=>∀ p,H p=none→Q (.ref p) (mh H p (.dT []))
section
variable {X:Cx} {pos:Pos}
theorem zmE:PE X (.Dict [] [] pos) zqp:=fun l3 s σ H Q I h =>
 wpAny_Dict_empty ⟨.ref s.heap.objs.size,_,I.laid (a:=s.heap.objs.size) (o:=.dT []) (t':=s.toks) (fun _ _ q=>ai _ q) (ag _) (zia s.heap I.big),rfl,h _ (I.hok.fresh (ag _))⟩
end
structure M2 (X:Cx) (o:Expr) (m:Str) (apos:Pos) (e f:Expr) (nG:Pos):Prop where
 base:attributeBase o m X.env (eval o X.env)=eval o X.env
 few:((backTo nG (starEach [e,f] X.env)).all (fun x=>!x.1) && (backToKw nG (keywordEach [] X.env)).all (fun x=>x.1.isSome)
  && decide (([e,f]:List Expr).length+([]:List Keyword).length+(if ([]:List Keyword).isEmpty then 0 else 1) < 30))=true
 line:(apos.endLine == nG.line)=true
 trees:backTo nG (starEach [e,f] X.env) = [(false,eval e X.env),(false,eval f X.env)]
def IsD (H:Hp) (a:Addr):Prop:=(∃ mo,Rd H a (.dK mo))∨∃ mo,Rd H a (.dT mo)
theorem zqq {X:Cx} {l3:List (Addr×Obj)} {σ:St} {H:Hp} {s:Shared} {a:Addr} (I:Inv X l3 σ H s) (d:IsD H a) :
  s.TypeIs (.ref a) "dict"∧(∀ b,bd a = .ref b→∃ ob,s.heap.get? b=some ob∧ob.dict=none)∧(a == sysModules)=false:=by
 rcases d with ⟨mo,e⟩ | ⟨mo,e⟩
 ·obtain⟨_,hd,vs,_,dd⟩:=zmB I.hok e;refine⟨dd.typeIs,fun b q=>?_,hd⟩;cases q;obtain⟨ob,_,_,h1,h2,_⟩:=dd;exact⟨ob,h1,h2.2.1⟩
 ·obtain⟨_,hd,xs,_,dd⟩:=zmC I.hok e;refine⟨dd.typeIs,fun b q=>?_,hd⟩;cases q;obtain⟨ob,_,_,h1,h2,_⟩:=dd;exact⟨ob,h1,h2.2.1⟩
section
variable {X:Cx} {l3:List (Addr×Obj)} {σ:St} {H:Hp} {s:Shared} {a:Addr} {y d:V} {u r:Value} {o:Option V} {A:Around} {E:Value→Shared→Prop}
theorem zqr {Q:Value→Shared→Prop} (hu:A.units+1 < cLine) (I:Inv X l3 σ H s) (g:zrt H a y o) (ry:RelV y u) (rd:RelV d r) (h:∀ w' s',Inv X l3 σ H s'→RelV (o.getD d) w'→Q w' s') :
  wpAny (model X.prog X.w) A (call (.builtin "dict.get") [.ref a,u,r]) Q E s:=by
 rcases g with ⟨mo,k,e,ey,l⟩ | ⟨mo,k,b,e,ey,eb,l⟩
 ·subst ey;obtain⟨z,hd,vs,rel,dd⟩:=zmB I.hok e;refine call_meetsIn gV dd.typeIs jA (jg _ _ _) (meets_dict_get_default (zav X.prog X.w) a (zmA ry) hd r) ⟨_,dd.mapOf,h _ _ (I.tok _) ?_⟩;rw [l];exact (rel.val k).getD rd
 ·subst ey;cases (show u=bd b from ry);obtain⟨z,hd,xs,rel,dd⟩:=zmC I.hok e;refine call_meetsIn gV dd.typeIs jA (jg _ _ _) (meetsH_dict_get_default (tupleKind (zav X.prog X.w)) a b hd r) ⟨iC hu,k,xs,zgZ I.hok eb,dd,h _ _ (I.tok _) ?_⟩;rw [l];exact (rel.val k).getD rd
end
def zqs (td ty tx:TE):TE:=fun σ H Q=>td σ H fun x H1=>∃ a,x = .ref a∧IsD H1 a∧ty σ H1 fun y H2=>tx σ H2 fun z H3=>∃ o,zrt H3 a y o∧Q (o.getD z) H3
section
variable {X:Cx} {o e f:Expr} {apos nG:Pos} {td ty tx:TE}
theorem zmF (hu:X.A.units+1 < cLine) (ho:PE X o td) (he:PE X e ty) (hf:PE X f tx) (m:M2 X o "get" apos e f nG):PE X (.Call (.Attribute o "get" apos) [e,f] [] nG) (zqs td ty tx):=by
 intro l3 s σ H Q I h;refine wpAny_Call_method m.base m.few m.line PySem.F.plainAttrs_dict gV PySem.F.type_dict_get (thn (ho l3 s σ H _ I h) fun u s1 ⟨x,H1,I1,rx,a,ex,d,q1⟩=>?_);subst ex;obtain rfl:u=bd a:=rx;obtain⟨t1,t2,_⟩:=zqq I1 d;refine⟨t1,t2,?_⟩;rw [m.trees];refine jx rfl (jP (dZ (thn (he l3 s1 σ H1 _ I1 q1) fun iv s2 ⟨y,H2,I2,ry,q2⟩ =>
  dZ (thn (hf l3 s2 σ H2 _ I2 q2) fun fv s3 ⟨z,H3,I3,rz,ov,g,q3⟩=>fo ?_))))
 exact zqr hu I3 g ry rz fun w' s4 I4 Aq=>⟨_,H3,I4,Aq,q3⟩
end
theorem zib:∀ {ns:List Int} {us:List Value},zS (ns.map V.int) us→∃ ps:List (Int×Tok),us=ps.map (fun p=>iw p.1 p.2)∧ps.map (·.1)=ns
 | [],_,r=>by cases r; exact⟨[],rfl,rfl⟩
 | n :: ns,_,r=>by
  cases r with
  | cons r1 r2 =>
   obtain⟨ps,e1,e2⟩:=zib r2;obtain⟨t,rfl⟩:=r1;exact⟨(n,t) :: ps,by rw [e1]; rfl,by rw [← e2]; rfl⟩
theorem zlk {X:Cx} (hc:X.calm=true):zbn X (.builtin "sum") (fun xs H Q=>∃ (p:Addr) (ns:List Int),xs = [.ref p]∧me X.K H p (ns.map V.int)∧Q (.int ns.sum) H):=by
 intro l3 s σ H xs us Q I r h;obtain⟨p,ns,rfl,hq,q⟩:=h;obtain⟨u,rfl,rx⟩:=vals1 r;cases rx;obtain⟨mf,rv,pl,hz⟩:=I.list hq;obtain⟨ps,e1,e2⟩:=zib rv;subst e1 e2;have hl:s.heap.IsList p (intItems ps.toArray):=by
  have:=pl.isList;simpa [intItems] using this
 refine sum_intListG (xs:=ps.toArray) (by simp [I.ok.hd hc]) hl fun h' tk t' kk=>⟨.int (ps.map (·.1)).sum,H,I.kept kk,⟨t',?_⟩,q⟩
 rw [preSum_eq,aJ #[M]]
end L2
namespace PySem
open PyProof.Rows
end PySem
namespace L2
open PySem PySem.Spec PyProof.Rows
end L2
namespace My
open PySem L2 PyProof.Rows
section
variable {K:ah}
structure RowAt (K:ah) (H:Hp) (r:Addr) (n:Nat) (rw:List (Option Int)):Prop where
 at':me K H r (rw.map pK)
 len:rw.length=n
end
end My
end
section
namespace Srt
open PySem PyProof.Rows
def Vk (val:Keyed→Int) (xs:Array Keyed) (i:Nat):Int:=match xs[i]? with
 | some p=>val p
 | none=>0
theorem zak {val:Keyed→Int} {xs ys:Array Keyed} {i j:Nat} (h:xs[i]? = ys[j]?):Vk val xs i=Vk val ys j:=by unfold Vk; rw [h]
theorem zaa {val:Keyed→Int} {xs:Array Keyed} {i:Nat} {p:Keyed} (h:xs[i]? = some p):Vk val xs i=val p:=by unfold Vk; rw [h]
def SIn (val:Keyed→Int) (xs:Array Keyed) (lo hi:Nat):Prop:=∀ i j,lo≤i→i≤j→j < hi→Vk val xs i≤Vk val xs j
def DIn (val:Keyed→Int) (xs:Array Keyed) (lo hi:Nat):Prop:=∀ i j,lo≤i→i≤j→j < hi→Vk val xs j≤Vk val xs i
structure SB (κ:SortKind) (a₀:Array Keyed) (st:SortSt):Prop where
 perm:(arrOf st).Perm a₀
 kind:kindOf st=κ
 failed:failedOf st=none
theorem SB.size {κ:SortKind} {a₀:Array Keyed} {st:SortSt} (h:SB κ a₀ st):(arrOf st).size=a₀.size:=h.perm.size_eq
theorem SB.mem {κ:SortKind} {a₀:Array Keyed} {st:SortSt} (h:SB κ a₀ st) {i:Nat} (hi:i < a₀.size):∃ p,(arrOf st)[i]? = some p∧p∈a₀.toList:=by
 (have nH:i < (arrOf st).size:=by rw [h.size]; exact hi)
 exact⟨(arrOf st)[i],getElem?_pos _ i nH,(fT.mp h.perm).mem_iff.mp #[M]⟩
structure SF (κ:SortKind) (a₀:Array Keyed) (lo:Nat) (st₀ st:SortSt):Prop where
 b:SB κ a₀ st
 low:∀ k,k < lo→(arrOf st)[k]? = (arrOf st₀)[k]?
 pend:pendingOf st=pendingOf st₀
theorem SF.refl {κ:SortKind} {a₀:Array Keyed} {lo:Nat} {st:SortSt} (h:SB κ a₀ st):SF κ a₀ lo st st:=⟨h,fun _ _=>rfl,rfl⟩
theorem SF.setArr {κ:SortKind} {a₀:Array Keyed} {lo:Nat} {st₀ st:SortSt} (h:SF κ a₀ lo st₀ st) {xs:Array Keyed} (hp:xs.Perm (arrOf st)) (hl:∀ k,k < lo→xs[k]? = (arrOf st)[k]?):SF κ a₀ lo st₀ (setArr st xs) :=
 ⟨⟨hp.trans h.b.perm,h.b.kind,h.b.failed⟩,fun k hk=>(hl k hk).trans (h.low k hk),h.pend⟩
section
variable {prog:Program} {w:World} {A:Around} {E:Value→Shared→Prop} {s:Shared} {a₀:Array Keyed} {κ:SortKind} {val:Keyed→Int}
def Cmp (prog:Program) (w:World) (A:Around) (s:Shared) (κ:SortKind) (val:Keyed→Int) (a₀:Array Keyed):Prop :=
 ∀ x y,x∈a₀.toList→y∈a₀.toList→∀ (Q:Bool→Shared→Prop) (E:Value→Shared→Prop),Q (decide (val x < val y)) s→wpAny (model prog w) A (keyLt' κ x.1 y.1) Q E s
theorem zmG {st:SortSt} {x y:Keyed} {Q:Option Bool→SortSt→Prop} (hC:Cmp prog w A s κ val a₀) (hk:kindOf st=κ) (hx:x∈a₀.toList) (hy:y∈a₀.toList) (h:Q (some (decide (val x < val y))) st) :
  wpS (model prog w) A E s (lt' x y) Q st:=by
 rw [lt'_eq];refine aw (gr ?_);rw [hk];refine aw (io (dq (hC x y hx hy _ _ ⟨rfl,?_⟩)));exact aB h
theorem z8 {st:SortSt} {arr:Array Keyed} {i:Nat} {p:Keyed} {Q:Keyed→SortSt→Prop} (hi:arr[i]? = some p) (h:Q p st):wpS (model prog w) A E s (elem' arr i) Q st:=by
 rw [elem'_eq,hi];exact aB h
theorem zfj {st:SortSt} {i j:Nat} {Q:Option Bool→SortSt→Prop} (hC:Cmp prog w A s κ val a₀) (hB:SB κ a₀ st) (hi:i < a₀.size) (hj:j < a₀.size) (h:Q (some (decide (Vk val (arrOf st) i < Vk val (arrOf st) j))) st) :
  (wpS (model prog w) A E s (ltAt' i j) Q st):=by
 obtain⟨x,ex,mx⟩:=hB.mem hi;obtain⟨y,ey,my⟩:=hB.mem hj;rw [ltAt'_eq];refine aw (gr ?_)
 (show wpS _ _ _ _ (do let x ← elem' (arrOf st) i; let y ← elem' (arrOf st) j; lt' x y) Q st)
 refine aw (z8 ex (aw (z8 ey (zmG hC hB.kind mx my ?_))));rw [zaa ex,zaa ey] at h;exact h
theorem zj7 {st:SortSt} {i j:Nat} {Q:Unit→SortSt→Prop} (h:Q () (setArr st (mirror (arrOf st) i j ((j - i) / 2)))) :
  (wpS (model prog w) A E s (reverseSlice' i j) Q st):=by
 ((rw [reverseSlice'_eq]; exact fN h))
theorem zfk {xs:Array Keyed} {i j:Nat} (hj:j≤xs.size) (k:Nat):Vk val (mirror xs i j ((j - i) / 2)) k=if i≤k∧k < j then Vk val xs (i+j - 1 - k) else Vk val xs k:=by
 (have e:=kh (i:=i) hj k)
 by_cases h1:i≤k∧k < j
 ·rw [if_pos h1] at e ⊢; exact zak e
 ·rw [if_neg h1] at e ⊢; exact zak e
theorem zbz {xs:Array Keyed} {i j:Nat} (hj:j≤xs.size) (heq:∀ k,i≤k→k < j→Vk val xs k=Vk val xs (j - 1)) (k:Nat):Vk val (mirror xs i j ((j - i) / 2)) k=Vk val xs k:=by
 rw [zfk hj];split
 ·(rw [heq _ #[O] #[O],heq k #[O] #[O]])
 ·rfl
theorem zcx {xs:Array Keyed} {lo i j:Nat} (hj:j≤xs.size) (hi:lo≤i):∀ k,k < lo→(mirror xs i j ((j - i) / 2))[k]? = xs[k]?:=fun k hk=>by
 rw [kh hj,if_neg #[O]]
theorem zjn {xs:Array Keyed} {lo src d:Nat} (hs:src < xs.size) (hd:d≤src) (hl:lo≤src - d):∀ k,k < lo→(bubble xs src d)[k]? = xs[k]?:=fun k hk=>by
 rw [getElem?_bubble hs d hd,if_neg #[O],if_neg #[O]]
def zmH (lo a mG:Nat):StateT SortSt Sem AscSt :=
 forIn [a:mG] ((none,a):AscSt) fun _ st=>do
  let x ← ltAt' (lo+st.snd) (lo+st.snd - 1)
  match x with
  | some sQ=>if sQ=true then pure (gu (none,st.snd)) else pure (cW (none,st.snd+1))
  | _=>pure (gu (some none,st.snd))
def zic (lo n mG:Nat):StateT SortSt Sem (Option Nat):=do
 reverseSlice' lo (lo+n)
 let st ← zmH lo n mG
 match st.fst with
 | some r=>pure r
 | none=>pure (some st.snd)
def zj8 (lo n mG:Nat):StateT SortSt Sem DescSt :=
 forIn [n:mG] ((none,n,0):DescSt) fun _ st=>do
  let x ← ltAt' (lo+st.snd.fst) (lo+st.snd.fst - 1)
  match x with
  | some sQ =>
   if sQ=true then
    if st.snd.snd > 0 then do
     reverseSlice' (lo+st.snd.fst - (st.snd.snd+1)) (lo+st.snd.fst)
     pure (cW (none,st.snd.fst+1,0))
    else pure (cW (none,st.snd.fst+1,0))
   else do
    let x ← ltAt' (lo+st.snd.fst - 1) (lo+st.snd.fst)
    match x with
    | some AM =>
     if AM=true then pure (gu (none,st.snd.fst,st.snd.snd))
     else pure (cW (none,st.snd.fst+1,st.snd.snd+1))
    | _=>pure (gu (some none,st.snd.fst,st.snd.snd))
  | _=>pure (gu (some none,st.snd.fst,st.snd.snd))
def zid (lo n mG:Nat):StateT SortSt Sem (Option Nat):=do
 liftM (rule "list.sort.descending-run"); let st ← zj8 lo (n+1) mG
 match st.fst with
 | some r=>pure r
 | none =>
  if st.snd.snd > 0 then do
   reverseSlice' (lo+st.snd.fst - (st.snd.snd+1)) (lo+st.snd.fst)
   zic lo st.snd.fst mG
  else zic lo st.snd.fst mG
theorem zg1 (lo mG:Nat):countRun' lo mG=(do
  let st ← zmH lo 1 mG
  match st.fst with
  | some r=>pure r
  | none =>
   if (st.snd == mG)=true then pure (some st.snd)
   else if st.snd > 1 then do
    let x ← ltAt' lo (lo+st.snd - 1)
    match x with
    | some CB=>if CB=true then pure (some st.snd) else do
      reverseSlice' lo (lo+st.snd)
      zid lo st.snd mG
    | _=>pure none
   else zid lo st.snd mG):=by
 rw [countRun'_eq];unfold zid zic zj8 zmH;dsimp only;refine congrArg (bind _) ?_;funext c;obtain⟨r,n⟩:=c;cases r with
 | some r=>rfl
 | none =>
  dsimp only;split
  ·rfl
  ·split
   ·congr 1;funext x;cases x with
    | none=>rfl
    | some CB =>
     dsimp only;split
     ·rfl
     ·congr 1;funext _r;congr 1; funext _u; congr 1; congr 1; funext s2; obtain⟨r2,n2,q2⟩:=s2;cases r2 with
      | some r2=>rfl
      | none =>
       dsimp only;split
       ·congr 1; funext _v; congr 1; funext _w; congr 1; funext s3; obtain⟨r3,n3⟩:=s3; cases r3 <;> rfl
       ·congr 1; funext _w; congr 1; funext s3; obtain⟨r3,n3⟩:=s3; cases r3 <;> rfl
   ·congr 1; funext _u; congr 1; congr 1; funext s2; obtain⟨r2,n2,q2⟩:=s2;cases r2 with
    | some r2=>rfl
    | none =>
     dsimp only;split
     ·congr 1; funext _v; congr 1; funext _w; congr 1; funext s3; obtain⟨r3,n3⟩:=s3; cases r3 <;> rfl
     ·congr 1; funext _w; congr 1; funext s3; obtain⟨r3,n3⟩:=s3; cases r3 <;> rfl
theorem zpC {st₀ st:SortSt} {lo a mG:Nat} {Q:AscSt→SortSt→Prop} (hC:Cmp prog w A s κ val a₀) (hn:lo+mG≤a₀.size) (ha:1≤a) (han:a≤mG) (hB:SF κ a₀ lo st₀ st)
  (hs:SIn val (arrOf st) lo (lo+a))
  (h:∀ n,a≤n→n≤mG→SIn val (arrOf st) lo (lo+n)→(n=mG∨Vk val (arrOf st) (lo+n) < Vk val (arrOf st) (lo+n - 1))→Q (none,n) st) :
  wpS (model prog w) A E s (zmH lo a mG) Q st:=by
 unfold zmH;refine c9 (I:=fun x c mj=>mj=st∧c=(none,x)∧SIn val (arrOf st) lo (lo+x)) ?step ?fin ⟨rfl,rfl,hs⟩
 case fin =>
  rintro c mj ⟨rfl,rfl,nT⟩
  (rw [show max a mG=mG by lia] at nT ⊢)
  (exact h mG han (ag _) nT (.inl rfl))
 case step =>
  (rintro x c mj FA Eb ⟨rfl,rfl,nT⟩)
  dsimp only;refine aw (zfj hC hB.b #[O] #[O] ?_);by_cases nU:Vk val (arrOf mj) (lo+x) < Vk val (arrOf mj) (lo+x - 1)
  ·(simp only [nU,decide_true,if_true])
   (exact aB (h x FA #[O] nT (.inr nU)))
  ·(simp only [nU,decide_false,br,if_false])
   refine aB ⟨rfl,rfl,fun i j ua qM hj=>?_⟩;by_cases CC:j < lo+x
   ·exact nT i j ua qM CC
   ·have pT:j=lo+x:=by lia
    subst pT;by_cases nH:i=lo+x
    ·(subst nH; exact bS _)
    ·exact ck (nT i (lo+x - 1) ua #[O] #[O]) (Int.not_lt.mp nU)
theorem zmI {st₀ st:SortSt} {lo n mG:Nat} {Q:Option Nat→SortSt→Prop} (hC:Cmp prog w A s κ val a₀) (hn:lo+mG≤a₀.size) (h1:1≤n) (yk:n≤mG) (hB:SF κ a₀ lo st₀ st)
  (hs:DIn val (arrOf st) lo (lo+n)) (h:∀ m mj,SF κ a₀ lo st₀ mj→1≤m→m≤mG→SIn val (arrOf mj) lo (lo+m)→Q (some m) mj) :
  wpS (model prog w) A E s (zic lo n mG) Q st:=by
 unfold zic;have hsz:lo+n≤(arrOf st).size:=by rw [hB.b.size]; lia
 refine aw (zj7 ?_);have pg:=hB.setArr (jB (arrOf st) lo (lo+n) ((lo+n - lo) / 2)) (zcx hsz (ag _));refine aw (zpC hC hn h1 yk pg ?_ fun m wR uI CD _=>aB (h m _ pg #[O] uI CD));intro i j ua qM hj;show Vk val (mirror (arrOf st) lo (lo+n) ((lo+n - lo) / 2)) i≤Vk val (mirror (arrOf st) lo (lo+n) ((lo+n - lo) / 2)) j;rw [zfk hsz,zfk hsz,if_pos #[O],if_pos #[O]];exact hs _ _ #[O] #[O] #[O]
theorem zqt {st₀ st:SortSt} {lo n mG:Nat} {Q:DescSt→SortSt→Prop} (hC:Cmp prog w A s κ val a₀) (hn:lo+mG≤a₀.size) (h1:1≤n) (yk:n≤mG) (hB:SF κ a₀ lo st₀ st)
  (hs:DIn val (arrOf st) lo (lo+n))
  (h:∀ m uS mj,SF κ a₀ lo st₀ mj→n≤m→m≤mG→DIn val (arrOf mj) lo (lo+m)→uS+1≤m→(∀ i,lo+m - (uS+1)≤i→i < lo+m→Vk val (arrOf mj) i=Vk val (arrOf mj) (lo+m - 1))→Q (none,m,uS) mj) :
  wpS (model prog w) A E s (zj8 lo n mG) Q st:=by
 unfold zj8;refine c9 (I:=fun x c mj=>∃ uS,c=(none,x,uS)∧SF κ a₀ lo st₀ mj∧DIn val (arrOf mj) lo (lo+x)∧uS+1≤x ∧
   (∀ i,lo+x - (uS+1)≤i→i < lo+x→Vk val (arrOf mj) i=Vk val (arrOf mj) (lo+x - 1))) ?step ?fin ⟨0,rfl,hB,hs,#[O],fun i h1 h2=>by congr 1; lia⟩
 case fin =>
  (rintro c mj ⟨uS,rfl,pg,nT,hq,he⟩)
  (rw [show max n mG=mG by lia] at nT hq he ⊢)
  (exact h mG uS mj pg yk (ag _) nT hq he)
 case step =>
  (rintro x c mj FA Eb ⟨uS,rfl,pg,nT,hq,he⟩)
  dsimp only;have hsz:lo+x≤(arrOf mj).size:=by rw [pg.b.size]; lia
  refine aw (zfj hC pg.b #[O] #[O] ?_);by_cases nU:Vk val (arrOf mj) (lo+x) < Vk val (arrOf mj) (lo+x - 1)
  ·(simp only [nU,decide_true,if_true])
   have step1:∀ xs:Array Keyed,(∀ k,Vk val xs k=Vk val (arrOf mj) k)→DIn val xs lo (lo+(x+1)):=by
    intro xs hk i j ua qM hj;rw [hk,hk];by_cases CC:j < lo+x
    ·exact nT i j ua qM CC
    ·have pT:j=lo+x:=by lia
     subst pT;by_cases nH:i=lo+x
     ·(subst nH; exact bS _)
     ·exact ck (fA nU) (nT i (lo+x - 1) ua #[O] #[O])
   by_cases xj:uS > 0
   ·rw [if_pos xj];refine aw (zj7 (aB ⟨0,rfl,pg.setArr (jB _ _ _ _) (zcx hsz #[O]),step1 _ (zbz hsz he),#[O],fun i h1 h2=>by congr 1; lia⟩))
   ·rw [if_neg xj]
    (exact aB ⟨0,rfl,pg,step1 _ (fun _=>rfl),#[O],fun i h1 h2=>by congr 1; lia⟩)
  ·(simp only [nU,decide_false,br,if_false])
   refine aw (zfj hC pg.b #[O] #[O] ?_);by_cases vE:Vk val (arrOf mj) (lo+x - 1) < Vk val (arrOf mj) (lo+x)
   ·(simp only [vE,decide_true,if_true])
    (exact aB (h x uS mj pg FA #[O] nT hq he))
   ·(simp only [vE,decide_false,br,if_false])
    have CF:Vk val (arrOf mj) (lo+x)=Vk val (arrOf mj) (lo+x - 1):=by lia
    refine aB ⟨uS+1,rfl,pg,fun i j ua qM hj=>?_,#[O],fun i h1 h2=>?_⟩
    ·by_cases CC:j < lo+x
     ·exact nT i j ua qM CC
     ·have pT:j=lo+x:=by lia
      subst pT;by_cases nH:i=lo+x
      ·(subst nH; exact bS _)
      ·rw [CF]; exact nT i (lo+x - 1) ua #[O] #[O]
    ·rw [show lo+(x+1) - 1=lo+x by lia];by_cases hix:i=lo+x
     ·subst hix; rfl
     ·(rw [CF]; exact he i #[O] #[O])
theorem zj9 {st₀ st:SortSt} {lo n mG:Nat} {Q:Option Nat→SortSt→Prop} (hC:Cmp prog w A s κ val a₀) (hn:lo+mG≤a₀.size) (yk:n+1≤mG) (hB:SF κ a₀ lo st₀ st)
  (hs:DIn val (arrOf st) lo (lo+(n+1))) (h:∀ m mj,SF κ a₀ lo st₀ mj→1≤m→m≤mG→SIn val (arrOf mj) lo (lo+m)→Q (some m) mj) :
  wpS (model prog w) A E s (zid lo n mG) Q st:=by
 unfold zid
 (refine aw (io (cF ⟨rfl,?_⟩)))
 refine aw (zqt hC hn #[O] yk hB hs fun m uS mj pg wR uI nT hq he=>?_);dsimp only;have hsz:lo+m≤(arrOf mj).size:=by rw [pg.b.size]; lia
 by_cases xj:uS > 0
 ·rw [if_pos xj];refine aw (zj7 (zmI hC hn #[O] uI (pg.setArr (jB _ _ _ _) (zcx hsz #[O])) ?_ h));intro i j ua qM hj;show Vk val (mirror (arrOf mj) _ _ _) j≤Vk val (mirror (arrOf mj) _ _ _) i;rw [zbz hsz he,zbz hsz he];exact nT i j ua qM hj
 ·rw [if_neg xj];exact zmI hC hn #[O] uI pg nT h
theorem zov {st₀ st:SortSt} {lo mG:Nat} {Q:Option Nat→SortSt→Prop} (hC:Cmp prog w A s κ val a₀) (hn:lo+mG≤a₀.size) (h1:1≤mG) (hB:SF κ a₀ lo st₀ st)
  (h:∀ m mj,SF κ a₀ lo st₀ mj→1≤m→m≤mG→SIn val (arrOf mj) lo (lo+m)→Q (some m) mj) :
  wpS (model prog w) A E s (countRun' lo mG) Q st:=by
 rw [zg1];refine aw (zpC hC hn (ag 1) h1 hB (fun i j ua qM hj=>(by
   have e:i=j:=by lia
   rw [e];exact bS _)) fun n uU uC vU hor=>?_)
 dsimp only;by_cases yk:n=mG
 ·(rw [if_pos (by simpa using yk)])
  (exact aB (h n st hB uU uC vU))
 ·(rw [if_neg (by simpa using yk)])
  have mM:Vk val (arrOf st) (lo+n) < Vk val (arrOf st) (lo+n - 1):=hor.resolve_left yk;by_cases hgt:n > 1
  ·rw [if_pos hgt];refine aw (zfj hC hB.b #[O] #[O] ?_);by_cases yX:Vk val (arrOf st) lo < Vk val (arrOf st) (lo+n - 1)
   ·(simp only [yX,decide_true,if_true])
    (exact aB (h n st hB uU uC vU))
   ·(simp only [yX,decide_false,br,if_false])
    have hsz:lo+n≤(arrOf st).size:=by rw [hB.b.size]; lia
    have pU:∀ k,lo≤k→k < lo+n→Vk val (arrOf st) k=Vk val (arrOf st) (lo+n - 1):=by
     intro k wU hk;have a1:=vU lo k (ag _) wU hk;have a2:=vU k (lo+n - 1) wU #[O] #[O];lia
    refine aw (zj7 (zj9 hC hn #[O] (hB.setArr (jB _ _ _ _) (zcx hsz (ag _))) ?_ h));intro i j ua qM hj;show Vk val (mirror (arrOf st) _ _ _) j≤Vk val (mirror (arrOf st) _ _ _) i;rw [zbz hsz pU,zbz hsz pU];by_cases hjn:j < lo+n
    ·(rw [pU i #[O] #[O],pU j #[O] hjn]; exact bS _)
    ·have pT:j=lo+n:=by lia
     subst pT;by_cases nH:i=lo+n
     ·(subst nH; exact bS _)
     ·(rw [pU i #[O] #[O]]; exact fA mM)
  ·rw [if_neg hgt];have FC:n=1:=by lia
   subst FC;refine zj9 hC hn #[O] hB ?_ h;intro i j ua qM hj;by_cases nH:i=j
   ·(subst nH; exact bS _)
   ·have AN:i=lo:=by lia
    have yl:j=lo+1:=by lia
    subst AN; subst yl;exact fA mM
theorem zie {xs:Array Keyed} {src d:Nat} (hs:src < xs.size) (hd:d≤src) (k:Nat) :
  Vk val (bubble xs src d) k=if k=src - d then Vk val xs src else if src - d < k∧k≤src then Vk val xs (k - 1) else Vk val xs k:=by
 (have e:=getElem?_bubble hs d hd k)
 by_cases h1:k=src - d
 ·rw [if_pos h1] at e ⊢; exact zak e
 ·rw [if_neg h1] at e ⊢
  (by_cases h2:src - d < k∧k≤src)
  ·rw [if_pos h2] at e ⊢; exact zak e
  ·rw [if_neg h2] at e ⊢; exact zak e
theorem zrv {st₀ st:SortSt} {lo n ok:Nat} {Q:Bool→SortSt→Prop} (hC:Cmp prog w A s κ val a₀) (hn:lo+n≤a₀.size) (hok:ok≤n) (hB:SF κ a₀ lo st₀ st) (hs:SIn val (arrOf st) lo (lo+ok))
  (h:∀ mj,SF κ a₀ lo st₀ mj→SIn val (arrOf mj) lo (lo+n)→Q true mj):wpS (model prog w) A E s (binarySort' lo n ok) Q st:=by
 rw [binarySort'_eq];refine aw (dU (c9 (I:=fun k c mj=>c=(none,())∧SF κ a₀ lo st₀ mj∧SIn val (arrOf mj) lo (lo+min k n))
  (Q:=fun c mj=>c=(none,())∧SF κ a₀ lo st₀ mj∧SIn val (arrOf mj) lo (lo+n)) ?step ?fin ?init) ?post)
 case post =>
  rintro c mj ⟨rfl,pg,nT⟩
  (exact aB (h mj pg nT))
 case init =>
  refine⟨rfl,hB,fun i j ua qM hj=>?_⟩;by_cases h1:ok=0
  ·have e:i=j:=by lia
   rw [e]; exact bS _
  ·exact hs i j ua qM #[O]
 case fin =>
  rintro c mj ⟨hc,pg,nT⟩;refine⟨hc,pg,?_⟩
  (rwa [show min (max (max ok 1) n) n=n by lia] at nT)
 case step =>
  (rintro k c mj hak BP ⟨rfl,pg,nT⟩)
  (rw [show min k n=k by lia] at nT)
  have hk:lo+k < a₀.size:=#[O]; refine aw (dU (c9 (I:=fun x c oD=>oD=mj∧∃ l r,c=(none,l,r)∧l≤r∧r≤k∧r - l≤k - x ∧
    (∀ i,i < l→Vk val (arrOf mj) (lo+i)≤Vk val (arrOf mj) (lo+k))∧(∀ i,r≤i→i < k→Vk val (arrOf mj) (lo+k) < Vk val (arrOf mj) (lo+i)))
   (Q:=fun c oD=>oD=mj∧∃ l r,c=(none,l,r)∧l≤k∧(∀ i,i < l→Vk val (arrOf mj) (lo+i)≤Vk val (arrOf mj) (lo+k))∧(∀ i,l≤i→i < k→Vk val (arrOf mj) (lo+k) < Vk val (arrOf mj) (lo+i))) ?istep ?ifin ?iinit) ?ipost)
  case iinit=>(exact⟨rfl,0,k,rfl,#[O],#[O],#[O],fun i hi=>by lia,fun i h1 h2=>by lia⟩)
  case ifin =>
   (rintro c oD ⟨rfl,l,r,rfl,BQ,FD,hm,qK,xU⟩)
   have:l=r:=by lia
   subst this
   (exact⟨rfl,l,l,rfl,FD,qK,xU⟩)
  case istep =>
   (rintro x c oD _ hxk ⟨rfl,l,r,rfl,BQ,FD,hm,qK,xU⟩)
   dsimp only;by_cases pY:l≥r
   ·rw [if_pos pY];have:l=r:=by lia
    subst this
    (exact aB ⟨rfl,l,l,rfl,FD,qK,xU⟩)
   ·rw [if_neg pY];refine aw (zfj hC pg.b hk #[O] ?_);by_cases nU:Vk val (arrOf oD) (lo+k) < Vk val (arrOf oD) (lo+(l+r) / 2)
    ·(simp only [nU,decide_true,if_true])
     (refine aB ⟨rfl,l,(l+r) / 2,rfl,#[O],#[O],#[O],qK,fun i h1 h2=>?_⟩)
     exact Int.lt_of_lt_of_le nU (nT _ _ #[O] #[O] #[O])
    ·(simp only [nU,decide_false,br,if_false])
     (refine aB ⟨rfl,(l+r) / 2+1,r,rfl,#[O],#[O],#[O],fun i h1=>?_,xU⟩)
     exact ck (nT (lo+i) (lo+(l+r) / 2) #[O] #[O] #[O]) (Int.not_lt.mp nU)
  case ipost =>
   (rintro c oD ⟨rfl,l,r,rfl,hlk,qK,xU⟩)
   show wpS _ _ _ _ (do moveDown' (lo+k) (lo+l); pure (cW (none,()))) _ _;rw [moveDown'_eq];have FE:lo+k < (arrOf oD).size:=by rw [pg.b.size]; exact hk
   refine aw (fN (aB ⟨rfl,pg.setArr (bubble_perm _ _ _) (zjn FE #[O] #[O]),?_⟩))
   (rw [show min (k+1) n=k+1 by lia])
   intro i j ua qM hj;show Vk val (bubble (arrOf oD) (lo+k) (lo+k - (lo+l))) i≤Vk val (bubble (arrOf oD) (lo+k) (lo+k - (lo+l))) j;rw [zie FE #[O],zie FE #[O],show lo+k - (lo+k - (lo+l))=lo+l by lia];have FF:∀ i,lo≤i→i < lo+l→Vk val (arrOf oD) i≤Vk val (arrOf oD) (lo+k):=fun i h1 h2=>by
    have:=qK (i - lo) #[O]
    rwa [show lo+(i - lo)=i by lia] at this
   have FG:∀ i,lo+l≤i→i < lo+k→Vk val (arrOf oD) (lo+k) < Vk val (arrOf oD) i:=fun i h1 h2=>by
    have:=xU (i - lo) #[O] #[O]
    rwa [show lo+(i - lo)=i by lia] at this
   repeat' split
   all_goals first
    | (exfalso; lia)
    | exact bS _
    | exact FF _ #[O] #[O]
    | exact fA (FG _ #[O] #[O])
    | exact nT _ _ #[O] #[O] #[O]
end
end Srt
end
section
namespace Srt
open PySem PyProof.Rows
def zow:Bool→Keyed→Array Keyed→Nat→Nat→Nat→StateT SortSt Sem (Option Nat):=sortPriv% PySem.Builtin.gallop
def zmJ:Array Keyed→Array Keyed→StateT SortSt Sem (Array Keyed):=sortPriv% PySem.Builtin.mergeLo
def zmK:Array Keyed→Array Keyed→StateT SortSt Sem (Array Keyed):=sortPriv% PySem.Builtin.mergeHi
def zdk:Nat→StateT SortSt Sem Unit:=sortPriv% PySem.Builtin.setMinGallop
theorem zg2 {M:Model} {A:Around} {E:Value→Shared→Prop} {s:Shared} {α:Type} {m:StateT SortSt Sem α} {Q:α→SortSt→Prop} {st:SortSt} (h:wpAny M A (m st) (fun r s'=>s'=s∧Q r.1 r.2) E s):wpS M A E s m Q st:=h
theorem zg3 {M:Model} {A:Around} {E:Value→Shared→Prop} {s:Shared} {α:Type} {m:StateT SortSt Sem α} {Q:α→SortSt→Prop} {st:SortSt} (h:wpS M A E s m Q st):wpAny M A (m st) (fun r s'=>s'=s∧Q r.1 r.2) E s:=h
section
variable {prog:Program} {w:World} {A:Around} {E:Value→Shared→Prop} {s:Shared} {a₀:Array Keyed} {κ:SortKind} {val:Keyed→Int}
def bB (val:Keyed→Int) (left:Bool) (key:Keyed) (arr:Array Keyed) (base i:Nat):Bool:=if left then decide (Vk val arr (base+i) < val key) else !decide (val key < Vk val arr (base+i))
theorem zdH {left:Bool} {key:Keyed} {arr:Array Keyed} {base n i j:Nat} (hs:SIn val arr base (base+n)) (qM:i≤j) (hj:j < n) (h:bB val left key arr base j=true):bB val left key arr base i=true:=by
 have:=hs (base+i) (base+j) #[O] #[O] #[O];unfold bB at h ⊢;cases left <;> simp at h ⊢ <;> lia
theorem zcT {st:SortSt} {left:Bool} {key:Keyed} {arr:Array Keyed} {base i:Nat} {Q:Option Bool→SortSt→Prop} {p:Keyed} (hC:Cmp prog w A s κ val a₀) (hk:kindOf st=κ) (qO:key∈a₀.toList) (he:arr[base+i]? = some p) (hp:p∈a₀.toList)
  (h:Q (some (bB val left key arr base i)) st):wpS (model prog w) A E s (do
   let x ← elem' arr (base+i)
   if left then lt' x key else do
    let r ← lt' key x
    return r.map (!·)) Q st:=by
 refine aw (z8 he ?_);unfold bB at h;rw [zaa he] at h;cases left with
 | true=>exact zmG hC hk hp qO h
 | false=>exact aw (zmG hC hk qO hp (aB h))
abbrev zox:=Option (Option Nat)×Nat×Nat
theorem zmL {st:SortSt} {left:Bool} {key:Keyed} {arr:Array Keyed} {base n lo hi:Nat} {f:Nat→zox→StateT SortSt Sem (ForInStep zox)} (hs:SIn val arr base (base+n)) (hlh:lo≤hi) (hhn:hi≤n)
  (h1:∀ i,i < lo→bB val left key arr base i=true) (h2:∀ i,hi≤i→i < n→bB val left key arr base i=false)
  (hf:∀ (x l r:Nat) (R:ForInStep zox→SortSt→Prop),r≤n→(l≥r→R (.done (none,l,r)) st)→(l < r→R (if bB val left key arr base (l+(r - l) / 2)=true then .yield (none,l+(r - l) / 2+1,r) else .yield (none,l,l+(r - l) / 2)) st)→wpS (model prog w) A E s (f x (none,l,r)) R st) :
  wpS (model prog w) A E s (forIn [0:n] ((none,lo,hi):zox) f) (fun c mj=>mj=st∧∃ l,c=(none,l,l)∧l≤n∧(∀ i,i < l→bB val left key arr base i=true)∧(∀ i,l≤i→i < n→bB val left key arr base i=false)) st:=by
 refine c9 (I:=fun x c mj=>mj=st∧∃ l r,c=(none,l,r)∧l≤r∧r≤n∧r - l≤n - x∧(∀ i,i < l→bB val left key arr base i=true)∧(∀ i,r≤i→i < n→bB val left key arr base i=false)) ?step ?fin ⟨rfl,lo,hi,rfl,hlh,hhn,#[O],h1,h2⟩
 case fin =>
  rintro c mj ⟨rfl,l,r,rfl,BQ,AO,hm,a1,a2⟩;have:l=r:=by lia
  subst this;exact⟨rfl,l,rfl,AO,a1,a2⟩
 case step =>
  rintro x c mj _ Eb ⟨rfl,l,r,rfl,BQ,AO,hm,a1,a2⟩;refine hf x l r _ AO (fun pY=>?_) (fun mM=>?_)
  ·have:l=r:=by lia
   subst this;exact⟨rfl,l,rfl,AO,a1,a2⟩
  ·cases hb:bB val left key arr base (l+(r - l) / 2) with
   | true =>
    rw [if_pos rfl];exact⟨rfl,l+(r - l) / 2+1,r,rfl,#[O],AO,#[O],fun i hi=>zdH hs #[O] #[O] hb,a2⟩
   | false =>
    rw [if_neg #[D]];refine⟨rfl,l,l+(r - l) / 2,rfl,#[O],#[O],#[O],a1,fun i hi tU=>?_⟩;cases e:bB val left key arr base i with
    | false=>rfl
    | true=>rw [zdH hs hi tU e] at hb; cases hb
theorem zbA {st:SortSt} {left:Bool} {key:Keyed} {arr:Array Keyed} {base n hint:Nat} {Q:Option Nat→SortSt→Prop} (hC:Cmp prog w A s κ val a₀) (hk:kindOf st=κ) (qO:key∈a₀.toList)
  (ha:∀ i,i < n→∃ p,arr[base+i]? = some p∧p∈a₀.toList) (hs:SIn val arr base (base+n)) (hh:hint < n)
  (h:∀ k,k≤n→(∀ i,i < k→bB val left key arr base i=true)→(∀ i,k≤i→i < n→bB val left key arr base i=false)→Q (some k) st) :
  wpS (model prog w) A E s (zow left key arr base n hint) Q st:=by
 refine zg2 ?_
 wp_delta
 wp_delta
 refine zg3 ?_;dsimp only;obtain⟨p,ep,mp⟩:=ha hint hh;refine aw (zcT hC hk qO ep mp ?_);dsimp only;have up:∀ {i j:Nat},i≤j→j < n→bB val left key arr base i=false→bB val left key arr base j=false:=fun {i j} qM hj h=>by
  cases e:bB val left key arr base j with
  | false=>rfl
  | true=>rw [zdH hs qM hj e] at h; cases h
 cases hr:bB val left key arr base hint with
 | true =>
  simp only [if_true];refine aw (dU (c9 (I:=fun x c mj=>mj=st∧∃ l o,c=(none,l,o)∧l < o∧x+1≤o∧hint+l < n∧bB val left key arr base (hint+l)=true)
   (Q:=fun c mj=>mj=st∧∃ l o,c=(none,l,o)∧l < o∧hint+l < n∧bB val left key arr base (hint+l)=true∧(hint+o < n→bB val left key arr base (hint+o)=false)) ?step ?fin ⟨rfl,0,1,rfl,#[O],#[O],hh,hr⟩) ?post)
  case fin =>
   rintro c mj ⟨rfl,l,o,rfl,qK,hx,hl,hb⟩;exact⟨rfl,l,o,rfl,qK,hl,hb,fun z=>by lia⟩
  case step =>
   rintro x c mj _ Eb ⟨rfl,l,o,rfl,qK,hx,hl,hb⟩;dsimp only;by_cases pY:o≥n - hint
   ·rw [if_pos pY];exact aB ⟨rfl,l,o,rfl,qK,hl,hb,fun z=>by lia⟩
   ·rw [if_neg pY];obtain⟨p,ep,mp⟩:=ha (hint+o) #[O];refine aw (zcT hC hk qO ep mp ?_);dsimp only;cases uJ:bB val left key arr base (hint+o) with
    | true =>
     rw [if_neg #[D]];exact aB ⟨rfl,o,2*o+1,rfl,#[O],#[O],#[O],uJ⟩
    | false =>
     rw [if_pos #[D]];exact aB ⟨rfl,l,o,rfl,qK,hl,hb,fun _=>uJ⟩
  case post =>
   rintro c mj ⟨rfl,l,o,rfl,qK,hl,hb,uJ⟩;dsimp only;refine aw (dU (zmL (val:=val) (left:=left) (key:=key) (arr:=arr) (base:=base) hs #[O] #[O] (fun i hi=>zdH hs #[O] hl hb) (fun i hi tU=>(by
    by_cases ho:hint+o < n
    ·exact up #[O] tU (uJ ho)
    ·lia)) (fun x l' r' R AO k1 k2=>?_)) ?_)
   ·dsimp only;by_cases pY:l'≥r'
    ·rw [if_pos pY];exact aB (k1 pY)
    ·rw [if_neg pY];obtain⟨p,ep,mp⟩:=ha (l'+(r' - l') / 2) #[O];refine aw (zcT hC hk qO ep mp ?_);have k3:=k2 #[O];dsimp only;cases yY:bB val left key arr base (l'+(r' - l') / 2) with
     | true=>rw [yY] at k3; rw [if_pos rfl] at k3 ⊢; exact aB k3
     | false=>rw [yY] at k3; rw [if_neg #[D]] at k3 ⊢; exact aB k3
   ·rintro c oD ⟨rfl,l,rfl,hl,b1,b2⟩;exact aB (h l hl b1 b2)
 | false =>
  (simp only [br,if_false])
  refine aw (dU (c9 (I:=fun x c mj=>mj=st∧∃ l o,c=(none,l,o)∧l < o∧x+1≤o∧l≤hint∧bB val left key arr base (hint - l)=false)
   (Q:=fun c mj=>mj=st∧∃ l o,c=(none,l,o)∧l < o∧l≤hint∧bB val left key arr base (hint - l)=false∧(o≤hint→bB val left key arr base (hint - o)=true)) ?step ?fin ⟨rfl,0,1,rfl,#[O],#[O],#[O],hr⟩) ?post)
  case fin =>
   rintro c mj ⟨rfl,l,o,rfl,qK,hx,hl,hb⟩;exact⟨rfl,l,o,rfl,qK,hl,hb,fun z=>by lia⟩
  case step =>
   rintro x c mj _ Eb ⟨rfl,l,o,rfl,qK,hx,hl,hb⟩;dsimp only;by_cases pY:o≥hint+1
   ·rw [if_pos pY];exact aB ⟨rfl,l,o,rfl,qK,hl,hb,fun z=>by lia⟩
   ·rw [if_neg pY];obtain⟨p,ep,mp⟩:=ha (hint - o) #[O];refine aw (zcT hC hk qO ep mp ?_);dsimp only;cases uJ:bB val left key arr base (hint - o) with
    | false =>
     rw [if_neg #[D]];exact aB ⟨rfl,o,2*o+1,rfl,#[O],#[O],#[O],uJ⟩
    | true =>
     rw [if_pos rfl];exact aB ⟨rfl,l,o,rfl,qK,hl,hb,fun _=>uJ⟩
  case post =>
   rintro c mj ⟨rfl,l,o,rfl,qK,hl,hb,uJ⟩;dsimp only;refine aw (dU (zmL (val:=val) (left:=left) (key:=key) (arr:=arr) (base:=base) hs #[O] #[O] (fun i hi=>(by
    by_cases ho:o≤hint
    ·exact zdH hs #[O] #[O] (uJ ho)
    ·lia)) (fun i hi tU=>up hi tU hb) (fun x l' r' R AO k1 k2=>?_)) ?_)
   ·dsimp only;by_cases pY:l'≥r'
    ·rw [if_pos pY];exact aB (k1 pY)
    ·rw [if_neg pY];obtain⟨p,ep,mp⟩:=ha (l'+(r' - l') / 2) #[O];refine aw (zcT hC hk qO ep mp ?_);have k3:=k2 #[O];dsimp only;cases yY:bB val left key arr base (l'+(r' - l') / 2) with
     | true=>rw [yY] at k3; rw [if_pos rfl] at k3 ⊢; exact aB k3
     | false=>rw [yY] at k3; rw [if_neg #[D]] at k3 ⊢; exact aB k3
   ·rintro c oD ⟨rfl,l,rfl,hl,b1,b2⟩;exact aB (h l hl b1 b2)
end
end Srt
end
section
namespace Srt
open PySem PyProof.Rows
abbrev zaq (st:SortSt) (g:Nat):SortSt:=lF (kindOf st) (arrOf st) (pendingOf st) g (failedOf st)
theorem zd8 (g:Nat):zdk g=modify fun s=>zaq s g:=rfl
def Le (val:Keyed→Int) (xs ys:List Keyed):Prop:=∀ x∈xs,∀ y∈ys,val x≤val y
def Ris (val:Keyed→Int) (xs:List Keyed):Prop:=xs.Pairwise fun x y=>val x≤val y
theorem zaC {val:Keyed→Int} {xs ys:List Keyed}:Ris val (xs++ys)↔Ris val xs∧Ris val ys∧Le val xs ys:=jV
structure MI (val:Keyed→Int) (T o l r:List Keyed):Prop where
 perm:(o++l++r).Perm T
 so:Ris val o
 sl:Ris val l
 sr:Ris val r
 ol:Le val o l
 or':Le val o r
def Good (val:Keyed→Int) (T res:List Keyed):Prop:=res.Perm T∧Ris val res
section
variable {val:Keyed→Int} {T o l l1 l2 r r1 r2:List Keyed}
theorem Le.left {xs ys zs:List Keyed} (h:Le val (xs++ys) zs):Le val xs zs:=fun x hx y hy=>h x (ba _ hx) y hy
theorem Le.right {xs ys zs:List Keyed} (h:Le val (xs++ys) zs):Le val ys zs:=fun x hx y hy=>h x (aP _ hx) y hy
theorem Le.app {xs ys zs:List Keyed} (h1:Le val xs zs) (h2:Le val ys zs):Le val (xs++ys) zs:=fun x hx y hy=>by
 rcases aY.mp hx with h | h
 ·exact h1 x h y hy
 ·exact h2 x h y hy
theorem Le.app' {xs ys zs:List Keyed} (h1:Le val xs ys) (h2:Le val xs zs):Le val xs (ys++zs):=fun x hx y hy=>by
 rcases aY.mp hy with h | h
 ·exact h1 x hx y h
 ·exact h2 x hx y h
theorem Le.sub {xs ys zs:List Keyed} (h1:Le val xs (ys++zs)):Le val xs ys∧Le val xs zs:=⟨fun x hx y hy=>h1 x hx y (ba _ hy),fun x hx y hy=>h1 x hx y (aP _ hy)⟩
theorem MI.takeA (h:MI val T o (l1++l2) r) (hle:Le val l1 r):MI val T (o++l1) l2 r:=by
 obtain⟨a1,a2,a3⟩:=zaC.mp h.sl;obtain⟨b1,b2⟩:=h.ol.sub;exact⟨by have:=h.perm; simpa [bD] using this,zaC.mpr ⟨h.so,a1,b1⟩,a2,h.sr,b2.app a3,h.or'.app hle⟩
theorem MI.takeB (h:MI val T o l (r1++r2)) (hle:Le val r1 l):MI val T (o++r1) l r2:=by
 obtain⟨a1,a2,a3⟩:=zaC.mp h.sr;obtain⟨b1,b2⟩:=h.or'.sub;refine⟨?_,zaC.mpr ⟨h.so,a1,b1⟩,h.sl,a2,h.ol.app hle,b2.app a3⟩;refine f' ?_ h.perm;have:(r1++l++r2).Perm (l++r1++r2):=List.perm_append_comm.append_right _;simpa [bD] using this.append_left o
theorem MI.doneA (h:MI val T o l []):Good val T (o++l):=⟨by have:=h.perm; simpa using this,zaC.mpr ⟨h.so,h.sl,h.ol⟩⟩
theorem MI.doneB (h:MI val T o [] r):Good val T (o++r):=⟨by have:=h.perm; simpa using this,zaC.mpr ⟨h.so,h.sr,h.or'⟩⟩
theorem MI.last (h:MI val T o l r) (hle:Le val r l):Good val T (o++r++l):=by
 refine⟨f' ?_ h.perm,?_⟩
 ·rw [bD,bD];exact List.perm_append_comm.append_left o
 ·exact zaC.mpr ⟨zaC.mpr ⟨h.so,h.sr,h.or'⟩,h.sl,h.ol.app hle⟩
end
section
variable {val:Keyed→Int} {T:List Keyed} {a b out:Array Keyed} {ia ib:Nat}
abbrev MA (val:Keyed→Int) (T:List Keyed) (a b out:Array Keyed) (ia ib:Nat):Prop:=MI val T out.toList (a.toList.drop ia) (b.toList.drop ib)
theorem zeG {xs:Array Keyed} {i:Nat} {p:Keyed} (h:xs[i]? = some p):xs.toList.drop i=p :: xs.toList.drop (i+1):=by
 have hi:i < xs.toList.length:=by
  have:=(dt.mp h).1;simpa using this
 rw [cX hi];congr 1;have:=(dt.mp h).2;simpa using this
theorem zdI {xs:Array Keyed} (h:SIn val xs 0 xs.size):∀ i,Ris val (xs.toList.drop i):=by
 have all:Ris val xs.toList:=by
  unfold Ris
  (rw [cY])
  intro i j hi hj qM
  (have nH:i < xs.size:=by simpa using hi)
  (have pT:j < xs.size:=by simpa using hj)
  have:=h i j (bm _) #[O] pT;rw [zaa (getElem?_pos xs i nH),zaa (getElem?_pos xs j pT)] at this;simpa using this
 exact fun i=>fB (List.drop_sublist _ _) all
theorem zeH {xs:Array Keyed} {i:Nat} {p q:Keyed} (h:SIn val xs 0 xs.size) (hp:xs[i]? = some p) (hq:q∈xs.toList.drop i):val p≤val q:=by
 have:=zdI h i;rw [zeG hp] at this hq;rcases (aF.mp hq) with rfl | hq
 ·exact bS _
 ·exact List.rel_of_pairwise_cons this hq
theorem MA.pushB {y x:Keyed} (h:MA val T a b out ia ib) (sa:SIn val a 0 a.size) (hy:b[ib]? = some y) (hx:a[ia]? = some x) (hle:val y≤val x):MA val T a b (out.push y) ia (ib+1):=by
 unfold MA at h ⊢;rw [zeG hy] at h;have:=MI.takeB (r1:=[y]) h fun p hp q hq=>by
  rw [aW.mp hp];exact ck hle (zeH sa hx hq)
 simpa using this
theorem MA.pushA {y x:Keyed} (h:MA val T a b out ia ib) (sb:SIn val b 0 b.size) (hy:b[ib]? = some y) (hx:a[ia]? = some x) (hle:val x≤val y):MA val T a b (out.push x) (ia+1) ib:=by
 unfold MA at h ⊢;rw [zeG hx] at h;have:=MI.takeA (l1:=[x]) h fun p hp q hq=>by
  rw [aW.mp hp];exact ck hle (zeH sb hy hq)
 simpa using this
theorem zmM (xs:Array Keyed) (i k:Nat):xs.toList.drop i=(xs.extract i (i+k)).toList++xs.toList.drop (i+k):=by
 rw [dI];have:(xs.toList.extract i (i+k))=(xs.toList.drop i).take k:=by
  simp [dA] <;> lia
 rw [this,← jH,cw]
theorem zeI {xs:Array Keyed} {i k:Nat} {p:Keyed} (h:p∈(xs.extract i (i+k)).toList):∃ j,j < k∧xs[i+j]? = some p:=by
 have e0:(xs.extract i (i+k)).toList=(xs.toList.drop i).take k:=by
  rw [dI];simp [dA] <;> lia
 rw [e0] at h
 (obtain⟨j,hj,e⟩:=eZ h)
 have tV:j < k∧j < (xs.toList.drop i).length:=by
  rw [aI] at hj;lia
 refine⟨j,tV.1,?_⟩;rw [← bE,← ff,aj tV.2,← e,kO]
theorem MA.takeA {y:Keyed} {k:Nat} (h:MA val T a b out ia ib) (sb:SIn val b 0 b.size) (hy:b[ib]? = some y) (hle:∀ i,i < k→Vk val a (ia+i)≤val y):MA val T a b (out++a.extract ia (ia+k)) (ia+k) ib:=by
 unfold MA at h ⊢;rw [zmM a ia k] at h;have:=MI.takeA h fun p hp q hq=>by
  obtain⟨j,hj,e⟩:=zeI hp;have:=hle j hj;rw [zaa e] at this;exact ck this (zeH sb hy hq)
 simpa using this
theorem MA.takeB {x:Keyed} {k:Nat} (h:MA val T a b out ia ib) (sa:SIn val a 0 a.size) (hx:a[ia]? = some x) (hle:∀ i,i < k→Vk val b (ib+i)≤val x):MA val T a b (out++b.extract ib (ib+k)) ia (ib+k):=by
 unfold MA at h ⊢;rw [zmM b ib k] at h;have:=MI.takeB h fun p hp q hq=>by
  obtain⟨j,hj,e⟩:=zeI hp;have:=hle j hj;rw [zaa e] at this;exact ck this (zeH sa hx hq)
 simpa using this
theorem zc4 (xs:Array Keyed) (i:Nat):(xs.extract i xs.size).toList=xs.toList.drop i:=by
 rw [dI];simp only [dA]
 (exact aJ #[M])
theorem MA.doneB (h:MA val T a b out ia ib) (e:ib=b.size):Good val T (out++a.extract ia a.size++b.extract ib b.size).toList:=by
 unfold MA at h;rw [show b.toList.drop ib = [] from dY (by simp [e])] at h;have:=h.doneA;rw [bW,bW,zc4,zc4,show b.toList.drop ib = [] from dY (by simp [e]),bI];exact this
theorem MA.doneA (h:MA val T a b out ia ib) (e:ia=a.size):Good val T (out++a.extract ia a.size++b.extract ib b.size).toList:=by
 unfold MA at h;rw [show a.toList.drop ia = [] from dY (by simp [e])] at h;have:=h.doneB;rw [bW,bW,zc4,zc4,show a.toList.drop ia = [] from dY (by simp [e]),bI];exact this
theorem MA.last (h:MA val T a b out ia ib) (e:ia+1=a.size) (hl:∀ i,i < b.size→Vk val b i≤Vk val a (a.size - 1)):Good val T (out++b.extract ib b.size++a.extract ia a.size).toList:=by
 unfold MA at h;have hx:a[ia]? = some (a[ia]'#[O]):=getElem?_pos a ia #[O];have:=h.last fun p hp q hq=>by
  rw [zeG hx,show a.toList.drop (ia+1) = [] from dY (by simp [e])] at hq;rw [aW.mp hq];obtain⟨j,hj,ej⟩:=eZ (jW hp);have pT:j < b.size:=by simpa using hj
  have:=hl j pT;rw [zaa (getElem?_pos b j pT),show a.size - 1=ia by lia,zaa hx] at this;rw [← ej];simpa using this
 rw [bW,bW,zc4,zc4];exact this
end
end Srt
end
section
namespace Srt
open PySem PyProof.Rows
section
variable {prog:Program} {w:World} {A:Around} {E:Value→Shared→Prop} {s:Shared} {a₀:Array Keyed} {κ:SortKind} {val:Keyed→Int}
theorem zdJ {st:SortSt} {g:Nat} {Q:Unit→SortSt→Prop} (h:Q () (zaq st g)):wpS (model prog w) A E s (zdk g) Q st:=by
 rw [zd8];exact fN h
theorem zaB {g:Prop} {xs:Array Keyed} {i:Nat} (h:i < xs.size) (k:∀ p,xs[i]? = some p→p∈xs.toList→g):g:=k _ (getElem?_pos xs i h) #[M]
theorem zcy {key:Keyed} {arr:Array Keyed} {base i:Nat} (h:bB val true key arr base i=true):Vk val arr (base+i) < val key:=by
 unfold bB at h;simpa using h
theorem zdK {key:Keyed} {arr:Array Keyed} {base i:Nat} (h:bB val false key arr base i=true):Vk val arr (base+i)≤val key:=by
 unfold bB at h;simp at h;lia
theorem zdr {key:Keyed} {arr:Array Keyed} {base i:Nat} (h:bB val true key arr base i=false):val key≤Vk val arr (base+i):=by
 unfold bB at h;simp at h;lia
theorem zeJ {key:Keyed} {arr:Array Keyed} {base i:Nat} (h:bB val false key arr base i=false):val key < Vk val arr (base+i):=by
 unfold bB at h;simp at h;exact h
theorem SIn.sub {xs:Array Keyed} {lo hi lo' nH:Nat} (h:SIn val xs lo hi) (h1:lo≤lo') (h2:nH≤hi):SIn val xs lo' nH:=fun i j a b c=>h i j #[O] b #[O]
theorem zE {σ α:Type} {M:Model} {c:Prop} {inst:Decidable c} {x y:StateT σ Sem α} {Q:α→σ→Prop} {st:σ} (h:c) (k:wpS M A E s x Q st):wpS M A E s (@ite _ c inst x y) Q st:=by rw [if_pos h]; exact k
theorem zF {σ α:Type} {M:Model} {c:Prop} {inst:Decidable c} {x y:StateT σ Sem α} {Q:α→σ→Prop} {st:σ} (h:¬ c) (k:wpS M A E s y Q st):wpS M A E s (@ite _ c inst x y) Q st:=by rw [if_neg h]; exact k
theorem dup {P X:Prop} (h:P→P→X) (k:P):X:=h k k
theorem zrZ {P X:Prop} (h:(Unit→P)→(Unit→P)→X) (k:P):X:=h (fun _=>k) (fun _=>k)
theorem fr5 {σ β A1 A2 A3 A4 A5:Type} {M:Model} {lo hi:Nat} {f:Nat→β→StateT σ Sem (ForInStep β)} {Q:β→σ→Prop} {c:β} {st:σ} (vF:A1→A2→A3→A4→A5→β) (xk:A1→A2→A3→A4→A5→σ) (J:Nat→A1→A2→A3→A4→A5→Prop) (start:∃ a1 a2 a3 a4 a5,st=xk a1 a2 a3 a4 a5∧c=vF a1 a2 a3 a4 a5∧J lo a1 a2 a3 a4 a5) (fin:∀ a1 a2 a3 a4 a5,J (max lo hi) a1 a2 a3 a4 a5→Q (vF a1 a2 a3 a4 a5) (xk a1 a2 a3 a4 a5))
  (step:∀ x a1 a2 a3 a4 a5,lo≤x→x < hi→J x a1 a2 a3 a4 a5→wpS M A E s (f x (vF a1 a2 a3 a4 a5)) (fun r mj=>match r with | .done c'=>Q c' mj | .yield c'=>∃ a1 a2 a3 a4 a5,mj=xk a1 a2 a3 a4 a5∧c'=vF a1 a2 a3 a4 a5∧J (x+1) a1 a2 a3 a4 a5) (xk a1 a2 a3 a4 a5)):wpS M A E s (forIn [lo:hi] c f) Q st:=by
 refine c9 (I:=fun x c mj=>∃ a1 a2 a3 a4 a5,mj=xk a1 a2 a3 a4 a5∧c=vF a1 a2 a3 a4 a5∧J x a1 a2 a3 a4 a5) ?_ ?_ start
 ·rintro x c mj h1 h2 ⟨a1,a2,a3,a4,a5,rfl,rfl,j⟩;exact step x _ _ _ _ _ h1 h2 j
 ·rintro c mj ⟨a1,a2,a3,a4,a5,rfl,rfl,j⟩;exact fin _ _ _ _ _ j
theorem fr7 {σ β A1 A2 A3 A4 A5 A6 A7:Type} {M:Model} {lo hi:Nat} {f:Nat→β→StateT σ Sem (ForInStep β)} {Q:β→σ→Prop} {c:β} {st:σ} (vF:A1→A2→A3→A4→A5→A6→A7→β) (xk:A1→A2→A3→A4→A5→A6→A7→σ) (J:Nat→A1→A2→A3→A4→A5→A6→A7→Prop) (start:∃ a1 a2 a3 a4 a5 a6 a7,st=xk a1 a2 a3 a4 a5 a6 a7∧c=vF a1 a2 a3 a4 a5 a6 a7∧J lo a1 a2 a3 a4 a5 a6 a7) (fin:∀ a1 a2 a3 a4 a5 a6 a7,J (max lo hi) a1 a2 a3 a4 a5 a6 a7→Q (vF a1 a2 a3 a4 a5 a6 a7) (xk a1 a2 a3 a4 a5 a6 a7))
  (step:∀ x a1 a2 a3 a4 a5 a6 a7,lo≤x→x < hi→J x a1 a2 a3 a4 a5 a6 a7→wpS M A E s (f x (vF a1 a2 a3 a4 a5 a6 a7)) (fun r mj=>match r with | .done c'=>Q c' mj | .yield c'=>∃ a1 a2 a3 a4 a5 a6 a7,mj=xk a1 a2 a3 a4 a5 a6 a7∧c'=vF a1 a2 a3 a4 a5 a6 a7∧J (x+1) a1 a2 a3 a4 a5 a6 a7) (xk a1 a2 a3 a4 a5 a6 a7)):wpS M A E s (forIn [lo:hi] c f) Q st:=by
 refine c9 (I:=fun x c mj=>∃ a1 a2 a3 a4 a5 a6 a7,mj=xk a1 a2 a3 a4 a5 a6 a7∧c=vF a1 a2 a3 a4 a5 a6 a7∧J x a1 a2 a3 a4 a5 a6 a7) ?_ ?_ start
 ·rintro x c mj h1 h2 ⟨a1,a2,a3,a4,a5,a6,a7,rfl,rfl,j⟩;exact step x _ _ _ _ _ _ _ h1 h2 j
 ·rintro c mj ⟨a1,a2,a3,a4,a5,a6,a7,rfl,rfl,j⟩;exact fin _ _ _ _ _ _ _ j
theorem zpD {σ α γ δ A1 A2 A3 A4 A5:Type} {M:Model} {x:StateT σ Sem (Option γ×δ)} {k:Option γ×δ→StateT σ Sem α} {R:α→σ→Prop} {st:σ} (vF:A1→A2→A3→A4→A5→Option γ×δ) (G:γ→Prop) (J:A1→A2→A3→A4→A5→Prop) (FH:σ) (hx:wpS M A E s x (fun c mj=>mj=FH∧((∃ r o,c=(some r,o)∧G r)∨∃ a1 a2 a3 a4 a5,c=vF a1 a2 a3 a4 a5∧J a1 a2 a3 a4 a5)) st) (h1:∀ r o,G r→wpS M A E s (k (some r,o)) R FH) (h:∀ a1 a2 a3 a4 a5,J a1 a2 a3 a4 a5→wpS M A E s (k (vF a1 a2 a3 a4 a5)) R FH):wpS M A E s (x >>= k) R st:=by
 refine aw (dU hx ?_);rintro c mj ⟨rfl,⟨r,o,rfl,g⟩ | ⟨a1,a2,a3,a4,a5,rfl,j⟩⟩
 ·exact h1 _ _ g
 ·exact h _ _ _ _ _ j
theorem za5 {σ α:Type} {M:Model} {c:Prop} {inst:Decidable c} {x y:StateT σ Sem α} {Q:α→σ→Prop} {st:σ} (h:c→wpS M A E s x Q st) (k:¬ c→wpS M A E s y Q st):wpS M A E s (@ite _ c inst x y) Q st:=by
 by_cases hc:c
 ·rw [if_pos hc]; exact h hc
 ·rw [if_neg hc]; exact k hc
theorem zll {st:SortSt} {a b:Array Keyed} {Q:Array Keyed→SortSt→Prop} (hC:Cmp prog w A s κ val a₀) (hk:kindOf st=κ) (ma:∀ p∈a.toList,p∈a₀.toList) (mb:∀ p∈b.toList,p∈a₀.toList)
  (sa:SIn val a 0 a.size) (sb:SIn val b 0 b.size) (h1:1≤a.size) (h2:1≤b.size) (hf:Vk val b 0≤Vk val a 0) (hl:∀ i,i < b.size→Vk val b i≤Vk val a (a.size - 1))
  (h:∀ out g,Good val (a.toList++b.toList) out.toList→Q out (zaq st g)):wpS (model prog w) A E s (zmJ a b) Q st:=by
 refine zg2 ?_
 wp_delta
 wp_delta
 refine zg3 ?_
 (refine aw (io (cF ⟨rfl,?_⟩)))
 refine zaB (xs:=b) (i:=0) #[O] fun y0 xV FI=>?_
 refine zaB (xs:=a) (i:=0) #[O] fun x0 xW FJ=>?_
 refine aw (z8 xV ?_);have I0:MA val (a.toList++b.toList) a b #[] 0 0:=⟨#[M],iO,zdI sa 0,zdI sb 0,fun x hx=>by simp at hx,fun x hx=>by simp at hx⟩;have I1:MA val (a.toList++b.toList) a b #[y0] 0 1:=I0.pushB sa xV xW (by rw [zaa xV,zaa xW] at hf; exact hf);dsimp only;by_cases sR:1=b.size
 ·refine zE (by simpa using sR) ?_;exact aB (h _ (gallopOf st) (I1.doneB sR))
 refine zF (by simpa using sR) ?_;by_cases wV:0+1=a.size
 ·refine zE (by simpa using wV) ?_;exact aB (h _ (gallopOf st) (I1.last #[O] hl))
 refine zF (by simpa using wV) ?_;refine aw (gr ?_);refine aw (dU (fr5 (fun g out ia ib mg=>(none,out,ia,ib,mg)) (fun g out ia ib mg=>zaq st g) (fun x g out ia ib mg=>MA val (a.toList++b.toList) a b out ia ib∧ia+1 < a.size∧ib < b.size∧x+1≤ia+ib)
  (Q:=fun c mj=>∃ g r o,mj=zaq st g∧c=(some r,o)∧Good val (a.toList++b.toList) r.toList) ⟨gallopOf st,#[y0],0,1,gallopOf st,rfl,rfl,I1,#[O],#[O],#[O]⟩ ?fin ?step) ?post)
 case post =>
  rintro c mj ⟨g,r,o,rfl,rfl,hG⟩;exact aB (h _ g hG)
 case fin =>
  rintro g out ia ib mg ⟨hI,b1,b2,b3⟩;lia
 case step =>
  intro x g out ia ib mg hr0 hx J;have hI:=J.1;have b1:=J.2.1;have b2:=J.2.2.1;have b3:=J.2.2.2;dsimp only;refine zpD (fun mJ nV nI ac bc=>(none,mJ,nV,nI,ac,bc)) (fun r=>Good val (a.toList++b.toList) r.toList) (fun mJ nV nI ac bc=>MA val (a.toList++b.toList) a b mJ nV nI∧nV+1 < a.size∧nI < b.size∧ia+ib+1≤nV+nI) (zaq st g) (fr5 (fun mJ nV nI ac bc=>(none,mJ,nV,nI,ac,bc)) (fun mJ nV nI ac bc=>zaq st g) (fun x mJ nV nI ac bc=>MA val (a.toList++b.toList) a b mJ nV nI∧nV+1 < a.size∧nI < b.size∧ia+ib+x≤nV+nI) ⟨out,ia,ib,0,0,rfl,rfl,hI,b1,b2,#[O]⟩ ?fin1 ?step1) (fun r o hG=>aB ⟨g,r,_,rfl,rfl,hG⟩) ?post1
  case fin1 =>
   rintro mJ nV nI ac bc ⟨hI,b1,b2,b3⟩;exact⟨rfl,.inr ⟨mJ,nV,nI,ac,bc,rfl,hI,b1,b2,#[O]⟩⟩
  case step1 =>
   intro x1 mJ nV nI ac bc hr1 xX J;have hI:=J.1;have b1:=J.2.1;have b2:=J.2.2.1;have b3:=J.2.2.2;dsimp only;refine zaB (xs:=b) (i:=nI) #[O] fun y ey my=>?_
   refine zaB (xs:=a) (i:=nV) #[O] fun z ez mz=>?_
   refine aw (z8 ey (aw (z8 ez (aw (zmG hC hk (mb y my) (ma z mz) ?_)))));dsimp only;by_cases CG:val y < val z
   ·refine zE (by simpa using CG) ?_;refine aw (z8 ey ?_);have qv:=hI.pushB sa ey ez #[O];by_cases e1:nI+1=b.size
    ·refine zE (by simpa using e1) ?_;exact aB ⟨rfl,.inl ⟨_,_,rfl,qv.doneB e1⟩⟩
    refine zF (by simpa using e1) ?_;refine za5 (fun _=>?_) (fun _=>?_)
    ·exact aB ⟨rfl,.inr ⟨_,_,_,_,_,rfl,qv,b1,#[O],#[O]⟩⟩
    ·exact aB ⟨_,_,_,_,_,rfl,rfl,qv,b1,#[O],#[O]⟩
   ·refine zF (by simpa using CG) ?_;refine aw (z8 ez ?_);have qv:=hI.pushA sb ey ez #[O];by_cases e1:nV+1+1=a.size
    ·refine zE (by simpa using e1) ?_;exact aB ⟨rfl,.inl ⟨_,_,rfl,qv.last e1 hl⟩⟩
    refine zF (by simpa using e1) ?_;refine za5 (fun _=>?_) (fun _=>?_)
    ·exact aB ⟨rfl,.inr ⟨_,_,_,_,_,rfl,qv,#[O],b2,#[O]⟩⟩
    ·exact aB ⟨_,_,_,_,_,rfl,rfl,qv,#[O],b2,#[O]⟩
  case post1 =>
   intro AQ FK FN FO FP J;have FQ:=J.1;have c1:=J.2.1;have c2:=J.2.2.1;have c3:=J.2.2.2;dsimp only
   (refine aw (io (cF ⟨rfl,?_⟩)))
   refine aw (dU (fr7 (fun g mJ nV nI mg ac bc=>(none,mJ,nV,nI,mg,ac,bc)) (fun g mJ nV nI mg ac bc=>zaq st g) (fun x g mJ nV nI mg ac bc=>MA val (a.toList++b.toList) a b mJ nV nI∧nV+1 < a.size∧nI < b.size∧FK+FN≤nV+nI)
    (Q:=fun c mj=>∃ g,mj=zaq st g∧((∃ r o,c=(some r,o)∧Good val (a.toList++b.toList) r.toList)∨∃ mJ nV nI mg ac bc,c=(none,mJ,nV,nI,mg,ac,bc)∧MA val (a.toList++b.toList) a b mJ nV nI∧nV+1 < a.size∧nI < b.size∧FK+FN≤nV+nI)) ⟨g,AQ,FK,FN,_,FO,FP,rfl,rfl,FQ,c1,c2,ag _⟩ ?fin2 ?step2) ?post2)
   case fin2 =>
    rintro g mJ nV nI mg ac bc ⟨hI,b1,b2,b3⟩;exact⟨g,rfl,.inr ⟨mJ,nV,nI,mg,ac,bc,rfl,hI,b1,b2,b3⟩⟩
   case post2 =>
    rintro c mj ⟨g,rfl,hc⟩;rcases hc with ⟨r,o,rfl,hG⟩ | ⟨AR,ia2,ib2,mg2,ac2,bc2,rfl,qv,d1,d2,d3⟩
    ·exact aB ⟨g,r,_,rfl,rfl,hG⟩
    dsimp only;refine aw (zdJ (aB ⟨_,AR,ia2,ib2,_,rfl,rfl,qv,d1,d2,#[O]⟩))
   case step2 =>
    intro x2 g mJ nV nI AS ac bc yZ xl J;have hI:=J.1;have b1:=J.2.1;have b2:=J.2.2.1;have b3:=J.2.2.2;dsimp only;refine zaB (xs:=b) (i:=nI) #[O] fun y ey my=>?_
    apply dup
    ·intro k1 k2;by_cases vM:AS > 1
     ·refine zE vM ?_;clear vM;generalize AS - 1=m0
      revert m0
      exact k1
     ·refine zF vM ?_;clear vM;generalize AS=m0
      revert m0
      exact k2
    intro mg0;refine aw (zdJ (aw (z8 ey (aw (zbA hC hk (mb y my) (fun i hi=>(by
     refine zaB (xs:=a) (i:=nV+i) #[O] fun p ep mp=>?_
     exact⟨p,ep,ma p mp⟩)) (sa.sub #[O] #[O]) #[O] fun k BR rR y4=>?_)))))
    dsimp only;have qv:=hI.takeA (k:=k) sb ey fun i hi=>zdK (rR i hi)
    by_cases wU:k > 0
    ·refine zE wU ?_;by_cases e1:nV+k+1=a.size
     ·refine zE (by simpa using e1) ?_;exact aB ⟨_,rfl,.inl ⟨_,_,rfl,qv.last e1 hl⟩⟩
     refine zF (by simpa using e1) ?_;by_cases e2:nV+k=a.size
     ·refine zE (by simpa using e2) ?_;exact aB ⟨_,rfl,.inl ⟨_,_,rfl,qv.doneA e2⟩⟩
     refine zF (by simpa using e2) ?_;refine aw (z8 ey ?_);refine zaB (xs:=a) (i:=nV+k) #[O] fun z ez mz=>?_
     have uV:=qv.pushB sa ey ez (by have:=zeJ (y4 k (ag _) #[O]); rw [zaa ez] at this; lia);by_cases e3:nI+1=b.size
     ·refine zE (by simpa using e3) ?_;exact aB ⟨_,rfl,.inl ⟨_,_,rfl,uV.doneB e3⟩⟩
     refine zF (by simpa using e3) ?_;refine aw (z8 ez (aw (zbA hC hk (ma z mz) (fun i hi=>(by
      refine zaB (xs:=b) (i:=nI+1+i) #[O] fun p ep mp=>?_
      exact⟨p,ep,mb p mp⟩)) (sb.sub #[O] #[O]) #[O] fun j yl tV xm=>?_)))
     dsimp only;have vV:=uV.takeB (k:=j) sa ez fun i hi=>fA (zcy (tV i hi))
     by_cases rS:j > 0
     ·refine zE rS ?_;by_cases e4:nI+1+j=b.size
      ·refine zE (by simpa using e4) ?_;exact aB ⟨_,rfl,.inl ⟨_,_,rfl,vV.doneB e4⟩⟩
      refine zF (by simpa using e4) ?_;refine zaB (xs:=b) (i:=nI+1+j) #[O] fun y2 qP ym=>?_
      refine aw (z8 ez ?_);have ph:=vV.pushA sb qP ez (by have:=zdr (xm j (ag _) #[O]); rw [zaa qP] at this; exact this);by_cases e9:nV+k+1+1=a.size
      ·refine zE (by simpa using e9) ?_;exact aB ⟨_,rfl,.inl ⟨_,_,rfl,ph.last e9 hl⟩⟩
      refine zF (by simpa using e9) ?_;refine za5 (fun _=>?_) (fun _=>?_)
      ·exact aB ⟨_,rfl,.inr ⟨_,_,_,_,_,_,rfl,ph,#[O],#[O],#[O]⟩⟩
      ·exact aB ⟨_,_,_,_,_,_,_,rfl,rfl,ph,#[O],#[O],#[O]⟩
     ·refine zF rS ?_;have AU:j=0:=by lia
      subst AU;refine zaB (xs:=b) (i:=nI+1) #[O] fun y2 qP ym=>?_
      refine aw (z8 ez ?_);have ph:=uV.pushA sb qP ez (by have:=zdr (xm 0 (ag _) #[O]); rw [dJ,zaa qP] at this; exact this);by_cases e9:nV+k+1+1=a.size
      ·refine zE (by simpa using e9) ?_;exact aB ⟨_,rfl,.inl ⟨_,_,rfl,ph.last e9 hl⟩⟩
      refine zF (by simpa using e9) ?_;refine za5 (fun _=>?_) (fun _=>?_)
      ·exact aB ⟨_,rfl,.inr ⟨_,_,_,_,_,_,rfl,ph,#[O],#[O],#[O]⟩⟩
      ·exact aB ⟨_,_,_,_,_,_,_,rfl,rfl,ph,#[O],#[O],#[O]⟩
    ·refine zF wU ?_;have FR:k=0:=by lia
     subst FR;refine aw (z8 ey ?_);refine zaB (xs:=a) (i:=nV) #[O] fun z ez mz=>?_
     have uV:=hI.pushB sa ey ez (by have:=zeJ (y4 0 (ag _) #[O]); rw [dJ,zaa ez] at this; lia);by_cases e3:nI+1=b.size
     ·refine zE (by simpa using e3) ?_;exact aB ⟨_,rfl,.inl ⟨_,_,rfl,uV.doneB e3⟩⟩
     refine zF (by simpa using e3) ?_;refine aw (z8 ez (aw (zbA hC hk (ma z mz) (fun i hi=>(by
      refine zaB (xs:=b) (i:=nI+1+i) #[O] fun p ep mp=>?_
      exact⟨p,ep,mb p mp⟩)) (sb.sub #[O] #[O]) #[O] fun j yl tV xm=>?_)))
     dsimp only;have vV:=uV.takeB (k:=j) sa ez fun i hi=>fA (zcy (tV i hi))
     by_cases rS:j > 0
     ·refine zE rS ?_;by_cases e4:nI+1+j=b.size
      ·refine zE (by simpa using e4) ?_;exact aB ⟨_,rfl,.inl ⟨_,_,rfl,vV.doneB e4⟩⟩
      refine zF (by simpa using e4) ?_;refine zaB (xs:=b) (i:=nI+1+j) #[O] fun y2 qP ym=>?_
      refine aw (z8 ez ?_);have ph:=vV.pushA sb qP ez (by have:=zdr (xm j (ag _) #[O]); rw [zaa qP] at this; exact this);by_cases e9:nV+1+1=a.size
      ·refine zE (by simpa using e9) ?_;exact aB ⟨_,rfl,.inl ⟨_,_,rfl,ph.last e9 hl⟩⟩
      refine zF (by simpa using e9) ?_;refine za5 (fun _=>?_) (fun _=>?_)
      ·exact aB ⟨_,rfl,.inr ⟨_,_,_,_,_,_,rfl,ph,#[O],#[O],#[O]⟩⟩
      ·exact aB ⟨_,_,_,_,_,_,_,rfl,rfl,ph,#[O],#[O],#[O]⟩
     ·refine zF rS ?_;have AU:j=0:=by lia
      subst AU;refine zaB (xs:=b) (i:=nI+1) #[O] fun y2 qP ym=>?_
      refine aw (z8 ez ?_);have ph:=uV.pushA sb qP ez (by have:=zdr (xm 0 (ag _) #[O]); rw [dJ,zaa qP] at this; exact this);by_cases e9:nV+1+1=a.size
      ·refine zE (by simpa using e9) ?_;exact aB ⟨_,rfl,.inl ⟨_,_,rfl,ph.last e9 hl⟩⟩
      refine zF (by simpa using e9) ?_;refine za5 (fun _=>?_) (fun _=>?_)
      ·exact aB ⟨_,rfl,.inr ⟨_,_,_,_,_,_,rfl,ph,#[O],#[O],#[O]⟩⟩
      ·exact aB ⟨_,_,_,_,_,_,_,rfl,rfl,ph,#[O],#[O],#[O]⟩
end
end Srt
end
section
namespace Srt
open PySem PyProof.Rows
structure MH (val:Keyed→Int) (T l r o:List Keyed):Prop where
 perm:(l++r++o).Perm T
 so:Ris val o
 sl:Ris val l
 sr:Ris val r
 lo:Le val l o
 ro:Le val r o
section
variable {val:Keyed→Int} {T o l l1 l2 r r1 r2:List Keyed}
theorem MH.takeA (h:MH val T (l1++l2) r o) (hle:Le val r l2):MH val T l1 r (l2++o):=by
 obtain⟨a1,a2,a3⟩:=zaC.mp h.sl;refine⟨?_,zaC.mpr ⟨a2,h.so,h.lo.right⟩,a1,h.sr,a3.app' h.lo.left,hle.app' h.ro⟩;refine f' ?_ h.perm;have:(r++l2).Perm (l2++r):=List.perm_append_comm;have:=(this.append_left l1).append_right o;simpa [bD] using this
theorem MH.takeB (h:MH val T l (r1++r2) o) (hle:Le val l r2):MH val T l r1 (r2++o):=by
 obtain⟨a1,a2,a3⟩:=zaC.mp h.sr;exact⟨by have:=h.perm; simpa [bD] using this,zaC.mpr ⟨a2,h.so,h.ro.right⟩,h.sl,a1,hle.app' h.lo,a3.app' h.ro.left⟩
theorem MH.doneA (h:MH val T [] r o):Good val T (r++o):=⟨by have:=h.perm; simpa using this,zaC.mpr ⟨h.sr,h.so,h.ro⟩⟩
theorem MH.doneB (h:MH val T l [] o):Good val T (l++o):=⟨by have:=h.perm; simpa using this,zaC.mpr ⟨h.sl,h.so,h.lo⟩⟩
theorem MH.first (h:MH val T l r o) (hle:Le val r l):Good val T (r++l++o):=by
 refine⟨f' (List.perm_append_comm.append_right _) h.perm,?_⟩;exact zaC.mpr ⟨zaC.mpr ⟨h.sr,h.sl,hle⟩,h.so,h.ro.app h.lo⟩
end
section
variable {val:Keyed→Int} {T:List Keyed} {a b out:Array Keyed} {na nb:Nat}
abbrev MB (val:Keyed→Int) (T:List Keyed) (a b out:Array Keyed) (na nb:Nat):Prop:=MH val T (a.toList.take na) (b.toList.take nb) out.toList.reverse
theorem zka {xs:Array Keyed} {n:Nat} {p:Keyed} (h:xs[n]? = some p):xs.toList.take (n+1)=xs.toList.take n++[p]:=by
 rw [List.take_succ,bE,h];rfl
theorem zif {xs:Array Keyed} (h:SIn val xs 0 xs.size) (i:Nat):Ris val (xs.toList.take i):=by
 have:=zdI h 0;rw [fC] at this;exact fB (cK _ _) this
theorem zfl {xs:Array Keyed} {n:Nat} {p:Keyed} (h:p∈xs.toList.take n):∃ j,j < n∧j < xs.size∧xs[j]? = some p:=by
 (obtain⟨j,hj,e⟩:=eZ h)
 have tV:j < n∧j < xs.toList.length:=by
  rw [aI] at hj;lia
 refine⟨j,tV.1,by simpa using tV.2,?_⟩;rw [← bE,aj tV.2,← e,kO]
theorem zeK {xs:Array Keyed} {n:Nat} {p q:Keyed} (h:SIn val xs 0 xs.size) (hp:xs[n]? = some p) (hq:q∈xs.toList.take (n+1)):val q≤val p:=by
 obtain⟨j,hj,uO,e⟩:=zfl hq;have hn:=(dt.mp hp).1;have:=h j n (bm _) #[O] hn;rw [zaa e,zaa hp] at this;exact this
theorem MB.pushA {y x:Keyed} (h:MB val T a b out (na+1) nb) (sb:SIn val b 0 b.size) (hn:1≤nb) (hy:b[nb - 1]? = some y) (hx:a[na]? = some x) (hle:val y≤val x):MB val T a b (out.push x) na nb:=by
 unfold MB at h ⊢;rw [zka hx] at h;have:=MH.takeA h fun p hp q hq=>by
  rw [aW.mp hq];exact ck (zeK sb hy (by rw [show nb - 1+1=nb by lia]; exact hp)) hle
 simpa using this
theorem MB.pushB {y x:Keyed} (h:MB val T a b out na (nb+1)) (sa:SIn val a 0 a.size) (hn:1≤na) (hy:b[nb]? = some y) (hx:a[na - 1]? = some x) (hle:val x≤val y):MB val T a b (out.push y) na nb:=by
 unfold MB at h ⊢;rw [zka hy] at h;have:=MH.takeB h fun p hp q hq=>by
  rw [aW.mp hq];exact ck (zeK sa hx (by rw [show na - 1+1=na by lia]; exact hp)) hle
 simpa using this
theorem zkb (xs:Array Keyed) {i n:Nat} (h:i≤n):xs.toList.take n=xs.toList.take i++(xs.extract i n).toList:=by
 rw [dI];simp only [dA];rw [← cw i (xs.toList.take n),lO,dL h,List.drop_take]
theorem MB.takeA {y:Keyed} {at':Nat} (h:MB val T a b out na nb) (sb:SIn val b 0 b.size) (nJ:at'≤na) (hn:1≤nb) (hy:b[nb - 1]? = some y) (hle:∀ i,at'≤i→i < na→val y≤Vk val a i):MB val T a b (out++(a.extract at' na).reverse) at' nb:=by
 unfold MB at h ⊢;rw [zkb a nJ] at h;have:=MH.takeA h fun p hp q hq=>by
  have oC:q∈(a.extract at' (at'+(na - at'))).toList:=by rw [show at'+(na - at')=na by lia]; exact hq
  obtain⟨j,hj,e⟩:=zeI oC;have:=hle (at'+j) #[O] #[O];rw [zaa e] at this;exact ck (zeK sb hy (by rw [show nb - 1+1=nb by lia]; exact hp)) this
 simpa using this
theorem MB.takeB {x:Keyed} {at':Nat} (h:MB val T a b out na nb) (sa:SIn val a 0 a.size) (nJ:at'≤nb) (hn:1≤na) (hx:a[na - 1]? = some x) (hle:∀ i,at'≤i→i < nb→val x≤Vk val b i):MB val T a b (out++(b.extract at' nb).reverse) na at':=by
 unfold MB at h ⊢;rw [zkb b nJ] at h;have:=MH.takeB h fun p hp q hq=>by
  have oC:q∈(b.extract at' (at'+(nb - at'))).toList:=by rw [show at'+(nb - at')=nb by lia]; exact hq
  obtain⟨j,hj,e⟩:=zeI oC;have:=hle (at'+j) #[O] #[O];rw [zaa e] at this;exact ck (zeK sa hx (by rw [show na - 1+1=na by lia]; exact hp)) this
 simpa using this
theorem zcf (xs:Array Keyed) (n:Nat):(xs.extract 0 n).toList=xs.toList.take n:=by
 rw [dI];simp [dA]
theorem MB.doneA (h:MB val T a b out na nb) (e:na=0):Good val T (a.extract 0 na++b.extract 0 nb++out.reverse).toList:=by
 unfold MB at h;subst e;have:=MH.doneA h;rw [bW,bW,zcf,zcf,dW,lB,hJ];exact this
theorem MB.doneB (h:MB val T a b out na nb) (e:nb=0):Good val T (a.extract 0 na++b.extract 0 nb++out.reverse).toList:=by
 unfold MB at h;subst e;have:=MH.doneB h;rw [bW,bW,zcf,zcf,dW,bI,hJ];exact this
theorem MB.first (h:MB val T a b out na nb) (e:nb=1) (sa:SIn val a 0 a.size) (h2:1≤b.size) (hf:Vk val b 0≤Vk val a 0):Good val T (b.extract 0 nb++a.extract 0 na++out.reverse).toList:=by
 unfold MB at h;subst e;have:=MH.first h fun p hp q hq=>by
  obtain⟨j,hj,uO,ej⟩:=zfl hp;have rS:j=0:=by lia
  subst rS;obtain⟨i,hi,his,ei⟩:=zfl hq;have:=sa 0 i (bm _) (bm _) his;rw [zaa ei] at this;rw [zaa ej] at hf;lia
 rw [bW,bW,zcf,zcf,hJ];exact this
end
section
variable {prog:Program} {w:World} {A:Around} {E:Value→Shared→Prop} {s:Shared} {a₀:Array Keyed} {κ:SortKind} {val:Keyed→Int}
theorem zlm {st:SortSt} {a b:Array Keyed} {Q:Array Keyed→SortSt→Prop} (hC:Cmp prog w A s κ val a₀) (hk:kindOf st=κ) (ma:∀ p∈a.toList,p∈a₀.toList) (mb:∀ p∈b.toList,p∈a₀.toList)
  (sa:SIn val a 0 a.size) (sb:SIn val b 0 b.size) (h1:1≤a.size) (h2:1≤b.size) (hf:Vk val b 0≤Vk val a 0) (hl:∀ i,i < b.size→Vk val b i≤Vk val a (a.size - 1))
  (h:∀ out g,Good val (a.toList++b.toList) out.toList→Q out (zaq st g)):wpS (model prog w) A E s (zmK a b) Q st:=by
 refine zg2 ?_
 wp_delta
 wp_delta
 refine zg3 ?_
 (refine aw (io (cF ⟨rfl,?_⟩)))
 refine zaB (xs:=a) (i:=a.size - 1) #[O] fun x0 xW FJ=>?_
 refine zaB (xs:=b) (i:=b.size - 1) #[O] fun y0 xV FI=>?_
 refine aw (z8 xW ?_);have I0:MB val (a.toList++b.toList) a b #[] (a.size - 1+1) b.size:=by
  refine⟨?_,iO,zif sa _,zif sb _,fun x _ y hy=>by simp at hy,fun x _ y hy=>by simp at hy⟩;rw [show a.size - 1+1=a.size by lia,aJ #[M],aJ #[M]];simp
 have I1:MB val (a.toList++b.toList) a b #[x0] (a.size - 1) b.size:=I0.pushA sb h2 xV xW (by have:=hl (b.size - 1) #[O]; rw [zaa xV,zaa xW] at this; exact this);dsimp only;by_cases wV:a.size - 1=0
 ·refine zE (by simpa using wV) ?_;exact aB (h _ (gallopOf st) (I1.doneA wV))
 refine zF (by simpa using wV) ?_;by_cases sR:b.size=1
 ·refine zE (by simpa using sR) ?_;exact aB (h _ (gallopOf st) (I1.first sR sa h2 hf))
 refine zF (by simpa using sR) ?_;refine aw (gr ?_);refine aw (dU (fr5 (fun g out na nb mg=>(none,na,nb,out,mg)) (fun g out na nb mg=>zaq st g) (fun x g out na nb mg=>MB val (a.toList++b.toList) a b out na nb∧1≤na∧2≤nb∧na≤a.size∧nb≤b.size∧x+na+nb+1≤a.size+b.size)
  (Q:=fun c mj=>∃ g r o,mj=zaq st g∧c=(some r,o)∧Good val (a.toList++b.toList) r.toList) ⟨gallopOf st,#[x0],a.size - 1,b.size,gallopOf st,rfl,rfl,I1,#[O],#[O],#[O],#[O],#[O]⟩ ?fin ?step) ?post)
 case post =>
  rintro c mj ⟨g,r,o,rfl,rfl,hG⟩;exact aB (h _ g hG)
 case fin =>
  rintro g out na nb mg ⟨hI,b1,b2,b3⟩;lia
 case step =>
  intro x g out na nb mg hr0 hx J;have hI:=J.1;have b1:=J.2.1;have b2:=J.2.2.1;have b4:=J.2.2.2.1;have b5:=J.2.2.2.2.1;have b3:=J.2.2.2.2.2;dsimp only;refine zpD (fun mJ oz oA ac bc=>(none,oz,oA,mJ,ac,bc)) (fun r=>Good val (a.toList++b.toList) r.toList) (fun mJ oz oA ac bc=>MB val (a.toList++b.toList) a b mJ oz oA∧1≤oz∧2≤oA∧oz≤a.size∧oA≤b.size∧1+oz+oA≤na+nb) (zaq st g) (fr5 (fun mJ oz oA ac bc=>(none,oz,oA,mJ,ac,bc)) (fun mJ oz oA ac bc=>zaq st g) (fun x mJ oz oA ac bc=>MB val (a.toList++b.toList) a b mJ oz oA∧1≤oz∧2≤oA∧oz≤a.size∧oA≤b.size∧x+oz+oA≤na+nb) ⟨out,na,nb,0,0,rfl,rfl,hI,b1,b2,b4,b5,#[O]⟩ ?fin1 ?step1) (fun r o hG=>aB ⟨g,r,_,rfl,rfl,hG⟩) ?post1
  case fin1 =>
   rintro mJ oz oA ac bc ⟨hI,b1,b2,b4,b5,b3⟩;exact⟨rfl,.inr ⟨mJ,oz,oA,ac,bc,rfl,hI,b1,b2,b4,b5,#[O]⟩⟩
  case step1 =>
   intro x1 mJ oz oA ac bc hr1 xX J;have hI:=J.1;have b1:=J.2.1;have b2:=J.2.2.1;have b4:=J.2.2.2.1;have b5:=J.2.2.2.2.1;have b3:=J.2.2.2.2.2;dsimp only;obtain⟨n1,rfl⟩:∃ n1,oz=n1+1:=⟨oz - 1,#[O]⟩;obtain⟨m1,rfl⟩:∃ m1,oA=m1+1:=⟨oA - 1,#[O]⟩;simp only [bQ];refine zaB (xs:=b) (i:=m1) #[O] fun y ey my=>?_
   refine zaB (xs:=a) (i:=n1) #[O] fun z ez mz=>?_
   refine aw (z8 ey (aw (z8 ez (aw (zmG hC hk (mb y my) (ma z mz) ?_)))));dsimp only;by_cases CG:val y < val z
   ·refine zE (by simpa using CG) ?_;refine aw (z8 ez ?_);have qv:=hI.pushA sb #[O] ey ez #[O];by_cases e1:n1=0
    ·refine zE (by simpa using e1) ?_;exact aB ⟨rfl,.inl ⟨_,_,rfl,qv.doneA e1⟩⟩
    refine zF (by simpa using e1) ?_;refine za5 (fun _=>?_) (fun _=>?_)
    ·exact aB ⟨rfl,.inr ⟨_,_,_,_,_,rfl,qv,#[O],#[O],#[O],#[O],#[O]⟩⟩
    ·exact aB ⟨_,_,_,_,_,rfl,rfl,qv,#[O],#[O],#[O],#[O],#[O]⟩
   ·refine zF (by simpa using CG) ?_;refine aw (z8 ey ?_);have qv:=hI.pushB sa #[O] ey ez #[O];by_cases e1:m1=1
    ·refine zE (by simpa using e1) ?_;exact aB ⟨rfl,.inl ⟨_,_,rfl,qv.first e1 sa h2 hf⟩⟩
    refine zF (by simpa using e1) ?_;refine za5 (fun _=>?_) (fun _=>?_)
    ·exact aB ⟨rfl,.inr ⟨_,_,_,_,_,rfl,qv,#[O],#[O],#[O],#[O],#[O]⟩⟩
    ·exact aB ⟨_,_,_,_,_,rfl,rfl,qv,#[O],#[O],#[O],#[O],#[O]⟩
  case post1 =>
   intro AQ FT FU FO FP J;have FQ:=J.1;have c1:=J.2.1;have c2:=J.2.2.1;have c4:=J.2.2.2.1;have c5:=J.2.2.2.2.1;have c3:=J.2.2.2.2.2;dsimp only
   (refine aw (io (cF ⟨rfl,?_⟩)))
   refine aw (dU (fr7 (fun g mJ oz oA mg ac bc=>(none,oz,oA,mJ,mg,ac,bc)) (fun g mJ oz oA mg ac bc=>zaq st g) (fun x g mJ oz oA mg ac bc=>MB val (a.toList++b.toList) a b mJ oz oA∧1≤oz∧2≤oA∧oz≤a.size∧oA≤b.size∧oz+oA≤FT+FU)
    (Q:=fun c mj=>∃ g,mj=zaq st g∧((∃ r o,c=(some r,o)∧Good val (a.toList++b.toList) r.toList)∨∃ mJ oz oA mg ac bc,c=(none,oz,oA,mJ,mg,ac,bc)∧MB val (a.toList++b.toList) a b mJ oz oA∧1≤oz∧2≤oA∧oz≤a.size∧oA≤b.size∧oz+oA≤FT+FU)) ⟨g,AQ,FT,FU,_,FO,FP,rfl,rfl,FQ,c1,c2,c4,c5,ag _⟩ ?fin2 ?step2) ?post2)
   case fin2 =>
    rintro g mJ oz oA mg ac bc ⟨hI,b1,b2,b4,b5,b3⟩;exact⟨g,rfl,.inr ⟨mJ,oz,oA,mg,ac,bc,rfl,hI,b1,b2,b4,b5,b3⟩⟩
   case post2 =>
    rintro c mj ⟨g,rfl,hc⟩;rcases hc with ⟨r,o,rfl,hG⟩ | ⟨AR,na2,nb2,mg2,ac2,bc2,rfl,qv,d1,d2,d4,d5,d3⟩
    ·exact aB ⟨g,r,_,rfl,rfl,hG⟩
    dsimp only;refine aw (zdJ (aB ⟨_,AR,na2,nb2,_,rfl,rfl,qv,d1,d2,d4,d5,#[O]⟩))
   case step2 =>
    intro x2 g mJ oz oA AS ac bc yZ xl J;have hI:=J.1;have b1:=J.2.1;have b2:=J.2.2.1;have b4:=J.2.2.2.1;have b5:=J.2.2.2.2.1;have b3:=J.2.2.2.2.2;dsimp only;obtain⟨m1,rfl⟩:∃ m1,oA=m1+1:=⟨oA - 1,#[O]⟩;simp only [bQ];refine zaB (xs:=b) (i:=m1) #[O] fun y ey my=>?_
    apply dup
    ·intro k1 k2;by_cases vM:AS > 1
     ·refine zE vM ?_;clear vM;generalize AS - 1=m0
      revert m0
      exact k1
     ·refine zF vM ?_;clear vM;generalize AS=m0
      revert m0
      exact k2
    intro mg0;refine aw (zdJ (aw (z8 ey (aw (zbA hC hk (mb y my) (fun i hi=>(by
     refine zaB (xs:=a) (i:=0+i) #[O] fun p ep mp=>?_
     exact⟨p,ep,ma p mp⟩)) (sa.sub #[O] #[O]) #[O] fun k BR rR y4=>?_)))))
    dsimp only;have qv:=hI.takeA (at':=k) sb BR #[O] ey fun i h1 h2=>fA (by have:=zeJ (y4 i h1 h2); rwa [cG] at this)
    by_cases wU:oz - k > 0
    ·refine zE wU ?_;by_cases e1:k=0
     ·refine zE (by simpa using e1) ?_;exact aB ⟨_,rfl,.inl ⟨_,_,rfl,qv.doneA e1⟩⟩
     refine zF (by simpa using e1) ?_;obtain⟨n1,rfl⟩:∃ n1,k=n1+1:=⟨k - 1,#[O]⟩;simp only [bQ];refine aw (z8 ey ?_);refine zaB (xs:=a) (i:=n1) #[O] fun z ez mz=>?_
     have uV:=qv.pushB sa #[O] ey (show a[n1+1 - 1]? = some z by rw [bQ]; exact ez) (by have:=zdK (rR n1 #[O]); rw [cG,zaa ez] at this; exact this);by_cases e3:m1=1
     ·refine zE (by simpa using e3) ?_;exact aB ⟨_,rfl,.inl ⟨_,_,rfl,uV.first e3 sa h2 hf⟩⟩
     refine zF (by simpa using e3) ?_;refine aw (z8 ez (aw (zbA hC hk (ma z mz) (fun i hi=>(by
      refine zaB (xs:=b) (i:=0+i) #[O] fun p ep mp=>?_
      exact⟨p,ep,mb p mp⟩)) (sb.sub #[O] #[O]) #[O] fun j yl tV xm=>?_)))
     dsimp only;have vV:=uV.takeB (at':=j) sa yl #[O] (show a[n1+1 - 1]? = some z by rw [bQ]; exact ez) fun i h1 h2=>(by have:=zdr (xm i h1 h2); rwa [cG] at this)
     by_cases rS:m1 - j > 0
     ·refine zE rS ?_;by_cases e4:j=1
      ·refine zE (by simpa using e4) ?_;exact aB ⟨_,rfl,.inl ⟨_,_,rfl,vV.first e4 sa h2 hf⟩⟩
      refine zF (by simpa using e4) ?_;by_cases e5:j=0
      ·refine zE (by simpa using e5) ?_;exact aB ⟨_,rfl,.inl ⟨_,_,rfl,vV.doneB e5⟩⟩
      refine zF (by simpa using e5) ?_;refine zaB (xs:=b) (i:=j - 1) #[O] fun y2 qP ym=>?_
      refine aw (z8 ez ?_);have ph:=vV.pushA sb #[O] qP ez (by have:=zcy (tV (j - 1) #[O]); rw [cG,zaa qP] at this; lia);by_cases e9:n1=0
      ·refine zE (by simpa using e9) ?_;exact aB ⟨_,rfl,.inl ⟨_,_,rfl,ph.doneA e9⟩⟩
      refine zF (by simpa using e9) ?_;refine za5 (fun _=>?_) (fun _=>?_)
      ·exact aB ⟨_,rfl,.inr ⟨_,_,_,_,_,_,rfl,ph,#[O],#[O],#[O],#[O],#[O]⟩⟩
      ·exact aB ⟨_,_,_,_,_,_,_,rfl,rfl,ph,#[O],#[O],#[O],#[O],#[O]⟩
     ·refine zF rS ?_;have FV:j=m1:=by lia
      subst FV;refine zaB (xs:=b) (i:=j - 1) #[O] fun y2 qP ym=>?_
      refine aw (z8 ez ?_);have ph:=uV.pushA sb #[O] qP ez (by have:=zcy (tV (j - 1) #[O]); rw [cG,zaa qP] at this; lia);by_cases e9:n1=0
      ·refine zE (by simpa using e9) ?_;exact aB ⟨_,rfl,.inl ⟨_,_,rfl,ph.doneA e9⟩⟩
      refine zF (by simpa using e9) ?_;refine za5 (fun _=>?_) (fun _=>?_)
      ·exact aB ⟨_,rfl,.inr ⟨_,_,_,_,_,_,rfl,ph,#[O],#[O],#[O],#[O],#[O]⟩⟩
      ·exact aB ⟨_,_,_,_,_,_,_,rfl,rfl,ph,#[O],#[O],#[O],#[O],#[O]⟩
    ·refine zF wU ?_;have BP:k=oz:=by lia
     subst BP;obtain⟨n1,rfl⟩:∃ n1,k=n1+1:=⟨k - 1,#[O]⟩;simp only [bQ];refine aw (z8 ey ?_);refine zaB (xs:=a) (i:=n1) #[O] fun z ez mz=>?_
     have uV:=hI.pushB sa #[O] ey (show a[n1+1 - 1]? = some z by rw [bQ]; exact ez) (by have:=zdK (rR n1 #[O]); rw [cG,zaa ez] at this; exact this);by_cases e3:m1=1
     ·refine zE (by simpa using e3) ?_;exact aB ⟨_,rfl,.inl ⟨_,_,rfl,uV.first e3 sa h2 hf⟩⟩
     refine zF (by simpa using e3) ?_;refine aw (z8 ez (aw (zbA hC hk (ma z mz) (fun i hi=>(by
      refine zaB (xs:=b) (i:=0+i) #[O] fun p ep mp=>?_
      exact⟨p,ep,mb p mp⟩)) (sb.sub #[O] #[O]) #[O] fun j yl tV xm=>?_)))
     dsimp only;have vV:=uV.takeB (at':=j) sa yl #[O] (show a[n1+1 - 1]? = some z by rw [bQ]; exact ez) fun i h1 h2=>(by have:=zdr (xm i h1 h2); rwa [cG] at this)
     by_cases rS:m1 - j > 0
     ·refine zE rS ?_;by_cases e4:j=1
      ·refine zE (by simpa using e4) ?_;exact aB ⟨_,rfl,.inl ⟨_,_,rfl,vV.first e4 sa h2 hf⟩⟩
      refine zF (by simpa using e4) ?_;by_cases e5:j=0
      ·refine zE (by simpa using e5) ?_;exact aB ⟨_,rfl,.inl ⟨_,_,rfl,vV.doneB e5⟩⟩
      refine zF (by simpa using e5) ?_;refine zaB (xs:=b) (i:=j - 1) #[O] fun y2 qP ym=>?_
      refine aw (z8 ez ?_);have ph:=vV.pushA sb #[O] qP ez (by have:=zcy (tV (j - 1) #[O]); rw [cG,zaa qP] at this; lia);by_cases e9:n1=0
      ·refine zE (by simpa using e9) ?_;exact aB ⟨_,rfl,.inl ⟨_,_,rfl,ph.doneA e9⟩⟩
      refine zF (by simpa using e9) ?_;refine za5 (fun _=>?_) (fun _=>?_)
      ·exact aB ⟨_,rfl,.inr ⟨_,_,_,_,_,_,rfl,ph,#[O],#[O],#[O],#[O],#[O]⟩⟩
      ·exact aB ⟨_,_,_,_,_,_,_,rfl,rfl,ph,#[O],#[O],#[O],#[O],#[O]⟩
     ·refine zF rS ?_;have FV:j=m1:=by lia
      subst FV;refine zaB (xs:=b) (i:=j - 1) #[O] fun y2 qP ym=>?_
      refine aw (z8 ez ?_);have ph:=uV.pushA sb #[O] qP ez (by have:=zcy (tV (j - 1) #[O]); rw [cG,zaa qP] at this; lia);by_cases e9:n1=0
      ·refine zE (by simpa using e9) ?_;exact aB ⟨_,rfl,.inl ⟨_,_,rfl,ph.doneA e9⟩⟩
      refine zF (by simpa using e9) ?_;refine za5 (fun _=>?_) (fun _=>?_)
      ·exact aB ⟨_,rfl,.inr ⟨_,_,_,_,_,_,rfl,ph,#[O],#[O],#[O],#[O],#[O]⟩⟩
      ·exact aB ⟨_,_,_,_,_,_,_,rfl,rfl,ph,#[O],#[O],#[O],#[O],#[O]⟩
end
end Srt
end
section
namespace Srt
open PySem PyProof.Rows
def wb (sa:Nat) (l:List (Keyed×Nat)) (xs:Array Keyed):Array Keyed:=l.foldl (fun a (p,j)=>a.setIfInBounds (sa+j) p) xs
theorem zmN (sa:Nat):∀ (l:List Keyed) (n:Nat) (xs:Array Keyed) (k:Nat),sa+n+l.length≤xs.size→(wb sa (l.zipIdx n) xs)[k]? = if sa+n≤k∧k < sa+n+l.length then l[k - (sa+n)]? else xs[k]?
 | [],n,xs,k,h=>by
  rw [if_neg (by simp only [jm]; lia)];rfl
 | p :: l,n,xs,k,h=>by
  have hl:(p :: l).length=l.length+1:=rfl;rw [hl] at h ⊢;show (wb sa (l.zipIdx (n+1)) (xs.setIfInBounds (sa+n) p))[k]? = _;rw [zmN sa l (n+1) _ k (by rw [Array.size_setIfInBounds]; lia)];by_cases h1:sa+(n+1)≤k∧k < sa+(n+1)+l.length
  ·rw [if_pos h1,if_pos #[O],show k - (sa+n)=k - (sa+(n+1))+1 by lia,cQ]
  ·rw [if_neg h1,Array.getElem?_setIfInBounds];by_cases h2:sa+n=k
   ·rw [if_pos h2,if_pos #[O],if_pos #[O],show k - (sa+n)=0 by lia];rfl
   ·rw [if_neg h2,if_neg #[O]]
theorem zoy {sa:Nat} {m xs:Array Keyed} (h:sa+m.size≤xs.size):(wb sa m.toList.zipIdx xs).toList=xs.toList.take sa++m.toList++xs.toList.drop (sa+m.size):=by
 have hm:m.toList.length=m.size:=by simp
 have hx:xs.toList.length=xs.size:=by simp
 refine cU fun k=>?_
 rw [bE,zmN sa m.toList 0 xs k (by rw [hm]; lia),hm,dJ];by_cases h1:k < sa
 ·rw [if_neg #[O],bD,bj (by rw [aI]; lia),b9 h1,bE]
 ·by_cases h2:k < sa+m.size
  ·rw [if_pos #[O],bD,bN (by rw [aI]; lia),aI,hx,show min sa xs.size=sa by lia,bj #[O]]
  ·rw [if_neg #[O],bN (by rw [aq,aI]; lia),aq,aI,hx,show min sa xs.size=sa by lia,hm,ff,show sa+m.size+(k - (sa+m.size))=k by lia,bE]
theorem zln (xs:List Keyed) {i j k:Nat} (h1:i≤j) (h2:j≤k):xs=xs.take i++((xs.drop i).take (j - i)++(xs.drop j).take (k - j))++xs.drop k:=by
 have e1:xs.drop i=(xs.drop i).take (j - i)++xs.drop j:=by
  have:=(cw (j - i) (xs.drop i)).symm
  rwa [jH,show i+(j - i)=j by lia] at this
 have e2:xs.drop j=(xs.drop j).take (k - j)++xs.drop k:=by
  have:=(cw (k - j) (xs.drop j)).symm
  rwa [jH,show j+(k - j)=k by lia] at this
 have e0:=(cw i xs).symm;rw [e1,e2] at e0;rw [bD,bD];exact e0
theorem zdL (xs:Array Keyed) (i j:Nat):(xs.extract i j).toList=(xs.toList.drop i).take (j - i):=by
 rw [dI]
theorem zoz {sa sb e:Nat} {m xs:Array Keyed} (h1:sa≤sb) (h2:sb≤e) (h3:e≤xs.size) (hp:m.toList.Perm ((xs.extract sa sb).toList++(xs.extract sb e).toList)):(wb sa m.toList.zipIdx xs).Perm xs:=by
 have hms:m.size=e - sa:=by
  have:=hp.length_eq;rw [aq,zdL,zdL,aI,aI,dv,dv] at this;have hx:xs.toList.length=xs.size:=by simp
  have hm:m.toList.length=m.size:=by simp
  lia
 rw [fT,zoy #[O],show sa+m.size=e by lia];refine f' ((hp.append_left _).append_right _) ?_;rw [zdL,zdL,← zln xs.toList h1 h2]
section
variable {prog:Program} {w:World} {A:Around} {E:Value→Shared→Prop} {s:Shared} {a₀:Array Keyed} {κ:SortKind} {val:Keyed→Int}
theorem zds {xs:Array Keyed} {i j k:Nat} (h:k < j - i) (hj:j≤xs.size):(xs.extract i j)[k]? = xs[i+k]?:=by
 rw [← bE,zdL,b9 h,ff,bE]
theorem zdM {xs:Array Keyed} {i j:Nat} (hj:j≤xs.size):(xs.extract i j).size=j - i:=by rw [Array.size_extract,dL hj]
theorem zkc {xs:Array Keyed} {i j:Nat} (hj:j≤xs.size) (h:SIn val xs i j):SIn val (xs.extract i j) 0 (xs.extract i j).size:=by
 rw [zdM hj];intro p q _ hpq hq;rw [zak (zds #[O] hj),zak (zds hq hj)];exact h _ _ #[O] #[O] #[O]
theorem zeL {xs:Array Keyed} {i j:Nat} (hj:j≤xs.size) {p:Keyed} (h:p∈(xs.extract i j).toList):∃ k,i≤k∧k < j∧xs[k]? = some p:=by
 obtain⟨k,hk,e⟩:=eZ h;have vN:k < j - i:=by
  rwa [bh,zdM hj] at hk
 refine⟨i+k,#[O],#[O],?_⟩;rw [← zds vN hj,← bE,aj hk,e]
theorem zlo {st:SortSt} {i sa na pw sb nb pw2:Nat} {Q:Bool→SortSt→Prop} (hC:Cmp prog w A s κ val a₀) (hB:SB κ a₀ st) (e1:(pendingOf st)[i]? = some (sa,na,pw)) (e2:(pendingOf st)[i+1]? = some (sb,nb,pw2))
  (n6:sb=sa+na) (hna:1≤na) (hnb:1≤nb) (hsz:sb+nb≤a₀.size) (sA:SIn val (arrOf st) sa (sa+na)) (sB:SIn val (arrOf st) sb (sb+nb))
  (h:∀ mj,SB κ a₀ mj→pendingOf mj=((pendingOf st).setIfInBounds i (sa,na+nb,pw)).eraseIdxIfInBounds (i+1)→(∀ k,(k < sa∨sb+nb≤k)→(arrOf mj)[k]? = (arrOf st)[k]?)→SIn val (arrOf mj) sa (sb+nb)→Q true mj) :
  wpS (model prog w) A E s (mergeAt' i) Q st:=by
 refine zg2 ?_
 wp_delta
 wp_delta
 refine zg3 ?_;refine aw (gr ?_);rw [e1,e2];dsimp only;have CH:=hB.size;obtain⟨y0,xV,FI⟩:=hB.mem (i:=sb) #[O];generalize AV:(sortPriv% PySem.Builtin.SortState.mk) (kindOf st) (arrOf st) (((pendingOf st).setIfInBounds i (sa,na+nb,pw)).eraseIdxIfInBounds (i+1)) (gallopOf st) (failedOf st)=oY;have xn:SB κ a₀ oY:=by subst AV; exact⟨hB.perm,hB.kind,hB.failed⟩
 have uR:pendingOf oY=((pendingOf st).setIfInBounds i (sa,na+nb,pw)).eraseIdxIfInBounds (i+1):=by subst AV; rfl
 have wV:arrOf oY=arrOf st:=by subst AV; rfl
 have yn:∀ n,n < a₀.size→∃ p,(arrOf st)[n]? = some p∧p∈a₀.toList:=fun n hn=>hB.mem hn
 refine aw (show wpS _ _ _ _ (set oY) _ st from fN (f:=fun _=>oY) ?_);refine aw (z8 xV (aw (zbA (arr:=arrOf st) hC xn.kind FI (fun j hj=>yn (sa+j) #[O]) sA #[O] fun k BR rR y4=>?_)));dsimp only;have CI:∀ j,sa≤j→j < sa+k→Vk val (arrOf st) j≤Vk val (arrOf st) sb:=fun j h1 h2=>by
  have:=zdK (rR (j - sa) #[O])
  rwa [show sa+(j - sa)=j by lia,← zaa (val:=val) xV] at this
 by_cases wU:na - k=0
 ·rw [if_pos (by simpa using wU)];refine aB (h oY xn uR (fun _ _=>by rw [wV]) ?_);rw [wV];intro p q h1 h2 h3;by_cases hq:q < sa+na
  ·exact sA p q h1 h2 hq
  ·by_cases hp:p < sa+na
   ·exact ck (CI p h1 #[O]) (sB sb q #[O] #[O] h3)
   ·exact sB p q #[O] h2 h3
 rw [if_neg (by simpa using wU)];have CJ:sa+k+(na - k) - 1=sa+na - 1:=by lia
 rw [CJ];obtain⟨x0,xW,FJ⟩:=hB.mem (i:=sa+na - 1) #[O];refine aw (z8 xW (aw (zbA (arr:=arrOf st) hC xn.kind FJ (fun j hj=>yn (sb+j) #[O]) sB #[O] fun m wR uI FW=>?_)));dsimp only;have y6:∀ j,sb+m≤j→j < sb+nb→Vk val (arrOf st) (sa+na - 1)≤Vk val (arrOf st) j:=fun j h1 h2=>by
  have:=zdr (FW (j - sb) #[O] #[O])
  rwa [show sb+(j - sb)=j by lia,← zaa (val:=val) xW] at this
 have FX:∀ j,sb≤j→j < sb+m→Vk val (arrOf st) j < Vk val (arrOf st) (sa+na - 1):=fun j h1 h2=>by
  have:=zcy (uI (j - sb) #[O])
  rwa [show sb+(j - sb)=j by lia,← zaa (val:=val) xW] at this
 by_cases Ec:m=0
 ·rw [if_pos (by simpa using Ec)];refine aB (h oY xn uR (fun _ _=>by rw [wV]) ?_);rw [wV];intro p q h1 h2 h3;by_cases hq:q < sa+na
  ·exact sA p q h1 h2 hq
  ·by_cases hp:p < sa+na
   ·exact ck (sA p (sa+na - 1) h1 #[O] #[O]) (y6 q #[O] h3)
   ·exact sB p q #[O] h2 h3
 rw [if_neg (by simpa using Ec)];have zx:(arrOf st).size=a₀.size:=CH;have z1:=zdM (xs:=arrOf st) (i:=sa+k) (j:=sb) #[O];have z2:=zdM (xs:=arrOf st) (i:=sb) (j:=sb+m) #[O];have hf:Vk val ((arrOf st).extract sb (sb+m)) 0≤Vk val ((arrOf st).extract (sa+k) sb) 0:=by
  rw [zak (zds #[O] #[O]),zak (zds (xs:=arrOf st) (i:=sa+k) (j:=sb) (k:=0) #[O] #[O])];have:=zeJ (y4 k (ag _) #[O]);rw [← zaa (val:=val) xV] at this;simp only [dJ] at this ⊢;lia
 have hl:∀ j,j < ((arrOf st).extract sb (sb+m)).size→Vk val ((arrOf st).extract sb (sb+m)) j≤Vk val ((arrOf st).extract (sa+k) sb) (((arrOf st).extract (sa+k) sb).size - 1):=by
  intro j hj;rw [z2] at hj;rw [z1,zak (zds #[O] #[O]),zak (zds (xs:=arrOf st) (i:=sa+k) (j:=sb) #[O] #[O])];have:=FX (sb+j) #[O] #[O];rw [show sa+k+(sb - (sa+k) - 1)=sa+na - 1 by lia];lia
 have fin:∀ (out:Array Keyed) (g:Nat),Good val (((arrOf st).extract (sa+k) sb).toList++((arrOf st).extract sb (sb+m)).toList) out.toList →
   wpS (model prog w) A E s (do
    modify fun s=>setArr s (out.toList.zipIdx.foldl (fun a (p,j)=>a.setIfInBounds (sa+k+j) p) (arrOf s))
    let s' ← get
    pure (failedOf s').isNone) Q (zaq oY g):=by
  intro out g hG;refine aw (fN (aw (gr ?_)));have hms:out.size=sb+m - (sa+k):=by
   have:=hG.1.length_eq;rw [aq] at this;have e1:out.toList.length=out.size:=by simp
   have e2:((arrOf st).extract (sa+k) sb).toList.length=sb - (sa+k):=by rw [bh,z1]
   have e3:((arrOf st).extract sb (sb+m)).toList.length=sb+m - sb:=by rw [bh,z2]
   lia
  have pL:=zoz (xs:=arrOf st) (sa:=sa+k) (sb:=sb) (e:=sb+m) #[O] #[O] #[O] hG.1;have nJ:∀ n,(wb (sa+k) out.toList.zipIdx (arrOf st))[n]? = if sa+k≤n∧n < sb+m then out[n - (sa+k)]? else (arrOf st)[n]?:=fun n=>by
   have:=zmN (sa+k) out.toList 0 (arrOf st) n (by rw [bh]; lia);rw [bh,dJ,hms,show sa+k+(sb+m - (sa+k))=sb+m by lia,bE] at this;exact this
  have Cf:(failedOf (setArr (zaq oY g) (wb (sa+k) out.toList.zipIdx (arrOf st)))).isNone=true:=by
   show (failedOf oY).isNone=true;rw [xn.failed];rfl
  have FY:arrOf (zaq oY g)=arrOf st:=wV;show wpS _ _ _ _ (pure (failedOf (setArr (zaq oY g) (wb (sa+k) out.toList.zipIdx (arrOf (zaq oY g))))).isNone) Q (setArr (zaq oY g) (wb (sa+k) out.toList.zipIdx (arrOf (zaq oY g))));rw [FY,Cf];refine aB (h _ ⟨pL.trans hB.perm,xn.kind,xn.failed⟩ uR (fun n hn=>?_) ?_)
  ·show (wb (sa+k) out.toList.zipIdx (arrOf st))[n]? = _;rw [nJ,if_neg #[O]]
  ·show SIn val (wb (sa+k) out.toList.zipIdx (arrOf st)) sa (sb+nb);have tU:∀ n,sa+k≤n→n < sb+m→∃ q,sa+k≤q∧q < sb+m∧Vk val (wb (sa+k) out.toList.zipIdx (arrOf st)) n=Vk val (arrOf st) q:=fun n h1 h2=>by
    have ho:n - (sa+k) < out.size:=by lia
    have vA:out[n - (sa+k)]? = some out[n - (sa+k)]:=getElem?_pos out _ ho;have oE:out[n - (sa+k)]∈((arrOf st).extract (sa+k) sb).toList++((arrOf st).extract sb (sb+m)).toList:=hG.1.mem_iff.mp #[M];have hv:Vk val (wb (sa+k) out.toList.zipIdx (arrOf st)) n=val out[n - (sa+k)]:=zaa (by rw [nJ,if_pos ⟨h1,h2⟩,vA]);rcases aY.mp oE with oE | oE
    ·obtain⟨q,q1,q2,q3⟩:=zeL #[O] oE;exact⟨q,q1,#[O],by rw [hv,zaa q3]⟩
    ·obtain⟨q,q1,q2,q3⟩:=zeL #[O] oE;exact⟨q,#[O],q2,by rw [hv,zaa q3]⟩
   have qQ:∀ n,¬ (sa+k≤n∧n < sb+m)→Vk val (wb (sa+k) out.toList.zipIdx (arrOf st)) n=Vk val (arrOf st) n:=fun n hn=>zak (by rw [nJ,if_neg hn])
   intro p q h1 h2 h3;by_cases hp:p < sa+k
   ·rw [qQ p #[O]];by_cases hq:q < sa+k
    ·rw [qQ q #[O]];exact sA p q h1 h2 #[O]
    ·have key:∀ q',sa+k≤q'→q' < sb+nb→Vk val (arrOf st) p≤Vk val (arrOf st) q':=fun q' a1 a2=>by
      by_cases pH:q' < sb
      ·exact sA p q' h1 #[O] #[O]
      ·exact ck (CI p h1 hp) (sB sb q' #[O] #[O] a2)
     by_cases oC:q < sb+m
     ·obtain⟨q',q1,q2,q3⟩:=tU q #[O] oC;rw [q3];exact key q' q1 #[O]
     ·rw [qQ q #[O]];exact key q #[O] h3
   ·by_cases rT:p < sb+m
    ·by_cases oC:q < sb+m
     ·have CK:p - (sa+k) < out.size:=by lia
      have vA:q - (sa+k) < out.size:=by lia
      rw [zaa (p:=out[p - (sa+k)]) (by rw [nJ,if_pos #[O]]; exact getElem?_pos out _ CK),zaa (p:=out[q - (sa+k)]) (by rw [nJ,if_pos #[O]]; exact getElem?_pos out _ vA)];by_cases hpq:p=q
      ·subst hpq;exact bS _
      ·have:=cY.mp hG.2 (p - (sa+k)) (q - (sa+k)) (by simpa using CK) (by simpa using vA) #[O];simpa using this
     ·obtain⟨p',p1,p2,p3⟩:=tU p #[O] rT;rw [p3,qQ q #[O]];by_cases rQ:p' < sb
      ·exact ck (sA p' (sa+na - 1) #[O] #[O] #[O]) (y6 q #[O] h3)
      ·exact sB p' q #[O] #[O] h3
    ·rw [qQ p #[O],qQ q #[O]];exact sB p q #[O] h2 h3
 have ma:∀ p∈((arrOf st).extract (sa+k) sb).toList,p∈a₀.toList:=fun p hp=>by
  obtain⟨q,q1,q2,q3⟩:=zeL #[O] hp;obtain⟨p',e,m'⟩:=yn q #[O];rw [q3] at e;cases e;exact m'
 have mb:∀ p∈((arrOf st).extract sb (sb+m)).toList,p∈a₀.toList:=fun p hp=>by
  obtain⟨q,q1,q2,q3⟩:=zeL #[O] hp;obtain⟨p',e,m'⟩:=yn q #[O];rw [q3] at e;cases e;exact m'
 have ss1:=zkc (val:=val) (xs:=arrOf st) (i:=sa+k) (j:=sb) #[O] (sA.sub #[O] #[O]);have ss2:=zkc (val:=val) (xs:=arrOf st) (i:=sb) (j:=sb+m) #[O] (sB.sub #[O] #[O]);by_cases hle:na - k≤m
 ·rw [if_pos hle];exact aw (zll (a:=(arrOf st).extract (sa+k) sb) (b:=(arrOf st).extract sb (sb+m)) hC xn.kind ma mb ss1 ss2 #[O] #[O] hf hl fin)
 ·rw [if_neg hle];exact aw (zlm (a:=(arrOf st).extract (sa+k) sb) (b:=(arrOf st).extract sb (sb+m)) hC xn.kind ma mb ss1 ss2 #[O] #[O] hf hl fin)
end
end Srt
end
section
namespace Srt
open PySem PyProof.Rows
def Runs (val:Keyed→Int) (xs:Array Keyed):List (Nat×Nat×Nat)→Nat→Nat→Prop
 | [],lo,hi=>lo=hi
 | (s,n,_) :: r,lo,hi=>s=lo∧1≤n∧SIn val xs lo (lo+n)∧Runs val xs r (lo+n) hi
section
variable {val:Keyed→Int}
theorem Runs.le {xs:Array Keyed}:∀ {p:List (Nat×Nat×Nat)} {lo hi:Nat},Runs val xs p lo hi→lo+p.length≤hi
 | [],lo,hi,h=>by
  have h:lo=hi:=h;simp only [jm];lia
 | (s,n,w) :: r,lo,hi,h=>by
  obtain⟨_,h1,_,h2⟩:=h;have:=h2.le;simp only [bT];lia
theorem Runs.append {xs:Array Keyed}:∀ {p q:List (Nat×Nat×Nat)} {lo hi:Nat},Runs val xs (p++q) lo hi↔∃ mid,Runs val xs p lo mid∧Runs val xs q mid hi
 | [],q,lo,hi=>⟨fun h=>⟨lo,rfl,h⟩,fun ⟨mid,h1,h2⟩=>by
   have h1:lo=mid:=h1;subst h1;exact h2⟩
 | (s,n,w) :: p,q,lo,hi=>by
  constructor
  ·rintro⟨h1,h2,h3,h4⟩;obtain⟨mid,h5,h6⟩:=Runs.append.mp h4;exact⟨mid,⟨h1,h2,h3,h5⟩,h6⟩
  ·rintro⟨mid,⟨h1,h2,h3,h5⟩,h6⟩;exact⟨h1,h2,h3,Runs.append.mpr ⟨mid,h5,h6⟩⟩
theorem Runs.keep {xs ys:Array Keyed}:∀ {p:List (Nat×Nat×Nat)} {lo hi:Nat},Runs val xs p lo hi→(∀ k,lo≤k→k < hi→ys[k]? = xs[k]?)→Runs val ys p lo hi
 | [],lo,hi,h,_=>h
 | (s,n,w) :: p,lo,hi,h,e=>by
  obtain⟨h1,h2,h3,h4⟩:=h;have:=h4.le;refine⟨h1,h2,fun i j a b c=>?_,h4.keep fun k a b=>e k #[O] b⟩;rw [zak (e i #[O] #[O]),zak (e j #[O] #[O])];exact h3 i j a b c
theorem zmO {α:Type} (p q:List α) (x y v:α):((p++x :: y :: q).toArray.setIfInBounds p.length v).eraseIdxIfInBounds (p.length+1)=(p++v :: q).toArray:=by
 simp [Array.eraseIdxIfInBounds];rw [List.eraseIdx_append_of_length_le #[O],show p.length+1 - p.length=1 by lia];rfl
theorem zmP {α:Type} (q:List α) (z:α) (f:α→α):(q++[z]).toArray.modify ((q++[z]).toArray.size - 1) f=(q++[f z]).toArray:=by
 apply Array.ext';simp;induction q with
 | nil=>rfl
 | cons a q ih =>
  show (a :: (q++[z])).modify (q.length+1) f=a :: (q++[f z]);rw [List.modify_succ_cons,ih]
theorem zkd {xs:Array Keyed} {p:List (Nat×Nat×Nat)} {n:Nat} (hl:p.length≤1) (hn:1≤n) (h:Runs val xs p 0 n):SIn val xs 0 n:=by
 match p,hl,h with
 | [],_,h =>
  have h:0=n:=h;lia
 | [(a,b,c)],_,h =>
  obtain⟨_,_,h3,h4⟩:=h;have h4:0+b=n:=h4;rw [← h4];exact h3
 | _ :: _ :: _,hl,_=>simp at hl
theorem zlp {α:Type} {p:List α} {j:Nat} (h:j+2≤p.length):∃ pre x y post,p=pre++x :: y :: post∧pre.length=j:=by
 refine⟨p.take j,p[j],p[j+1],p.drop (j+2),?_,by rw [aI]; lia⟩;have e1:=(cw j p).symm;rw [cX (show j < p.length by lia),cX (show j+1 < p.length by lia)] at e1;exact e1
end
section
variable {prog:Program} {w:World} {A:Around} {E:Value→Shared→Prop} {s:Shared} {a₀:Array Keyed} {κ:SortKind} {val:Keyed→Int}
theorem zig {st:SortSt} {pre post:List (Nat×Nat×Nat)} {x y:Nat×Nat×Nat} {hi:Nat} {Q:Bool→SortSt→Prop} (hC:Cmp prog w A s κ val a₀) (hB:SB κ a₀ st) (hp:pendingOf st=(pre++x :: y :: post).toArray) (hR:Runs val (arrOf st) (pre++x :: y :: post) 0 hi) (xU:hi≤a₀.size)
  (h:∀ mj v,SB κ a₀ mj→pendingOf mj=(pre++v :: post).toArray→(∀ k,hi≤k→(arrOf mj)[k]? = (arrOf st)[k]?)→Runs val (arrOf mj) (pre++v :: post) 0 hi→Q true mj) :
  wpS (model prog w) A E s (mergeAt' pre.length) Q st:=by
 obtain⟨sa,na,pw⟩:=x;obtain⟨sb,nb,pw2⟩:=y;obtain⟨mid,r1,r2⟩:=Runs.append.mp hR;obtain⟨rfl,q1,q2,rfl,q4,q5,r3⟩:=r2;have hle:=r3.le;refine zlo (i:=pre.length) (sa:=sa) (na:=na) (pw:=pw) (sb:=sa+na) (nb:=nb) (pw2:=pw2) hC hB (by rw [hp]; simp) (by rw [hp]; simp) rfl q1 q4 #[O] q2 q5 fun mj pg rQ hk hs=>?_
 refine h mj (sa,na+nb,pw) pg (by rw [rQ,hp,zmO]) (fun k vN=>hk k #[O]) ?_;refine Runs.append.mpr ⟨sa,r1.keep fun k _ b=>hk k #[O],rfl,#[O],?_,?_⟩
 ·rw [← Nat.add_assoc];exact hs
 ·rw [← Nat.add_assoc];exact r3.keep fun k a b=>hk k #[O]
theorem zoA {n:Nat} {c:Prop} [Decidable c] (h:¬ n≤1):(if c then n - 2 - 1 else n - 2)+2≤n:=by
 by_cases hc:c
 ·rw [if_pos hc];lia
 ·rw [if_neg hc];lia
theorem zmQ {st:SortSt} {p:List (Nat×Nat×Nat)} {j hi:Nat} {Q:Bool→SortSt→Prop} (hj:j+2≤p.length) (hC:Cmp prog w A s κ val a₀) (hB:SB κ a₀ st) (hp:pendingOf st=p.toArray) (hR:Runs val (arrOf st) p 0 hi) (xU:hi≤a₀.size)
  (h:∀ mj p',SB κ a₀ mj→pendingOf mj=p'.toArray→Runs val (arrOf mj) p' 0 hi→p'.length+1=p.length→Q true mj):wpS (model prog w) A E s (mergeAt' j) Q st:=by
 obtain⟨pre,x,y,post,rfl,rfl⟩:=zlp hj;exact zig hC hB hp hR xU fun mj v a b _ d=>h mj _ a b d (by simp only [aq,bT]; lia)
theorem zqu {st:SortSt} {Q:Unit→SortSt→Prop} (hC:Cmp prog w A s κ val a₀) (hB:SB κ a₀ st) (hp:pendingOf st = #[]) (h2:1≤a₀.size)
  (h:∀ mj,SB κ a₀ mj→SIn val (arrOf mj) 0 a₀.size→Q () mj):wpS (model prog w) A E s sortRuns' Q st:=by
 rw [sortRuns'_eq];refine aw (gr ?_);dsimp only;rw [hB.size];generalize minRun' a₀.size a₀.size 0=mr;refine aw (dU (c9 (I:=fun x c mj=>∃ lo p,c=(none,lo)∧SB κ a₀ mj∧pendingOf mj=p.toArray∧Runs val (arrOf mj) p 0 lo∧lo≤a₀.size∧min x a₀.size≤lo)
  (Q:=fun c mj=>∃ p,c=(none,a₀.size)∧SB κ a₀ mj∧pendingOf mj=p.toArray∧Runs val (arrOf mj) p 0 a₀.size) ?step ?fin ⟨0,[],rfl,hB,hp,rfl,#[O],#[O]⟩) ?post)
 case fin =>
  rintro c mj ⟨lo,p,rfl,pg,rQ,hR,qK,hx⟩;have:lo=a₀.size:=by lia
  subst this;exact⟨p,rfl,pg,rQ,hR⟩
 case step =>
  rintro x c mj _ hx ⟨lo,p,rfl,pg,rQ,hR,qK,CL⟩;dsimp only;by_cases pY:lo≥a₀.size
  ·rw [if_pos pY];have:lo=a₀.size:=by lia
   subst this;exact aB ⟨p,rfl,pg,rQ,hR⟩
  rw [if_neg pY];refine aw (zov hC #[O] #[O] (SF.refl pg) fun m oY hF1 wR uI hs1=>?_);dsimp only;apply zrZ
  ·intro k1 k2;by_cases FZ:m < mr
   ·rw [if_pos FZ]
    (refine aw (io (cF ⟨rfl,?_⟩)))
    refine aw (zrv hC #[O] #[O] hF1 hs1 fun ng y8 oU=>?_);rw [if_neg #[D]];have uU:1≤min (a₀.size - lo) mr:=by lia
    have uC:lo+min (a₀.size - lo) mr≤a₀.size:=by lia
    generalize min (a₀.size - lo) mr=n at oU uU uC ⊢
    revert uC; revert uU; revert oU; revert y8; revert ng; revert n
    exact k1 ()
   ·rw [if_neg FZ];have uC:lo+m≤a₀.size:=by lia
    clear uI FZ
    revert uC; revert wR; revert hs1; revert hF1; revert oY; revert m
    exact k2 ()
  intro n ng y8 oU uU uC;refine aw (gr ?_);have uR:pendingOf ng=p.toArray:=y8.pend.trans rQ;have BS:Runs val (arrOf ng) p 0 lo:=hR.keep fun k _ b=>y8.low k b
  rcases jI p with rfl | ⟨q,z,rfl⟩
  ·rw [uR];show wpS _ _ _ _ (do
    modify fun s=>setPending s ((pendingOf s).push (lo,n,0)); pure (cW (none,lo+n))) _ _
   refine aw (fN (aB ⟨lo+n,[(lo,n,0)],rfl,⟨y8.b.perm,y8.b.kind,y8.b.failed⟩,?_,?_,#[O],#[O]⟩))
   ·show (pendingOf ng).push _=_;rw [uR];rfl
   ·have h0:0=lo:=BS;subst h0;exact⟨rfl,uU,oU,rfl⟩
  obtain⟨s1,n1,w1⟩:=z;rw [uR,gW,show ((q++[(s1,n1,w1)]).toArray).back? = some (s1,n1,w1) by simp];rw [gW] at uR BS;dsimp only;generalize power' a₀.size (2*s1+n1) (2*s1+n1+n1+n) a₀.size=pw;refine aw (dU (c9 (I:=fun _ c mj=>c=(none,())∧∃ q' z,SB κ a₀ mj∧pendingOf mj=(q'++[z]).toArray∧Runs val (arrOf mj) (q'++[z]) 0 lo∧(∀ k,lo≤k→(arrOf mj)[k]? = (arrOf ng)[k]?))
   (Q:=fun c mj=>c=(none,())∧∃ q' z,SB κ a₀ mj∧pendingOf mj=(q'++[z]).toArray∧Runs val (arrOf mj) (q'++[z]) 0 lo∧(∀ k,lo≤k→(arrOf mj)[k]? = (arrOf ng)[k]?)) ?_ (fun _ _ hh=>hh) ⟨rfl,q,(s1,n1,w1),y8.b,uR,BS,fun _ _=>rfl⟩) ?_)
  ·rintro x2 c ng _ xl ⟨rfl,q',z,ub,rT,xo,rR⟩;refine aw (gr ?_);rcases jI q' with rfl | ⟨q2,y,rfl⟩
   ·rw [rT,if_neg #[M]];exact aB ⟨rfl,[],z,ub,rT,xo,rR⟩
   rw [gW,bD] at rT xo;have Ed:(pendingOf ng).size - 2=q2.length:=by rw [rT]; simp
   have eel:(if (pendingOf ng).size > 1 then (pendingOf ng)[(pendingOf ng).size - 2]? else none)=some y:=by
    rw [if_pos (by rw [rT]; simp),Ed,rT];simp
   rw [eel];obtain⟨y1,y2,y3⟩:=y;dsimp only;by_cases ho:y3≤pw
   ·rw [if_pos ho];exact aB ⟨rfl,q2++[(y1,y2,y3)],z,ub,by rw [rT,bD],by rw [bD]; exact xo,rR⟩
   ·rw [if_neg ho,Ed];refine aw (zig hC ub rT xo #[O] fun DV v F1 xY y4 F2=>?_);rw [if_neg #[D]];exact aB ⟨rfl,q2,v,F1,xY,F2,fun k hk=>(y4 k hk).trans (rR k hk)⟩
  ·rintro c ng ⟨rfl,q',z,ub,rT,xo,rR⟩;obtain⟨z1,z2,z3⟩:=z;dsimp only;refine aw (fN (aw (fN (aB ⟨lo+n,q'++[(z1,z2,pw),(lo,n,0)],rfl,⟨ub.perm,ub.kind,ub.failed⟩,?_,?_,#[O],#[O]⟩))))
   ·show ((pendingOf ng).modify ((pendingOf ng).size - 1) fun x=>(x.fst,x.2.fst,pw)).push (lo,n,0)=_;rw [rT,zmP];simp
   ·show Runs val (arrOf ng) _ _ _;obtain⟨mid,r1,r2⟩:=Runs.append.mp xo;obtain⟨e1,e2,e3,e4⟩:=r2;have e4:mid+z2=lo:=e4;refine Runs.append.mpr ⟨mid,r1,e1,e2,e3,e4.symm,uU,?_,?_⟩
    ·intro i j a1 a2 a3;rw [zak (rR i #[O]),zak (rR j #[O])];exact oU i j #[O] a2 #[O]
    ·show mid+z2+n=lo+n;lia
 case post =>
  rintro c oY ⟨p,rfl,xn,uR,BS⟩;dsimp only;have n5:=BS.le;refine aw (dU (c9 (I:=fun x c mj=>c=(none,())∧∃ p,SB κ a₀ mj∧pendingOf mj=p.toArray∧Runs val (arrOf mj) p 0 a₀.size∧p.length≤max 1 (a₀.size - x))
   (Q:=fun c mj=>c=(none,())∧SB κ a₀ mj∧SIn val (arrOf mj) 0 a₀.size) ?_ ?_ ⟨rfl,p,xn,uR,BS,#[O]⟩) ?_)
  ·rintro x c ng _ hx ⟨rfl,p2,ub,rT,xo,qJ⟩;refine aw (gr ?_);have hsz:(pendingOf ng).size=p2.length:=by rw [rT]; simp
   rw [hsz];by_cases hle:p2.length≤1
   ·rw [if_pos hle];exact aB ⟨rfl,ub,zkd hle h2 xo⟩
   rw [if_neg hle];refine aw (zmQ (p:=p2) (zoA hle) hC ub rT xo (ag _) fun DV p3 F1 xY F2 hl3=>?_);rw [if_neg #[D]];exact aB ⟨rfl,p3,F1,xY,F2,#[O]⟩
  ·rintro c ng ⟨rfl,p2,ub,rT,xo,qJ⟩;exact⟨rfl,ub,zkd #[O] h2 xo⟩
  ·rintro c ng ⟨rfl,ub,hS⟩;exact aB (h ng ub hS)
end
end Srt
end
section
namespace Srt
open PySem PyProof.Rows
def num (B:Int):List Int→Int
 | []=>0
 | n :: r=>n*B ^ r.length+num B r
theorem num_rng {B:Int} (hB:1≤B):∀ {ns:List Int},(∀ n∈ns,0≤n∧n < B)→0≤num B ns∧num B ns < B ^ ns.length
 | [],_=>by simp [num]
 | n :: r,h=>by
  obtain⟨h1,h2⟩:=num_rng hB (ns:=r) fun m hm=>h m (aD _ hm)
  obtain⟨a,b⟩:=h n #[M];have hp:0 < B ^ r.length:=Int.pow_pos #[O];have e:B ^ (n :: r).length=B ^ r.length*B:=by rw [bT,fE]
  show 0≤n*B ^ r.length+num B r∧n*B ^ r.length+num B r < _;rw [e];have h3:0≤n*B ^ r.length:=Int.mul_nonneg a #[O];have h4:n*B ^ r.length≤(B - 1)*B ^ r.length:=dM #[O] #[O];have h5:(B - 1)*B ^ r.length=B ^ r.length*B - B ^ r.length:=by rw [Int.sub_mul,kX,i8]
  lia
def zih:List Int→List Int→Bool
 | [],[]=>false
 | [],_ :: _=>true
 | _ :: _,[]=>false
 | x :: xs,y :: ys=>if x=y then zih xs ys else decide (x < y)
theorem zc5 (x y:Int) (xs ys:List Int):zih (x :: xs) (y :: ys)=if x=y then zih xs ys else decide (x < y):=rfl
theorem zke {B:Int} (hB:1≤B):∀ {ms ns:List Int},ms.length=ns.length→(∀ n∈ms,0≤n∧n < B)→(∀ n∈ns,0≤n∧n < B)→zih ms ns=decide (num B ms < num B ns)
 | [],[],_,_,_=>by simp [zih,num]
 | [],_ :: _,h,_,_=>by simp at h
 | _ :: _,[],h,_,_=>by simp at h
 | m :: ms,n :: ns,hl,h1,h2=>by
  have DT:ms.length=ns.length:=by simpa using hl
  have ih:=zke hB DT (fun x hx=>h1 x (aD _ hx)) (fun x hx=>h2 x (aD _ hx));obtain⟨a1,a2⟩:=num_rng hB fun x hx=>h1 x (aD m hx)
  obtain⟨b1,b2⟩:=num_rng hB fun x hx=>h2 x (aD n hx)
  rw [zc5];show _=decide (m*B ^ ms.length+num B ms < n*B ^ ns.length+num B ns);rw [DT] at a2 ⊢;have hp:0 < B ^ ns.length:=Int.pow_pos #[O];by_cases e:m=n
  ·rw [if_pos e,ih,e];rw [cV];simp only [decide_eq_true_eq];lia
  ·rw [if_neg e,cV];simp only [decide_eq_true_eq];have key:∀ x y:Int,x < y→x*B ^ ns.length+B ^ ns.length≤y*B ^ ns.length:=fun x y hxy=>by
    have:=dM (show x+1≤y by lia) (show 0≤B ^ ns.length by lia);rw [Int.add_mul,kX] at this;exact this
   constructor
   ·intro h;have:=key m n h;lia
   ·intro h;rcases kP m n with h3 | h3 | h3
    ·exact h3
    ·exact absurd h3 e
    ·have:=key n m h3;lia
section
variable {prog:Program} {w:World} {A:Around} {E:Value→Shared→Prop} {s:Shared}
theorem zkf {Q:Bool→Shared→Prop} {fin:Bool}:∀ {xs ys:List Value} {ms ns:List Int} (i:Nat),IntsAre xs ms→IntsAre ys ns→ms.length=ns.length→Q (if ms=ns then fin else zih ms ns) s→PySem.W.KatLex prog w A true fin Q (xs.zip ys) i s
 | [],[],[],[],i,_,_,_,h=>PySem.W.kat_nil (by simpa using h)
 | _ :: _,_,[],_,_,hx,_,_,_=>by cases hx
 | [],_,_ :: _,_,_,hx,_,_,_=>by cases hx
 | _,[],_,_ :: _,_,_,hy,_,_=>by cases hy
 | _,_ :: _,_,[],_,_,hy,_,_=>by cases hy
 | x :: xs,y :: ys,m :: ms,n :: ns,i,hx,hy,hl,h=>by
  cases hx with
  | cons _ t hx =>
   cases hy with
   | cons _ u hy =>
    refine PySem.W.kat_cons (wpAny_eqBool_int ?_);by_cases e:m=n
    ·rw [show (m == n)=true by simpa using e];refine PySem.W.kat_yes (zkf (i+1) hx hy (by simpa using hl) ?_);subst e;rw [zc5,if_pos rfl] at h;simpa using h
    ·rw [show (m == n)=false by simpa using e];have mV:¬ (m :: ms=n :: ns):=fun z=>e (j7 z).1
     rw [if_neg mV,zc5,if_neg e] at h;refine PySem.W.kat_no ?_;by_cases hi:i=0
     ·subst hi;exact oneLt_int h
     ·have hb:(true && i == 0)=false:=by simp [hi]
      rw [hb];exact PySem.W.kat_one _ _ (wpAny_lt_int h)
end
end Srt
end
section
namespace PySem
open PyProof.Rows
def zer (h:Heap) (d:Addr) (es:Array DictEntry) (ep:Nat):Prop:=∃ o,h.get? d=some o∧o.ExactDict∧o.data = .dict es ep
theorem zer.at' {h h':Heap} {d:Addr} {es:Array DictEntry} {ep:Nat} (x:zer h d es ep) (e:∀ o,h.get? d=some o→h'.get? d=some o):zer h' d es ep:=let ⟨o,ho,r⟩:=x; ⟨o,e _ ho,r⟩
theorem zer.typeIs {s:Shared} {d:Addr} {es:Array DictEntry} {ep:Nat} (x:zer s.heap d es ep):s.TypeIs (.ref d) "dict":=let ⟨o,ho,hc,_⟩:=x; ⟨o,ho,hc.1⟩
section
variable {prog:Program} {w:World} {A:Around} {E:Value→Shared→Prop} {s:Shared} {it d:Addr} {i ep:Nat} {es:Array DictEntry}
theorem zii {Q:Value→Shared→Prop} (hd:(d == sysModules)=false) (hm:zer s.heap d es ep) (hQ:Q (.ref s.heap.objs.size) { s with heap:=s.heap.push { cls:=.type "dict_keyiterator",data:=.fields #[.ref d,.int 0 0,.int es.size 0,.int ep 0] } }):wpAny (model prog w) A (pyIter (.ref d)) Q E s:=by
 have hT:=hm.typeIs;obtain⟨o,ho,hc,CM⟩:=id hm;refine iR hT lh (bO lh hT F.entry_dict_iter ?_ (F.args_dict_iter_1 _)); unfold Builtin.«dict.__iter__» Builtin.Dict.dictSlotNone;refine ae (ae (jJ hT ?_)); show wpAny _ _ (pure (bd d)) _ _ s;refine ao ?_; show wpAny _ _ (jK d >>= _) _ _ s; unfold jK;rw [if_neg (show ¬ ((d == sysModules)=true) by rw [hd]; decide)];refine ae (ao (ae (iU ho CM (ae (jn ho CM (ae (cL (ao ⟨_,rfl,"dict_keyiterator",_,⟨_,aG _ rfl,rfl⟩,F.slot_dict_keyiterator_next.lookup,?_⟩))))))));simpa [rawInt] using hQ
theorem zij {e:DictEntry} {Q:Option Value→Shared→Prop} (hit:s.heap.IsKeyIter it d i es.size ep) (hm:zer s.heap d es ep) (he:es[i]? = some e)
  (hQ:∀ h',h'.IsKeyIter it d (i+1) es.size ep→bF it s.heap h'→Q (some e.key) { s with heap:=h' }):wpAny (model prog w) A (pyNext (.ref it)) Q E s:=by
 (obtain⟨o,ho,hc,hd⟩:=id hit)
 obtain⟨od,CN,vL,CP⟩:=id hm;have mM:i < es.size:=(dt.mp he).1;have AW:ip "dict_keyiterator" = false:=by decide +kernel
 unfold pyNext; refine ae (dq (bJ (name:=bK "__next__") hit.typeIs dX (bO dX hit.typeIs ie ?_ (hU _))));refine ae (ao (ae (ae (ae (dR hit.typeIs (ao (ae (wpAny_fieldsOf ho hd ?_))))))));simp only [AW,br,if_false]; show wpAny _ _ (if (bd d == dm)=true then _ else _) _ _ s;rw [if_neg (show ¬ ((bd d == dm)=true) from fun z=>aS z)];refine ae (ao (ae (iU CN CP ?_)));rw [if_neg (show ¬ ((((es.size:Nat):Int) != ((es.size:Nat):Int))=true) by simp)];refine ae (ao (ae (jn CN CP ?_)));rw [if_neg #[M]]; refine ao ?_;simp only [show ¬ ((i:Int) < 0) by lia,if_false,bC,he];refine ae (ae (dR hit.typeIs (ao (ae (jL hit.typeIs ?_)))));show wpAny _ _ (setField (.ref it) 1 (rawInt ((i:Int)+1)) >>= _) _ _ s; refine ae (eI ho hd #[M] ?_);have uP:(s.heap.update it (iI (·.setIfInBounds 1 (rawInt ((i:Int)+1))))).IsKeyIter it d (i+1) es.size ep:=⟨_,cZ _ ho (fw (dz hd _)),(iQ ..).trans hc,by rw [dz hd]; simp [rawInt]⟩;refine ae (b7 (ae (jL (s:={ s with heap:=s.heap.update it (iI (·.setIfInBounds 1 (rawInt ((i:Int)+1)))) }) uP.typeIs ?_)));show wpAny _ _ (pure e.key) _ _ _; exact ao (ao ⟨_,rfl,ao (hQ _ uP (dk ..))⟩)
theorem zkg {Q:Option Value→Shared→Prop} (hh:A.handled=none) (hit:s.heap.IsKeyIter it d i es.size ep) (hm:zer s.heap d es ep) (he:es.size≤i) (hQ:∀ h',kT it s.heap h'→Q none { s with heap:=h' }):wpAny (model prog w) A (pyNext (.ref it)) Q E s:=by
 (obtain⟨o,ho,hc,hd⟩:=id hit)
 obtain⟨od,CN,vL,CP⟩:=id hm;have AW:ip "dict_keyiterator" = false:=by decide +kernel
 unfold pyNext; refine ae (dq (bJ (name:=bK "__next__") hit.typeIs dX (bO dX hit.typeIs ie ?_ (hU _))));refine ae (ao (ae (ae (ae (dR hit.typeIs (ao (ae (wpAny_fieldsOf ho hd ?_))))))));simp only [AW,br,if_false]; show wpAny _ _ (if (bd d == dm)=true then _ else _) _ _ s;rw [if_neg (show ¬ ((bd d == dm)=true) from fun z=>aS z)];refine ae (ao (ae (iU CN CP ?_)));rw [if_neg (show ¬ ((((es.size:Nat):Int) != ((es.size:Nat):Int))=true) by simp)];refine ae (ao (ae (jn CN CP ?_)));rw [if_neg #[M]]; refine ao ?_;simp only [show ¬ ((i:Int) < 0) by lia,if_false,bC,Array.getElem?_eq_none he];refine ae (ae (dR hit.typeIs (ao ?_)));show wpAny _ _ (setField (.ref it) 0 .none >>= _) _ _ s; refine ae (eI ho hd #[M] ?_);show wpAny _ _ (newExc (.type "StopIteration") [] >>= _) _ _ _; simp only [newExc,newTuple];refine ae (ae (cL (ae (m:=firstArgMember _ _) (cA (a:=dm) (by first | rfl | (simp only [firstArgMember]; rfl)) (cL ?_ (by size_fits)))) (by size_fits)));simp only [raiseNew]; refine ae (j5 ?_); rw [show A.in1.handled=none from hh];refine ae (ao (kU ?_)); refine ae (fL (T:="StopIteration") (b:=true) ⟨_,aG _ rfl,rfl⟩ ij ?_)
 (exact ao (hQ _ (((dk ..).extBut.push _).push _)))
theorem zlq (hh:A.handled=none) (I d:Addr) (mV:d≠I) (es:Array DictEntry) (ep:Nat) :
  Walks prog w A I [I,d] [I] es.size (fun i v=>∃ e,es[i]? = some e∧v=e.key) (fun i h=>h.IsKeyIter I d i es.size ep∧zer h d es ep) where
 sub:=(fun b hb=>by simp at hb; simp [hb])
 frame:=(fun _ _ _ st hk=>⟨st.1.at fun o e=>hk I #[M] o e,st.2.at' fun o e=>hk d #[M] o e⟩)
 item:=fun i s Q E hi st hQ=>zij st.1 st.2 (getElem?_pos es i hi) fun h' uP nT=>hQ _ h' s.toks ⟨es[i],getElem?_pos es i hi,rfl⟩ ⟨uP,st.2.at' fun o e=>nT.extBut d o mV e⟩ fun b o hb e=>nT.extBut b o (fun h=>hb (by simp [h])) e
 done:=fun s Q E st hQ=>zkg hh st.1 st.2 (ag _) fun h' AD=>hQ h' s.toks fun b o hb e=>AD b o (fun h=>hb (by simp [h])) e
 self:=(fun _ _ _ _ st hQ=>jX st.1 hQ)
theorem zoB (lo:(d == sysModules)=false):PySem.W.KdlSrc prog w "dict" d d es.size (fun i v=>∃ e,es[i]? = some e∧v=e.key) (fun h=>zer h d es ep) where
 type:=fun _ hm=>hm.typeIs
 there:=fun _ hm=>let ⟨_,ho,_⟩:=hm; ⟨aK ho,aK ho⟩
 keep:=(fun _ _ hm hk=>hm.at' fun o e=>hk d (.inl rfl) o e)
 notList:=by decide
 notTuple:=by decide
 hint:=fun _ _ _ _ hm hq=>PySem.W.kdl_hint_dict hm.typeIs hq
 iter:=fun _ _ hh hm=>⟨_,_,(fun _ _ hq=>zii lo hm hq),zlq hh _ d (by obtain⟨_,ho,_⟩:=id hm; exact bz (aK ho)) es ep,⟨⟨_,aG _ rfl,rfl,rfl⟩,hm.at' fun o e=>ai _ e⟩⟩
end
end PySem
end
section
namespace Srt
open PySem PyProof.Rows
section
variable {prog:Program} {w:World} {A:Around} {E:Value→Shared→Prop} {s:Shared} {κ:SortKind} {val:Keyed→Int}
theorem zd9 {vs:List Value} {p:Keyed} (h:p∈(pairsOf vs).toList):p.1∈vs∧p.2=p.1:=by
 rw [jM] at h;obtain⟨i,hi,e⟩:=eZ h;rw [List.getElem_zip] at e;rw [← e];exact⟨fO _,rfl⟩
theorem zqv {vs:List Value} {xs:Array Keyed} (hp:xs.Perm (pairsOf vs)) (hs:SIn val xs 0 (pairsOf vs).size):(xs.map (·.2)).toList.Perm vs∧(xs.map (·.2)).toList.Pairwise fun x y=>val (x,x)≤val (y,y):=by
 (have hl:xs.toList.Perm (vs.zip vs):=by rw [← jM]; exact fT.mp hp)
 have hm:∀ p∈xs.toList,p=(p.2,p.2):=fun p rQ=>by
  have:=zd9 (by rw [jM]; exact hl.mem_iff.mp rQ);exact lX this.2.symm rfl
 constructor
 ·rw [li];refine (hl.map (·.2)).trans ?_;rw [show (vs.zip vs).map (·.2)=vs from List.map_snd_zip (ag _)]
 ·rw [li,cj,cY];intro i j hi hj qM
  (have nH:i < xs.size:=by simpa using hi)
  (have pT:j < xs.size:=by simpa using hj)
  have h1:=hs i j (bm _) #[O] (by rw [← hp.size_eq]; exact pT);rw [zaa (getElem?_pos xs i nH),zaa (getElem?_pos xs j pT)] at h1;have e1:=hm xs.toList[i] (fO _);have e2:=hm xs.toList[j] (fO _);rw [← e1,← e2];simpa using h1
theorem zlr {a:Addr} {vs:List Value} {n:Nat} {P:PySem.Fin→Shared→Prop} (ho:s.heap.get? a=some (seqObj "list" vs.toArray n)) (mB:vs.length≤sizeLine)
  (tX:∀ h',(∀ b o,b≠a→s.heap.get? b=some o→h'.get? b=some o)→2≤vs.length→∀ (Q:SortKind→Shared→Prop) (E:Value→Shared→Prop),Q κ { s with heap:=h' }→wpAny (model prog w) A (keyKind' vs.toArray) Q E { s with heap:=h' })
  (uc:∀ h',(∀ b o,b≠a→s.heap.get? b=some o→h'.get? b=some o)→Cmp prog w A { s with heap:=h' } κ val (pairsOf vs))
  (h:∀ out:Array Value,out.toList.Perm vs→(out.toList.Pairwise fun x y=>val (x,x)≤val (y,y))→P (.done (.ret .none)) { s with heap:=sortedHeap s.heap a vs out }):wpAny (model prog w) A (Builtin.«list.sort» ⟨[.ref a],[]⟩) P E s:=by
 rw [list_sort_plain]
 (have ha:a < s.heap.objs.size:=aK ho)
 have hz:vs.toArray.size=vs.length:=ar;refine ae (listItems_at ho rfl (ae (j8 ho rfl ?_ (hsz:=by rw [hz]; exact mB))))
 (obtain⟨e1,CK⟩:∃ e1,(s.heap.update a (dE fun _=>#[])).get? a=some (seqObj "list" #[] e1):=⟨_,get?_update_seq ho (fun _=>#[])⟩)
 refine ae (kY CK rfl (ae (im (ae (wpAny_newList (b7 ?_))) (hsz:=mB))));have Ee:(((s.heap.update a (dE fun _=>#[])).push (seqObj "tuple" vs.toArray 0)).push (seqObj "list" #[] 0)).get? a=some (seqObj "list" #[] e1):=ai _ (ai _ CK);have hk6:∀ b o,b≠a→s.heap.get? b=some o→(((s.heap.update a (dE fun _=>#[])).push (seqObj "tuple" vs.toArray 0)).push (seqObj "list" #[] 0)).get? b=some o:=fun b o hb e=>ai _ (ai _ ((ki _ _ _ _ hb).trans e))
 (show wpAny (model prog w) A _ P E { s with heap:=((s.heap.update a (dE fun _=>#[])).push (seqObj "tuple" vs.toArray 0)).push (seqObj "list" #[] 0) })
 dsimp only;have hcm:=uc _ hk6;have fin:∀ mj:SortSt,SB κ (pairsOf vs) mj∨(arrOf mj=pairsOf vs∧failedOf mj=none)→SIn val (arrOf mj) 0 (pairsOf vs).size →
   P (.done (.ret .none)) { s with heap:=sortedHeap s.heap a vs ((arrOf mj).map (·.2)) }:=fun mj hB hs=>by
  have hp:(arrOf mj).Perm (pairsOf vs):=by
   rcases hB with hB | hB
   ·exact hB.perm
   ·rw [hB.1]
  obtain⟨b1,b2⟩:=zqv hp hs;exact h _ b1 b2
 (by_cases h2:vs.toArray.size < 2)
 ·rw [if_pos h2,if_pos h2];refine ae (ao ?_); rw [StateT.run_pure]; refine ae (ao ?_);dsimp only;refine ae (kY Ee rfl (ae (j8 Ee rfl ?_ (hsz2:=by rw [lP]; show (pairsOf vs).size≤_; rw [i9]; lia))))
  (simp only [bne_self_eq_false,br,if_false])
  refine ao (fin (lF general' (vs.toArray.zip vs.toArray) #[] 7 none) (.inr ⟨rfl,rfl⟩) fun i j _ qM hj=>?_);have e:i=j:=by rw [i9] at hj; lia
  rw [e];exact bS _
 ·rw [if_neg h2,if_neg h2];refine ae (tX _ hk6 #[O] _ _ ?_);refine ae (da (zqu (a₀:=pairsOf vs) (κ:=κ) (val:=val) (st:=lF κ (vs.toArray.zip vs.toArray) #[] 7 none) (Q:=fun _ mj=>SB κ (pairsOf vs) mj∧SIn val (arrOf mj) 0 (pairsOf vs).size)
   hcm ⟨Array.Perm.refl _,rfl,rfl⟩ rfl (by rw [i9]; lia) fun mj a1 a2=>⟨a1,a2⟩) ?_ fun _ _ e=>e)
  rintro⟨⟨⟩,mj⟩ s' ⟨rfl,hB,hs⟩;dsimp only;refine ae (kY Ee rfl (ae (j8 Ee rfl ?_ (hsz2:=aT (Nat.le_of_eq ((lP ..).trans (hB.perm.size_eq.trans (i9 _)))) #[O]))));rw [hB.failed]
  (simp only [bne_self_eq_false,br,if_false])
  exact ao (fin mj (.inl hB) hs)
theorem zgr {v:Value} {vs:List Value} {Q:Value→Shared→Prop} (mB:vs.length≤sizeLine)
  (F3:∀ R:List Value→Shared→Prop,(∀ (h':Heap) (tk:Nat),(∀ b o,s.heap.get? b=some o→h'.get? b=some o)→R vs { s with heap:=h',toks:=tk })→wpAny (model prog w) A.in1 (collect v) R E s)
  (tX:∀ s',(∀ b o,s.heap.get? b=some o→s'.heap.get? b=some o)→2≤vs.length→∀ (A':Around) (Q:SortKind→Shared→Prop) (E:Value→Shared→Prop),Q κ s'→wpAny (model prog w) A' (keyKind' vs.toArray) Q E s')
  (uc:∀ s' A',(∀ b o,s.heap.get? b=some o→s'.heap.get? b=some o)→Cmp prog w A' s' κ val (pairsOf vs))
  (h:∀ (h':Heap) (tk:Nat) (out:Array Value) (e:Nat) (D:Addr),(∀ b o,s.heap.get? b=some o→h'.get? b=some o)→(∀ b o,s.heap.get? b=some o→b < D)→h'.get? D=some (seqObj "list" out e)→out.toList.Perm vs→(out.toList.Pairwise fun x y=>val (x,x)≤val (y,y))→Q (.ref D) { s with heap:=h',toks:=tk }) :
  wpAny (model prog w) A (call (.builtin "sorted") [v]) Q E s:=by
 refine Calls.call_function_entry kind_sorted plain_sorted entry_sorted (args_sorted1 _) ?_; unfold Builtin.«sorted»;refine ae (m:=checkCount "sorted" 1 1 _) (ao (ae (da (F3 (fun us s'=>us=vs∧∃ (h':Heap) (tk:Nat),s' = { s with heap:=h',toks:=tk }∧∀ b o,s.heap.get? b=some o→h'.get? b=some o) fun h' tk k=>⟨rfl,h',tk,rfl,k⟩) ?_ fun _ _ e=>e)));rintro us s' ⟨rfl,h1,tk,rfl,kk⟩;refine ae (wpAny_newList ?_ (hsz:=mB));have Ce:(h1.push (seqObj "list" us.toArray 0)).get? h1.objs.size=some (seqObj "list" us.toArray 0):=aG _ rfl;have kn:∀ b o,s.heap.get? b=some o→b≠h1.objs.size:=fun b o e=>bz (aK (kk b o e))
 refine ae (b7 (bO slot_list_sort ⟨_,Ce,rfl⟩ entry_list_sort (zlr (κ:=κ) (val:=val) Ce mB (fun h' hk h2 Q E hq=>tX _ (fun b o e=>hk b o (kn b o e) (ai _ (kk b o e))) h2 _ Q E hq) (fun h' hk=>uc _ _ fun b o e=>hk b o (kn b o e) (ai _ (kk b o e))) fun out a1 a2=>⟨_,rfl,?_⟩) (args_list_sort _)));obtain⟨e,he⟩:=sortedHeap_at (out:=out) Ce;refine ao ⟨_,rfl,h _ tk out e h1.objs.size (fun b o x=>?_) (fun b o x=>aK (kk _ _ x)) he a1 a2⟩;rw [sortedHeap_old (kn b o x) (by rw [bZ]; exact fq (aK (kk _ _ x)))];exact ai _ (kk _ _ x)
end
end Srt
end
section
namespace L2
open PySem PySem.Spec PyProof.Rows PySem.Builtin.Str
theorem Inv.above {X:Cx} {l3:List (Addr×Obj)} {σ:St} {H:Hp} {s:Shared} {h':Heap} {tk:Nat} {D:Addr} {o:HO} (I:Inv X l3 σ H s) (k:∀ b o,s.heap.get? b=some o→h'.get? b=some o) (hD:∀ b o,s.heap.get? b=some o→b < D)
  (new:zas X.prog X.w (mh H D o) h' D o):H D=none∧Inv X l3 σ (mh H D o) { s with heap:=h',toks:=tk }:=by
 have hn:H D=none:=by
  cases e:H D with
  | none=>rfl
  | some u =>
   obtain⟨ob,z⟩:=zqn (I.hok D u e);exact absurd (hD D ob z) (cD _)
 have hL:X.env.locals < D:=by
  obtain⟨m,⟨o,es,ep,ho,_⟩,_⟩:=I.loc;exact hD _ _ ho
 have I1:Inv X l3 σ H { s with heap:=h',toks:=tk }:=I.kept k;refine⟨hn,I1.track hn (ge (iD I.ok.above hL)) (bz hL) (fun x c e z=>?_) (fun p hp z=>?_) new⟩
 ·obtain⟨v,oc,q,_⟩:=I.cell x c e;exact absurd (hD c oc q) (by rw [z]; exact cD _)
 ·exact absurd (hD p.1 _ (I.pin p hp).1) (by rw [z]; exact cD _)
end L2
end
section
namespace L2
open PySem PySem.Spec PyProof.Rows Srt
def zmR (xs:List V):List Int:=xs.filterMap fun x=>match x with
 | .int n=>some n
 | _=>none
theorem zls (ns:List Int):zmR (ns.map V.int)=ns:=by
 unfold zmR;rw [List.filterMap_map];induction ns with
 | nil=>rfl
 | cons n ns ih =>
  rw [fU];simp only [Function.comp];rw [ih]
def zdl (H:Hp) (v:Value):List Int:=match v with
 | .ref a=>(match H a with
  | some (.tup xs)=>zmR xs
  | _=>[])
 | _=>[]
theorem zfm {H:Hp} {a:Addr} {ns:List Int} (h:H a=some (.tup (ns.map V.int))):zdl H (.ref a)=ns:=by
 unfold zdl;simp only [h];exact zls ns
def zmS (H:Hp) (k:Nat) (B:Int) (ps:List (Addr×List Int)):Prop:=∀ q∈ps,H q.1=some (.tup (q.2.map V.int))∧q.2.length=k∧∀ n∈q.2,0≤n∧n < B
theorem zgs:∀ {ps:List (Addr×List Int)} {us:List Value},zS (ps.map fun q=>V.ref q.1) us→us=ps.map fun q=>bd q.1
 | [],_,r=>by cases r; rfl
 | q :: ps,_,r=>by
  cases r with
  | cons r1 r2 =>
   cases r1;rw [zgs r2];rfl
theorem zcz:∀ (ps:List (Addr×List Int)),zS (ps.map fun q=>V.ref q.1) (ps.map fun q=>bd q.1)
 | []=>.nil
 | q :: ps=>.cons rfl (zcz ps)
section
variable {X:Cx} {l3:List (Addr×Obj)} {σ:St} {H:Hp} {s:Shared} {k:Nat} {B:Int} {ps:List (Addr×List Int)}
theorem zg4 (I:Inv X l3 σ H s) {q:Addr×List Int} (h:H q.1=some (.tup (q.2.map V.int))):∃ o mf n,s.heap.get? q.1=some o∧o.cls = .type "tuple"∧o.data = .seq mf n∧IntsAre mf.toList q.2:=by
 obtain⟨mf,r,⟨o,ho,hc,n,hd⟩,hz⟩:=I.tuple (mE.of h);exact⟨o,mf.toArray,n,ho,hc,hd,by simpa using intsAre_of r⟩
theorem zmT (I:Inv X l3 σ H s) (hT:zmS H k B ps) (hk:1≤k) {s':Shared} (kk:∀ b o,s.heap.get? b=some o→s'.heap.get? b=some o):∃ fs:List Value,PySem.W.KatTups s'.heap (ps.map fun q=>bd q.1) fs∧fs.length=ps.length∧∀ v∈fs,∃ n t,v=iw n t:=by
 induction ps with
 | nil=>exact⟨[],trivial,rfl,fun v hv=>by cases hv⟩
 | cons q ps ih =>
  obtain⟨fs,h1,h2,h3⟩:=ih fun q' pH=>hT q' (aD _ pH)
  obtain⟨hq,hl,_⟩:=hT q #[M];obtain⟨o,mf,n,ho,hc,hd,hi⟩:=zg4 I hq;have mB:=hi.length;obtain⟨m,ms,e⟩:∃ m ms,q.2=m :: ms:=by
   cases e:q.2 with
   | nil=>rw [e] at hl; simp at hl; lia
   | cons m ms=>exact⟨m,ms,rfl⟩
  rw [e] at hi;cases e2:mf.toList with
  | nil=>rw [e2] at hi; cases hi
  | cons f fr =>
   rw [e2] at hi;cases hi with
   | cons _ t hi =>
    refine⟨.int m t :: fs,lZ (kk _ _ ho) hc hd ?_ h1,by simp [h2],fun v hv=>?_⟩
    ·rw [← bE,e2];rfl
    ·rcases (aF.mp hv) with rfl | hv
     ·exact⟨m,t,rfl⟩
     ·exact h3 v hv
theorem zgt:∀ ms:List Int,zih ms ms=false
 | []=>rfl
 | m :: ms=>by rw [zc5,if_pos rfl,zgt ms]
theorem zmU (I:Inv X l3 σ H s) (hT:zmS H k B ps) (hB:1≤B) {s':Shared} {A':Around} (kk:∀ b o,s.heap.get? b=some o→s'.heap.get? b=some o) :
  Cmp X.prog X.w A' s' (tuples' true) (fun p=>num B (zdl H p.1)) (pairsOf (ps.map fun q=>bd q.1)):=by
 intro x y hx hy Q E hQ;obtain⟨qx,mx,ex⟩:=az.mp (zd9 hx).1;obtain⟨qy,my,ey⟩:=az.mp (zd9 hy).1;obtain⟨xX,xl,hx3⟩:=hT qx mx;obtain⟨hy1,Ef,hy3⟩:=hT qy my;obtain⟨ox,ix,nx,gx,cx,dx,ax⟩:=zg4 I xX;obtain⟨oy,iy,ny,gy,cy,dy,ay⟩:=zg4 I hy1;have ev:decide ((fun p:Keyed=>num B (zdl H p.1)) x < (fun p:Keyed=>num B (zdl H p.1)) y)=zih qx.2 qy.2:=by
  rw [zke hB (xl.trans Ef.symm) hx3 hy3,← zfm xX,← zfm hy1];simp only [ex,ey]
 rw [ev] at hQ;rw [← ex,← ey];refine PySem.W.kat_lt (kk _ _ gx) dx (kk _ _ gy) dy (zkf 0 ax ay (xl.trans Ef.symm) ?_);have hsz:decide (ix.size < iy.size)=false:=by
  have e1:=ax.length;have e2:=ay.length;rw [bh] at e1 e2;exact decide_eq_false #[O]
 rw [hsz];by_cases e:qx.2=qy.2
 ·rw [if_pos e];rw [e,zgt] at hQ;exact hQ
 ·rw [if_neg e];exact hQ
theorem zik (hT:zmS H k B ps) {out:Array Value} (hp:out.toList.Perm (ps.map fun q=>bd q.1)) (hs:out.toList.Pairwise fun x y=>num B (zdl H x)≤num B (zdl H y)) :
  ∃ pj:List (Addr×List Int),pj.Perm ps∧(pj.Pairwise fun a b=>num B a.2≤num B b.2)∧out.toList=pj.map fun q=>bd q.1:=by
 let g:Value→Addr×List Int:=fun v=>match v with
  | .ref a=>(a,zdl H (.ref a))
  | _=>(0,[])
 have hg:∀ q∈ps,g (.ref q.1)=q:=fun q hq=>lX rfl (zfm (hT q hq).1)
 have hv:∀ v∈out.toList,∃ q∈ps,v = .ref q.1:=fun v hv=>by
  obtain⟨q,hq,e⟩:=az.mp (hp.mem_iff.mp hv);exact⟨q,hq,e.symm⟩
 refine⟨out.toList.map g,?_,?_,?_⟩
 ·refine (hp.map g).trans ?_;rw [bH];have:ps.map (g ∘ fun q=>bd q.1)=ps:=by
   conv=>rhs; rw [← ir ps]
   exact cr fun q hq=>hg q hq
  rw [this]
 ·rw [cj];refine gi (fun {x y} hx hy h=>?_) hs;obtain⟨q,hq,rfl⟩:=hv x hx;obtain⟨q',pH,rfl⟩:=hv y hy;exact h
 ·rw [bH]
  conv=>lhs; rw [← ir out.toList]
  refine cr fun v BU=>?_
  obtain⟨q,hq,rfl⟩:=hv v BU;rfl
end
theorem zgu {M:Model} {h:Heap} {n:Int} {t:Tok}:PySem.W.Looks M h (typeOf (.int n t)) (.type "int"):=PySem.W.Looks.of_pure rfl
theorem zoC {X:Cx} {l3:List (Addr×Obj)} {σ:St} {H:Hp} {s:Shared} {d:Addr} {mo:List (List Key×V)} {n8:List (List Int)} (I:Inv X l3 σ H s) (hd:H d=some (.dT mo)) (hk:mo.map (·.1)=n8.map (·.map dh)) :
  (d == sysModules)=false∧mo.length≤sizeLine∧∃ (ps:List (Addr×List Int)) (es:Array DictEntry) (ep:Nat),zer s.heap d es ep∧es.toList.map (·.key)=(ps.map fun q=>bd q.1)∧ps.map (·.2)=n8∧∀ q∈ps,H q.1=some (.tup (q.2.map V.int)):=by
 obtain⟨hz,hs,xs,hp,o,es,ep,ho,hx,he,xa,oX⟩:=I.hok d _ hd;refine⟨hs,hz,?_⟩;have key:∀ {mo:List (List Key×V)} {xs:List (List Key×Addr×Value)} {n8:List (List Int)},Paired (fun (p:List Key×V) (q:List Key×Addr×Value)=>p.1=q.1∧H q.2.1=some (.tup (p.1.map kV))∧RelV p.2 q.2.2) mo xs→mo.map (·.1)=n8.map (·.map dh) →
   ∃ ps:List (Addr×List Int),xs.map (fun x=>bd x.2.1)=(ps.map fun q=>bd q.1)∧ps.map (·.2)=n8∧∀ q∈ps,H q.1=some (.tup (q.2.map V.int)):=by
  intro mo xs n8 hp;induction hp generalizing n8 with
  | nil =>
   intro e;cases n8 with
   | nil=>exact⟨[],rfl,rfl,fun q hq=>by cases hq⟩
   | cons m n8=>simp at e
  | @cons x y l1 l2 h1 h2 ih =>
   intro e;cases n8 with
   | nil=>simp at e
   | cons m n8 =>
    rw [bg,bg] at e;obtain⟨e1,e2⟩:=j7 e;obtain⟨ps,a1,a2,a3⟩:=ih e2;obtain⟨_,h12,_⟩:=h1;refine⟨(y.2.1,m) :: ps,by rw [bg,bg,a1],by rw [bg,a2],fun q hq=>?_⟩;rcases (aF.mp hq) with rfl | hq
    ·rw [h12,e1,bH];rfl
    ·exact a3 q hq
 obtain⟨ps,a1,a2,a3⟩:=key hp hk;refine⟨ps,es,ep,⟨o,ho,hx,he⟩,?_,a2,a3⟩;rw [xa,bH,← a1];rfl
theorem zg5 {X:Cx} (hc:X.calm=true):zbn X (.builtin "sorted") (fun xs H Q=>∃ (d:Addr) (k:Nat) (B:Int) (mo:List (List Key×V)) (n8:List (List Int)),xs = [.ref d]∧H d=some (.dT mo)∧mo.map (·.1)=n8.map (·.map dh)∧(∀ ms∈n8,ms.length=k∧∀ n∈ms,0≤n∧n < B)∧1≤k∧1≤B ∧
  ∀ (l:Addr) (pj:List (Addr×List Int)),H l=none→(pj.map (·.2)).Perm n8→(pj.Pairwise fun a b=>num B a.2≤num B b.2)→(∀ q∈pj,H q.1=some (.tup (q.2.map V.int)))→Q (.ref l) (mh H l (.lst (pj.map fun q=>V.ref q.1)))):=by
 intro l3 s σ H xs us Q I r h;obtain⟨d,k,B,mo,n8,rfl,hd,AY,uW,hk,hB,q⟩:=h;obtain⟨u,rfl,rx⟩:=vals1 r;cases rx;obtain⟨hs,hz,ps,es,ep,xp,hek,mS,hH⟩:=zoC I hd AY;have hT:zmS H k B ps:=fun q' pH=>⟨hH q' pH,uW q'.2 (by rw [← mS]; exact fW pH)⟩
 have hlp:ps.length=mo.length:=by
  have e1:=congrArg fk mS;have e2:=congrArg fk AY;rw [ab] at e1;rw [ab,ab] at e2;lia
 have xa:es.size=ps.length:=by
  have:=congrArg fk hek;rw [ab,ab,bh] at this;exact this
 refine zgr (vs:=ps.map fun q=>bd q.1) (κ:=tuples' true) (val:=fun p=>num B (zdl H p.1)) (by rw [ab]; lia) (fun R hR=>?_) (fun s' kk h2 A' Q' E' pH=>?_) (fun s' A' kk=>zmU I hT hB kk) fun h' tk out e D kk hD AZ hp hs=>?_
 ·refine PySem.W.kdu_collect (zoB (es:=es) (ep:=ep) hs) (by simp [I.ok.hd hc]) xp #[O] fun h' tk acc kk xf=>?_
  have:acc.toList=ps.map fun q=>bd q.1:=by
   rw [← hek];refine cU fun j=>?_
   by_cases hj:j < es.size
   ·have hja:j < acc.size:=by rw [xf.1]; exact hj
    obtain⟨e',h1,h2⟩:=xf.2 j acc[j] (getElem?_pos acc j hja);rw [bE,getElem?_pos acc j hja,af,bE,h1,h2];rfl
   ·rw [bV (by rw [bh,xf.1]; lia),bV (by rw [ab,bh]; lia)]
  rw [this];exact hR h' tk kk
 ·obtain⟨fs,k1,k2,k3⟩:=zmT I hT hk kk;exact lj (T:=.type "int") k1 (by rw [ab] at h2; lia) (fun v hv=>by obtain⟨n,t,rfl⟩:=k3 v hv; exact zgu) rfl pH
 ·obtain⟨pj,p1,p2,p3⟩:=zik hT hp hs;have hl:=p1.length_eq;obtain⟨hn,I2⟩:=I.above (tk:=tk) (D:=D) (o:=.lst (pj.map fun q=>V.ref q.1)) kk hD ⟨by rw [ab]; lia,pj.map fun q=>bd q.1,e,zcz pj,by rw [← p3]; exact AZ⟩;exact⟨.ref D,_,I2,rfl,q D pj hn (by rw [← mS]; exact p1.map _) p2 fun q' pH=>(hT q' (p1.mem_iff.mp pH)).1⟩
theorem zg6 {X:Cx}:zbn X (.builtin "sorted") (fun xs H Q=>∃ (p:Addr) (k:Nat) (B:Int) (ps:List (Addr×List Int)),xs = [.ref p]∧me X.K H p (ps.map fun q=>V.ref q.1)∧zmS H k B ps∧1≤k∧1≤B ∧
  ∀ (l:Addr) (pj:List (Addr×List Int)),H l=none→pj.Perm ps→(pj.Pairwise fun a b=>num B a.2≤num B b.2)→Q (.ref l) (mh H l (.lst (pj.map fun q=>V.ref q.1)))):=by
 intro l3 s σ H xs us Q I r h;obtain⟨p,k,B,ps,rfl,hq,hT,hk,hB,q⟩:=h;obtain⟨u,rfl,rx⟩:=vals1 r;cases rx;obtain⟨mf,rv,pl,hz⟩:=I.list hq;have ev:=zgs rv;subst ev;rw [ab] at hz;refine zgr (vs:=ps.map fun q=>bd q.1) (κ:=tuples' true) (val:=fun p=>num B (zdl H p.1)) (by rw [ab]; exact hz) (fun R hR=>?_) (fun s' kk h2 A' Q' E' pH=>?_) (fun s' A' kk=>zmU I hT hB kk) fun h' tk out e D kk hD AZ hp hs=>?_
 ·exact collect_list pl.isList (hR _ _ fun b o e=>(ki _ _ _ _ (bz (aK e))).trans (ai _ e)) (by rw [ab]; exact hz)
 ·obtain⟨fs,k1,k2,k3⟩:=zmT I hT hk kk;exact lj (T:=.type "int") k1 (by rw [ab] at h2; lia) (fun v hv=>by obtain⟨n,t,rfl⟩:=k3 v hv; exact zgu) rfl pH
 ·obtain⟨pj,p1,p2,p3⟩:=zik hT hp hs;have hl:=p1.length_eq;obtain⟨hn,I2⟩:=I.above (tk:=tk) (D:=D) (o:=.lst (pj.map fun q=>V.ref q.1)) kk hD ⟨by rw [ab]; lia,pj.map fun q=>bd q.1,e,zcz pj,by rw [← p3]; exact AZ⟩;exact⟨.ref D,_,I2,rfl,q D pj hn p1 p2⟩
end L2
end
section
namespace L2
open PySem PySem.Spec PyProof.Rows
section
variable {X:Cx} {elt t1 i1 t2 i2:Expr} {f1 f2:List Expr} {scope:Scope} {pos:Pos} {N':List Str} {ix:List (Option Nat)} {BV yo:List Nat} {g1 g2:TG} {Eg BW:TT} {te:TE} {Eh BX:TI}
theorem zmV (hc:X.calm=true) (CQ:GS yo g2) (CS:∀ s₃ H₃ ex l3,PI (zM X N' scope s₃ H₃ ex l3) t2 i2 BX)
  (yj:∀ s₃ H₃ ex l3,PG (zM X N' scope s₃ H₃ ex l3) t2 g2) (CT:∀ s₃ H₃ ex l3,zdA (zM X N' scope s₃ H₃ ex l3) f2 BW) (he:∀ s₃ H₃ ex l3,PE (zM X N' scope s₃ H₃ ex l3) elt te)
  (oU:∀ s₃ H₃ ex l3 x,foldedSetIterable i2 (zM X N' scope s₃ H₃ ex l3).env x=pure x) :
  ∀ s₃ H₃ ex l3 D,PM (zM X N' scope s₃ H₃ ex l3) D yo ((fun D env=>zjT (.ListComp elt [⟨t1,i1,f1,0⟩,⟨t2,i2,f2,0⟩] scope pos) i2 1 (.ref D) env) D (zM X N' scope s₃ H₃ ex l3).env) (zjV BX g2 BW (zjU te)):=by
 intro s₃ H₃ ex l3 D;have h:=zqa (Y:=zM X N' scope s₃ H₃ ex l3) (D:=D) (js:=yo) (js':=[]) (elt:=elt) (gens:=[⟨t1,i1,f1,0⟩,⟨t2,i2,f2,0⟩]) (scope:=scope) (pos:=pos) (d:=1) (p:=i2.pos) hc rfl CQ (fun _ _ z=>by cases z) (CS s₃ H₃ ex l3) (yj s₃ H₃ ex l3) (CT s₃ H₃ ex l3) (zjc rfl (he s₃ H₃ ex l3)) rfl (fun it=>zqb it D _) (oU s₃ H₃ ex l3);rw [bI] at h;exact h
theorem zkh (SC:CompSc X N' ix scope) (hc:X.calm=true) (F4:GS BV g1) (CQ:GS yo g2) (pV:∀ j∈BV,j∉yo) (uO:∀ j∈BV++yo,ix[j]? = some none) (F5:PI X t1 i1 Eh)
  (y9:∀ s₃ H₃ ex l3,PG (zM X N' scope s₃ H₃ ex l3) t1 g1) (F6:∀ s₃ H₃ ex l3,zdA (zM X N' scope s₃ H₃ ex l3) f1 Eg) (CS:∀ s₃ H₃ ex l3,PI (zM X N' scope s₃ H₃ ex l3) t2 i2 BX)
  (yj:∀ s₃ H₃ ex l3,PG (zM X N' scope s₃ H₃ ex l3) t2 g2) (CT:∀ s₃ H₃ ex l3,zdA (zM X N' scope s₃ H₃ ex l3) f2 BW) (he:∀ s₃ H₃ ex l3,PE (zM X N' scope s₃ H₃ ex l3) elt te)
  (hs:∀ x,foldedSetIterable i1 X.env x=pure x:=by intro _; rfl) (oU:∀ s₃ H₃ ex l3 x,foldedSetIterable i2 (zM X N' scope s₃ H₃ ex l3).env x=pure x:=by intros; rfl) :
  PE X (.ListComp elt [⟨t1,i1,f1,0⟩,⟨t2,i2,f2,0⟩] scope pos) (zgP ix Eh g1 Eg (zjV BX g2 BW (zjU te))) :=
 zhP SC hc F4 pV uO F5 y9 F6 (zmV hc CQ CS yj CT he oU) (fun it D env=>zmg it D env) hs
theorem zfn {i:Nat} {x:Str} {pos' qL:Pos} (hN:X.N.Nodup) (yd:X.N[i]? = some x) (hx:Loc X.env.scope x) (SC:CompSc X N' ix scope) (hc:X.calm=true) (F4:GS BV g1) (CQ:GS yo g2) (pV:∀ j∈BV,j∉yo) (uO:∀ j∈BV++yo,ix[j]? = some none) (F5:PI X t1 i1 Eh)
  (y9:∀ s₃ H₃ ex l3,PG (zM X N' scope s₃ H₃ ex l3) t1 g1) (F6:∀ s₃ H₃ ex l3,zdA (zM X N' scope s₃ H₃ ex l3) f1 Eg) (CS:∀ s₃ H₃ ex l3,PI (zM X N' scope s₃ H₃ ex l3) t2 i2 BX)
  (yj:∀ s₃ H₃ ex l3,PG (zM X N' scope s₃ H₃ ex l3) t2 g2) (CT:∀ s₃ H₃ ex l3,zdA (zM X N' scope s₃ H₃ ex l3) f2 BW) (he:∀ s₃ H₃ ex l3,PE (zM X N' scope s₃ H₃ ex l3) elt te)
  (Ct:swapsWith (.ListComp elt [⟨t1,i1,f1,0⟩,⟨t2,i2,f2,0⟩] scope pos) (some (.Name x pos')) qL.line X.env=pure true:=by rfl)
  (hs:∀ x,foldedSetIterable i1 X.env x=pure x:=by intro _; rfl) (oU:∀ s₃ H₃ ex l3 x,foldedSetIterable i2 (zM X N' scope s₃ H₃ ex l3).env x=pure x:=by intros; rfl) (hf:X.fn x=true∨X.env.scope.names.lookup x=some .local:=by first | exact .inl rfl | exact .inr rfl | assumption) :
  PS X (.Assign [.Name x pos'] (.ListComp elt [⟨t1,i1,f1,0⟩,⟨t2,i2,f2,0⟩] scope pos) qL) (zi3 (zgP ix Eh g1 Eg (zjV BX g2 BW (zjU te))) (zaZ i)) :=
 zei hN yd hx SC hc F4 pV uO F5 y9 F6 (zmV hc CQ CS yj CT he oU) (fun it D env=>zmg it D env) Ct hs hf
end
theorem zek {J:It} {n:Nat} {g:TG} {ts:TT} {tm:TM} {σ0:St} {Q:List V→Hp→Prop} {ys:List V} {H:Hp} (Pv:Nat→List V→Hp→Prop) (h0:Pv 0 ys H) (Aw:∀ i ys H,i < n→Pv i ys H→J.go i H) (nS:∀ ys H,Pv n ys H→J.stop n H)
  (hs:∀ i x ys H H',i < n→Pv i ys H→J.yld i H x H'→g x σ0 H' fun σ2 H2=>ts σ2 H2 fun b H3=>if b=true then tm ys σ2 H3 (Pv (i+1)) else Pv (i+1) ys H3)
  (hd:∀ ys H,Pv n ys H→Q ys H):cIn g ts tm σ0 J Q ys H:=by
 refine⟨fun i m ys H=>m=n - i∧i≤n∧Pv i ys H,⟨n,#[M],bm _,h0⟩,?_⟩;rintro i m ys H ⟨rfl,hi,p⟩;by_cases mM:i < n
 ·exact .inr ⟨Aw i ys H mM p,Pv (i+1),fun tY H' p'=>⟨n - (i+1),#[O],rfl,mM,p'⟩,fun x H' y=>hs i x ys H H' mM p y⟩
 ·have e:i=n:=by lia
  subst e;exact .inl ⟨nS ys H p,hd ys H p⟩
def zqw (sc:Scope) (x:Str):Bool:=match sc.names.lookup x with
 | some .local=>true
 | some .cell=>true
 | some .free=>true
 | _=>false
theorem zoD {sc:Scope} {x:Str} (h:zqw sc x=true):Vis sc x:=by
 unfold zqw at h;unfold Vis;cases e:sc.names.lookup x with
 | none=>rw [e] at h; cases h
 | some k=>cases k <;> simp_all
def pvB (N:List Str) (sc:Scope) (i:Nat) (x:Str):Bool:=decide (N[i]? = some x) && zqw sc x && !(x == ("__debug__" : Str)) && !(x == ("__classdict__" : Str))
theorem pvx {X:Cx} (i:Nat) {x:Str} {pos:Pos} (h:pvB X.N X.env.scope i x=true):PE X (.Name x pos) (zq0 i):=by
 unfold pvB at h;simp only [fJ,Bool.not_eq_true',decide_eq_true_eq] at h;exact zpV h.1.1.1 (zoD h.1.1.2) h.1.2 h.2
end L2
end
section
namespace My
open PySem L2 PyProof.Rows
def nxt {α:Type} (xs:List α) (c:Nat×List α):List (Nat×List α):=(av (xs.length - c.1)).map fun j=>(c.1+j+1,c.2++xs[c.1+j]?.toList)
def chs {α:Type} (xs:List α):Nat→List (Nat×List α)
 | 0=>[(0,[])]
 | m+1=>(chs xs m).flatMap (nxt xs)
theorem zg7 {α:Type} (xs:List α) (c:Nat×List α):(nxt xs c).length=xs.length - c.1:=by unfold nxt; rw [ab,aL]
theorem zoE {α:Type} {xs:List α} {c:Nat×List α} {j:Nat} {x:α} (h:xs[c.1+j]? = some x):(nxt xs c)[j]? = some (c.1+j+1,c.2++[x]):=by
 have hj:j < xs.length - c.1:=by
  have:=(au.mp h).1;lia
 unfold nxt;rw [af,bi hj];simp [h]
theorem zki:∀ r:Nat,((av r).map fun j=>2 ^ (r - j - 1)).sum+1=2 ^ r
 | 0=>rfl
 | r+1=>by
  rw [gI,bg,dQ,bH];have e:((av r).map ((fun j=>2 ^ (r+1 - j - 1)) ∘ lW))=(av r).map fun j=>2 ^ (r - j - 1):=cr fun j _=>by
   show 2 ^ (r+1 - (j+1) - 1)=2 ^ (r - j - 1);congr 1;lia
  rw [e];have:=zki r;rw [kE];show 2 ^ (r+1 - 0 - 1)+_+1=_;rw [show r+1 - 0 - 1=r from by lia];lia
def pot {α:Type} (n:Nat) (cs:List (Nat×List α)):Nat:=(cs.map fun c=>2 ^ (n - c.1)).sum
theorem zoF {α:Type} (xs:List α) (c:Nat×List α):pot xs.length (nxt xs c)≤2 ^ (xs.length - c.1):=by
 unfold pot nxt;rw [bH];have e:((av (xs.length - c.1)).map ((fun c:Nat×List α=>2 ^ (xs.length - c.1)) ∘ fun j=>(c.1+j+1,c.2++xs[c.1+j]?.toList)))=(av (xs.length - c.1)).map fun j=>2 ^ (xs.length - c.1 - j - 1):=cr fun j _=>by
  show 2 ^ (xs.length - (c.1+j+1))=_;congr 1;lia
 rw [e];have:=zki (xs.length - c.1);lia
theorem zil {α:Type} (xs:List α):∀ cs:List (Nat×List α),pot xs.length (cs.flatMap (nxt xs))≤pot xs.length cs
 | []=>ag _
 | c :: cs=>by
  have h1:=zoF xs c;have h2:=zil xs cs;rw [dP];unfold pot at h1 h2 ⊢;rw [am,lG,bg,dQ];lia
theorem zkj {α:Type} (n:Nat):∀ cs:List (Nat×List α),cs.length≤pot n cs
 | []=>ag _
 | c :: cs=>by
  have h:=zkj n cs;have:0 < 2 ^ (n - c.1):=Nat.pos_of_ne_zero #[M];unfold pot at h ⊢;rw [bg,dQ,bT];lia
theorem zkk {α:Type} (xs:List α):∀ m,pot xs.length (chs xs m)≤2 ^ xs.length
 | 0=>by
  unfold chs pot;simp
 | m+1=>aT (zil xs (chs xs m)) (zkk xs m)
theorem zoG {α:Type} (xs:List α) (m:Nat):(chs xs m).length≤2 ^ xs.length:=aT (zkj _ _) (zkk xs m)
theorem zea {α:Type} {xs:List α} (m:Nat) (h:xs.length≤16):(chs xs m).length≤65536:=aT (zoG xs m) (aT (jY #[D] h) #[D])
theorem zlu {α β:Type} {f:α→List β} {l:List α} {i j:Nat} {c:α} (hc:l[i]? = some c) (hj:j < (f c).length):((l.take i).flatMap f).length+j < (l.flatMap f).length:=by
 have e:l.flatMap f=(l.take i).flatMap f++(f c++(l.drop (i+1)).flatMap f):=by
  conv=>lhs; rw [zfd hc]
  rw [cJ,dP]
 rw [e,aq,aq];lia
theorem zlv {α β:Type} {f:α→List β} {l:List α} {i:Nat} {c:α} (hc:l[i]? = some c):(l.take (i+1)).flatMap f=(l.take i).flatMap f++f c:=by
 rw [take_snoc hc,cJ,dP,gN,bI]
theorem zqx {α:Type} {xs:List α}:∀ {m:Nat} {c:Nat×List α},c∈chs xs m→c.1≤xs.length
 | 0,c,h=>by
  unfold chs at h;rw [aW] at h;subst h;exact bm _
 | m+1,c,h=>by
  unfold chs at h;obtain⟨c',_,hc⟩:=cR.mp h;unfold nxt at hc;obtain⟨j,hj,rfl⟩:=az.mp hc;have:=aZ.mp hj;show c'.1+j+1≤xs.length;lia
theorem zim {α:Type} {xs:List α}:∀ {m:Nat} {c:Nat×List α},c∈chs xs m→c.2.length≤m
 | 0,c,h=>by
  unfold chs at h;rw [aW] at h;subst h;exact ag _
 | m+1,c,h=>by
  unfold chs at h;obtain⟨c',hm,hc⟩:=cR.mp h;have:=zim hm;unfold nxt at hc;obtain⟨j,hj,rfl⟩:=az.mp hc;show (c'.2++xs[c'.1+j]?.toList).length≤m+1;rw [aq];have:xs[c'.1+j]?.toList.length≤1:=by cases xs[c'.1+j]? <;> simp
  lia
theorem Paired.get {α β:Type} {F:α→β→Prop}:∀ {l₁:List α} {l₂:List β},Paired F l₁ l₂→∀ {i:Nat} {a:α},l₁[i]? = some a→∃ b,l₂[i]? = some b∧F a b
 | _,_,.nil,i,a,h=>by simp at h
 | _,_,.cons r t,0,a,h=>by
  (simp only [gw,iV] at h)
  subst h;exact⟨_,rfl,r⟩
 | _,_,.cons r t,i+1,a,h=>by
  rw [cQ] at h;obtain⟨b,hb,f⟩:=Paired.get t h;exact⟨b,by rw [cQ]; exact hb,f⟩
def zoH (H:Hp) (t:Addr) (c:Nat×List V):Prop:=∃ L,H t=some (.tup [.int (c.1:Int),.ref L])∧H L=some (.lst c.2)
theorem zoH.same {H H':Hp} (s:zu H H') {t:Addr} {c:Nat×List V} (h:zoH H t c):zoH H' t c:=let ⟨L,h1,h2⟩:=h; ⟨L,s _ _ h1,s _ _ h2⟩
def zfo (H:Hp):List Addr→List (Nat×List V)→Prop:=Paired (zoH H)
theorem zfo.same {H H':Hp} (s:zu H H') {ts:List Addr} {cs:List (Nat×List V)} (h:zfo H ts cs):zfo H' ts cs:=dB (fun _ _ z=>z.same s) h
def zin (H:Hp):List Addr→List (List V)→Prop:=Paired fun l pk=>H l=some (.lst pk)
theorem zin.same {H H':Hp} (s:zu H H') {ts:List Addr} {cs:List (List V)} (h:zin H ts cs):zin H' ts cs:=dB (fun _ _ z=>s _ _ z) h
def zjo (K:ah):Sp:=fun vs H Q _=>∃ (a:Addr) (m:Nat) (xs:List V),vs = [.ref a,.int (m:Int)]∧me K H a xs∧xs.length≤16∧m≤1000 ∧
 ∀ (l:Addr) (ls:List Addr) (H':Hp),H l=none→zu H H'→H' l=some (.lst (ls.map V.ref))→zin H' ls ((chs xs m).map (·.2))→Q (.ref l) H'
def quo (p r:Int):List Int→List Int
 | []=>[]
 | [_]=>[]
 | _ :: d :: cs=>zt p r (d :: cs) :: quo p r (d :: cs)
theorem zkl (p r:Int):∀ (c:Int) (cs:List Int),(quo p r (c :: cs)).length=cs.length
 | _,[]=>rfl
 | _,d :: cs=>by
  show (quo p r (d :: cs)).length+1=cs.length+1;rw [zkl p r d cs]
theorem zmW {p r x:Int}:∀ d:List Int,Cg p (zt p x d - zt p r d) ((x - r)*zt p x (quo p r d))
 | []=>Cg.of_eq (by show (0:Int) - 0=(x - r)*0; lia)
 | [c]=>by
  have h1:Cg p (zt p x [c]) (c+x*0):=zag p x c [];have h2:Cg p (zt p r [c]) (c+r*0):=zag p r c [];refine (h1.sub h2).trans (Cg.of_eq ?_);show c+x*0 - (c+r*0)=(x - r)*0;lia
 | c :: d :: cs=>by
  have h1:=zag p x c (d :: cs);have h2:=zag p r c (d :: cs);have ih:=zmW (p:=p) (r:=r) (x:=x) (d :: cs);have h3:Cg p (zt p x (quo p r (c :: d :: cs))) (zt p r (d :: cs)+x*zt p x (quo p r (d :: cs))):=zag p x _ _;have h4:=(Cg.refl p (x - r)).mul h3;have h5:=(Cg.refl p x).mul ih;refine (h1.sub h2).trans (Cg.symm (h4.trans ?_));refine (Cg.of_eq (show _=(x - r)*zt p r (d :: cs)+x*((x - r)*zt p x (quo p r (d :: cs))) by grind)).trans ?_;refine ((Cg.refl p ((x - r)*zt p r (d :: cs))).add h5.symm).trans (Cg.of_eq (by grind))
theorem zio {p r:Int}:∀ d:List Int,Cg p (zt p r d) 0→(∀ c∈quo p r d,Cg p c 0)→∀ c∈d,Cg p c 0
 | [],_,_,c,hc=>by cases hc
 | [a],h,_,c,hc=>by
  obtain rfl:c=a:=by simpa using hc
  have h1:Cg p (zt p r [c]) (c+r*0):=zag p r c [];exact ((Cg.of_eq #[O]).trans h1.symm).trans h
 | a :: d :: cs,h,hq,c,hc=>by
  have h0:Cg p (zt p r (d :: cs)) 0:=hq _ aN;rcases (aF.mp hc) with rfl | hc
  ·have h1:=zag p r c (d :: cs);have h2:=(Cg.refl p r).mul h0;have h3:=(h1.symm.trans h).sub h2;exact (Cg.of_eq #[O]).trans (h3.trans (Cg.of_eq #[O]))
  ·exact zio (d :: cs) h0 (fun c hc=>hq c (aD _ hc)) c hc
theorem zgv {p a y:Int} (hp:p∈zr) (ha0:a % p≠0) (h:Cg p (a*y) 0):Cg p y 0:=by
 have rp:=zw hp;have g0:=aQ a (show p≠0 by lia);have g1:=aH a (show 0 < p by lia);have hi:=zd4 hp (h:=a % p) #[O] g1;have h1:Cg p (inv p (a % p)*(a % p)*y) (1*y):=hi.mul (Cg.refl p y);have h2:Cg p (inv p (a % p)*(a % p)*y) (inv p (a % p)*(a*y)):=by
  have:=((Cg.refl p (inv p (a % p))).mul (Cg.emod p a)).mul (Cg.refl p y);exact this.trans (Cg.of_eq (by grind))
 have h3:=(Cg.refl p (inv p (a % p))).mul h;exact (Cg.of_eq #[O]).trans (h1.symm.trans (h2.trans (h3.trans (Cg.of_eq #[O]))))
theorem zdt {p:Int} (hp:p∈zr):∀ (n:Nat) (d xs:List Int),d.length=n→n≤xs.length→xs.Nodup→(∀ x∈xs,0≤x∧x < p)→(∀ x∈xs,Cg p (zt p x d) 0)→∀ c∈d,Cg p c 0
 | 0,d,xs,hd,_,_,_,_,c,hc=>by
  rw [gz] at hd;subst hd;cases hc
 | n+1,d,[],hd,hx,_,_,_,c,hc=>by simp at hx
 | n+1,[],r :: xs,hd,hx,_,_,_,c,hc=>by cases hc
 | n+1,a :: cs,r :: xs,hd,hx,oX,uW,hz,c,hc=>by
  have rp:=zw hp;obtain⟨r0,r1⟩:=uW r aN;have hr:=hz r aN;refine zio (a :: cs) hr (zdt hp n (quo p r (a :: cs)) xs (by rw [zkl]; simpa using hd) (by simpa using hx) (et.mp oX).2 (fun x h=>uW x (aD _ h)) fun x h=>?_) c hc;obtain⟨x0,x1⟩:=uW x (aD _ h);have mV:x≠r:=fun e=>(et.mp oX).1 (e ▸ h)
  have he:=zmW (p:=p) (r:=r) (x:=x) (a :: cs);have h0:=(hz x (aD _ h)).sub hr;refine zgv hp (a:=x - r) (fun e=>?_) (he.symm.trans (h0.trans (Cg.of_eq #[O])));have:Cg p x r:=by
   have h1:Cg p (x - r) 0:=Cg.of_mod (by rw [e]; simp);have h2:=h1.add (Cg.refl p r);exact (Cg.of_eq #[O]).trans (h2.trans (Cg.of_eq #[O]))
  exact mV (this.eq x0 x1 r0 r1)
theorem ziq {p x:Int}:∀ {a b:List Int},a.length=b.length→Cg p (zt p x (bu (· - ·) a b)) (zt p x a - zt p x b)
 | [],[],_=>Cg.of_eq rfl
 | c :: a,d :: b,h=>by
  have ih:=ziq (p:=p) (x:=x) (a:=a) (b:=b) (by simpa using h);have h1:=zag p x c a;have h2:=zag p x d b;have h3:Cg p (zt p x (bu (· - ·) (c :: a) (d :: b))) (c - d+x*zt p x (bu (· - ·) a b)):=zag p x (c - d) _;refine h3.trans (((Cg.refl p (c - d)).add ((Cg.refl p x).mul ih)).trans (Cg.symm ((h1.sub h2).trans (Cg.of_eq (by grind)))))
 | [],_ :: _,h=>by simp at h
 | _ :: _,[],h=>by simp at h
theorem zir {p:Int}:∀ {a b:List Int},a.length=b.length→(∀ c∈a,0≤c∧c < p)→(∀ c∈b,0≤c∧c < p)→(∀ c∈bu (· - ·) a b,Cg p c 0)→a=b
 | [],[],_,_,_,_=>rfl
 | c :: a,d :: b,h,ha,hb,hz=>by
  obtain⟨c0,c1⟩:=ha c aN;obtain⟨d0,d1⟩:=hb d aN;have h1:Cg p (c - d) 0:=hz _ aN;have h2:Cg p c d:=(Cg.of_eq #[O]).trans ((h1.add (Cg.refl p d)).trans (Cg.of_eq #[O]));rw [h2.eq c0 c1 d0 d1,zir (by simpa using h) (fun c hc=>ha c (aD _ hc)) (fun c hc=>hb c (aD _ hc)) (fun c hc=>hz c (aD _ hc))]
 | [],_ :: _,h,_,_,_=>by simp at h
 | _ :: _,[],h,_,_,_=>by simp at h
theorem zis {p:Int} (hp:p∈zr) {a b xs:List Int} (hl:a.length=b.length) (hx:a.length≤xs.length) (oX:xs.Nodup) (uW:∀ x∈xs,0≤x∧x < p) (ha:∀ c∈a,0≤c∧c < p) (hb:∀ c∈b,0≤c∧c < p)
  (he:∀ x∈xs,zt p x a=zt p x b):a=b:=by
 refine zir hl ha hb (zdt hp a.length _ xs (by rw [fV]; lia) hx oX uW fun x h=>?_);refine (ziq hl).trans (Cg.of_eq ?_);rw [he x h];lia
theorem zqy {p:Int} (hp:p∈zr) {pk:List (Int×Int)} (hP:Pts p pk) {q:List Int} (hl:q.length=pk.length) (hq:∀ c∈q,0≤c∧c < p) (hh:∀ a∈pk,zt p a.1 q=a.2):q=thr p pk:=by
 obtain⟨h1,h2,h3⟩:=zmp hp hP;refine zis hp (xs:=pk.map (·.1)) #[O] (by rw [ab]; lia) hP.nd (fun x hx=>?_) hq h2 fun x hx=>?_
 ·obtain⟨a,ha,rfl⟩:=az.mp hx;exact⟨(hP.rg a ha).1,(hP.rg a ha).2.1⟩
 ·obtain⟨a,ha,rfl⟩:=az.mp hx;rw [hh a ha,h3 a ha]
theorem Pts.sub {p:Int} {pk mi:List (Int×Int)} (h:Pts p mi) (hs:pk.Sublist mi):Pts p pk:=⟨(hs.map _).nodup h.nd,fun q hq=>h.rg q (hs.subset hq)⟩
theorem zkm {α:Type} {xs:List α}:∀ {m:Nat} {c:Nat×List α},c∈chs xs m→c.2.Sublist (xs.take c.1)∧c.2.length=m∧c.1≤xs.length
 | 0,c,h=>by
  unfold chs at h;rw [aW] at h;subst h;exact⟨ja _,rfl,bm _⟩
 | m+1,c,h=>by
  unfold chs at h;obtain⟨c',hm,hc⟩:=cR.mp h;obtain⟨h1,h2,h3⟩:=zkm hm;unfold nxt at hc;obtain⟨j,hj,rfl⟩:=az.mp hc
  (have pT:=aZ.mp hj)
  have mM:c'.1+j < xs.length:=by lia
  have e:xs[c'.1+j]? = some xs[c'.1+j]:=aj mM;dsimp only;rw [e];refine⟨?_,by rw [aq,h2]; rfl,#[O]⟩;rw [take_snoc e];refine List.Sublist.append (h1.trans ?_) (List.Sublist.refl _);have:xs.take c'.1=(xs.take (c'.1+j)).take c'.1:=by rw [lO]; congr 1; lia
  rw [this];exact cK _ _
theorem sub_one {α:Type} {l:List α} {x:α} (h:l.Sublist [x]):l = []∨l = [x]:=by
 cases h with
 | cons _ h=>exact .inl (jb.mp h)
 | cons_cons _ h=>exact .inr (by rw [jb.mp h])
theorem zeM {α:Type} {xs:List α}:∀ {m n:Nat} {pk:List α},pk.Sublist (xs.take n)→pk.length=m→∃ s,s≤n∧(s,pk)∈chs xs m
 | 0,n,pk,h,hl=>by
  rw [gz] at hl;subst hl;exact⟨0,bm _,by unfold chs; exact aW.mpr rfl⟩
 | m+1,0,pk,h,hl=>by
  rw [dW] at h;rw [jb.mp h] at hl;simp at hl
 | m+1,n+1,pk,h,hl=>by
  cases e:xs[n]? with
  | none =>
   have:xs.take (n+1)=xs.take n:=by
    have:=cm.mp e;rw [aJ #[O],aJ this]
   rw [this] at h;obtain⟨s,h1,h2⟩:=zeM (m:=m+1) (n:=n) h hl;exact⟨s,#[O],h2⟩
  | some x =>
   rw [take_snoc e] at h;obtain⟨l1,l2,rfl,h1,h2⟩:=List.sublist_append_iff.mp h;rcases (sub_one h2) with rfl | rfl
   ·rw [bI] at hl ⊢;obtain⟨s,a1,a2⟩:=zeM (m:=m+1) (n:=n) h1 hl;exact⟨s,#[O],a2⟩
   ·obtain⟨s,a1,a2⟩:=zeM (m:=m) (n:=n) h1 (by simpa using hl);refine⟨n+1,ag _,?_⟩;unfold chs;refine cR.mpr ⟨(s,l1),a2,?_⟩;have mM:=(au.mp e).1;unfold nxt;refine az.mpr ⟨n - s,aZ.mpr (by show n - s < xs.length - s; lia),?_⟩;have es:s+(n - s)=n:=by lia
    dsimp only;rw [es,e];rfl
theorem zg8 {α:Type} {xs pk:List α} {m:Nat}:pk∈(chs xs m).map (·.2)↔pk.Sublist xs∧pk.length=m:=by
 constructor
 ·intro h;obtain⟨c,hc,rfl⟩:=az.mp h;obtain⟨h1,h2,h3⟩:=zkm hc;exact⟨h1.trans (cK _ _),h2⟩
 ·rintro⟨h1,h2⟩;obtain⟨s,_,hs⟩:=zeM (xs:=xs) (n:=xs.length) (by rw [ci]; exact h1) h2;exact az.mpr ⟨_,hs,rfl⟩
def hit (p:Int) (q:List Int) (a:Int×Int):Bool:=decide (zt p a.1 q=a.2)
def hits (p:Int) (q:List Int) (mi:List (Int×Int)):Nat:=(mi.filter (hit p q)).length
def IsP (p:Int) (k:Nat) (q:List Int):Prop:=q.length=k∧∀ c∈q,0≤c∧c < p
theorem zjp {p:Int} (hp:p∈zr) {mi:List (Int×Int)} (hP:Pts p mi) {q:List Int} {k t n:Nat} (hq:IsP p k q) (hk:k≤t) (hn:mi.length≤n+(t - k)) (ht:t≤hits p q mi) :
  ∃ pk,pk∈(chs (mi.take n) k).map (·.2)∧q=thr p pk:=by
 have F7:hits p q mi=((mi.take n).filter (hit p q)).length+((mi.drop n).filter (hit p q)).length:=by
  unfold hits
  conv=>lhs; rw [← cw n mi]
  rw [cn,aq]
 have hd:=cg (hit p q) (mi.drop n);rw [dv] at hd;have vN:k≤((mi.take n).filter (hit p q)).length:=by lia
 have hs:(((mi.take n).filter (hit p q)).take k).Sublist (mi.take n):=(cK _ _).trans (fX);have hl:(((mi.take n).filter (hit p q)).take k).length=k:=by rw [aI]; lia
 refine⟨_,zg8.mpr ⟨hs,hl⟩,zqy hp (hP.sub (hs.trans (cK _ _))) (by rw [hl]; exact hq.1) hq.2 fun a ha=>?_⟩;have:=(bv.mp ((cK _ _).subset ha)).2;simpa [hit] using this
theorem zkn {p:Int} (hp:p∈zr) {mi pk:List (Int×Int)} (hP:Pts p mi) {k:Nat} (h:pk∈(chs mi k).map (·.2)):IsP p k (thr p pk):=by
 obtain⟨h1,h2⟩:=zg8.mp h;obtain⟨a,b,_⟩:=zmp hp (hP.sub h1);exact⟨a.trans h2,b⟩
def mS:List Int→List (Option Int)→List (Int×Int)
 | x :: pl,some y :: rw=>(x,y) :: mS pl rw
 | _ :: pl,none :: rw=>mS pl rw
 | _,_=>[]
theorem zfp:∀ {pl:List Int} {rw:List (Option Int)} {i:Nat} {x:Int} {o:Option Int},pl[i]? = some x→rw[i]? = some o→mS (pl.take (i+1)) (rw.take (i+1))=mS (pl.take i) (rw.take i)++(match o with | some y=>[(x,y)] | none=>[])
 | [],_,i,x,o,h,_=>by simp at h
 | _ :: _,[],i,x,o,_,h=>by simp at h
 | a :: pl,b :: rw,0,x,o,h1,h2=>by
  simp only [gw,iV] at h1 h2;subst h1 h2;cases b <;> rfl
 | a :: pl,b :: rw,i+1,x,o,h1,h2=>by
  rw [cQ] at h1 h2;have ih:=zfp h1 h2;cases b with
  | none=>exact ih
  | some y =>
   show (a,y) :: mS (pl.take (i+1)) (rw.take (i+1))=(a,y) :: mS (pl.take i) (rw.take i)++_;rw [ih];rfl
theorem zc6:∀ (pl:List Int) (rw:List (Option Int)),(mS pl rw).length≤pl.length
 | [],rw=>by unfold mS; simp
 | a :: pl,[]=>by unfold mS; simp
 | a :: pl,none :: rw=>by
  have:=zc6 pl rw;show (mS pl rw).length≤pl.length+1;lia
 | a :: pl,some y :: rw=>by
  have:=zc6 pl rw;show (mS pl rw).length+1≤pl.length+1;lia
theorem zc7:∀ {pl:List Int} {rw:List (Option Int)} {a:Int×Int},a∈mS pl rw→a.1∈pl∧some a.2∈rw
 | [],_,a,h=>by unfold mS at h; cases h
 | _ :: _,[],a,h=>by unfold mS at h; cases h
 | x :: pl,none :: rw,a,h=>by
  obtain⟨h1,h2⟩:=zc7 (pl:=pl) (rw:=rw) h;exact⟨aD _ h1,aD _ h2⟩
 | x :: pl,some y :: rw,a,h=>by
  rcases (aF.mp h) with rfl | h
  ·exact⟨aN,aN⟩
  ·obtain⟨h1,h2⟩:=zc7 (pl:=pl) (rw:=rw) h;exact⟨aD _ h1,aD _ h2⟩
theorem zg9:∀ (pl:List Int) (rw:List (Option Int)),((mS pl rw).map (·.1)).Sublist pl
 | [],_=>by unfold mS; exact ja _
 | _ :: _,[]=>by unfold mS; exact ja _
 | x :: pl,none :: rw=>(zg9 pl rw).cons _
 | x :: pl,some y :: rw=>(zg9 pl rw).cons_cons _
theorem zha {p:Int} {pl:List Int} {rw:List (Option Int)} (h1:pl.Nodup) (h2:∀ x∈pl,0≤x∧x < p) (h3:∀ z,some z∈rw→0≤z∧z < p):Pts p (mS pl rw) :=
 ⟨(zg9 pl rw).nodup h1,fun q hq=>⟨(h2 _ (zc7 hq).1).1,(h2 _ (zc7 hq).1).2,(h3 _ (zc7 hq).2).1,(h3 _ (zc7 hq).2).2⟩⟩
theorem zit {p:Int} {pl:List Int} {rw:List (Option Int)} {q:List Int} (hl:rw.length=pl.length):∀ n,n≤pl.length→(zdF p pl rw q n).length=hits p q (mS (pl.take n) (rw.take n))
 | 0,_=>by simp [zdF,hits,mS]
 | n+1,hn=>by
  have ih:=zit (p:=p) (q:=q) hl n #[O];have e1:pl[n]? = some pl[n]:=aj #[O];have e2:rw[n]? = some rw[n]:=aj #[O];rw [zgp,aq,ih,zfp e1 e2];unfold hits;rw [cn,aq];congr 1;unfold zcI;rw [e1,e2];cases rw[n] with
  | none=>rfl
  | some y =>
   show (if decide (y=zt p pl[n] q)=true then [(n:Int)] else []).length=([(pl[n],y)].filter (hit p q)).length;by_cases e:y=zt p pl[n] q
   ·rw [db (by simp [hit,e])];simp [e]
   ·rw [de (by simp [hit]; exact fun z=>e z.symm)];simp [e]
theorem zko {p:Int} {pl:List Int} {rw:List (Option Int)} {q:List Int} (hl:rw.length=pl.length):(zdF p pl rw q pl.length).length=hits p q (mS pl rw):=by
 have:=zit (p:=p) (q:=q) hl pl.length (ag _);rw [ci,aJ #[O]] at this;exact this
def zes (p:Int) (k:Nat) (qs:List (List Int)):Prop:=(∀ q∈qs,IsP p k q)∧qs.Pairwise fun a b=>Srt.num p a < Srt.num p b
theorem zkp {B:Int} (hB:1≤B):∀ {a b:List Int},a.length=b.length→(∀ n∈a,0≤n∧n < B)→(∀ n∈b,0≤n∧n < B)→Srt.num B a=Srt.num B b→a=b
 | [],[],_,_,_,_=>rfl
 | c :: a,d :: b,h,ha,hb,e=>by
  have h':a.length=b.length:=by simpa using h
  have ra:=Srt.num_rng hB (ns:=a) fun n hn=>ha n (aD _ hn)
  have rb:=Srt.num_rng hB (ns:=b) fun n hn=>hb n (aD _ hn)
  have e':c*B ^ a.length+Srt.num B a=d*B ^ b.length+Srt.num B b:=e;rw [← h'] at e' rb;generalize B ^ a.length=M at e' ra rb;have hM:0 < M:=by lia
  have vL:c=d:=by
   have e2:(c - d)*M=Srt.num B b - Srt.num B a:=by
    rw [Int.sub_mul];lia
   rcases (kP c d) with mM | heq | hgt
   ·have:(c - d)*M≤(-1)*M:=dM #[O] #[O];lia
   ·exact heq
   ·have:1*M≤(c - d)*M:=dM #[O] #[O];lia
  subst vL;rw [zkp hB h' (fun n hn=>ha n (aD _ hn)) (fun n hn=>hb n (aD _ hn)) #[O]]
 | [],_ :: _,h,_,_,_=>by simp at h
 | _ :: _,[],h,_,_,_=>by simp at h
theorem zkq {p:Int} (hp:1≤p) {k:Nat} {qs:List (List Int)} (h1:∀ q∈qs,IsP p k q) (h2:qs.Nodup) (h3:qs.Pairwise fun a b=>Srt.num p a≤Srt.num p b):zes p k qs:=by
 refine⟨h1,?_⟩;have h4:=h3.and h2;refine gi (fun {a b} ha hb h=>?_) h4;have mV:Srt.num p a≠Srt.num p b:=fun e=>h.2 (zkp hp ((h1 a ha).1.trans (h1 b hb).1.symm) (h1 a ha).2 (h1 b hb).2 e)
 have:=h.1;lia
theorem zes.tail {p:Int} {k:Nat} {q:List Int} {qs:List (List Int)} (h:zes p k (q :: qs)):zes p k qs:=⟨fun x hx=>h.1 x (aD _ hx),(iE.mp h.2).2⟩
theorem zkr {p:Int} {k:Nat}:∀ {as bs:List (List Int)},zes p k as→zes p k bs→(∀ q,q∈as↔q∈bs)→as=bs
 | [],[],_,_,_=>rfl
 | [],b :: bs,_,_,h=>by
  have:=(h b).mpr aN;cases this
 | a :: as,[],_,_,h=>by
  have:=(h a).mp aN;cases this
 | a :: as,b :: bs,ha,hb,h=>by
  have pa:=(iE.mp ha.2).1;have pb:=(iE.mp hb.2).1;have e:a=b:=by
   rcases (aF.mp ((h a).mp aN)) with e | ma
   ·exact e
   ·rcases (aF.mp ((h b).mpr aN)) with e | mb
    ·exact e.symm
    ·have:=pb a ma;have:=pa b mb;lia
  subst e;rw [zkr ha.tail hb.tail fun q=>?_];have hq:=h q;rw [aF,aF] at hq;constructor
  ·intro m;rcases (hq.mp (.inr m)) with rfl | z
   ·exact absurd (pa q m) #[O]
   ·exact z
  ·intro m;rcases (hq.mpr (.inr m)) with rfl | z
   ·exact absurd (pb q m) #[O]
   ·exact z
theorem zes.filter {p:Int} {k:Nat} {qs:List (List Int)} (f:List Int→Bool) (h:zes p k qs):zes p k (qs.filter f):=⟨fun q hq=>h.1 q (bv.mp hq).1,h.2.filter f⟩
def sm:Nat→(Nat→Int)→Int
 | 0,_=>0
 | n+1,f=>sm n f+f n
theorem zax {f g:Nat→Int}:∀ {n:Nat},(∀ i,i < n→f i=g i)→sm n f=sm n g
 | 0,_=>rfl
 | n+1,h=>by
  show sm n f+f n=sm n g+g n;rw [zax (n:=n) fun i hi=>h i #[O],h n #[O]]
theorem zmX {p:Int} {f g:Nat→Int}:∀ {n:Nat},(∀ i,i < n→Cg p (f i) (g i))→Cg p (sm n f) (sm n g)
 | 0,_=>Cg.refl _ _
 | n+1,h=>(zmX (n:=n) fun i hi=>h i #[O]).add (h n #[O])
theorem zjq {f g:Nat→Int}:∀ n:Nat,sm n (fun i=>f i+g i)=sm n f+sm n g
 | 0=>rfl
 | n+1=>by
  show sm n (fun i=>f i+g i)+(f n+g n)=sm n f+f n+(sm n g+g n);rw [zjq n];lia
theorem zdu {c:Int} {f:Nat→Int}:∀ n:Nat,sm n (fun i=>c*f i)=c*sm n f
 | 0=>by show (0:Int)=c*0; lia
 | n+1=>by
  show sm n (fun i=>c*f i)+c*f n=c*(sm n f+f n);rw [zdu n,kZ]
theorem zcA {f:Nat→Int}:∀ {n:Nat},(∀ i,i < n→f i=0)→sm n f=0
 | 0,_=>rfl
 | n+1,h=>by
  show sm n f+f n=0;rw [zcA (n:=n) fun i hi=>h i #[O],h n #[O]];rfl
theorem zmY {f:Nat→Int} {j:Nat}:∀ {n:Nat},j < n→(∀ i,i < n→i≠j→f i=0)→sm n f=f j
 | 0,hj,_=>by lia
 | n+1,hj,h=>by
  show sm n f+f n=f j;by_cases e:j=n
  ·subst e;rw [zcA fun i hi=>h i #[O] #[O]];lia
  ·rw [zmY (n:=n) #[O] fun i hi mV=>h i #[O] mV,h n #[O] #[O]];lia
theorem zbv {f:Nat→Int}:∀ n:Nat,sm (n+1) f=f 0+sm n (fun i=>f (i+1))
 | 0=>by show (0:Int)+f 0=f 0+0; lia
 | n+1=>by
  show sm (n+1) f+f (n+1)=f 0+(sm n (fun i=>f (i+1))+f (n+1));rw [zbv n];lia
theorem zeN {f:Nat→Int} {m:Nat}:∀ {n:Nat},m≤n→(∀ i,m≤i→i < n→f i=0)→sm n f=sm m f
 | 0,h,_=>by rw [show m=0 by lia]
 | n+1,h,hz=>by
  by_cases e:m=n+1
  ·rw [e]
  ·show sm n f+f n=_;rw [zeN (n:=n) #[O] fun i h1 h2=>hz i h1 #[O],hz n #[O] #[O]];lia
def gl (w:List Int) (y:Nat):Int:=w.getD y 0
theorem zbo {w:List Int} {y:Nat} {c:Int} (h:w[y]? = some c):gl w y=c:=by
 unfold gl;rw [aO,h];rfl
theorem zbS {w:List Int} {y:Nat} (h:w.length≤y):gl w y=0:=by
 unfold gl;rw [aO,bV h];rfl
theorem za7 {w:List Int} {y:Nat} (h:y < w.length):w[y]? = some (gl w y):=by
 rw [aj h,zbo (aj h)]
theorem zjr {w:List Int} {p:Int} (hp:0 < p) (h:∀ c∈w,0≤c∧c < p) (y:Nat):0≤gl w y∧gl w y < p:=by
 by_cases hy:y < w.length
 ·exact h _ (aA (za7 hy))
 ·rw [zbS #[O]];lia
theorem zqz {f:Int→Int} {w:List Int} {y:Nat} (h:y < w.length):gl (w.map f) y=f (gl w y):=zbo (by rw [af,za7 h]; rfl)
theorem zmZ {f:Int→Int→Int} {v w:List Int} {y:Nat} (h:y < v.length) (h':y < w.length):gl (bu f v w) y=f (gl v y) (gl w y):=zbo (by rw [jG,za7 h,za7 h'])
theorem zm0 {v w:List Int} (hl:v.length=w.length) (h:∀ y,y < v.length→gl v y=gl w y):v=w:=by
 refine cU fun y=>?_
 by_cases hy:y < v.length
 ·rw [za7 hy,za7 #[O],h y hy]
 ·rw [bV #[O],bV #[O]]
theorem zkt {p x:Int}:∀ q:List Int,Cg p (zt p x q) (sm q.length fun i=>gl q i*x ^ i)
 | []=>Cg.refl _ _
 | c :: q=>by
  refine (zag p x c q).trans ?_;rw [bT,zbv];have e:sm q.length (fun i=>gl (c :: q) (i+1)*x ^ (i+1))=x*sm q.length (fun i=>gl q i*x ^ i):=by
   rw [← zdu];refine zax fun i _=>?_
   show gl q i*x ^ (i+1)=_;rw [fE];grind
  rw [e];refine Cg.add (Cg.of_eq ?_) ((Cg.refl p x).mul (zkt q));show c=c*x ^ 0;rw [Int.pow_zero,kS]
theorem ziu {p x:Int} {q:List Int} {n:Nat} (h:q.length≤n):Cg p (zt p x q) (sm n fun i=>gl q i*x ^ i):=by
 rw [zeN h fun i h1 _=>by rw [zbS h1,cP]];exact zkt q
def vx (vs:List (List Int)) (i x:Nat):Int:=gl (vs.getD i []) x
def Rel (p:Int) (L N:Nat) (vs:List (List Int)) (u:Nat→Int):Prop:=∀ x,x < L→Cg p (u x) (sm N fun i=>u (L+i)*vx vs i x)
theorem Rel.sub {p:Int} {L N:Nat} {vs:List (List Int)} {u w r:Nat→Int} (hu:Rel p L N vs u) (hw:Rel p L N vs w) (t:Int) (hr:∀ y,y < L+N→Cg p (r y) (u y - t*w y)):Rel p L N vs r:=fun x hx=>by
 refine (hr x #[O]).trans (((hu x hx).sub ((Cg.refl p t).mul (hw x hx))).trans ?_);have e:sm N (fun i=>u (L+i)*vx vs i x) - t*sm N (fun i=>w (L+i)*vx vs i x)=sm N (fun i=>(u (L+i) - t*w (L+i))*vx vs i x):=by
  rw [show ∀ a b:Int,a - t*b=a+(-t)*b by intros; grind,← zdu,← zjq];exact zax fun i _=>by grind
 rw [e];exact zmX fun i hi=>(hr (L+i) #[O]).symm.mul (Cg.refl _ _)
structure Ech (p:Int) (L N m:Nat) (vs:List (List Int)) (cl:List (Nat×List Int)):Prop where
 ln:cl.length=m
 one:∀ (j:Nat) (a:Nat×List Int),cl[j]? = some a→a.1 < L∧a.2.length=L+N∧(∀ c∈a.2,0≤c∧c < p)∧Rel p L N vs (gl a.2)∧gl a.2 a.1=1∧∀ i,j < i→i < N→gl a.2 (L+i)=0
 up:∀ (j j':Nat) (a a':Nat×List Int),cl[j]? = some a→cl[j']? = some a'→j < j'→gl a'.2 a.1=0
 ii:∀ u:Nat→Int,Rel p L N vs u→(∀ i,m≤i→i < N→Cg p (u (L+i)) 0)→(∀ a∈cl,Cg p (u a.1) 0)→∀ i,i < N→Cg p (u (L+i)) 0
theorem Ech.start (p:Int) (L N:Nat) (vs:List (List Int)):Ech p L N 0 vs [] where
 ln:=rfl
 one:=fun _ _ h=>by simp at h
 up:=fun _ _ _ _ h=>by simp at h
 ii:=fun u _ h _ i hi=>h i (bm _) hi
structure Wh (p:Int) (L N m:Nat) (vs:List (List Int)) (cl:List (Nat×List Int)) (w:List Int):Prop where
 ln:w.length=L+N
 rg:∀ c∈w,0≤c∧c < p
 rel:Rel p L N vs (gl w)
 top:gl w (L+m)=1
 up:∀ j,m < j→j < N→gl w (L+j)=0
 z:∀ a∈cl,gl w a.1=0
theorem ziv {p:Int} (hp:p∈zr) {L N m:Nat} {vs:List (List Int)} {v:List Int} (hm:m < N) (hv:vs[m]? = some v) (hl:v.length=L) (hr:∀ c∈v,0≤c∧c < p):Wh p L N m vs [] ((v++ap N 0).set (L+m) 1):=by
 have rp:=zw hp;have A9:∀ y,y < L→gl ((v++ap N 0).set (L+m) 1) y=gl v y:=fun y hy=>zbo (by
  rw [dC #[O],bj #[O],za7 #[O]])
 have pM:gl ((v++ap N 0).set (L+m) 1) (L+m)=1:=zbo (by
  rw [fj (by rw [aq,aU]; lia)])
 have hz:∀ j,j < N→j≠m→gl ((v++ap N 0).set (L+m) 1) (L+j)=0:=fun j hj mV=>zbo (by
  rw [dC #[O],bN #[O],cC];rw [if_pos #[O]])
 refine⟨by rw [f9,aq,aU,hl],fun c hc=>?_,fun x hx=>?_,pM,fun j h1 h2=>hz j h2 #[O],fun a ha=>by cases ha⟩
 ·rcases ga hc with h | rfl
  ·rcases (aY.mp h) with h | h
   ·exact hr c h
   ·rw [eQ h]; lia
  ·lia
 ·rw [A9 x hx,zmY (j:=m) hm fun i hi mV=>by rw [hz i hi mV,cP],pM,kX];unfold vx;rw [aO,hv];exact Cg.refl _ _
theorem zku {p:Int} (hp:p∈zr) {L N m i:Nat} {vs:List (List Int)} {cl:List (Nat×List Int)} {w:List Int} {a:Nat×List Int} (E:Ech p L N m vs cl) (hm:m < N) (ha:cl[i]? = some a) (W:Wh p L N m vs (cl.take i) w) :
  Wh p L N m vs (cl.take (i+1)) (bu (fun x y=>(x - gl w a.1*y) % p) w a.2):=by
 have rp:=zw hp;obtain⟨a1,a2,a3,a4,a5,a6⟩:=E.one i a ha;have CU:i < m:=by rw [← E.ln]; exact (au.mp ha).1
 have hg:∀ y,y < L+N→gl (bu (fun x y=>(x - gl w a.1*y) % p) w a.2) y=(gl w y - gl w a.1*gl a.2 y) % p:=fun y hy=>zmZ (by rw [W.ln]; exact hy) #[O]
 refine⟨by rw [fV,W.ln,a2,Nat.min_self],fun c hc=>?_,W.rel.sub a4 (gl w a.1) fun y hy=>by rw [hg y hy]; exact Cg.emod _ _,?_,fun j h1 h2=>?_,fun b hb=>?_⟩
 ·obtain⟨x,y,rfl⟩:=ze8 hc;exact⟨aQ _ #[O],aH _ #[O]⟩
 ·rw [hg _ #[O],W.top,a6 m CU hm,dG,kF];exact cM #[O] #[O]
 ·rw [hg _ #[O],W.up j h1 h2,a6 j #[O] h2,dG];rfl
 ·rw [take_snoc ha] at hb;rcases (aY.mp hb) with hb | hb
  ·obtain⟨j,hj⟩:=dN hb;have yp:j < i:=by
    have:=(au.mp hj).1;rw [aI] at this;lia
   have pT:cl[j]? = some b:=by rw [b9 yp] at hj; exact hj
   have sR:=(E.one j b pT).1;rw [hg _ #[O],W.z b hb,E.up j i b a pT ha yp,dG];rfl
  ·obtain rfl:b=a:=by simpa using hb
   rw [hg _ #[O],a5,kS,Int.sub_self];rfl
theorem ziw {p:Int} (hp:p∈zr) {L N m:Nat} {vs:List (List Int)} {cl:List (Nat×List Int)} {w:List Int} {ld:Nat} (E:Ech p L N m vs cl) (hm:m < N) (W:Wh p L N m vs cl w) (Ei:ld < L) (h0:gl w ld≠0) :
  Ech p L N (m+1) vs (cl++[(ld,w.map fun x=>x*inv p (gl w ld) % p)]):=by
 have rp:=zw hp;obtain⟨g0,g1⟩:=zjr (show 0 < p by lia) W.rg ld;have hi:=zd4 hp (h:=gl w ld) #[O] g1;have hg:∀ y,y < L+N→gl (w.map fun x=>x*inv p (gl w ld) % p) y=gl w y*inv p (gl w ld) % p:=fun y hy=>zqz (f:=fun x=>x*inv p (gl w ld) % p) (by rw [W.ln]; exact hy)
 have nJ:∀ j a,(cl++[(ld,w.map fun x=>x*inv p (gl w ld) % p)])[j]? = some a→(j < m∧cl[j]? = some a)∨(j=m∧a=(ld,w.map fun x=>x*inv p (gl w ld) % p)):=fun j a h=>by
  by_cases hj:j < m
  ·rw [bj (by rw [E.ln]; exact hj)] at h;exact .inl ⟨hj,h⟩
  ·rw [bN (by rw [E.ln]; lia),E.ln] at h;have rS:j - m=0:=by
    have:=(au.mp h).1;simp at this;lia
   rw [rS] at h;exact .inr ⟨#[O],(by simpa using h.symm)⟩
 refine⟨by rw [aq,E.ln]; rfl,fun j a h=>?_,fun j j' a a' h h' mM=>?_,fun u hu hup hz i nH=>?_⟩
 ·rcases nJ j a h with ⟨_,h⟩ | ⟨rfl,rfl⟩
  ·exact E.one j a h
  ·refine⟨Ei,by rw [ab,W.ln],fun c hc=>?_,?_,?_,fun i h1 h2=>?_⟩
   ·obtain⟨x,_,rfl⟩:=az.mp hc;exact⟨aQ _ #[O],aH _ #[O]⟩
   ·refine Rel.sub (u:=fun _=>0) (fun x _=>Cg.of_eq (zcA fun i _=>cP _).symm) W.rel (-inv p (gl w ld)) fun y hy=>?_
    rw [hg y hy];exact (Cg.emod _ _).trans (Cg.of_eq (by grind))
   ·rw [hg ld #[O]];have h2:Cg p (gl w ld*inv p (gl w ld)) 1:=(Cg.of_eq (i8 _ _)).trans hi;rw [h2.mod_eq];exact cM #[O] #[O]
   ·rw [hg _ #[O],W.up i h1 h2,cP];rfl
 ·rcases nJ j' a' h' with ⟨pT,h'⟩ | ⟨rfl,rfl⟩
  ·rcases nJ j a h with ⟨_,h⟩ | ⟨rfl,_⟩
   ·exact E.up j j' a a' h h' mM
   ·lia
  ·rcases nJ j a h with ⟨_,h⟩ | ⟨rfl,_⟩
   ·have:=(E.one j a h).1;rw [hg _ #[O],W.z a (aA h),cP];rfl
   ·lia
 ·have hru:Rel p L N vs (fun y=>u y - u (L+m)*gl w y):=hu.sub W.rel (u (L+m)) fun y _=>Cg.refl _ _
  have pU:=E.ii (fun y=>u y - u (L+m)*gl w y) hru (fun i h1 h2=>by
   by_cases e:i=m
   ·subst e;show Cg p (u (L+i) - u (L+i)*gl w (L+i)) 0;rw [W.top];exact Cg.of_eq #[O]
   ·show Cg p (u (L+i) - u (L+m)*gl w (L+i)) 0;rw [W.up i #[O] h2,dG,kF];exact hup i #[O] h2) (fun a ha=>by
   show Cg p (u a.1 - u (L+m)*gl w a.1) 0;rw [W.z a ha,dG,kF];exact hz a (ba _ ha))
  have CV:Cg p (u ld - u (L+m)*gl w ld) 0:=(hru ld Ei).trans ((zmX (g:=fun _=>0) fun i hi=>((pU i hi).mul (Cg.refl _ _)).trans (Cg.of_eq (cP _))).trans (Cg.of_eq (zcA fun _ _=>rfl)));have rN:=hz (ld,_) (aP _ (aW.mpr rfl));have hc:Cg p (gl w ld*u (L+m)) 0:=by
   have:=rN.sub CV;exact (Cg.of_eq (by show gl w ld*u (L+m)=u ld - (u ld - u (L+m)*gl w ld); grind)).trans (this.trans (Cg.of_eq #[O]))
  have Ej:Cg p (u (L+m)) 0:=zgv hp (by rw [cM g0 g1]; exact h0) hc;have:=pU i nH;have h3:=this.add (Ej.mul (Cg.refl p (gl w (L+i))));exact (Cg.of_eq (by show u (L+i)=u (L+i) - u (L+m)*gl w (L+i)+u (L+m)*gl w (L+i); lia)).trans (h3.trans (Cg.of_eq #[O]))
def Indep (p:Int) (L:Nat) (vs:List (List Int)):Prop:=∀ u:Nat→Int,(∀ x,x < L→Cg p (sm vs.length fun i=>u i*vx vs i x) 0)→∀ i,i < vs.length→Cg p (u i) 0
def Dep (p:Int) (L:Nat) (vs:List (List Int)) (c:List Int):Prop:=∀ x,x < L→Cg p (sm vs.length fun i=>gl c i*vx vs i x) 0
theorem zm1 {p:Int} {L:Nat} {vs:List (List Int)} {cl:List (Nat×List Int)} (E:Ech p L vs.length vs.length vs cl):Indep p L vs:=fun u hu i hi=>by
 have h:=E.ii (fun y=>if y < L then sm vs.length (fun i=>u i*vx vs i y) else u (y - L)) (fun x hx=>?_) (fun i h1 h2=>by lia) (fun a ha=>?_) i hi
 ·rw [if_neg #[O],df] at h;exact h
 ·dsimp only;rw [if_pos hx];refine Cg.of_eq (zax fun i _=>?_);rw [if_neg #[O],df]
 ·obtain⟨j,hj⟩:=dN ha;have:=(E.one j a hj).1;rw [if_pos this];exact hu _ this
theorem zm2 {p:Int} {L m:Nat} {vs:List (List Int)} {cl:List (Nat×List Int)} {w:List Int} (W:Wh p L vs.length m vs cl w) (hm:m < vs.length) (hz:∀ x,x < L→gl w x=0) :
  IsP p (m+1) ((w.drop L).take (m+1))∧gl ((w.drop L).take (m+1)) m=1∧Dep p L vs ((w.drop L).take (m+1)):=by
 have hg:∀ i,i≤m→gl ((w.drop L).take (m+1)) i=gl w (L+i):=fun i hi=>zbo (by
  rw [b9 #[O],ff];exact za7 (by rw [W.ln]; lia))
 have hl:((w.drop L).take (m+1)).length=m+1:=by
  rw [aI,dv,W.ln];lia
 refine⟨⟨hl,fun c hc=>W.rg c (jW (jZ hc))⟩,by rw [hg m (ag _)]; exact W.top,fun x hx=>?_⟩;have h:=W.rel x hx;rw [hz x hx] at h;refine Cg.trans (Cg.of_eq (zax fun i hi=>?_)) h.symm;by_cases e:i≤m
 ·rw [hg i e]
 ·rw [W.up i #[O] hi,zbS #[O]]
theorem zoI {α β:Type} (f:α→β) (xs:List α) (c:Nat×List α):nxt (xs.map f) (c.1,c.2.map f)=(nxt xs c).map fun d=>(d.1,d.2.map f):=by
 unfold nxt;rw [bH,ab];refine cr fun j _=>?_
 show (c.1+j+1,c.2.map f++(xs.map f)[c.1+j]?.toList)=(c.1+j+1,(c.2++xs[c.1+j]?.toList).map f);rw [af,am];cases xs[c.1+j]? <;> rfl
theorem zkv {α β:Type} (f:α→β) (xs:List α):∀ m,chs (xs.map f) m=(chs xs m).map fun d=>(d.1,d.2.map f)
 | 0=>rfl
 | m+1=>by
  show (chs (xs.map f) m).flatMap (nxt (xs.map f))=((chs xs m).flatMap (nxt xs)).map _;rw [zkv f xs m,lq,List.flatMap_map];congr 1;funext c;exact zoI f xs c
theorem zgw {α β:Type} (f:α→β) (xs:List α) (m:Nat):(chs (xs.map f) m).map (·.2)=((chs xs m).map (·.2)).map (·.map f):=by
 rw [zkv,bH,bH];rfl
def PtB (H:Hp):List Addr→List (Int×Int)→Prop:=Paired fun b q=>H b=some (.tup [.int q.1,.int q.2])
theorem PtB.same {H H':Hp} (s:zu H H') {bs:List Addr} {mi:List (Int×Int)} (h:PtB H bs mi):PtB H' bs mi:=dB (fun _ _ z=>s _ _ z) h
theorem PtB.zs {H:Hp}:∀ {bs:List Addr} {mi:List (Int×Int)},PtB H bs mi→∃ zs:List (Addr×Int×Int),bs=zs.map (·.1)∧mi=zs.map (·.2)∧∀ z∈zs,H z.1=some (.tup [.int z.2.1,.int z.2.2])
 | _,_,.nil=>⟨[],rfl,rfl,#[M]⟩
 | _,_,.cons (a:=b) (b:=q) r t=>by
  obtain⟨zs,h1,h2,h3⟩:=PtB.zs t;refine⟨(b,q) :: zs,by rw [h1]; rfl,by rw [h2]; rfl,fun z hz=>?_⟩;rcases (aF.mp hz) with rfl | hz
  ·exact r
  ·exact h3 z hz
theorem PtB.take {H:Hp} {bs:List Addr} {mi:List (Int×Int)} (h:PtB H bs mi) (n:Nat):PtB H (bs.take n) (mi.take n):=by
 induction h generalizing n with
 | nil=>rw [iL,iL]; exact .nil
 | cons r t ih =>
  cases n with
  | zero=>exact .nil
  | succ n=>exact .cons r (ih n)
def zbB (H:Hp):List Addr→List (List Int)→Prop:=Paired fun r q=>H r=some (.tup (q.map V.int))
theorem zbB.same {H H':Hp} (s:zu H H') {rs:List Addr} {qs:List (List Int)} (h:zbB H rs qs):zbB H' rs qs:=dB (fun _ _ z=>s _ _ z) h
theorem zbB.of {H:Hp}:∀ {ps:List (Addr×List Int)},(∀ q∈ps,H q.1=some (.tup (q.2.map V.int)))→zbB H (ps.map (·.1)) (ps.map (·.2))
 | [],_=>.nil
 | a :: ps,h=>.cons (h a aN) (zbB.of fun q hq=>h q (aD _ hq))
theorem zm3 {κ:Type} [DecidableEq κ] (mo:List (κ×V)) (k:κ) (v:V):(putK mo k v).map (·.1)=if k∈mo.map (·.1) then mo.map (·.1) else mo.map (·.1)++[k]:=by
 unfold putK;by_cases h:(mo.any fun kv=>decide (kv.1=k))=true
 ·rw [if_pos h];obtain⟨kv,h1,h2⟩:=lr.mp h;have h2:kv.1=k:=by simpa using h2
  rw [if_pos (by rw [← h2]; exact fW h1),bH];refine cr fun a _=>?_
  show (if a.1=k then (a.1,v) else a).1=a.1;split <;> rfl
 ·rw [if_neg h];rw [if_neg (fun hm=>h ?_),am]
  ·rfl
  ·obtain⟨kv,h1,h2⟩:=az.mp hm;exact lr.mpr ⟨kv,h1,by simpa using h2⟩
theorem zoJ {a b:List Int} (h:(a.map dh:List Key)=b.map dh):a=b:=by
 induction a generalizing b with
 | nil=>cases b with
  | nil=>rfl
  | cons _ _=>simp at h
 | cons x a ih=>cases b with
  | nil=>simp at h
  | cons y b =>
   rw [bg,bg] at h;obtain⟨h1,h2⟩:=j7 h;rw [jq h1,ih h2]
def KeysAre (mo:List (List Key×V)) (n8:List (List Int)):Prop:=mo.map (·.1)=n8.map (·.map dh)
theorem zm4 {mo:List (List Key×V)} {n8:List (List Int)} (h:KeysAre mo n8) (hn:n8.Nodup) (q:List Int) (v:V):∃ vW,KeysAre (putK mo (q.map dh) v) vW∧vW.Nodup∧vW.length≤n8.length+1∧∀ x,x∈vW↔x∈n8∨x=q:=by
 unfold KeysAre at h ⊢;rw [zm3,h];have hm:(q.map dh:List Key)∈n8.map (·.map dh)↔q∈n8:=by
  constructor
  ·intro hm;obtain⟨x,hx,e⟩:=az.mp hm;rw [← zoJ e];exact hx
  ·intro hm;exact fW hm
 by_cases hq:q∈n8
 ·refine⟨n8,by rw [if_pos (hm.mpr hq)],hn,#[O],fun x=>⟨.inl,fun z=>z.elim id fun e=>e ▸ hq⟩⟩
 ·refine⟨n8++[q],by rw [if_neg fun z=>hq (hm.mp z),am]; rfl,?_,by rw [aq]; exact ag _,fun x=>by rw [aY,aW]⟩;rw [eE];exact⟨hn,#[M],fun a ha b hb e=>hq (by rw [← aW.mp hb,← e]; exact ha)⟩
def zoK (K:ah):Sp:=fun vs H Q _=>∃ (c tt r:Addr) (p k:Int) (pl:List Int) (rw:List (Option Int)),vs = [.ref c,.ref r]∧zb7 H c tt p k pl∧RowAt K H r pl.length rw∧pl.length≤1000 ∧
 ∀ (l:Addr) (bs:List Addr) (H':Hp),H l=none→zu H H'→H' l=some (.lst (bs.map V.ref))→PtB H' bs (mS pl rw)→Q (.ref l) H'
def zfq (K:ah):Sp:=fun vs H Q _=>∃ (c tt a:Addr) (p:Int) (k:Nat) (pl:List Int) (bs:List Addr) (mi:List (Int×Int)),vs = [.ref c,.ref a]∧zb7 H c tt p k pl∧me K H a (bs.map V.ref)∧PtB H bs mi∧mi.length≤16∧p∈zr∧Pts p mi∧1≤k∧k≤100 ∧
 ∀ (l:Addr) (rs:List Addr) (qs:List (List Int)) (H':Hp),H l=none→zu H H'→H' l=some (.lst (rs.map V.ref))→zbB H' rs qs→qs.length≤65536→zes p k qs→(∀ q,q∈qs↔∃ pk∈(chs mi k).map (·.2),q=thr p pk)→Q (.ref l) H'
theorem zdm {α β:Type} {F:α→β→Prop}:∀ {a:List α} {b:List β} {c:List α} {d:List β},Paired F a b→Paired F c d→Paired F (a++c) (b++d)
 | _,_,_,_,.nil,h=>h
 | _,_,_,_,.cons r t,h=>.cons r (zdm t h)
end My
end
section
namespace L2
open PySem PySem.Spec PyProof.Rows
def Itd (d:Addr) (o:Obj) (mo:List (List Key×V)):It :=
 ⟨fun i H=>H d=some (.frz o (.dT mo))∧i < mo.length,fun i H x H'=>H'=H∧∃ a k,x = .ref a∧(mo.map (·.1))[i]? = some k∧H a=some (.tup (k.map kV)),fun i H=>H d=some (.frz o (.dT mo))∧mo.length≤i⟩
theorem zm5 {P:Program} {w:World} {H:Hp} {h:Heap} {d:Addr} {o:Obj} {mo:List (List Key×V)} {es:Array DictEntry} {ep:Nat} (hd:o.data = .dict es ep) (x:zas P w H h d (.frz o (.dT mo))) :
  zer h d es ep∧es.size=mo.length∧∀ (i:Nat) (e:DictEntry),es[i]? = some e→∃ a k,e.key = .ref a∧(mo.map (·.1))[i]? = some k∧H a=some (.tup (k.map kV)):=by
 obtain⟨ho,_,_,xs,hp,o',wK,DS,vK,hx,he,xa,oX⟩:=x;have e1:o'=o:=by rw [ho] at vK; exact (aV vK).symm
 subst e1;rw [he] at hd;cases hd;have hl:es.toList.length=mo.length:=by rw [xa,ab]; exact (a8 hp).symm
 refine⟨⟨o',ho,hx,he⟩,by simpa using hl,fun i e h=>?_⟩;have h':es.toList[i]? = some e:=by rw [bE]; exact h
 rw [xa,af] at h';cases yd:xs[i]? with
 | none=>rw [yd] at h'; cases h'
 | some x =>
  rw [yd] at h';have AD:e=entryOfKey (tupleKind (zav P w)) x:=(aV h').symm;have key:∀ {mo:List (List Key×V)} {xs:List (List Key×Addr×Value)},Paired (fun (p:List Key×V) (q:List Key×Addr×Value)=>p.1=q.1∧H q.2.1=some (.tup (p.1.map kV))∧RelV p.2 q.2.2) mo xs→∀ (i:Nat) x,xs[i]? = some x→∃ p,mo[i]? = some p∧H x.2.1=some (.tup (p.1.map kV)):=by
   intro mo xs hp;induction hp with
   | nil=>intro i x h; simp at h
   | cons h1 _ ih =>
    intro i x h;cases i with
    | zero =>
     (simp only [gw,iV] at h)
     subst h;exact⟨_,rfl,h1.2.1⟩
    | succ i =>
     rw [cQ] at h;obtain⟨p,hp,hh⟩:=ih i x h;exact⟨p,by rw [cQ]; exact hp,hh⟩
  obtain⟨p,rQ,hh⟩:=key hp i x yd;exact⟨x.2.1,p.1,by rw [AD]; rfl,by rw [af,rQ]; rfl,hh⟩
theorem zoL {P:Program} {w:World} {K:ah} {tg:Expr} (d it:Addr) (o:Obj) (mo:List (List Key×V)) (es:Array DictEntry) (ep:Nat) (hd:o.data = .dict es ep):Turn P w K tg (Itd d o mo) [it] it (fun i h=>h.IsKeyIter it d i es.size ep) where
 mem:=by simp
 obj:=fun i h st b hb=>by
  have e:b=it:=by simpa using hb
  subst e;obtain⟨o,e,c,d⟩:=st;exact⟨o,e,fun v z=>by rw [d] at z; cases z⟩
 keep:=fun i h h' st k=>st.at fun o e=>k it #[M] o e
 item:=by
  intro X hP hw hK hc i l3 s σ H E I hf st hg;subst hP hw hK;obtain⟨hq,hi⟩:=hg;obtain⟨xp,hsz,qO⟩:=zm5 hd (I.hok d _ hq);have nH:i < es.size:=by lia
  obtain⟨a,k,he,hk,ha⟩:=qO i es[i] (getElem?_pos es i nH);obtain⟨f0,f1,f2,f3,f4,f5⟩:=hf it #[M];refine zij st xp (getElem?_pos es i nH) fun h' mj sb=>?_
  have I1:Inv X l3 σ H { s with heap:=h' }:=I.turned (t':=s.toks) (fun b o hb e=>(sb.2 b hb).trans e) f0 f1 f3 f4 f5;obtain⟨o,e,c,d⟩:=id mj;exact⟨_,rfl,ze0 (s:={ s with heap:=h' }) e c d #[D] ⟨.ref a,H,I1,by rw [he]; rfl,⟨rfl,a,k,rfl,hk,ha⟩,mj,fun b hb=>(hf b hb).1⟩⟩
 done:=by
  intro X hP hw hK hc i l3 s σ H E I hf st hg;subst hP hw hK;obtain⟨hq,hi⟩:=hg;obtain⟨xp,hsz,qO⟩:=zm5 hd (I.hok d _ hq);obtain⟨f0,f1,f2,f3,f4,f5⟩:=hf it #[M];exact zkg (I.ok.hd hc) st xp #[O] fun h' eb=>⟨rfl,I.turned (t':=s.toks) (fun b o hb e=>eb b o hb e) f0 f1 f3 f4 f5⟩
 self:=fun _ _ _ _ _ st h=>jX st h
theorem Inv.frzT {X:Cx} {l3:List (Addr×Obj)} {σ:St} {H:Hp} {s:Shared} {d:Addr} {o:Obj} {mo:List (List Key×V)} (I:Inv X l3 σ H s) (hd:H d=some (.dT mo)) (ho:s.heap.get? d=some o):Inv X l3 σ (mh H d (.frz o (.dT mo))) s:=by
 have ne:∀ b u,H b=some u→(∀ k,u≠.dT k)→b≠d:=fun b u e n z=>by subst z; rw [hd] at e; exact n mo (aV e).symm
 have nn:∀ b,H b=none→b≠d:=fun b e z=>by subst z; rw [hd] at e; cases e
 have up:∀ b,H b=none→mh H d (.frz o (.dT mo)) b=none:=fun b e=>by rw [zn (nn b e)]; exact e
 refine⟨I.ok,I.os,I.bare,⟨I.base.keep,I.base.slot,fun b u e n hx=>up b (I.base.free b u e n hx),I.base.there,fun b xs e=>?_,fun b u xs e=>?_,fun b ps e=>?_⟩,I.loc,I.cell,up _ I.free,fun x c e=>up _ (I.freeC x c e),fun p rQ=>?_,fun b u e=>?_,I.len⟩
 ·have:=I.base.tups b xs e;rw [zn (ne b _ this fun k z=>by cases z)];exact this
 ·have:=I.base.frzs b u xs e;rw [zn (ne b _ this fun k z=>by cases z)];exact this
 ·obtain⟨more,q⟩:=I.base.tbls b ps e;exact⟨more,by rw [zn (ne b _ q fun k z=>by cases z)]; exact q⟩
 ·obtain⟨a1,a2,a3⟩:=I.pin p rQ;exact⟨a1,up _ a2,a3⟩
 ·have stay:∀ {u:HO} {b:Addr},zas X.prog X.w H s.heap b u→zas X.prog X.w (mh H d (.frz o (.dT mo))) s.heap b u:=fun {u b} x=>x.stay (fun c v _ q=>q) (fun c q=>by rw [zn (ne c _ q fun k z=>by cases z)]; exact q) fun c xs q=>by rw [zn (ne c _ q fun k z=>by cases z)]; exact q
  by_cases hb:b=d
  ·subst hb;rw [zc] at e;cases e;exact⟨ho,stay (I.hok b _ hd)⟩
  ·rw [zn hb] at e;exact stay (I.hok b u e)
def iDT (tl:TE):TI:=fun σ H R=>tl σ H fun x H1=>∃ d mo,x = .ref d∧H1 d=some (.dT mo)∧∀ o,R (Itd d o mo) (mh H1 d (.frz o (.dT mo)))
theorem zrw {X:Cx} {tg l:Expr} {tl:TE} (hl:PE X l tl):PI X tg l (iDT tl):=by
 intro l3 s σ H R I h;refine thn (hl l3 s σ H _ I h) fun v s1 ⟨x,H1,I1,r1,q1⟩=>?_
 obtain⟨d,mo,e,hd,q⟩:=q1;subst e;cases r1;obtain⟨hz,hs,xs,hp,o,es,ep,ho,hx,he,xa,oX⟩:=I1.hok d _ hd;have I2:=I1.frzT hd ho;refine zii (es:=es) (ep:=ep) hs ⟨o,ho,hx,he⟩ ?_;refine⟨s1.heap.objs.size,[s1.heap.objs.size],_,_,_,rfl,I2.kept (t':=s1.toks) fun b o e=>ai _ e,zoL d _ o mo es ep he,⟨_,aG _ rfl,rfl,rfl⟩,fun b hb=>?_,q o⟩;have e:b=s1.heap.objs.size:=by simpa using hb
 subst e;exact I2.fpOk (ag _) (I2.hok.fresh (ag _))
def zqA (K:ah):R2:=fun x y H Q=>∃ a b xs ys,x = .ref a∧y = .ref b∧mE K H a xs∧mE K H b ys∧ys≠[]∧xs.length+ys.length≤sizeLine ∧
 (xs = []→Q (.ref b) H)∧(xs≠[]→∀ p,H p=none→Q (.ref p) (mh H p (.tup (xs++ys))))
theorem zlw {X:Cx} {K:ah} (hK:X.K=K):OpR X (binaryOp .Add) (zqA K):=by
 subst hK;intro l3 s σ H x y v u Q I rx ry h;obtain⟨a,b,xs,ys,rfl,rfl,ha,hb,hy,hz,q1,q2⟩:=h;by_cases hx:xs = []
 ·cases rx;cases ry;obtain⟨mf,r1,p1,_⟩:=I.tuple ha;obtain⟨mT,r2,p2,_⟩:=I.tuple hb;obtain⟨⟨cls,dd,data,sl⟩,ho,hc,n,hd⟩:=id p1;obtain⟨⟨ET,DW,data2,DX⟩,vA,Ap,n2,hd2⟩:=id p2;simp only at hc hd Ap hd2;subst hc hd Ap hd2;exact kt ⟨_,ho,rfl⟩ ⟨_,vA,rfl⟩ i3 j4 gG gv (gh _ _)
   (tuple_addW0 a b mf.toArray mT.toArray n n2 dd DW sl DX (by simp [r1.nil_iff.mpr hx])) ⟨ho,vA,⟨.ref b,H,I,rfl,q1 hx⟩⟩
 ·exact zof l3 s σ H _ _ v u Q I rx ry ⟨a,b,xs,ys,rfl,rfl,ha,hb,hx,hz,fun z=>absurd z hy,fun _=>q2 hx⟩
end L2
end
section
namespace My
open PySem L2 PyProof.Rows
end My
end
section
namespace L2
open PySem PySem.Spec PyProof.Rows
theorem zoM {X:Cx} {K:ah} {tg l:Expr} {tl:TE} (hK:X.K=K) (hl:PE X l tl):PI X tg l (zq4 K tl):=by subst hK; exact zgJ hl
end L2
end
section
namespace HT
open PySem PySem.Spec PyProof.Rows
end HT
namespace L2
open PySem PySem.Spec PyProof.Rows
theorem zm6 {X:Cx} {K:ah} {tg l:Expr} {tl:TE} (hK:X.K=K) (hl:PE X l tl):PI X tg l (zpr K tl):=by subst hK; exact zY hl
def zrx:R2:=fun x y H Q=>∃ a b xs ys,x = .ref a∧y = .ref b∧H a=some (.tup xs)∧H b=some (.tup ys)∧xs.length+ys.length≤sizeLine∧ys≠[]∧∀ p H',zu H H'→H' p=some (.tup (xs++ys))→Q (.ref p) H'
theorem zoN {X:Cx}:OpR X (binaryOp .Add) zrx:=by
 intro l3 s σ H x y v u Q I rx ry h;obtain⟨a,b,xs,ys,rfl,rfl,ha,hb,hz,hy,q⟩:=h;refine zlw rfl l3 s σ H _ _ v u Q I rx ry ⟨a,b,xs,ys,rfl,rfl,mE.of ha,mE.of hb,hy,hz,fun e=>?_,fun _ p hp=>q p _ (fun b o z=>by rw [zn (fun e=>by rw [e,hp] at z; cases z)]; exact z) zc⟩;subst e;exact q b H (fun _ _ e=>e) hb
end L2
end
section
namespace My
open PySem L2 PyProof.Rows
def md (p:Int) (q:Int×Int):Int×Int:=(q.1,q.2 % p)
theorem zix (p:Int) (s:List Int×List Int) (q:Int×Int):zcQ p s (md p q)=zcQ p s q:=by
 unfold zcQ md;have:(q.2 % p - zt p q.1 s.1)*inv p (zt p q.1 s.2) % p=(q.2 - zt p q.1 s.1)*inv p (zt p q.1 s.2) % p:=(((Cg.emod p q.2).sub (Cg.refl p _)).mul (Cg.refl p _)).mod_eq;dsimp only;rw [this]
theorem zkw (p:Int):∀ (mi:List (Int×Int)) (s:List Int×List Int),(mi.map (md p)).foldl (zcQ p) s=mi.foldl (zcQ p) s
 | [],s=>rfl
 | q :: mi,s=>by
  rw [bg,jj,jj,zix,zkw p mi]
theorem zqB (p:Int) (mi:List (Int×Int)):thr p (mi.map (md p))=thr p mi:=by
 unfold thr zro;rw [zkw,ab]
def ziy (K:ah):Sp:=fun vs H Q _=>∃ (p:Int) (a:Addr) (mi:List (Int×Int)),vs = [.int p,.ref a]∧zpz K H a mi∧mi.length≤100∧p∈zr∧Pts p (mi.map (md p))∧(∀ q∈mi,0≤q.2∧q.2 < 10000) ∧
 ∀ (l:Addr) (H':Hp),H l=none→zu H H'→H' l=some (.tup ((thr p (mi.map (md p))).map V.int))→Q (.ref l) H'
def zjs (K:ah):Sp:=fun vs H Q _=>∃ (p tm:Int) (a b:Addr) (as bs:List Int),vs = [.int p,.ref a,.int tm,.ref b]∧H a=some (.lst (as.map V.int))∧H b=some (.lst (bs.map V.int))∧as.length=bs.length∧as.length≤1000∧0 < p∧0≤tm∧tm < 1000 ∧
 ∀ (l:Addr) (H':Hp),H l=none→zu H H'→H' l=some (.lst ((bu (fun x y=>(x - tm*y) % p) as bs).map V.int))→Q (.ref l) H'
def LsA (H:Hp):List Addr→List (List Int)→Prop:=Paired fun b v=>H b=some (.lst (v.map V.int))
theorem LsA.same {H H':Hp} (s:zu H H') {bs:List Addr} {vv:List (List Int)} (h:LsA H bs vv):LsA H' bs vv:=dB (fun _ _ z=>s _ _ z) h
def ClA (ca:Addr) (H:Hp):List Addr→List (Nat×List Int)→Prop:=Paired fun b a=>∃ wa,H b=some (.tup [.int (a.1:Int),.ref wa])∧H wa=some (.lst (a.2.map V.int))∧wa≠ca
theorem ClA.same {ca:Addr} {H H':Hp} (s:zu H H') {bs:List Addr} {cl:List (Nat×List Int)} (h:ClA ca H bs cl):ClA ca H' bs cl:=dB (fun _ _ ⟨wa,z1,z2,z3⟩=>⟨wa,s _ _ z1,s _ _ z2,z3⟩) h
theorem ClA.put {ca:Addr} {H:Hp} {bs:List Addr} {cl:List (Nat×List Int)} {xs:List V} {o:HO} (h:ClA ca H bs cl) (hf:H ca=some (.lst xs)):ClA ca (mh H ca o) bs cl:=dB (fun b _ ⟨wa,z1,z2,z3⟩=>⟨wa,by
 rw [zn (fun e=>by rw [e,hf] at z1; cases z1)]; exact z1,by rw [zn z3]; exact z2,z3⟩) h
theorem zoO {xs:List V} {a b:Nat} (h:b≤xs.length):zcK xs (some (a:Int)) (some (b:Int))=(xs.drop a).take (b - a):=by
 unfold zcK;rw [HT.sIx_nat,HT.sIx_nat];by_cases ha:a≤xs.length
 ·rw [dL ha,dL h]
 ·rw [show min a xs.length=xs.length by lia,dL h,jC (ag _),jC (show xs.length≤a by lia),iL,iL]
theorem zqC {a b:List Int} (x:Nat):gl (a++b) x=if x < a.length then gl a x else gl b (x - a.length):=by
 unfold gl;rw [aO,aO,aO];by_cases h:x < a.length
 ·rw [if_pos h,bj h]
 ·rw [if_neg h,bN #[O]]
end My
end
section
namespace L2
open PySem PySem.Spec PyProof.Rows
theorem zcg {X:Cx} (hc:X.calm=true):zbn X (.builtin "max") (fun xs H Q=>∃ (p:Addr) (ns:List Int),xs = [.ref p]∧me X.K H p (ns.map V.int)∧ns≠[]∧∀ M:Int,M∈ns→(∀ a∈ns,a≤M)→Q (.int M) H):=by
 intro l3 s σ H xs us Q I r h;obtain⟨p,ns,rfl,hq,hn,q⟩:=h;obtain⟨u,rfl,rx⟩:=vals1 r;cases rx;obtain⟨mf,rv,pl,hz⟩:=I.list hq;have hi:IntsAre mf ns:=by simpa using intsAre_of rv
 (obtain⟨xs,e⟩:=hi.allInts.items)
 have vB:ns=xs.toList.map (·.1):=by rw [← hi.numsOf,← j9,← e]
 have hsz:0 < xs.size:=by
  have h3:=fY.mpr hn;rw [vB,ab,bh] at h3;exact h3
 have hl:=pl.isList;rw [e] at hl;refine max_intList (I.ok.hd hc) hl hsz fun v h' tk hv hk=>?_
 (obtain⟨t,rfl⟩:=iu hv)
 (obtain⟨h1,h2⟩:=argBest_gt (numAt xs) (xs.size - 1))
 refine⟨.int _,H,I.kept hk,⟨_,rfl⟩,q _ ?_ fun a ha=>?_⟩
 ·(rw [vB,jc]; exact getD_mem (by rw [ab,bh]; lia))
 ·rw [vB] at ha
  (obtain⟨j,hj,rfl⟩:=mem_getD ha)
  (rw [ab,bh] at hj)
  (rw [← jc]; exact h2 j #[O])
end L2
end
section
namespace PySem
open PyProof.Rows
section
variable {prog:Program} {w:World} {A:Around} {E:Value→Shared→Prop} {s:Shared}
theorem zfr {id:String} {b:Builtin} {args:List Value} {kw:List (Str×Value)} {Q:Value→Shared→Prop} (hk:builtinKind id=none) (hp:plainId id=true) (hb:entryFor table id=some b) (ha:argsOk id ⟨args,kw⟩)
  (hc:wpAny (model prog w) A.in1 (b ⟨args,kw⟩) (fun fin s'=>match fin with
   | .done fl=>(match (Except.ok fl:Result) with | .ok (.ret v)=>Q v s' | .ok _=>False | .error e=>E e s')
   | .again c'=>c'.quiet=true∧codeAny (model prog w) A c' (fun r s'=>match r with | .ok (.ret v)=>Q v s' | .ok _=>False | .error e=>E e s') s') E s):wpAny (model prog w) A (call (.builtin id) args kw) Q E s:=by
 refine (wpAny_call (codeAny_call_builtin hp hb ?_))
 (simp only [checkBuiltinCall,hk])
 cases hs:Manifest.signature? id with
 | none=>exact (ao hc)
 | some sg =>
  have a2:Bind.checkArgs id sg ⟨args,kw⟩=pure ():=by simpa only [argsOk,hs] using ha
  simp only [a2];exact (ao hc)
def Mm (nm lp:String) (op:CmpOp):Prop:=(nm = "max"∧lp = "max.loop"∧op = .Gt)∨(nm = "min"∧lp = "min.loop"∧op = .Lt)
theorem zm7 {nm lp:String} {op:CmpOp} (hb:Mm nm lp op) (x d:Value):argsOk nm ⟨[x],[(bK "default",d)]⟩:=by rcases hb with ⟨rfl,_,_⟩ | ⟨rfl,_,_⟩ <;> (unfold argsOk; kernel_rfl)
theorem zoP {nm lp:String} {op:CmpOp} {R:Result→Shared→Prop} {I:Addr} {fp wr:List Addr} {n:Nat} {P:Nat→Value→Prop} {St:Nat→Heap→Prop} {kw:List (Str×Value)} (hb:Mm nm lp op) (W:Walks prog w A.in1 I fp wr n P St) (bt:Nat→Nat→Bool) (uc:CmpOf prog w A.in1 op P bt) (S:Addr) (BY:S∉fp) :
  ∀ (k j:Nat) (s:Shared) (vb:Value) (c:Nat),n - (j+1)=k→j+1≤n→St (j+1) s.heap→P (argBest bt j) vb→s.heap.get? S=some { cls:=.type "list",dict:=none,data:=.seq #[vb,vb] c,slots:=#[] }→(∀ v h' tk,P (argBest bt (n - 1)) v→(∀ b o,b∉wr→b≠S→s.heap.get? b=some o→h'.get? b=some o)→R (.ok (.ret v)) { s with heap:=h',toks:=tk })→codeAny (model prog w) A (.builtin lp ⟨[.ref I,.none,.ref S],kw⟩) R s:=by
 have hw:S∉wr:=fun h=>BY (W.sub _ h)
 have e1:(toString "max"++toString ".loop" : String) = "max.loop":=by decide
 have e2:(toString "min"++toString ".loop" : String) = "min.loop":=by decide
 intro k;induction k with
 | zero =>
  (intro j s vb c hk hj nS CW hS hR)
  obtain rfl:j+1=n:=by lia
  rcases hb with ⟨rfl,rfl,rfl⟩ | ⟨rfl,rfl,rfl⟩
  case' inl=>(have en:=gO; have pl:=gP; have ee:=e1)
  case' inr=>(have en:=gQ; have pl:=gR; have ee:=e2)
  all_goals
   (refine fg en ?_
    rw [dO pl _];show wpAny _ A.in1 (seqItems? (bd S) >>= _) _ _ s; refine (ae (cN hS rfl ?_));show wpAny _ A.in1 (tryCatch (pyNext (bd I)) _ >>= _) _ _ s; refine (ae (eJ (W.done s _ _ nS fun h' tk q=>?_)));show wpAny _ A.in1 (updateSeq S (fun _=>(#[]:Array Value)) >>= _) _ _ _; refine (ae (jo (q S _ hw hS) rfl (ae (fm (ao ?_)))));exact (hR vb _ tk CW fun b o h1 h2 e=>(cH _ _ (dj h2)).trans (q b o h1 e)))
 | succ k ih =>
  (intro j s vb c hk hj nS CW hS hR)
  (have mM:j+1 < n:=by lia)
  rcases hb with ⟨rfl,rfl,rfl⟩ | ⟨rfl,rfl,rfl⟩
  case' inl=>(have en:=gO; have pl:=gP; have ee:=e1)
  case' inr=>(have en:=gQ; have pl:=gR; have ee:=e2)
  all_goals
   (refine fg en ?_
    rw [dO pl _];show wpAny _ A.in1 (seqItems? (bd S) >>= _) _ _ s; refine (ae (cN hS rfl ?_));show wpAny _ A.in1 (tryCatch (pyNext (bd I)) _ >>= _) _ _ s; refine (ae (eJ (W.item (j+1) s _ _ mM nS fun v h' tk hP yq q=>?_)));have F8:=q S _ hw hS
    first
     | show wpAny _ A.in1 (tryCatch (holding [v,v] (richCompare CmpOp.Gt v vb >>= _)) _ >>= _) _ _ _; refine (ae (eJ (b7 (ae (uc (j+1) (argBest bt j) v vb _ _ _ hP CW ?_)))))
     | show wpAny _ A.in1 (tryCatch (holding [v,v] (richCompare CmpOp.Lt v vb >>= _)) _ >>= _) _ _ _; refine (ae (eJ (b7 (ae (uc (j+1) (argBest bt j) v vb _ _ _ hP CW ?_)))))
    refine (ae (b7 (gA (ae (fm (ao ?_))))));cases eb:bt (j+1) (argBest bt j)
    ·(simp only [br,if_false])
     refine (ae (fm ?_));rw [ee];refine (ao ⟨fb pl _,ih (j+1) _ vb c #[O] mM yq (by simp only [argBest,eb,br,if_false]; exact CW) F8 fun v' h2 CY p2 q2=>?_⟩);exact (hR v' h2 CY p2 fun b o i1 i2 e=>q2 b o i1 i2 (q b o i1 e))
    ·simp only [if_true];refine (ae (jo F8 rfl (ae (fm ?_))));rw [ee];refine (ao ⟨fb pl _,ih (j+1) _ v _ #[O] mM (W.frame _ _ _ yq fun b F9 o e=>?_) (by simp only [argBest,eb,if_true]; exact hP) (cZ _ F8 rfl) fun v' h2 CY p2 q2=>?_⟩)
     ·exact (cH _ _ (fun h:S=b=>BY (h ▸ F9))).trans e
     ·exact (hR v' h2 CY p2 fun b o i1 i2 e=>q2 b o i1 i2 ((cH _ _ (dj i2)).trans (q b o i1 e))))
theorem zm8 {nm lp:String} {op:CmpOp} {R:Result→Shared→Prop} {I:Addr} {fp wr:List Addr} {n:Nat} {P:Nat→Value→Prop} {St:Nat→Heap→Prop} {ds:Str} {d:Value} (hb:Mm nm lp op) (W:Walks prog w A.in1 I fp wr n P St) (bt:Nat→Nat→Bool) (uc:CmpOf prog w A.in1 op P bt) (S:Addr) (BY:S∉fp) {c:Nat} (nS:St 0 s.heap) (hS:s.heap.get? S=some { cls:=.type "list",dict:=none,data:=.seq #[] c,slots:=#[] })
  (hR:∀ v h' tk,(0 < n→P (argBest bt (n - 1)) v)→(n=0→v=d)→(∀ b o,b∉wr→b≠S→s.heap.get? b=some o→h'.get? b=some o)→R (.ok (.ret v)) { s with heap:=h',toks:=tk }) :
  codeAny (model prog w) A (.builtin lp ⟨[.ref I,.none,.ref S],[(ds,d)]⟩) R s:=by
 have hw:S∉wr:=fun h=>BY (W.sub _ h)
 have e1:(toString "max"++toString ".loop" : String) = "max.loop":=by decide
 have e2:(toString "min"++toString ".loop" : String) = "min.loop":=by decide
 have L:=@zoP prog w A nm lp op R I fp wr n P St [(ds,d)] hb W bt uc S BY;rcases hb with ⟨rfl,rfl,rfl⟩ | ⟨rfl,rfl,rfl⟩
 case' inl=>(have en:=gO; have pl:=gP; have ee:=e1)
 case' inr=>(have en:=gQ; have pl:=gR; have ee:=e2)
 all_goals
  (refine fg en ?_
   rw [dO pl _];show wpAny _ A.in1 (seqItems? (bd S) >>= _) _ _ s; refine (ae (cN hS rfl ?_));rcases Nat.eq_zero_or_pos n with hn | hn
   ·show wpAny _ A.in1 (tryCatch (pyNext (bd I)) _ >>= _) _ _ s; refine (ae (eJ (W.done s _ _ (hn ▸ nS) fun h' tk q=>?_)));show wpAny _ A.in1 (rule _ >>= fun _=>pure (Fin.done (Flow.ret d))) _ _ _
    (refine ae (cF (ao ?_)))
    exact hR d h' tk #[O] (fun _=>rfl) fun b o i1 _ e=>q b o i1 e
   ·show wpAny _ A.in1 (tryCatch (pyNext (bd I)) _ >>= _) _ _ s; refine (ae (eJ (W.item 0 s _ _ hn nS fun v h' tk hP yq q=>?_)));show wpAny _ A.in1 (updateSeq S (fun _=>(#[v,v]:Array Value)) >>= _) _ _ _; refine (ae (jo (q S _ hw hS) rfl ?_));rw [ee];refine (ao ⟨fb pl _,L _ 0 _ v _ rfl hn (W.frame _ _ _ yq fun b F9 o e=>?_) hP (cZ _ (q S _ hw hS) rfl) fun v' h2 CY p2 q2=>?_⟩)
    ·exact (cH _ _ (fun h:S=b=>BY (h ▸ F9))).trans e
    ·exact (hR v' h2 CY (fun _=>p2) #[O] fun b o i1 i2 e=>q2 b o i1 i2 ((cH _ _ (dj i2)).trans (q b o i1 e))))
theorem zm9 {nm lp:String} {op:CmpOp} {x d:Value} {Q:Value→Shared→Prop} (hb:Mm nm lp op)
  (h:wpAny (model prog w) A.in1 (pyIter x) (fun it s₂=>∃ I fp wr n P St bt,it = .ref I∧Walks prog w A.in1 I fp wr n P St∧St 0 s₂.heap∧(∀ b∈fp,b < s₂.heap.objs.size)∧CmpOf prog w A.in1 op P bt ∧
   ∀ v h' tk,(0 < n→P (argBest bt (n - 1)) v)→(n=0→v=d)→(∀ b o,b∉wr→s₂.heap.get? b=some o→h'.get? b=some o)→Q v { s₂ with heap:=h',toks:=tk }) E s) :
  wpAny (model prog w) A (call (.builtin nm) [x] [(bK "default",d)]) Q E s:=by
 have aa:=zm7 hb x d;have tZ:=hb;have e1:(toString "max"++toString ".loop" : String) = "max.loop":=by decide
 have e2:(toString "min"++toString ".loop" : String) = "min.loop":=by decide
 rcases hb with ⟨rfl,rfl,rfl⟩ | ⟨rfl,rfl,rfl⟩
 case' inl=>(have en:=gO; have pl:=gP; have ee:=e1)
 case' inr=>(have en:=gQ; have pl:=gR; have ee:=e2)
 case' inl =>
  refine zfr F.kind_max F.plain_max F.entry_max aa ?_;show wpAny _ A.in1 (d6 "max" ["key","default"] 0 ⟨[],[(bK "default",d)]⟩ >>= _) _ _ s;refine ae (cA (show d6 "max" ["key","default"] 0 ⟨[],[(bK "default",d)]⟩=pure [none,some d] by kernel_rfl) ?_)
 case' inr =>
  refine zfr F.kind_min F.plain_min F.entry_min aa ?_;show wpAny _ A.in1 (d6 "min" ["key","default"] 0 ⟨[],[(bK "default",d)]⟩ >>= _) _ _ s;refine ae (cA (show d6 "min" ["key","default"] 0 ⟨[],[(bK "default",d)]⟩=pure [none,some d] by kernel_rfl) ?_)
 all_goals
  (refine (ae (ao (ae (da h (fun it s₂ h2=>?_) fun _ _ e=>e))))
   obtain⟨I,fp,wr,n,P,St,bt,rfl,W,nS,Ba,hc,q⟩:=h2;refine (ae (cL ?_));rw [ee];refine (ao ⟨fb pl _,zm8 tZ W bt hc s₂.heap.objs.size (fun hm=>cD _ (Ba _ hm)) (W.frame _ _ _ nS fun b _ o e=>ai _ e) (aG _ rfl) fun v h' tk p1 p2 hk=>?_⟩);exact (q v h' tk p1 p2 fun b o i1 e=>hk b o i1 (bz (aK e)) (ai _ e)))
end
end PySem
namespace L2
open PySem PySem.Spec PyProof.Rows
def zr0 (K:ah) (gt:Bool) (d:Int) (td:TE):TE:=fun σ H Q=>td σ H fun x H1=>∃ (p:Addr) (ns:List Int),x = .ref p∧me K H1 p (ns.map V.int) ∧
 ∀ M:Int,(ns = []→M=d)→(ns≠[]→M∈ns∧∀ a∈ns,if gt=true then a≤M else M≤a)→Q (.int M) H1
def mmN (gt:Bool):String:=if gt=true then "max" else "min"
theorem zr1 (gt:Bool):Mm (mmN gt) (if gt=true then "max.loop" else "min.loop") (if gt=true then .Gt else .Lt):=by cases gt <;> simp [Mm,mmN]
theorem zry {prog:Program} {w:World} {A:Around} (gt:Bool) (xs:Array (Int×Tok)):CmpOf prog w A (if gt=true then .Gt else .Lt) (fun i v=>(intItems xs)[i]? = some v) (fun i j=>if gt=true then decide (numAt xs i > numAt xs j) else decide (numAt xs i < numAt xs j)):=by
 cases gt
 ·exact CmpOf.ints_lt (numAt xs) (fun _ _=>iu)
 ·exact CmpOf.ints_gt (numAt xs) (fun _ _=>iu)
theorem zqD (gt:Bool) (f:Nat→Int):∀ n,argBest (fun i j=>if gt=true then decide (f i > f j) else decide (f i < f j)) n≤n∧∀ j,j≤n→if gt=true then f j≤f (argBest (fun i j=>if gt=true then decide (f i > f j) else decide (f i < f j)) n) else f (argBest (fun i j=>if gt=true then decide (f i > f j) else decide (f i < f j)) n)≤f j:=by
 cases gt
 ·exact fun n=>argBest_lt f n
 ·exact fun n=>argBest_gt f n
theorem zqE {X:Cx} (gt:Bool) {x:Str} {elt ev:Expr} {gs:List Comprehension} {sc:Scope} {cp:Pos} {d:Int} {td:TE} {p pos kp:Pos} (hc:X.calm=true) (hx:bootBuiltins x=some (.builtin (mmN gt))) (hg:Gl X x) (hm:X.mg x=none) (hv:PE X ev (tC (.int d))) (ho:PE X (.ListComp elt gs sc cp) td)
  (hn:x≠"__name__":=by decide) (An:(x == ("__debug__" : Str))=false:=by decide) :
  PE X (.Call (.Name x p) [.ListComp elt gs sc cp] [⟨some "default",ev,kp⟩] pos) (zr0 X.K gt d td):=by
 intro l3 s σ H Q I h;refine gg (zbe I hg hm hx ?_ hn An);refine callWith_kw ?_;show wpAny _ _ (spliced ((false,eval (.ListComp elt gs sc cp) X.env) :: [])) _ _ s;refine dZ (thn (ho l3 s σ H _ I h) fun v s1 ⟨y,H1,I1,r1,q⟩=>?_);refine fo (kws_cons (thn (hv l3 s1 σ H1 (fun z H2=>z = .int d∧H2=H1) I1 ⟨rfl,rfl⟩) fun u s2 ⟨z,H2,I2,r2,e1,e2⟩=>kws_nil ?_));subst e1 e2;obtain⟨a,ns,rfl,hq,q⟩:=q;cases r1;obtain⟨mf,rv,pl,hz⟩:=I2.list hq;have hi:IntsAre mf ns:=by simpa using intsAre_of rv
 obtain⟨xs,ex⟩:=hi.allInts.items;have vB:ns=xs.toList.map (·.1):=by rw [← hi.numsOf,← j9,← ex]
 have hl:=pl.isList;rw [ex] at hl;show wpAny _ _ (call (.builtin (mmN gt)) [.ref a] [(bK "default",u)]) _ _ _;refine zm9 (zr1 gt) (iter_intList hl fun s₂ e st Ba hlI=>?_);subst e;refine⟨_,_,_,_,_,_,_,rfl,Walks.list (A:=X.A.in1) (I2.ok.hd hc) _ a hlI (intItems xs),st,Ba,zry gt xs,fun v h' tk p1 p2 hk=>?_⟩
 (have hsz:(intItems xs).size=xs.size:=by simp [intItems])
 have mB:ns.length=xs.size:=by rw [vB,ab,bh]
 have I3:Inv X l3 σ H2 { s2 with heap:=h',toks:=tk }:=I2.kept (old_kept hk);obtain⟨t2,rfl⟩:=r2;by_cases h0:xs.size=0
 ·obtain rfl:=p2 (by rw [hsz]; exact h0);refine⟨.int d,H2,I3,⟨_,rfl⟩,q d (fun _=>rfl) fun mV=>absurd (ig #[O]) mV⟩
 ·have BU:=p1 #[O];rw [hsz] at BU;obtain⟨t,rfl⟩:=iu BU;obtain⟨h1,h2⟩:=zqD gt (numAt xs) (xs.size - 1);refine⟨.int _,H2,I3,⟨_,rfl⟩,q _ (fun h=>by rw [h] at mB; simp at mB; lia) fun _=>⟨?_,fun b hb=>?_⟩⟩
  ·(rw [vB,jc]; exact getD_mem (by rw [ab,bh]; lia))
  ·rw [vB] at hb;obtain⟨j,hj,rfl⟩:=mem_getD hb
   (rw [ab,bh] at hj)
   (rw [← jc]; exact h2 j #[O])
theorem zlx {X:Cx} (hc:X.calm=true):zbn X (.builtin "min") (fun xs H Q=>∃ (p:Addr) (ns:List Int),xs = [.ref p]∧me X.K H p (ns.map V.int)∧ns≠[]∧∀ M:Int,M∈ns→(∀ a∈ns,M≤a)→Q (.int M) H):=by
 intro l3 s σ H xs us Q I r h;obtain⟨p,ns,rfl,hq,hn,q⟩:=h;obtain⟨u,rfl,rx⟩:=vals1 r;cases rx;obtain⟨mf,rv,pl,hz⟩:=I.list hq;have hi:IntsAre mf ns:=by simpa using intsAre_of rv
 (obtain⟨xs,e⟩:=hi.allInts.items)
 have vB:ns=xs.toList.map (·.1):=by rw [← hi.numsOf,← j9,← e]
 have hsz:0 < xs.size:=by
  have h3:=fY.mpr hn;rw [vB,ab,bh] at h3;exact h3
 have hl:=pl.isList;rw [e] at hl;refine min_intList (I.ok.hd hc) hl hsz fun v h' tk hv hk=>?_
 (obtain⟨t,rfl⟩:=iu hv)
 (obtain⟨h1,h2⟩:=argBest_lt (numAt xs) (xs.size - 1))
 refine⟨.int _,H,I.kept hk,⟨_,rfl⟩,q _ ?_ fun a ha=>?_⟩
 ·(rw [vB,jc]; exact getD_mem (by rw [ab,bh]; lia))
 ·rw [vB] at ha
  (obtain⟨j,hj,rfl⟩:=mem_getD ha)
  (rw [ab,bh] at hj)
  (rw [← jc]; exact h2 j #[O])
end L2
end
section
namespace My
open PySem L2 PyProof.Rows
theorem zjt {S:List Nat}:∀ {l:List Nat},l.Nodup→l.length≤(l.filter fun i=>decide (i∉S)).length+S.length:=by
 induction S with
 | nil =>
  intro l _;rw [List.filter_eq_self.mpr #[M]];exact ag _
 | cons a S ih =>
  intro l hl;have h1:=ih hl;have h2:l.filter (fun i=>decide (i∉a :: S))=(l.filter fun i=>decide (i∉S)).filter (fun i=>i != a):=by
   rw [kD];refine iT fun i _=>?_
   by_cases e:i=a <;> by_cases e2:i∈S <;> simp [e,e2]
  have h3:=List.Nodup.erase_eq_filter (hl.filter fun i=>decide (i∉S)) a;have h4:(l.filter fun i=>decide (i∉S)).length≤((l.filter fun i=>decide (i∉S)).erase a).length+1:=by
   rw [List.length_erase];split <;> lia
  rw [h2,← h3,bT];lia
end My
end
section
namespace L2
open PySem PySem.Spec PyProof.Rows
theorem zfs {X:Cx} {K:ah} (hK:X.K=K):zbn X (.type "tuple") (fun xs H Q=>∃ p ys,xs = [.ref p]∧((me K H p ys∧∀ l,H l=none→Q (.ref l) (mh H l (.tup ys)))∨(mE K H p ys∧Q (.ref p) H))):=by subst hK; exact za2
end L2
end
section
namespace PySem
theorem zet:typeLookup (.type "zip") "__getattr__" = pure none:=by rw [eA,c6]; kernel_rfl
theorem zhb:typeLookup (.type "zip") "keys" = pure none:=by rw [eA,c6]; kernel_rfl
theorem zna:entryFor table "zip.__getattribute__" = some Builtin.«object.__getattribute__»:=entryFor_alias (id':="object.__getattribute__") (by kernel_rfl) #[N] #[N] (by kernel_rfl)
theorem znb (a:Addr) (xs:Array Value) (u:Tok) :
  Meets (Builtin.«object.__getattribute__» ⟨[.ref a,.str "keys" u],[]⟩) (fun A R s=>s.heap.get? a=some { cls:=.type "zip",dict:=none,data:=.fields xs,slots:=#[] }∧raisesAttr (.ref a) "keys" A R s) :=
 Meets.of_wp fun prog w A R s uG=>by
  (obtain⟨hp,g,d,tk,os⟩:=s)
  obtain⟨hx,hs⟩:=uG;have hT:(⟨hp,g,d,tk,os⟩:Shared).TypeIs (.ref a) "zip":=⟨_,hx,rfl⟩;have hmiss:=zhb
  (unfold Builtin.«object.__getattribute__»); repeat (any_goals (first | assumption | wp_step))
  exact wpAny_raiseAttrError hs.1 hs.2 (attrMsg_fits #[N] (by rw [bf]; decide))
theorem zoQ {prog:Program} {w:World} {A:Around} {E:Value→Shared→Prop} {s:Shared} {a:Addr} {xs:Array Value} {Q:Option Value→Shared→Prop}
  (hx:s.heap.get? a=some { cls:=.type "zip",dict:=none,data:=.fields xs,slots:=#[] }) (hA:A.handled=none)
  (h:∀ h' tk,(∀ b o,s.heap.get? b=some o→h'.get? b=some o)→Q none { s with heap:=h',toks:=tk }) :
  wpAny (model prog w) A (getAttr? (.ref a) "keys") Q E s:=by
 (obtain⟨hp,g,d,tk,os⟩:=s)
 have hT:∀ tk',(⟨hp,g,d,tk',os⟩:Shared).TypeIs (.ref a) "zip":=fun _=>⟨_,hx,rfl⟩
 have f1:=sub_AttributeError;have f3:=F.slot_zip_getattribute.lookup;have f4:=F.slot_zip_getattribute.bind (.ref a);have f5:=zet
 (unfold getAttr? getAttrBy? getAttrBy)
 repeat (any_goals (first | assumption | exact hT _ | ((with_reducible show wpAny _ _ (call (kb "zip.__getattribute__") _ _) _ _ _); refine fI F.slot_zip_getattribute (hT _) zna (F.args_zip_getattribute_2 _ _) (znb a xs _) ⟨hx,hA,fun h' tk' e vD=>?_⟩) | wp_step))
 (obtain⟨t',u',he⟩:=vD.there)
 (show wpAny _ _ (getattributeRaised _ _ _ _ _ _ _) _ _ _)
 unfold getattributeRaised; repeat (any_goals (first | assumption | wp_step))
 exact h _ _ vD.keeps
end PySem
end
section
namespace PySem
theorem ziz:entryFor table "dict.update.loop" = some Builtin.«dict.update.loop»:=entryFor_of_tree (by kernel_rfl)
theorem zdN:plainId "dict.update.loop" = true:=by decide +kernel
end PySem
namespace L2
open PySem PySem.Spec PyProof.Rows
abbrev zr2 (n a b:Nat) (i:Nat) (h:Heap):Prop:=(∃ f0 f1,IsZ h (n+4) (n+2) (n+3) f0 f1∧ZF f0 f1)∧IsPair h (n+2) (.ref n) (.ref (n+1))∧(∃ u v,IsPair h (n+3) u v)∧h.IsListIter n a i∧h.IsListIter (n+1) b i
theorem zly {κ:Type} [DecidableEq κ] {mo:List (κ×V)} {k:κ} (h:k∉mo.map (·.1)):zdq mo k=none:=by
 unfold zdq;rw [Option.map_eq_none_iff,List.find?_eq_none];intro kv hkv e;have e:kv.1=k:=of_decide_eq_true e;exact h (az.mpr ⟨kv,hkv,e⟩)
theorem znc {κ:Type} {ks:List κ} {ys:List V} {i:Nat} {k:κ} {y:V} (hk:ks[i]? = some k) (hy:ys[i]? = some y):(ks.zip ys).take (i+1)=(ks.zip ys).take i++[(k,y)]:=by
 have:(ks.zip ys)[i]? = some (k,y):=by rw [gb]; exact⟨hk,hy⟩
 rw [iS,this,j6]
theorem zoR {κ:Type} {ks:List κ} {ys:List V} {i:Nat} {k:κ} (oX:ks.Nodup) (hk:ks[i]? = some k):k∉((ks.zip ys).take i).map (·.1):=by
 intro h;obtain⟨q,hq,e⟩:=az.mp h;obtain⟨j,hj⟩:=c7.mp hq;have yp:j < i:=by
  have:=(au.mp hj).1;rw [aI] at this;lia
 rw [b9 yp] at hj;have hkj:ks[j]? = some k:=by
  have pT:(ks.zip ys)[j]? = some (q.1,q.2):=hj;rw [gb] at pT;rw [pT.1,e]
 have h1:=(au.mp hkj).1;have h2:=(au.mp hk).1;exact cY.mp oX j i h1 h2 yp (by rw [(au.mp hkj).2,(au.mp hk).2])
theorem zoS {α β:Type} {R:α→β→Prop} {as:List α} {bs:List β} (h:Paired R as bs):∀ {i:Nat} {x:α},as[i]? = some x→∃ y,bs[i]? = some y∧R x y:=by
 induction h with
 | nil=>intro i x e; simp at e
 | cons h1 _ ih =>
  intro i x e;cases i with
  | zero=>cases e; exact⟨_,rfl,h1⟩
  | succ i=>exact ih (by simpa using e)
theorem zch {n c:Nat} (h:c∈[n+4,n+3,n,n+1]):c∈zb8 n:=by
 simp only [zb8,aF,be,or_false] at h ⊢;rcases h with z | z | z | z <;> subst z <;> simp
theorem zrz {X:Cx} {l3:List (Addr×Obj)} {σ:St} {H:Hp} {s:Shared} {h':Heap} {tk n:Nat} (I:Inv X l3 σ H s) (hf:∀ c∈zb8 n,zb3 X l3 H c) (k1:∀ c o,c∉[n+4,n+3,n,n+1]→s.heap.get? c=some o→h'.get? c=some o):Inv X l3 σ H { s with heap:=h',toks:=tk }:=by
 have tW:∀ d u',H d=some u'→d∉[n+4,n+3,n,n+1]:=fun d u' e' hd=>by rw [(hf d (zch hd)).1] at e'; cases e'
 refine I.step (g':=s.gens) (d':=s.drawn) (t':=tk) (ch:=[n+4,n+3,n,n+1]) (fun c mC=>?_) (fun c o _ _ ni e _=>k1 c o ni e) (fun c o _ _ ni e _=>⟨o.slots,k1 c o ni e⟩) (fun _ _ _ _ n=>n)
  (fun c o ni e=>⟨o,k1 c o ni e⟩) (fun _ _ e=>e) (fun _ _ _ e=>e) (fun c ps e=>⟨#[],by rw [e]; simp⟩) (fun m hm=>?_) (fun c u e=>?_) I.bare
 ·obtain⟨_,a1,_,a3,a4,a5⟩:=hf c (zch mC);exact⟨a3,a1,a4,a5⟩
 ·obtain⟨o,wK,ep,ho,r⟩:=hm;exact⟨o,wK,ep,k1 _ o (fun z=>(hf _ (zch z)).2.1 rfl) ho,r⟩
 ·refine (I.hok c u e).stay (fun d v' hd q=>k1 d v' ?_ q) (fun _ q=>q) fun _ _ q=>q
  rcases hd with z | z
  ·rw [z]; exact tW c u e
  ·exact tW d _ z
theorem zlz {X:Cx} {l3:List (Addr×Obj)} {σ:St} {H:Hp} {s:Shared} {a b:Addr} {mo:List (List Key×V)} {k:List Key} {v:V} {r:Value} {A:Around} {E:Value→Shared→Prop} {Q:Unit→Shared→Prop} (hu:A.units+1 < cLine) (I:Inv X l3 σ H s) (e:H a=some (.dT mo)) (eb:H b=some (.tup (k.map kV))) (l:mo.length < sizeLine) (rv:RelV v r)
  (h:∀ s',(∀ c o,c≠a→s.heap.get? c=some o→s'.heap.get? c=some o)→Inv X l3 σ (mh H a (.dT (putK mo k v))) s'→Q () s'):wpAny (model X.prog X.w) A.in1 (dictSet a (.ref b) r) Q E s:=by
 obtain⟨z,hd,xs,rel,dd⟩:=zpB I.hok e;have hz:xs.length≤sizeLine:=by rw [← a8 rel]; exact z
 have hl:(putK mo k v).length≤sizeLine:=by have:=zcS mo k v; lia
 refine wpAny_dictSet_heap (hsz:=hz) (iC hu) (zgZ I.hok eb) dd fun h' BO hs=>h _ (fun c o hc eo=>hs.extBut c o hc eo) ?_
 obtain⟨q,es,ep,hq,h2,h3,h4,_,h5⟩:=BO;refine zg0 I (by rw [e]; exact iX) hs ⟨q,hq⟩ ⟨hl,hd,_,(rel.put k eb rv).keeps fun c ys ec=>?_,q,es,ep,hq,h2,h3,h4,h5⟩;rw [zn (zpp ec e (fun z=>nomatch z))];exact ec
def KyA (H:Hp):List V→List (List Key)→Prop:=Paired fun x k=>∃ c,x = .ref c∧H c=some (.tup (k.map kV))
theorem zoT {X:Cx} {l3:List (Addr×Obj)} {σ:St} {A:Around} {R:Result→Shared→Prop} {H0:Hp} {a b n D:Nat} {xs ys:List V} {ks:List (List Key)} (hh:A.handled=none) (hu:A.units+1 < cLine) (ha:a < n) (hb:b < n)
  (hD:H0 D=none) (hfD:D∉zb8 n) (pX:me X.K H0 a xs) (oC:me X.K H0 b ys) (hk:KyA H0 xs ks) (oX:ks.Nodup) (hf:∀ c∈zb8 n,zb3 X l3 H0 c)
  (hR:∀ s' H',Inv X l3 σ H' s'→zu H0 H'→H' D=some (.dT (ks.zip ys))→R (.ok (.ret .none)) s') :
  ∀ (m i:Nat) (t:Tok) (s:Shared) (H:Hp),i+m=min xs.length ys.length→Inv X l3 σ H s→zu H0 H→(∀ c∈zb8 n,H c=none)→zr2 n a b i s.heap→H D=some (.dT ((ks.zip ys).take i)) →
   codeAny (model X.prog X.w) A (.builtin "dict.update.loop" ⟨[.ref D,.ref (n+4),.int i t,.none],[]⟩) R s:=by
 intro m;induction m with
 | zero =>
  intro i t s H hi I hs hn st F';obtain⟨⟨f0,f1,h1,vS⟩,h2,⟨u0,v0,h3⟩,h4,h5⟩:=st;obtain⟨mZ,sE,p1,rK⟩:=I.list (hs.seq pX);obtain⟨mT,sP,p2,uF⟩:=I.list (hs.seq oC);have vP:=sE.length;have qJ:=sP.length;refine fg ziz ?_;rw [dO zdN _];show wpAny _ A.in1 (pyNext (.ref (n+4)) >>= _) _ _ s;have CZ:A.in1.in1.handled=none:=by simp [hh]
  refine ae (zmv (gq CZ n a (nq #[O]) mZ.toArray) (gq CZ (n+1) b (nq #[O]) mT.toArray) (zc3 ha hb) h1 vS h2 h3 ⟨h4,p1.isList⟩ ⟨h5,p2.isList⟩ (by rw [ar,ar]; lia) fun h' tk kk=>?_);show wpAny _ A.in1 (Builtin.Dict.addKeywords D [] >>= _) _ _ _
  (refine ae (ao (ao ?_)))
  have I1:Inv X l3 σ H { s with heap:=h',toks:=tk }:=zrz I (fun c hc=>⟨hn c hc,(hf c hc).2⟩) fun c o mC e=>by
   simp only [aF,be,or_false,not_or] at mC;exact kk c o mC.1 mC.2.1 mC.2.2.1 mC.2.2.2 e
  refine hR _ _ I1 hs ?_;rw [F',aJ];rw [lH,← a8 hk];lia
 | succ m ih =>
  intro i t s H hi I hs hn st F';obtain⟨⟨f0,f1,h1,vS⟩,h2,⟨u0,v0,h3⟩,h4,h5⟩:=st;obtain⟨mZ,sE,p1,rK⟩:=I.list (hs.seq pX);obtain⟨mT,sP,p2,uF⟩:=I.list (hs.seq oC);have vP:=sE.length;have qJ:=sP.length;have hx:xs[i]? = some (xs[i]'#[O]):=aj _;have hy:ys[i]? = some (ys[i]'#[O]):=aj _;generalize xs[i]'#[O]=x at hx;generalize ys[i]'#[O]=y at hy;obtain⟨u,huu,ru⟩:=sE.get hx;obtain⟨v,hv,rv⟩:=sP.get hy;refine fg ziz ?_;rw [dO zdN _];show wpAny _ A.in1 (pyNext (.ref (n+4)) >>= _) _ _ s;have CZ:A.in1.in1.handled=none:=by simp [hh]
  refine ae (zj6 (gq CZ n a (nq #[O]) mZ.toArray) (gq CZ (n+1) b (nq #[O]) mT.toArray) (zc3 ha hb) h1 vS h2 h3 ⟨h4,p1.isList⟩ ⟨h5,p2.isList⟩ (by rw [ar]; lia) (by rw [ar]; lia)
   fun x' y' h' tk g0 g1 a' b' px py ez Cz e2 e3 t4 t5 pp hsz kk=>?_)
  have eu:x'=u:=by
   have e1:mZ[i]? = some x':=by simpa using px
   rw [huu] at e1; exact (aV e1).symm
  have ev:y'=v:=by
   have e1:mT[i]? = some y':=by simpa using py
   rw [hv] at e1; exact (aV e1).symm
  subst eu ev;obtain⟨k,hki,kc,rfl,E3⟩:=zoS hk hx;cases ru;have hff:∀ c∈zb8 n,zb3 X l3 H c:=fun c hc=>⟨hn c hc,(hf c hc).2⟩
  have xa:n+4 < s.heap.objs.size:=aK h1;have k1:∀ c o,c∉[n+4,n+3,n,n+1]→s.heap.get? c=some o→h'.get? c=some o:=fun c o mC eo=>by
   simp only [aF,be,or_false,not_or] at mC;exact kk c o mC.1 mC.2.1 mC.2.2.1 mC.2.2.2 eo
  have I1:Inv X l3 σ H { s with heap:=h',toks:=tk }:=zrz I hff k1;show wpAny _ A.in1 (holding [.ref s.heap.objs.size] _ >>= _) _ _ _
  (refine ae (b7 ?_))
  (refine ae (eJ ?_))
  unfold Builtin.Dict.pairItems;have hT:({ s with heap:=h',toks:=tk }:Shared).TypeIs (.ref s.heap.objs.size) "tuple":=⟨_,pp,rfl⟩
  (refine ae (kG hT ?_))
  rw [if_pos #[D]];refine ae (cN pp rfl (ao ?_));show wpAny _ A.in1 (holding [.ref kc,y'] (dictSet D (.ref kc) y')) _ _ _;have mM:((ks.zip ys).take i).length < sizeLine:=by
   rw [aI];lia
  refine b7 (zlz (A:=A) hu I1 F' (hs _ _ E3) mM rv fun s2 k2 I2=>?_);rw [zmz _ (zly (zoR oX hki)),← znc hki hy] at I2;have nD:∀ c,c∈zb8 n→c≠D:=fun c hc z=>hfD (by rw [← z]; exact hc)
  refine ao ⟨fb zdN _,?_⟩;show codeAny _ A (.builtin "dict.update.loop" ⟨[.ref D,.ref (n+4),.int ((i+1:Nat):Int) _,.none],[]⟩) R s2;refine ih (i+1) _ s2 _ #[O] I2 (fun c o e=>?_) (fun c hc=>?_) ?_ zc
  ·rw [zn (zA e hD)];exact hs c o e
  ·rw [zn (nD c hc)];exact hn c hc
  ·exact⟨⟨g0,g1,k2 _ _ (nD _ #[M]) ez,Cz⟩,k2 _ _ (nD _ #[M]) e2,⟨_,_,k2 _ _ (nD _ #[M]) e3⟩,t4.1.at fun o e=>k2 _ o (nD _ #[M]) e,t5.1.at fun o e=>k2 _ o (nD _ #[M]) e⟩
def tDZ (K:ah) (ta:TA):TE:=fun σ H Q=>ta σ H fun vs H1=>∃ a b xs ys ks,vs = [.ref a,.ref b]∧me K H1 a xs∧me K H1 b ys∧KyA H1 xs ks∧ks.Nodup∧∀ D H',H1 D=none→zu H1 H'→H' D=some (.dT (ks.zip ys))→Q (.ref D) H'
theorem zju {X:Cx} {p p2 pos oW:Pos} {a b:Expr} {ta:TA} (hu:X.A.units+2 < cLine) (hc:X.calm=true) (hg:Gl X "dict") (hm:X.mg "dict" = none) (yj:Gl X "zip") (uI:X.mg "zip" = none) (ha:PA X [a,b] ta) (hs:starEach [a,b] X.env = [(false,eval a X.env),(false,eval b X.env)]:=by rfl) (oU:starEach [b] X.env = [(false,eval b X.env)]:=by rfl)
  (uH:starEach [.Call (.Name "zip" p2) [a,b] [] oW] X.env = [(false,eval (.Call (.Name "zip" p2) [a,b] [] oW) X.env)]:=by rfl) :
  PE X (.Call (.Name "dict" p) [.Call (.Name "zip" p2) [a,b] [] oW] [] pos) (tDZ X.K ta):=by
 intro l3 s σ H Q I h;refine Call_ (zbe I hg hm boot_dict (bA ?_ uH rfl));rw [uH];show wpAny _ _ (spliced ((false,eval (.Call (.Name "zip" p2) [a,b] [] oW) X.env) :: [])) _ _ s;refine dZ ?_;refine Call_ (zbe I yj uI k9 (bA (thn (ha oW l3 s σ H _ I h) fun us s1 ⟨vs,H1,I1,r1,q1⟩=>?_) (by rw [hs,oU]) (by rw [oU]; rfl)));obtain⟨l1,l2,xs,ys,ks,e,pX,oC,Ek,oX,q⟩:=q1;subst e;cases r1 with
 | cons r rr =>
  cases rr with
  | cons r' rr =>
   cases rr;cases r;cases r';obtain⟨mZ,sE,xc,rK⟩:=I1.list pX;obtain⟨mT,sP,xS,uF⟩:=I1.list oC;have qC:l1 < s1.heap.objs.size:=by obtain⟨_,_,e,_⟩:=xc; exact aK e
   have qD:l2 < s1.heap.objs.size:=by obtain⟨_,_,e,_⟩:=xS; exact aK e
   refine call_zip_2 xc.isList xS.isList fun h' b1 b2 b3 b4 b5 b6 kk=>?_
   refine fo ?_;have I2:Inv X l3 σ H1 { s1 with heap:=h' }:=I1.kept (t':=s1.toks) kk;have Ba:∀ c∈zb8 s1.heap.objs.size,zb3 X l3 H1 c:=fun c hc=>by
    have hle:s1.heap.objs.size≤c:=by
     simp only [zb8,aF,be,or_false] at hc;rcases hc with z | z | z | z | z <;> subst z
     all_goals first | exact fM _ _ | exact ag _
    exact I1.fpOk hle (I1.hok.fresh hle)
   generalize hn:s1.heap.objs.size=n at b1 b2 b3 b4 b5 b6 qC qD Ba ⊢;refine callType_codes (Q₁:=fun obj s₁=>obj = .ref h'.objs.size∧s₁ = { s1 with heap:=h'.push { cls:=.type "dict",data:=.dict #[] } }) F.kt_called_dict (F.kt_typeCall_dict_1 _) F.entry_dict_init (kt_code_dict_new _ ⟨rfl,rfl⟩) ?_;rintro obj s₁ ⟨rfl,rfl⟩;have Ga:∀ c o,h'.get? c=some o→(h'.push { cls:=.type "dict",data:=.dict #[] }).get? c=some o:=fun c o e=>ai _ e
   have I3:Inv X l3 σ (mh H1 h'.objs.size (.dT [])) { s1 with heap:=h'.push { cls:=.type "dict",data:=.dict #[] } } :=
    I2.laid (a:=h'.objs.size) (o:=.dT []) (t':=s1.toks) Ga (ag _) (zia h' I2.big)
   have hT:({ s1 with heap:=h'.push { cls:=.type "dict",data:=.dict #[] } }:Shared).TypeIs (.ref h'.objs.size) "dict":=⟨_,aG _ rfl,rfl⟩;refine⟨hT,F.args_dict_init_2 _ _,?_⟩
   (unfold Builtin.«dict.__init__»; refine ae ?_; unfold Builtin.Dict.selfAndRest)
   (refine ae (jJ hT ?_))
   show wpAny _ _ (pure (h'.objs.size,[bd (n+4)])) _ _ _;refine (ao ?_);show wpAny _ _ (jh "dict.__init__" h'.objs.size (.ref (n+4)) [] .none) _ _ _
   (unfold jh)
   have C0:=Ga _ _ b1;have vT:({ s1 with heap:=h'.push { cls:=.type "dict",data:=.dict #[] } }:Shared).TypeIs (.ref (n+4)) "zip":=⟨_,C0,rfl⟩;refine ae (kG vT ?_);rw [if_pos #[D]];have hh:X.A.handled=none:=I.ok.hd hc;refine ae (zoQ C0 (by simp [hh]) fun h2 tk xT=>?_);rw [if_pos (by rfl)];refine ae (cF ?_);have I4:Inv X l3 σ (mh H1 h'.objs.size (.dT [])) { s1 with heap:=h2,toks:=tk }:=Inv.kept (s:={ s1 with heap:=h'.push { cls:=.type "dict",data:=.dict #[] } }) (t':=tk) I3 xT;refine ae (zgY (xT _ _ C0) (ao ⟨fb zdN _,?_⟩));have D0:H1 h'.objs.size=none:=I2.hok.fresh (ag _);have up:∀ c o,h'.get? c=some o→h2.get? c=some o:=fun c o e=>xT c o (Ga c o e)
   refine zoT (X:=X) (l3:=l3) (σ:=σ) (A:=X.A.in1) (H0:=H1) (a:=l1) (b:=l2) (n:=n) (D:=h'.objs.size) (xs:=xs) (ys:=ys) (ks:=ks) (by simp [hh]) (by simp only [dw]; lia) qC qD D0 ?_ pX oC Ek oX Ba (fun s' H' I' e1 e2=>?_) (min xs.length ys.length) 0 _ _ _ #[O] I4 (fun c o e=>?_) (fun c hc=>?_) ?_ ?_
   ·rw [b6];simp
   ·exact⟨rfl,.ref h'.objs.size,_,I',rfl,q _ _ D0 e1 e2⟩
   ·rw [zn (zA e D0)];exact e
   ·rw [zn]
    ·exact (Ba c hc).1
    ·rw [b6];simp only [zb8,aF,be,or_false] at hc;rcases hc with z | z | z | z | z <;> subst z <;> exact nq #[O]
   ·exact⟨⟨_,_,up _ _ b1,.inl rfl,_,rfl⟩,up _ _ b2,⟨_,_,up _ _ b3⟩,b4.at fun o e=>up _ o e,b5.at fun o e=>up _ o e⟩
   ·rw [dW];exact zc
end L2
end
section
namespace PySem
theorem zdO:typeLookup (.type "list") (dunderI "add")=pure (some (.builtin "list.__iadd__")):=by rw [eA,c6]; kernel_rfl
theorem zfW:seqSlot? (.type "list") (dunderI "add")=pure (some (.builtin "list.__iadd__")):=by
 unfold seqSlot?;rw [zdO]
 kernel_rfl
theorem zhc:fillsInplaceSlot (.type "list") "add" (Operator.Add == .Add)=pure false:=by
 unfold fillsInplaceSlot;show (typeLookup (.type "list") (dunderI "add") >>= fun fi=>pure (fi.isSome && !isSeqSlot fi))=pure false;rw [zdO]
 kernel_rfl
theorem zlA {M:Model} {A:Around} {E:Value→Shared→Prop} {s:Shared} {a b:Value} {Q:Value→Shared→Prop} (ha:s.TypeIs a "list") (hb:s.TypeIs b "list")
  (hc:wpAny M A (call (.builtin "list.__iadd__") [a,b]) Q E s):wpAny M A (inplaceOp .Add a b) Q E s:=by
 (unfold inplaceOp; refine b7 ?_)
 refine ae (kG ha (ae (cA zhc ?_)))
 (show wpAny M A (if false=true then _ else _) Q E s)
 rw [if_neg aS];refine ae (wpAny_binaryOp1_none (nm:="add") ha hb noFill_list_add ?_);refine ae (cA zfW ?_);exact (ae (cF hc))
end PySem
namespace L2
open PySem PySem.Spec PyProof.Rows
def zqF:R2:=fun x y H Q=>∃ l b xs zs,x = .ref l∧y = .ref b∧H l=some (.lst xs)∧H b=some (.lst zs)∧xs.length+zs.length≤sizeLine∧Q (.ref l) (mh H l (.lst (xs++zs)))
theorem znd {X:Cx}:OpR X (inplaceOp .Add) zqF:=by
 intro l3 s σ H x y v u Q I rx ry h;obtain⟨l,b,xs,zs,rfl,rfl,hH,hB,hz,q⟩:=h;cases rx;cases ry;obtain⟨z,mf,n,r,hl,e⟩:=I.lstM hH;obtain⟨z2,mT,n2,r2,qJ,e2⟩:=I.lstM hB;have hsz:mf.toArray.size+mT.toArray.size≤sizeLine:=by rw [ar,ar]; lia
 have w8:¬ (!mf.toArray.isEmpty && eL (mf.toArray.size+mT.toArray.size))=true:=by
  rw [zhM hsz,lM];exact aS
 refine zlA ⟨_,e,rfl⟩ ⟨_,e2,rfl⟩ (fI F.slot_list_iadd ⟨_,e,rfl⟩ F.entry_list_iadd (F.args_list_iadd_2 _ _)
  (AutoSeq1.list___iadd___list_list_0 l mf.toArray n b mT.toArray n2 w8 (by rw [ar]; lia) #[O]) ⟨e,e2,?_⟩)
 refine⟨.ref l,_,I.lset (its':=mf++mT) hH e #[M] (r.append r2) ?_,rfl,q⟩;rw [aq];lia
end L2
end
section
namespace My
open PySem L2 PyProof.Rows
def sh (b:Int):Nat→(Nat→Int)→Nat→Int
 | 0,_,_=>0
 | n+1,l,0=>l 0+b*sh b n (fun t=>l (t+1)) 0
 | n+1,l,j+1=>sh b n (fun t=>l (t+1)) j+b*sh b n (fun t=>l (t+1)) (j+1)
theorem zhd {b:Int}:∀ {n:Nat} {l:Nat→Int} {j:Nat},n≤j→sh b n l j=0
 | 0,_,_,_=>by simp [sh]
 | n+1,l,0,h=>by lia
 | n+1,l,j+1,h=>by
  rw [sh,zhd #[O],zhd #[O]]; simp
theorem zft {b:Int}:∀ {n:Nat} {u v:Nat→Int} {j:Nat},sh b n (fun t=>u t+v t) j=sh b n u j+sh b n v j
 | 0,_,_,_=>by simp [sh]
 | n+1,u,v,0=>by
  have h:=zft (b:=b) (n:=n) (u:=fun t=>u (t+1)) (v:=fun t=>v (t+1)) (j:=0);simp only [sh,h]; grind
 | n+1,u,v,j+1=>by
  have h:=zft (b:=b) (n:=n) (u:=fun t=>u (t+1)) (v:=fun t=>v (t+1)) (j:=j);have h':=zft (b:=b) (n:=n) (u:=fun t=>u (t+1)) (v:=fun t=>v (t+1)) (j:=j+1);simp only [sh,h,h']; grind
theorem zcU {b c:Int}:∀ {n:Nat} {u:Nat→Int} {j:Nat},sh b n (fun t=>c*u t) j=c*sh b n u j
 | 0,_,_=>by simp [sh]
 | n+1,u,0=>by
  have h:=zcU (b:=b) (c:=c) (n:=n) (u:=fun t=>u (t+1)) (j:=0);simp only [sh,h]; grind
 | n+1,u,j+1=>by
  have h:=zcU (b:=b) (c:=c) (n:=n) (u:=fun t=>u (t+1)) (j:=j);have h':=zcU (b:=b) (c:=c) (n:=n) (u:=fun t=>u (t+1)) (j:=j+1);simp only [sh,h,h']; grind
theorem zdP {b:Int}:∀ {n:Nat} {u v:Nat→Int} {j:Nat},(∀ t,t < n→u t=v t)→sh b n u j=sh b n v j
 | 0,_,_,_,_=>by simp [sh]
 | n+1,u,v,0,h=>by
  rw [sh,sh,h 0 #[O],zdP (n:=n) (v:=fun t=>v (t+1)) fun t ht=>h (t+1) #[O]]
 | n+1,u,v,j+1,h=>by
  have e:=fun i=>zdP (b:=b) (n:=n) (u:=fun t=>u (t+1)) (v:=fun t=>v (t+1)) (j:=i) fun t ht=>h (t+1) #[O]
  rw [sh,sh,e j,e (j+1)]
theorem zgx {p b b':Int} (hb:Cg p b b'):∀ {n:Nat} {u v:Nat→Int} {j:Nat},(∀ t,t < n→Cg p (u t) (v t))→Cg p (sh b n u j) (sh b' n v j)
 | 0,_,_,_,_=>by simp only [sh]; exact Cg.refl _ _
 | n+1,u,v,0,h=>by
  simp only [sh];exact (h 0 #[O]).add (hb.mul (zgx hb fun t ht=>h (t+1) #[O]))
 | n+1,u,v,j+1,h=>by
  simp only [sh];exact (zgx hb fun t ht=>h (t+1) #[O]).add (hb.mul (zgx hb fun t ht=>h (t+1) #[O]))
theorem zhe {b:Int}:∀ {n:Nat} {f:Nat→Int} {j:Nat},f n=0→sh b (n+1) f j=sh b n f j
 | 0,f,0,h=>by simp [sh,h]
 | 0,f,j+1,h=>by simp [sh]
 | n+1,f,0,h=>by
  rw [sh,zhe (n:=n) (f:=fun t=>f (t+1)) h]; simp only [sh]
 | n+1,f,j+1,h=>by
  have e:=fun i=>zhe (b:=b) (n:=n) (f:=fun t=>f (t+1)) (j:=i) h
  rw [sh,e j,e (j+1)]; simp only [sh]
theorem zoU {b:Int} {n:Nat} {f:Nat→Int} {j:Nat}:∀ {m:Nat},n≤m→(∀ t,n≤t→t < m→f t=0)→sh b m f j=sh b n f j
 | m,h,z=>by
  induction m with
  | zero =>
   obtain rfl:n=0:=by lia
   rfl
  | succ m ih =>
   by_cases e:n=m+1
   ·rw [e]
   ·rw [zhe (z m #[O] #[O])];exact ih #[O] fun t h1 h2=>z t h1 #[O]
theorem zkx:∀ {n:Nat} {l:Nat→Int} {j:Nat},j < n→sh 0 n l j=l j
 | 0,_,_,h=>by lia
 | n+1,l,0,_=>by simp [sh]
 | n+1,l,j+1,h=>by
  rw [sh,zkx (n:=n) (l:=fun t=>l (t+1)) #[O]]; simp
theorem zpE {b b':Int}:∀ {n:Nat} {l:Nat→Int} {j:Nat},sh b' n (sh b n l) j=sh (b+b') n l j
 | 0,_,_=>by simp [sh]
 | n+1,l,j=>by
  have hz:sh b n (fun t=>l (t+1)) n=0:=zhd (ag _);have ih:=fun i=>zpE (b:=b) (b':=b') (n:=n) (l:=fun t=>l (t+1)) (j:=i)
  have e:sh b' (n+1) (sh b (n+1) l) j=sh b' (n+1) (fun t=>(if t=0 then l 0 else sh b n (fun t=>l (t+1)) (t - 1))+b*sh b n (fun t=>l (t+1)) t) j:=by
   refine zdP fun t _=>?_
   cases t <;> simp [sh]
  rw [e,zft,zcU,zhe hz,ih];cases j with
  | zero =>
   simp only [sh,if_true];have e2:sh b' n (fun t=>if t+1=0 then l 0 else sh b n (fun t=>l (t+1)) (t+1 - 1)) 0=sh (b+b') n (fun t=>l (t+1)) 0:=by
    rw [← ih]; exact zdP fun t _=>by simp
   rw [e2]; grind
  | succ j =>
   simp only [sh];have e2:∀ i,sh b' n (fun t=>if t+1=0 then l 0 else sh b n (fun t=>l (t+1)) (t+1 - 1)) i=sh (b+b') n (fun t=>l (t+1)) i:=fun i=>by
    rw [← ih]; exact zdP fun t _=>by simp
   rw [e2,e2]; grind
def vl:Nat→(Nat→Int)→Int→Int
 | 0,_,_=>0
 | n+1,l,y=>l 0+y*vl n (fun t=>l (t+1)) y
def ch:Nat→Nat→Int
 | _,0=>1
 | 0,_+1=>0
 | t+1,j+1=>ch t j+ch t (j+1)
theorem zeO:∀ {t j:Nat},t < j→ch t j=0
 | _,0,h=>by lia
 | 0,j+1,_=>rfl
 | t+1,j+1,h=>by rw [ch,zeO #[O],zeO #[O]]; rfl
theorem zfu {b:Int}:∀ {n:Nat} {l:Nat→Int} {j:Nat},sh b n l j=sm n fun t=>ch t j*b ^ (t - j)*l t
 | 0,_,_=>rfl
 | n+1,l,0=>by
  rw [sh,zfu,zbv,← zdu];congr 1
  ·simp [ch]
  ·exact zax fun i _=>by simp only [ch,eR]; grind
 | n+1,l,j+1=>by
  rw [sh,zfu,zfu,zbv,← zdu,← zjq];have e0:ch 0 (j+1)*b ^ (0 - (j+1))*l 0=0:=by simp [ch]
  rw [e0,cq];refine zax fun i _=>?_
  have e1:i+1 - (j+1)=i - j:=by lia
  rw [ch,e1];by_cases h:j+1≤i
  ·have e2:i - j=(i - (j+1))+1:=by lia
   rw [e2,fE]; grind
  ·rw [zeO (t:=i) (j:=j+1) #[O]]; simp
def hs (b:Int):Nat→(Nat→Int)→Nat→Int
 | 0,_,_=>0
 | n+1,l,0=>l 0+b*hs b n (fun t=>l (t+1)) 0
 | n+1,l,j+1=>hs b n (fun t=>l (t+1)) j
theorem zcB {b:Int}:∀ {n:Nat} {l:Nat→Int} {j:Nat},n≤j→hs b n l j=0
 | 0,_,_,_=>by simp [hs]
 | n+1,l,0,h=>by lia
 | n+1,l,j+1,h=>by rw [hs,zcB #[O]]
theorem zdQ {b:Int}:∀ {n:Nat} {l:Nat→Int} {j:Nat},j < n→hs b n l j=l j+b*hs b n l (j+1)
 | 0,_,_,h=>by lia
 | n+1,l,0,h=>by simp only [hs]
 | n+1,l,j+1,h=>by
  rw [hs,zdQ (n:=n) (l:=fun t=>l (t+1)) #[O]]; rfl
theorem zky {b:Int}:∀ {n:Nat} {l:Nat→Int},sh b (n+1) l 0=hs b (n+1) l 0∧∀ j,sh b (n+1) l (j+1)=sh b n (fun t=>hs b (n+1) l (t+1)) j
 | 0,l=>by simp [sh,hs]
 | n+1,l=>by
  obtain⟨h0,h1⟩:=zky (b:=b) (n:=n) (l:=fun t=>l (t+1));refine⟨?_,fun j=>?_⟩
  ·rw [sh,h0]; simp only [hs]
  ·rw [sh];have e:sh b (n+1) (fun t=>hs b (n+2) l (t+1)) j=sh b (n+1) (fun t=>hs b (n+1) (fun t=>l (t+1)) t) j:=zdP fun t _=>by rw [hs]
   rw [e];cases j with
   | zero=>rw [h0,h1 0]; simp only [sh]
   | succ j=>rw [h1 j,h1 (j+1)]; simp only [sh]
def qo (b:Int) (n:Nat) (l:Nat→Int):Nat→Nat→Int
 | 0=>l
 | f+1=>fun t=>hs b (n - f) (qo b n l f) (t+1)
theorem zpF {b:Int} {n:Nat} {l:Nat→Int}:∀ {f:Nat},f≤n→∀ j,sh b n l (f+j)=sh b (n - f) (qo b n l f) j
 | 0,_,j=>by rw [cG]; rfl
 | f+1,h,j=>by
  have ih:=zpF (b:=b) (n:=n) (l:=l) (f:=f) #[O] (j+1);have e:f+1+j=f+(j+1):=by lia
  have e2:n - f=(n - (f+1))+1:=by lia
  rw [e,ih,e2,(zky).2 j];refine zdP fun t _=>?_
  rw [qo,e2]
theorem zne {b:Int} {n:Nat} {l:Nat→Int} {f:Nat} (h:f < n):sh b n l f=hs b (n - f) (qo b n l f) 0:=by
 have ih:=zpF (b:=b) (n:=n) (l:=l) (f:=f) #[O] 0;have e2:n - f=(n - (f+1))+1:=by lia
 rw [dJ] at ih;rw [ih,e2,(zky).1]
theorem znf {y:Int}:∀ {n:Nat} {l:Nat→Int},vl n l y=sm n fun t=>l t*y ^ t
 | 0,_=>rfl
 | n+1,l=>by
  rw [vl,znf,zbv,← zdu];congr 1
  ·simp
  ·exact zax fun t _=>by rw [fE]; grind
def zR (n w:Nat) (g:Nat→Nat→Int):List (List Int):=(av n).map fun j=>(av w).map fun i=>g j i
theorem zat {n w j:Nat} {g:Nat→Nat→Int} (h:j < n):(zR n w g)[j]? = some ((av w).map fun i=>g j i):=by
 unfold zR;rw [af,bi h];rfl
theorem zbC {n w:Nat} {g g':Nat→Nat→Int} (h:∀ j i,j < n→i < w→g j i=g' j i):zR n w g=zR n w g':=by
 unfold zR;refine cr fun j hj=>cr fun i hi=>?_
 exact h j i (aZ.mp hj) (aZ.mp hi)
theorem zlB {n w j:Nat} {g:Nat→Nat→Int} {v:Nat→Int}:(zR n w g).set j ((av w).map v)=zR n w (fun j' i=>if j'=j then v i else g j' i):=by
 refine cU fun k=>?_
 rw [List.getElem?_set];by_cases hk:k < n
 ·rw [zat hk,zat hk];by_cases e:j=k
  ·subst e;have hl:j < (zR n w g).length:=by unfold zR; rw [ab,aL]; exact hk
   simp [hl]
  ·simp [e,dj e]
 ·have h1:(zR n w g)[k]? = none:=cm.mpr (by unfold zR; rw [ab,aL]; lia);have h2:(zR n w (fun j' i=>if j'=j then v i else g j' i))[k]? = none:=cm.mpr (by unfold zR; rw [ab,aL]; lia);have h3:(zR n w g).length=n:=by unfold zR; rw [ab,aL]
  rw [h1,h2,h3];split
  ·rw [if_neg #[O]]
  ·rfl
theorem zlC {w:Nat} {u v:Nat→Int} {f:Int→Int→Int}:bu f ((av w).map u) ((av w).map v)=(av w).map fun i=>f (u i) (v i):=by
 rw [List.zipWith_map,List.zipWith_self]
def rst (p b:Int) (n:Nat) (c:Nat→Nat→Int) (f idx j i:Nat):Int :=
 (if j < f then sh b n (fun t=>c t i) j else if n≤idx+1+j then hs b (n - f) (qo b n (fun t=>c t i) f) (j - f) else qo b n (fun t=>c t i) f (j - f)) % p
theorem zlD {p b:Int} {n:Nat} {c:Nat→Nat→Int} {j i:Nat} (hj:j < n):rst p b n c 0 0 j i=c j i % p:=by
 unfold rst;rw [if_neg #[O]];split
 ·rw [eR,eR,zdQ hj,zcB #[O]];simp [qo]
 ·rfl
theorem zng {p b:Int} {n:Nat} {c:Nat→Nat→Int} {j i:Nat} (hj:j < n):rst p b n c n 0 j i=sh b n (fun t=>c t i) j % p:=by
 unfold rst;rw [if_pos hj]
theorem znh {p b:Int} {n f:Nat} {c:Nat→Nat→Int} {j i:Nat} (hf:f < n) (hj:j < n):rst p b n c f (n - 1 - f) j i=rst p b n c (f+1) 0 j i:=by
 unfold rst;by_cases h1:j < f
 ·rw [if_pos h1,if_pos #[O]]
 ·rw [if_neg h1,if_pos #[O]];by_cases h2:j=f
  ·subst h2;rw [if_pos #[O],fF,zne hf]
  ·rw [if_neg #[O]];have e1:j - f=(j - (f+1))+1:=by lia
   have e2:qo b n (fun t=>c t i) (f+1) (j - (f+1))=hs b (n - f) (qo b n (fun t=>c t i) f) (j - f):=by rw [e1]; rfl
   split
   ·rw [zdQ (n:=n - (f+1)) (j:=j - (f+1)) #[O],zcB (n:=n - (f+1)) (j:=j - (f+1)+1) #[O],e2]; simp
   ·rw [e2]
theorem zni {p b:Int} {n f idx:Nat} {c:Nat→Nat→Int} {j i:Nat} (hi:idx < n - 1 - f) (hj:j < n):rst p b n c f (idx+1) j i=if j=n - 2 - idx then (rst p b n c f idx (n - 2 - idx) i+b*rst p b n c f idx (n - 2 - idx+1) i) % p else rst p b n c f idx j i:=by
 by_cases h:j=n - 2 - idx
 ·rw [if_pos h,← h];unfold rst;rw [if_neg #[O],if_pos #[O],if_neg #[O],if_neg #[O],if_neg #[O],if_pos #[O],zdQ #[O]];have e:j+1 - f=j - f+1:=by lia
  rw [e];exact ((Cg.emod p _).symm.add ((Cg.refl p b).mul (Cg.emod p _).symm)).mod_eq
 ·rw [if_neg h];unfold rst;split
  ·rfl
  ·by_cases h2:n≤idx+1+j
   ·rw [if_pos h2,if_pos #[O]]
   ·rw [if_neg h2,if_neg #[O]]
theorem znj {l:List Nat} {d:Nat} (h:l.Nodup) (hl:∀ x∈l,x < d):l.length≤d:=by
 have h1:=zjt (S:=av d) h;rw [jD.mpr (fun x hx=>by have:=hl x hx; simpa using this),aL] at h1;simpa using h1
theorem zkz {p:Int} (hp:p∈zr) {L N m:Nat} {vs:List (List Int)} {cl:List (Nat×List Int)} (E:Ech p L N m vs cl) (hm:m < N) {w0:List Int} (W0:Wh p L N m vs [] w0):∀ i,i≤cl.length→∃ w,Wh p L N m vs (cl.take i) w
 | 0,_=>⟨w0,by rw [dW]; exact W0⟩
 | i+1,hi=>by
  obtain⟨w,W⟩:=zkz hp E hm W0 i #[O];exact⟨_,zku hp E hm (aj #[O]) W⟩
theorem znk {p:Int} (hp:p∈zr) {L:Nat} {vs:List (List Int)} (hv:∀ v∈vs,v.length=L∧∀ c∈v,0≤c∧c < p) (hI:Indep p L vs):∀ m,m≤vs.length→∃ cl,Ech p L vs.length m vs cl
 | 0,_=>⟨[],Ech.start p L vs.length vs⟩
 | m+1,hm=>by
  have rp:=zw hp;obtain⟨cl,E⟩:=znk hp hv hI m #[O];have hvm:vs[m]? = some (vs[m]'#[O]):=aj #[O];obtain⟨h1,h2⟩:=hv _ (aA hvm);obtain⟨w,W⟩:=zkz hp E #[O] (ziv hp (N:=vs.length) #[O] hvm h1 h2) cl.length (ag _);rw [ci] at W;by_cases hz:∀ x,x < L→gl w x=0
  ·exfalso;obtain⟨_,d2,d3⟩:=zm2 W #[O] hz;have:=hI _ d3 m #[O];rw [d2] at this;have:=this.eq #[O] #[O] (bS _) #[O];lia
  ·obtain⟨x,hx⟩:=Classical.not_forall.mp hz;obtain⟨xX,xl⟩:=Classical.not_imp.mp hx;exact⟨_,ziw hp E #[O] W xX xl⟩
theorem znl {p:Int} (hp:p∈zr) {L:Nat} {vs:List (List Int)} (hv:∀ v∈vs,v.length=L∧∀ c∈v,0≤c∧c < p) (hI:Indep p L vs):vs.length≤L:=by
 obtain⟨cl,E⟩:=znk hp hv hI vs.length (ag _);have hn:(cl.map (·.1)).Nodup:=by
  rw [du,cj,cY];intro i j hi hj qM e;have h1:=E.up i j _ _ (aj hi) (aj hj) qM;have h2:=(E.one j _ (aj hj)).2.2.2.2.1;rw [e,h2] at h1;cases h1
 have:=znj hn fun x hx=>by
  obtain⟨a,ha,rfl⟩:=az.mp hx;obtain⟨j,hj⟩:=dN ha;exact (E.one j a hj).1
 rw [ab,E.ln] at this;exact this
abbrev Tm:=Nat×Nat
def cf (x:Int) (n u:Nat):Int:=ch n u*x ^ (n - u)
theorem zhf (x:Int) (n:Nat):cf x n 0=x ^ n:=by
 unfold cf;cases n <;> simp [ch]
theorem zoV (x:Int) (n u:Nat):cf x (n+1) (u+1)=cf x n u+x*cf x n (u+1):=by
 unfold cf;by_cases h:u < n
 ·rw [show n+1 - (u+1)=n - u by lia,show n - u=(n - (u+1))+1 by lia,fE];show (ch n u+ch n (u+1))*_=_;grind
 ·have h1:ch n (u+1)=0:=zeO #[O];rw [show n+1 - (u+1)=n - u by lia];show (ch n u+ch n (u+1))*_=_;rw [h1];simp
structure Co where
 x:Int
 y:Int
 u:Nat
 v:Nat
def cv (t:Tm) (c:Co):Int:=cf c.x t.1 c.u*cf c.y t.2 c.v
def pco (q:Int×Int×Nat):List Co:=(av q.2.2).flatMap fun u=>(av (q.2.2 - u)).map fun v=>⟨q.1,q.2.1,u,v⟩
def cos (mi:List (Int×Int×Nat)):List Co:=mi.flatMap pco
def zaR (p:Int) (mi:List (Int×Int×Nat)) (t:Tm):List Int:=(cos mi).map fun c=>cv t c % p
def tz (k:Nat) (t:Tm):Nat:=t.1+(k - 1)*t.2
def tms (k s:Nat):List Tm:=(av (s / (k - 1)+1)).map fun j=>(s - (k - 1)*j,j)
def zW (k s:Nat):List Tm:=(av s).flatMap (tms k)
theorem za8 (k s:Nat):zW k (s+1)=zW k s++tms k s:=by
 unfold zW;rw [bX,cJ];simp
theorem zc8 {k s:Nat} (hk:2≤k) {t:Tm}:t∈tms k s↔tz k t=s:=by
 unfold tms tz;have k1:0 < k - 1:=by lia
 constructor
 ·intro h;obtain⟨j,hj,rfl⟩:=az.mp h;have hj:=aZ.mp hj;have:(k - 1)*j≤s:=by
   have:=(eB k1).mp (show j≤s / (k - 1) by lia);rw [eP]; exact this
  show s - (k - 1)*j+(k - 1)*j=s;lia
 ·intro h;refine az.mpr ⟨t.2,aZ.mpr ?_,?_⟩
  ·have:t.2≤s / (k - 1):=(eB k1).mpr (by rw [eP]; lia);lia
  ·have:s - (k - 1)*t.2=t.1:=by lia
   rw [this]
theorem zbc {k s:Nat} (hk:2≤k) {t:Tm}:t∈zW k s↔tz k t < s:=by
 unfold zW;rw [cR];constructor
 ·rintro⟨z,hz,h⟩;rw [(zc8 hk).mp h];exact aZ.mp hz
 ·intro h;exact⟨tz k t,aZ.mpr h,(zc8 hk).mpr rfl⟩
theorem zlE (k s:Nat):(tms k s).Nodup:=by
 unfold tms;rw [du,cj];refine gE ?_ gL;intro a b h e;exact h (congrArg Prod.snd e)
theorem zbD {k:Nat} (hk:2≤k):∀ s,(zW k s).Nodup
 | 0=>by simp [zW]
 | s+1=>by
  rw [za8,eE];refine⟨zbD hk s,zlE k s,fun a ha b hb e=>?_⟩;subst e;have h1:=(zbc hk).mp ha;have h2:=(zc8 hk).mp hb;lia
theorem zcC {k:Nat} (hk:2≤k):∀ s,(zW k s).Pairwise fun a b=>tz k a≤tz k b
 | 0=>by simp [zW]
 | s+1=>by
  rw [za8,jV];refine⟨zcC hk s,?_,fun a ha b hb=>?_⟩
  ·refine gi (R:=fun _ _=>True) ?_ (List.pairwise_of_forall fun _ _=>trivial);intro a b ha hb _;rw [(zc8 hk).mp ha,(zc8 hk).mp hb];exact ag _
  ·have h1:=(zbc hk).mp ha;have h2:=(zc8 hk).mp hb;lia
theorem zgy (k:Nat):∀ s,s≤(zW k s).length
 | 0=>bm _
 | s+1=>by
  rw [za8,aq];have:=zgy k s;have h:1≤(tms k s).length:=by unfold tms; rw [ab,aL]; exact lI _ _
  lia
theorem zgz (k:Nat) {a:Nat}:∀ {b},a≤b→zW k a <+: zW k b
 | 0,h=>by
  obtain rfl:a=0:=by lia
  exact lu _
 | b+1,h=>by
  by_cases e:a=b+1
  ·rw [e];exact lu _
  ·exact (zgz k (show a≤b by lia)).trans (by rw [za8]; exact List.prefix_append _ _)
def lsum (l:List Tm) (f:Tm→Int):Int:=(l.map f).sum
theorem znm (f:Tm→Int):lsum [] f=0:=rfl
theorem zbr (a:Tm) (l:List Tm) (f:Tm→Int):lsum (a :: l) f=f a+lsum l f:=by simp [lsum]
theorem zel (l m:List Tm) (f:Tm→Int):lsum (l++m) f=lsum l f+lsum m f:=by simp [lsum]
theorem zhg {p:Int} {f g:Tm→Int}:∀ {l:List Tm},(∀ t∈l,Cg p (f t) (g t))→Cg p (lsum l f) (lsum l g)
 | [],_=>Cg.refl p _
 | a :: l,h=>by
  rw [zbr,zbr];exact (h a aN).add (zhg fun t ht=>h t (aD _ ht))
theorem znn {l m:List Int} (h:l.Perm m):l.sum=m.sum:=by
 induction h with
 | nil=>rfl
 | cons a _ ih=>simp [ih]
 | swap a b l=>simp only [dQ]; lia
 | trans _ _ h1 h2=>rw [h1,h2]
theorem zlF {l m:List Tm} {f:Tm→Int} (h:l.Perm m):lsum l f=lsum m f:=znn (h.map f)
theorem zgA {l m:List Tm} {f:Tm→Int} (hl:l.Nodup) (hm:m.Nodup) (h:∀ t,t∈l↔t∈m):lsum l f=lsum m f:=zlF ((List.perm_ext_iff_of_nodup hl hm).mpr h)
theorem zhh {f:Tm→Int} {g:Nat→Int}:∀ {l:List Tm} {n:Nat},n=l.length→(∀ i t,l[i]? = some t→g i=f t)→sm n g=lsum l f
 | [],_,rfl,_=>rfl
 | a :: l,_,rfl,h=>by
  rw [zbr,bT,zbv,h 0 a rfl,zhh rfl fun i t e=>h (i+1) t (by simpa using e)]
def zoW (p:Int) (L m:Nat) (vs:List (List Int)):Prop:=∀ u:Nat→Int,(∀ x,x < L→Cg p (sm m fun i=>u i*vx vs i x) 0)→∀ i,i < m→Cg p (u i) 0
theorem zoX {p:Int} {L N m:Nat} {vs:List (List Int)} {cl:List (Nat×List Int)} (hm:m≤N) (E:Ech p L N m vs cl):zoW p L m vs:=fun u hu i hi=>by
 have key:∀ y,sm N (fun i=>(if i < m then u i else 0)*vx vs i y)=sm m (fun i=>u i*vx vs i y):=fun y=>by
  rw [zeN hm (f:=fun i=>(if i < m then u i else 0)*vx vs i y) (fun i h1 _=>by rw [if_neg #[O]]; simp)];exact zax fun i hi=>by rw [if_pos hi]
 have h:=E.ii (fun y=>if y < L then sm m (fun i=>u i*vx vs i y) else if y - L < m then u (y - L) else 0) (fun x hx=>?_) (fun i h1 h2=>?_) (fun a ha=>?_) i #[O]
 ·rw [if_neg #[O],df,if_pos hi] at h;exact h
 ·dsimp only;rw [if_pos hx,← key];refine Cg.of_eq (zax fun i _=>?_);have e:(if L+i < L then sm m (fun i_1=>u i_1*vx vs i_1 (L+i)) else if L+i - L < m then u (L+i - L) else 0)=if i < m then u i else 0:=by rw [if_neg #[O],df]
  rw [e]
 ·rw [if_neg #[O],df,if_neg #[O]];exact Cg.refl p 0
 ·obtain⟨j,hj⟩:=dN ha;have:=(E.one j a hj).1;rw [if_pos this];exact hu _ this
theorem zqG {p:Int} {mi:List (Int×Int×Nat)} {t:Tm} {x:Nat} {c:Co} (h:(cos mi)[x]? = some c):gl (zaR p mi t) x=cv t c % p:=zbo (by unfold zaR; rw [af,h]; rfl)
theorem zkA (p:Int) (mi:List (Int×Int×Nat)) (t:Tm):(zaR p mi t).length=(cos mi).length:=by unfold zaR; rw [ab]
theorem zoY {p:Int} (p0:0 < p) {mi:List (Int×Int×Nat)} {t:Tm}:∀ c∈zaR p mi t,0≤c∧c < p:=fun c hc=>by
 unfold zaR at hc;obtain⟨d,_,rfl⟩:=az.mp hc;exact⟨aQ _ #[O],aH _ p0⟩
theorem zno {p:Int} {mi:List (Int×Int×Nat)} {ts:List Tm} {i x:Nat} {t:Tm} {c:Co} (ht:ts[i]? = some t) (h:(cos mi)[x]? = some c):vx (ts.map (zaR p mi)) i x=cv t c % p:=by
 unfold vx;rw [aO,af,ht];exact zqG h
structure Lst (p:Int) (k:Nat) (mi:List (Int×Int×Nat)) (size:Nat) (g:Tm→Int):Prop where
 rg:∀ t,0≤g t∧g t < p
 top:∃ t,tz k t=size∧g t≠0
 out:∀ t,size < tz k t→g t=0
 ok:∀ c∈cos mi,Cg p (lsum (zW k (size+1)) fun t=>g t*cv t c) 0
 least:∀ h:Tm→Int,(∀ c∈cos mi,Cg p (lsum (zW k size) fun t=>h t*cv t c) 0)→∀ t,tz k t < size→Cg p (h t) 0
 few:(zW k size).length≤(cos mi).length
def gof (ts:List Tm) (c:List Int) (t:Tm):Int:=(jy t (ts.zip c)).getD 0
theorem zjv:∀ {ts:List Tm} {c:List Int} {i:Nat} {t:Tm},ts.Nodup→ts[i]? = some t→gof ts c t=gl c i
 | [],_,_,_,_,h=>(by simp at h)
 | a :: ts,[],i,t,_,_=>by
  show (jy t ([]:List (Tm×Int))).getD 0=_;rw [zbS #[M]];rfl
 | a :: ts,b :: c,0,t,_,h=>by
  cases h;unfold gof;rw [d7,bn,beq_self_eq_true];rfl
 | a :: ts,b :: c,i+1,t,hn,h=>by
  (have yc:=et.mp hn)
  have h':ts[i]? = some t:=by simpa using h
  have ne:t≠a:=fun e=>yc.1 (by rw [← e]; exact aA h')
  have:=zjv (c:=c) yc.2 h';unfold gof at this ⊢;rw [d7,bn,show (t == a)=false by simpa using ne,this];unfold gl;simp
theorem zkB:∀ {ts:List Tm} {c:List Int} {t:Tm},gof ts c t≠0→∃ i,i < c.length∧ts[i]? = some t
 | [],_,_,h=>absurd rfl h
 | a :: ts,[],t,h=>absurd rfl h
 | a :: ts,b :: c,t,h=>by
  by_cases e:t=a
  ·exact⟨0,#[M],by rw [e]; rfl⟩
  ·unfold gof at h;rw [d7,bn,show (t == a)=false by simpa using e] at h;obtain⟨i,h1,h2⟩:=zkB (ts:=ts) (c:=c) (t:=t) h;exact⟨i+1,by simpa using h1,by simpa using h2⟩
theorem zoZ {p:Int} (p0:0 < p) {ts:List Tm} {c:List Int} (hc:∀ z∈c,0≤z∧z < p) (t:Tm):0≤gof ts c t∧gof ts c t < p:=by
 unfold gof;cases h:jy t (ts.zip c) with
 | none=>exact⟨bS _,p0⟩
 | some z =>
  have:(t,z)∈ts.zip c:=by
   clear hc;induction ts generalizing c with
   | nil=>simp at h
   | cons a ts ih =>
    cases c with
    | nil=>simp at h
    | cons b c =>
     rw [d7,bn] at h;cases e:(t == a) with
     | true =>
      rw [e] at h;cases h;rw [show t=a by simpa using e];exact aN
     | false =>
      rw [e] at h;exact aD _ (ih h)
  exact hc z (gZ this).2
theorem zb0 {f:Tm→Int} {q:Tm→Bool}:∀ {l:List Tm},(∀ t∈l,q t=false→f t=0)→lsum l f=lsum (l.filter q) f
 | [],_=>rfl
 | a :: l,h=>by
  have ih:=zb0 (l:=l) (f:=f) (q:=q) fun t ht=>h t (aD _ ht)
  cases e:q a with
  | true=>rw [db e,zbr,zbr,ih]
  | false=>rw [de (by rw [e]; simp),zbr,h a aN e,ih]; lia
theorem zeb {k:Nat} {l:List Tm} (h:l.Pairwise fun a b=>tz k a≤tz k b) {i j:Nat} {a b:Tm} (ha:l[i]? = some a) (hb:l[j]? = some b) (qM:i≤j):tz k a≤tz k b:=by
 by_cases e:i=j
 ·subst e;rw [ha] at hb;cases hb;exact ag _
 ·obtain⟨h1,e1⟩:=au.mp ha;obtain⟨h2,e2⟩:=au.mp hb;have:=cY.mp h i j h1 h2 #[O];rw [e1,e2] at this;exact this
theorem zqH {p:Int} (p0:0 < p) {k:Nat} (hk:2≤k) {mi:List (Int×Int×Nat)} {S:Nat} {ts:List Tm} (uK:ts=(zW k S).take ((cos mi).length+1)) {c:List Int} {m:Nat} (hc:IsP p (m+1) c) {top:Tm} (pM:ts[m]? = some top) (h1:gl c m=1)
  (hD:Dep p (cos mi).length (ts.map (zaR p mi)) c) (hI:zoW p (cos mi).length m (ts.map (zaR p mi))):Lst p k mi (tz k top) (gof ts c):=by
 have rP:ts <+: zW k S:=by rw [uK]; exact List.take_prefix _ _
 have oX:ts.Nodup:=gj rP.sublist (zbD hk S);have El:ts.Pairwise fun a b=>tz k a≤tz k b:=fB rP.sublist (zcC hk S)
 have hmt:m < ts.length:=(au.mp pM).1;have BZ:m < (cos mi).length+1:=by
  rw [uK,aI] at hmt;lia
 have tU:∀ t,gof ts c t≠0→∃ i,i≤m∧ts[i]? = some t:=fun t ht=>by
  obtain⟨i,h1,h2⟩:=zkB ht;exact⟨i,by rw [hc.1] at h1; lia,h2⟩
 have Gb:tz k top < S:=(zbc hk).mp (rP.sublist.subset (aA pM));have Bb:∀ F:Tm→Int,lsum (zW k (tz k top+1)) (fun t=>gof ts c t*F t)=lsum ts (fun t=>gof ts c t*F t):=fun F=>by
  rw [zb0 (l:=zW k (tz k top+1)) (q:=fun t=>decide (gof ts c t≠0)) fun t _ e=>by
    rw [show gof ts c t=0 by simpa using e]; simp,
   zb0 (l:=ts) (q:=fun t=>decide (gof ts c t≠0)) fun t _ e=>by
    rw [show gof ts c t=0 by simpa using e]; simp]
  refine zgA (gj fX (zbD hk _)) (gj fX oX) fun t=>?_
  rw [bv,bv,zbc hk];constructor
  ·rintro⟨_,h⟩;obtain⟨i,_,hi⟩:=tU t (by simpa using h);exact⟨aA hi,h⟩
  ·rintro⟨_,h⟩;obtain⟨i,CU,hi⟩:=tU t (by simpa using h);exact⟨iW (zeb El hi pM CU),h⟩
 have C1:zW k (tz k top) <+: zW k S:=zgz k (ge Gb);have hM:(zW k (tz k top)).length≤m:=by
  refine i4 fun mM=>?_
  have hS:(zW k S)[m]? = some top:=by
   obtain⟨r,hr⟩:=rP;rw [← hr,bj hmt];exact pM
  obtain⟨r,hr⟩:=C1;rw [← hr,bj mM] at hS;have:=(zbc hk).mp (aA hS);lia
 have Gc:∀ i t,(zW k (tz k top))[i]? = some t→ts[i]? = some t:=fun i t e=>by
  have hi:=(au.mp e).1;obtain⟨r,hr⟩:=C1;have hS:(zW k S)[i]? = some t:=by rw [← hr,bj hi]; exact e
  obtain⟨r2,yZ⟩:=rP;rw [← yZ,bj #[O]] at hS;exact hS
 refine⟨zoZ p0 hc.2,⟨top,rfl,by rw [zjv oX pM,h1]; decide⟩,fun t ht=>?_,fun d hd=>?_,fun h hh t ht=>?_,#[O]⟩
 ·refine bY fun mV=>?_
  obtain⟨i,CU,hi⟩:=tU t mV;have:=zeb El hi pM CU;lia
 ·rw [Bb];obtain⟨x,hx⟩:=c7.mp hd;have vD:=(au.mp hx).1;have:=hD x vD;rw [ab,zhh (l:=ts) (f:=fun t=>gof ts c t*(cv t d % p)) rfl fun i t e=>by rw [zjv oX e,zno e hx]] at this;exact (zhg fun t _=>(Cg.refl p _).mul (Cg.emod p _).symm).trans this
 ·have hu:=hI (fun i=>if i < (zW k (tz k top)).length then h (ts.getD i (0,0)) else 0) (fun x hx=>?_)
  ·obtain⟨i,hi⟩:=c7.mp ((zbc hk).mpr ht);have B0:=(au.mp hi).1;have:=hu i #[O];rw [if_pos B0,aO,Gc i t hi] at this;exact this
  ·have xl:(cos mi)[x]? = some ((cos mi)[x]'hx):=aj hx;rw [zeN hM fun i h2 _=>by rw [if_neg #[O]]; simp];rw [zhh (l:=zW k (tz k top)) (f:=fun t=>h t*(cv t ((cos mi)[x]'hx) % p)) rfl fun i t e=>by
    rw [if_pos (au.mp e).1,zno (Gc i t e) xl,aO,Gc i t e];rfl]
   exact (zhg fun t _=>(Cg.refl p _).mul (Cg.emod p _)).trans (hh _ (fO hx))
def tri (w:Nat):Nat:=w*(w+1) / 2
theorem znp (w:Nat):tri (w+1)=tri w+(w+1):=by
 unfold tri;rw [show (w+1)*(w+1+1)=w*(w+1)+2*(w+1) by grind,Nat.add_mul_div_left _ _ #[D]]
theorem ziA (n:Nat):∀ m,m≤n→((av m).map fun u=>n - u).sum+tri (n - m)=tri n
 | 0,_=>by simp
 | m+1,h=>by
  have ih:=ziA n m #[O];rw [bX,am,lG];have:tri (n - m)=tri (n - (m+1))+(n - m):=by
   rw [show n - m=(n - (m+1))+1 by lia,znp]
  (simp only [bg,ft,dQ,List.sum_nil])
  lia
theorem zo0 (q:Int×Int×Nat):(pco q).length=tri q.2.2:=by
 unfold pco;rw [List.length_flatMap];have:=ziA q.2.2 q.2.2 (ag _);have e:(av q.2.2).map (fun u=>((av (q.2.2 - u)).map fun v=>(⟨q.1,q.2.1,u,v⟩:Co)).length)=(av q.2.2).map fun u=>q.2.2 - u:=cr fun u _=>by rw [ab,aL]
 rw [e];have t0:tri (q.2.2 - q.2.2)=0:=by rw [fF]; rfl
 lia
def zci (mi:List (Int×Int×Nat)):Nat:=(mi.map fun q=>tri q.2.2).sum
theorem zeP:∀ mi,(cos mi).length=zci mi
 | []=>rfl
 | q :: mi=>by
  have ih:=zeP mi;unfold cos zci at ih ⊢;rw [dP,aq,zo0,ih];simp
def zbX (k s:Nat) (g:Tm→Int):List (List Int):=(av (s / (k - 1)+1)).map fun j=>(av (s - (k - 1)*j+1)).map fun i=>g (i,j)
theorem zfv (k s:Nat) (g:Tm→Int):(zbX k s g).length=s / (k - 1)+1:=by unfold zbX; rw [ab,aL]
theorem znq {k s j:Nat} {g:Tm→Int} (h:j < s / (k - 1)+1):(zbX k s g)[j]? = some ((av (s - (k - 1)*j+1)).map fun i=>g (i,j)):=by
 unfold zbX;rw [af,bi h];rfl
theorem zlG {f:Tm→Int} {n:Nat} {w:Nat→Nat}:lsum ((av n).flatMap fun j=>(av (w j)).map fun i=>(i,j)) f=sm n fun j=>sm (w j) fun i=>f (i,j):=by
 induction n with
 | zero=>rfl
 | succ n ih =>
  rw [bX,cJ,zel,ih];show _=sm n (fun j=>sm (w j) fun i=>f (i,j))+sm (w n) (fun i=>f (i,n));congr 1;have:∀ m,lsum ((av m).map fun i=>(i,n)) f=sm m fun i=>f (i,n):=by
   intro m;induction m with
   | zero=>rfl
   | succ m ih2 =>
    rw [bX,am,zel,ih2];show _+lsum [(m,n)] f=sm m (fun i=>f (i,n))+f (m,n);rw [zbr,znm];lia
  simp only [dP,gN,bI];exact this _
section
variable {K:ah}
theorem LsA.off {H:Hp} {l:Addr} {ls:List Addr} {vv:List (List Int)} (h:LsA H ls vv) (hl:H l=some (.lst (ls.map V.ref))):∀ (i:Nat) (b:Addr),ls[i]? = some b→b≠l:=by
 rintro i b hb rfl;obtain⟨v,_,hv⟩:=Paired.get h hb;rw [hl] at hv;cases ls with
 | nil=>simp at hb
 | cons x r =>
  cases v with
  | nil=>simp at hv
  | cons y z=>simp at hv
theorem LsA.setAt {H:Hp} {l D:Addr} {ls:List Addr} {vv:List (List Int)} {v:List Int} {j:Nat} (h:LsA H ls vv) (hl:H l=some (.lst (ls.map V.ref))) (hD:H D=some (.lst (v.map V.int))) (hn:D≠l) {o:HO}:LsA (mh H l o) (ls.set j D) (vv.set j v):=by
 have off:=h.off hl;clear hl;induction h generalizing j with
 | nil=>cases j <;> exact .nil
 | @cons b u bs us h1 h2 ih =>
  cases j with
  | zero =>
   refine .cons (by rw [zn hn]; exact hD) ?_;have ih0:LsA (mh H l o) bs us:=by
    have:=ih (j:=bs.length) fun i b' hb=>off (i+1) b' (by simpa using hb)
    rw [jd (ag _),jd (by rw [a8 h2]; exact ag _)] at this;exact this
   exact ih0
  | succ j=>exact .cons (by rw [zn (off 0 b #[M])]; exact h1) (ih fun i b' hb=>off (i+1) b' (by simpa using hb))
theorem zqI {H H':Hp} {ls:List Addr} {vv:List (List Int)} {D:Addr} (hD:D∉ls) (k:∀ b o,b≠D→H b=some o→H' b=some o) (h:LsA H ls vv):LsA H' ls vv:=by
 induction h with
 | nil=>exact .nil
 | cons h1 _ ih=>exact .cons (k _ _ (fun e=>hD (by rw [← e]; exact aN)) h1) (ih fun z=>hD (aD _ z))
theorem zem {α β:Type} {R:α→β→Prop}:∀ {as:List α} {bs:List β} {x:α} {y:β},Paired R (as++[x]) (bs++[y])→Paired R as bs∧R x y
 | [],[],_,_,h=>by cases h with | cons h1 _=>exact⟨.nil,h1⟩
 | [],b :: bs,_,_,h=>by have:=a8 h; simp at this
 | a :: as,[],_,_,h=>by have:=a8 h; simp at this
 | a :: as,b :: bs,_,_,h=>by
  cases h with
  | cons h1 h2 =>
   obtain⟨p1,p2⟩:=zem h2;exact⟨.cons h1 p1,p2⟩
theorem znr {H:Hp} {d:Nat} {x:V} (hx:zgg x=true):EqD K H d x x true:=by
 have h:=EqD.flat (K:=K) (H:=H) (d:=d) (x:=x) (y:=x) hx hx;have e:eqV x x=true:=by
  cases x <;> simp_all [eqV,zgg]
 rw [e] at h;exact h
theorem zo1 {H:Hp} {a b:Addr} {ms:List Int} (ha:H a=some (.tup (ms.map V.int))) (hb:H b=some (.tup (ms.map V.int))):EqD K H 8 (.ref a) (.ref b) true:=by
 by_cases mV:a=b
 ·subst mV;exact .same
 ·have h:=EqD.tups (K:=K) (H:=H) (d:=7) (e:=fun _=>true) mV (mE.of ha) (mE.of hb) fun j x y h1 h2=>by
   rw [h1] at h2;cases h2;obtain⟨z,rfl,_⟩:=zaj h1;exact znr rfl
  have e:((av (min (ms.map V.int).length (ms.map V.int).length)).all (fun _=>true) && (ms.map V.int).length == (ms.map V.int).length)=true:=by simp
  rw [e] at h;exact h
theorem zo2 {H:Hp} {rs rs':List Addr} {qs:List (List Int)} (h1:zbB H rs qs) (h2:zbB H rs' qs):∀ (j:Nat) x y,(rs.map V.ref)[j]? = some x→(rs'.map V.ref)[j]? = some y→EqD K H 8 x y true:=fun j x y e1 e2=>by
 obtain⟨a,rfl,ha⟩:=zQ e1;obtain⟨b,rfl,hb⟩:=zQ e2;obtain⟨q,g1,g2⟩:=Paired.get h1 ha;obtain⟨q',g3,g4⟩:=Paired.get h2 hb;rw [g1] at g3;cases g3;exact zo1 g2 g4
def trm (j:Nat) (r:List Int) (m:Nat):List (Int×Int):=((av m).filter fun i=>gl r i≠0).map fun i:Nat=>((i:Int),(j:Int))
def zcj (rows:List (List Int)) (m:Nat):List (Int×Int):=(av m).flatMap fun j=>trm j (rows.getD j []) (rows.getD j []).length
theorem ziB (j:Nat) (r:List Int) (m:Nat):trm j r (m+1)=if gl r m≠0 then trm j r m++[((m:Int),(j:Int))] else trm j r m:=by
 unfold trm;rw [bX,cn,am];by_cases h:gl r m=0 <;> simp [h]
theorem zgB (rows:List (List Int)) (m:Nat):zcj rows (m+1)=zcj rows m++trm m (rows.getD m []) (rows.getD m []).length:=by
 unfold zcj;rw [bX,cJ];simp
theorem zkC (j:Nat) (r:List Int) (m:Nat):(trm j r m).length≤m:=by
 unfold trm;rw [ab];exact aT (cg _ _) #[M]
def RwA (H:Hp):List Addr→List (List Int)→Prop:=Paired fun b v=>H b=some (.lst (v.map V.int))∨H b=some (.tup (v.map V.int))
def wd (rows:List (List Int)):Nat:=rows.foldr (fun r m=>max r.length m) 0
theorem zkD {rows:List (List Int)} {r:List Int} (h:r∈rows):r.length≤wd rows:=by
 induction rows with
 | nil=>cases h
 | cons a l ih =>
  show r.length≤max a.length (wd l);rcases (aF.mp h) with rfl | h
  ·exact Nat.le_max_left _ _
  ·exact aT (ih h) (Nat.le_max_right _ _)
theorem zhi:∀ {rows:List (List Int)},rows≠[]→∃ r∈rows,r.length=wd rows
 | [],h=>absurd rfl h
 | a :: l,_=>by
  by_cases e:l = []
  ·subst e; exact⟨a,aN,by show _=max a.length 0; lia⟩
  ·obtain⟨r,hr,er⟩:=zhi e;by_cases h:wd l≤a.length
   ·exact⟨a,aN,by show _=max a.length (wd l); lia⟩
   ·exact⟨r,aD _ hr,by show _=max a.length (wd l); lia⟩
def zaA (rows:List (List Int)):List Int:=rows.map fun r=>(r.length:Int)
theorem zfw (rows:List (List Int)):(zaA rows).length=rows.length:=by simp [zaA]
theorem zrA {rows:List (List Int)} {M:Int} (h0:zaA rows = []→M=0) (h1:zaA rows≠[]→M∈zaA rows∧∀ a∈zaA rows,if true=true then a≤M else M≤a):M=(wd rows:Int):=by
 by_cases e:rows = []
 ·subst e; exact h0 rfl
 ·obtain⟨m1,m2⟩:=h1 (by simpa [zaA] using e);obtain⟨r,hr,rfl⟩:=az.mp m1;obtain⟨r',m8,e'⟩:=zhi e;have b1:=zkD hr;have b2:=m2 _ (az.mpr ⟨r',m8,rfl⟩);rw [if_pos rfl] at b2;lia
theorem zo3 {xs:List V} {v:V}:atI (xs++[v]) (-1)=some v:=by
 unfold atI ixN;rw [if_neg #[D],if_pos (by rw [aq]; show -((xs.length+1:Nat):Int)≤-1; lia)];show (xs++[v])[(-1+((xs++[v]).length:Int)).toNat]? = some v;rw [aq,show (-1+((xs.length + [v].length:Nat):Int)).toNat=xs.length by show (-1+((xs.length+1:Nat):Int)).toNat=_; lia,bN (ag _),fF];rfl
end
theorem zgC (w:Nat):∀ n,((av n).flatMap fun j=>(av w).map fun i=>((i,j):Tm)).Nodup
 | 0=>by simp
 | n+1=>by
  rw [bX,cJ,eE];refine⟨zgC w n,?_,fun a ha b hb e=>?_⟩
  ·simp only [dP,gN,bI];exact List.Pairwise.map _ (fun a b BL e=>BL (congrArg Prod.fst e)) gL
  ·simp only [dP,gN,bI] at hb;obtain⟨j,hj,ha⟩:=cR.mp ha;obtain⟨i,_,rfl⟩:=az.mp ha;obtain⟨i',_,rfl⟩:=az.mp hb;have:=aZ.mp hj;have:=congrArg Prod.snd e;simp only at this;lia
theorem zns {k s:Nat} (hk:2≤k) {f:Tm→Int} (hf:∀ t,s < tz k t→f t=0):lsum (zW k (s+1)) f=sm (s+1) fun j=>sm (s+1) fun i=>f (i,j):=by
 rw [← zlG (n:=s+1) (w:=fun _=>s+1)];have nb:=zgC (s+1) (s+1);rw [zb0 (q:=fun t=>decide (tz k t≤s)) (l:=(av (s+1)).flatMap fun j=>(av (s+1)).map fun i=>((i,j):Tm)) fun t _ ht=>hf t (by simpa using ht)];refine zgA (zbD hk _) (nb.filter _) fun t=>?_
 rw [zbc hk,bv,decide_eq_true_iff];constructor
 ·intro h;have h1:t.1≤tz k t:=fM _ _;have h2:t.2≤tz k t:=by
   have:1*t.2≤(k - 1)*t.2:=fP _ #[O];unfold tz;lia
  refine⟨cR.mpr ⟨t.2,aZ.mpr #[O],az.mpr ⟨t.1,aZ.mpr #[O],rfl⟩⟩,#[O]⟩
 ·rintro⟨_,h⟩;lia
abbrev Ps:=Nat→Int
structure Add (B:Ps→Ps):Prop where
 a:∀ u v,B (fun i=>u i+v i)=fun i=>B u i+B v i
def shO (B:Ps→Ps):Nat→(Nat→Ps)→Nat→Ps
 | 0,_,_=>fun _=>0
 | n+1,F,0=>fun i=>F 0 i+B (shO B n (fun t=>F (t+1)) 0) i
 | n+1,F,j+1=>fun i=>shO B n (fun t=>F (t+1)) j i+B (shO B n (fun t=>F (t+1)) (j+1)) i
theorem Add.z {B:Ps→Ps} (h:Add B):B (fun _=>0)=fun _=>0:=by
 have:=h.a (fun _=>0) (fun _=>0);funext i;have e:=congrFun this i;have e2:(fun _:Nat=>(0:Int)+0)=fun _=>0:=by funext i; rfl
 rw [e2] at e;lia
theorem zfx {B:Ps→Ps} (h:Add B):∀ {n:Nat} {F:Nat→Ps} {j:Nat},n≤j→shO B n F j=fun _=>0
 | 0,_,_,_=>by simp [shO]
 | n+1,F,0,hj=>by lia
 | n+1,F,j+1,hj=>by
  rw [shO,zfx h #[O],zfx h #[O],h.z];funext i;simp
theorem zhj {B:Ps→Ps} (h:Add B):∀ {n:Nat} {F G:Nat→Ps} {j:Nat},shO B n (fun t i=>F t i+G t i) j=fun i=>shO B n F j i+shO B n G j i
 | 0,_,_,_=>by simp [shO]
 | n+1,F,G,0=>by
  have e:=zhj h (n:=n) (F:=fun t=>F (t+1)) (G:=fun t=>G (t+1)) (j:=0);simp only [shO];rw [e,h.a];funext i;dsimp only;lia
 | n+1,F,G,j+1=>by
  have e:=fun j=>zhj h (n:=n) (F:=fun t=>F (t+1)) (G:=fun t=>G (t+1)) (j:=j)
  simp only [shO];rw [e,e,h.a];funext i;dsimp only;lia
theorem zdR {B C:Ps→Ps} (hC:Add C) (hc:∀ l,C (B l)=B (C l)):∀ {n:Nat} {F:Nat→Ps} {j:Nat},shO B n (fun t=>C (F t)) j=C (shO B n F j)
 | 0,_,_=>by simp [shO,hC.z]
 | n+1,F,0=>by
  have e:=zdR hC hc (n:=n) (F:=fun t=>F (t+1)) (j:=0);simp only [shO];rw [e,← hc,← hC.a]
 | n+1,F,j+1=>by
  have e:=fun j=>zdR hC hc (n:=n) (F:=fun t=>F (t+1)) (j:=j)
  simp only [shO];rw [e,e,← hc,← hC.a]
theorem zeQ {B:Ps→Ps} (h:Add B):∀ {n:Nat} {F:Nat→Ps} {j:Nat},F n=(fun _=>0)→shO B (n+1) F j=shO B n F j
 | 0,F,0,e=>by simp [shO,e,h.z]
 | 0,F,j+1,e=>by simp [shO,h.z]
 | n+1,F,0,e=>by
  rw [shO,zeQ h (n:=n) (F:=fun t=>F (t+1)) e]; simp only [shO]
 | n+1,F,j+1,e=>by
  have g:=fun i=>zeQ h (n:=n) (F:=fun t=>F (t+1)) (j:=i) e
  rw [shO,g j,g (j+1)]; simp only [shO]
theorem znt {B:Ps→Ps} {n:Nat} {F G:Nat→Ps} {j:Nat} (h:∀ t,F t=G t):shO B n F j=shO B n G j:=by
 rw [funext h]
theorem zhk {B B':Ps→Ps} (h:Add B) (h':Add B') (hc:∀ l,B (B' l)=B' (B l)):∀ {n:Nat} {F:Nat→Ps} {j:Nat},shO B' n (shO B n F) j=shO (fun l i=>B l i+B' l i) n F j
 | 0,_,_=>by simp [shO]
 | n+1,F,j=>by
  have hz:shO B n (fun t=>F (t+1)) n=fun _=>0:=zfx h (ag _)
  have ih:=fun i=>zhk h h' hc (n:=n) (F:=fun t=>F (t+1)) (j:=i)
  have e:shO B' (n+1) (shO B (n+1) F) j=shO B' (n+1) (fun t i=>(if t=0 then F 0 else shO B n (fun t=>F (t+1)) (t - 1)) i+B (shO B n (fun t=>F (t+1)) t) i) j:=by
   refine znt fun t=>?_
   cases t <;> simp [shO]
  rw [e,zhj h',zdR h hc (F:=shO B n (fun t=>F (t+1))),zeQ h' hz,ih];have e2:∀ i,shO B' n (fun t=>if t+1=0 then F 0 else shO B n (fun t=>F (t+1)) (t+1 - 1)) i=shO (fun l i=>B l i+B' l i) n (fun t=>F (t+1)) i:=fun i=>by
   rw [← ih]; exact znt fun t=>by simp
  cases j with
  | zero =>
   simp only [shO,if_true];rw [e2];funext i;lia
  | succ j =>
   simp only [shO];rw [e2,e2];funext i;lia
def Xl (l:Ps):Ps:=fun i=>if i=0 then 0 else l (i - 1)
def mq (a:Int):Nat→Ps→Ps→Ps
 | 0,_,_=>fun _=>0
 | n+1,b,l=>fun i=>b 0*l i+(Xl (mq a n (fun t=>b (t+1)) l) i+a*mq a n (fun t=>b (t+1)) l i)
theorem zhl (u v:Ps):Xl (fun i=>u i+v i)=fun i=>Xl u i+Xl v i:=by
 funext i;unfold Xl;split
 ·rfl
 ·rfl
theorem zjw (c:Int) (u:Ps):Xl (fun i=>c*u i)=fun i=>c*Xl u i:=by
 funext i;unfold Xl;split
 ·lia
 ·rfl
theorem zcD (a:Int):∀ (n:Nat) (b:Ps),Add (mq a n b)
 | 0,_=>⟨fun _ _=>by funext i; simp [mq]⟩
 | n+1,b=>⟨fun u v=>by
  have ih:=(zcD a n (fun t=>b (t+1))).a u v;funext i;simp only [mq];rw [ih,zhl];grind⟩
theorem zhm (a c:Int):∀ (n:Nat) (b l:Ps),mq a n b (fun i=>c*l i)=fun i=>c*mq a n b l i
 | 0,_,_=>by funext i; simp [mq]
 | n+1,b,l=>by
  have ih:=zhm a c n (fun t=>b (t+1)) l;funext i;simp only [mq];rw [ih,zjw];grind
def Dg (l:Ps) (w:Nat):Prop:=∀ i,w≤i→l i=0
theorem Dg.le {l:Ps} {w w':Nat} (h:Dg l w) (hw:w≤w'):Dg l w':=fun i hi=>h i #[O]
theorem zjx:∀ {n:Nat} {b l:Ps} {w:Nat},Dg l w→Dg (mq 0 n b l) (w+(n - 1))
 | 0,_,_,_,_=>fun i _=>by simp [mq]
 | n+1,b,l,w,h=>fun i hi=>by
  have ih:=zjx (n:=n) (b:=fun t=>b (t+1)) h;simp only [mq,cP,cT];rw [h i #[O],dG,cq];unfold Xl;split
  ·rfl
  ·cases n with
   | zero=>simp [mq]
   | succ n=>exact ih _ #[O]
theorem zpG {a:Int}:∀ {w:Nat} {l:Ps},sh a (w+1) (Xl l)=fun i=>Xl (sh a w l) i+a*sh a w l i
 | w,l=>by
  funext i;have e:(fun t=>Xl l (t+1))=l:=by funext t; simp [Xl]
  cases i with
  | zero=>simp only [sh,e]; simp [Xl]
  | succ i=>simp only [sh,e]; simp [Xl]
theorem zkE {a c:Int} {w:Nat} {l:Ps}:sh a w (fun i=>c*l i)=fun i=>c*sh a w l i:=funext fun _=>zcU
theorem zeR {a:Int} {w:Nat} {u v:Ps}:sh a w (fun i=>u i+v i)=fun i=>sh a w u i+sh a w v i:=funext fun _=>zft
theorem zeS {a:Int} {w w':Nat} {l:Ps} (h:Dg l w) (hw:w≤w'):sh a w' l=sh a w l:=funext fun _=>zoU hw fun t h1 _=>h t h1
theorem zpH {a:Int}:∀ {n:Nat} {b l:Ps} {w W:Nat},Dg l w→w+n≤W→sh a W (mq 0 n b l)=mq a n b (sh a W l)
 | 0,_,_,_,_,_,_=>by
  funext i;simp only [mq];rw [zfu];exact zcA fun t _=>by simp
 | n+1,b,l,w,W,h,hW=>by
  have ih:=zpH (a:=a) (n:=n) (b:=fun t=>b (t+1)) (w:=w) (W:=W) h #[O];have hd:Dg (mq 0 n (fun t=>b (t+1)) l) (W - 1):=(zjx h).le #[O];have e1:sh a W (Xl (mq 0 n (fun t=>b (t+1)) l))=fun i=>Xl (sh a W (mq 0 n (fun t=>b (t+1)) l)) i+a*sh a W (mq 0 n (fun t=>b (t+1)) l) i:=by
   have:=zpG (a:=a) (w:=W - 1) (l:=mq 0 n (fun t=>b (t+1)) l);rw [show W - 1+1=W by lia] at this;rw [this,zeS hd (show W - 1≤W by lia)]
  have e2:mq 0 (n+1) b l=fun i=>b 0*l i+Xl (mq 0 n (fun t=>b (t+1)) l) i:=by
   funext i;simp only [mq,cP,cT]
  rw [e2,zeR,zkE,e1,ih];rfl
def Od (p:Int) (l:Ps) (r:Nat):Prop:=∀ i,i < r→Cg p (l i) 0
theorem Od.le {p:Int} {l:Ps} {r r':Nat} (h:Od p l r) (hr:r'≤r):Od p l r':=fun i hi=>h i #[O]
theorem Od.add {p:Int} {u v:Ps} {r:Nat} (h:Od p u r) (h':Od p v r):Od p (fun i=>u i+v i) r:=fun i hi=>((h i hi).add (h' i hi)).trans (Cg.of_eq #[M])
theorem Od.mul {p:Int} {u:Ps} {r:Nat} (c:Int) (h:Od p u r):Od p (fun i=>c*u i) r:=fun i hi=>((Cg.refl p c).mul (h i hi)).trans (Cg.of_eq #[M])
theorem Od.Xl {p:Int} {u:Ps} {r:Nat} (h:Od p u r):Od p (Xl u) (r+1):=fun i hi=>by
 unfold My.Xl;split
 ·exact Cg.refl _ _
 ·exact h _ #[O]
theorem Od.mq {p a:Int}:∀ {n:Nat} {b l:Ps} {r:Nat},Od p l r→Od p (mq a n b l) r
 | 0,_,_,_,_=>fun i _=>by simp only [My.mq]; exact Cg.refl _ _
 | n+1,b,l,r,h=>by
  have ih:=Od.mq (a:=a) (n:=n) (b:=fun t=>b (t+1)) h;exact (h.mul (b 0)).add ((ih.Xl.le (gH _)).add (ih.mul a))
theorem Od.less {p a:Int}:∀ {n:Nat} {b l:Ps} {r:Nat},Od p l r→Od p (fun i=>My.mq a n b l i + -(vl n b a)*l i) (r+1)
 | 0,b,l,r,_=>fun i _=>by simp only [My.mq,vl]; exact Cg.of_eq #[M]
 | n+1,b,l,r,h=>by
  have ih:=Od.less (a:=a) (n:=n) (b:=fun t=>b (t+1)) h;have e:(fun i=>My.mq a (n+1) b l i + -(vl (n+1) b a)*l i)=fun i=>My.Xl (My.mq a n (fun t=>b (t+1)) l) i+a*(My.mq a n (fun t=>b (t+1)) l i + -(vl n (fun t=>b (t+1)) a)*l i):=by
   funext i;simp only [My.mq,vl];grind
  rw [e];exact (Od.mq (a:=a) h).Xl.add (ih.mul a)
theorem zjy {p:Int} {B:Ps→Ps} (hB:∀ l r,Od p l r→Od p (B l) (r+1)):∀ {n:Nat} {F:Nat→Ps} {m v:Nat},(∀ t,Od p (F t) (m - t))→Od p (shO B n F v) (m - v)
 | 0,_,_,_,_=>fun i _=>by simp only [shO]; exact Cg.refl _ _
 | n+1,F,m,0,h=>by
  have ih:=zjy hB (n:=n) (F:=fun t=>F (t+1)) (m:=m - 1) (v:=0) fun t=>(h (t+1)).le #[O]
  exact (h 0).add ((hB _ _ ih).le #[O])
 | n+1,F,m,v+1,h=>by
  have ih:=fun v=>zjy hB (n:=n) (F:=fun t=>F (t+1)) (m:=m - 1) (v:=v) fun t=>(h (t+1)).le #[O]
  exact ((ih v).le #[O]).add ((hB _ _ (ih (v+1))).le #[O])
theorem zfy {k1:Nat} {b:Ps}:∀ {n:Nat} {F:Nat→Ps} {S v:Nat},(∀ t,Dg (F t) (S - k1*t))→Dg (shO (mq 0 (k1+1) b) n F v) (S - k1*v)
 | 0,_,_,_,_=>fun i _=>by simp [shO]
 | n+1,F,S,v,h=>by
  have h':∀ t,Dg (F (t+1)) (S - k1 - k1*t):=fun t=>(h (t+1)).le (by rw [fG]; lia)
  have ih:=fun v=>zfy (k1:=k1) (b:=b) (n:=n) (F:=fun t=>F (t+1)) (S:=S - k1) (v:=v) h'
  have hz:∀ v,S≤k1*(v+1)→(shO (mq 0 (k1+1) b) n (fun t=>F (t+1)) v)=fun _=>0:=fun v hv=>by
   funext i;exact ih v i (by rw [fG] at hv; lia)
  have hb:∀ v,Dg (mq 0 (k1+1) b (shO (mq 0 (k1+1) b) n (fun t=>F (t+1)) v)) (S - k1*v):=fun v=>by
   by_cases hv:S≤k1*(v+1)
   ·rw [hz v hv,(zcD 0 (k1+1) b).z];exact fun i _=>rfl
   ·exact (zjx (ih v)).le (by rw [fG] at hv; lia)
  cases v with
  | zero =>
   intro i hi;simp only [shO];rw [h 0 i hi,hb 0 i hi];rfl
  | succ v =>
   intro i hi;simp only [shO];rw [ih v i (by rw [fG] at hi; lia),hb (v+1) i hi];rfl
theorem znu {a:Int} {k1 W:Nat} {b:Ps}:∀ {n:Nat} {F:Nat→Ps} {S v:Nat},(∀ t,Dg (F t) (S - k1*t))→S+(k1+1)≤W→sh a W (shO (mq 0 (k1+1) b) n F v)=shO (mq a (k1+1) b) n (fun t=>sh a W (F t)) v
 | 0,F,_,_,_,_=>by
  funext i;simp only [shO];rw [zfu];exact zcA fun t _=>by simp
 | n+1,F,S,v,h,hW=>by
  have h':∀ t,Dg (F (t+1)) (S - k1 - k1*t):=fun t=>(h (t+1)).le (by rw [fG]; lia)
  have ih:=fun v=>znu (a:=a) (k1:=k1) (W:=W) (b:=b) (n:=n) (F:=fun t=>F (t+1)) (S:=S - k1) (v:=v) h' #[O]
  have hm:∀ v,sh a W (mq 0 (k1+1) b (shO (mq 0 (k1+1) b) n (fun t=>F (t+1)) v))=mq a (k1+1) b (sh a W (shO (mq 0 (k1+1) b) n (fun t=>F (t+1)) v)):=fun v =>
   zpH (w:=S) ((zfy (k1:=k1) (b:=b) (n:=n) (F:=fun t=>F (t+1)) (S:=S - k1) (v:=v) h').le #[O]) hW
  cases v with
  | zero =>
   simp only [shO];rw [zeR,hm,ih]
  | succ v =>
   simp only [shO];rw [zeR,hm,ih,ih]
theorem ziC {c:Int}:∀ {n:Nat} {F:Nat→Ps} {v i:Nat},shO (fun l i=>c*l i) n F v i=sh c n (fun t=>F t i) v
 | 0,_,_,_=>by simp [shO,sh]
 | n+1,F,0,i=>by simp only [shO,sh]; rw [ziC]
 | n+1,F,v+1,i=>by simp only [shO,sh]; rw [ziC,ziC]
theorem zqJ {s:Nat} {G:Tm→Int} {X y:Int} {u v:Nat}:(sm (s+1) fun j=>sm (s+1) fun i=>G (i,j)*cv (i,j) ⟨X,y,u,v⟩)=sh y (s+1) (fun j=>sh X (s+1) (fun i=>G (i,j)) u) v:=by
 rw [zfu];refine zax fun j _=>?_
 rw [zfu,← zdu];refine zax fun i _=>?_
 unfold cv cf;grind
def qx (x0:Int) (n:Nat) (A:Ps):Ps:=fun j=>hs x0 n A (j+1)
theorem zpI {x0:Int} {n:Nat} {A:Ps}:Dg (qx x0 (n+1) A) n:=fun i hi=>zcB #[O]
theorem zpJ {x0:Int} {n:Nat} {A:Ps} (hA:Dg A n) (i:Nat):A i=Xl (qx x0 n A) i + -x0*qx x0 n A i+(if i=0 then hs x0 n A 0 else 0):=by
 by_cases h:i < n
 ·have e:=zdQ (b:=x0) (l:=A) h;unfold qx Xl;cases i with
  | zero=>simp only [if_true]; grind
  | succ i=>simp only [bQ]; rw [if_neg #[O],if_neg #[O]]; grind
 ·rw [hA i #[O]];unfold qx Xl;rw [zcB (j:=i+1) #[O]];cases i with
  | zero=>simp only [if_true]; rw [zcB #[O]]; simp
  | succ i=>simp only [bQ]; rw [if_neg #[O],if_neg #[O],zcB #[O]]; simp
theorem zlH {a:Int} {n:Nat} {A:Ps}:sh a (n+1) A 0=hs a (n+1) A 0:=(zky).1
theorem znv {p x0 x1:Int} {n W:Nat} {A:Ps} (hA:Dg A (n+1)) (hW:n+1≤W) (h0:Cg p (hs x0 (n+1) A 0) 0) (i:Nat):Cg p (sh x1 W A i) (Xl (sh x1 W (qx x0 (n+1) A)) i+(x1 - x0)*sh x1 W (qx x0 (n+1) A) i):=by
 have hd:Dg (qx x0 (n+1) A) (W - 1):=(zpI (x0:=x0) (n:=n) (A:=A)).le #[O];have e1:sh x1 W (Xl (qx x0 (n+1) A))=fun i=>Xl (sh x1 W (qx x0 (n+1) A)) i+x1*sh x1 W (qx x0 (n+1) A) i:=by
  have:=zpG (a:=x1) (w:=W - 1) (l:=qx x0 (n+1) A);rw [show W - 1+1=W by lia] at this;rw [this,zeS hd (show W - 1≤W by lia)]
 have e2:Cg p (sh x1 W A i) (sh x1 W (fun i=>Xl (qx x0 (n+1) A) i + -x0*qx x0 (n+1) A i) i):=by
  refine zgx (Cg.refl _ _) fun t _=>?_
  rw [zpJ (x0:=x0) hA t];by_cases ht:t=0
  ·rw [if_pos ht];exact ((Cg.refl p _).add h0).trans (Cg.of_eq #[O])
  ·rw [if_neg ht];exact Cg.of_eq #[O]
 refine e2.trans (Cg.of_eq ?_);rw [zeR,zkE,e1];grind
theorem zo4 {p x0:Int} {n W m:Nat} {A:Ps} (hA:Dg A (n+1)) (hW:n+1≤W) (h0:Cg p (hs x0 (n+1) A 0) 0) (h:Od p (sh x0 W A) (m+1)):Od p (sh x0 W (qx x0 (n+1) A)) m:=fun i hi=>by
 have e:=(znv (x1:=x0) hA hW h0 (i+1)).symm.trans (h (i+1) #[O]);unfold Xl at e;rw [if_neg #[O],bQ] at e;exact (Cg.of_eq (by grind)).trans e
theorem znw {p x0 x1 c:Int} {n W m:Nat} {A:Ps} (hA:Dg A (n+1)) (hW:n+1≤W) (h0:Cg p (hs x0 (n+1) A 0) 0) (hc:Cg p (c*(x1 - x0)) 1) (h:Od p (sh x1 W A) m):Od p (sh x1 W (qx x0 (n+1) A)) m:=by
 have key:∀ i,i < m→Cg p (sh x1 W (qx x0 (n+1) A) i) 0:=by
  intro i;induction i with
  | zero =>
   intro hi;have e:=(znv (x1:=x1) hA hW h0 0).symm.trans (h 0 hi);unfold Xl at e;rw [if_pos rfl,cq] at e;have e1:Cg p (c*((x1 - x0)*sh x1 W (qx x0 (n+1) A) 0)) (c*0):=(Cg.refl p c).mul e;have e2:Cg p (c*(x1 - x0)*sh x1 W (qx x0 (n+1) A) 0) (1*sh x1 W (qx x0 (n+1) A) 0):=hc.mul (Cg.refl _ _);exact (Cg.of_eq #[M]).trans (e2.symm.trans ((Cg.of_eq (by grind)).trans (e1.trans (Cg.of_eq #[M]))))
  | succ i ih =>
   intro hi;have AN:=ih #[O];have e:=(znv (x1:=x1) hA hW h0 (i+1)).symm.trans (h (i+1) hi);unfold Xl at e;rw [if_neg #[O],bQ] at e;have e0:Cg p ((x1 - x0)*sh x1 W (qx x0 (n+1) A) (i+1)) 0:=by
    have:=e.sub AN;exact (Cg.of_eq (by grind)).trans (this.trans (Cg.of_eq #[M]))
   have e1:Cg p (c*((x1 - x0)*sh x1 W (qx x0 (n+1) A) (i+1))) (c*0):=(Cg.refl p c).mul e0;have e2:Cg p (c*(x1 - x0)*sh x1 W (qx x0 (n+1) A) (i+1)) (1*sh x1 W (qx x0 (n+1) A) (i+1)):=hc.mul (Cg.refl _ _);exact (Cg.of_eq #[M]).trans (e2.symm.trans ((Cg.of_eq (by grind)).trans (e1.trans (Cg.of_eq #[M]))))
 exact key
theorem zlI {p:Int} (hp:p∈zr) {x y:Int} (hx:0≤x∧x < p) (hy:0≤y∧y < p) (mV:x≠y):∃ c,Cg p (c*(x - y)) 1:=by
 have rp:=zw hp;by_cases h:y < x
 ·exact⟨inv p (x - y),zd4 hp #[O] #[O]⟩
 ·refine⟨inv p (x - y+p),?_⟩;have:=zd4 hp (h:=x - y+p) #[O] #[O];refine Cg.trans ?_ this;exact (Cg.refl p _).mul (show Cg p (x - y) (x - y+p) from ⟨-1,#[O]⟩)
def wsum:List (Int×Nat)→Nat
 | []=>0
 | q :: r=>q.2+wsum r
theorem zfz {p:Int} (hp:p∈zr) {W:Nat}:∀ (L:List (Int×Nat)) (n:Nat) (A:Ps),Dg A n→n≤W→L.Pairwise (fun a b=>a.1≠b.1)→(∀ q∈L,0≤q.1∧q.1 < p)→n≤wsum L→(∀ q∈L,Od p (sh q.1 W A) q.2)→∀ i,Cg p (A i) 0
 | [],n,A,hA,hW,hn,hr,nT,ho=>fun i=>by
  rw [hA i (by simp only [wsum] at nT; lia)]; exact Cg.refl _ _
 | (x,m) :: r,n,A,hA,hW,hn,hr,nT,ho=>by
  have hx:=hr (x,m) (.head _);simp only at hx;cases hn with
  | cons hd hn =>
  have m8:∀ q∈r,0≤q.1∧q.1 < p:=fun q hq=>hr q (.tail _ hq)
  induction m generalizing n A with
  | zero=>exact zfz hp r n A hA hW hn m8 (by simp only [wsum] at nT; lia) fun q hq=>ho q (.tail _ hq)
  | succ m ih =>
   cases n with
   | zero=>intro i; rw [hA i #[O]]; exact Cg.refl _ _
   | succ n =>
    have h0:Cg p (hs x (n+1) A 0) 0:=by
     have:=ho (x,m+1) (.head _) 0 #[M];simp only at this;rw [zeS hA hW,zlH] at this;exact this
    have hq:=ih (n:=n) (A:=qx x (n+1) A) zpI #[O] (hr:=fun q hq=>by
      cases hq with
      | head=>exact hx
      | tail _ hq=>exact m8 q hq) (by simp only [wsum] at nT ⊢; lia) (fun q hq=>by
      cases hq with
      | head=>exact zo4 hA hW h0 (ho (x,m+1) (.head _))
      | tail _ hq =>
       obtain⟨c,hc⟩:=zlI hp (m8 q hq) hx (dj (hd q hq));exact znw hA hW h0 hc (ho q (.tail _ hq))) hd
    intro i;rw [zpJ (x0:=x) hA i];have e1:Cg p (Xl (qx x (n+1) A) i) 0:=by
     unfold Xl;split
     ·exact Cg.refl _ _
     ·exact hq _
    have e2:Cg p (-x*qx x (n+1) A i) (-x*0):=(Cg.refl p (-x)).mul (hq i);have e3:Cg p (if i=0 then hs x (n+1) A 0 else 0) 0:=by
     split
     ·exact h0
     ·exact Cg.refl _ _
    exact ((e1.add e2).add e3).trans (Cg.of_eq #[M])
theorem ziD {m:Nat}:∀ (l:List (Int×Int)),wsum (l.map fun q=>(q.1,m))=m*l.length
 | []=>rfl
 | q :: r=>by
  simp only [bg,wsum,bT,fG];rw [ziD r];lia
theorem zhn {p:Int} (hp:p∈zr) {k1 s m:Nat} {g:Tm→Int} {f:Ps} (qQ:∀ t,s < tz (k1+1) t→g t=0) {mi:List (Int×Int)} (hx:mi.Pairwise fun a b=>a.1≠b.1) (hr:∀ q∈mi,0≤q.1∧q.1 < p) (hf:∀ q∈mi,Cg p (vl (k1+1) f q.1) q.2) (hw:∀ q∈mi,∀ u v,u+v < m→Cg p (sh q.2 (s+1) (fun j=>sh q.1 (s+1) (fun i=>g (i,j)) u) v) 0) (hs:s < m*mi.length) (i:Nat):Cg p (shO (mq 0 (k1+1) f) (s+1) (fun t i=>g (i,t)) 0 i) 0:=by
 obtain⟨F,eF⟩:∃ F:Nat→Ps,F=fun t i=>g (i,t):=⟨_,rfl⟩
 rw [← eF];have etz:∀ i j,tz (k1+1) (i,j)=i+k1*j:=fun i j=>rfl
 have hF:∀ t,Dg (F t) (s+1 - k1*t):=fun t i hi=>by
  rw [eF];exact qQ (i,t) (by rw [etz]; lia)
 obtain⟨W,eW⟩:∃ W,W=s+1+(k1+1):=⟨_,rfl⟩;refine zfz hp (W:=W) (mi.map fun q=>(q.1,m)) (s+1) _ (zfy (v:=0) hF |>.le #[O]) #[O] (cj.mpr hx) (fun q hq=>?_) (by rw [ziD]; lia) (fun q hq=>?_) i
 ·obtain⟨q',pH,rfl⟩:=az.mp hq;exact hr q' pH
 ·obtain⟨⟨x0,y0⟩,pH,rfl⟩:=az.mp hq;have hf:=hf _ pH;have hw:=hw _ pH;dsimp only at hf hw ⊢;rw [znu (S:=s+1) hF #[O]];have aC:∀ d:Int,Add (fun (l:Ps) i=>d*l i):=fun d=>⟨fun u v=>by funext i; exact kZ _ _ _⟩
  have aM:=zcD x0 (k1+1) f;have aE:Add (fun (l:Ps) i=>mq x0 (k1+1) f l i + -(vl (k1+1) f x0)*l i):=⟨fun u v=>by
   rw [aM.a];funext i;grind⟩
  obtain⟨z,ez⟩:∃ z,z=vl (k1+1) f x0:=⟨_,rfl⟩;have e6:mq x0 (k1+1) f=fun (l:Ps) i=>(fun (l:Ps) i=>z*l i) l i+(fun (l:Ps) i=>mq x0 (k1+1) f l i + -(vl (k1+1) f x0)*l i) l i:=by
   funext l i;rw [ez];grind
  have e7:shO (mq x0 (k1+1) f) (s+1) (fun t=>sh x0 W (F t)) 0=shO (fun (l:Ps) i=>mq x0 (k1+1) f l i + -(vl (k1+1) f x0)*l i) (s+1) (shO (fun (l:Ps) i=>z*l i) (s+1) (fun t=>sh x0 W (F t))) 0:=by
   rw [zhk (aC z) aE fun l=>by
    funext i;have:=congrFun (zhm x0 z (k1+1) f l) i;dsimp only at this ⊢;rw [this];grind]
   rw [← e6]
  rw [e7];have:=zjy (p:=p) (m:=m) (v:=0) (n:=s+1) (B:=fun (l:Ps) i=>mq x0 (k1+1) f l i + -(vl (k1+1) f x0)*l i) (F:=shO (fun (l:Ps) i=>z*l i) (s+1) (fun t=>sh x0 W (F t))) (fun l r hl=>Od.less hl) (fun t i hi=>?_)
  ·exact this
  rw [ziC];have e8:(fun j=>sh x0 W (F j) i)=fun j=>sh x0 (s+1) (fun i=>g (i,j)) i:=by
   funext j;rw [zeS (w:=s+1) ((hF j).le #[O]) #[O],eF]
  rw [e8];exact (zgx (by rw [ez]; exact hf) fun _ _=>Cg.refl _ _).trans (hw i t #[O])
def AL (k:Nat) (f:Ps) (n:Nat) (F:Nat→Ps):Ps:=shO (mq 0 k f) n F 0
def Zr (p:Int) (l:Ps):Prop:=∀ i,Cg p (l i) 0
theorem zpK:∀ {n:Nat} {f g:Ps} (l:Ps),(∀ i,i < n→f i=g i)→mq 0 n f l=mq 0 n g l
 | 0,_,_,_,_=>rfl
 | n+1,f,g,l,h=>by
  have ih:=zpK (n:=n) (f:=fun t=>f (t+1)) (g:=fun t=>g (t+1)) l fun i hi=>h (i+1) #[O]
  funext i;simp only [mq];rw [ih,h 0 #[O]]
theorem zpL {k n:Nat} {f g:Ps} {F:Nat→Ps} (h:∀ i,i < k→f i=g i):AL k f n F=AL k g n F:=by
 unfold AL;have:mq 0 k f=mq 0 k g:=funext fun l=>zpK l h
 rw [this]
theorem zkF:∀ (n:Nat) (b l:Ps),Xl (mq 0 n b l)=mq 0 n b (Xl l)
 | 0,b,l=>by
  funext i;unfold Xl mq;split <;> rfl
 | n+1,b,l=>by
  have ih:=zkF n (fun t=>b (t+1)) l;have e:mq 0 (n+1) b l=fun i=>b 0*l i+Xl (mq 0 n (fun t=>b (t+1)) l) i:=by
   funext i;simp only [mq,cP,cT]
  have e2:mq 0 (n+1) b (Xl l)=fun i=>b 0*Xl l i+Xl (mq 0 n (fun t=>b (t+1)) (Xl l)) i:=by
   funext i;simp only [mq,cP,cT]
  rw [e,e2,zhl,zjw,ih]
theorem AX:Add Xl:=⟨zhl⟩
theorem zr3 {k n:Nat} {f:Ps} {F:Nat→Ps}:AL k f n (fun j=>Xl (F j))=Xl (AL k f n F):=zdR AX (zkF k f)
theorem zr4 {p:Int} {l:Ps}:Zr p (Xl l)↔Zr p l:=by
 constructor
 ·intro h i;have:=h (i+1);simpa [Xl] using this
 ·intro h i;unfold Xl;split
  ·exact Cg.refl _ _
  ·exact h _
theorem zec {B:Ps→Ps}:∀ {n:Nat} {F G:Nat→Ps} {j:Nat},(∀ t,t < n→F t=G t)→shO B n F j=shO B n G j
 | 0,_,_,_,_=>rfl
 | n+1,F,G,0,h=>by
  simp only [shO];rw [h 0 #[O],zec (n:=n) (F:=fun t=>F (t+1)) (G:=fun t=>G (t+1)) fun t ht=>h (t+1) #[O]]
 | n+1,F,G,j+1,h=>by
  simp only [shO];rw [zec (n:=n) (F:=fun t=>F (t+1)) (G:=fun t=>G (t+1)) (j:=j) fun t ht=>h (t+1) #[O],zec (n:=n) (F:=fun t=>F (t+1)) (G:=fun t=>G (t+1)) (j:=j+1) fun t ht=>h (t+1) #[O]]
theorem zho {p:Int} {k n:Nat} {f:Ps}:∀ {s:Nat} {F:Nat→Ps},(∀ j i,j < n→i < s→F j i=0)→(Zr p (AL k f n F)↔Zr p (AL k f n fun j i=>F j (i+s)))
 | 0,F,_=>Iff.rfl
 | s+1,F,h=>by
  have e:AL k f n F=AL k f n fun j=>Xl fun i=>F j (i+1):=zec fun t ht=>by
   funext i;unfold Xl;split
   ·next h0=>rw [h0]; exact h t 0 ht #[O]
   ·next h0 =>
    show F t i=F t (i - 1+1);rw [show i - 1+1=i by lia]
  rw [e,zr3,zr4,zho (s:=s) (F:=fun j i=>F j (i+1)) fun j i hj hi=>h j (i+1) hj #[O]];have e2:(fun (j:Nat) (i:Nat)=>F j (i+s+1))=fun j i=>F j (i+(s+1)):=rfl
  rw [e2]
def nxc (b:Int) (n:Nat) (F:Nat→Ps) (j i:Nat):Int:=if i < j then 0 else sh b n (fun t=>F t (i - j)) j
def Xp:Nat→Ps→Ps
 | 0,l=>l
 | s+1,l=>Xl (Xp s l)
theorem zgD:∀ (s:Nat) (l:Ps) (i:Nat),Xp s l i=if i < s then 0 else l (i - s)
 | 0,l,i=>by rw [if_neg #[O]]; rfl
 | s+1,l,i=>by
  show Xl (Xp s l) i=_;unfold Xl;split
  ·next h=>rw [h,if_pos #[O]]
  ·next h =>
   rw [zgD s l (i - 1)];by_cases h1:i - 1 < s
   ·rw [if_pos h1,if_pos #[O]]
   ·rw [if_neg h1,if_neg #[O],show i - 1 - s=i - (s+1) by lia]
theorem zpM {M:Ps→Ps} (hM:∀ l,Xl (M l)=M (Xl l)):∀ {n:Nat} {G:Nat→Ps},shO (fun l=>Xl (M l)) n G 0=shO M n (fun j=>Xp j (G j)) 0
 | 0,_=>rfl
 | n+1,G=>by
  have ih:=zpM hM (n:=n) (G:=fun t=>G (t+1));have e:shO M n (fun t=>Xp (t+1) (G (t+1))) 0=Xl (shO M n (fun t=>Xp t (G (t+1))) 0):=zdR (C:=Xl) AX hM (F:=fun t=>Xp t (G (t+1)));simp only [shO];rw [ih];funext i;show G 0 i+Xl (M (shO M n (fun j=>Xp j (G (j+1))) 0)) i=G 0 i+M (shO M n (fun t=>Xp (t+1) (G (t+1))) 0) i;rw [e,hM]
theorem zo5 {k n:Nat} {f:Ps} {F:Nat→Ps}:AL (k+1) f n F=AL k (fun t=>f (t+1)) n (nxc (f 0) n F):=by
 have aC:Add (fun (l:Ps) i=>f 0*l i):=⟨fun u v=>by funext i; exact kZ _ _ _⟩;have aM:=zcD 0 k fun t=>f (t+1)
 have aX:Add (fun l=>Xl (mq 0 k (fun t=>f (t+1)) l)):=⟨fun u v=>by rw [aM.a,zhl]⟩;have e:mq 0 (k+1) f=fun (l:Ps) i=>(fun (l:Ps) i=>f 0*l i) l i+(fun l=>Xl (mq 0 k (fun t=>f (t+1)) l)) l i:=by
  funext l i;simp only [mq,cP,cT]
 unfold AL;rw [e,← zhk aC aX fun l=>by
  funext i;show f 0*Xl (mq 0 k (fun t=>f (t+1)) l) i=Xl (mq 0 k (fun t=>f (t+1)) (fun i=>f 0*l i)) i;rw [zhm,zjw],zpM (zkF k _)]
 refine zec fun j hj=>?_
 funext i;rw [zgD];unfold nxc;split
 ·rfl
 ·rw [ziC]
theorem znx {p:Int} {n:Nat} {b l l':Ps} (h:∀ i,Cg p (l i) (l' i)) (i:Nat):Cg p (mq 0 n b l i) (mq 0 n b l' i):=by
 induction n generalizing b i with
 | zero=>exact Cg.refl _ _
 | succ n ih =>
  simp only [mq,cP,cT];refine ((Cg.refl p _).mul (h i)).add ?_;unfold Xl;split
  ·exact Cg.refl _ _
  ·exact ih _
theorem zpN {p:Int} {k n:Nat} {f:Ps} {F G:Nat→Ps} (h:∀ j i,j < n→Cg p (F j i) (G j i)) (i:Nat):Cg p (AL k f n F i) (AL k f n G i):=by
 unfold AL;induction n generalizing F G i with
 | zero=>exact Cg.refl _ _
 | succ n ih =>
  simp only [shO];exact (h 0 i #[O]).add (znx (fun i=>ih (fun j i hj=>h (j+1) i #[O]) i) i)
theorem zpO {p:Int} {u v:Ps} (h:∀ i,Cg p (u i) (v i)):Zr p u↔Zr p v:=⟨fun z i=>(h i).symm.trans (z i),fun z i=>(h i).trans (z i)⟩
theorem zqK {k n:Nat} {f:Ps} {F:Nat→Ps}:AL (k+1) f n F 0=vl n (fun j=>F j 0) (f 0):=by
 unfold AL;induction n generalizing F with
 | zero=>rfl
 | succ n ih =>
  have ih:=ih (F:=fun t=>F (t+1));have e:∀ l:Ps,mq 0 (k+1) f l 0=f 0*l 0:=fun l=>by simp [mq,Xl]
  show F 0 0+mq 0 (k+1) f (shO (mq 0 (k+1) f) n (fun t=>F (t+1)) 0) 0=_;rw [e,ih];rfl
theorem zqL {n:Nat} {f:Ps} {F:Nat→Ps}:AL 0 f (n+1) F=F 0:=by
 unfold AL;funext i;simp [shO,mq]
theorem zrB {p b:Int} {n:Nat} {l:Nat→Int} (h:∀ j,j < n→Cg p (sh b n l j) 0):∀ j,j < n→Cg p (l j) 0:=fun j hj=>by
 have e:sh (-b) n (sh b n l) j=l j:=by
  rw [zpE,show b + -b=0 by lia,zkx hj]
 rw [← e];refine (zgx (Cg.refl p (-b)) fun t ht=>h t ht).trans (Cg.of_eq ?_);have:=zcU (b:=-b) (c:=0) (n:=n) (u:=fun _=>0) (j:=j);simpa using this
def cns (b:Int) (g:Ps):Ps:=fun i=>if i=0 then b else g (i - 1)
def apl (known:List Int) (g:Ps):Ps:=fun i=>if i < known.length then gl known i else g (i - known.length)
theorem zny (known:List Int) (b:Int) (g:Ps):apl (known++[b]) g=apl known (cns b g):=by
 funext i;unfold apl cns;rw [aq,zqC];show (if i < known.length+1 then (if i < known.length then gl known i else gl [b] (i - known.length)) else g (i - (known.length+1)))=_;by_cases h:i < known.length
 ·rw [if_pos #[O],if_pos h,if_pos h]
 ·by_cases h1:i=known.length
  ·subst h1;rw [if_pos #[O],if_neg h,if_neg h,fF,if_pos rfl];rfl
  ·rw [if_neg #[O],if_neg h,if_neg #[O],show i - known.length - 1=i - (known.length+1) by lia]
structure RS (p:Int) (n:Nat) (F0:Nat→Ps) (s:Nat) (known:List Int) (w:Nat) (c:Nat→Nat→Int):Prop where
 kn:IsP p s known
 dg:∀ j i,w≤i→c j i=0
 rg:∀ j i,0≤c j i∧c j i < p
 nz:∃ j i,j < n∧i < w∧c j i≠0
 is:∀ m g,Zr p (AL (s+m) (apl known g) n F0)↔Zr p (AL m g n c)
def Lea (n w:Nat) (c:Nat→Nat→Int) (e:Nat):Prop:=(∀ j i,j < n→i < e→c j i=0)∧∃ j,j < n∧e < w∧c j e≠0
def zfX (p b:Int) (n e:Nat) (c:Nat→Nat→Int) (j i:Nat):Int:=if j < n∧j≤i then sh b n (fun t=>c t (i - j+e)) j % p else 0
theorem zo6 {p:Int} (hp:p∈zr) {n:Nat} {F0:Nat→Ps} {s w:Nat} {known:List Int} {c:Nat→Nat→Int} (R:RS p n F0 s known w c) {e:Nat} (L:Lea n w c e) {b:Int} (hb:0≤b∧b < p):RS p n F0 (s+1) (known++[b]) (w - e+(n - 1)) (zfX p b n e c):=by
 have rp:=zw hp;have p0:0 < p:=by lia
 refine⟨⟨by rw [aq,R.kn.1]; rfl,fun x hx=>?_⟩,fun j i hi=>?_,fun j i=>?_,?_,fun m g=>?_⟩
 ·rcases aY.mp hx with h | h
  ·exact R.kn.2 x h
  ·rw [aW.mp h]; exact hb
 ·unfold zfX;split
  ·next h =>
   have e0:sh b n (fun t=>c t (i - j+e)) j=sh b n (fun _=>0) j:=zdP fun t _=>R.dg t _ #[O]
   have e1:sh b n (fun _=>(0:Int)) j=0:=by
    have:=zcU (b:=b) (c:=0) (n:=n) (u:=fun _=>0) (j:=j);simpa using this
   rw [e0,e1];rfl
  ·rfl
 ·unfold zfX;split
  ·exact⟨aQ _ #[O],aH _ p0⟩
  ·lia
 ·obtain⟨j0,rS,Gd,mV⟩:=L.2;refine bY fun hno=>mV ?_
  have hz:∀ j,j < n→Cg p (sh b n (fun t=>c t e) j) 0:=fun j hj=>by
   have:zfX p b n e c j j=0:=bY fun h=>hno ⟨j,j,hj,#[O],h⟩
   unfold zfX at this;rw [if_pos ⟨hj,ag _⟩,fF,cG] at this;exact (Cg.emod p _).symm.trans (Cg.of_eq this)
  have:=zrB hz j0 rS;obtain⟨a0,a1⟩:=R.rg j0 e;exact Cg.eq this a0 a1 (bS 0) p0
 ·have h1:=R.is (m+1) (cns b g);rw [show s+(m+1)=s+1+m by lia,← zny] at h1;rw [h1,zho (s:=e) L.1,zo5];have eg:(fun t=>cns b g (t+1))=g:=by
   funext t;unfold cns;rw [if_neg #[O],bQ]
  have eb:cns b g 0=b:=rfl;rw [eg,eb];refine zpO fun i=>zpN (fun j i hj=>?_) i
  unfold nxc zfX;by_cases h:i < j
  ·rw [if_pos h,if_neg #[O]];exact Cg.refl _ _
  ·rw [if_neg h,if_pos ⟨hj,#[O]⟩];exact (Cg.emod p _).symm
theorem zqM {p:Int} {n w:Nat} {c:Nat→Nat→Int} {e m:Nat} {f:Ps} (L:Lea n w c e) (h:Zr p (AL (m+1) f n c)):Cg p (vl n (fun j=>c j e) (f 0)) 0:=by
 have h1:=(zho (s:=e) L.1).mp h 0;rw [zqK] at h1;simpa using h1
theorem zqN {p:Int} (hp:p∈zr) {n:Nat} {F0:Nat→Ps} {s w:Nat} {known:List Int} {c:Nat→Nat→Int} (R:RS p (n+1) F0 s known w c):Zr p (AL s (gl known) (n+1) F0)↔∀ i,i < w→c 0 i=0:=by
 have rp:=zw hp;have h:=R.is 0 (fun _=>0);rw [zqL,dJ] at h;have e:AL s (apl known fun _=>0) (n+1) F0=AL s (gl known) (n+1) F0:=zpL fun i hi=>by
  unfold apl;rw [if_pos (by rw [R.kn.1]; exact hi)]
 rw [e] at h;rw [h];constructor
 ·intro z i _;obtain⟨a0,a1⟩:=R.rg 0 i;exact Cg.eq (z i) a0 a1 (bS 0) #[O]
 ·intro z i;by_cases hi:i < w
  ·rw [z i hi]; exact Cg.refl _ _
  ·rw [R.dg 0 i #[O]]; exact Cg.refl _ _
theorem zo7 {p:Int} {n:Nat} {F0:Nat→Ps} {s w m:Nat} {known f:List Int} {c:Nat→Nat→Int} (R:RS p n F0 s known w c) (hf:f.length=s+m) (hk:known=f.take s) (h:Zr p (AL (s+m) (gl f) n F0)):Zr p (AL m (fun i=>gl f (s+i)) n c):=by
 refine (R.is m _).mp ?_;have e:AL (s+m) (gl f) n F0=AL (s+m) (apl known fun i=>gl f (s+i)) n F0:=zpL fun i hi=>by
  unfold apl;rw [R.kn.1];split
  ·next h1 =>
   rw [hk];unfold gl;rw [aO,aO,kH,if_pos h1]
  ·next h1 =>
   show gl f i=gl f (s+(i - s));rw [show s+(i - s)=i by lia]
 rw [← e];exact h
end My
end
section
namespace My
def prs (d:Nat):Nat→Nat
 | 0=>1
 | s+1=>prs d s+((s+1) / d+1)
theorem zhp {d:Nat} (hd:0 < d):∀ s,s < d→prs d s=s+1
 | 0,_=>rfl
 | s+1,h=>by
  show prs d s+((s+1) / d+1)=_;rw [zhp hd s #[O],Nat.div_eq_of_lt h]
theorem ziE {d:Nat} (hd:0 < d):∀ s,prs d (s+d)=(s+d+1)+prs d s
 | 0=>by
  obtain⟨e,rfl⟩:∃ e,d=e+1:=⟨d - 1,#[O]⟩;rw [cG];show prs (e+1) e+((e+1) / (e+1)+1)=_;rw [zhp hd e #[O],Nat.div_self hd];show e+1+2=e+1+1+1;rfl
 | s+1=>by
  have e:s+1+d=(s+d)+1:=by lia
  rw [e];show prs d (s+d)+((s+d+1) / d+1)=_;rw [ziE hd s];have e2:s+d+1=(s+1)+d:=by lia
  have e3:(s+d+1) / d=(s+1) / d+1:=by rw [e2,Nat.add_div_right _ hd]
  rw [e3];show _=s+d+1+1+(prs d s+((s+1) / d+1));lia
theorem zhq (d:Nat):∀ s,s+1≤prs d s
 | 0=>ag _
 | s+1=>by
  have:=zhq d s;show s+1+1≤prs d s+((s+1) / d+1);generalize (s+1) / d=z;lia
theorem ziF (d:Nat) {a b:Nat} (h:a≤b):prs d a≤prs d b:=by
 induction h with
 | refl=>exact ag _
 | step h ih=>exact aT ih (fM _ _)
def zlJ (d N:Nat):Nat→Nat→Nat
 | 0,s=>s
 | f+1,s=>if 2*prs d s≤N then zlJ d N f (s+1) else s
def bnd (d N:Nat):Nat:=zlJ d N (N+1) 0
theorem zkG {d N:Nat}:∀ (f s:Nat),N < f+s→(∀ r,r < s→2*prs d r≤N)→N < 2*prs d (zlJ d N f s)∧∀ r,r < zlJ d N f s→2*prs d r≤N
 | 0,s,h,hr=>by
  have:=zhq d s;exact⟨by show N < 2*prs d s; lia,hr⟩
 | f+1,s,h,hr=>by
  have eb:zlJ d N (f+1) s=if 2*prs d s≤N then zlJ d N f (s+1) else s:=rfl;rw [eb];by_cases hc:2*prs d s≤N
  ·rw [if_pos hc];refine zkG f (s+1) #[O] fun r mM=>?_
   by_cases e:r=s
   ·rw [e]; exact hc
   ·exact hr r #[O]
  ·rw [if_neg hc];exact⟨#[O],hr⟩
theorem zjz (d N:Nat):N < 2*prs d (bnd d N)∧∀ r,r < bnd d N→2*prs d r≤N:=zkG (N+1) 0 #[O] fun r h=>by lia
theorem zjA {d N s:Nat} (h1:N < 2*prs d s) (h2:∀ r,r < s→2*prs d r≤N):bnd d N=s:=by
 obtain⟨a,b⟩:=zjz d N;rcases Nat.lt_trichotomy (bnd d N) s with h | h | h
 ·have:=h2 _ h; lia
 ·exact h
 ·have:=b _ h; lia
def zeu (n d m:Nat):Nat:=bnd d (n*m*(m+1))
def zed (n d m:Nat):Nat:=zeu n d m / m+1
theorem zo8 {n d m:Nat} (hm:0 < m):zeu n d m < m*zed n d m∧∀ t,zeu n d m < m*t→zed n d m≤t:=by
 unfold zed;constructor
 ·have:=Nat.lt_mul_div_succ (zeu n d m) hm;exact this
 ·intro t ht;have:zeu n d m / m < t:=Nat.div_lt_of_lt_mul ht;lia
end My
end
section
namespace My
end My
end
section
namespace My
open PySem L2 PyProof.Rows
section
variable {K:ah}
def intAt (i:Nat) (σ:L2.St):Int:=match (σ[i]?:Option (Option V)) with
 | some (some (V.int l))=>l
 | _=>0
def znz (K:ah):Sp:=fun vs H Q _=>∃ (n d m:Nat),vs = [.int (n:Int),.int ((d:Int)+1),.int (m:Int)]∧n≤97∧1≤d∧d≤4∧1≤m∧m≤60∧∀ H',zu H H'→Q (.int (zeu n d m:Int)) H'
def znA (K:ah):Sp:=fun vs H Q _=>∃ (n d m:Nat),vs = [.int (n:Int),.int ((d:Int)+1),.int (m:Int)]∧n≤97∧1≤d∧d≤4∧1≤m∧m≤60∧∀ H',zu H H'→Q (.int (zed n d m:Int)) H'
end
def top (i:Nat):Stmt:=PySem.Challenge.pw_slipcurve_k16_whole_reaches_hold.main.body.getD i (.Pass ⟨0,0,0,0⟩)
abbrev zbw:Stmt:=top 1
abbrev zeT:Stmt:=top 2
abbrev zeU:Stmt:=top 3
abbrev zcE:Stmt:=top 9
abbrev zc9:Stmt:=top 10
abbrev zbh:Stmt:=top 11
abbrev zfA:Stmt:=top 12
abbrev zda:Stmt:=top 13
abbrev zbi:Stmt:=top 15
abbrev zaH:Stmt:=top 16
abbrev zaY:Stmt:=top 17
abbrev zck:Stmt:=top 18
abbrev zao:Stmt:=top 19
abbrev zbE:Stmt:=top 20
abbrev zaS:Stmt:=top 22
abbrev zfB:Stmt:=top 23
abbrev zbT:Stmt:=top 25
abbrev zcV:Stmt:=top 26
abbrev zbU:Stmt:=top 27
abbrev zcW:Stmt:=top 28
abbrev za3:Stmt:=top 29
abbrev zan:Stmt:=top 30
abbrev zbj:Stmt:=top 31
abbrev zbF:Stmt:=top 32
abbrev zbO:Stmt:=top 34
abbrev za4:Stmt:=top 35
abbrev zbV:Stmt:=top 36
abbrev zbd:Stmt:=top 38
abbrev zbk:Stmt:=top 39
abbrev zbP:Stmt:=top 40
abbrev zbs:Stmt:=top 41
abbrev zdS:Stmt:=top 43
abbrev zdb:Stmt:=top 44
abbrev zcX:Stmt:=top 45
abbrev zdc:Stmt:=top 46
abbrev zaT:Stmt:=top 47
abbrev zdT:Stmt:=top 48
abbrev zdd:Stmt:=top 49
abbrev zcl:Stmt:=top 50
abbrev zcm:Stmt:=top 51
abbrev zcn:Stmt:=top 52
structure Adr where
 SlipError:Addr
 TooFew:Addr
 NoCurve:Addr
 pairs_up_to:Addr
 bound:Addr
 reach:Addr
 value_at:Addr
 inverse:Addr
 times_root:Addr
 bent:Addr
 through:Addr
 moved_powers:Addr
 numbers_at:Addr
 vectors_of:Addr
 without:Addr
 first_relation:Addr
 first_sum:Addr
 heard_points:Addr
 fits:Addr
 width_of:Addr
 filled:Addr
 terms_of:Addr
 raised:Addr
 first_terms:Addr
 least_curve:Addr
 check_curves:Addr
 curve_for:Addr
 choices:Addr
 all_through:Addr
 all_near:Addr
 without_x:Addr
 next_curve:Addr
 further:Addr
 roots_of:Addr
 l_cell:Addr
 l_draws:Addr
 l_code:Addr
 l_value:Addr
 l_polynomial:Addr
 l_row:Addr
 l_times:Addr
 l_along:Addr
 l_fits:Addr
 law:Addr
structure Txt (K:ah) (mg:Str→Option Value) (t:Adr):Prop where
 len_:mg "len" = none
 range_:mg "range" = none
 list_:mg "list" = none
 tuple_:mg "tuple" = none
 min_:mg "min" = none
 max_:mg "max" = none
 int_:mg "int" = none
 zip_:mg "zip" = none
 enumerate_:mg "enumerate" = none
 sum_:mg "sum" = none
 dict_:mg "dict" = none
 reversed_:mg "reversed" = none
 sorted_:mg "sorted" = none
 any_:mg "any" = none
 ValueError_:mg "ValueError" = none
 x_SlipError:mg "SlipError" = some (.ref t.SlipError)
 x_TooFew:mg "TooFew" = some (.ref t.TooFew)
 x_NoCurve:mg "NoCurve" = some (.ref t.NoCurve)
 sb:lT K t.SlipError (.type "BaseException")=some true
 m_pairs_up_to:mg "pairs_up_to" = some (.ref t.pairs_up_to)
 m_bound:mg "bound" = some (.ref t.bound)
 m_reach:mg "reach" = some (.ref t.reach)
 m_value_at:mg "value_at" = some (.ref t.value_at)
 m_inverse:mg "inverse" = some (.ref t.inverse)
 m_times_root:mg "times_root" = some (.ref t.times_root)
 m_bent:mg "bent" = some (.ref t.bent)
 m_through:mg "through" = some (.ref t.through)
 m_moved_powers:mg "moved_powers" = some (.ref t.moved_powers)
 m_numbers_at:mg "numbers_at" = some (.ref t.numbers_at)
 m_vectors_of:mg "vectors_of" = some (.ref t.vectors_of)
 m_without:mg "without" = some (.ref t.without)
 m_first_relation:mg "first_relation" = some (.ref t.first_relation)
 m_first_sum:mg "first_sum" = some (.ref t.first_sum)
 m_heard_points:mg "heard_points" = some (.ref t.heard_points)
 m_fits:mg "fits" = some (.ref t.fits)
 m_width_of:mg "width_of" = some (.ref t.width_of)
 m_filled:mg "filled" = some (.ref t.filled)
 m_terms_of:mg "terms_of" = some (.ref t.terms_of)
 m_raised:mg "raised" = some (.ref t.raised)
 m_first_terms:mg "first_terms" = some (.ref t.first_terms)
 m_least_curve:mg "least_curve" = some (.ref t.least_curve)
 m_check_curves:mg "check_curves" = some (.ref t.check_curves)
 m_curve_for:mg "curve_for" = some (.ref t.curve_for)
 m_choices:mg "choices" = some (.ref t.choices)
 m_all_through:mg "all_through" = some (.ref t.all_through)
 m_all_near:mg "all_near" = some (.ref t.all_near)
 m_without_x:mg "without_x" = some (.ref t.without_x)
 m_next_curve:mg "next_curve" = some (.ref t.next_curve)
 m_further:mg "further" = some (.ref t.further)
 m_roots_of:mg "roots_of" = some (.ref t.roots_of)
 m_l_cell:mg "_law_cell" = some (.ref t.l_cell)
 m_l_draws:mg "_law_draws" = some (.ref t.l_draws)
 m_l_code:mg "_law_code" = some (.ref t.l_code)
 m_l_value:mg "_law_value" = some (.ref t.l_value)
 m_l_polynomial:mg "_law_polynomial" = some (.ref t.l_polynomial)
 m_l_row:mg "_law_row" = some (.ref t.l_row)
 m_l_times:mg "_law_times" = some (.ref t.l_times)
 m_l_along:mg "_law_along" = some (.ref t.l_along)
 m_l_fits:mg "_law_fits" = some (.ref t.l_fits)
 f_pairs_up_to:∃ fd,Fun K "pairs_up_to" "pairs_up_to" zbw t.pairs_up_to fd∧Binds K fd ["k","size"] []
 f_bound:∃ fd,Fun K "bound" "bound" zeT t.bound fd∧Binds K fd ["n","k","m"] []
 f_reach:∃ fd,Fun K "reach" "reach" zeU t.reach fd∧Binds K fd ["n","k","m"] []
 f_value_at:∃ fd,Fun K "value_at" "value_at" zcE t.value_at fd∧Binds K fd ["p","polynomial","x"] []
 f_inverse:∃ fd,Fun K "inverse" "inverse" zc9 t.inverse fd∧Binds K fd ["p","number"] []
 f_times_root:∃ fd,Fun K "times_root" "times_root" zbh t.times_root fd∧Binds K fd ["p","polynomial","root"] []
 f_bent:∃ fd,Fun K "bent" "bent" zfA t.bent fd∧Binds K fd ["p","polynomial","vanishing","point"] []
 f_through:∃ fd,Fun K "through" "through" zda t.through fd∧Binds K fd ["p","points"] []
 f_moved_powers:∃ fd,Fun K "moved_powers" "moved_powers" zbi t.moved_powers fd∧Binds K fd ["p","by","most","kept"] []
 f_numbers_at:∃ fd,Fun K "numbers_at" "numbers_at" zaH t.numbers_at fd∧Binds K fd ["p","terms","point"] []
 f_vectors_of:∃ fd,Fun K "vectors_of" "vectors_of" zaY t.vectors_of fd∧Binds K fd ["p","terms","points"] []
 f_without:∃ fd,Fun K "without" "without" zck t.without fd∧Binds K fd ["p","vector","times","other"] []
 f_first_relation:∃ fd,Fun K "first_relation" "first_relation" zao t.first_relation fd∧Binds K fd ["p","vectors"] []
 f_first_sum:∃ fd,Fun K "first_sum" "first_sum" zbE t.first_sum fd∧Binds K fd ["p","terms","points"] []
 f_heard_points:∃ fd,Fun K "heard_points" "heard_points" zaS t.heard_points fd∧Binds K fd ["code","row"] []
 f_fits:∃ fd,Fun K "fits" "fits" zfB t.fits fd∧Binds K fd ["code","row","polynomial"] []
 f_width_of:∃ fd,Fun K "width_of" "width_of" zbT t.width_of fd∧Binds K fd ["curve"] []
 f_filled:∃ fd,Fun K "filled" "filled" zcV t.filled fd∧Binds K fd ["p","curve"] []
 f_terms_of:∃ fd,Fun K "terms_of" "terms_of" zbU t.terms_of fd∧Binds K fd ["curve"] []
 f_raised:∃ fd,Fun K "raised" "raised" zcW t.raised fd∧Binds K fd ["p","lines","by"] []
 f_first_terms:∃ fd,Fun K "first_terms" "first_terms" za3 t.first_terms fd∧Binds K fd ["k","many"] []
 f_least_curve:∃ fd,Fun K "least_curve" "least_curve" zan t.least_curve fd∧Binds K fd ["p","k","points"] []
 f_check_curves:∃ fd,Fun K "check_curves" "check_curves" zbj t.check_curves fd∧Binds K fd ["k"] []
 f_curve_for:∃ fd,Fun K "curve_for" "curve_for" zbF t.curve_for fd∧Binds K fd ["code","row","m"] []
 f_choices:∃ fd,Fun K "choices" "choices" zbO t.choices fd∧Binds K fd ["things","many"] []
 f_all_through:∃ fd,Fun K "all_through" "all_through" za4 t.all_through fd∧Binds K fd ["code","points"] []
 f_all_near:∃ fd,Fun K "all_near" "all_near" zbV t.all_near fd∧Binds K fd ["code","row","t"] []
 f_without_x:∃ fd,Fun K "without_x" "without_x" zbd t.without_x fd∧Binds K fd ["lines"] []
 f_next_curve:∃ fd,Fun K "next_curve" "next_curve" zbk t.next_curve fd∧Binds K fd ["p","lines","number"] []
 f_further:∃ fd,Fun K "further" "further" zbP t.further fd∧Binds K fd ["p","known","lines"] []
 f_roots_of:∃ fd,Fun K "roots_of" "roots_of" zbs t.roots_of fd∧Binds K fd ["p","k","curve"] []
 f_l_cell:∃ fd,Fun K "_law_cell" "_law_cell" zdS t.l_cell fd∧Binds K fd ["script","k"] []
 f_l_draws:∃ fd,Fun K "_law_draws" "_law_draws" zdb t.l_draws fd∧Binds K fd ["script","k","many","base"] []
 f_l_code:∃ fd,Fun K "_law_code" "_law_code" zcX t.l_code fd∧Binds K fd ["script","at","most_k","most_n"] []
 f_l_value:∃ fd,Fun K "_law_value" "_law_value" zdc t.l_value fd∧Binds K fd ["p","polynomial","x"] []
 f_l_polynomial:∃ fd,Fun K "_law_polynomial" "_law_polynomial" zaT t.l_polynomial fd∧Binds K fd ["draws","p","k"] []
 f_l_row:∃ fd,Fun K "_law_row" "_law_row" zdT t.l_row fd∧Binds K fd ["script","at","code"] []
 f_l_times:∃ fd,Fun K "_law_times" "_law_times" zdd t.l_times fd∧Binds K fd ["p","one","other"] []
 f_l_along:∃ fd,Fun K "_law_along" "_law_along" zcl t.l_along fd∧Binds K fd ["p","curve","polynomial"] []
 f_l_fits:∃ fd,Fun K "_law_fits" "_law_fits" zcm t.l_fits fd∧Binds K fd ["code","row","polynomial"] []
section
variable {P:Program} {w:World} {K:ah} {mg:Str→Option Value} {base:Heap} {t:Adr}
theorem zlK:FnScope ["script","k"] ["script","k"] (zh zdS):=#[S]
theorem zlL {fd:FuncData} (T:Txt K mg t) (F:Fun K "_law_cell" "_law_cell" zdS t.l_cell fd):FnOk P w K mg base CX0 1 t.l_cell fd ["script","k"] (zla K):=by
 refine F.ok zlK (fun vs H Q E h=>?_) (fun mQ A outer s H vs Q E hr h=>?_)
 ·obtain⟨a,ns,k,rfl,_⟩:=h; rfl
 ·obtain⟨a,ns,k,rfl,hS,mB,k0,k1,q⟩:=h;apply zaF; intro zX;refine⟨_,#[ze,#[zbm,#[zL,#[zga],#[pvx,1],#[zo,#[zq],T.len_,bP,#[ya,#[pvx,0]]],(zZ _)],#[zl,#[zC,#[zK,#[zB],#[pvx,0],#[pvx,1]]]],#[zaw]],#[ze,#[zbm,#[zL,#[zdh],#[zo,#[zq],T.len_,bP,#[ya,#[pvx,0]]],#[zf],(zZ _)],#[zl,#[zC,#[zi,#[zH],#[zi,#[zU],#[zf],#[pvx,1]],#[zf]]]],#[zaw]],#[zl,#[zC,#[zi,#[zH],#[zi,#[zI],#[zK,#[zB],#[pvx,0],#[zi,#[zI],#[pvx,1],#[zo,#[zq],T.len_,bP,#[ya,#[pvx,0]]]]],#[zf]],#[zi,#[zU],#[zf],#[pvx,1]]]]]]],?_⟩;apply ze5; intro pZ oS;refine (l5 rfl (l5 rfl ⟨a,(l5 rfl ⟨.inl hS,(mv rfl rfl (l5 rfl ?_))⟩)⟩)); rw [ab];refine zaM (fun h=>?_) (fun h=>?_)
  ·have h:k < (ns.length:Int):=by simpa using h
   obtain⟨c,hc⟩:=zc2 k0 h;exact (l5 rfl (l5 rfl (ex4 a _ k _ ⟨rfl,rfl,hS,hc,q c⟩)))
  ·have h:¬ k < (ns.length:Int):=by simpa using h
   refine (l5 rfl ⟨a,(l5 rfl ⟨.inl hS,rfl,(l5 rfl ?_)⟩)⟩);rw [ab];refine zaM (fun h2=>?_) (fun h2=>?_)
   ·exact (l5 rfl (mv rfl rfl ⟨.inl ⟨#[D],#[D]⟩,(mv rfl rfl (q _))⟩))
   ·have h2:¬ V.int (ns.length:Int)=V.int 0:=by simpa using h2
    have C2:0 < (ns.length:Int):=by
     have:(ns.length:Int)≠0:=fun z=>h2 (by rw [z])
     lia
    have m0:=aQ k (show (ns.length:Int)≠0 by lia);have m1:=aH k C2;obtain⟨c,hc⟩:=zc2 m0 m1;refine (l5 rfl (l5 rfl (l5 rfl ⟨a,(l5 rfl ⟨.inl hS,(mv rfl rfl ⟨by rw [ab]; exact C2,a,_,_,_,rfl,rfl,hS,by rw [ab]; exact hc,(mv rfl rfl ⟨(by show (0:Int) < 1000003; decide),?_⟩)⟩)⟩)⟩)));exact (l5 rfl (mv rfl rfl ⟨.inl ⟨#[D],#[D]⟩,(mv rfl rfl (q _))⟩))
theorem zai:FnScope ["script","k","many","base","primes","cell","rest","row","j","mash"] ["script","k","many","base"] (zh zdb):=#[S]
theorem zdv {fd:FuncData} (T:Txt K mg t) (F:Fun K "_law_draws" "_law_draws" zdb t.l_draws fd):FnOk P w K mg base CX0 2 t.l_draws fd ["script","k","many","base"] (zje K):=by
 obtain⟨vX,ud,qR⟩:=T.f_l_cell;have xq:=zlL (P:=P) (w:=w) (base:=base) T ud;refine F.ok zai (fun vs H Q E h=>?_) (fun mQ A outer s H vs Q E hr h=>?_)
 ·obtain⟨a,ns,k,many,base,rfl,_⟩:=h;rfl
 ·obtain⟨a,ns,k,many,bs,rfl,hS,mB,k0,k1,m0,m1,b0,b1,q⟩:=h;apply zaF; intro zX;refine⟨_,#[ze,#[zm,4,zai.nd,#[A],#[za0,#[zcP,#[zcP,#[zcP,#[zcP,#[zcP,#[za,#[zf],#[za,#[zf],#[ya,#[zf]]]]]]]]]]],#[ze,#[zm,5,zai.nd,#[A],#[zp,xq,(hr.mono #[D]),T.m_l_cell,ud.kp,qR,#[zN],#[za,#[pvx,0],#[ya,#[pvx,1]]]]],#[ze,#[zm,6,zai.nd,#[A],#[zf]],#[ze,#[zbm,#[zL,#[zma],#[pvx,5],#[zi,(@zp2 _),#[zf],#[zf]],(zZ _)],#[zl,#[zm,6,zai.nd,#[A],#[pvx,5]]],#[zaw]],#[ze,#[zm,7,zai.nd,#[A],#[z0,#[zd]]],#[ze,#[zaD,bq,#[z9,T.range_,#[ya,#[pvx,2]]],#[zg,8,zai.nd,#[A]],#[ze,#[zm,9,zai.nd,#[A],#[zi,#[zU],#[zi,#[zI],#[pvx,5],#[zK,#[zdp],#[pvx,4],#[zi,#[zI],#[pvx,8],#[zf]]]],#[zi,#[zH],#[zf],#[zi,#[zU],#[zi,#[zU],#[zf],#[pvx,8]],#[pvx,8]]]]],#[ze,#[zm,9,zai.nd,#[A],#[zi,#[zH],#[zi,#[zH],#[pvx,9],#[zi,#[zU],#[zi,#[zU],#[zf],#[zi,#[zH],#[pvx,8],#[zf]]],#[zi,#[zH],#[pvx,8],#[zf]]]],#[zi,#[zU],#[zf],#[pvx,1]]]],#[ze,#[zm,9,zai.nd,#[A],#[zi,#[zI],#[pvx,9],#[zK,#[zdp],#[pvx,4],#[zi,#[zI],#[zi,#[zH],#[zi,#[zU],#[zf],#[pvx,8]],#[pvx,1]],#[zf]]]]],#[ze,#[zm,9,zai.nd,#[A],#[zi,#[zI],#[zi,#[zU],#[zi,#[zU],#[pvx,9],#[pvx,9]],#[pvx,9]],#[zK,#[zdp],#[pvx,4],#[zi,#[zI],#[zi,#[zH],#[pvx,8],#[zf]],#[zf]]]]],#[ze,#[zbm,#[zL,#[ze2],#[pvx,6],#[zf],(zZ _)],#[zl,#[zm,9,zai.nd,#[A],#[pvx,6]]],#[zaw]],#[ze,#[zdy,#[zhL,dS,eS,eU,#[zc0],#[pvx,7],#[ya,#[zi,#[zI],#[pvx,9],#[pvx,3]]]]],#[zl,#[zm,6,zai.nd,#[A],#[zi,#[zaX],#[pvx,6],#[pvx,3]]]]]]]]]]],#[zl,#[zC,#[pvx,7]]]]]]]]],?_⟩;apply zrl; intro Ge C3 yr uL pZ oS;refine⟨by show 8≤sizeLine; rw [bf]; decide,fun tp ht=>?_⟩;have s1:zu H (mh H tp (.tup zoo)):=zb ht;refine (l5 rfl (l5 rfl (ex3 a ns k ⟨rfl,s1.seq hS,mB,k0,k1,fun c=>?_⟩)));refine (l5 rfl (mv rfl rfl ⟨⟨#[D],#[D],#[D]⟩,(mv rfl rfl (l5 rfl ?_))⟩));refine zaM (fun _=>(l5 rfl ?_)) (fun _=>?_)
  all_goals
   refine⟨bm _,fun l hl=>?_⟩;have C4:H l=none:=zu.free s1 hl;have pI:tp≠l:=zA zc hl;refine⟨_,rfl,many,rfl,#[O],#[O],zaN (lo:=0) (n:=many.toNat) (fun i σ H'=>∃ (r:Int) (v8 v9:Option V) (ds:List Int),σ = [some (.ref a),some (.int k),some (.int many),some (.int bs),some (.ref tp),some (.int c),some (.int r),some (.ref l),v8,v9]∧zj2 i bs ds∧zu H H'∧H' tp=some (.tup zoo)∧H' l=some (.lst (ds.map V.int)))
    ⟨_,none,none,[],rfl,⟨rfl,#[M]⟩,zah s1 C4,by rw [zn pI]; exact zc,zc⟩ ?_ ?_⟩
   ·rintro zD zT i σ H2 hi ⟨r,v8,v9,ds,rfl,hd,s2,C5,yt⟩;obtain⟨q1,e1,q1p,q1l⟩:=zfb (0+(i:Int));obtain⟨q2,e2,q2p,q2l⟩:=zfb (3*(0+(i:Int))+k);obtain⟨q3,e3,q3p,q3l⟩:=zfb (0+(i:Int)+5);have c1:=aQ c (show q1≠0 by lia);have c2:=aH c q1p;have nH:(i:Int) < 1000:=by lia
    refine (l5 rfl (l5 rfl (l5 rfl (mv rfl rfl ⟨(by show (0:Int) < 8; decide),tp,_,_,_,rfl,rfl,mE.of C5,e1,(mv rfl rfl ⟨q1p,(l5 rfl (mv rfl rfl ⟨.inl ⟨#[D],#[D]⟩,(l5 rfl (mv rfl rfl ⟨.inl ⟨#[O],#[O]⟩,(mv rfl rfl (mv rfl rfl ⟨.inl ⟨#[O],#[O]⟩,?_⟩))⟩))⟩))⟩)⟩))));refine (l5 rfl (l5 rfl (mv rfl rfl (mv rfl rfl ⟨.inl ⟨#[D],#[D]⟩,(l5 rfl (mv rfl rfl (mv rfl rfl ⟨.inl ⟨#[O],#[O]⟩,(mv rfl rfl (l5 rfl (mv rfl rfl ⟨.inl ⟨#[D],#[D]⟩,(mv rfl rfl ?_)⟩)))⟩)))⟩))));refine (l5 rfl (l5 rfl (l5 rfl (mv rfl rfl ⟨.inl ⟨#[D],#[D]⟩,(l5 rfl (mv rfl rfl (mv rfl rfl ⟨(by show (0:Int) < 8; decide),tp,_,_,_,rfl,rfl,mE.of C5,e2,(mv rfl rfl ⟨q2p,?_⟩)⟩)))⟩))));generalize c % q1*(48271+2*(0+(i:Int))*(0+(i:Int)))+7919*(0+(i:Int)+1)*(0+(i:Int)+1)+104729*k=ms;have d1:=aQ ms (show q2≠0 by lia);have d2:=aH ms q2p;refine (l5 rfl (l5 rfl (mv rfl rfl ⟨.inl ⟨#[O],#[O]⟩,(l5 rfl (mv rfl rfl ⟨.inr ⟨#[O],#[O]⟩,(l5 rfl (l5 rfl (mv rfl rfl (mv rfl rfl ⟨(by show (0:Int) < 8; decide),tp,_,_,_,rfl,rfl,mE.of C5,e3,(mv rfl rfl ⟨q3p,?_⟩)⟩))))⟩))⟩)));refine (l5 rfl (mv rfl rfl (l5 rfl ?_)));have xZ:=hd.1;refine zaM (fun _=>(l5 rfl ?_)) (fun _=>?_)
    all_goals
     refine⟨_,rfl,.inl ⟨rfl,_,me.of yt⟩,_,rfl,_,rfl,_,_,rfl,rfl,b0,l,_,_,rfl,rfl,yt,zad (by rw [ab]; lia),?_⟩;refine (l5 rfl (l5 rfl (mv rfl rfl ⟨⟨b0,b1⟩,?_⟩)));refine (ex4 _ _ _ (ds++[_]) ⟨rfl,⟨by rw [aq,xZ]; rfl,fun d hm=>?_⟩,zah s2 C4,by rw [zn pI]; exact C5,by rw [zc,am]; rfl⟩); rcases aY.mp hm with hm | hm
     ·exact hd.2 d hm
     ·have e:=aW.mp hm;rw [e];exact⟨aQ _ #[O],aH _ b0⟩
   ·rintro σ H2 ⟨r,v8,v9,ds,rfl,hd,s2,C5,yt⟩;exact (l5 rfl (q l ds H2 C4 s2 hd yt))
theorem zbt:FnScope ["script","at","most_k","most_n","plan","primes","p","k","many","left"] ["script","at","most_k","most_n"] (zh zcX):=#[S]
theorem zlM {fd:FuncData} (T:Txt K mg t) (F:Fun K "_law_code" "_law_code" zcX t.l_code fd):FnOk P w K mg base CX0 3 t.l_code fd ["script","at","most_k","most_n"] (zlb K):=by
 obtain⟨pq,mR,mU⟩:=T.f_l_draws;have nh:=zdv (P:=P) (w:=w) (base:=base) T mR;refine F.ok zbt (fun vs H Q E h=>?_) (fun mQ A outer s H vs Q E hr h=>?_)
 ·obtain⟨a,ns,at',mk,mn,rfl,_⟩:=h;rfl
 ·obtain⟨a,ns,at',mk,mn,rfl,hS,mB,a0,a1,k1,k5,kn,Gf,q⟩:=h;apply zaF; intro zX;refine⟨_,#[ze,#[zm,4,zbt.nd,(cB rfl),#[zp,nh,(hr.mono #[D]),T.m_l_draws,mR.kp,mU,#[zN],#[za,#[pvx,0],by exact #[za,#[pvx,1],#[za,#[zf],#[ya,#[zf]]]]]]],(by exact (@zml _ 5 _ _ _ _ _ _ _ [5,7,11,13,17,19,23,29,31,37,41,43,47,53,59,61,67,71,73,79,83,89,97] #[N] zbt.nd rfl #[A] (by first | exact .inl rfl | exact .inr rfl) (by exact #[ze,#[zm,6,zbt.nd,#[A],#[zK,#[zB],#[z0,#[za,#[zK,#[zB],#[pvx,5],#[zi,#[zI],#[zK,#[zB],#[pvx,4],#[zf]],#[zf]]],#[ya,#[zK,#[zB],#[pvx,5],#[zi,#[zI],#[zK,#[zB],#[pvx,4],#[zf]],#[zf]]]]]],#[zi,#[zI],#[zK,#[zB],#[pvx,4],#[zf]],#[zf]]]],#[ze,#[zm,7,zbt.nd,#[A],#[zi,#[zH],#[zf],#[zi,#[zI],#[zK,#[zB],#[pvx,4],#[zf]],#[zo,#[zgb],T.min_,boot_min,#[za,#[pvx,2],#[ya,#[pvx,6]]]]]]],#[ze,#[zm,8,zbt.nd,#[A],#[zi,#[zH],#[pvx,7],#[zi,#[zI],#[zK,#[zB],#[pvx,4],#[zf]],#[zi,#[zH],#[zi,#[zap],#[zo,#[zgb],T.min_,boot_min,#[za,#[pvx,3],#[ya,#[pvx,6]]]],#[pvx,7]],#[zf]]]]],#[ze,#[zm,9,zbt.nd,(cB rfl),#[zaE,(@zfV _ rfl),T.list_,kJ,#[ya,#[zaE,(@zhU _),T.range_,jO,#[ya,#[pvx,6]]]]]],#[zl,#[zC,#[za0,#[za,#[pvx,6],#[za,#[pvx,7],#[ya,#[zaE,#[za2],T.tuple_,iY,#[ya,#[zO,(CompSc.of (N':=["j","left","plan"]) (ix:=[none,some 9,some 4]) (zh zcX) ["script","at","most_k","most_n","plan","primes","p","k","many","left"] rfl rfl #[N]),#[zae],#[z9,T.range_,#[ya,#[pvx,8]]],(fun _ _ _ _=>#[zg,0,(nd_ ["j","left","plan"]),#[A]]),(fun _ _ _ _=>#[zz]),(fun _ _ _ _=>(@zqf _ (K) _ _ _ _ _ _ _ _ _ _ _ rfl dS PySem.F.slot_list_pop PySem.F.type_list_pop (@zmb _) #[pvx,1] #[ya,#[zi,#[zI],#[zK,#[zaQ,(K)],#[pvx,2],#[zi,#[zH],#[zf],#[pvx,0]]],#[zo,#[zaz,(K)],T.len_,bP,#[ya,#[pvx,1]]]]] (by rfl) (by rfl) (by rfl) (by rfl) (by rfl)))]]]]]]]]]]]]])))],?_⟩;apply zrl; intro Ge C3 yr uL pZ oS;refine (l5 rfl (l5 rfl (ex5 a ns at' 20 27720 ⟨rfl,hS,mB,a0,a1,#[D],#[D],#[D],#[D],fun l ds H1 hl s1 hd n5=>?_⟩)));have xZ:ds.length=20:=hd.1;have dat:∀ m:Int,0≤m→m < 20→∃ c:Int,atI (ds.map V.int) m=some (.int c):=fun m h0 h1=>zc2 h0 #[O]
  refine⟨by show 23≤sizeLine; rw [bf]; decide,fun pr Bc=>?_⟩;have Gg:l≠pr:=zA n5 Bc;obtain⟨d0,Em⟩:=dat 0 #[D] #[D];obtain⟨d1,Gh⟩:=dat 1 #[D] #[D];obtain⟨d2,ed2⟩:=dat 2 #[D] #[D];obtain⟨d3,ed3⟩:=dat 3 #[D] #[D];have rT:(mh H1 pr (.lst (zr.map V.int))) l=some (.lst (ds.map V.int)):=by rw [zn Gg]; exact n5
  obtain⟨p1,mp1,ep1⟩:=zgS (ns:=zr) (k:=d0 % 23) (aQ _ #[D]) (aH _ #[D]);obtain⟨p2,mp2,ep2⟩:=zgS (ns:=zr) (k:=d0 % 3) (aQ _ #[D]) (by have:=aH d0 (show (0:Int) < 3 by decide); have e:(zr.length:Int)=23:=rfl; lia);obtain⟨p,ep,hpp⟩:=zqh (x:=p1) (y:=p2) (m:=d1 % 2) (aQ _ #[D]) (aH _ #[D]);have mp:p∈zr:=by rcases hpp with e | e <;> rw [e] <;> assumption
  have rp:=zw mp;refine⟨_,rfl,_,rfl,l,_,_,_,rfl,rfl,me.of rT,Em,_,_,rfl,rfl,(by show (0:Int) < 23; decide),pr,_,_,_,rfl,rfl,me.of zc,ep1,
   _,rfl,_,rfl,l,_,_,_,rfl,rfl,me.of rT,Em,_,_,rfl,rfl,(by show (0:Int) < 3; decide),pr,_,_,_,rfl,rfl,me.of zc,ep2,zaP,fun l2 qJ=>?_⟩
  have Gi:l≠l2:=zA rT qJ;have xY:(mh (mh H1 pr (.lst (zr.map V.int))) l2 (.lst [.int p1,.int p2])) l=some (.lst (ds.map V.int)):=by rw [zn Gi]; exact rT
  refine (l5 rfl (ex4 l _ _ _ ⟨rfl,rfl,me.of xY,Gh,(mv rfl rfl ⟨(by show (0:Int) < 2; decide),l2,_,_,_,rfl,rfl,me.of zc,ep,?_⟩)⟩));have wR:(0:Int) < (if p < mk then p else mk):=by split <;> lia
  have uI:(if p < mk then p else mk)≤mk:=by split <;> lia
  have FW:(if p < mk then p else mk)≤p:=by split <;> lia
  refine⟨_,rfl,l,_,_,_,rfl,rfl,me.of xY,ed2,_,rfl,_,rfl,_,_,rfl,_,_,rfl,rfl,wR,_,_,rfl,rfl,?_⟩;generalize (if p < mk then p else mk)=mm at wR uI FW ⊢;have wU:=aQ d2 (show mm≠0 by lia);have BR:=aH d2 wR;have uU:(if p < mn then p else mn)≤mn:=by split <;> lia
  have uC:(if p < mn then p else mn)≤p:=by split <;> lia
  have hn3:mm≤(if p < mn then p else mn):=by split <;> lia
  refine (l5 rfl (l5 rfl (ex4 l _ _ _ ⟨rfl,rfl,me.of xY,ed3,(l5 rfl (l5 rfl ⟨_,_,rfl,(l5 rfl (mv rfl rfl (mv rfl rfl (mv rfl rfl ⟨#[O],(mv rfl rfl ?_)⟩))))⟩))⟩)));generalize (if p < mn then p else mn)=nn at uU uC hn3 ⊢;have hq0:=aQ d3 (show nn - (1+d2 % mm)+1≠0 by lia);have pX:=aH d3 (show 0 < nn - (1+d2 % mm)+1 by lia);refine (l5 rfl ⟨p,rfl,fun r yZ=>⟨r,p,rfl,zc,#[O],#[O],fun lf Gj=>?_⟩⟩);have BQ:l≠r:=zA xY yZ;have C6:l≠lf:=by
   refine zA (H:=mh (mh (mh H1 pr (.lst (zr.map V.int))) l2 (.lst [.int p1,.int p2])) r (.rng 0 p)) (o:=.lst (ds.map V.int)) ?_ Gj;rw [zn BQ]; exact xY
  have sA:zu H (mh (mh H1 pr (.lst (zr.map V.int))) l2 (.lst [.int p1,.int p2])):=(s1.trans (zb Bc)).trans (zb qJ);have sB:=(sA.trans (zb (o:=.rng 0 p) yZ)).trans (zb (o:=.lst ((zb6 0 p.toNat).map V.int)) Gj);have Gk:H lf=none:=(sA.trans (zb (o:=.rng 0 p) yZ)).free Gj;obtain⟨nd0,rg0⟩:=zlc p;refine⟨_,rfl,_,rfl,_,rfl,_,rfl,#[O],#[O],zV (n:=(1+d2 % mm+d3 % (nn - (1+d2 % mm)+1)).toNat) (fun i ys H'=>∃ xs ls:List Int,ys=xs.map V.int∧xs.length=i∧zu H H'∧H' l=some (.lst (ds.map V.int))∧H' lf=some (.lst (ls.map V.int))∧ls.length+i=p.toNat∧(xs++ls).Nodup∧∀ y∈xs++ls,0≤y∧y < p)
   ⟨[],zb6 0 p.toNat,rfl,rfl,sB,by rw [zn C6,zn BQ]; exact xY,zc,by rw [zdj]; rfl,by simpa using nd0,by simpa using rg0⟩ (fun i ys H' hi _=>hi) (fun ys H' _=>ag _) ?_ ?_⟩
  ·rintro i x ys H4 H5 hi ⟨xs,ls,rfl,CL,s4,Bd,yu,vG,nd,rg⟩ ⟨rfl,rfl⟩;refine gY ?_;obtain⟨c,ec⟩:=dat (4+(0+(i:Int))) #[O] #[O];have lpos:0 < ls.length:=by lia
   have lm:((ls.map V.int).length:Int)=(ls.length:Int):=by rw [ab]
   have c0:=aQ c (show (ls.length:Int)≠0 by lia);have c1:=aH c (show (0:Int) < ls.length by lia);have pf:=bf;obtain⟨y,ey⟩:∃ y,ls[(c % (ls.length:Int)).toNat]? = some y:=⟨ls[(c % (ls.length:Int)).toNat]'#[O],#[M]⟩;refine (l5 rfl ⟨.inl ⟨rfl,_,me.of yu⟩,(l5 rfl (l5 rfl (mv rfl rfl (ex4 l _ _ _ ⟨rfl,rfl,me.of Bd,ec,(l5 rfl ⟨lf,(l5 rfl ⟨.inl (me.of yu),(mv rfl rfl ⟨(by rw [lm]; lia),lf,_,_,(c % (ls.length:Int)).toNat,.int y,rfl,rfl,yu,?_⟩)⟩)⟩)⟩))))⟩);rw [lm];refine⟨#[O],#[O],by rw [ab]; exact iq c0 c1,by rw [af,ey]; rfl,zad (by rw [ab]; lia),xs++[y],ls.eraseIdx (c % (ls.length:Int)).toNat,by rw [am]; rfl,by rw [aq,CL]; rfl,zah s4 Gk,by rw [zn C6]; exact Bd,by rw [zc,zgn],?_,zoq ey nd rg⟩;rw [List.length_eraseIdx];split <;> lia
  ·rintro ys H4 D ⟨xs,ls,rfl,CL,s4,Bd,yu,vG,nd,rg⟩ hD;refine⟨D,(l5 rfl (.inl ⟨me.of zc,fun tt B1=>⟨by show 3≤sizeLine; rw [bf]; decide,fun c hc=>?_⟩⟩))⟩;have s5:=(s4.trans (zb (o:=.lst (xs.map V.int)) hD)).trans (zb (o:=.tup (xs.map V.int)) B1);refine q c tt p _ xs _ (s5.free hc) (s5.trans (zb hc)) ⟨mp,#[O],#[O],#[O],#[O],(eE.mp nd).1,fun y hy=>rg y (ba _ hy)⟩ zc ?_;rw [zn (zA zc hc)];exact zc
theorem zbu:FnScope ["p","polynomial","x","total","power","number"] ["p","polynomial","x"] (zh zdc):=#[S]
theorem zfC {fd:FuncData} (T:Txt K mg t) (F:Fun K "_law_value" "_law_value" zdc t.l_value fd):FnOk P w K mg base CX0 1 t.l_value fd ["p","polynomial","x"] (zjf K):=by
 refine F.ok zbu (fun vs H Q E h=>?_) (fun mQ A outer s H vs Q E hr h=>?_)
 ·obtain⟨p,x,a,cs,rfl,_⟩:=h;rfl
 ·obtain⟨p,x,a,cs,rfl,hS,p0,p1,x0,x1,q⟩:=h;apply zaF; intro zX;refine⟨_,#[ze,#[zm,3,zbu.nd,#[A],#[zf]],#[ze,#[zm,4,zbu.nd,#[A],#[zf]],#[ze,#[zaD,bq,#[zmj,#[pvx,1]],#[zg,5,zbu.nd,#[A]],#[ze,#[zm,3,zbu.nd,#[A],#[zi,#[zI],#[zi,#[zH],#[pvx,3],#[zi,#[zU],#[pvx,5],#[pvx,4]]],#[pvx,0]]],#[zl,#[zm,4,zbu.nd,#[A],#[zi,#[zI],#[zi,#[zU],#[pvx,4],#[pvx,2]],#[pvx,0]]]]]],#[zl,#[zC,#[pvx,3]]]]]],?_⟩;apply zja; intro uL pZ oS;refine (l5 rfl ⟨a,rfl,?_⟩);rcases hS with hS | hS
  ·refine .inl ⟨⟨_,hS⟩,zbq (K:=K) (a:=a) (xs:=cs.map V.int) (fun i σ H'=>H'=H∧∃ (mF power:Int) (nb:Option V),σ = [some (.int p),some (.ref a),some (.int x),some (.int mF),some (.int power),nb]∧0≤power∧power≤97∧lv p x mF power (cs.drop i)=lv p x 0 1 cs)
    ⟨rfl,0,1,none,rfl,#[D],#[D],rfl⟩ (fun i σ H' _ ⟨e,_⟩=>by rw [e]; exact hS) ?_ ?_⟩
   ·rintro zD zT i y σ H1 hy ⟨rfl,mF,power,nb,rfl,w0,w1,hl⟩;obtain⟨c,rfl,hc⟩:=zaj hy;have m0:=aQ (power*x) (show p≠0 by lia);have m1:=aH (power*x) p0;refine (l5 rfl (l5 rfl (l5 rfl (mv rfl rfl ⟨.inr ⟨#[O],#[O]⟩,(mv rfl rfl (l5 rfl (mv rfl rfl ⟨p0,?_⟩)))⟩))));refine (l5 rfl (l5 rfl (mv rfl rfl ⟨.inl ⟨#[O],#[O]⟩,(l5 rfl (mv rfl rfl ⟨p0,?_⟩))⟩)));exact⟨rfl,_,_,_,rfl,m0,#[O],(zj3 hc).symm.trans hl⟩
   ·rintro σ H1 ⟨rfl,mF,power,nb,rfl,w0,w1,hl⟩;rw [ab,gS] at hl;have hl:mF=lv p x 0 1 cs:=hl;rw [zjY p0] at hl;rw [← hl] at q;exact (l5 rfl q)
  ·refine .inr ⟨⟨_,hS⟩,zhN (K:=K) (a:=a) (xs:=cs.map V.int) (fun i σ H'=>H'=H∧∃ (mF power:Int) (nb:Option V),σ = [some (.int p),some (.ref a),some (.int x),some (.int mF),some (.int power),nb]∧0≤power∧power≤97∧lv p x mF power (cs.drop i)=lv p x 0 1 cs)
    ⟨rfl,0,1,none,rfl,#[D],#[D],rfl⟩ (fun i σ H' _ ⟨e,_⟩=>by rw [e]; exact hS) ?_ ?_⟩
   ·rintro zD zT i y σ H1 hy ⟨rfl,mF,power,nb,rfl,w0,w1,hl⟩;obtain⟨c,rfl,hc⟩:=zaj hy;have m0:=aQ (power*x) (show p≠0 by lia);have m1:=aH (power*x) p0;refine (l5 rfl (l5 rfl (l5 rfl (mv rfl rfl ⟨.inr ⟨#[O],#[O]⟩,(mv rfl rfl (l5 rfl (mv rfl rfl ⟨p0,?_⟩)))⟩))));refine (l5 rfl (l5 rfl (mv rfl rfl ⟨.inl ⟨#[O],#[O]⟩,(l5 rfl (mv rfl rfl ⟨p0,?_⟩))⟩)));exact⟨rfl,_,_,_,rfl,m0,#[O],(zj3 hc).symm.trans hl⟩
   ·rintro σ H1 ⟨rfl,mF,power,nb,rfl,w0,w1,hl⟩;rw [ab,gS] at hl;have hl:mF=lv p x 0 1 cs:=hl;rw [zjY p0] at hl;rw [← hl] at q;exact (l5 rfl q)
theorem znB (xs:List V) (j:Nat):zcK xs none (some (j:Int))=xs.take j:=by
 unfold zcK;rw [HT.sIx_nat,HT.sIx_none,eR,fC];by_cases h:j≤xs.length
 ·rw [dL h]
 ·rw [show min j xs.length=xs.length by lia,aJ (ag _),aJ (show xs.length≤j by lia)]
def zlN (K:ah):Sp:=fun vs H Q _=>∃ (a:Addr) (ds:List Int) (p k:Int),vs = [.ref a,.int p,.int k]∧me K H a (ds.map V.int)∧ds.length≤1000∧0 < p ∧
 ∀ (l:Addr) (mK:List Int) (H':Hp),H l=none→zu H H'→(mK.length≤ds.length∧∀ x∈mK,0≤x∧x < p)→H' l=some (.tup (mK.map V.int))→(∀ n:Nat,k=(n:Int)→n≤ds.length→mK.length=n)→Q (.ref l) H'
theorem zew:FnScope ["draws","p","k"] ["draws","p","k"] (zh zaT):=#[S]
theorem zex {fd:FuncData} (T:Txt K mg t) (F:Fun K "_law_polynomial" "_law_polynomial" zaT t.l_polynomial fd):FnOk P w K mg base CX0 1 t.l_polynomial fd ["draws","p","k"] (zlN K):=by
 refine F.ok zew (fun vs H Q E h=>?_) (fun mQ A outer s H vs Q E hr h=>?_)
 ·obtain⟨a,ds,p,k,rfl,_⟩:=h;rfl
 ·obtain⟨a,ds,p,k,rfl,ha,hn,p0,q⟩:=h;apply zaF; intro zX;refine⟨_,#[zl,#[zC,#[zaE,#[za2],T.tuple_,iY,#[ya,#[zO,(CompSc.of (N':=["draw","p"]) (ix:=[none,some 1]) (zh zaT) ["draws","p","k"] rfl rfl #[N]),#[zae],#[zY,#[zby,zcq,#[pvx,0],#[zcp],#[zbJ,#[pvx,2]]]],(fun _ _ _ _=>#[zg,0,(nd_ ["draw","p"]),#[A]]),(fun _ _ _ _=>#[zz]),(fun _ _ _ _=>#[zi,#[zI],#[pvx,0],#[pvx,1]])]]]]],?_⟩;obtain⟨ms,En,lms⟩:=zh2 ds none (some k);refine (l5 rfl (l5 rfl (l5 rfl ⟨a,(l5 rfl ⟨ha,fun z hz=>?_⟩)⟩)));rw [En];have s4:=zb (o:=.lst (ms.map V.int)) hz;refine⟨z,rfl,⟨_,me.of zc⟩,zce (K:=K) (xs:=ms.map V.int) (fs:=ms.map fun d=>V.int (d % p)) (me.of zc) (by rw [ab,ab]) (by rw [ab]; lia) ?_ ?_⟩
  ·intro j x y R B hx hy hR;obtain⟨c,_,rfl,rfl⟩:=zh3 hx hy;refine gY ?_;exact (l5 rfl (l5 rfl (mv rfl rfl ⟨p0,hR⟩)))
  intro D hD;have Gm:(ms.map fun d=>V.int (d % p))=(ms.map (· % p)).map V.int:=by rw [bH]; rfl
  rw [Gm];refine⟨D,(l5 rfl (.inl ⟨me.of zc,fun po Be=>?_⟩))⟩;have s5:=s4.trans (zb (o:=.lst ((ms.map (· % p)).map V.int)) hD);refine q po _ _ (s5.free Be) (s5.trans (zb Be)) ⟨by rw [ab]; exact lms,fun x hx=>?_⟩ zc (fun n BP hle=>?_)
  ·obtain⟨d,_,rfl⟩:=az.mp hx;exact⟨aQ _ #[O],aH _ p0⟩
  ·have h1:=congrArg fk En;rw [BP,znB,aI,ab,ab] at h1;rw [ab];lia
def znC (K:ah):Sp:=fun vs H Q _=>∃ (a c tt:Addr) (ns:List Int) (at' p k:Int) (pl:List Int),vs = [.ref a,.int at',.ref c]∧me K H a (ns.map V.int)∧ns.length≤63∧0≤at'∧at'≤900∧zb7 H c tt p k pl∧0 < p∧p≤97∧(∀ x∈pl,0≤x∧x < p)∧pl.length≤16 ∧
 ∀ (l:Addr) (rw:List (Option Int)) (H':Hp),H l=none→zu H H'→rw.length=pl.length→(∀ z,some z∈rw→0≤z∧z < p)→H' l=some (.lst (rw.map pK))→Q (.ref l) H'
theorem zqO {a b m:Int} (h0:0≤m) (h1:m < 6) (a0:0≤a) (a1:a < 3) (b0:0≤b) (b1:b < 3):∃ z:Int,atI [V.int 0,.int 0,.int a,.int b,.int 0,.int 0] m=some (.int z)∧0≤z∧z < 3:=by
 have:m=0∨m=1∨m=2∨m=3∨m=4∨m=5:=by lia
 rcases this with e | e | e | e | e | e <;> subst e
 ·exact⟨0,rfl,#[D],#[D]⟩
 ·exact⟨0,rfl,#[D],#[D]⟩
 ·exact⟨a,rfl,a0,a1⟩
 ·exact⟨b,rfl,b0,b1⟩
 ·exact⟨0,rfl,#[D],#[D]⟩
 ·exact⟨0,rfl,#[D],#[D]⟩
theorem zo9 {m:Int} (h0:0≤m) (h1:m < 6):∃ z:Int,atI [V.int 4,.int 9,.int 9,.int 9,.int 2,.int 1] m=some (.int z)∧0 < z:=by
 have:m=0∨m=1∨m=2∨m=3∨m=4∨m=5:=by lia
 rcases this with e | e | e | e | e | e <;> subst e <;> exact⟨_,rfl,#[D]⟩
theorem zpa {m:Int} (h0:0≤m) (h1:m < 2):∃ z:Int,atI [V.int 9,.int 3] m=some (.int z)∧0 < z:=by
 have:m=0∨m=1:=by lia
 rcases this with e | e <;> subst e <;> exact⟨_,rfl,#[D]⟩
theorem zrC (n:Nat):(ap n [V.non]).flatten=(ap n (none:Option Int)).map pK:=by
 induction n with
 | zero=>rfl
 | succ n ih=>rw [cI,eD,ih,cI]; rfl
def zhr (H:Hp) (on:Addr):Prop:=∃ os:List Addr,os.length=3∧H on=some (.lst (os.map V.ref))∧∀ o∈os,∃ ms:List Int,H o=some (.tup (ms.map V.int))
theorem zhr.same {H H':Hp} {on:Addr} (s:zu H H') (h:zhr H on):zhr H' on:=by
 obtain⟨os,h1,h2,h3⟩:=h;exact⟨os,h1,s _ _ h2,fun o ho=>let ⟨ms,e⟩:=h3 o ho; ⟨ms,s _ _ e⟩⟩
theorem znD {p:Int} {rw:List (Option Int)} (h:∀ z,some z∈rw→0≤z∧z < p):∀ z,some z∈rw++[none]→0≤z∧z < p:=by
 intro z hz;rcases aY.mp hz with m | m
 ·exact h z m
 ·cases aW.mp m
theorem ziG {p i:Int} {rw:List (Option Int)} (h:∀ z,some z∈rw→0≤z∧z < p) (hi:0≤i∧i < p):∀ z,some z∈rw++[some i]→0≤z∧z < p:=by
 intro z hz;rcases aY.mp hz with m | m
 ·exact h z m
 ·cases aW.mp m;exact hi
theorem ziH {p x:Int} {cs:List Int} (hp:0 < p):0≤zt p x cs∧zt p x cs < p:=⟨zbL hp cs,zbM hp cs⟩
theorem zay:FnScope ["script","at","code","p","k","places","plan","ones","slips","way","row","number","which","entry"] ["script","at","code"] (zh zdT):=#[S]
theorem znE {fd:FuncData} (T:Txt K mg t) (F:Fun K "_law_row" "_law_row" zdT t.l_row fd):FnOk P w K mg base CX0 3 t.l_row fd ["script","at","code"] (znC K):=by
 obtain⟨pq,mR,mU⟩:=T.f_l_draws;have nh:=zdv (P:=P) (w:=w) (base:=base) T mR;obtain⟨qF,oF,nj⟩:=T.f_l_polynomial;have qS:=zex (P:=P) (w:=w) (base:=base) T oF;obtain⟨qT,nW,nX⟩:=T.f_l_value;have p4:=zfC (P:=P) (w:=w) (base:=base) T nW;refine F.ok zay (fun vs H Q E h=>?_) (fun mQ A outer s H vs Q E hr h=>?_)
 ·obtain⟨a,c,tt,ns,at',p,k,pl,rfl,_⟩:=h;rfl
 ·obtain⟨a,c,tt,ns,at',p,k,pl,rfl,hS,mB,a0,a1,hc,p0,p1,n5,hn,q⟩:=h;apply zaF; intro zX;refine⟨_,#[ze,#[zbp,#[pvx,2],#[zbf,#[zj,#[zg,3,zay.nd,(cB rfl)],#[zj,#[zg,4,zay.nd,(cB rfl)],#[zj,#[zg,5,zay.nd,#[A]],#[zG]]]]]],#[ze,#[zm,6,zay.nd,(cB rfl),#[zp,nh,(hr.mono #[D]),T.m_l_draws,mR.kp,mU,#[zN],#[za,#[pvx,0],by exact #[za,#[pvx,1],#[za,#[zf],#[ya,#[zf]]]]]]],#[ze,#[zaO,7,zay.nd,#[A],(CompSc.of (N':=["j","plan","p","k"]) (ix:=[none,some 6,some 3,some 4]) (zh zdT) ["script","at","code","p","k","places","plan","ones","slips","way","row","number","which","entry"] rfl rfl #[N]),#[zae],#[z9,T.range_,#[ya,#[zf]]],(fun _ _ _ _=>#[zg,0,(nd_ ["j","plan","p","k"]),#[A]]),(fun _ _ _ _=>#[zz]),(fun _ _ _ _=>#[zp,qS,(hr.mono #[D]),T.m_l_polynomial,oF.kp,nj,#[zN],#[za,#[zby,(zhV (K:=K) rfl),#[pvx,1],#[zbJ,#[zi,#[zU],#[zf],#[pvx,0]]],#[zcp]],#[za,#[pvx,2],#[ya,#[pvx,3]]]]])],#[ze,#[zm,8,zay.nd,#[A],#[zp,nh,(hr.mono #[D]),T.m_l_draws,mR.kp,mU,#[zN],#[za,#[pvx,0],by exact #[za,#[zi,#[zH],#[pvx,1],#[zf]],#[za,#[zf],#[ya,#[zf]]]]]]],#[ze,#[zm,9,zay.nd,#[A],#[zi,#[zI],#[zK,#[zB],#[pvx,8],#[zf]],#[zf]]],#[ze,#[zm,10,zay.nd,#[A],#[z0,#[zd]]],#[ze,#[zaD,bq,#[z9,T.range_,#[ya,#[zo,#[zq],T.len_,bP,#[ya,#[pvx,5]]]]],#[zg,11,zay.nd,#[A]],#[ze,#[zm,12,zay.nd,#[A],#[zK,#[zB],#[z0,#[zcP,#[zcP,#[za,#[zi,#[zI],#[zK,#[zB],#[pvx,8],#[pvx,11]],#[zf]],by exact #[za,#[zi,#[zI],#[zK,#[zB],#[pvx,8],#[pvx,11]],#[zf]],#[za,#[zf],#[ya,#[zf]]]]]]]],#[pvx,9]]],#[ze,#[zm,13,zay.nd,#[A],#[zp,p4,(hr.mono #[D]),T.m_l_value,nW.kp,nX,#[zN],#[za,#[pvx,3],#[za,#[zK,#[zB],#[pvx,7],#[pvx,12]],#[ya,#[zK,#[zdp],#[pvx,5],#[pvx,11]]]]]]],#[ze,#[zbm,#[zL,#[zdh],#[zi,#[zI],#[zi,#[zaX],#[zK,#[zB],#[pvx,8],#[pvx,11]],#[zf]],#[zK,#[zB],#[z0,#[zcP,#[zcP,#[zcP,#[za,#[zf],#[za,#[zf],#[ya,#[zf]]]]]]]],#[pvx,9]]],#[zf],(zZ _)],#[zl,#[zm,13,zay.nd,#[A],#[zi,#[zI],#[zi,#[zaX],#[zK,#[zB],#[pvx,8],#[pvx,11]],#[zf]],#[pvx,3]]]],#[zaw]],#[ze,#[zbm,(@PW.pt _ _ _ (@zpX _ _ _ _ _ _ _ #[zL,#[zdh],#[zi,#[zI],#[zi,#[zaX],#[zK,#[zB],#[pvx,8],#[pvx,11]],#[zf]],#[zK,#[zB],#[z0,#[za,#[zf],#[ya,#[zf]]]],#[zi,#[zI],#[zK,#[zB],#[pvx,8],#[zf]],#[zf]]]],#[zf],(zZ _)] (@zn8 _ _ _ _ #[zL,#[ze2],#[zi,#[zI],#[zK,#[zB],#[pvx,8],#[zf]],#[zf]],#[zf],(zZ _)]))),#[zl,#[zm,13,zay.nd,#[A],#[zd1]]],#[zaw]],#[zl,#[zdy,#[zhL,dS,eS,eU,#[zc0],#[pvx,10],#[ya,#[pvx,13]]]]]]]]]],#[zl,#[zC,(@zl4 _ _ _ _ _ _ _ _ #[zL,#[zdh],#[zi,#[zI],#[zK,#[zB],#[pvx,8],#[zf]],#[zf]],#[zf],(zZ _)] #[zi,#[zcs],#[z0,#[ya,#[zd1]]],#[zo,#[zq],T.len_,bP,#[ya,#[pvx,10]]]] #[pvx,10])]]]]]]]]],?_⟩;apply zrU; intro zN8 Ge C3 yr uL pZ oS;have pf:=bf;refine⟨_,rfl,c,_,rfl,mE.of hc.1,rfl,_,_,rfl,_,_,rfl,_,_,rfl,rfl,?_⟩;refine (l5 rfl (l5 rfl (ex5 a ns at' 16 27720 ⟨rfl,hS,mB,a0,#[O],#[D],#[D],#[D],#[D],fun l ds H1 hl s1 hd sS=>?_⟩)));have xZ:ds.length=16:=hd.1;refine⟨3,rfl,#[D],#[D],zV (n:=3) (fun i ys H'=>zu H1 H'∧∃ os:List Addr,os.length=i∧ys=os.map V.ref∧∀ o∈os,∃ ms:List Int,H' o=some (.tup (ms.map V.int))) ⟨fun _ _ e=>e,[],rfl,rfl,#[M]⟩ (fun i ys H' hi _=>hi) (fun ys H' _=>ag _) ?_ ?_⟩
  ·rintro i xx ys H4 H5 hi ⟨s4,os,ho,rfl,Gn⟩ ⟨rfl,rfl⟩;refine gY ?_;refine (l5 rfl (l5 rfl (mv rfl rfl ⟨.inl ⟨#[D],#[D]⟩,(l5 rfl ⟨l,(l5 rfl ⟨me.of (s4 _ _ sS),fun z hz=>?_⟩)⟩)⟩)));obtain⟨ms,En,lms⟩:=zh2 ds (some (3*(0+(i:Int)))) none;rw [En];refine (l5 rfl (l5 rfl (ex4 z ms p k ⟨rfl,me.of zc,#[O],p0,fun po mK H6 Be s6 _ h6 _=>?_⟩)));have s5:=(zb (o:=.lst (ms.map V.int)) hz).trans s6;refine⟨zad (by rw [ab]; lia),s4.trans s5,os++[po],by rw [aq,ho]; rfl,by rw [am]; rfl,fun o hm=>?_⟩;rcases (aY.mp hm) with hm | hm
   ·obtain⟨m2,e⟩:=Gn o hm;exact⟨m2,s5 _ _ e⟩
   ·rw [aW.mp hm]; exact⟨mK,h6⟩
  ·rintro ys H4 on ⟨s4,os,ho,rfl,Gn⟩ hon;have s5:=s1.trans (s4.trans (zb (o:=.lst (os.map V.ref)) hon));have Aa:zhr (mh H4 on (.lst (os.map V.ref))) on:=⟨os,ho,zc,fun o hm=>let ⟨ms,e⟩:=Gn o hm; ⟨ms,(zb hon) _ _ e⟩⟩;generalize mh H4 on (.lst (os.map V.ref))=H5 at s5 Aa ⊢;refine (l5 rfl (l5 rfl (mv rfl rfl (ex5 a ns (at'+1) 20 27720 ⟨rfl,s5.seq hS,mB,#[O],#[O],#[D],#[D],#[D],#[D],fun sl es H6 hsl6 s6 he vY=>?_⟩))));have hel:es.length=20:=he.1;have C7:=he.2;have C8:∀ m:Int,0≤m→m < 20→∃ c:Int,atI (es.map V.int) m=some (.int c):=fun m h0 h1=>zc2 h0 #[O]
   obtain⟨Gp,e16⟩:=C8 16 #[D] #[D];obtain⟨d17,e17⟩:=C8 17 #[D] #[D];obtain⟨d18,e18⟩:=C8 18 #[D] #[D];obtain⟨d19,e19⟩:=C8 19 #[D] #[D];have w0:=aQ Gp (show (6:Int)≠0 by decide);have w1:=aH Gp (show (0:Int) < 6 by decide);refine (l5 rfl (ex4 sl _ _ _ ⟨rfl,rfl,me.of vY,e16,(mv rfl rfl ⟨(by show (0:Int) < 6; decide),?_⟩)⟩));obtain⟨way,C9⟩:∃ way,Gp % 6=way:=⟨_,rfl⟩;rw [C9] at w0 w1;refine⟨bm _,fun ro B2=>?_⟩;have vH:sl≠ro:=zA vY B2;have Gq:H ro=none:=(s5.trans s6).free B2;have Bf:H5 ro=none:=s6.free B2;refine (l5 rfl ⟨tt,(l5 rfl ⟨.inr (mE.of ((((s5.trans s6).trans (zb B2))) _ _ hc.2)),(l5 rfl ⟨by rw [ab]; lia,by rw [ab]; lia,?_⟩)⟩)⟩);rw [ab,bC];refine zaN (lo:=0) (n:=pl.length) (fun i σ H'=>∃ (rw:List (Option Int)) (v11 B3 B4:Option V),σ = [some (.ref a),some (.int at'),some (.ref c),some (.int p),some (.int k),some (.ref tt),some (.ref l),some (.ref on),some (.ref sl),some (.int way),some (.ref ro),v11,B3,B4] ∧
    rw.length=i∧zu H5 H'∧H' ro=some (.lst (rw.map pK))∧H' sl=some (.lst (es.map V.int))∧∀ z,some z∈rw→0≤z∧z < p)
    ⟨[],none,none,none,by subst C9; rfl,rfl,s6.trans (zb B2),zc,by rw [zn vH]; exact vY,fun z hz=>by simp at hz⟩ ?_ ?_
   ·rintro zD zT i σ H7 hi ⟨rw,v11,B3,B4,rfl,oZ,s7,B5,C',uW⟩;obtain⟨di,ei⟩:=C8 (0+(i:Int)) #[O] #[O];obtain⟨x,hx⟩:∃ x,pl[i]? = some x:=⟨pl[i]'hi,#[M]⟩;obtain⟨x0,x1⟩:=n5 x (aA hx);have Gr:atI (pl.map V.int) (0+(i:Int))=some (.int x):=by rw [cq]; exact zal (by rw [af,hx]; rfl)
    have m20:=aQ di (show (2:Int)≠0 by decide);have m21:=aH di (show (0:Int) < 2 by decide);have m30:=aQ di (show (3:Int)≠0 by decide);have m31:=aH di (show (0:Int) < 3 by decide);obtain⟨wh,ewh,wh0,wh1⟩:=zqO w0 w1 m20 #[O] m30 m31;refine (l5 rfl (l5 rfl (ex4 sl _ _ _ ⟨rfl,rfl,me.of C',ei,(mv rfl rfl ⟨(by show (0:Int) < 2; decide),(l5 rfl (l5 rfl (ex4 sl _ _ _ ⟨rfl,rfl,me.of C',ei,(mv rfl rfl ⟨(by show (0:Int) < 3; decide),by show 6≤sizeLine; lia,fun l6 Gs=>?_⟩)⟩)))⟩)⟩)));refine (l5 rfl (ex4 l6 _ _ _ ⟨rfl,rfl,me.of zc,ewh,?_⟩));have s8:=s7.trans (zb (o:=.lst [.int 0,.int 0,.int (di % 2),.int (di % 3),.int 0,.int 0]) Gs);have B6:=(zb (o:=.lst [.int 0,.int 0,.int (di % 2),.int (di % 3),.int 0,.int 0]) Gs) _ _ B5;have Gu:=(zb (o:=.lst [.int 0,.int 0,.int (di % 2),.int (di % 3),.int 0,.int 0]) Gs) _ _ C';obtain⟨H8,hH8⟩:∃ H8,H8=mh H7 l6 (.lst [.int 0,.int 0,.int (di % 2),.int (di % 3),.int 0,.int 0]):=⟨_,rfl⟩;rw [← hH8] at s8 B6 Gu ⊢;have Bg:=hc.same (s5.trans s8);obtain⟨Gv,o1,o2,o3⟩:=Aa.same s8;obtain⟨ow,how⟩:∃ ow,Gv[wh.toNat]? = some ow:=⟨Gv[wh.toNat]'#[O],#[M]⟩;obtain⟨mw,hmw⟩:=o3 ow (aA how);have Gw:atI (Gv.map V.ref) wh=some (.ref ow):=by
     have e:((wh.toNat:Nat):Int)=wh:=by lia
     rw [← e];exact zal (by rw [af,how]; rfl)
    refine (l5 rfl (l5 rfl (l5 rfl (ex4 on _ _ _ ⟨rfl,rfl,me.of o2,Gw,(l5 rfl (l5 rfl (ex4 tt _ _ _ ⟨rfl,rfl,mE.of Bg.2,Gr,p,x,ow,mw,rfl,.inr (mE.of hmw),p0,p1,x0,x1,?_⟩)))⟩))));obtain⟨z6,ez6,z60⟩:=zo9 w0 w1;refine (l5 rfl (l5 rfl (ex4 sl _ _ _ ⟨rfl,rfl,me.of Gu,ei,(mv rfl rfl ⟨⟨#[D],#[D]⟩,by show 6≤sizeLine; lia,fun l7 hl7=>?_⟩)⟩)));have u7:=zb (o:=.lst [.int 4,.int 9,.int 9,.int 9,.int 2,.int 1]) hl7;refine (l5 rfl (ex4 l7 _ _ _ ⟨rfl,rfl,me.of zc,ez6,(mv rfl rfl ⟨z60,rfl,(l5 rfl ?_)⟩)⟩));have s9:=s8.trans u7;have h9r:=u7 _ _ B6;have Eo:=u7 _ _ Gu;generalize mh H8 l7 (.lst [.int 4,.int 9,.int 9,.int 9,.int 2,.int 1])=H9 at s9 h9r Eo ⊢;have t0:=aQ d17 (show (2:Int)≠0 by decide);have t1:=aH d17 (show (0:Int) < 2 by decide);obtain⟨z2,ez2,z20⟩:=zpa t0 t1;refine zaM (fun _=>(l5 rfl (l5 rfl (ex4 sl _ _ _ ⟨rfl,rfl,me.of Eo,ei,(mv rfl rfl ⟨⟨#[D],#[D]⟩,(l5 rfl (mv rfl rfl ⟨p0,?_⟩))⟩)⟩)))) (fun _=>?_)
    all_goals
     refine (l5 rfl (l5 rfl (ex4 sl _ _ _ ⟨rfl,rfl,me.of Eo,ei,(mv rfl rfl ⟨⟨#[D],#[D]⟩,zaP,fun l8 Gx=>?_⟩)⟩)));have u8:=zb (o:=.lst [.int 9,.int 3]) Gx;have sX:=s9.trans u8;have B7:=u8 _ _ h9r;have Dc:=u8 _ _ Eo;refine (l5 rfl (ex4 sl _ _ _ ⟨rfl,rfl,me.of Dc,e17,(mv rfl rfl ⟨(by show (0:Int) < 2; decide),l8,_,_,_,rfl,rfl,me.of zc,ez2,(mv rfl rfl ⟨z20,rfl,(l5 rfl ?_)⟩)⟩)⟩)); refine zaM (fun _=>?_) (fun _=>?_)
     ·refine (l5 rfl (ex4 sl _ _ _ ⟨rfl,rfl,me.of Dc,e18,(mv rfl rfl ⟨(by show (0:Int) < 3; decide),(mv rfl rfl (l5 rfl ?_))⟩)⟩)); refine zaM (fun _=>?_) (fun _=>?_)
      ·exact (l5 rfl ⟨.inl ⟨rfl,_,me.of B7⟩,(l5 rfl (ex3 ro _ _ ⟨rfl,rfl,B7,zad (by rw [ab]; lia),rw++[none],_,_,_,rfl,by rw [aq,oZ]; rfl,zah sX Bf,by rw [zc,am]; rfl,by rw [zn vH]; exact Dc,znD uW⟩))⟩)
      ·exact (l5 rfl ⟨.inl ⟨rfl,_,me.of B7⟩,(l5 rfl (ex3 ro _ _ ⟨rfl,rfl,B7,zad (by rw [ab]; lia),rw++[some _],_,_,_,rfl,by rw [aq,oZ]; rfl,zah sX Bf,by rw [zc,am]; rfl,by rw [zn vH]; exact Dc,ziG uW (by first | exact⟨aQ _ #[O],aH _ p0⟩ | exact ziH p0)⟩))⟩)
     ·refine zme ?_;exact (l5 rfl ⟨.inl ⟨rfl,_,me.of B7⟩,(l5 rfl (ex3 ro _ _ ⟨rfl,rfl,B7,zad (by rw [ab]; lia),rw++[some _],_,_,_,rfl,by rw [aq,oZ]; rfl,zah sX Bf,by rw [zc,am]; rfl,by rw [zn vH]; exact Dc,ziG uW (by first | exact⟨aQ _ #[O],aH _ p0⟩ | exact ziH p0)⟩))⟩)
   ·rintro σ H7 ⟨rw,v11,B3,B4,rfl,oZ,s7,B5,C',uW⟩;refine (l5 rfl (ex4 sl _ _ _ ⟨rfl,rfl,me.of C',e19,(mv rfl rfl ⟨(by show (0:Int) < 30; decide),rfl,(l5 rfl ?_)⟩)⟩));refine zaM (fun _=>?_) (fun _=>(l5 rfl (q ro rw H7 Gq (s5.trans s7) oZ uW B5)));refine⟨by show 1≤sizeLine; lia,fun z hz=>(l5 rfl ⟨ro,(l5 rfl ⟨.inl (me.of ((zb hz) _ _ B5)),z,_,[.non],rfl,rfl,zc,by rw [ab]; lia,by rw [ab]; lia,by rw [ab]; show 1*_≤sizeLine; lia,fun y hy=>?_⟩)⟩)⟩;have s8:=(s5.trans s7).trans (zb (o:=.lst [.non]) hz);refine q y (ap pl.length none) _ (s8.free hy) (s8.trans (zb hy)) (by rw [aU]) (fun z hz=>by cases eQ hz) ?_;rw [zc,ab,zrC,oZ,bC]
theorem zb1:FnScope ["p","polynomial","x","value","number"] ["p","polynomial","x"] (zh zcE):=#[S]
theorem zcY {fd:FuncData} (T:Txt K mg t) (F:Fun K "value_at" "value_at" zcE t.value_at fd):FnOk P w K mg base CX0 1 t.value_at fd ["p","polynomial","x"] (zej K):=by
 refine F.ok zb1 (fun vs H Q E h=>?_) (fun mQ A outer s H vs Q E hr h=>?_)
 ·obtain⟨p,x,a,cs,rfl,_⟩:=h;rfl
 ·obtain⟨p,x,a,cs,rfl,hS,p0,p1,x0,x1,q⟩:=h;apply zaF; intro zX;refine⟨_,#[ze,#[zm,3,zb1.nd,#[A],#[zf]],#[ze,#[zaD,bq,(@zqd _ _ _ _ _ _ rfl T.reversed_ #[ya,#[pvx,1]] (by rfl)),#[zg,4,zb1.nd,#[A]],#[zl,#[zm,3,zb1.nd,#[A],#[zi,#[zI],#[zi,#[zH],#[zi,#[zU],#[pvx,3],#[pvx,2]],#[pvx,4]],#[pvx,0]]]]],#[zl,#[zC,#[pvx,3]]]]],?_⟩;apply ze5; intro pZ oS;refine (l5 rfl ⟨a,cs.map V.int,rfl,?_⟩);rcases hS with hS | hS
  ·refine .inl ⟨hS,?_⟩;rw [ab];refine zeF (n:=cs.length) (fun i σ H'=>H'=H∧∃ nb,σ = [some (.int p),some (.ref a),some (.int x),some (.int (zt p x (cs.drop (cs.length - i)))),nb]) ⟨rfl,none,by rw [eR,gS]; rfl⟩
    (fun i σ H' hi ⟨e,_⟩=>⟨hi,cs.map V.int,by rw [e]; exact hS,by rw [ab]⟩) (fun σ H' _=>ag _) ?_ ?_
   ·rintro zD zT i y σ H1 H2 hi ⟨rfl,nb,rfl⟩ ⟨rfl,hy⟩;obtain⟨c,rfl,hc⟩:=zaj (hy _ hS);have v0:=zbL (x:=x) p0 (cs.drop (cs.length - i));have v1:=zbM (x:=x) p0 (cs.drop (cs.length - i));refine (l5 rfl (l5 rfl (mv rfl rfl ⟨.inl ⟨#[O],#[O]⟩,(l5 rfl (mv rfl rfl (l5 rfl (mv rfl rfl ⟨p0,?_⟩))))⟩)));refine⟨rfl,some (.int c),?_⟩;rw [zgo hi hc];show _ = [some (V.int p),_,_,some (V.int ((c+x*zt p x (cs.drop (cs.length - i))) % p)),_];rw [Int.add_comm c,i8 x];rfl
   ·rintro σ H1 ⟨rfl,nb,rfl⟩;rw [fF,fC];exact (l5 rfl q)
  ·refine .inr ⟨hS,?_⟩;rw [ab];refine zeF (n:=cs.length) (fun i σ H'=>H'=H∧∃ nb,σ = [some (.int p),some (.ref a),some (.int x),some (.int (zt p x (cs.drop (cs.length - i)))),nb]) ⟨rfl,none,by rw [eR,gS]; rfl⟩
    (fun i σ H' hi ⟨e,_⟩=>⟨hi,cs.map V.int,by rw [e]; exact hS,by rw [ab]⟩) (fun σ H' _=>ag _) ?_ ?_
   ·rintro zD zT i y σ H1 H2 hi ⟨rfl,nb,rfl⟩ ⟨rfl,hy⟩;obtain⟨c,rfl,hc⟩:=zaj (hy _ hS);have v0:=zbL (x:=x) p0 (cs.drop (cs.length - i));have v1:=zbM (x:=x) p0 (cs.drop (cs.length - i));refine (l5 rfl (l5 rfl (mv rfl rfl ⟨.inl ⟨#[O],#[O]⟩,(l5 rfl (mv rfl rfl (l5 rfl (mv rfl rfl ⟨p0,?_⟩))))⟩)));refine⟨rfl,some (.int c),?_⟩;rw [zgo hi hc];show _ = [some (V.int p),_,_,some (V.int ((c+x*zt p x (cs.drop (cs.length - i))) % p)),_];rw [Int.add_comm c,i8 x];rfl
   ·rintro σ H1 ⟨rfl,nb,rfl⟩;rw [fF,fC];exact (l5 rfl q)
theorem za9:FnScope ["p","number","product","square","left"] ["p","number"] (zh zc9):=#[S]
theorem zfD {fd:FuncData} (T:Txt K mg t) (F:Fun K "inverse" "inverse" zc9 t.inverse fd):FnOk P w K mg base CX0 1 t.inverse fd ["p","number"] (zjg K):=by
 refine F.ok za9 (fun vs H Q E h=>?_) (fun mQ A outer s H vs Q E hr h=>?_)
 ·obtain⟨p,h,rfl,_⟩:=h;rfl
 ·obtain⟨p,hh,rfl,mp,h0,h1,q⟩:=h;apply zaF; intro zX;refine⟨_,#[ze,#[zm,2,za9.nd,#[A],#[zf]],#[ze,#[zm,3,za9.nd,#[A],#[zi,#[zI],#[pvx,1],#[pvx,0]]],#[ze,#[zm,4,za9.nd,#[A],#[zi,#[zap],#[pvx,0],#[zf]]],#[ze,#[zeZ,bq,#[zL,#[ze2],#[pvx,4],#[zf],(zZ _)],#[ze,#[zbm,#[zL,#[zdh],#[zi,#[zI],#[pvx,4],#[zf]],#[zf],(zZ _)],#[zl,#[zm,2,za9.nd,#[A],#[zi,#[zI],#[zi,#[zU],#[pvx,2],#[pvx,3]],#[pvx,0]]]],#[zaw]],#[ze,#[zm,3,za9.nd,#[A],#[zi,#[zI],#[zi,#[zU],#[pvx,3],#[pvx,3]],#[pvx,0]]],#[zl,#[zi4,4,za9.nd,#[A],#[zf],zl7]]]]],#[zl,#[zC,#[pvx,2]]]]]]],?_⟩;apply zok; intro yr uL pZ oS;have rp:=zw mp;have e0:=aQ hh (show p≠0 by lia);have e1:=aH hh (show 0 < p by lia);refine (l5 rfl (l5 rfl (mv rfl rfl ⟨(by show 0 < p; lia),(l5 rfl (mv rfl rfl ?_))⟩)));refine zhH (fun σ H'=>H'=H∧∃ (prod sq left:Int) (n:Nat),σ = [some (.int p),some (.int hh),some (.int prod),some (.int sq),some (.int left)]∧0≤prod∧prod < p∧0≤sq∧sq < p∧0≤left∧left < 2 ^ n∧zc1 p n prod sq left=inv p hh) (fun σ _=>zqi σ)
   ⟨rfl,1,hh % p,p - 2,7,rfl,#[O],#[O],e0,e1,#[O],#[O],rfl⟩ ?_ ?_
  ·rintro σ H1 ⟨rfl,prod,sq,left,n,rfl,b0,b1,s0,s1,l0,l1,hi⟩;refine (l5 rfl (mv rfl rfl (l5 rfl ?_)));refine zaM (fun hl=>?_) (fun hl=>?_)
   ·have hl:0 < left:=by simpa using hl
    obtain⟨m,rfl⟩:∃ m,n=m+1:=by
     cases n with
     | zero=>lia
     | succ m=>exact⟨m,rfl⟩
    rw [zgT hl l1] at hi;have l2:left / 2 < 2 ^ m:=by
     have:(2:Int) ^ (m+1)=2 ^ m*2:=fE ..;lia
    have m0:=aQ (prod*sq) (show p≠0 by lia);have m1:=aH (prod*sq) (show 0 < p by lia);have n0:=aQ (sq*sq) (show p≠0 by lia);have n1:=aH (sq*sq) (show 0 < p by lia);refine (l5 rfl (mv rfl rfl ⟨(by show (0:Int) < 2; decide),rfl,(l5 rfl ?_)⟩)); refine zaM (fun ho=>?_) (fun ho=>?_)
    ·have ho:left % 2=1:=by simpa using ho
     rw [if_pos ho] at hi;refine (l5 rfl (l5 rfl (mv rfl rfl ⟨.inl ⟨#[O],#[O]⟩,(l5 rfl (mv rfl rfl ⟨(by show 0 < p; lia),?_⟩))⟩)));refine (l5 rfl (l5 rfl (mv rfl rfl ⟨.inl ⟨#[O],#[O]⟩,(l5 rfl (mv rfl rfl ⟨(by show 0 < p; lia),?_⟩))⟩)));refine (l5 rfl (mv rfl rfl ⟨⟨#[D],#[D]⟩,⟨rfl,_,_,_,m,rfl,m0,m1,n0,n1,#[O],l2,hi⟩,?_⟩));show (left / 2).toNat < left.toNat;lia
    ·have ho:¬ left % 2=1:=by simpa using ho
     rw [if_neg ho] at hi;refine (l5 rfl (l5 rfl (mv rfl rfl ⟨.inl ⟨#[O],#[O]⟩,(l5 rfl (mv rfl rfl ⟨(by show 0 < p; lia),?_⟩))⟩)));refine (l5 rfl (mv rfl rfl ⟨⟨#[D],#[D]⟩,⟨rfl,_,_,_,m,rfl,b0,b1,n0,n1,#[O],l2,hi⟩,?_⟩));show (left / 2).toNat < left.toNat;lia
   ·have hl:¬ 0 < left:=by simpa using hl
    have el:left=0:=by lia
    subst el;rw [zhZ] at hi;rw [← hi] at q;exact (l5 rfl q)
  ·rintro σ H1 Q1 Q2 hq ⟨v,e,i,j,e1,e2,k,e3,q⟩;exact⟨v,e,i,j,e1,e2,k,e3,hq _ _ q⟩
def zfE (K:ah):Sp:=fun vs H Q _=>∃ (p r:Int) (a:Addr) (cs:List Int),vs = [.int p,.ref a,.int r]∧H a=some (.lst (cs.map V.int))∧cs.length≤1000∧0 < p∧-97≤r∧r≤97 ∧
 ∀ (l:Addr) (H':Hp),H l=none→zu H H'→H' l=some (.lst ((zbZ p r cs).map V.int))→Q (.ref l) H'
theorem zb9:FnScope ["p","polynomial","root","raised","kept"] ["p","polynomial","root"] (zh zbh):=#[S]
theorem zdn {fd:FuncData} (T:Txt K mg t) (F:Fun K "times_root" "times_root" zbh t.times_root fd):FnOk P w K mg base CX0 1 t.times_root fd ["p","polynomial","root"] (zfE K):=by
 refine F.ok zb9 (fun vs H Q E h=>?_) (fun mQ A outer s H vs Q E hr h=>?_)
 ·obtain⟨p,r,a,cs,rfl,_⟩:=h;rfl
 ·obtain⟨p,r,a,cs,rfl,ha,mB,p0,r0,r1,q⟩:=h;apply zaF; intro zX;refine⟨_,#[ze,#[zm,3,zb9.nd,#[A],#[zi,#[zb4],#[z0,#[ya,#[zf]]],#[pvx,1]]],#[ze,#[zm,4,zb9.nd,#[A],#[zi,#[zb4],#[pvx,1],#[z0,#[ya,#[zf]]]]],#[zl,#[zC,#[zO,(CompSc.of (N':=["high","low","root","p"]) (ix:=[none,none,some 2,some 0]) (zh zbh) ["p","polynomial","root","raised","kept"] rfl rfl #[N]),#[zaL,#[zy,#[zy,#[zar]]]],#[zdE,T.zip_,#[za,#[pvx,3],#[ya,#[pvx,4]]]],(fun _ _ _ _=>#[zaf,(K),2,#[zj,#[zg,0,(nd_ ["high","low","root","p"]),#[A]],#[zj,#[zg,1,(nd_ ["high","low","root","p"]),#[A]],#[zG]]]]),(fun _ _ _ _=>#[zz]),(fun _ _ _ _=>#[zi,#[zI],#[zi,#[zap],#[pvx,0],#[zi,#[zU],#[pvx,2],#[pvx,1]]],#[pvx,3]])]]]]],?_⟩;apply ze5; intro pZ oS;have pf:=bf;refine⟨by show 1≤sizeLine; lia,fun z hz=>(l5 rfl (ex4 z a ([.int 0]) (cs.map V.int) ⟨rfl,rfl,zc,by rw [zn (zA ha hz)]; exact ha,by rw [ab]; show 1+cs.length≤sizeLine; lia,fun ra ue=>?_⟩))⟩;have s1:zu H (mh (mh H z (.lst [.int 0])) ra (.lst ([.int 0]++cs.map V.int))):=(zb hz).trans (zb ue);refine (l5 rfl ⟨by show 1≤sizeLine; lia,fun z2 uF=>(ex4 a z2 (cs.map V.int) ([.int 0]) ⟨rfl,rfl,by rw [zn (zA (s1 _ _ ha) uF)]; exact s1 _ _ ha,zc,by rw [ab]; show cs.length+1≤sizeLine; lia,fun ke hke=>?_⟩)⟩);have s2:=s1.trans ((zb (o:=.lst [.int 0]) uF).trans (zb (o:=.lst (cs.map V.int++[.int 0])) hke));have xr:mh (mh (mh (mh H z (.lst [.int 0])) ra (.lst ([.int 0]++cs.map V.int))) z2 (.lst [.int 0])) ke (.lst (cs.map V.int++[.int 0])) ra=some (.lst ((0 :: cs).map V.int)) :=
   ((zb (o:=.lst [.int 0]) uF).trans (zb (o:=.lst (cs.map V.int++[.int 0])) hke)) _ _ zc
  have xt:mh (mh (mh (mh H z (.lst [.int 0])) ra (.lst ([.int 0]++cs.map V.int))) z2 (.lst [.int 0])) ke (.lst (cs.map V.int++[.int 0])) ke=some (.lst ((cs++[0]).map V.int)):=by rw [zc,am]; rfl
  generalize mh (mh (mh (mh H z (.lst [.int 0])) ra (.lst ([.int 0]++cs.map V.int))) z2 (.lst [.int 0])) ke (.lst (cs.map V.int++[.int 0]))=H2 at s2 xr xt ⊢;refine (l5 rfl (l5 rfl (ex4 ra ke _ _ ⟨rfl,me.of xr,me.of xt,zV (n:=cs.length+1) (fun i ys H'=>ys=((zbZ p r cs).take i).map V.int∧zu H2 H') ⟨#[M],fun _ _ e=>e⟩ ?_ ?_ ?_ ?_⟩)))
  ·rintro i ys H3 hi ⟨_,s3⟩;obtain⟨x,hx⟩:∃ x,(0 :: cs)[i]? = some x:=⟨(0 :: cs)[i]'(by simpa using hi),#[M]⟩;obtain⟨y,hy⟩:∃ y,(cs++[0])[i]? = some y:=⟨(cs++[0])[i]'(by simpa using hi),#[M]⟩;exact⟨_,_,.int x,.int y,me.of (s3 _ _ xr),me.of (s3 _ _ xt),by rw [af,hx]; rfl,by rw [af,hy]; rfl⟩
  ·rintro ys H3 ⟨_,s3⟩;exact⟨_,_,me.of (s3 _ _ xr),me.of (s3 _ _ xt),.inl #[M]⟩
  ·rintro i x ys H3 H4 hi ⟨rfl,s3⟩ ⟨T,u,v,hT,rfl,rfl,hu,hv⟩;obtain⟨x,rfl,hx⟩:=zaj (hu _ (me.of (s3 _ _ xr)));obtain⟨y,rfl,hy⟩:=zaj (hv _ (me.of (s3 _ _ xt)));refine gY2 (mE.of zc) ?_;refine (l5 rfl (l5 rfl (l5 rfl (mv rfl rfl ⟨.inl ⟨#[O],#[O]⟩,(mv rfl rfl (l5 rfl (mv rfl rfl ⟨p0,zad ?_,?_,s3.trans (zb hT)⟩)))⟩))))
   ·rw [ab];exact aT (eY _ _) #[O]
   ·show _=(List.take (i+1) (bu (trF p r) (0 :: cs) (cs++[0]))).map V.int;rw [zh0 hx hy,am];rfl
  ·rintro ys H3 D ⟨rfl,s3⟩ hD;refine q D _ ((s2.trans s3).free hD) ((s2.trans s3).trans (zb hD)) ?_;rw [zc,aJ (by rw [zcd]; exact ag _)]
theorem znF {p f:Int}:∀ (cs vs:List Int),vs.length≤cs.length→ad p f cs vs=bu (fun number other=>(number+f*other) % p) cs vs++cs.drop vs.length
 | [],[],_=>rfl
 | _ :: _,[],_=>rfl
 | [],_ :: _,h=>by simp at h
 | c :: cs,v :: vs,h=>by
  show (c+f*v) % p :: ad p f cs vs=(c+f*v) % p :: (bu _ cs vs++cs.drop vs.length);rw [znF cs vs (by simpa using h)]
theorem ziI {xs:List V} {k:Nat} (h:k≤xs.length):zcK xs (some (k:Int)) none=xs.drop k:=by
 have e1:HT.sIx xs.length 0 (some (k:Int))=k:=by
  unfold HT.sIx;simp;split <;> lia
 have e2:HT.sIx xs.length xs.length none=xs.length:=rfl;unfold zcK;rw [e1,e2];exact aJ (by rw [dv]; exact ag _)
def zpb (K:ah):Sp:=fun vs H Q _=>∃ (p x y:Int) (c v b:Addr) (cs ws:List Int),vs = [.int p,.ref c,.ref v,.ref b]∧H c=some (.lst (cs.map V.int))∧H v=some (.lst (ws.map V.int))∧H b=some (.tup [.int x,.int y])∧p∈zr∧0≤x∧x < p∧0≤y∧y < 10000∧0 < zt p x ws∧zt p x ws < p∧ws.length≤cs.length∧cs.length≤1000 ∧
 ∀ (l:Addr) (H':Hp),H l=none→zu H H'→H' l=some (.lst ((ad p ((y - zt p x cs)*inv p (zt p x ws) % p) cs ws).map V.int))→Q (.ref l) H'
theorem zde:FnScope ["p","polynomial","vanishing","point","x","y","missing","factor","added"] ["p","polynomial","vanishing","point"] (zh zfA):=#[S]
theorem zpc {fd:FuncData} (T:Txt K mg t) (F:Fun K "bent" "bent" zfA t.bent fd):FnOk P w K mg base CX0 2 t.bent fd ["p","polynomial","vanishing","point"] (zpb K):=by
 obtain⟨oG,mL,mN⟩:=T.f_value_at;have m5:=zcY (P:=P) (w:=w) (base:=base) T mL;obtain⟨qU,nY,nZ⟩:=T.f_inverse;have p6:=zfD (P:=P) (w:=w) (base:=base) T nY;refine F.ok zde (fun vs H Q E h=>?_) (fun mQ A outer s H vs Q E hr h=>?_)
 ·obtain⟨p,x,y,c,v,b,cs,ws,rfl,_⟩:=h;rfl
 ·obtain⟨p,x,y,c,v,b,cs,ws,rfl,hc,hv,hb,mp,x0,x1,y0,y1,g0,g1,hle,mB,q⟩:=h;apply zaF; intro zX;refine⟨_,#[ze,#[zbp,#[pvx,3],#[zbf,#[zj,#[zg,4,zde.nd,#[A]],#[zj,#[zg,5,zde.nd,#[A]],#[zG]]]]],#[ze,#[zm,6,zde.nd,#[A],#[zi,#[zap],#[pvx,5],#[zp,m5,(hr.mono #[D]),T.m_value_at,mL.kp,mN,#[zN],#[za,#[pvx,0],#[za,#[pvx,1],#[ya,#[pvx,4]]]]]]],#[ze,#[zm,7,zde.nd,(cB rfl),#[zi,#[zI],#[zi,#[zU],#[pvx,6],#[zp,p6,(hr.mono #[D]),T.m_inverse,nY.kp,nZ,#[zN],#[za,#[pvx,0],#[ya,#[zp,m5,(hr.mono #[D]),T.m_value_at,mL.kp,mN,#[zN],#[za,#[pvx,0],#[za,#[pvx,2],#[ya,#[pvx,4]]]]]]]]],#[pvx,0]]],#[ze,#[zaO,8,zde.nd,#[A],(CompSc.of (N':=["number","other","factor","p"]) (ix:=[none,none,some 7,some 0]) (zh zfA) ["p","polynomial","vanishing","point","x","y","missing","factor","added"] rfl rfl #[N]),#[zaL,#[zy,#[zy,#[zar]]]],#[zdE,T.zip_,#[za,#[pvx,1],#[ya,#[pvx,2]]]],(fun _ _ _ _=>#[zaf,(K),2,#[zj,#[zg,0,(nd_ ["number","other","factor","p"]),#[A]],#[zj,#[zg,1,(nd_ ["number","other","factor","p"]),#[A]],#[zG]]]]),(fun _ _ _ _=>#[zz]),(fun _ _ _ _=>#[zi,#[zI],#[zi,#[zH],#[pvx,0],#[zi,#[zU],#[pvx,2],#[pvx,1]]],#[pvx,3]])],#[zl,#[zC,#[zi,#[zb4],#[pvx,8],#[zby,zcq,#[pvx,1],#[zbJ,#[zo,#[zq],T.len_,bP,#[ya,#[pvx,8]]]],#[zcp]]]]]]]]],?_⟩;apply zok; intro yr uL pZ oS;have pf:=bf;have rp:=zw mp;have p0:0 < p:=by lia
  have v0:=zbL (x:=x) p0 cs;have v1:=zbM (x:=x) p0 cs;refine⟨_,rfl,b,_,rfl,mE.of hb,rfl,_,_,rfl,_,_,rfl,rfl,?_⟩;refine (l5 rfl (l5 rfl (l5 rfl (l5 rfl (ex4 p x c cs ⟨rfl,.inl (me.of hc),p0,#[O],x0,x1,(mv rfl rfl ?_)⟩)))));refine (l5 rfl (l5 rfl (l5 rfl (l5 rfl (l5 rfl (ex4 p x v ws ⟨rfl,.inl (me.of hv),p0,#[O],x0,x1,p,(l5 rfl ⟨mp,#[O],#[O],(mv rfl rfl ⟨.inl ⟨#[O],#[O]⟩,(l5 rfl (mv rfl rfl ⟨p0,?_⟩))⟩)⟩)⟩))))));have f0:=aQ ((y - zt p x cs)*inv p (zt p x ws)) (show p≠0 by lia);have f1:=aH ((y - zt p x cs)*inv p (zt p x ws)) p0;refine (l5 rfl (l5 rfl (ex4 c v _ _ ⟨rfl,me.of hc,me.of hv,zd5 (n:=ws.length) (f:=fun number other=>(number+((y - zt p x cs)*inv p (zt p x ws) % p)*other) % p) hc hv hle (ag _) (.inr (ag _)) #[O] ?_ ?_⟩)))
  ·intro j u w H6 T R B hu hv s6 hT hR;refine gY2 (mE.of zc) ?_;exact (l5 rfl (l5 rfl (l5 rfl (mv rfl rfl ⟨.inl ⟨#[O],#[O]⟩,(mv rfl rfl (l5 rfl (mv rfl rfl ⟨p0,hR⟩)))⟩))))
  ·intro D H6 s6 hD;obtain⟨f,hf⟩:∃ f,(y - zt p x cs)*inv p (zt p x ws) % p=f:=⟨_,rfl⟩;rw [hf] at q ⊢;have lz:(bu (fun number other=>(number+f*other) % p) cs ws).length=ws.length:=by rw [fV]; lia
   have s7:=s6.trans (zb (o:=.lst ((bu (fun number other=>(number+f*other) % p) cs ws).map V.int)) hD);have yw:mh H6 D (.lst ((bu (fun number other=>(number+f*other) % p) cs ws).map V.int)) D=some (.lst ((bu (fun number other=>(number+f*other) % p) cs ws).map V.int)):=zc;generalize mh H6 D (.lst ((bu (fun number other=>(number+f*other) % p) cs ws).map V.int))=H7 at s7 yw ⊢;have Dd:=s7 _ _ hc;refine (l5 rfl (l5 rfl (l5 rfl ⟨D,(l5 rfl ⟨.inl (me.of yw),?_⟩)⟩)));refine (l5 rfl ⟨c,(l5 rfl ⟨me.of Dd,fun z hz=>?_⟩)⟩);have ec:zcK (cs.map V.int) (some ((((bu (fun number other=>(number+f*other) % p) cs ws).map V.int).length:Nat):Int)) none=(cs.drop ws.length).map V.int:=by
    rw [ab,lz,ziI (by rw [ab]; exact hle),iJ]
   rw [ec];have s8:=zb (o:=.lst ((cs.drop ws.length).map V.int)) hz;refine (ex4 D z _ _ ⟨rfl,rfl,s8 _ _ yw,zc,by rw [ab,ab,lz,dv]; lia,fun l hl=>q l _ (((s7.trans s8).free hl)) ((s7.trans s8).trans (zb hl)) ?_⟩);rw [zc,znF cs ws hle,am]
theorem zba:FnScope ["p","points","polynomial","vanishing","x","y"] ["p","points"] (zh zda):=#[S]
theorem zjB {fd:FuncData} (T:Txt K mg t) (F:Fun K "through" "through" zda t.through fd):FnOk P w K mg base CX0 3 t.through fd ["p","points"] (ziy K):=by
 obtain⟨yx,xu,uX⟩:=T.f_bent;have Bh:=zpc (P:=P) (w:=w) (base:=base) T xu;obtain⟨o6,mW,mX⟩:=T.f_times_root;have n9:=zdn (P:=P) (w:=w) (base:=base) T mW;refine F.ok zba (fun vs H Q E h=>?_) (fun mQ A outer s H vs Q E hr h=>?_)
 ·obtain⟨p,a,mi,rfl,_⟩:=h;rfl
 ·obtain⟨p,a,mi,rfl,hP,mB,mp,hp,hyr,q⟩:=h;apply zaF; intro zX;refine⟨_,#[ze,#[zm,2,zba.nd,#[A],#[zi,#[zcs],#[z0,#[ya,#[zf]]],#[zo,#[zq],T.len_,bP,#[ya,#[pvx,1]]]]],#[ze,#[zm,3,zba.nd,#[A],#[z0,#[ya,#[zf]]]],#[ze,#[zaD,bq,#[zY,#[pvx,1]],#[zbf,#[zj,#[zg,4,zba.nd,#[A]],#[zj,#[zg,5,zba.nd,#[A]],#[zG]]]],#[ze,#[zm,2,zba.nd,#[A],#[zp,Bh,(hr.mono #[D]),T.m_bent,xu.kp,uX,#[zN],#[za,#[pvx,0],by exact #[za,#[pvx,2],#[za,#[pvx,3],#[ya,#[za0,#[za,#[pvx,4],#[ya,#[pvx,5]]]]]]]]]],#[zl,#[zm,3,zba.nd,#[A],#[zp,n9,(hr.mono #[D]),T.m_times_root,mW.kp,mX,#[zN],#[za,#[pvx,0],#[za,#[pvx,3],#[ya,#[pvx,4]]]]]]]]],#[zl,#[zC,#[zaE,#[za2],T.tuple_,iY,#[ya,#[pvx,2]]]]]]]],?_⟩;apply zja; intro uL pZ oS;have pf:=bf;have rp:=zw mp;have p0:0 < p:=by lia
  obtain⟨bs,hS,sU,hb⟩:=id hP;refine⟨by show 1≤sizeLine; lia,fun z hz=>(l5 rfl ⟨a,(l5 rfl ⟨.inl ((zb hz).seq hS),z,_,[.int 0],rfl,rfl,zc,by rw [ab]; lia,by rw [ab]; lia,by rw [ab]; show 1*_≤sizeLine; lia,fun c hc=>?_⟩)⟩)⟩;have s0:=zb (o:=.lst [.int 0]) hz;have hcH:H c=none:=s0.free hc;refine⟨by show 1≤sizeLine; lia,fun v hv=>?_⟩;have hcv:c≠v:=zA zc hv;rw [ab,zh1,sU,bC] at hv ⊢;have s2:zu H (mh (mh (mh H z (.lst [.int 0])) c (.lst ((ap mi.length 0).map V.int))) v (.lst [.int 1])):=(s0.trans (zb hc)).trans (zb hv);refine⟨_,rfl,a,rfl,⟨_,s2.seq hS⟩,zbq (K:=K) (a:=a) (xs:=bs.map V.ref) (fun i σ H'=>∃ (c v:Addr) (s:List Int×List Int) (e4 e5:Option V),σ = [some (.int p),some (.ref a),some (.ref c),some (.ref v),e4,e5] ∧
   s=(mi.take i).foldl (zcQ p) (ap mi.length 0,[1])∧Nw p mi.length ((mi.take i).map (md p)) s∧zu H H'∧H' c=some (.lst (s.1.map V.int))∧H' v=some (.lst (s.2.map V.int)))
   ⟨c,v,_,none,none,rfl,rfl,by rw [dW]; exact zhY mp _,s2,by rw [zn hcv]; exact zc,zc⟩ (fun i σ H' _ ⟨_,_,_,_,_,_,_,_,s3,_⟩=>s3.seq hS) ?_ ?_⟩
  ·rintro zD zT i y σ H1 hy ⟨c,v,s,e4,e5,rfl,hs,nw,s1,tf,Gy⟩;obtain⟨b,rfl,yz⟩:=zQ hy;obtain⟨hi,_⟩:=au.mp yz;obtain⟨⟨x,y⟩,hq⟩:∃ q,mi[i]? = some q:=⟨mi[i]'#[O],#[M]⟩;have hbq:=s1 _ _ (hb i b _ yz hq);have xP:=zfd hq;have rQ:=hp;rw [xP,am,bg] at rQ;have Ep:=rQ.apart;obtain⟨x0,x1,m0,m1⟩:=hp.rg _ (az.mpr ⟨_,aA hq,rfl⟩);obtain⟨y0,y1⟩:=hyr _ (aA hq);dsimp only [md] at x0 x1 m0 m1 y0 y1;have B0:i < mi.length:=by lia
   have pI:(mi.take i).length=i:=by rw [aI]; lia
   have Gz:=zj1 mp nw (q:=md p (x,y)) (by rw [ab,pI]; exact B0) x0 x1 m0 m1 Ep;rw [zix] at Gz;obtain⟨Er,y9⟩:=zj0 mp nw (q:=(x,y)) x0 x1 (fun a ha=>⟨(Ep a ha).1,(Ep a ha).2.1,(Ep a ha).2.2.1⟩);dsimp only at Er y9;have nS:zcQ p s (x,y)=(ad p ((y - zt p x s.1)*inv p (zt p x s.2) % p) s.1 s.2,zbZ p x s.2):=rfl;rw [nS] at Gz;have l1:=nw.lc;have l2:=nw.lv;rw [ab,pI] at l2;refine⟨b,_,rfl,mE.of hbq,rfl,_,_,rfl,_,_,rfl,rfl,?_⟩;refine (l5 rfl (l5 rfl (l5 rfl (l5 rfl (l5 rfl ⟨by show 2≤sizeLine; lia,fun tt ht=>?_⟩)))));have t1:=zb (o:=.tup [.int x,.int y]) ht;refine (ex8 p x y c v tt s.1 s.2 ⟨rfl,t1 _ _ tf,t1 _ _ Gy,zc,mp,x0,x1,y0,y1,Er,y9,#[O],#[O],fun l H3 hl s3 Ab=>?_⟩);have s4:=t1.trans s3;refine (l5 rfl (l5 rfl (l5 rfl (ex4 p x v s.2 ⟨rfl,s4 _ _ Gy,#[O],p0,#[O],#[O],fun l2 H4 qJ s5 h4l=>?_⟩))));refine (ex5 l l2 (zcQ p s (x,y)) _ _ ⟨rfl,?_,?_,(s1.trans s4).trans s5,?_,?_⟩)
   ·rw [take_snoc hq,List.foldl_append,← hs];rfl
   ·rw [take_snoc hq,nS,am];exact Gz
   ·rw [nS];exact s5 _ _ Ab
   ·rw [nS];exact h4l
  ·rintro σ H1 ⟨c,v,s,e4,e5,rfl,hs,nw,s1,tf,Gy⟩;rw [ab,sU,ci] at hs;refine (l5 rfl ⟨c,(l5 rfl (.inl ⟨me.of tf,fun l hl=>q l _ (s1.free hl) (s1.trans (zb hl)) ?_⟩))⟩);rw [zc,hs,zqB];rfl
theorem za6:FnScope ["code","row","p","k","places"] ["code","row"] (zh zaS):=#[S]
theorem zcJ {fd:FuncData} (T:Txt K mg t) (F:Fun K "heard_points" "heard_points" zaS t.heard_points fd):FnOk P w K mg base CX0 1 t.heard_points fd ["code","row"] (zoK K):=by
 refine F.ok za6 (fun vs H Q E h=>?_) (fun mQ A outer s H vs Q E hr h=>?_)
 ·obtain⟨c,tt,r,p,k,pl,rw,rfl,_⟩:=h;rfl
 ·obtain⟨c,tt,r,p,k,pl,rw,rfl,hc,m8,hn,q⟩:=h;apply zaF; intro zX;refine⟨_,#[ze,#[zbp,#[pvx,0],#[zbf,#[zj,#[zg,2,za6.nd,#[A]],#[zj,#[zg,3,za6.nd,#[A]],#[zj,#[zg,4,za6.nd,#[A]],#[zG]]]]]],#[zl,#[zC,#[zO,(CompSc.of (N':=["place","entry"]) (ix:=[none,none]) (zh zaS) ["code","row","p","k","places"] rfl rfl #[N]),#[zaL,#[zy,#[zy,#[zar]]]],(@zmy _ _ _ _ _ _ _ _ _ rfl T.zip_ #[za,#[pvx,4],#[ya,#[pvx,1]]] (by rfl) (by rfl)),(fun _ _ _ _=>#[zaf,(K),2,#[zj,#[zg,0,(nd_ ["place","entry"]),#[A]],#[zj,#[zg,1,(nd_ ["place","entry"]),#[A]],#[zG]]]]),(fun _ _ _ _=>#[zaJ,#[zL,#[zgK],#[pvx,1],#[zd1],(zZ _)]]),(fun _ _ _ _=>#[za0,#[za,#[pvx,0],#[ya,#[pvx,1]]]])]]]],?_⟩;apply zi9; intro oS;have pf:=bf;have hl:=m8.len;refine⟨_,rfl,c,_,rfl,mE.of hc.1,rfl,_,_,rfl,_,_,rfl,_,_,rfl,rfl,?_⟩;refine (l5 rfl (l5 rfl (ex4 tt r _ _ ⟨rfl,mE.of hc.2,m8.at',zV (n:=pl.length) (fun i ys H'=>zu H H'∧∃ us:List Addr,ys=us.map V.ref∧PtB H' us (mS (pl.take i) (rw.take i))) ⟨fun _ _ e=>e,[],rfl,.nil⟩ ?_ ?_ ?_ ?_⟩)))
  ·rintro i ys H3 hi ⟨s3,_⟩;obtain⟨o,ho⟩:∃ o,rw[i]? = some o:=⟨rw[i]'#[O],#[M]⟩;exact⟨_,_,.int pl[i],pK o,mE.of (s3 _ _ hc.2),s3.seq m8.at',by rw [af,aj hi]; rfl,by rw [af,ho]; rfl⟩
  ·rintro ys H3 ⟨s3,_⟩;exact⟨_,_,mE.of (s3 _ _ hc.2),s3.seq m8.at',.inl (by rw [ab])⟩
  ·rintro i xx ys H3 H4 hi ⟨s3,us,rfl,mH⟩ ⟨T,u,v,hT,rfl,rfl,hu,hv⟩;obtain⟨x,rfl,hx⟩:=zaj (hu _ (mE.of (s3 _ _ hc.2)));obtain⟨o,rfl,ho⟩:=zgX (hv _ (s3.seq m8.at'));have v4:=zb (o:=.tup [.int x,pK o]) hT;have s4:=s3.trans v4;have hs:=zfp hx ho;have rN:=mH.length;have hb:=zc6 (pl.take i) (rw.take i);rw [aI] at hb;refine⟨T,_,rfl,mE.of zc,rfl,_,_,rfl,_,_,rfl,rfl,?_⟩;refine (l5 rfl ⟨rfl,(l5 rfl ?_)⟩);cases o with
   | none =>
    refine zme ⟨s4,us,rfl,?_⟩;rw [hs,bI];exact mH.same v4
   | some z =>
    refine zrT (l5 rfl (l5 rfl ⟨by show 2≤sizeLine; lia,fun T2 Ac=>⟨by rw [ab]; lia,s4.trans (zb Ac),us++[T2],by rw [am]; rfl,?_⟩⟩));rw [hs];exact b8 (mH.same (v4.trans (zb Ac))) zc
  ·rintro ys H3 D ⟨s3,us,rfl,mH⟩ hD;rw [ci,aJ #[O]] at mH;exact q D us _ (s3.free hD) (s3.trans (zb hD)) zc (mH.same (zb hD))
end
theorem zqP {j:Nat} {r:List Int} {m:Nat} {q:Int×Int} (h:q∈trm j r m):∃ i:Nat,q=((i:Int),(j:Int))∧i < m∧gl r i≠0:=by
 unfold trm at h
 (obtain⟨i,hi,rfl⟩:=az.mp h)
 obtain⟨h1,h2⟩:=bv.mp hi;exact⟨i,rfl,aZ.mp h1,of_decide_eq_true h2⟩
theorem zkH {n w:Nat} {c:Nat→Nat→Int} {j i:Nat} (hj:j < n) (hi:i < w):gl ((zR n w c).getD j []) i=c j i:=by
 have e:(zR n w c).getD j []=(av w).map fun i=>c j i:=by rw [aO,zat hj]; rfl
 rw [e];exact zbo (by rw [af,bi hi]; rfl)
theorem ziJ {n w:Nat} {c:Nat→Nat→Int} {j:Nat} (hj:j < n):((zR n w c).getD j []).length=w:=by
 rw [aO,zat hj];show ((av w).map fun i=>c j i).length=w;rw [ab,aL]
theorem zaU (n w:Nat) (g:Nat→Nat→Int):(zR n w g).length=n:=by unfold zR; rw [ab,aL]
theorem zfF {n w:Nat} {c:Nat→Nat→Int} {r:List Int} (h:r∈zR n w c):r.length=w:=by
 unfold zR at h;obtain⟨j,_,rfl⟩:=az.mp h;rw [ab,aL]
theorem zdf {n w:Nat} {c:Nat→Nat→Int} {q:Int×Int}:q∈zcj (zR n w c) n↔∃ i j:Nat,q=((i:Int),(j:Int))∧j < n∧i < w∧c j i≠0:=by
 unfold zcj;rw [cR];constructor
 ·rintro⟨j,hj,h⟩;have hj:=aZ.mp hj;rw [ziJ hj] at h;obtain⟨i,rfl,h1,h2⟩:=zqP h;rw [zkH hj h1] at h2;exact⟨i,j,rfl,hj,h1,h2⟩
 ·rintro⟨i,j,rfl,hj,hi,h⟩;refine⟨j,aZ.mpr hj,?_⟩;rw [ziJ hj];unfold trm;exact az.mpr ⟨i,bv.mpr ⟨aZ.mpr hi,decide_eq_true (by rw [zkH hj hi]; exact h)⟩,rfl⟩
theorem zqQ {n w:Nat} {c:Nat→Nat→Int} {M:Int} (h1:M∈(zcj (zR n w c) n).map (·.1)) (h2:∀ a∈(zcj (zR n w c) n).map (·.1),M≤a):∃ e:Nat,M=e∧Lea n w c e:=by
 obtain⟨q,hq,rfl⟩:=az.mp h1;obtain⟨i,j,rfl,hj,hi,hc⟩:=zdf.mp hq;refine⟨i,rfl,fun j' i' pT nH=>bY fun mV=>?_,j,hj,hi,hc⟩;have:=h2 _ (az.mpr ⟨_,zdf.mpr ⟨i',j',rfl,pT,#[O],mV⟩,rfl⟩);have:(i:Int)≤(i':Int):=this;lia
def zca (n e:Nat) (c:Nat→Nat→Int):List Int:=(av n).map fun j=>c j e
theorem zdU (n e:Nat) (c:Nat→Nat→Int):(zca n e c).length=n:=by unfold zca; rw [ab,aL]
theorem zqR {n e j:Nat} {c:Nat→Nat→Int} (h:j < n):gl (zca n e c) j=c j e:=zbo (by unfold zca; rw [af,bi h]; rfl)
def nums (p:Int) (n e:Nat) (c:Nat→Nat→Int) (m:Nat):List Int:=((av m).map fun b:Nat=>(b:Int)).filter fun b=>decide (zt p b (zca n e c)=0)
theorem zgE (p:Int) (n e:Nat) (c:Nat→Nat→Int) (m:Nat):nums p n e c (m+1)=nums p n e c m++if zt p (m:Int) (zca n e c)=0 then [(m:Int)] else []:=by
 unfold nums;rw [bX,am,cn];congr 1;rw [bg,ft,List.filter_cons,fh];by_cases h:zt p (m:Int) (zca n e c)=0
 ·rw [if_pos h,if_pos (decide_eq_true h)]
 ·rw [if_neg h,if_neg (by simpa using h)]
theorem zdV {p:Int} {n e m:Nat} {c:Nat→Nat→Int} {b:Int}:b∈nums p n e c m↔(0≤b∧b < m)∧zt p b (zca n e c)=0:=by
 unfold nums;rw [bv,az];constructor
 ·rintro⟨⟨x,hx,rfl⟩,h⟩;have:=aZ.mp hx;exact⟨⟨#[O],#[O]⟩,of_decide_eq_true h⟩
 ·rintro⟨⟨h1,h2⟩,h⟩;exact⟨⟨b.toNat,aZ.mpr #[O],#[O]⟩,decide_eq_true h⟩
theorem zfG (p:Int) (n e:Nat) (c:Nat→Nat→Int) (m:Nat):(nums p n e c m).Nodup:=j1 _ (cj.mpr (gE (fun {a b} BL e=>BL #[O]) gL))
theorem znG {p x:Int} {n e:Nat} {c:Nat→Nat→Int}:Cg p (zt p x (zca n e c)) (vl n (fun j=>c j e) x):=by
 rw [znf];refine (ziu (by rw [zdU]; exact ag _)).trans (Cg.of_eq (zax fun i hi=>?_));rw [zqR hi]
theorem znH {p:Int} (hp:p∈zr) {n w e m:Nat} {c:Nat→Nat→Int} (hm:(m:Int)≤p) (hr:∀ j i,0≤c j i∧c j i < p) (L:Lea n w c e):(nums p n e c m).length < n:=by
 have rp:=zw hp;refine bY fun pY=>?_
 have hz:=zdt hp n (zca n e c) (nums p n e c m) (zdU _ _ _) #[O] (zfG p n e c m) (fun x hx=>?_) (fun x hx=>?_)
 ·obtain⟨j,hj,_,mV⟩:=L.2;have h1:=hz (c j e) (az.mpr ⟨j,aZ.mpr hj,rfl⟩);obtain⟨a0,a1⟩:=hr j e;exact mV (Cg.eq h1 a0 a1 (bS 0) #[O])
 ·have:=(zdV.mp hx).1;lia
 ·exact Cg.of_eq (zdV.mp hx).2
theorem zjC {α β:Type} {out:List (List α×β)} {done:List (List α)} {qs:List α} {L:List α} (f:α→β) (nd:(out.map (·.1)).Nodup) (hd:∀ o∈out,o.1.dropLast∈done) (hq:qs∉done) (hL:L.Nodup) :
  ((out++L.map fun q=>(qs++[q],f q)).map (·.1)).Nodup∧∀ o∈out++L.map (fun q=>(qs++[q],f q)),o.1.dropLast∈done++[qs]:=by
 constructor
 ·rw [am,bH];have h1:(L.map ((fun x:List α×β=>x.1) ∘ fun q=>(qs++[q],f q))).Nodup:=cj.mpr (gE (fun {a b} BL e=>BL (by
   have e:qs++[a]=qs++[b]:=e;have:=List.append_cancel_left e;injection this)) hL)
  refine eE.mpr ⟨nd,h1,fun a ha b hb e=>?_⟩;obtain⟨o,ho,rfl⟩:=az.mp ha;obtain⟨q,pH,rfl⟩:=az.mp hb;have h1:=hd o ho;have e:o.1=qs++[q]:=e;rw [e,j2] at h1;exact hq h1
 ·intro o ho;rcases aY.mp ho with h | h
  ·exact aY.mpr (.inl (hd o h))
  ·obtain⟨q,_,rfl⟩:=az.mp h;refine aY.mpr (.inr ?_);show (qs++[q]).dropLast∈[qs];rw [j2];exact aW.mpr rfl
end My
end
section
namespace L2
open PySem PySem.Spec PyProof.Rows
theorem zdW:∀ (ns:List Int),(av ns.length).any (fun i=>ns.getD i 0 != 0)=ns.any (· != 0)
 | []=>rfl
 | b :: bs=>by
  rw [bT,gI,fS,List.any_map,fS];have ih:=zdW bs;have e:((fun i=>(b :: bs).getD i 0 != 0) ∘ lW)=fun i=>bs.getD i 0 != 0:=by funext i; rfl
  rw [e,ih];rfl
theorem zlO {X:Cx} {K:ah} (hK:X.K=K) (hc:X.calm=true):zbn X (.builtin "any") (fun xs H Q=>∃ (p:Addr) (ns:List Int),xs = [.ref p]∧me K H p (ns.map V.int)∧Q (.bl (ns.any (· != 0))) H):=by
 subst hK;intro l3 s σ H xs us Q I r h;obtain⟨p,bs,rfl,hq,q⟩:=h;obtain⟨u,rfl,rx⟩:=vals1 r;cases rx;obtain⟨mf,rv,pl,hz⟩:=I.list hq;have hl:=rv.length;rw [ab] at hl;have mM:p < s.heap.objs.size:=by obtain⟨_,_,e,_⟩:=pl; exact aK e
 refine call_any_walk (gB pl.isList ?_);refine⟨s.heap.objs.size,_,_,mf.toArray.size,_,_,fun i=>bs.getD i 0 != 0,rfl,Walks.list (by simp [I.ok.hd hc]) s.heap.objs.size p (bz mM) mf.toArray,⟨⟨_,aG _ rfl,rfl,rfl⟩,pl.isList.push _⟩,fun i v s' Q' E' hP hQ=>?_,fun h' tk kk=>?_⟩
 ·have e1:mf[i]? = some v:=by simpa using hP
  obtain⟨hi,_⟩:=au.mp e1;have nH:i < bs.length:=by lia
  obtain⟨u,hu,ru⟩:=rv.get (i:=i) (x:=V.int bs[i]) (by rw [af,aj nH]; rfl);rw [e1] at hu;cases hu;obtain⟨tk,ru⟩:=(show ∃ t,v=iw bs[i] t from ru);subst ru;have e2:bs.getD i 0=bs[i]:=by simp [nH]
  have hQ:Q' (bs.getD i 0 != 0) s':=hQ;rw [e2] at hQ;exact PyProof.Rows.truthy_int hQ
 ·rw [ar,← hl,zdW];exact⟨.bl (bs.any (· != 0)),H,I.kept fun b o e=>kk b o (fun z=>by
   have z:b=s.heap.objs.size:=by simpa using z
   exact absurd (aK e) (by rw [z]; exact cD _)) (ai _ e),rfl,q⟩
end L2
end
section
namespace PySem
open PyProof.Rows
theorem zey:isSubtype (.type "range_iterator") (.type "reversed")=pure false:=by rw [gp]; kernel_rfl
abbrev ziK (a b:Int):Obj:={ cls:=.type "range_iterator",data:=.fields #[rawInt (a+(bG a b 1 - 1)*1),rawInt (bG a b 1),rawInt (-1)] }
theorem znI (r:Addr) (a b:Int) (t u v:Tok) (hs:(bo a && bo b && bo 1 && bo (-1) && bo (a - 1) && bo (bG a b 1))=true) :
  Meets (Builtin.«range.__reversed__» ⟨[.ref r],[]⟩) (fun _ R s=>s.heap.get? r=some { cls:=.type "range",dict:=none,data:=.fields #[.int a t,.int b u,.int 1 v],slots:=#[] }∧R (.ok (.ret (bd s.heap.objs.size))) { s with heap:=s.heap.push (ziK a b) }) :=
 .of_wp fun prog w A R s h=>by
  (obtain⟨hp,g,d,tk,os⟩:=s)
  obtain⟨hl,h⟩:=h
  wp_walk
  rw [hs];exact⟨_,rfl,h⟩
section
variable {prog:Program} {w:World} {A:Around} {E:Value→Shared→Prop} {s:Shared}
theorem zpd {r:Addr} {a b:Int} {t u v:Tok} {Q:Value→Shared→Prop} (hr:IsRange s.heap r a b 1 t u v) (ha:-1000000≤a∧a < 1000000∧-1000000≤b∧b < 1000000)
  (h:Q (.ref s.heap.objs.size) { s with heap:=s.heap.push (ziK a b) }):wpAny (model prog w) A (call (.type "reversed") [.ref r]) Q E s:=by
 have hs:(bo a && bo b && bo 1 && bo (-1) && bo (a - 1) && bo (bG a b 1))=true:=by
  have hz:0≤bG a b 1∧bG a b 1≤2000000:=by
   (unfold bG)
   rw [if_pos #[D],Int.ediv_one];split <;> lia
  generalize bG a b 1=z at hz ⊢;unfold bo
  (simp only [fJ,decide_eq_true_eq])
  lia
 (have hT:s.TypeIs (.ref r) "range":=⟨_,hr,rfl⟩)
 refine callType_other (U:="range_iterator") (Q₁:=fun obj s₁=>obj = .ref s.heap.objs.size∧s₁ = { s with heap:=s.heap.push (ziK a b) }) #[N] F.create_reversed ⟨_,_,F.mro_reversed⟩ F.made_reversed zey (jF _) ?_ ?_
 ·refine codeAny_of_tree ?_;show wpAny _ A.in1.in1 (do checkBuiltinCall "reversed.__new__" ⟨[.type "reversed",.ref r],[]⟩; again (.builtin "reversed.__new__" ⟨[.type "reversed",.ref r],[]⟩)) _ _ s;refine (ae (cA (jS _) (ao ⟨fb j3 _,fg jU ?_⟩)))
  (rw [dO j3 _])
  (unfold Builtin.«reversed.__new__»)
  refine (ae (cA (newClass_reversed _) ?_))
  try dsimp only
  refine (ae (cA (a:=()) (by first | rfl | kernel_rfl) (ae (cA (a:=()) (by first | rfl | kernel_rfl) ?_))))
  try dsimp only
  refine (ae (g7 hT F.slot_range_reversed.lookup ?_))
  try dsimp only
  refine (ae (cA (F.slot_range_reversed.bind _) ?_))
  try dsimp only
  show wpAny _ _ (if (kb "range.__reversed__" == dm)=true then _ else _) _ _ _;rw [if_neg (show ¬ ((kb "range.__reversed__" == dm)=true) from aS)];refine (ae (cF ?_));refine ae (m:=runValue (.call (.builtin "range.__reversed__") ⟨[.ref r],[]⟩)) (show wpAny _ _ (call (.builtin "range.__reversed__") [.ref r]) _ _ _ from fI F.slot_range_reversed hT F.entry_range_reversed (F.args_range_reversed_1 _) (znI r a b t u v hs) ⟨hr,?_⟩)
  first
  | exact ao ⟨rfl,rfl⟩
  | exact ae (ao (ao ⟨rfl,rfl⟩))
 ·rintro obj s₁ ⟨rfl,rfl⟩
  (exact⟨⟨_,aG _ rfl,rfl⟩,h⟩)
end
end PySem
namespace L2
open PySem PySem.Spec PyProof.Rows
theorem ziL {X:Cx}:zbn X (.type "range") (fun xs H Q=>∃ i j:Int,xs = [.int i,.int j]∧∀ l,H l=none→Q (.ref l) (mh H l (.rng i j))):=by
 intro l3 s σ H xs us Q I r h;obtain⟨i,j,rfl,q⟩:=h;cases r with
 | cons r1 r =>
  cases r with
  | cons r2 r =>
   cases r;obtain⟨t,rfl⟩:=r1;obtain⟨t',rfl⟩:=r2;refine call_range_2 ?_;exact⟨.ref s.heap.objs.size,_,I.laid (o:=.rng i j) (fun b o e=>ai _ e) (ag _) ⟨_,_,_,aG _ rfl⟩,rfl,q _ I.fresh⟩
def zrD (ta:TA):TI:=fun σ H R=>ta σ H fun vs H1=>∃ (a:Addr) (i j:Int),vs = [.ref a]∧H1 a=some (.rng i j)∧(-1000000≤i∧i < 1000000∧-1000000≤j∧j < 1000000)∧R (zli (i+((j - i).toNat:Int) - 1) (j - i).toNat) H1
theorem zpe {X:Cx} {tg:Expr} {p pos:Pos} {a:Expr} {ta:TA} (hg:Gl X "reversed") (hm:X.mg "reversed" = none) (ha:PA X [a] ta) (hs:starEach [a] X.env = [(false,eval a X.env)]:=by rfl) :
  PI X tg (.Call (.Name "reversed" p) [a] [] pos) (zrD ta):=by
 intro l3 s σ H R I h;refine Call_ (zbe I hg hm boot_reversed (bA (thn (ha pos l3 s σ H _ I h) fun us s1 ⟨vs,H1,I1,r1,q1⟩=>?_) hs rfl));obtain⟨l,i,j,e,hq,hb,q⟩:=q1;subst e;cases r1 with
 | cons r rr =>
  cases rr;cases r;obtain⟨t,u,v,hr⟩:=(show zas X.prog X.w H1 s1.heap l (.rng i j) from I1.hok l _ hq);refine zpd hr hb ?_;have hsz:bG i j 1=((j - i).toNat:Int):=by
   (unfold bG)
   rw [if_pos #[D],Int.ediv_one];split <;> lia
  have I2:Inv X l3 σ H1 { s1 with heap:=s1.heap.push (ziK i j) }:=I1.kept (t':=s1.toks) fun b o e=>ai _ e
  have hit:IsRangeIter (s1.heap.push (ziK i j)) s1.heap.objs.size ((i+((j - i).toNat:Int) - 1)+((0:Nat):Int)*(-1)) ((((j - i).toNat:Nat):Int) - ((0:Nat):Int)) (-1):=by
   have e1:(i+((j - i).toNat:Int) - 1)+((0:Nat):Int)*(-1)=i+(bG i j 1 - 1)*1:=by rw [hsz]; lia
   have e2:(((j - i).toNat:Nat):Int) - ((0:Nat):Int)=bG i j 1:=by rw [hsz]; lia
   rw [e1,e2];exact aG _ rfl
  refine gF hit ?_;refine⟨_,[s1.heap.objs.size],_,zli (i+((j - i).toNat:Int) - 1) (j - i).toNat,H1,rfl,I2,zh9 _ _ _,hit,fun b hb=>?_,q⟩;have z:b=s1.heap.objs.size:=by simpa using hb
  subst z;exact I1.fpOk (ag _) (I1.hok.fresh (ag _))
end L2
end
section
namespace My
open PySem L2 PyProof.Rows
section
variable {P:Program} {w:World} {K:ah} {mg:Str→Option Value} {base:Heap} {t:Adr}
def ziM (K:ah):Sp:=fun vs H Q _=>∃ (a:Addr) (bs:List Addr) (rows:List (List Int)),vs = [.ref a]∧(me K H a (bs.map V.ref)∨mE K H a (bs.map V.ref))∧RwA H bs rows∧rows.length≤1000 ∧
 ∀ H',zu H H'→Q (.int (wd rows)) H'
theorem ziN:FnScope ["curve"] ["curve"] (zh zbT):=#[S]
theorem ziO {fd:FuncData} (T:Txt K mg t) (F:Fun K "width_of" "width_of" zbT t.width_of fd):FnOk P w K mg base CX0 1 t.width_of fd ["curve"] (ziM K):=by
 refine F.ok ziN (fun vs H Q E h=>?_) (fun mQ A outer s H vs Q E hr h=>?_)
 ·obtain⟨a,bs,rows,rfl,_⟩:=h;rfl
 ·obtain⟨a,bs,rows,rfl,ha,hb,hn,q⟩:=h;apply zaF; intro zX;refine⟨_,#[zl,#[zC,(@zqE _ true _ _ _ _ _ _ _ _ _ _ _ rfl gk rfl T.max_ #[zf] #[zO,(CompSc.of (N':=["line"]) (ix:=[none]) (zh zbT) ["curve"] rfl rfl #[N]),#[zae],#[zmj,#[pvx,0]],(fun _ _ _ _=>#[zg,0,(nd_ ["line"]),#[A]]),(fun _ _ _ _=>#[zz]),(fun _ _ _ _=>#[zo,#[zaz,(K)],T.len_,bP,#[ya,#[pvx,0]]])] #[D] #[D])]],?_⟩;have mB:=a8 hb;have el:∀ (i:Nat) (x y:V),(bs.map V.ref)[i]? = some x→((zaA rows).map V.int)[i]? = some y→∃ (b:Addr) (r:List Int),x = .ref b∧y = .int r.length∧(H b=some (.lst (r.map V.int))∨H b=some (.tup (r.map V.int))):=by
   intro i x y hx hy;obtain⟨b,rfl,yz⟩:=zQ hx;unfold zaA at hy;rw [af,af] at hy;cases e:rows[i]? with
   | none=>rw [e] at hy; simp at hy
   | some r =>
    rw [e] at hy;obtain⟨v,hv,hr⟩:=Paired.get hb yz;rw [e] at hv;cases hv;exact⟨b,r,rfl,by simpa using hy.symm,hr⟩
  have fin:∀ D,H D=none→∃ (p:Addr) (ns:List Int),V.ref D = .ref p∧me K (mh H D (.lst ((zaA rows).map V.int))) p (ns.map V.int)∧∀ M:Int,(ns = []→M=0)→(ns≠[]→M∈ns∧∀ a∈ns,if true=true then a≤M else M≤a)→Q (.int M) (mh H D (.lst ((zaA rows).map V.int))):=fun D hD =>
   ⟨D,_,rfl,me.of zc,fun M h0 h1=>by rw [zrA h0 h1]; exact q _ (zb hD)⟩
  rcases ha with ha | ha
  ·refine (l5 rfl ⟨a,rfl,.inl ⟨⟨_,ha⟩,zce (fs:=(zaA rows).map V.int) ha (by simp [mB,zfw]) (by simp; lia) (fun i x y R B hx hy hR=>?_) fin⟩⟩);obtain⟨b,r,rfl,rfl,hr⟩:=el i x y hx hy;exact (l5 rfl ⟨b,(l5 rfl ⟨hr.imp me.of mE.of,by rw [ab]; exact hR⟩)⟩)
  ·refine (l5 rfl ⟨a,rfl,.inr ⟨⟨_,ha⟩,zd6 (fs:=(zaA rows).map V.int) ha (by simp [mB,zfw]) (by simp; lia) (fun i x y R B hx hy hR=>?_) fin⟩⟩);obtain⟨b,r,rfl,rfl,hr⟩:=el i x y hx hy;exact (l5 rfl ⟨b,(l5 rfl ⟨hr.imp me.of mE.of,by rw [ab]; exact hR⟩)⟩)
def zlP (K:ah):Sp:=fun vs H Q _=>∃ (p b:Int) (a:Addr) (bs:List Addr) (n w:Nat) (c:Nat→Nat→Int),vs = [.int p,.ref a,.int b]∧H a=some (.lst (bs.map V.ref))∧LsA H bs (zR n w c)∧n≤1000∧w≤1000∧5≤p∧p≤97∧0≤b∧b < p∧(∀ j i,j < n→i < w→0≤c j i∧c j i < p) ∧
 ∀ (l:Addr) (ls:List Addr) (H':Hp),H l=none→zu H H'→H' l=some (.lst (ls.map V.ref))→LsA H' ls (zR n w fun j i=>sh b n (fun t=>c t i) j % p)→Q (.ref l) H'
theorem zee (n w:Nat) (g:Nat→Nat→Int):(zR n w g).length=n:=by unfold zR; rw [ab,aL]
theorem zdg:FnScope ["p","lines","by","first","at"] ["p","lines","by"] (zh zcW):=#[S]
theorem zlQ {fd:FuncData} (T:Txt K mg t) (F:Fun K "raised" "raised" zcW t.raised fd):FnOk P w K mg base CX0 1 t.raised fd ["p","lines","by"] (zlP K):=by
 refine F.ok zdg (fun vs H Q E h=>?_) (fun mQ A outer s H vs Q E hr h=>?_)
 ·obtain⟨p,b,a,bs,n,w',c,rfl,_⟩:=h;rfl
 ·obtain⟨p,b,a,bs,n,wi,c,rfl,ha,hb,hn,hw,p5,vZ,b0,b1,hc,q⟩:=h;apply zaF; intro zX;refine⟨_,#[ze,#[zm,1,zdg.nd,#[A],#[zaE,#[zcr],T.list_,kJ,#[ya,#[pvx,1]]]],#[ze,#[zaD,bq,#[z9,T.range_,#[ya,#[zo,#[zq],T.len_,bP,#[ya,#[pvx,1]]]]],#[zg,3,zdg.nd,#[A]],#[zl,#[zaD,bq,(@zpe _ _ _ _ _ _ rfl T.reversed_ #[ya,#[zaE,(@ziL _),T.range_,jO,#[za,#[pvx,3],#[ya,#[zi,#[zap],#[zo,#[zq],T.len_,bP,#[ya,#[pvx,1]]],#[zf]]]]]] (by rfl)),#[zg,4,zdg.nd,#[A]],#[zl,#[zbp,#[zO,(CompSc.of (N':=["low","high","by","p"]) (ix:=[none,none,some 2,some 0]) (zh zcW) ["p","lines","by","first","at"] rfl rfl #[N]),#[zaL,#[zy,#[zy,#[zar]]]],#[zdE,T.zip_,#[za,#[zK,#[zB],#[pvx,1],#[pvx,4]],#[ya,#[zK,#[zB],#[pvx,1],#[zi,#[zH],#[pvx,4],#[zf]]]]]],(fun _ _ _ _=>#[zaf,(K),2,#[zj,#[zg,0,(nd_ ["low","high","by","p"]),#[A]],#[zj,#[zg,1,(nd_ ["low","high","by","p"]),#[A]],#[zG]]]]),(fun _ _ _ _=>#[zz]),(fun _ _ _ _=>#[zi,#[zI],#[zi,#[zH],#[pvx,0],#[zi,#[zU],#[pvx,2],#[pvx,1]]],#[pvx,3]])],#[zgI,#[pvx,1],#[pvx,4],set_list]]]]]],#[zl,#[zC,#[pvx,1]]]]],?_⟩;apply ze5; intro pZ oS;have pf:=bf;have hz:∀ {H':Hp} {ls:List Addr} {g:Nat→Nat→Int},LsA H' ls (zR n wi g)→((ls.map V.ref).length:Int)=(n:Int):=fun h=>by rw [ab,a8 h,zee]
  refine (l5 rfl ⟨a,(l5 rfl ⟨.inl (me.of ha),fun l hl=>?_⟩)⟩);refine (l5 rfl ⟨l,(l5 rfl ⟨.inl (me.of zc),(l5 rfl ?_)⟩)⟩);rw [hz hb];refine⟨#[O],#[O],zaN (lo:=0) (n:=(n:Int).toNat) (fun f σ H'=>∃ (ls:List Addr) (e3 e4:Option V),σ = [some (.int p),some (.ref l),some (.int b),e3,e4]∧zu H H'∧H' l=some (.lst (ls.map V.ref))∧LsA H' ls (zR n wi (rst p b n c f 0))) (ex3 bs none none ⟨rfl,zb hl,zc,?_⟩) ?_ ?_⟩
  ·rw [zbC (g':=c) fun j i hj hi=>by rw [zlD hj]; exact cM (hc j i hj hi).1 (hc j i hj hi).2];exact hb.same (zb hl)
  ·rintro zD zT f σ H1 hf ⟨ls,e3,e4,rfl,s1,sS,nc⟩;have hf:f < n:=by lia
   refine (l5 rfl (l5 rfl ⟨l,(l5 rfl ⟨.inl (me.of sS),(mv rfl rfl ?_)⟩)⟩));rw [hz nc];refine⟨0+(f:Int),(n:Int) - 1,rfl,fun r hr=>(ex3 r (0+(f:Int)) ((n:Int) - 1) ⟨rfl,zc,⟨#[O],#[O],#[O],#[O]⟩,?_⟩)⟩;have e0:(0+(f:Int))+((((n:Int) - 1 - (0+(f:Int))).toNat:Nat):Int) - 1=(n:Int) - 2:=by lia
   have e1:((n:Int) - 1 - (0+(f:Int))).toNat=n - 1 - f:=by lia
   rw [e0,e1];have rl:r≠l:=(zA sS hr).symm;refine zjm (hi:=(n:Int) - 2) (n:=n - 1 - f) (fun idx σ H'=>∃ (ls:List Addr) (e4:Option V),σ = [some (.int p),some (.ref l),some (.int b),some (.int (0+(f:Int))),e4]∧zu H H'∧H' l=some (.lst (ls.map V.ref))∧LsA H' ls (zR n wi (rst p b n c f idx))) ⟨ls,e4,rfl,s1.trans (zb hr),by rw [zn rl.symm]; exact sS,nc.same (zb hr)⟩ ?_ ?_
   ·rintro idx σ H2 hi ⟨ls,e4,rfl,s2,Bi,nc⟩;have mB:ls.length=n:=by rw [a8 nc,zee]
    obtain⟨b1',sR⟩:∃ b',ls[n - 2 - idx]? = some b':=⟨ls[n - 2 - idx]'#[O],#[M]⟩;obtain⟨b2',uJ⟩:∃ b',ls[n - 2 - idx+1]? = some b':=⟨ls[n - 2 - idx+1]'#[O],#[M]⟩;obtain⟨v1,g1,h1⟩:=Paired.get nc sR;obtain⟨v2,g2,h2⟩:=Paired.get nc uJ;rw [zat #[O]] at g1 g2;cases g1;cases g2;have at1:atI (ls.map V.ref) ((n:Int) - 2 - (idx:Int))=some (.ref b1'):=by
     have e:(n:Int) - 2 - (idx:Int)=((n - 2 - idx:Nat):Int):=by lia
     rw [e]; exact zal (by rw [af,sR]; rfl)
    have at2:atI (ls.map V.ref) ((n:Int) - 2 - (idx:Int)+1)=some (.ref b2'):=by
     have e:(n:Int) - 2 - (idx:Int)+1=((n - 2 - idx+1:Nat):Int):=by lia
     rw [e]; exact zal (by rw [af,uJ]; rfl)
    refine (l5 rfl (l5 rfl (ex4 l _ _ _ ⟨rfl,rfl,me.of Bi,at1,(l5 rfl (l5 rfl (mv rfl rfl (ex4 l _ _ _ ⟨rfl,rfl,me.of Bi,at2,b1',b2',_,_,rfl,me.of h1,me.of h2,zd5 (n:=wi) (f:=fun x y=>(x+b*y) % p) h1 h2 #[M] #[M] (.inl #[M]) #[O] ?_ ?_⟩))))⟩)))
    ·intro j u w H6 T R B hu hv s6 hT hR;refine gY2 (mE.of zc) ?_;exact (l5 rfl (l5 rfl (l5 rfl (mv rfl rfl ⟨.inl ⟨#[O],#[O]⟩,(mv rfl rfl (l5 rfl (mv rfl rfl ⟨#[O],hR⟩)))⟩))))
    ·intro D H6 s6 hD;rw [zlC];have De:=s6 _ _ Bi;have dl:D≠l:=(zA De hD).symm;have hj:ixN (ls.map V.ref).length ((n:Int) - 2 - (idx:Int))=some (n - 2 - idx):=by
      unfold ixN;rw [ab,mB,if_pos #[O],if_pos #[O]];congr 1;lia
     refine (l5 rfl (l5 rfl (ex4 l _ _ _ ⟨rfl,rfl,by rw [zn dl.symm]; exact De,hj,ls.set (n - 2 - idx) D,(l5 rfl ⟨?_,?_,?_⟩)⟩)))
     ·exact zah ((s2.trans s6).trans (zb hD)) hl
     ·rw [zc,je]
     ·rw [zbC (g':=fun j i=>if j=n - 2 - idx then (rst p b n c f idx (n - 2 - idx) i+b*rst p b n c f idx (n - 2 - idx+1) i) % p else rst p b n c f idx j i) fun j i hj _=>zni hi hj,← zlB];exact LsA.setAt (nc.same (s6.trans (zb hD))) (by rw [zn dl.symm]; exact De) zc dl
   ·rintro σ H2 ⟨ls,e4,rfl,s2,Bi,nc⟩;rw [zbC (g':=rst p b n c (f+1) 0) fun j i hj _=>znh hf hj] at nc;exact (ex3 ls _ _ ⟨rfl,s2,Bi,nc⟩)
  ·rintro σ H1 ⟨ls,e3,e4,rfl,s1,sS,nc⟩;have e1:(n:Int).toNat=n:=by lia
   rw [e1,zbC (g':=fun j i=>sh b n (fun t=>c t i) j % p) fun j i hj hi=>zng hj] at nc;exact (l5 rfl (q l ls _ hl s1 sS nc))
theorem zqS {H:Hp} {bs:List Addr} {rows:List (List Int)} (h:zbB H bs rows):RwA H bs rows:=dB (fun _ _ z=>.inr z) h
def zlR (p:Int) (w:Nat) (r:List Int):List Int:=r.map (· % p)++ap (w - r.length) 0
theorem zpf {p:Int} {w:Nat} {r:List Int} (h:r.length≤w):zlR p w r=(av w).map fun i=>gl r i % p:=by
 unfold zlR;refine cU fun i=>?_
 by_cases h1:i < r.length
 ·rw [bj (by rw [ab]; exact h1),af,af,bi #[O],aj h1];show some (r[i] % p)=some (gl r i % p);rw [zbo (aj h1)]
 ·rw [bN (by rw [ab]; lia),ab,af];by_cases h2:i < w
  ·rw [bi h2,cC,if_pos #[O]];show some (0:Int)=some (gl r i % p);have:gl r i=0:=by unfold gl; rw [jp,cm.mpr #[O]]; rfl
   rw [this,Int.zero_emod]
  ·rw [cm.mpr (by rw [aU]; lia),cm.mpr (by rw [aL]; lia)];rfl
theorem znJ {p:Int} {w:Nat} {rows:List (List Int)} (h:∀ r∈rows,r.length≤w):rows.map (zlR p w)=zR rows.length w fun j i=>gl (rows.getD j []) i % p:=by
 refine cU fun j=>?_
 by_cases hj:j < rows.length
 ·rw [zat hj,af,aj hj];show some (zlR p w rows[j])=_;rw [zpf (h _ (fO hj))];have:rows.getD j []=rows[j]:=by simp [jp,hj]
  rw [this]
 ·rw [cm.mpr (by rw [ab]; lia),cm.mpr (by rw [zee]; lia)]
def zlS (K:ah):Sp:=fun vs H Q _=>∃ (p:Int) (a:Addr) (bs:List Addr) (rows:List (List Int)),vs = [.int p,.ref a]∧5≤p∧p≤97∧H a=some (.tup (bs.map V.ref))∧zbB H bs rows∧rows.length≤100∧(∀ r∈rows,r.length≤100) ∧
 ∀ (l:Addr) (ls:List Addr) (H':Hp),H l=none→zu H H'→H' l=some (.lst (ls.map V.ref))→LsA H' ls (zR rows.length (wd rows) fun j i=>gl (rows.getD j []) i % p)→Q (.ref l) H'
theorem zgF:FnScope ["p","curve","width"] ["p","curve"] (zh zcV):=#[S]
theorem zlT {fd:FuncData} (T:Txt K mg t) (F:Fun K "filled" "filled" zcV t.filled fd):FnOk P w K mg base CX0 2 t.filled fd ["p","curve"] (zlS K):=by
 obtain⟨uf,qV,pv⟩:=T.f_width_of;have uY:=ziO (P:=P) (w:=w) (base:=base) T qV;refine F.ok zgF (fun vs H Q E h=>?_) (fun mQ A outer s H vs Q E hr h=>?_)
 ·obtain⟨p,a,bs,rows,rfl,_⟩:=h;rfl
 ·obtain⟨p,a,bs,rows,rfl,p5,vZ,ha,hb,hn,hw,q⟩:=h;apply zaF; intro zX;refine⟨_,#[ze,#[zm,2,zgF.nd,(cB rfl),#[zp,uY,(hr.mono #[D]),T.m_width_of,qV.kp,pv,#[zN],#[ya,#[pvx,1]]]],#[zl,#[zC,#[zO,(CompSc.of (N':=["line","p","width"]) (ix:=[none,some 0,some 2]) (zh zcV) ["p","curve","width"] rfl rfl #[N]),#[zae],#[zgJ,#[pvx,1]],(fun _ _ _ _=>#[zg,0,(nd_ ["line","p","width"]),#[A]]),(fun _ _ _ _=>#[zz]),(fun _ _ _ _=>#[zi,#[zb4],#[zO,(CompSc.of (N':=["number","p"]) (ix:=[none,some 1]) ({ kind:=.function,names:=[(".0",.local),("line",.local),("len",.globalImplicit),("p",.cell),("width",.cell)],isGenerator:=false,isCoroutine:=false }) ["line","p","width"] (by with_unfolding_all rfl) rfl #[N]),#[zae],(@zoM _ (K) _ _ _ rfl #[pvx,0]),(fun _ _ _ _=>#[zg,0,(nd_ ["number","p"]),#[A]]),(fun _ _ _ _=>#[zz]),(fun _ _ _ _=>#[zi,#[zI],#[pvx,0],#[pvx,1]])],#[zi,#[zcs],#[z0,#[ya,#[zf]]],#[zi,#[zap],#[pvx,2],#[zo,#[zaz,(K)],T.len_,bP,#[ya,#[pvx,0]]]]]])]]]],?_⟩;apply zi9; intro oS;have pf:=bf;have mB:=a8 hb;have wdl:wd rows≤100:=by
   by_cases e:rows = []
   ·subst e; exact bm _
   ·obtain⟨r,hr,er⟩:=zhi e;rw [← er]; exact hw r hr
  refine (l5 rfl (ex3 a bs rows ⟨rfl,.inr (mE.of ha),zqS hb,#[O],fun H1 s1=>?_⟩));refine (l5 rfl ⟨a,rfl,⟨_,mE.of (s1 _ _ ha)⟩,zV (n:=rows.length) (fun m ys H'=>zu H H'∧∃ ls:List Addr,ys=ls.map V.ref∧LsA H' ls ((rows.take m).map (zlR p (wd rows)))) ⟨s1,[],rfl,.nil⟩ ?_ ?_ ?_ ?_⟩)
  ·rintro m ys H2 hm ⟨s2,_⟩;exact⟨_,.ref (bs[m]'#[O]),mE.of (s2 _ _ ha),by rw [af,aj #[O]]; rfl⟩
  ·rintro ys H2 ⟨s2,_⟩;exact⟨_,mE.of (s2 _ _ ha),by rw [ab]; lia⟩
  ·rintro m x ys H2 H3 hm ⟨s2,ls,rfl,nc⟩ ⟨rfl,hx⟩;obtain⟨b,rfl,Bj⟩:=zQ (hx _ (mE.of (s2 _ _ ha)));obtain⟨r,hr,Bk⟩:=Paired.get hb Bj;have Ad:=s2 _ _ Bk;have oZ:=hw r (aA hr);have xv:=zkD (aA hr);refine gY ?_;refine (l5 rfl ⟨b,rfl,⟨_,mE.of Ad⟩,zd6 (fs:=(r.map (· % p)).map V.int) (mE.of Ad) #[M] (by rw [ab]; lia) (fun i x y R B hx hy hR=>?_) (fun D hD=>?_)⟩)
   ·obtain⟨c,rfl,hc⟩:=zaj hx;rw [af,af,hc] at hy;have hy:V.int (c % p)=y:=by simpa using hy
    subst hy;refine gY ?_;exact (l5 rfl (l5 rfl (mv rfl rfl ⟨#[O],hR⟩)))
   ·have sD:=zb (o:=.lst ((r.map (· % p)).map V.int)) hD;refine⟨by show 1≤sizeLine; lia,fun Z hZ=>?_⟩;have sZ:=zb (o:=.lst [V.int 0]) hZ;refine (l5 rfl (l5 rfl ⟨b,(l5 rfl ⟨.inr (mE.of ((sD.trans sZ) _ _ Ad)),(mv rfl rfl ?_)⟩)⟩));have el:(r.map V.int).length=r.length:=ab ..;rw [el];have ek:((wd rows:Int) - (r.length:Int)).toNat=wd rows - r.length:=by lia
    refine (ex3 Z _ _ ⟨rfl,rfl,zc,#[O],#[O],by rw [ek]; show 1*(wd rows - r.length)≤sizeLine; lia,fun Y hY=>?_⟩);rw [ek,cS];have sY:=zb (o:=.lst (ap (wd rows - r.length) (V.int 0))) hY;refine (ex4 D Y _ _ ⟨rfl,rfl,(sZ.trans sY) _ _ zc,zc,by rw [ab,ab,aU]; lia,fun W hW=>?_⟩);have sW:=((sD.trans sZ).trans sY).trans (zb (o:=.lst ((r.map (· % p)).map V.int++ap (wd rows - r.length) (V.int 0))) hW);have vG:ls.length=m:=by rw [a8 nc,ab,aI]; lia
    refine⟨by rw [ab]; lia,s2.trans sW,ls++[W],by rw [am]; rfl,?_⟩;rw [take_snoc hr,am];refine b8 (nc.same sW) ?_;rw [zc];unfold zlR;rw [am,d8]
  ·rintro ys H2 D ⟨s2,ls,rfl,nc⟩ hD;rw [aJ (ag _),znJ fun r hr=>zkD hr] at nc;exact q D ls _ (s2.free hD) (s2.trans (zb hD)) zc (nc.same (zb hD))
theorem zlU {X:Cx} {K:ah} {es:List Expr} {k:Nat} {pW p pos:Pos} {a:Expr} {ta:TA} (hK:X.K=K) (hg:Gl X "enumerate") (hm:X.mg "enumerate" = none) (ha:PA X [a] ta) (hs:starEach [a] X.env = [(false,eval a X.env)]:=by rfl) :
  PI X (.Tuple es k pW) (.Call (.Name "enumerate" p) [a] [] pos) (iEn (me K) ta):=by subst hK; exact zcN hg hm ha hs
theorem zef {rows:List (List Int)} (h:∀ r∈rows,r.length≤1000):∀ m,(zcj rows m).length≤1000*m
 | 0=>by simp [zcj]
 | m+1=>by
  have ih:=zef h m;have hl:(rows.getD m []).length≤1000:=by
   cases e:rows[m]? with
   | none=>simp [jp,e]
   | some r=>simp only [jp,e,i5]; exact h r (aA e)
  have h2:=zkC m (rows.getD m []) (rows.getD m []).length;rw [zgB,aq];lia
def ziP (K:ah):Sp:=fun vs H Q _=>∃ (a:Addr) (bs:List Addr) (rows:List (List Int)),vs = [.ref a]∧H a=some (.lst (bs.map V.ref))∧LsA H bs rows∧rows.length≤100∧(∀ r∈rows,r.length≤1000) ∧
 ∀ (l:Addr) (ts:List Addr) (H':Hp),H l=none→zu H H'→H' l=some (.lst (ts.map V.ref))→PtB H' ts (zcj rows rows.length)→Q (.ref l) H'
theorem ziQ:FnScope ["curve"] ["curve"] (zh zbU):=#[S]
theorem zen {fd:FuncData} (T:Txt K mg t) (F:Fun K "terms_of" "terms_of" zbU t.terms_of fd):FnOk P w K mg base CX0 1 t.terms_of fd ["curve"] (ziP K):=by
 refine F.ok ziQ (fun vs H Q E h=>?_) (fun mQ A outer s H vs Q E hr h=>?_)
 ·obtain⟨a,bs,rows,rfl,_⟩:=h;rfl
 ·obtain⟨a,bs,rows,rfl,ha,hb,hn,hw,q⟩:=h;apply zaF; intro zX;refine⟨_,#[zl,#[zC,#[zkh,(CompSc.of (N':=["j","line","i","number"]) (ix:=[none,none,none,none]) (zh zbU) ["curve"] rfl rfl #[N]),(ze6 (js:=[0,1]) (zbg (js:=[0,1]) (i:=0) #[D] (zbg (js:=[0,1]) (i:=1) #[D] (zdD (js:=[0,1]))))),(ze6 (js:=[2,3]) (zbg (js:=[2,3]) (i:=2) #[D] (zbg (js:=[2,3]) (i:=3) #[D] (zdD (js:=[2,3]))))),#[zcN,T.enumerate_,#[ya,#[pvx,0]]],(fun _ _ _ _=>#[zaf,(K),2,#[zj,#[zg,0,(nd_ ["j","line","i","number"]),#[A]],#[zj,#[zg,1,(nd_ ["j","line","i","number"]),#[A]],#[zG]]]]),(fun _ _ _ _=>#[zz]),(fun _ _ _ _=>(zlU (K:=K) rfl rfl T.enumerate_ #[ya,#[pvx,1]])),(fun _ _ _ _=>#[zaf,(K),2,#[zj,#[zg,2,(nd_ ["j","line","i","number"]),#[A]],#[zj,#[zg,3,(nd_ ["j","line","i","number"]),#[A]],#[zG]]]]),(fun _ _ _ _=>#[zaJ,#[zL,#[zpt],#[pvx,3],#[zf],(zZ _)]]),(fun _ _ _ _=>#[za0,#[za,#[pvx,2],#[ya,#[pvx,0]]]]),(by intros; rfl)]]],?_⟩;have pf:=bf;have mB:=a8 hb;refine (l5 rfl ⟨a,(l5 rfl ⟨me.of ha,zek (n:=rows.length) (fun m ys H'=>∃ us:List Addr,ys=us.map V.ref∧zu H H'∧PtB H' us (zcj rows m)) ⟨[],rfl,fun _ _ e=>e,.nil⟩ ?_ ?_ ?_ ?_⟩)⟩)
  ·rintro m ys H1 hm ⟨us,rfl,s1,mH⟩;exact⟨_,.ref (bs[m]'#[O]),me.of (s1 _ _ ha),by rw [af,aj #[O]]; rfl⟩
  ·rintro ys H1 ⟨us,rfl,s1,mH⟩;exact⟨_,me.of (s1 _ _ ha),by rw [ab]; lia⟩
  ·rintro m y ys H1 H2 hm ⟨us,rfl,s1,mH⟩ ⟨T,v,hT,rfl,rfl,hv⟩;obtain⟨b,rfl,Bj⟩:=zQ (hv _ (me.of (s1 _ _ ha)));obtain⟨r,hr,Bk⟩:=Paired.get hb Bj;have oZ:=hw r (aA hr);have er:rows.getD m []=r:=by simp [jp,hr]
   refine gY2 (mE.of zc) ?_;have sT:=s1.trans (zb (o:=.tup [.int m,.ref b]) hT);have usT:=mH.same (zb (o:=.tup [.int m,.ref b]) hT);generalize mh H1 T (.tup [.int m,.ref b])=H2 at sT usT ⊢;have Ad:=sT _ _ Bk;refine (l5 rfl ⟨b,(l5 rfl ⟨me.of Ad,zek (n:=r.length) (fun j ys H'=>∃ us:List Addr,ys=us.map V.ref∧zu H2 H'∧PtB H' us (zcj rows m++trm m r j)) ⟨us,rfl,fun _ _ e=>e,by simpa [trm] using usT⟩ ?_ ?_ ?_ ?_⟩)⟩)
   ·rintro j ys H3 hj ⟨us,rfl,s3,_⟩;exact⟨_,.int (r[j]'hj),me.of (s3 _ _ Ad),by rw [af,aj hj]; rfl⟩
   ·rintro ys H3 ⟨us,rfl,s3,_⟩;exact⟨_,me.of (s3 _ _ Ad),by rw [ab]; lia⟩
   ·rintro j z ys H3 H4 hj ⟨us,rfl,s3,yA⟩ ⟨T',v',Df,rfl,rfl,BU⟩;obtain⟨x,rfl,hx⟩:=zaj (BU _ (me.of (s3 _ _ Ad)));have hgx:gl r j=x:=zbo hx;have GA:=s3.trans (zb (o:=.tup [.int j,.int x]) Df);have GB:=yA.same (zb (o:=.tup [.int j,.int x]) Df);have rN:us.length=(zcj rows m++trm m r j).length:=a8 yA;have l1:=zef hw m;have l2:=zkC m r j;rw [aq] at rN;refine⟨T',_,rfl,mE.of zc,rfl,_,_,rfl,_,_,rfl,rfl,?_⟩;generalize mh H3 T' (.tup [.int j,.int x])=H4 at GA GB ⊢;refine (l5 rfl ?_);refine⟨rfl,(l5 rfl ?_)⟩;refine zaM (fun Bl=>?_) (fun Bl=>?_)
    ·have Bl:x≠0:=by simpa using Bl
     refine (l5 rfl (l5 rfl ⟨by show 2≤sizeLine; lia,fun D hD=>⟨by rw [ab]; lia,us++[D],by rw [am]; rfl,GA.trans (zb hD),?_⟩⟩));rw [ziB,if_pos (by rw [hgx]; exact Bl),← bD];exact b8 (GB.same (zb hD)) zc
    ·have Bl:x=0:=by simpa using Bl
     refine⟨us,rfl,GA,?_⟩;rw [ziB,if_neg (by rw [hgx,Bl]; simp)];exact GB
   ·rintro ys H3 ⟨us,rfl,s3,yA⟩;refine⟨us,rfl,sT.trans s3,?_⟩;rw [zgB,er];exact yA
  ·rintro ys H1 ⟨us,rfl,s1,mH⟩ D hD;exact q D us _ (s1.free hD) (s1.trans (zb hD)) zc (mH.same (zb hD))
end
section
variable {P:Program} {w:World} {K:ah} {mg:Str→Option Value} {base:Heap} {t:Adr}
def zhs (K:ah):Sp:=fun vs H Q _=>∃ (a:Addr) (bs:List Addr) (n wi:Nat) (c:Nat→Nat→Int),vs = [.ref a]∧H a=some (.lst (bs.map V.ref))∧LsA H bs (zR n wi c)∧n≤100∧wi≤1000∧(∃ j i,j < n∧i < wi∧c j i≠0) ∧
 ∀ (l:Addr) (ls:List Addr) (e:Nat) (H':Hp),H l=none→zu H H'→H' l=some (.lst (ls.map V.ref))→LsA H' ls (zR n (wi - e) fun j i=>c j (i+e))→Lea n wi c e→Q (.ref l) H'
theorem zdX:FnScope ["lines","least"] ["lines"] (zh zbd):=#[S]
theorem zht {fd:FuncData} (T:Txt K mg t) (F:Fun K "without_x" "without_x" zbd t.without_x fd):FnOk P w K mg base CX0 2 t.without_x fd ["lines"] (zhs K):=by
 obtain⟨qw,nk,nr⟩:=T.f_terms_of;have pz:=zen (P:=P) (w:=w) (base:=base) T nk;refine F.ok zdX (fun vs H Q E h=>?_) (fun mQ A outer s H vs Q E hr h=>?_)
 ·obtain⟨a,bs,n,wi,c,rfl,_⟩:=h;rfl
 ·obtain⟨a,bs,n,wi,c,rfl,ha,hb,hn,hw,Bm,q⟩:=h;apply zaF; intro zX;refine⟨_,#[ze,#[zm,1,zdX.nd,(cB rfl),#[zo,(@zlx _ rfl),T.min_,boot_min,#[ya,#[zO,(CompSc.of (N':=["i","j"]) (ix:=[none,none]) (zh zbd) ["lines","least"] rfl rfl #[N]),#[zaL,#[zy,#[zy,#[zar]]]],#[zY,#[zp,pz,(hr.mono #[D]),T.m_terms_of,nk.kp,nr,#[zN],#[ya,#[pvx,0]]]],(fun _ _ _ _=>#[zaf,(K),2,#[zj,#[zg,0,(nd_ ["i","j"]),#[A]],#[zj,#[zg,1,(nd_ ["i","j"]),#[A]],#[zG]]]]),(fun _ _ _ _=>#[zz]),(fun _ _ _ _=>#[pvx,0])]]]],#[zl,#[zC,#[zO,(CompSc.of (N':=["line","least"]) (ix:=[none,some 1]) (zh zbd) ["lines","least"] rfl rfl #[N]),#[zae],#[zY,#[pvx,0]],(fun _ _ _ _=>#[zg,0,(nd_ ["line","least"]),#[A]]),(fun _ _ _ _=>#[zz]),(fun _ _ _ _=>#[zby,(zhV (K:=K) rfl),#[pvx,0],#[zbJ,#[pvx,1]],#[zcp]])]]]],?_⟩;apply zi9; intro oS;have pf:=bf;have hgl:=zaU n wi c;refine (l5 rfl (ex3 a bs (zR n wi c) ⟨rfl,ha,hb,#[O],fun r m8=>by rw [zfF m8]; exact hw,fun l ts H1 hl s1 h1 uK=>?_⟩));rw [hgl] at uK;have pI:=uK.length;have B0:(zcj (zR n wi c) n).length≤1000*n:=zef (fun r m8=>by rw [zfF m8]; exact hw) n;refine⟨l,rfl,⟨_,me.of h1⟩,zV (n:=ts.length) (fun m ys H'=>H'=H1∧ys=(((zcj (zR n wi c) n).map (·.1)).take m).map V.int) ⟨rfl,rfl⟩ ?_ ?_ ?_ ?_⟩
  ·rintro m ys H2 hm ⟨rfl,_⟩;exact⟨_,.ref ts[m],me.of h1,by rw [af,aj hm]; rfl⟩
  ·rintro ys H2 ⟨rfl,_⟩;exact⟨_,me.of h1,by rw [ab]; exact ag _⟩
  ·rintro m y ys H2 H3 hm ⟨rfl,rfl⟩ ⟨rfl,hy⟩;obtain⟨b,rfl,tZ⟩:=zQ (hy _ (me.of h1));obtain⟨q',pH,nJ⟩:=Paired.get uK tZ;refine gY2 (mE.of nJ) ?_;have Cm:((zcj (zR n wi c) n).map (·.1))[m]? = some q'.1:=by rw [af,pH]; rfl
   refine (l5 rfl ⟨by rw [ab,aI,ab]; lia,rfl,?_⟩);rw [take_snoc Cm,am];rfl
  rintro ys H2 D ⟨rfl,rfl⟩ hD;rw [aJ (by rw [ab]; lia)];have u2:=zb (o:=.lst (((zcj (zR n wi c) n).map (·.1)).map V.int)) hD;obtain⟨j0,i0,rS,AN,mV⟩:=Bm;refine⟨D,(zcj (zR n wi c) n).map (·.1),rfl,me.of zc,fun e0=>?_,fun M Bn Es=>?_⟩
  ·have:(i0:Int)∈(zcj (zR n wi c) n).map (·.1):=az.mpr ⟨_,zdf.mpr ⟨i0,j0,rfl,rS,AN,mV⟩,rfl⟩;rw [e0] at this;cases this
  obtain⟨e,rfl,hL⟩:=zqQ Bn Es;have s2:=s1.trans u2;generalize mh H2 D (.lst (((zcj (zR n wi c) n).map (·.1)).map V.int))=H3 at u2 s2 ⊢;have Et:=s2 _ _ ha;have yY:=hb.same s2;have sU:=hb.length;have Gd:e≤wi:=by obtain⟨_,_,h,_⟩:=hL.2; lia
  refine (l5 rfl ⟨a,rfl,⟨_,me.of Et⟩,zV (n:=bs.length) (fun m ys H'=>zu H3 H'∧∃ us:List Addr,ys=us.map V.ref∧LsA H' us ((zR n (wi - e) fun j i=>c j (i+e)).take m)) ⟨fun _ _ e=>e,[],rfl,.nil⟩ ?_ ?_ ?_ ?_⟩)
  ·rintro m ys H4 hm ⟨s4,_⟩;exact⟨_,.ref bs[m],me.of (s4 _ _ Et),by rw [af,aj hm]; rfl⟩
  ·rintro ys H4 ⟨s4,_⟩;exact⟨_,me.of (s4 _ _ Et),by rw [ab]; exact ag _⟩
  ·rintro m y ys H4 H5 hm ⟨s4,us,rfl,mH⟩ ⟨rfl,hy⟩;obtain⟨b,rfl,tZ⟩:=zQ (hy _ (me.of (s4 _ _ Et)));obtain⟨r,m8,nJ⟩:=Paired.get yY tZ;have yB:m < n:=by lia
   rw [zat yB] at m8;cases m8;refine gY (l5 rfl (l5 rfl (l5 rfl ⟨b,(l5 rfl ⟨me.of (s4 _ _ nJ),fun z hz=>?_⟩)⟩)));have rN:=mH.length;rw [aI,zaU] at rN;refine⟨by rw [ab]; lia,s4.trans (zb hz),us++[z],by rw [am]; rfl,?_⟩;rw [take_snoc (zat (w:=wi - e) (g:=fun j i=>c j (i+e)) yB)];refine b8 (mH.same (zb hz)) ?_;rw [zc,ziI (by rw [ab,ab,aL]; exact Gd),← iJ];congr 3;refine cU fun i=>?_
   rw [ff,af,af];by_cases h:i < wi - e
   ·rw [bi #[O],bi h,Nat.add_comm e i];rfl
   ·rw [bV (by rw [aL]; lia),bV (by rw [aL]; lia)];rfl
  ·rintro ys H4 D2 ⟨s4,us,rfl,mH⟩ rO;rw [aJ (by rw [zaU]; lia)] at mH;have Ae:=s2.trans s4;exact q D2 us e _ (Ae.free rO) (Ae.trans (zb rO)) zc (mH.same (zb rO)) hL
def zez (p b:Int) (n wi:Nat) (c:Nat→Nat→Int) (j i:Nat):Int:=if j≤i∧i < j+wi then sh b n (fun t=>c t (i - j)) j % p else 0
def zfY (K:ah):Sp:=fun vs H Q _=>∃ (p b:Int) (a:Addr) (bs:List Addr) (n wi:Nat) (c:Nat→Nat→Int),vs = [.int p,.ref a,.int b]∧H a=some (.lst (bs.map V.ref))∧LsA H bs (zR n wi c)∧1≤n∧n≤100∧wi≤900∧5≤p∧p≤97∧0≤b∧b < p∧(∀ j i,j < n→i < wi→0≤c j i∧c j i < p) ∧
 ∀ (l:Addr) (ls:List Addr) (H':Hp),H l=none→zu H H'→H' l=some (.lst (ls.map V.ref))→LsA H' ls (zR n (wi+(n - 1)) (zez p b n wi c))→Q (.ref l) H'
theorem zkI (x:V) (k:Nat):(ap k [x]).flatten=ap k x:=cS
theorem znK {p b:Int} {n wi m:Nat} {c:Nat→Nat→Int} (hm:m < n):(av (wi+(n - 1))).map (zez p b n wi c m)=ap m 0++((av wi).map fun i=>sh b n (fun t=>c t i) m % p)++ap (n - 1 - m) 0:=by
 refine cU fun i=>?_
 rw [af];by_cases h1:i < m
 ·rw [bj (by rw [aq,aU]; lia),bj (by rw [aU]; exact h1),cC,if_pos h1,bi #[O]];show some (zez p b n wi c m i)=some 0;unfold zez;rw [if_neg #[O]]
 ·by_cases h2:i < m+wi
  ·rw [bj (by rw [aq,aU,ab,aL]; lia),bN (by rw [aU]; lia),aU,af,bi #[O],bi #[O]];show some (zez p b n wi c m i)=some (sh b n (fun t=>c t (i - m)) m % p);unfold zez;rw [if_pos #[O]]
  ·rw [bN (by rw [aq,aU,ab,aL]; lia),aq,aU,ab,aL,cC];by_cases h3:i < wi+(n - 1)
   ·rw [if_pos #[O],bi h3];show some (zez p b n wi c m i)=some 0;unfold zez;rw [if_neg #[O]]
   ·rw [if_neg #[O],bV (by rw [aL]; lia)];rfl
theorem zdo:FnScope ["p","lines","number","beyond"] ["p","lines","number"] (zh zbk):=#[S]
theorem zfZ {fd:FuncData} (T:Txt K mg t) (F:Fun K "next_curve" "next_curve" zbk t.next_curve fd):FnOk P w K mg base CX0 2 t.next_curve fd ["p","lines","number"] (zfY K):=by
 obtain⟨wc,ug,qW⟩:=T.f_raised;have xw:=zlQ (P:=P) (w:=w) (base:=base) T ug;refine F.ok zdo (fun vs H Q E h=>?_) (fun mQ A outer s H vs Q E hr h=>?_)
 ·obtain⟨p,b,a,bs,n,wi,c,rfl,_⟩:=h;rfl
 ·obtain⟨p,b,a,bs,n,wi,c,rfl,ha,hb,n1,hn,hw,p5,vZ,b0,b1,hc,q⟩:=h;apply zaF; intro zX;refine⟨_,#[ze,#[zm,3,zdo.nd,(cB rfl),#[zi,#[zap],#[zo,#[zq],T.len_,bP,#[ya,#[pvx,1]]],#[zf]]],#[zl,#[zC,#[zO,(CompSc.of (N':=["j","line","beyond"]) (ix:=[none,none,some 3]) (zh zbk) ["p","lines","number","beyond"] rfl rfl #[N]),#[zaL,#[zy,#[zy,#[zar]]]],#[zcN,T.enumerate_,#[ya,#[zp,xw,(hr.mono #[D]),T.m_raised,ug.kp,qW,#[zN],#[za,#[pvx,0],#[za,#[pvx,1],#[ya,#[pvx,2]]]]]]],(fun _ _ _ _=>#[zaf,(K),2,#[zj,#[zg,0,(nd_ ["j","line","beyond"]),#[A]],#[zj,#[zg,1,(nd_ ["j","line","beyond"]),#[A]],#[zG]]]]),(fun _ _ _ _=>#[zz]),(fun _ _ _ _=>#[zi,#[zb4],#[zi,#[zb4],#[zi,#[zcs],#[z0,#[ya,#[zf]]],#[pvx,0]],#[pvx,1]],#[zi,#[zcs],#[z0,#[ya,#[zf]]],#[zi,#[zap],#[pvx,2],#[pvx,0]]]])]]]],?_⟩;apply zi9; intro oS;have pf:=bf;have sU:=hb.length;rw [zaU] at sU;refine (l5 rfl ⟨a,(l5 rfl ⟨.inl (me.of ha),(mv rfl rfl ?_)⟩)⟩);refine (l5 rfl (l5 rfl (l5 rfl (ex7 p b a bs n wi c ⟨rfl,ha,hb,#[O],#[O],p5,vZ,b0,b1,hc,fun l ls H1 hl s1 h1 nc=>?_⟩))));have vG:=nc.length;rw [zaU] at vG;refine⟨l,(l5 rfl ⟨me.of h1,zV (n:=ls.length) (fun m ys H'=>zu H1 H'∧∃ us:List Addr,ys=us.map V.ref∧LsA H' us ((zR n (wi+(n - 1)) (zez p b n wi c)).take m)) ⟨fun _ _ e=>e,[],rfl,.nil⟩ ?_ ?_ ?_ ?_⟩)⟩
  ·rintro m ys H4 hm ⟨s4,_⟩;exact⟨_,.ref ls[m],me.of (s4 _ _ h1),by rw [af,aj hm]; rfl⟩
  ·rintro ys H4 ⟨s4,_⟩;exact⟨_,me.of (s4 _ _ h1),by rw [ab]; exact ag _⟩
  ·rintro m y ys H4 H5 hm ⟨s4,us,rfl,mH⟩ ⟨T,v,hT,rfl,rfl,hv⟩;obtain⟨bb,rfl,tZ⟩:=zQ (hv _ (me.of (s4 _ _ h1)));obtain⟨r,m8,nJ⟩:=Paired.get nc tZ;have yB:m < n:=by lia
   rw [zat yB] at m8;cases m8;have uT:=zb (o:=.tup [.int (m:Int),.ref bb]) hT;refine gY2 (mE.of zc) ?_;have s5:=s4.trans uT;have yC:=mH.same uT;generalize mh H4 T (.tup [.int (m:Int),.ref bb])=H5 at uT s5 yC ⊢;have Eu:((m:Int)).toNat=m:=by lia
   refine⟨by show 1≤sizeLine; lia,fun z1 rK=>(l5 rfl (ex3 z1 _ ([.int 0]) ⟨rfl,rfl,zc,#[O],#[O],by rw [Eu]; show 1*m≤sizeLine; lia,fun z2 uF=>?_⟩))⟩;rw [Eu,zkI];have u6:=(zb (o:=.lst [.int 0]) rK).trans (zb (o:=.lst (ap m (V.int 0))) uF);have f6:mh (mh H5 z1 (.lst [.int 0])) z2 (.lst (ap m (V.int 0))) z2=some (.lst ((ap m (0:Int)).map V.int)):=by rw [zc,d8]
   generalize mh (mh H5 z1 (.lst [.int 0])) z2 (.lst (ap m (V.int 0)))=H6 at u6 f6 ⊢;refine (l5 rfl (ex4 z2 bb _ _ ⟨rfl,rfl,f6,(s5.trans u6) _ _ nJ,by rw [ab,ab,aU,ab,aL]; lia,fun z3 C0=>?_⟩));have u7:=zb (o:=.lst ((ap m (0:Int)).map V.int++((av wi).map fun i=>sh b n (fun t=>c t i) m % p).map V.int)) C0;have f7:mh H6 z3 (.lst ((ap m (0:Int)).map V.int++((av wi).map fun i=>sh b n (fun t=>c t i) m % p).map V.int)) z3=some (.lst ((ap m (0:Int)++(av wi).map fun i=>sh b n (fun t=>c t i) m % p).map V.int)):=by rw [zc,am]
   generalize mh H6 z3 (.lst ((ap m (0:Int)).map V.int++((av wi).map fun i=>sh b n (fun t=>c t i) m % p).map V.int))=H7 at u7 f7 ⊢;have eb:(((bs.map V.ref).length:Nat):Int) - 1 - (m:Int)=((n - 1 - m:Nat):Int):=by rw [ab]; lia
   refine⟨by show 1≤sizeLine; lia,fun z4 hz4=>(l5 rfl (l5 rfl (mv rfl rfl ?_)))⟩;show zoi (.ref z4) (.int ((((bs.map V.ref).length:Nat):Int) - 1 - (m:Int))) _ _;rw [eb];have Dh:(((n - 1 - m:Nat):Int)).toNat=n - 1 - m:=by lia
   refine (ex3 z4 _ ([.int 0]) ⟨rfl,rfl,zc,#[O],#[O],by rw [Dh]; show 1*_≤sizeLine; lia,fun z5 hz5=>?_⟩);rw [Dh,zkI];have u8:=(zb (o:=.lst [.int 0]) hz4).trans (zb (o:=.lst (ap (n - 1 - m) (V.int 0))) hz5);have f8:mh (mh H7 z4 (.lst [.int 0])) z5 (.lst (ap (n - 1 - m) (V.int 0))) z5=some (.lst ((ap (n - 1 - m) (0:Int)).map V.int)):=by rw [zc,d8]
   generalize mh (mh H7 z4 (.lst [.int 0])) z5 (.lst (ap (n - 1 - m) (V.int 0)))=H8 at u8 f8 ⊢;refine (ex4 z3 z5 _ _ ⟨rfl,rfl,u8 _ _ f7,f8,by rw [ab,ab,aq,aU,aU,ab,aL]; lia,fun z6 hz6=>?_⟩);have u9:=u6.trans (u7.trans (u8.trans (zb (o:=.lst ((ap m (0:Int)++(av wi).map fun i=>sh b n (fun t=>c t i) m % p).map V.int++(ap (n - 1 - m) (0:Int)).map V.int)) hz6)));have rN:=mH.length;rw [aI,zaU] at rN;refine⟨by rw [ab]; lia,s5.trans u9,us++[z6],by rw [am]; rfl,?_⟩;rw [take_snoc (zat (w:=wi+(n - 1)) (g:=zez p b n wi c) yB)];refine b8 (yC.same u9) ?_;rw [zc,← am];congr 3;exact (znK yB).symm
  ·rintro ys H4 D2 ⟨s4,us,rfl,mH⟩ rO;rw [aJ (by rw [zaU]; lia)] at mH;have Ae:=s1.trans s4;exact q D2 us _ (Ae.free rO) (Ae.trans (zb rO)) zc (mH.same (zb rO))
end
section
variable {P:Program} {w:World} {K:ah} {mg:Str→Option Value} {base:Heap} {t:Adr}
def RA1 (H:Hp) (n:Nat) (b:Addr) (st:List Int×Nat×(Nat→Nat→Int)):Prop:=∃ ka na ls,H b=some (.tup [.ref ka,.ref na])∧H ka=some (.tup (st.1.map V.int))∧H na=some (.lst (ls.map V.ref))∧LsA H ls (zR n st.2.1 st.2.2)
theorem RA1.same {H H':Hp} {n:Nat} {b:Addr} {st:List Int×Nat×(Nat→Nat→Int)} (s:zu H H') (h:RA1 H n b st):RA1 H' n b st:=by
 obtain⟨ka,na,ls,h1,h2,h3,h4⟩:=h;exact⟨ka,na,ls,s _ _ h1,s _ _ h2,s _ _ h3,h4.same s⟩
def RAs (H:Hp) (n:Nat):List Addr→List (List Int×Nat×(Nat→Nat→Int))→Prop:=Paired (RA1 H n)
theorem RAs.same {H H':Hp} {n:Nat} (s:zu H H') {bs:List Addr} {qI:List (List Int×Nat×(Nat→Nat→Int))} (h:RAs H n bs qI):RAs H' n bs qI:=dB (fun _ _ z=>z.same s) h
def nxs (p:Int) (n e wi:Nat) (c:Nat→Nat→Int) (known:List Int) (L:List Int):List (List Int×Nat×(Nat→Nat→Int)):=L.map fun b=>(known++[b],(wi - e+(n - 1),zfX p b n e c))
theorem znL {p b:Int} {n wi e:Nat} {c:Nat→Nat→Int} (hd:∀ j i,wi≤i→c j i=0):zR n (wi - e+(n - 1)) (zez p b n (wi - e) fun j i=>c j (i+e))=zR n (wi - e+(n - 1)) (zfX p b n e c):=zbC fun j i hj hi=>by
 unfold zez zfX;by_cases h1:j≤i
 ·rw [if_pos (show j < n∧j≤i from ⟨hj,h1⟩)];by_cases h2:i < j+(wi - e)
  ·rw [if_pos ⟨h1,h2⟩]
  ·rw [if_neg #[O]];have e0:sh b n (fun t=>c t (i - j+e)) j=sh b n (fun _=>0) j:=zdP fun t _=>hd t _ #[O]
   have e1:sh b n (fun _=>(0:Int)) j=0:=by
    have:=zcU (b:=b) (c:=0) (n:=n) (u:=fun _=>0) (j:=j);simpa using this
   rw [e0,e1];rfl
 ·rw [if_neg #[O],if_neg #[O]]
def zjD (K:ah):Sp:=fun vs H Q _=>∃ (p:Int) (ka a:Addr) (known:List Int) (bs:List Addr) (n wi:Nat) (c:Nat→Nat→Int),vs = [.int p,.ref ka,.ref a]∧H ka=some (.tup (known.map V.int))∧H a=some (.lst (bs.map V.ref))∧LsA H bs (zR n wi c)∧known.length≤100∧1≤n∧n≤100∧wi≤900∧p∈zr∧(∃ j i,j < n∧i < wi∧c j i≠0)∧(∀ j i,wi≤i→c j i=0)∧(∀ j i,0≤c j i∧c j i < p) ∧
 ∀ (l:Addr) (us:List Addr) (e:Nat) (H':Hp),H l=none→zu H H'→H' l=some (.lst (us.map V.ref))→RAs H' n us (nxs p n e wi c known (nums p n e c p.toNat))→Lea n wi c e→Q (.ref l) H'
theorem zdw:FnScope ["p","known","lines","lowest"] ["p","known","lines"] (zh zbP):=#[S]
theorem zjE {fd:FuncData} (T:Txt K mg t) (F:Fun K "further" "further" zbP t.further fd):FnOk P w K mg base CX0 3 t.further fd ["p","known","lines"] (zjD K):=by
 obtain⟨tj,qz,oH⟩:=T.f_without_x;have uh:=zht (P:=P) (w:=w) (base:=base) T qz;obtain⟨oG,mL,mN⟩:=T.f_value_at;have m5:=zcY (P:=P) (w:=w) (base:=base) T mL;obtain⟨rV,pN,og⟩:=T.f_next_curve;have tq:=zfZ (P:=P) (w:=w) (base:=base) T pN;refine F.ok zdw (fun vs H Q E h=>?_) (fun mQ A outer s H vs Q E hr h=>?_)
 ·obtain⟨p,ka,a,known,bs,n,wi,c,rfl,_⟩:=h;rfl
 ·obtain⟨p,ka,a,known,bs,n,wi,c,rfl,GC,ha,hb,hkl,n1,hn,hw,hp,Bm,hdg,uW,q⟩:=h;apply zaF; intro zX;refine⟨_,#[ze,#[zm,2,zdw.nd,(cB rfl),#[zp,uh,(hr.mono #[D]),T.m_without_x,qz.kp,oH,#[zN],#[ya,#[pvx,2]]]],#[ze,#[zm,3,zdw.nd,(cB rfl),#[zO,(CompSc.of (N':=["line"]) (ix:=[none]) (zh zbP) ["p","known","lines","lowest"] rfl rfl #[N]),#[zae],#[zY,#[pvx,2]],(fun _ _ _ _=>#[zg,0,(nd_ ["line"]),#[A]]),(fun _ _ _ _=>#[zz]),(fun _ _ _ _=>#[zK,#[zaQ,(K)],#[pvx,0],#[zf]])]],#[zl,#[zC,#[zO,(CompSc.of (N':=["number","known","p","lines","lowest"]) (ix:=[none,some 1,some 0,some 2,some 3]) (zh zbP) ["p","known","lines","lowest"] rfl rfl #[N]),#[zae],#[z9,T.range_,#[ya,#[pvx,0]]],(fun _ _ _ _=>#[zg,0,(nd_ ["number","known","p","lines","lowest"]),#[A]]),(fun _ _ _ _=>#[zaJ,#[zL,#[zdh],#[zp,m5,(hr.mono #[D]),T.m_value_at,mL.kp,mN,#[zN],#[za,#[pvx,2],#[za,#[pvx,4],#[ya,#[pvx,0]]]]],#[zf],(zZ _)]]),(fun _ _ _ _=>#[za0,#[za,#[zi,(@zoN _),#[pvx,1],#[za0,#[ya,#[pvx,0]]]],#[ya,#[zp,tq,(hr.mono #[D]),T.m_next_curve,pN.kp,og,#[zN],#[za,#[pvx,2],#[za,#[pvx,3],#[ya,#[pvx,0]]]]]]]])]]]]],?_⟩;apply ze5; intro pZ oS;have pf:=bf;have rp:=zw hp;refine (l5 rfl (ex5 a bs n wi c ⟨rfl,ha,hb,hn,#[O],Bm,fun l ls e H1 hl s1 h1 nc hL=>?_⟩));have vG:=nc.length;rw [zaU] at vG;have Gd:e < wi:=by obtain⟨_,_,h,_⟩:=hL.2; exact h
  refine (l5 rfl ⟨l,rfl,⟨_,me.of h1⟩,zV (n:=ls.length) (fun m ys H'=>H'=H1∧ys=((zca n e c).take m).map V.int) ⟨rfl,rfl⟩ ?_ ?_ ?_ ?_⟩)
  ·rintro m ys H2 hm ⟨rfl,_⟩;exact⟨_,.ref ls[m],me.of h1,by rw [af,aj hm]; rfl⟩
  ·rintro ys H2 ⟨rfl,_⟩;exact⟨_,me.of h1,by rw [ab]; exact ag _⟩
  ·rintro m y ys H2 H3 hm ⟨rfl,rfl⟩ ⟨rfl,hy⟩;obtain⟨b,rfl,tZ⟩:=zQ (hy _ (me.of h1));obtain⟨r,m8,nJ⟩:=Paired.get nc tZ;have yB:m < n:=by lia
   rw [zat yB] at m8;cases m8;have qK:(zca n e c)[m]? = some (c m e):=by unfold zca; rw [af,bi yB]; rfl
   have yD:atI (((av (wi - e)).map fun i=>c m (i+e)).map V.int) 0=some (.int (c m e)):=zal (j:=0) (by rw [af,af,bi #[O]]; show some (V.int (c m (0+e)))=_; rw [cG]);refine gY (l5 rfl (ex4 b _ _ _ ⟨rfl,rfl,me.of nJ,yD,?_⟩));refine⟨by rw [ab,aI,zdU]; lia,rfl,?_⟩;rw [take_snoc qK,am];rfl
  rintro ys H2 D ⟨rfl,rfl⟩ hD;rw [aJ (by rw [zdU]; lia)];have u2:=zb (o:=.lst ((zca n e c).map V.int)) hD;have f2:mh H2 D (.lst ((zca n e c).map V.int)) D=some (.lst ((zca n e c).map V.int)):=zc;have s2:=s1.trans u2;generalize mh H2 D (.lst ((zca n e c).map V.int))=H3 at u2 f2 s2 ⊢;have Ab:=u2 _ _ h1;have GD:=nc.same u2;have h3k:=s2 _ _ GC;refine (l5 rfl (l5 rfl ⟨#[O],#[O],zV (n:=p.toNat) (fun m ys H'=>zu H3 H'∧∃ us:List Addr,ys=us.map V.ref∧RAs H' n us (nxs p n e wi c known (nums p n e c m))) ⟨fun _ _ e=>e,[],rfl,.nil⟩ (fun m ys H' hm _=>hm) (fun ys H' _=>ag _) ?_ ?_⟩))
  ·rintro m xx ys H4 H5 hm ⟨s4,us,rfl,mH⟩ ⟨rfl,rfl⟩;rw [show ((0:Int)+(m:Int))=(m:Int) from cq _];refine (l5 rfl (l5 rfl (l5 rfl (ex4 p (m:Int) D (zca n e c) ⟨rfl,.inl (me.of (s4 _ _ f2)),#[O],#[O],#[O],#[O],rfl,(l5 rfl ?_)⟩))));have eq0:decide (V.int (zt p (m:Int) (zca n e c))=V.int 0)=decide (zt p (m:Int) (zca n e c)=0):=by simp
   rw [eq0];have rN:=mH.length;have Ew:(nxs p n e wi c known (nums p n e c m)).length≤m:=by
    unfold nxs nums;rw [ab];refine aT (cg _ _) ?_;rw [ab,aL];exact ag _
   refine zaM (fun h0=>?_) (fun h0=>?_)
   ·have h0:=of_decide_eq_true h0;refine (l5 rfl (l5 rfl ⟨by show 1≤sizeLine; lia,fun x1 xX=>?_⟩));have w1:=zb (o:=.tup [.int (m:Int)]) xX;refine (ex4 ka x1 _ _ ⟨rfl,rfl,w1 _ _ (s4 _ _ h3k),zc,by rw [ab]; show _+1≤sizeLine; lia,#[M],fun x2 H6 w2 g2=>?_⟩);have B8:=w1.trans w2;have sH6:=s4.trans B8;refine (l5 rfl (l5 rfl (l5 rfl ⟨p,(m:Int),l,ls,n,wi - e,fun j i=>c j (i+e),rfl,sH6 _ _ Ab,GD.same sH6,n1,hn,#[O],#[O],#[O],#[O],#[O],fun j i _ _=>uW j (i+e),fun l7 ls7 H7 hl7 w3 g3 Di=>?_⟩)));rw [znL hdg] at Di;refine⟨by show 2≤sizeLine; lia,fun pr Bc=>?_⟩;have w4:=zb (o:=.tup [.ref x2,.ref l7]) Bc;have w04:=B8.trans (w3.trans w4);refine⟨by rw [ab]; lia,s4.trans w04,us++[pr],by rw [am]; rfl,?_⟩;unfold nxs;rw [zgE,if_pos h0,am];refine b8 (mH.same w04) ⟨x2,l7,ls7,zc,?_,w4 _ _ g3,Di.same w4⟩;rw [(w3.trans w4) _ _ g2,am];rfl
   ·have h0:¬ zt p (m:Int) (zca n e c)=0:=fun z=>h0 (decide_eq_true z)
    refine⟨s4,us,rfl,?_⟩;rw [zgE,if_neg h0,bI];exact mH
  ·rintro ys H4 D2 ⟨s4,us,rfl,mH⟩ rO;have Ae:=s2.trans s4;exact q D2 us e _ (Ae.free rO) (Ae.trans (zb rO)) zc (mH.same (zb rO)) hL
end
section
variable {P:Program} {w:World} {K:ah} {mg:Str→Option Value} {base:Heap} {t:Adr}
def ziR (K:ah):Sp:=fun vs H Q _=>∃ (p:Int) (k:Nat) (a:Addr) (bs:List Addr) (rows:List (List Int)),vs = [.int p,.int (k:Int),.ref a]∧p∈zr∧H a=some (.tup (bs.map V.ref))∧zbB H bs rows∧rows.length≤100∧(∀ r∈rows,r.length≤100)∧1≤k∧k≤5∧rows.length ^ k≤2000000∧(∃ j i,¬ Cg p (gl (rows.getD j []) i) 0) ∧
 ∀ (l:Addr) (us:List Addr) (qs:List (List Int)) (H':Hp),H l=none→zu H H'→H' l=some (.lst (us.map V.ref))→zbB H' us qs→qs.length≤2000000→zes p k qs→(∀ q,q∈qs↔IsP p k q∧Zr p (AL k (gl q) rows.length fun j i=>gl (rows.getD j []) i))→Q (.ref l) H'
theorem zrE (rows:List (List Int)) (j:Nat):(rows.getD j []).length≤wd rows:=by
 (rw [aO])
 cases h:rows[j]? with
 | none=>exact bm _
 | some r=>exact zkD (aA h)
theorem zpg {rows:List (List Int)} {m:Nat} (h:∀ r∈rows,r.length≤m):wd rows≤m:=by
 by_cases e:rows = []
 ·subst e;exact bm _
 ·obtain⟨r,hr,e2⟩:=zhi e;rw [← e2];exact h r hr
structure SI (p:Int) (n:Nat) (F0:Nat→Ps) (k s w:Nat) (qI:List (List Int×Nat×(Nat→Nat→Int))):Prop where
 rs:∀ st∈qI,RS p n F0 s st.1 st.2.1 st.2.2∧st.2.1≤w
 nd:(qI.map (·.1)).Nodup
 len:qI.length≤n ^ s
 all:∀ f,IsP p k f→Zr p (AL k (gl f) n F0)→f.take s∈qI.map (·.1)
theorem zph {p:Int} {n k:Nat} {rows:List (List Int)} (p0:0 < p) (hn:n=rows.length) (Bm:∃ j i,¬ Cg p (gl (rows.getD j []) i) 0):SI p n (fun j i=>gl (rows.getD j []) i % p) k 0 (wd rows) [([],(wd rows,fun j i=>gl (rows.getD j []) i % p))]:=by
 have qQ:∀ j i,wd rows≤i→gl (rows.getD j []) i=0:=fun j i hi=>zbS (aT (zrE rows j) hi)
 refine⟨fun st nS=>?_,#[M],#[M],fun f _ _=>by simp⟩;rw [aW.mp nS];refine⟨⟨⟨rfl,fun x hx=>by cases hx⟩,fun j i hi=>?_,fun j i=>⟨aQ _ #[O],aH _ p0⟩,?_,fun m g=>?_⟩,ag _⟩
 ·show gl (rows.getD j []) i % p=0;rw [qQ j i hi];rfl
 ·obtain⟨j,i,h⟩:=Bm;refine⟨j,i,bY fun hj=>h ?_,bY fun hi=>h ?_,fun e=>h ?_⟩
  ·have:rows.getD j [] = []:=by rw [aO,bV #[O]]; rfl
   rw [this];exact Cg.refl _ _
  ·rw [qQ j i (i4 hi)];exact Cg.refl _ _
  ·exact (Cg.emod p _).symm.trans (Cg.of_eq e)
 ·have e:apl [] g=g:=by
   funext i;unfold apl;simp
  rw [e,cG]
theorem zqT {n s i m:Nat} (h:i≤n ^ s) (hm:m≤i*n):m≤n ^ (s+1):=by
 rw [kE];exact aT hm (fP n h)
theorem zbG:FnScope ["p","k","curve","lines","starts","step"] ["p","k","curve"] (zh zbs):=#[S]
theorem ziS {fd:FuncData} (T:Txt K mg t) (F:Fun K "roots_of" "roots_of" zbs t.roots_of fd):FnOk P w K mg base CX0 4 t.roots_of fd ["p","k","curve"] (ziR K):=by
 obtain⟨we,ui,qX⟩:=T.f_filled;have xy:=zlT (P:=P) (w:=w) (base:=base) T ui;obtain⟨qw,nk,nr⟩:=T.f_terms_of;have pz:=zen (P:=P) (w:=w) (base:=base) T nk;obtain⟨uZ,sG,p7⟩:=T.f_further;have wg:=zjE (P:=P) (w:=w) (base:=base) T sG;refine F.ok zbG (fun vs H Q E h=>?_) (fun mQ A outer s H vs Q E hr h=>?_)
 ·obtain⟨p,k,a,bs,rows,rfl,_⟩:=h;rfl
 ·obtain⟨p,k,a,bs,rows,rfl,hp,ha,hb,hn,hw,k1,k5,Bo,Bm,q⟩:=h;apply zaF; intro zX;refine⟨_,#[ze,#[zm,3,zbG.nd,#[A],#[zp,xy,(hr.mono #[D]),T.m_filled,ui.kp,qX,#[zN],#[za,#[pvx,0],#[ya,#[pvx,2]]]]],#[ze,#[zbm,#[zi1,#[zhI,#[zp,pz,(hr.mono #[D]),T.m_terms_of,nk.kp,nr,#[zN],#[ya,#[pvx,3]]],(fun _=>rfl)]],#[zl,#[zC,#[z0,#[zd]]]],#[zaw]],#[ze,#[zm,4,zbG.nd,#[A],#[z0,#[ya,#[za0,#[za,#[za0,#[zd]],#[ya,#[pvx,3]]]]]]],#[ze,#[zaD,bq,#[z9,T.range_,#[ya,#[pvx,1]]],#[zg,5,zbG.nd,#[A]],#[zl,#[zfn,4,zbG.nd,#[A],(CompSc.of (N':=["known","rest","longer","p"]) (ix:=[none,none,none,some 0]) (zh zbs) ["p","k","curve","lines","starts","step"] rfl rfl #[N]),(ze6 (js:=[0,1]) (zbg (js:=[0,1]) (i:=0) #[D] (zbg (js:=[0,1]) (i:=1) #[D] (zdD (js:=[0,1]))))),(zdC (js:=[2]) (i:=2) #[D]),#[zY,#[pvx,4]],(fun _ _ _ _=>#[zaf,(K),2,#[zj,#[zg,0,(nd_ ["known","rest","longer","p"]),#[A]],#[zj,#[zg,1,(nd_ ["known","rest","longer","p"]),#[A]],#[zG]]]]),(fun _ _ _ _=>#[zz]),(fun _ _ _ _=>(@zm6 _ (K) _ _ _ rfl #[zp,wg,(hr.mono #[D]),T.m_further,sG.kp,p7,#[zN],#[za,#[pvx,3],#[za,#[pvx,0],#[ya,#[pvx,1]]]]])),(fun _ _ _ _=>#[zg,2,(nd_ ["known","rest","longer","p"]),#[A]]),(fun _ _ _ _=>#[zz]),(fun _ _ _ _=>#[pvx,2]),(by intros; rfl)]]],#[zl,#[zC,#[zo,(@zg6 _),T.sorted_,boot_sorted,#[ya,#[zO,(CompSc.of (N':=["known","rest"]) (ix:=[none,none]) (zh zbs) ["p","k","curve","lines","starts","step"] rfl rfl #[N]),#[zaL,#[zy,#[zy,#[zar]]]],#[zY,#[pvx,4]],(fun _ _ _ _=>#[zaf,(K),2,#[zj,#[zg,0,(nd_ ["known","rest"]),#[A]],#[zj,#[zg,1,(nd_ ["known","rest"]),#[A]],#[zG]]]]),(fun _ _ _ _=>#[zaJ,#[zi1,(@zpW _ _ _ #[zo,(zlO (K:=K) rfl rfl),T.any_,boot_any,#[ya,#[zK,#[zaQ,(K)],#[pvx,1],#[zf]]]] (by intro _; rfl))]]),(fun _ _ _ _=>#[pvx,0])]]]]]]]]],?_⟩;apply zok; intro yr uL pZ oS;have pf:=bf;have rp:=zw hp;have p0:0 < p:=by lia
  have hwd:wd rows≤100:=zpg hw;refine (l5 rfl (l5 rfl (ex4 p a bs rows ⟨rfl,#[O],#[O],ha,hb,hn,hw,fun l ls H1 hl s1 h1 nc=>?_⟩)));obtain⟨n,en⟩:∃ n,rows.length=n:=⟨_,rfl⟩;have hI0:=zph (k:=k) p0 en.symm Bm;rw [en] at hn nc Bo;have Dj:=(hI0.rs _ aN).1;have uU:1≤n:=by obtain⟨j,_,hj,_⟩:=Dj.nz; lia
  refine (l5 rfl (ex3 l ls _ ⟨rfl,h1,nc,by rw [zaU]; exact hn,fun r m8=>by rw [zfF m8]; lia,fun l2 ts H2 qJ s2 h2 uK=>?_⟩));rw [zaU] at uK;have pI:=uK.length;have hte:ts≠[]:=fun e0=>by
   obtain⟨j0,i0,rS,AN,mV⟩:=Dj.nz;have:=zdf.mpr ⟨i0,j0,rfl,rS,AN,mV⟩;rw [e0] at pI;rw [gz.mp pI.symm] at this;cases this
  refine⟨true,.inl ⟨_,me.of h2,?_⟩,zme ?_⟩
  ·cases ts with
   | nil=>exact absurd rfl hte
   | cons x xs=>rfl
  have Bi:=s2 _ _ h1;have GF:=nc.same s2;refine⟨by show 0≤sizeLine; lia,fun ka GC=>?_⟩;have u3:=zb (o:=.tup []) GC;have f3:mh H2 ka (.tup []) ka=some (.tup (([]:List Int).map V.int)):=zc;generalize mh H2 ka (.tup [])=H3 at u3 f3 ⊢;refine (l5 rfl ⟨by show 2≤sizeLine; lia,fun b tZ=>?_⟩);have u4:=zb (o:=.tup [.ref ka,.ref l]) tZ;have f4:mh H3 b (.tup [.ref ka,.ref l]) b=some (.tup [.ref ka,.ref l]):=zc;generalize mh H3 b (.tup [.ref ka,.ref l])=H4 at u4 f4 ⊢;refine⟨by show 1≤sizeLine; lia,fun sa t6=>?_⟩;have u5:=zb (o:=.lst [.ref b]) t6;have f5:mh H4 sa (.lst [.ref b]) sa=some (.lst ([b].map V.ref)):=zc;generalize mh H4 sa (.lst [.ref b])=H5 at u5 f5 ⊢;have GG:=u3.trans (u4.trans u5);have s05:=s1.trans (s2.trans GG);have hR0:RAs H5 n [b] [([],(wd rows,fun j i=>gl (rows.getD j []) i % p))]:=.cons ⟨ka,l,ls,u5 _ _ f4,(u4.trans u5) _ _ f3,GG _ _ Bi,GF.same GG⟩ .nil;refine⟨_,rfl,_,rfl,#[O],#[O],zaN (lo:=0) (n:=((k:Nat):Int).toNat) (fun s σ H'=>∃ (sa:Addr) (bs:List Addr) (qI:List (List Int×Nat×(Nat→Nat→Int))) (e5:Option V),σ = [some (.int p),some (.int (k:Int)),some (.ref a),some (.ref l),some (.ref sa),e5]∧zu H H'∧H' sa=some (.lst (bs.map V.ref))∧RAs H' n bs qI∧SI p n (fun j i=>gl (rows.getD j []) i % p) k s (wd rows+s*n) qI)
   ⟨sa,[b],_,none,rfl,s05,f5,hR0,by rw [kK,dJ]; exact hI0⟩ ?_ ?_⟩
  ·rintro zD zT s σ H6 hs ⟨sa,bs,qI,e5,rfl,s6,vY,Dk,wW⟩;have hsk:s < k:=by lia
   have sU:=Dk.length;have mS:n ^ (s+1)≤2000000:=aT (jY uU #[O]) Bo;have hwb:wd rows+s*n≤600:=by
    have:s*n≤4*100:=eK #[O] hn;lia
   refine⟨_,rfl,sa,rfl,⟨_,me.of vY⟩,zek (n:=bs.length) (fun i ys H'=>∃ (us:List Addr) (out:List (List Int×Nat×(Nat→Nat→Int))),ys=us.map V.ref∧zu H6 H'∧RAs H' n us out∧(∀ st∈out,RS p n (fun j i=>gl (rows.getD j []) i % p) (s+1) st.1 st.2.1 st.2.2∧st.2.1≤wd rows+(s+1)*n)∧(out.map (·.1)).Nodup∧(∀ o∈out,o.1.dropLast∈(qI.take i).map (·.1))∧out.length≤i*n∧∀ f,IsP p k f→Zr p (AL k (gl f) n fun j i=>gl (rows.getD j []) i % p)→f.take s∈(qI.take i).map (·.1)→f.take (s+1)∈out.map (·.1))
    ⟨[],[],rfl,fun _ _ e=>e,.nil,fun st h=>(by cases h),lN,fun o h=>(by cases h),bm _,fun f _ _ h=>(by simp at h)⟩ ?_ ?_ ?_ ?_⟩
   ·rintro i ys H7 hi ⟨us,out,rfl,s7,_⟩;exact⟨_,.ref bs[i],me.of (s7 _ _ vY),by rw [af,aj hi]; rfl⟩
   ·rintro ys H7 ⟨us,out,rfl,s7,_⟩;exact⟨_,me.of (s7 _ _ vY),by rw [ab]; exact ag _⟩
   ·rintro i y ys H7 H8 hi ⟨us,out,rfl,s7,mH,GH,oX,xZ,hol,Ex⟩ ⟨rfl,hy⟩;obtain⟨sb,rfl,n6⟩:=zQ (hy _ (me.of (s7 _ _ vY)));obtain⟨⟨known,wi,c⟩,nS,ka,na,yE,z1,z2,z3,z4⟩:=Paired.get (Dk.same s7) n6;obtain⟨R,hwi⟩:=wW.rs _ (aA nS);dsimp only at R hwi z2 z4;have hkl:known.length=s:=R.kn.1;refine gY2 (mE.of z1) ?_;refine (l5 rfl (l5 rfl (l5 rfl (ex8 p ka na known yE n wi c ⟨rfl,z2,z3,z4,#[O],uU,hn,#[O],hp,R.nz,R.dg,R.rg,fun fl vs e H9 xA s9 h9 uM hL=>?_⟩))));have Ew:=znH hp (m:=p.toNat) #[O] R.rg hL;have wL:=uM.length;have CL:(nxs p n e wi c known (nums p n e c p.toNat)).length=(nums p n e c p.toNat).length:=by unfold nxs; rw [ab]
    have rN:=mH.length;have Dl:(i+1)*n≤2000000:=by
     have h1:(i+1)*n≤n ^ (s+1):=by rw [kE]; exact fP n (by have:=wW.len; lia)
     exact aT h1 mS
    rw [fu] at Dl;refine⟨fl,rfl,⟨_,me.of h9⟩,zek (n:=vs.length) (fun r ys H'=>H'=H9∧ys=(us++vs.take r).map V.ref) ⟨rfl,by rw [dW,bI]⟩ ?_ ?_ ?_ ?_⟩
    ·rintro r ys Ha m8 ⟨rfl,_⟩;exact⟨_,.ref vs[r],me.of h9,by rw [af,aj m8]; rfl⟩
    ·rintro ys Ha ⟨rfl,_⟩;exact⟨_,me.of h9,by rw [ab]; exact ag _⟩
    ·rintro r y2 ys Ha Hb m8 ⟨rfl,rfl⟩ ⟨rfl,Ef⟩;obtain⟨v,rfl,hv⟩:=zQ (Ef _ (me.of h9));refine gY (l5 rfl ⟨by rw [ab,aq,aI]; lia,rfl,?_⟩);rw [take_snoc hv,← bD,am (l₁:=us++vs.take r)];rfl
    rintro ys Ha ⟨rfl,rfl⟩;rw [ci];have BP:known∉(qI.take i).map (·.1):=fun hm=>by
     obtain⟨s',nT,e0⟩:=az.mp hm;obtain⟨i',nH⟩:=dN nT;rw [kH] at nH;split at nH
     ·next mM =>
      have h1:(qI.map (·.1))[i']? = some s'.1:=by rw [af,nH]; rfl
      have h2:(qI.map (·.1))[i]? = some known:=by rw [af,nS]; rfl
      have:=(List.getElem?_inj (j:=i) (au.mp h1).1 wW.nd).mp (by rw [h1,h2,e0]);lia
     ·cases nH
    have Af:=zjC (fun b=>(wi - e+(n - 1),zfX p b n e c)) oX xZ BP (zfG p n e c p.toNat);refine⟨us++vs,out++nxs p n e wi c known (nums p n e c p.toNat),rfl,s7.trans s9,zdm (mH.same s9) uM,fun st nT=>?_,Af.1,?_,?_,fun f hf hz ht=>?_⟩
    ·rcases aY.mp nT with h | h
     ·exact GH st h
     ·obtain⟨b,GI,rfl⟩:=az.mp h;have hbr:=(zdV.mp GI).1;refine⟨zo6 hp R hL ⟨hbr.1,#[O]⟩,?_⟩;show wi - e+(n - 1)≤wd rows+(s+1)*n;rw [fu];lia
    ·rw [take_snoc nS,am];exact Af.2
    ·rw [aq,CL,fu];lia
    ·rw [take_snoc nS,am,aY] at ht;rw [am,aY];rcases ht with ht | ht
     ·exact .inl (Ex f hf hz ht)
     ·right;have vN:known=f.take s:=(aW.mp ht).symm;obtain⟨m,em⟩:∃ m,k=s+(m+1):=⟨k - s - 1,#[O]⟩;have uF:=zo7 (m:=m+1) R (by rw [hf.1,em]) vN (by rw [← em]; exact hz);have A9:=zqM hL uF;have hfs:s < f.length:=by rw [hf.1]; exact hsk
      have hfg:=za7 hfs;obtain⟨b0,b1⟩:=hf.2 _ (aA hfg);refine az.mpr ⟨_,az.mpr ⟨gl f s,zdV.mpr ⟨⟨b0,#[O]⟩,?_⟩,rfl⟩,?_⟩
      ·exact Cg.eq (znG.trans A9) (zbL p0 _) (zbM p0 _) (bS 0) p0
      ·show known++[gl f s]=f.take (s+1);rw [take_snoc hfg,vN]
   ·rintro ys H7 ⟨us,out,rfl,s7,mH,GH,oX,xZ,hol,Ex⟩ D hD;rw [sU,ci] at Ex;refine (ex4 D us out _ ⟨rfl,(s6.trans s7).trans (zb hD),zc,mH.same (zb hD),GH,oX,zqT wW.len (by rw [← sU]; exact hol),fun f hf hz=>Ex f hf hz (wW.all f hf hz)⟩)
  ·rintro σ H6 ⟨sa,bs,qI,e5,rfl,s6,vY,Dk,wW⟩;have ek:((k:Nat):Int).toNat=k:=by lia
   rw [ek] at wW;have sU:=Dk.length;have GJ:=aT wW.len Bo;obtain⟨n',rfl⟩:∃ n',n=n'+1:=⟨n - 1,#[O]⟩;have hzero:∀ st∈qI,(Zr p (AL k (gl st.1) (n'+1) fun j i=>gl (rows.getD j []) i % p)↔((av st.2.1).map fun i=>st.2.2 0 i).any (· != 0)=false):=fun st nS=>by
    rw [zqN hp (wW.rs st nS).1,List.any_map];constructor
    ·intro h;rw [kQ];intro i hi;simpa using h i (aZ.mp hi)
    ·intro h i hi;have:=kQ.mp h i (aZ.mpr hi);simpa using this
   refine (l5 rfl ⟨sa,rfl,⟨_,me.of vY⟩,zV (n:=bs.length) (fun m ys H'=>H'=H6∧∃ ps:List (Addr×List Int),ys=ps.map (fun q=>V.ref q.1)∧(∀ q∈ps,H6 q.1=some (.tup (q.2.map V.int)))∧ps.map (·.2)=((qI.take m).filter fun st=>!((av st.2.1).map fun i=>st.2.2 0 i).any (· != 0)).map (·.1)) ⟨rfl,[],rfl,fun q h=>(by cases h),rfl⟩ ?_ ?_ ?_ ?_⟩)
   ·rintro m ys H7 hm ⟨rfl,_⟩;exact⟨_,.ref bs[m],me.of vY,by rw [af,aj hm]; rfl⟩
   ·rintro ys H7 ⟨rfl,_⟩;exact⟨_,me.of vY,by rw [ab]; exact ag _⟩
   ·rintro m y ys H7 H8 hm ⟨rfl,ps,rfl,mS,Ag⟩ ⟨rfl,hy⟩;obtain⟨sb,rfl,n6⟩:=zQ (hy _ (me.of vY));obtain⟨⟨known,wi,c⟩,nS,ka,na,yE,z1,z2,z3,z4⟩:=Paired.get Dk n6;dsimp only at z2 z4;have vG:=z4.length;rw [zaU] at vG;have Ey:yE[0]? = some (yE[0]'#[O]):=aj _;obtain⟨r,m8,GL⟩:=Paired.get z4 Ey;rw [zat #[O]] at m8;cases m8;refine⟨sb,_,rfl,mE.of z1,rfl,_,_,rfl,_,_,rfl,rfl,?_⟩;refine (l5 rfl (ex4 na _ _ _ ⟨rfl,rfl,me.of z3,zal (j:=0) (by rw [af,Ey]; rfl),_,_,rfl,me.of GL,(l5 rfl ?_)⟩));have n5:ps.length≤m:=by
     have:=congrArg fk Ag;rw [ab,ab] at this;rw [this];exact aT (cg _ _) (by rw [aI]; lia)
    have vU:(qI.take (m+1)).filter (fun st=>!((av st.2.1).map fun i=>st.2.2 0 i).any (· != 0))=(qI.take m).filter (fun st=>!((av st.2.1).map fun i=>st.2.2 0 i).any (· != 0))++[(known,wi,c)].filter (fun st=>!((av st.2.1).map fun i=>st.2.2 0 i).any (· != 0)):=by rw [take_snoc nS,cn]
    refine zaM (fun h=>(l5 rfl ⟨by rw [ab]; lia,rfl,ps++[(ka,known)],by rw [am]; rfl,fun q hq=>?_,?_⟩)) (fun h=>⟨rfl,ps,rfl,mS,?_⟩)
    ·rcases (aY.mp hq) with hq | hq
     ·exact mS q hq
     ·(rw [aW.mp hq])
      exact z2
    ·rw [vU,db (p:=fun st:List Int×Nat×(Nat→Nat→Int)=>!((av st.2.1).map fun i=>st.2.2 0 i).any (· != 0)) h,am,am,Ag];rfl
    ·rw [vU,de (p:=fun st:List Int×Nat×(Nat→Nat→Int)=>!((av st.2.1).map fun i=>st.2.2 0 i).any (· != 0)) h,fh,bI];exact Ag
   rintro ys H7 D ⟨rfl,ps,rfl,mS,Ag⟩ hD;rw [sU,ci] at Ag;have u7:=zb (o:=.lst (ps.map fun q=>V.ref q.1)) hD;have oE:∀ x,x∈ps.map (·.2)↔IsP p k x∧Zr p (AL k (gl x) (n'+1) fun j i=>gl (rows.getD j []) i % p):=fun x=>by
    rw [Ag];constructor
    ·intro h;obtain⟨st,nS,rfl⟩:=az.mp h;obtain⟨h1,h2⟩:=bv.mp nS;exact⟨(wW.rs st h1).1.kn,(hzero st h1).mpr (by simpa using h2)⟩
    ·rintro⟨h1,h2⟩;have h3:=wW.all x h1 h2;rw [aJ (by rw [h1.1]; exact ag _)] at h3;obtain⟨st,nS,rfl⟩:=az.mp h3;exact az.mpr ⟨st,bv.mpr ⟨nS,by rw [(hzero st nS).mp h2]; rfl⟩,rfl⟩
   have hNd:(ps.map (·.2)).Nodup:=by
    rw [Ag];exact (fX.map _).nodup wW.nd
   refine (ex4 D k p ps ⟨rfl,me.of zc,fun q hq=>?_,k1,#[O],fun l9 pj hl9 pL hpw=>?_⟩)
   ·have hm:=(oE q.2).mp (az.mpr ⟨q,hq,rfl⟩);exact⟨u7 _ _ (mS q hq),hm.1.1,hm.1.2⟩
   have u9:=zb (o:=.lst (pj.map fun q=>V.ref q.1)) hl9;have s07:=s6.trans u7;have tw:=pL.map (·.2);refine q l9 (pj.map (·.1)) (pj.map (·.2)) _ (s07.free hl9) (s07.trans u9) (by rw [zc,bH]; rfl) (zbB.of fun q hq=>u9 _ _ (u7 _ _ (mS q (pL.mem_iff.mp hq)))) (by
    rw [tw.length_eq,Ag,ab];exact aT (cg _ _) GJ) (zkq #[O] (fun x hx=>((oE x).mp (tw.mem_iff.mp hx)).1) (tw.nodup_iff.mpr hNd) (cj.mpr hpw)) fun x=>?_
   rw [tw.mem_iff,oE x,en];have hc:∀ i,Cg p (AL k (gl x) (n'+1) (fun j i=>gl (rows.getD j []) i % p) i) (AL k (gl x) (n'+1) (fun j i=>gl (rows.getD j []) i) i):=fun i=>zpN (fun j i _=>Cg.emod p _) i
   rw [zpO hc]
end
section
variable {P:Program} {w:World} {K:ah} {mg:Str→Option Value} {base:Heap} {t:Adr}
theorem zjF:FnScope ["p","vector","times","other"] ["p","vector","times","other"] (zh zck):=#[S]
theorem zjG {fd:FuncData} (T:Txt K mg t) (F:Fun K "without" "without" zck t.without fd):FnOk P w K mg base CX0 1 t.without fd ["p","vector","times","other"] (zjs K):=by
 refine F.ok zjF (fun vs H Q E h=>?_) (fun mQ A outer s H vs Q E hr h=>?_)
 ·obtain⟨p,tm,a,b,as,bs,rfl,_⟩:=h;rfl
 ·obtain⟨p,tm,a,b,as,bs,rfl,ha,hb,hl,hn,p0,t0,t1,q⟩:=h;apply zaF; intro zX;refine⟨_,#[zl,#[zC,#[zO,(CompSc.of (N':=["number","less","times","p"]) (ix:=[none,none,some 2,some 0]) (zh zck) ["p","vector","times","other"] rfl rfl #[N]),#[zaL,#[zy,#[zy,#[zar]]]],#[zdE,T.zip_,#[za,#[pvx,1],#[ya,#[pvx,3]]]],(fun _ _ _ _=>#[zaf,(K),2,#[zj,#[zg,0,(nd_ ["number","less","times","p"]),#[A]],#[zj,#[zg,1,(nd_ ["number","less","times","p"]),#[A]],#[zG]]]]),(fun _ _ _ _=>#[zz]),(fun _ _ _ _=>#[zi,#[zI],#[zi,#[zap],#[pvx,0],#[zi,#[zU],#[pvx,2],#[pvx,1]]],#[pvx,3]])]]],?_⟩;have pf:=bf;refine (l5 rfl (l5 rfl (ex4 a b _ _ ⟨rfl,me.of ha,me.of hb,zd5 (n:=as.length) (f:=fun x y=>(x - tm*y) % p) ha hb (ag _) #[O] (.inl (ag _)) #[O] ?_ ?_⟩)))
  ·intro j u w H6 T R B hu hv s6 hT hR;refine gY2 (mE.of zc) ?_;exact (l5 rfl (l5 rfl (l5 rfl (mv rfl rfl ⟨.inl ⟨#[O],#[O]⟩,(mv rfl rfl (l5 rfl (mv rfl rfl ⟨p0,hR⟩)))⟩))))
  ·intro D H6 s6 hD;exact q D _ (s6.free hD) (s6.trans (zb hD)) zc
def zdx (K:ah):Sp:=fun vs H Q _=>∃ (p:Int) (a:Addr) (ls:List Addr) (vv:List (List Int)) (L:Nat),vs = [.int p,.ref a]∧H a=some (.lst (ls.map V.ref))∧LsA H ls vv∧vv≠[]∧vv.length≤200∧L≤800∧(∀ v∈vv,v.length=L∧∀ c∈v,0≤c∧c < p)∧p∈zr ∧
 (∀ H',zu H H'→Indep p L vv→Q .non H')∧(∀ (l:Addr) (c:List Int) (m:Nat) (H':Hp),H l=none→zu H H'→H' l=some (.lst (c.map V.int))→IsP p (m+1) c→m < vv.length→gl c m=1→Dep p L vv c→zoW p L m vv→Q (.ref l) H')
theorem zJ:FnScope ["p","vectors","length","cleared","count","vector","whole","lead","other","leads","factor"] ["p","vectors"] (zh zao):=#[S]
theorem zdY {fd:FuncData} (T:Txt K mg t) (F:Fun K "first_relation" "first_relation" zao t.first_relation fd):FnOk P w K mg base CX0 2 t.first_relation fd ["p","vectors"] (zdx K):=by
 obtain⟨va,sH,p8⟩:=T.f_without;have wj:=zjG (P:=P) (w:=w) (base:=base) T sH;obtain⟨qU,nY,nZ⟩:=T.f_inverse;have p6:=zfD (P:=P) (w:=w) (base:=base) T nY;refine F.ok zJ (fun vs H Q E h=>?_) (fun mQ A outer s H vs Q E hr h=>?_)
 ·obtain⟨p,a,ls,vv,L,rfl,_⟩:=h;rfl
 ·obtain⟨p,a,ls,vv,L,rfl,ha,nc,mV,hN,hL,hvv,hp,qn,qs⟩:=h;apply zaF; intro zX;refine⟨_,#[ze,#[zm,2,zJ.nd,#[A],#[zo,#[zq],T.len_,bP,#[ya,#[zK,#[zB],#[pvx,1],#[zf]]]]],#[ze,#[zm,3,zJ.nd,#[A],#[z0,#[zd]]],#[ze,#[zaD,bq,#[zcN,T.enumerate_,#[ya,#[pvx,1]]],#[zbf,#[zj,#[zg,4,zJ.nd,#[A]],#[zj,#[zg,5,zJ.nd,#[A]],#[zG]]]],#[ze,#[zm,6,zJ.nd,(cB rfl),#[zi,#[zb4],#[pvx,5],#[zi,#[zcs],#[z0,#[ya,#[zf]]],#[zo,#[zq],T.len_,bP,#[ya,#[pvx,1]]]]]],#[ze,#[zbp,#[zf],#[zgI,#[pvx,6],#[zi,#[zH],#[pvx,2],#[pvx,4]],set_list]],#[ze,#[zaD,bq,#[zY,#[pvx,3]],#[zbf,#[zj,#[zg,7,zJ.nd,#[A]],#[zj,#[zg,8,zJ.nd,#[A]],#[zG]]]],#[zl,#[zm,6,zJ.nd,(cB rfl),#[zp,wj,(hr.mono #[D]),T.m_without,sH.kp,p8,#[zN],#[za,#[pvx,0],by exact #[za,#[pvx,6],#[za,#[zK,#[zB],#[pvx,6],#[pvx,7]],#[ya,#[pvx,8]]]]]]]]],#[ze,#[zaO,9,zJ.nd,#[A],(CompSc.of (N':=["at","whole"]) (ix:=[none,some 6]) (zh zao) ["p","vectors","length","cleared","count","vector","whole","lead","other","leads","factor"] rfl rfl #[N]),#[zae],#[z9,T.range_,#[ya,#[pvx,2]]],(fun _ _ _ _=>#[zg,0,(nd_ ["at","whole"]),#[A]]),(fun _ _ _ _=>#[zaJ,#[zL,#[zpt],#[zK,#[zaQ,(K)],#[pvx,1],#[pvx,0]],#[zf],(zZ _)]]),(fun _ _ _ _=>#[pvx,0])],#[ze,#[zbm,#[zi1,#[zhI,#[pvx,9],(fun _=>rfl)]],#[zl,#[zC,#[zby,zcq,#[pvx,6],#[zbJ,#[pvx,2]],#[zbJ,#[zi,#[zH],#[zi,#[zH],#[pvx,2],#[pvx,4]],#[zf]]]]]],#[zaw]],#[ze,#[zm,10,zJ.nd,(cB rfl),#[zp,p6,(hr.mono #[D]),T.m_inverse,nY.kp,nZ,#[zN],#[za,#[pvx,0],#[ya,#[zK,#[zB],#[pvx,6],#[zK,#[zB],#[pvx,9],#[zf]]]]]]],#[zl,#[zdy,#[zhL,dS,eS,eU,#[zc0],#[pvx,3],#[ya,#[za0,#[za,#[zK,#[zB],#[pvx,9],#[zf]],#[ya,#[zO,(CompSc.of (N':=["number","factor","p"]) (ix:=[none,some 10,some 0]) (zh zao) ["p","vectors","length","cleared","count","vector","whole","lead","other","leads","factor"] rfl rfl #[N]),#[zae],#[zY,#[pvx,6]],(fun _ _ _ _=>#[zg,0,(nd_ ["number","factor","p"]),#[A]]),(fun _ _ _ _=>#[zz]),(fun _ _ _ _=>#[zi,#[zI],#[zi,#[zU],#[pvx,0],#[pvx,1]],#[pvx,2]])]]]]]]]]]]]]]]],#[zl,#[zC,#[zd1]]]]]],?_⟩;apply zja; intro uL pZ oS;have pf:=bf;have rp:=zw hp;have p0:0 < p:=by lia
  have vG:=nc.length;have hN0:0 < vv.length:=fY.mpr mV;obtain⟨l0,hl0⟩:∃ l0,ls[0]? = some l0:=⟨ls[0]'#[O],#[M]⟩;obtain⟨v0,hv0,GN⟩:=Paired.get nc hl0;have GO:=(hvv v0 (aA hv0)).1;refine (l5 rfl (ex4 a _ _ (.ref l0) ⟨rfl,rfl,me.of ha,zal (j:=0) (by rw [af,hl0]; rfl),l0,(l5 rfl ⟨.inl (me.of GN),?_⟩)⟩));rw [ab,GO];refine⟨by show 0≤sizeLine; lia,fun ca Bp=>?_⟩;have u1:=zb (o:=.lst []) Bp;refine⟨_,rfl,a,_,rfl,me.of (u1 _ _ ha),zeF (n:=vv.length) (fun i σ H'=>∃ (cs:List Addr) (cl:List (Nat×List Int)) (e4 e5 e6 e7 e8 e9 x9:Option V),σ = [some (.int p),some (.ref a),some (.int (L:Int)),some (.ref ca),e4,e5,e6,e7,e8,e9,x9]∧zu H H'∧H' ca=some (.lst (cs.map V.ref))∧ClA ca H' cs cl∧Ech p L vv.length i vv cl)
   ⟨[],[],none,none,none,none,none,none,none,rfl,u1,zc,.nil,Ech.start p L vv.length vv⟩ ?_ ?_ ?_ ?_⟩
  ·rintro i σ H1 hi ⟨cs,cl,e4,e5,e6,e7,e8,e9,x9,rfl,s1,_⟩;exact⟨_,.ref (ls[i]'#[O]),me.of (s1 _ _ ha),by rw [af,aj #[O]]; rfl⟩
  ·rintro σ H1 ⟨cs,cl,e4,e5,e6,e7,e8,e9,x9,rfl,s1,_⟩;exact⟨_,me.of (s1 _ _ ha),by rw [ab]; lia⟩
  ·rintro zD zT i x σ H1 H2 hi ⟨cs,cl,e4,e5,e6,e7,e8,e9,x9,rfl,s1,tf,uE,E⟩ ⟨T,v,hT,rfl,rfl,hv⟩;obtain⟨lv,rfl,hlv⟩:=zQ (hv _ (me.of (s1 _ _ ha)));obtain⟨vec,Dm,hva⟩:=Paired.get nc hlv;obtain⟨wL,hvr⟩:=hvv vec (aA Dm);have t2:=zb (o:=.tup [.int (i:Int),.ref lv]) hT;refine⟨T,_,rfl,mE.of zc,rfl,_,_,rfl,_,_,rfl,rfl,?_⟩;have s2:=s1.trans t2;have GP:=t2 _ _ tf;have Bq:=uE.same t2;generalize mh H1 T (.tup [.int (i:Int),.ref lv])=H2 at t2 s2 GP Bq ⊢;refine (l5 rfl ⟨by show 1≤sizeLine; lia,fun z hz=>(l5 rfl ⟨a,(l5 rfl ⟨.inl (me.of ((s2.trans (zb hz)) _ _ ha)),z,_,[.int 0],rfl,rfl,zc,by rw [ab]; lia,by rw [ab]; lia,by rw [ab]; show 1*_≤sizeLine; lia,fun y hy=>?_⟩)⟩)⟩);rw [ab,zh1,vG,bC];have t3:=(zb (o:=.lst [.int 0]) hz).trans (zb (o:=.lst ((ap vv.length (0:Int)).map V.int)) hy);have h3y:mh (mh H2 z (.lst [.int 0])) y (.lst ((ap vv.length (0:Int)).map V.int)) y=some (.lst ((ap vv.length (0:Int)).map V.int)):=zc;generalize mh (mh H2 z (.lst [.int 0])) y (.lst ((ap vv.length (0:Int)).map V.int))=H3 at t3 h3y ⊢;refine (ex4 lv y _ _ ⟨rfl,rfl,(s2.trans t3) _ _ hva,h3y,by rw [ab,ab,aU]; lia,fun wl As=>?_⟩);rw [← am];have t4:=zb (o:=.lst ((vec++ap vv.length (0:Int)).map V.int)) As;refine (l5 rfl (l5 rfl (l5 rfl (mv rfl rfl (ex4 wl _ _ (L+i) ⟨rfl,rfl,zc,?_,?_⟩)))))
   ·rw [← gc];exact zgU (by rw [ab,aq,aU]; lia)
   have ew:((vec++ap vv.length (0:Int)).map V.int).set (L+i) (.int 1)=((vec++ap vv.length (0:Int)).set (L+i) 1).map V.int:=by rw [je]
   rw [ew,zn5];have t4:=t3.trans (zb (o:=.lst (((vec++ap vv.length (0:Int)).set (L+i) 1).map V.int)) As);have GQ:mh H3 wl (.lst (((vec++ap vv.length (0:Int)).set (L+i) 1).map V.int)) wl=some (.lst (((vec++ap vv.length (0:Int)).set (L+i) 1).map V.int)):=zc;have W0:=ziv hp (N:=vv.length) hi Dm wL hvr;have hwc:wl≠ca:=fun e=>by
    have:=t3 _ _ GP;rw [← e,As] at this;cases this
   generalize mh H3 wl (.lst (((vec++ap vv.length (0:Int)).set (L+i) 1).map V.int))=H4 at t4 GQ ⊢;generalize (vec++ap vv.length (0:Int)).set (L+i) 1=w0 at W0 GQ ⊢;have s4:=s2.trans t4;have Ez:=t4 _ _ GP;have Br:=Bq.same t4;have Dp:=Br.length;refine⟨_,rfl,ca,rfl,⟨_,me.of Ez⟩,zbq (K:=K) (a:=ca) (xs:=cs.map V.ref) (fun j σ H'=>∃ (wa:Addr) (w:List Int) (e7 e8:Option V),σ = [some (.int p),some (.ref a),some (.int (L:Int)),some (.ref ca),some (.int (i:Int)),some (.ref lv),some (.ref wa),e7,e8,e9,x9]∧zu H4 H'∧H' wa=some (.lst (w.map V.int))∧wa≠ca∧Wh p L vv.length i vv (cl.take j) w)
    ⟨wl,w0,_,_,rfl,fun _ _ e=>e,GQ,hwc,W0⟩ (fun j σ H' _ ⟨_,_,_,_,_,s5,_⟩=>me.of (s5 _ _ Ez)) ?_ ?_⟩
   ·rintro zD zT j y σ H5 hy ⟨wa,w,e7,e8,rfl,s5,Dq,hwa,W⟩;obtain⟨b,rfl,hb⟩:=zQ hy;obtain⟨aa,haa,oa,sR,uJ,yY⟩:=Paired.get Br hb;obtain⟨o1,o2,o3,_⟩:=E.one j aa haa;refine⟨b,_,rfl,mE.of (s5 _ _ sR),rfl,_,_,rfl,_,_,rfl,rfl,?_⟩;have hg:=zjr p0 W.rg aa.1;refine (l5 rfl (l5 rfl (l5 rfl (l5 rfl (ex4 wa _ _ (.int (gl w aa.1)) ⟨rfl,rfl,me.of Dq,zal (by rw [af,za7 (by rw [W.ln]; lia)]; rfl),(l5 rfl (ex6 p (gl w aa.1) wa oa w aa.2 ⟨rfl,Dq,s5 _ _ uJ,by rw [W.ln,o2],by rw [W.ln]; lia,p0,hg.1,#[O],fun l H6 hl s6 De=>?_⟩))⟩)))));refine (ex4 l _ _ _ ⟨rfl,s5.trans s6,De,fun e=>?_,zku hp E hi haa W⟩);have:=s5 _ _ Ez;rw [← e,hl] at this;cases this
   ·rintro σ H5 ⟨wa,w,e7,e8,rfl,s5,Dq,hwa,W⟩;rw [ab,Dp,ci] at W;have h5c:=s5 _ _ Ez;have GR:=Br.same s5;have s15:=s4.trans s5;refine (l5 rfl (l5 rfl ⟨#[O],#[O],?_⟩));rw [bC];refine zV (n:=L) (fun j ys H'=>H'=H5∧ys=(((av j).filter fun m=>decide (gl w m≠0)).map fun m:Nat=>(m:Int)).map V.int) ⟨rfl,rfl⟩ (fun j ys H' hj _=>hj) (fun ys H' _=>ag _) ?_ ?_
    ·rintro j xx ys H6 H7 hj ⟨rfl,rfl⟩ ⟨rfl,rfl⟩;have hgj:(w.map V.int)[j]? = some (.int (gl w j)):=by rw [af,za7 (by rw [W.ln]; lia)]; rfl
     refine (l5 rfl (l5 rfl (ex4 wa _ _ (.int (gl w j)) ⟨rfl,rfl,me.of Dq,by rw [cq]; exact zal hgj,rfl,(l5 rfl ?_)⟩)));have xA:=cg (fun m=>decide (gl w m≠0)) (av j);rw [aL] at xA;rw [bX,cn,am,am];by_cases h0:gl w j=0
     ·refine zaM (fun h=>absurd h (by rw [h0]; simp)) (fun _=>⟨rfl,?_⟩);rw [de (by simpa using h0),fh,ft,ft,bI]
     ·refine zaM (fun _=>(l5 rfl ⟨zad (by rw [ab,ab]; lia),rfl,?_⟩)) (fun h=>absurd (by simpa using h0) h);rw [db (by simpa using h0),fh,cq];rfl
    ·rintro ys H6 D ⟨rfl,rfl⟩ hD;have t7:=zb (o:=.lst ((((av L).filter fun m=>decide (gl w m≠0)).map fun m:Nat=>(m:Int)).map V.int)) hD;have yw:mh H6 D (.lst ((((av L).filter fun m=>decide (gl w m≠0)).map fun m:Nat=>(m:Int)).map V.int)) D=_:=zc;generalize mh H6 D (.lst ((((av L).filter fun m=>decide (gl w m≠0)).map fun m:Nat=>(m:Int)).map V.int))=H7 at t7 yw ⊢;have s7:=s15.trans t7;have EA:=t7 _ _ Dq;have Dd:=t7 _ _ h5c;have GU:=GR.same t7;refine (l5 rfl ⟨_,.inl ⟨_,me.of yw,rfl⟩,?_⟩);cases Bs:(av L).filter fun m=>decide (gl w m≠0) with
     | nil =>
      refine zaM (fun _=>?_) (fun h=>absurd rfl h);have hz:∀ x,x < L→gl w x=0:=fun x hx=>by
       have:=jD.mp Bs x (aZ.mpr hx);simpa using this
      refine (l5 rfl (l5 rfl (l5 rfl (l5 rfl (l5 rfl (mv rfl rfl (mv rfl rfl (l5 rfl ⟨wa,(l5 rfl ⟨me.of EA,fun l hl=>?_⟩)⟩))))))));have ec:zcK (w.map V.int) (some (L:Int)) (some ((L:Int)+(i:Int)+1))=((w.drop L).take (i+1)).map V.int:=by
       rw [show (L:Int)+(i:Int)+1=((L+i+1:Nat):Int) by lia,zoO (by rw [ab,W.ln]; lia),← iJ,← fR,show L+i+1 - L=i+1 by lia]
      rw [ec];obtain⟨d1,d2,d3⟩:=zm2 W hi hz;exact qs l _ i _ (s7.free hl) (s7.trans (zb hl)) zc d1 hi d2 d3 (zoX (ge hi) E)
     | cons ld lds =>
      refine zaM (fun h=>absurd h #[M]) (fun _=>?_);have hm:ld∈(av L).filter fun m=>decide (gl w m≠0):=by rw [Bs]; exact aN
      (obtain⟨wR,uI⟩:=bv.mp hm)
      have Ei:ld < L:=aZ.mp wR;have Er:gl w ld≠0:=by simpa using uI
      obtain⟨g0,g1⟩:=zjr p0 W.rg ld;rw [Bs] at yw;have yD:atI ((((ld :: lds).map fun m:Nat=>(m:Int))).map V.int) 0=some (.int (ld:Int)):=zal (j:=0) rfl;refine (l5 rfl (l5 rfl (l5 rfl (ex4 D _ _ (.int (ld:Int)) ⟨rfl,rfl,me.of yw,yD,wa,_,_,.int (gl w ld),rfl,rfl,me.of EA,zal (by rw [af,za7 (by rw [W.ln]; lia)]; rfl),p,gl w ld,rfl,hp,g0,g1,?_⟩))));refine (l5 rfl ⟨.inl ⟨rfl,_,me.of Dd⟩,(l5 rfl (ex4 D _ _ (.int (ld:Int)) ⟨rfl,rfl,me.of yw,yD,(l5 rfl ⟨wa,rfl,⟨_,me.of EA⟩,zce (fs:=(w.map fun x=>x*inv p (gl w ld) % p).map V.int) (me.of EA) (by rw [ab,ab,ab]) (by rw [ab,W.ln]; lia) ?_ ?_⟩)⟩))⟩)
      ·intro j x y R B hx hy hR;obtain⟨n,rfl,hn⟩:=zaj hx;obtain⟨n',rfl,yc⟩:=zaj hy;rw [af,hn] at yc;cases yc;have hnr:=W.rg n (aA hn);exact gY (l5 rfl (l5 rfl (mv rfl rfl ⟨.inl ⟨#[O],#[O]⟩,(l5 rfl (mv rfl rfl ⟨p0,hR⟩))⟩)))
      ·intro D2 rO;have t8:=zb (o:=.lst ((w.map fun x=>x*inv p (gl w ld) % p).map V.int)) rO;have h8D:mh H7 D2 (.lst ((w.map fun x=>x*inv p (gl w ld) % p).map V.int)) D2=some (.lst ((w.map fun x=>x*inv p (gl w ld) % p).map V.int)):=zc;have hDc:D2≠ca:=fun e=>by rw [e,Dd] at rO; cases rO
       generalize mh H7 D2 (.lst ((w.map fun x=>x*inv p (gl w ld) % p).map V.int))=H8 at t8 h8D ⊢;refine⟨by show 2≤sizeLine; lia,fun tb htb=>?_⟩;have t9:=zb (o:=.tup [.int (ld:Int),.ref D2]) htb;have EB:mh H8 tb (.tup [.int (ld:Int),.ref D2]) tb=some (.tup [.int (ld:Int),.ref D2]):=zc;have Bt:=t9 _ _ (t8 _ _ Dd);have s9:=(s7.trans t8).trans t9;have Dr:=(GU.same t8).same t9;have h9D:=t9 _ _ h8D;generalize mh H8 tb (.tup [.int (ld:Int),.ref D2])=H9 at t9 EB Bt s9 Dr h9D ⊢;have C4:=E.ln;refine (ex3 ca _ _ ⟨rfl,rfl,Bt,by rw [ab,Dp,C4]; lia,cs++[tb],_,_,_,_,_,_,_,_,rfl,zah s9 Bp,by rw [zc,am]; rfl,b8 (Dr.put Bt) ⟨D2,?_,?_,hDc⟩,ziw hp E hi W Ei Er⟩)
       ·rw [zn (fun e=>by rw [e,Bt] at EB; cases EB)];exact EB
       ·rw [zn hDc];exact h9D
  ·rintro σ H1 ⟨cs,cl,e4,e5,e6,e7,e8,e9,x9,rfl,s1,tf,uE,E⟩;exact qn H1 s1 (zm1 E)
end
section
variable {P:Program} {w:World} {K:ah} {mg:Str→Option Value} {base:Heap} {t:Adr}
theorem zcF:FnScope ["things","many","chosen","step"] ["things","many"] (zh zbO):=#[S]
theorem zjH {fd:FuncData} (T:Txt K mg t) (F:Fun K "choices" "choices" zbO t.choices fd):FnOk P w K mg base CX0 1 t.choices fd ["things","many"] (zjo K):=by
 refine F.ok zcF (fun vs H Q E h=>?_) (fun mQ A outer s H vs Q E hr h=>?_)
 ·obtain⟨a,m,xs,rfl,_⟩:=h;rfl
 ·obtain⟨a,m,xs,rfl,hS,hx,hm,q⟩:=h;apply zaF; intro zX;refine⟨_,#[ze,#[zm,2,zcF.nd,#[A],#[z0,#[ya,#[za0,#[za,#[zf],#[ya,#[z0,#[zd]]]]]]]],#[ze,#[zaD,bq,#[z9,T.range_,#[ya,#[pvx,1]]],#[zg,3,zcF.nd,#[A]],#[zl,#[zfn,2,zcF.nd,#[A],(CompSc.of (N':=["start","picked","at","things"]) (ix:=[none,none,none,some 0]) (zh zbO) ["things","many","chosen","step"] rfl rfl #[N]),(ze6 (js:=[0,1]) (zbg (js:=[0,1]) (i:=0) #[D] (zbg (js:=[0,1]) (i:=1) #[D] (zdD (js:=[0,1]))))),(zdC (js:=[2]) (i:=2) #[D]),#[zY,#[pvx,2]],(fun _ _ _ _=>#[zaf,(K),2,#[zj,#[zg,0,(nd_ ["start","picked","at","things"]),#[A]],#[zj,#[zg,1,(nd_ ["start","picked","at","things"]),#[A]],#[zG]]]]),(fun _ _ _ _=>#[zz]),(fun _ _ _ _=>(@zkW _ _ _ _ _ _ _ rfl T.range_ #[za,#[pvx,0],#[ya,#[zo,#[zaz,(K)],T.len_,bP,#[ya,#[pvx,3]]]]] (by rfl) (by rfl))),(fun _ _ _ _=>#[zg,2,(nd_ ["start","picked","at","things"]),#[A]]),(fun _ _ _ _=>#[zz]),(fun _ _ _ _=>#[za0,#[za,#[zi,#[zH],#[pvx,2],#[zf]],#[ya,#[zi,#[zb4],#[pvx,1],#[z0,#[ya,#[zK,#[zaQ,(K)],#[pvx,3],#[pvx,2]]]]]]]]),(by intros; rfl)]]],#[zl,#[zC,#[zO,(CompSc.of (N':=["start","picked"]) (ix:=[none,none]) (zh zbO) ["things","many","chosen","step"] rfl rfl #[N]),#[zaL,#[zy,#[zy,#[zar]]]],#[zY,#[pvx,2]],(fun _ _ _ _=>#[zaf,(K),2,#[zj,#[zg,0,(nd_ ["start","picked"]),#[A]],#[zj,#[zg,1,(nd_ ["start","picked"]),#[A]],#[zG]]]]),(fun _ _ _ _=>#[zz]),(fun _ _ _ _=>#[pvx,1])]]]]],?_⟩;apply ze5; intro pZ oS;have pf:=bf;refine⟨bm _,fun L0 hL0=>⟨by show 2≤sizeLine; lia,fun T0 hT0=>⟨by show 1≤sizeLine; lia,fun c hc=>?_⟩⟩⟩;have u0:=zb (o:=.lst []) hL0;have u1:=zb (o:=.tup [.int 0,.ref L0]) hT0;have u2:=zb (o:=.lst [.ref T0]) hc;have Ds:zfo (mh (mh (mh H L0 (.lst [])) T0 (.tup [.int 0,.ref L0])) c (.lst [.ref T0])) [T0] (chs xs 0):=.cons ⟨L0,u2 _ _ zc,(u1.trans u2) _ _ zc⟩ .nil;have Ej:mh (mh (mh H L0 (.lst [])) T0 (.tup [.int 0,.ref L0])) c (.lst [.ref T0]) c=some (.lst ([T0].map V.ref)):=zc;have s0:=(u0.trans u1).trans u2;generalize mh (mh (mh H L0 (.lst [])) T0 (.tup [.int 0,.ref L0])) c (.lst [.ref T0])=H0 at Ds Ej s0 ⊢;refine (l5 rfl (l5 rfl ⟨#[O],#[O],?_⟩));rw [bC];refine zaN (lo:=0) (n:=m) (fun i σ H'=>∃ (c:Addr) (ts:List Addr) (e3:Option V),σ = [some (.ref a),some (.int m),some (.ref c),e3]∧zu H H'∧H' c=some (.lst (ts.map V.ref))∧zfo H' ts (chs xs i)) (ex3 c ([T0]) none ⟨rfl,s0,Ej,Ds⟩) ?_ ?_
  ·rintro zD zT i σ H1 hi ⟨c,ts,e3,rfl,s1,tf,uB⟩;have uE:=uB.length;have CD:=zea (xs:=xs) (i+1) hx;have xA:((chs xs i).flatMap (nxt xs)).length≤65536:=CD;refine (l5 rfl ⟨c,rfl,⟨_,me.of tf⟩,zek (n:=ts.length) (fun i' ys H'=>∃ us:List Addr,ys=us.map V.ref∧zu H1 H'∧zfo H' us (((chs xs i).take i').flatMap (nxt xs))) ⟨[],rfl,fun _ _ e=>e,.nil⟩ ?_ ?_ ?_ ?_⟩)
   ·rintro i' ys H2 nH ⟨us,_,s2,_⟩;exact⟨_,.ref ts[i'],me.of (s2 _ _ tf),by rw [af,aj nH]; rfl⟩
   ·rintro ys H2 ⟨us,_,s2,_⟩;exact⟨_,me.of (s2 _ _ tf),by rw [ab]; exact ag _⟩
   ·rintro i' y ys H2 H3 nH ⟨us,rfl,s2,mH⟩ ⟨rfl,hy⟩;obtain⟨tt,rfl,B1⟩:=zQ (hy _ (me.of (s2 _ _ tf)));obtain⟨cc,ni,nJ⟩:=Paired.get uB B1;obtain⟨L,yi,BN⟩:=nJ.same s2;have hle:=zqx (aA ni);have n5:=zim (aA ni);obtain⟨st,pk⟩:=cc;dsimp only at yi BN hle n5;refine gY2 (mE.of yi) ?_;refine (l5 rfl (l5 rfl ⟨a,xs,rfl,.inl ((s1.trans s2).seq hS),_,_,rfl,⟨#[O],#[O],#[O],#[O]⟩,?_⟩));have en:((xs.length:Int) - (st:Int)).toNat=xs.length - st:=by lia
    rw [en];refine zek (n:=xs.length - st) (fun j ys H'=>∃ us:List Addr,ys=us.map V.ref∧zu H3 H'∧zfo H' us (((chs xs i).take i').flatMap (nxt xs)++(nxt xs (st,pk)).take j)) ⟨us,rfl,fun _ _ e=>e,by rw [dW,bI]; exact mH⟩ (fun j ys H' hj _=>hj) (fun ys H' _=>ag _) ?_ ?_
    ·rintro j z ys H4 H5 hj ⟨us,rfl,s4,mH⟩ ⟨rfl,rfl⟩;obtain⟨x,vD⟩:∃ x,xs[st+j]? = some x:=⟨xs[st+j]'#[O],#[M]⟩;have nJ:atI xs ((st:Int)+(j:Int))=some x:=by
      have e:((st+j:Nat):Int)=(st:Int)+j:=by lia
      rw [← e];exact zal vD
     have hng:=zoE (c:=(st,pk)) vD;have rN:=mH.length;have hpart:=zlu (f:=nxt xs) ni (show j < (nxt xs (st,pk)).length by rw [zg7]; exact hj);have Ew:=zg7 xs (st,pk);refine gY ?_;refine (l5 rfl (mv rfl rfl (l5 rfl (l5 rfl (l5 rfl (ex4 a xs _ x ⟨rfl,rfl,((s1.trans s2).trans s4).seq hS,nJ,by show 1≤sizeLine; lia,fun b hb=>?_⟩))))));have v1:=zb (o:=.lst [x]) hb;refine (ex4 L b pk ([x]) ⟨rfl,rfl,(s4.trans v1) _ _ BN,zc,by show pk.length+1≤sizeLine; lia,fun L2 Dt=>⟨by show 2≤sizeLine; lia,fun T2 Ac=>⟨?_,us++[T2],by rw [am]; rfl,?_,?_⟩⟩⟩)
     ·rw [ab,rN,aq,aI];lia
     ·exact s4.trans (v1.trans ((zb Dt).trans (zb Ac)))
     ·rw [take_snoc hng,← bD];refine b8 (mH.same (v1.trans ((zb Dt).trans (zb Ac)))) ⟨L2,?_,(zb Ac) _ _ zc⟩;rw [zc];show some (HO.tup [.int ((st:Int)+(j:Int)+1),.ref L2])=some (HO.tup [.int ((st+j+1:Nat):Int),.ref L2]);have e:((st+j+1:Nat):Int)=(st:Int)+j+1:=by lia
      rw [e]
    ·rintro ys H4 ⟨us,rfl,s4,mH⟩;rw [aJ (l:=nxt xs (st,pk)) (by rw [zg7]; exact ag _)] at mH;exact⟨us,rfl,s2.trans s4,by rw [zlv ni]; exact mH⟩
   ·rintro ys H2 ⟨us,rfl,s2,mH⟩ D hD;rw [uE,aJ (ag _)] at mH;exact (ex3 D us _ ⟨rfl,s1.trans (s2.trans (zb hD)),zc,mH.same (zb hD)⟩)
  ·rintro σ H1 ⟨c,ts,e3,rfl,s1,tf,uB⟩;have uE:=uB.length;have CD:=zea (xs:=xs) m hx;refine (l5 rfl ⟨c,rfl,⟨_,me.of tf⟩,zV (n:=ts.length) (fun i ys H'=>H'=H1∧∃ us:List Addr,ys=us.map V.ref∧zin H1 us (((chs xs m).map (·.2)).take i)) ⟨rfl,[],rfl,.nil⟩ ?_ ?_ ?_ ?_⟩)
   ·rintro i ys H2 hi ⟨rfl,_⟩;exact⟨_,.ref ts[i],me.of tf,by rw [af,aj hi]; rfl⟩
   ·rintro ys H2 ⟨rfl,_⟩;exact⟨_,me.of tf,by rw [ab]; exact ag _⟩
   ·rintro i y ys H2 H3 hi ⟨rfl,us,rfl,mH⟩ ⟨rfl,hy⟩;obtain⟨tt,rfl,B1⟩:=zQ (hy _ (me.of tf));obtain⟨cc,ni,L,yi,BN⟩:=Paired.get uB B1;have rN:=mH.length;refine gY2 (mE.of yi) ⟨_,rfl,?_,rfl,us++[L],by rw [am]; rfl,?_⟩
    ·rw [ab,rN,aI,ab];lia
    ·have GV:((chs xs m).map (·.2))[i]? = some cc.2:=by rw [af,ni]; rfl
     rw [take_snoc GV];exact b8 mH BN
   ·rintro ys H2 D ⟨rfl,us,rfl,mH⟩ hD;rw [aJ (by rw [ab,uE]; exact ag _)] at mH;exact q D us _ (s1.free hD) (s1.trans (zb hD)) zc (mH.same (zb hD))
theorem zeV:FnScope ["code","row","polynomial","p","k","places"] ["code","row","polynomial"] (zh zfB):=#[S]
theorem zpi {fd:FuncData} (T:Txt K mg t) (F:Fun K "fits" "fits" zfB t.fits fd):FnOk P w K mg base CX0 2 t.fits fd ["code","row","polynomial"] (zj5 K):=by
 obtain⟨oG,mL,mN⟩:=T.f_value_at;have m5:=zcY (P:=P) (w:=w) (base:=base) T mL;refine F.ok zeV (fun vs H Q E h=>?_) (fun mQ A outer s H vs Q E hr h=>?_)
 ·obtain⟨c,tt,ra,po,p,k,pl,mK,rw,rfl,_⟩:=h;rfl
 ·obtain⟨c,tt,ra,po,p,k,pl,mK,rw,rfl,hc,ue,oZ,Be,p0,p1,n5,hn,q⟩:=h;apply zaF; intro zX;refine⟨_,#[ze,#[zbp,#[pvx,0],#[zbf,#[zj,#[zg,3,zeV.nd,(cB rfl)],#[zj,#[zg,4,zeV.nd,#[A]],#[zj,#[zg,5,zeV.nd,#[A]],#[zG]]]]]],#[zl,#[zC,#[zO,(CompSc.of (N':=["at","place","entry","p","polynomial"]) (ix:=[none,none,none,some 3,some 2]) (zh zfB) ["code","row","polynomial","p","k","places"] rfl rfl #[N]),#[zaL,#[zy,(@zk3 _ _ _ #[zaL,#[zy,#[zy,#[zar]]]] #[zar] zjk)]],(@zjj _ _ _ _ _ _ _ _ _ _ _ rfl T.enumerate_ rfl T.zip_ #[za,#[pvx,5],#[ya,#[pvx,1]]] (by rfl) (by rfl) (by rfl)),(fun _ _ _ _=>#[zaf,(K),2,#[zj,#[zg,0,(nd_ ["at","place","entry","p","polynomial"]),#[A]],#[zj,#[zaf,(K),2,#[zj,#[zg,1,(nd_ ["at","place","entry","p","polynomial"]),#[A]],#[zj,#[zg,2,(nd_ ["at","place","entry","p","polynomial"]),#[A]],#[zG]]]],#[zG]]]]),(fun _ _ _ _=>#[zaJ,#[zL,#[zdh],#[pvx,2],#[zp,m5,(hr.mono #[D]),T.m_value_at,mL.kp,mN,#[zN],#[za,#[pvx,3],#[za,#[pvx,4],#[ya,#[pvx,1]]]]],(zZ _)]]),(fun _ _ _ _=>#[pvx,0])]]]],?_⟩;apply zi9; intro oS;refine⟨_,rfl,c,_,rfl,mE.of hc.1,rfl,_,_,rfl,_,_,rfl,_,_,rfl,rfl,?_⟩;refine (l5 rfl (l5 rfl (ex4 tt ra _ _ ⟨rfl,mE.of hc.2,me.of ue,zV (n:=pl.length) (fun i ys H'=>ys=(zdF p pl rw mK i).map V.int∧zu H H') ⟨rfl,fun _ _ e=>e⟩ ?_ ?_ ?_ ?_⟩)))
  ·rintro i ys H3 hi ⟨_,s3⟩;obtain⟨o,ho⟩:∃ o,rw[i]? = some o:=⟨rw[i]'#[O],#[M]⟩;exact⟨_,_,.int pl[i],pK o,mE.of (s3 _ _ hc.2),me.of (s3 _ _ ue),by rw [af,aj hi]; rfl,by rw [af,ho]; rfl⟩
  ·rintro ys H3 ⟨_,s3⟩;exact⟨_,_,mE.of (s3 _ _ hc.2),me.of (s3 _ _ ue),by rw [ab]⟩
  ·rintro i xx ys H3 H4 hi ⟨rfl,s3⟩ ⟨T1,T2,u,v,EC,Ac,mV,rfl,rfl,hu,hv⟩;obtain⟨x,rfl,hx⟩:=zaj (hu _ (mE.of (s3 _ _ hc.2)));obtain⟨o,rfl,ho⟩:=zgX (hv _ (me.of (s3 _ _ ue)));obtain⟨x0,x1⟩:=n5 x (aA hx);have s4:zu H3 (mh (mh H3 T1 (.tup [.int x,pK o])) T2 (.tup [.int i,.ref T1])):=zah (zb EC) Ac;refine⟨T2,_,rfl,mE.of zc,rfl,_,_,rfl,_,_,rfl,T1,_,rfl,mE.of (by rw [zn mV]; exact zc),rfl,_,_,rfl,_,_,rfl,rfl,rfl,?_⟩;refine (l5 rfl (l5 rfl (l5 rfl (l5 rfl (ex4 p x po mK ⟨rfl,.inr (mE.of ((s3.trans s4) _ _ Be)),p0,p1,x0,x1,zmu o _,(l5 rfl ?_)⟩)))));rw [zgp,zh8 hx ho,am];have mB:=zh6 p pl rw mK i;refine zaM (fun h1=>(l5 rfl ⟨zad (by rw [ab]; lia),?_,s3.trans s4⟩)) (fun h1=>⟨?_,s3.trans s4⟩)
   ·rw [if_pos h1];rfl
   ·rw [if_neg h1];simp
  ·rintro ys H3 D ⟨rfl,s3⟩ hD;exact q D _ (s3.free hD) (s3.trans (zb hD)) zc
theorem zpP {p:Int} {mi:List (Int×Int)} (hP:Pts p mi):mi.map (md p)=mi:=by
 refine (cr fun q hq=>?_).trans (ir _);obtain⟨_,_,h1,h2⟩:=hP.rg q hq;show (q.1,q.2 % p)=q;rw [cM h1 h2]
theorem zaG:FnScope ["code","points","p","k","places","found","picked"] ["code","points"] (zh za4):=#[S]
theorem zfH {fd:FuncData} (T:Txt K mg t) (F:Fun K "all_through" "all_through" za4 t.all_through fd):FnOk P w K mg base CX0 4 t.all_through fd ["code","points"] (zfq K):=by
 obtain⟨vc,sI,p9⟩:=T.f_choices;have wm:=zjH (P:=P) (w:=w) (base:=base) T sI;obtain⟨vd,sJ,qb⟩:=T.f_through;have wo:=zjB (P:=P) (w:=w) (base:=base) T sJ;refine F.ok zaG (fun vs H Q E h=>?_) (fun mQ A outer s H vs Q E hr h=>?_)
 ·obtain⟨c,tt,a,p,k,pl,bs,mi,rfl,_⟩:=h;rfl
 ·obtain⟨c,tt,a,p,k,pl,bs,mi,rfl,hc,hS,hB,hn,hp,hP,k0,k1,q⟩:=h;have hu:(A.deeper (envOfC (bK "all_through") (zh za4) s.heap.objs.size t.all_through mQ)).units+1 < cLine:=by have:=hr.units; lia
  apply zaF; intro zX;refine⟨_,#[ze,#[zbp,#[pvx,0],#[zbf,#[zj,#[zg,2,zaG.nd,#[A]],#[zj,#[zg,3,zaG.nd,#[A]],#[zj,#[zg,4,zaG.nd,#[A]],#[zG]]]]]],#[ze,#[zm,5,zaG.nd,#[A],(@zmE _ _)],#[ze,#[zaD,bq,#[zY,#[zp,wm,(hr.mono #[D]),T.m_choices,sI.kp,p9,#[zN],#[za,#[pvx,1],#[ya,#[pvx,3]]]]],#[zg,6,zaG.nd,#[A]],#[zl,(@zou _ _ _ _ _ _ _ _ _ hu #[pvx,5] #[zp,wo,(hr.mono #[D]),T.m_through,sJ.kp,qb,#[zN],#[za,#[pvx,2],#[ya,#[pvx,6]]]] #[zf6] rfl)]],#[zl,#[zC,#[zo,(@zg5 _ rfl),T.sorted_,boot_sorted,#[ya,#[pvx,5]]]]]]]],?_⟩;apply zja; intro uL pZ oS;have pf:=bf;have rp:=zw hp;obtain⟨zs,rfl,rfl,hz⟩:=hB.zs;rw [ab] at hn;refine⟨_,rfl,c,_,rfl,mE.of hc.1,rfl,_,_,rfl,_,_,rfl,_,_,rfl,rfl,fun D hD=>?_⟩;have s0:=zb (o:=.dT []) hD;have Du:mh H D (.dT []) D=some (.dT []):=zc;generalize mh H D (.dT [])=H0 at s0 Du ⊢;refine (l5 rfl (l5 rfl (ex3 a k _ ⟨rfl,s0.seq hS,by rw [ab,ab]; lia,#[O],fun l ls H1 hl s1 sS ED=>?_⟩)));have hlD:l≠D:=fun e=>by rw [e,Du] at hl; cases hl
  rw [bH,zgw (V.ref ∘ fun z:Addr×Int×Int=>z.1) zs k] at ED;have n5:=ED.length;rw [ab,ab] at n5;have CD:=zea (xs:=zs) k hn;obtain⟨B9,yF⟩:∃ B9,(chs zs k).map (·.2)=B9:=⟨_,rfl⟩;rw [yF] at ED;have GW:ls.length=B9.length:=by rw [n5,← yF,ab]
  have Dv:H1 D=some (.dT []):=s1 _ _ Du;have hid:=zh7 H1 D;refine⟨l,rfl,⟨_,me.of sS⟩,zbq (K:=K) (a:=l) (xs:=ls.map V.ref) (fun i σ H'=>∃ (mo:List (List Key×V)) (n8:List (List Int)) (e6:Option V),σ = [some (.ref c),some (.ref a),some (.int p),some (.int k),some (.ref tt),some (.ref D),e6] ∧
   zu (hide H1 D) H'∧H' D=some (.dT mo)∧KeysAre mo n8∧n8.Nodup∧n8.length≤i∧∀ x,x∈n8↔∃ zk∈B9.take i,x=thr p (zk.map (·.2)))
   ⟨[],[],none,rfl,hid,Dv,rfl,#[M],ag _,fun x=>by simp⟩ (fun i σ H' _ ⟨_,_,_,_,s3,_⟩=>me.of (s3 _ _ (zcw sS hlD))) ?_ ?_⟩
  ·rintro zD zT i y σ H2 hy ⟨mo,n8,e6,rfl,s2,GX,AY,oX,BZ,oE⟩;obtain⟨b,rfl,yz⟩:=zQ hy;obtain⟨hi,_⟩:=au.mp yz;obtain⟨vk,Dw,sR⟩:=Paired.get ED yz;obtain⟨zk,hzk,rfl⟩:∃ zk,B9[i]? = some zk∧vk=zk.map (V.ref ∘ fun z:Addr×Int×Int=>z.1):=by
    rw [af] at Dw;cases e:B9[i]? with
    | none=>rw [e] at Dw; cases Dw
    | some zk=>rw [e] at Dw; exact⟨zk,rfl,(aV Dw).symm⟩
   have hbD:b≠D:=fun e=>by rw [e,Dv] at sR; cases sR
   obtain⟨yh,mB⟩:=zg8.mp (by rw [yF]; exact aA hzk:zk∈(chs zs k).map (·.2));have EE:Pts p (zk.map (·.2)):=hP.sub (yh.map _);have GY:zpz K H2 b (zk.map (·.2)):=by
    refine⟨zk.map (·.1),?_,by rw [ab,ab],fun j b' q' h1 h2=>?_⟩
    ·have:=s2 _ _ (zcw sR hbD);rw [bH];exact me.of this
    ·rw [af] at h1 h2;cases e:zk[j]? with
     | none=>rw [e] at h1; cases h1
     | some z =>
      rw [e] at h1 h2;cases h1;cases h2;have rK:=hz z (yh.subset (aA e));have hzD:z.1≠D:=zA rK hD;exact s2 _ _ (zcw ((s0.trans s1) _ _ rK) hzD)
   have hmf:mo.length=n8.length:=by
    have:=congrArg fk AY;rw [ab,ab] at this;exact this
   refine (l5 rfl (l5 rfl (l5 rfl (ex3 p b _ ⟨rfl,GY,by rw [ab]; lia,hp,(by rw [zpP EE]; exact EE),(fun q hq=>by have:=EE.rg q hq; lia),fun tl H3 pI s3 h3=>?_⟩))));rw [zpP EE] at h3;have h3D:=s3 _ _ GX;refine⟨D,(l5 rfl ⟨zmD.t (k:=(thr p (zk.map (·.2))).map dh) h3D (by rw [h3,bH]; rfl) #[O],?_⟩)⟩;obtain⟨vW,m1,m2,m3,m4⟩:=zm4 AY oX (thr p (zk.map (·.2))) (.bl true);refine (ex3 _ vW _ ⟨rfl,?_,zc,m1,m2,#[O],fun x=>?_⟩)
   ·refine zah (s2.trans s3) ?_;unfold hide;rw [if_pos rfl]
   ·rw [m4 x,oE x,take_snoc hzk];constructor
    ·rintro (⟨GZ,h1,h2⟩ | e)
     ·exact⟨GZ,ba _ h1,h2⟩
     ·exact⟨zk,aP _ (aW.mpr rfl),e⟩
    ·rintro⟨GZ,h1,h2⟩;rcases (aY.mp h1) with h1 | h1
     ·exact .inl ⟨GZ,h1,h2⟩
     ·rw [aW.mp h1] at h2;exact .inr h2
  ·rintro σ H2 ⟨mo,n8,e6,rfl,s2,GX,AY,oX,BZ,oE⟩;rw [ab,GW] at oE BZ;rw [ci] at oE;rw [← GW,n5] at BZ;have pU:∀ x,x∈n8↔∃ pk∈(chs (zs.map (·.2)) k).map (·.2),x=thr p pk:=fun x=>by
    rw [oE x,zgw,yF];constructor
    ·rintro⟨zk,h1,h2⟩;exact⟨_,fW h1,h2⟩
    ·rintro⟨pk,h1,h2⟩;obtain⟨zk,h3,rfl⟩:=az.mp h1;exact⟨zk,h3,h2⟩
   have Dx:∀ x∈n8,IsP p k x:=fun x hx=>by
    obtain⟨pk,h1,rfl⟩:=(pU x).mp hx;exact zkn hp hP h1
   refine (l5 rfl (ex5 D k p mo n8 ⟨rfl,GX,AY,fun ms hm=>Dx ms hm,k0,#[O],fun r pj m8 pL Dy hH=>?_⟩));have hHs:zu H H2:=fun x u e=>s2 _ _ (zcw ((s0.trans s1) _ _ e) (zA e hD))
   have e1:pj.map (fun q=>V.ref q.1)=(pj.map (·.1)).map V.ref:=by rw [bH]; rfl
   rw [e1];refine q r (pj.map (·.1)) (pj.map (·.2)) _ (hHs.free m8) (hHs.trans (zb m8)) zc ((zbB.of hH).same (zb m8)) (by rw [pL.length_eq]; lia) (zkq #[O] (fun x hx=>Dx x (pL.mem_iff.mp hx)) (pL.nodup_iff.mpr oX) ?_) fun x=>?_
   ·rw [cj];exact Dy
   ·rw [pL.mem_iff];exact pU x
def zhu (K:ah):Sp:=fun vs H Q _=>∃ (c tt r:Addr) (p:Int) (k:Nat) (T:Int) (pl:List Int) (rw:List (Option Int)),vs = [.ref c,.ref r,.int T]∧zb7 H c tt p k pl∧H r=some (.lst (rw.map pK))∧rw.length=pl.length∧pl.length≤16∧p∈zr∧pl.Nodup∧(∀ x∈pl,0≤x∧x < p)∧(∀ z,some z∈rw→0≤z∧z < p)∧1≤k∧k≤100∧(k:Int)≤T ∧
 ∀ (l:Addr) (rs:List Addr) (qs:List (List Int)) (H':Hp),H l=none→zu H H'→H' l=some (.lst (rs.map V.ref))→zbB H' rs qs→zes p k qs→(∀ q,q∈qs↔IsP p k q∧T≤(hits p q (mS pl rw):Int))→Q (.ref l) H'
theorem zb2:FnScope ["code","row","t","k","points","first"] ["code","row","t"] (zh zbV):=#[S]
theorem ziT {fd:FuncData} (T:Txt K mg t) (F:Fun K "all_near" "all_near" zbV t.all_near fd):FnOk P w K mg base CX0 5 t.all_near fd ["code","row","t"] (zhu K):=by
 obtain⟨oB,mO,mP⟩:=T.f_heard_points;have nu:=zcJ (P:=P) (w:=w) (base:=base) T mO;obtain⟨yG,xB,ve⟩:=T.f_fits;have Bu:=zpi (P:=P) (w:=w) (base:=base) T xB;obtain⟨qY,o7,nK⟩:=T.f_all_through;have rW:=zfH (P:=P) (w:=w) (base:=base) T o7;refine F.ok zb2 (fun vs H Q E h=>?_) (fun mQ A outer s H vs Q E hr h=>?_)
 ·obtain⟨c,tt,r,p,k,T',pl,rw,rfl,_⟩:=h;rfl
 ·obtain⟨c,tt,r,p,k,T',pl,rw,rfl,hc,ue,oZ,hn,hp,oX,n5,xv,k0,k1,h1,q⟩:=h;apply zaF; intro zX;refine⟨_,#[ze,#[zm,3,zb2.nd,#[A],#[zK,#[zdp],#[pvx,0],#[zf]]],#[ze,#[zbm,#[zL,#[zga],#[pvx,2],#[pvx,3],(zZ _)],#[zf7],#[zaw]],#[ze,#[zm,4,zb2.nd,#[A],#[zp,nu,(hr.mono #[D]),T.m_heard_points,mO.kp,mP,#[zN],#[za,#[pvx,0],#[ya,#[pvx,1]]]]],#[ze,#[zbm,#[zL,#[ze2],#[pvx,2],#[zo,#[zq],T.len_,bP,#[ya,#[pvx,4]]],(zZ _)],#[zl,#[zC,#[z0,#[zd]]]],#[zaw]],#[ze,#[zm,5,zb2.nd,#[A],#[zby,zcq,#[pvx,4],#[zcp],#[zbJ,#[zi,#[zH],#[zi,#[zap],#[zo,#[zq],T.len_,bP,#[ya,#[pvx,4]]],#[pvx,2]],#[pvx,3]]]]],#[zl,#[zC,#[zO,(CompSc.of (N':=["polynomial","code","row","t"]) (ix:=[none,some 0,some 1,some 2]) (zh zbV) ["code","row","t","k","points","first"] rfl rfl #[N]),#[zae],#[zY,#[zp,rW,(hr.mono #[D]),T.m_all_through,o7.kp,nK,#[zN],#[za,#[pvx,0],#[ya,#[pvx,5]]]]],(fun _ _ _ _=>#[zg,0,(nd_ ["polynomial","code","row","t"]),#[A]]),(fun _ _ _ _=>#[zaJ,#[zL,#[zma],#[zo,#[zaz,(K)],T.len_,bP,#[ya,#[zp,Bu,(hr.mono #[D]),T.m_fits,xB.kp,ve,#[zN],#[za,#[pvx,1],#[za,#[pvx,2],#[ya,#[pvx,0]]]]]]],#[pvx,3],(zZ _)]]),(fun _ _ _ _=>#[pvx,0])]]]]]]]],?_⟩;apply zrk; intro C3 yr uL pZ oS;have pf:=bf;have rp:=zw hp;have hR:RowAt K H r pl.length rw:=⟨me.of ue,oZ⟩;have hP:=zha oX n5 xv;have G0:=zc6 pl rw;refine (l5 rfl (ex4 c _ _ _ ⟨rfl,rfl,mE.of hc.1,rfl,?_⟩));refine (l5 rfl (l5 rfl (mv rfl rfl (l5 rfl ?_))))
  ·refine zaM (fun h=>absurd (of_decide_eq_true h) #[O]) (fun _=>?_);refine (l5 rfl (l5 rfl (ex7 c tt r p k pl rw ⟨rfl,hc,hR,#[O],fun l bs H1 vP s1 sS hB=>?_⟩)));have sU:bs.length=(mS pl rw).length:=hB.length;refine (l5 rfl (l5 rfl ⟨l,(l5 rfl ⟨.inl (me.of sS),(mv rfl rfl (l5 rfl ?_))⟩)⟩));rw [ab];refine zaM (fun mM=>?_) (fun pY=>?_)
   ·have mM:=of_decide_eq_true mM;refine⟨bm _,fun z hz=>q z [] [] _ (s1.free hz) (s1.trans (zb hz)) zc .nil ⟨#[M],.nil⟩ fun x=>?_⟩;have:=cg (hit p x) (mS pl rw);constructor
    ·intro h; cases h
    ·rintro⟨_,h⟩;unfold hits at h;lia
   ·have pY:¬ T' > (bs.length:Int):=fun h=>pY (decide_eq_true h)
    obtain⟨tn,rfl⟩:∃ tn:Nat,T'=tn:=⟨T'.toNat,#[O]⟩;refine (l5 rfl (l5 rfl ⟨l,(l5 rfl ⟨.inl (me.of sS),(l5 rfl (mv rfl rfl (l5 rfl (mv rfl rfl (l5 rfl ⟨l,(l5 rfl ⟨me.of sS,fun z hz=>?_⟩)⟩)))))⟩)⟩));have G1:((bs.map V.ref).length:Int) - (tn:Int)+(k:Int)=((bs.length - tn+k:Nat):Int):=by rw [ab]; lia
    rw [G1,znB,← fR];have v1:=zb (o:=.lst ((bs.take (bs.length - tn+k)).map V.ref)) hz;have hzz:mh H1 z (.lst ((bs.take (bs.length - tn+k)).map V.ref)) z=some (.lst ((bs.take (bs.length - tn+k)).map V.ref)):=zc;have s2:=s1.trans v1;have ub:=(hB.same v1).take (bs.length - tn+k);generalize mh H1 z (.lst ((bs.take (bs.length - tn+k)).map V.ref))=H2 at v1 hzz s2 ub ⊢;have hPt:Pts p ((mS pl rw).take (bs.length - tn+k)):=hP.sub (cK _ _);refine (l5 rfl (l5 rfl (ex8 c tt z p k pl _ _ ⟨rfl,hc.same s2,me.of hzz,ub,by rw [aI]; lia,hp,hPt,k0,k1,fun l2 rs qs H3 qJ s3 Ab hT hql Dz oE=>?_⟩)));have hrq:=hT.length;have Ca:=s2.trans s3;refine⟨l2,rfl,⟨_,me.of Ab⟩,zV (n:=rs.length) (fun i ys H'=>zu H3 H'∧∃ us:List Addr,ys=us.map V.ref∧us.length≤i∧zbB H' us ((qs.take i).filter fun x=>decide ((tn:Int)≤(hits p x (mS pl rw):Int)))) ⟨fun _ _ e=>e,[],rfl,ag _,.nil⟩ ?_ ?_ ?_ ?_⟩
    ·rintro i ys H4 hi ⟨s4,_⟩;exact⟨_,.ref rs[i],me.of (s4 _ _ Ab),by rw [af,aj hi]; rfl⟩
    ·rintro ys H4 ⟨s4,_⟩;exact⟨_,me.of (s4 _ _ Ab),by rw [ab]; exact ag _⟩
    ·rintro i y ys H4 H5 hi ⟨s4,us,rfl,rN,mH⟩ ⟨rfl,hy⟩;obtain⟨rb,rfl,Bk⟩:=zQ (hy _ (me.of (s4 _ _ Ab)));obtain⟨qq,G2,nJ⟩:=Paired.get hT Bk;have Ah:=Ca.trans s4;refine (l5 rfl (l5 rfl (l5 rfl (ex9 c tt r rb p k pl qq rw ⟨rfl,hc.same Ah,Ah _ _ ue,oZ,s4 _ _ nJ,#[O],#[O],n5,#[O],fun fl H6 xA s6 h6=>?_⟩))));refine⟨fl,(l5 rfl ⟨.inl (me.of h6),(l5 rfl (mv rfl rfl (l5 rfl ?_)))⟩)⟩;have ef:((zdF p pl rw qq pl.length).map V.int).length=hits p qq (mS pl rw):=by rw [ab]; exact zko oZ
     rw [ef];have vU:(qs.take (i+1)).filter (fun x=>decide ((tn:Int)≤(hits p x (mS pl rw):Int)))=(qs.take i).filter (fun x=>decide ((tn:Int)≤(hits p x (mS pl rw):Int)))++[qq].filter (fun x=>decide ((tn:Int)≤(hits p x (mS pl rw):Int))):=by rw [take_snoc G2,cn]
     refine zaM (fun h=>(l5 rfl ⟨?_,s4.trans s6,us++[rb],by rw [am]; rfl,by rw [aq]; exact fH rN,?_⟩)) (fun h=>⟨s4.trans s6,us,rfl,#[O],?_⟩)
     ·rw [ab]; lia
     ·rw [vU,db (p:=fun x=>decide ((tn:Int)≤(hits p x (mS pl rw):Int))) h];exact b8 (mH.same s6) ((s4.trans s6) _ _ nJ)
     ·rw [vU,de (p:=fun x=>decide ((tn:Int)≤(hits p x (mS pl rw):Int))) h,fh,bI];exact mH.same s6
    ·rintro ys H4 D ⟨s4,us,rfl,rN,mH⟩ hD;rw [hrq,ci] at mH;have Ah:=Ca.trans s4;refine q D us _ _ (Ah.free hD) (Ah.trans (zb hD)) zc (mH.same (zb hD)) (Dz.filter _) fun x=>?_
     rw [bv,oE x,decide_eq_true_iff];constructor
     ·rintro⟨⟨pk,h1,rfl⟩,h2⟩;exact⟨zkn hp hPt h1,h2⟩
     ·rintro⟨DA,h2⟩;exact⟨zjp hp hP DA (t:=tn) #[O] #[O] #[O],h2⟩
end
section
variable {P:Program} {w:World} {K:ah} {mg:Str→Option Value} {base:Heap} {t:Adr}
def pwr (p x:Int) (kept n:Nat):List Int:=(av kept).map fun u=>cf x n u % p
def pws (p x:Int) (kept n:Nat):List (List Int):=(av n).map (pwr p x kept)
theorem zfI (p x:Int) (kept n:Nat):pws p x kept (n+1)=pws p x kept n++[pwr p x kept n]:=by
 unfold pws;rw [bX,am];rfl
theorem zbl (p x:Int) (kept n:Nat):(pwr p x kept n).length=kept:=by unfold pwr; rw [ab,aL]
theorem zfJ {p x:Int} {kept n u:Nat} (h:u < kept):gl (pwr p x kept n) u=cf x n u % p:=zbo (by unfold pwr; rw [af,bi h]; rfl)
theorem znM {p x:Int} {kept n:Nat}:(zbZ p (-x) (pwr p x kept n)).take kept=pwr p x kept (n+1):=by
 refine zm0 (by rw [aI,zcd,zbl,zbl]; lia) fun u hu=>?_
 have hu:u < kept:=by rw [aI,zcd,zbl] at hu; lia
 rw [zfJ hu];have e1:gl ((zbZ p (-x) (pwr p x kept n)).take kept) u=gl (zbZ p (-x) (pwr p x kept n)) u:=by
  unfold gl;rw [aO,aO,b9 hu]
 rw [e1];unfold zbZ;rw [zmZ (by rw [bT,zbl]; lia) (by rw [aq,zbl]; simp; lia)];have e2:gl (pwr p x kept n++[0]) u=cf x n u % p:=by
  rw [← zfJ hu];unfold gl;rw [aO,aO,bj (by rw [zbl]; exact hu)]
 rw [e2];show (_ - (-x)*_) % p=_;cases u with
 | zero =>
  show (0 - (-x)*(cf x n 0 % p)) % p=cf x (n+1) 0 % p;rw [zhf,zhf,fE];refine Cg.mod_eq ?_;refine (((Cg.refl p 0).sub ((Cg.refl p (-x)).mul (Cg.emod p _)))).trans (Cg.of_eq (by grind))
 | succ u =>
  have e3:gl (0 :: pwr p x kept n) (u+1)=cf x n u % p:=by
   rw [← zfJ (show u < kept by lia)];unfold gl;simp
  rw [e3,zoV];refine Cg.mod_eq ?_;refine ((Cg.emod p _).sub ((Cg.refl p (-x)).mul (Cg.emod p _))).trans (Cg.of_eq (by grind))
theorem znN {p x:Int} (hp:1 < p) {kept:Nat} (hk:1≤kept):pwr p x kept 0=1 :: ap (kept - 1) 0:=by
 refine zm0 (by rw [zbl,bT,aU]; lia) fun u hu=>?_
 rw [zbl] at hu;rw [zfJ hu];cases u with
 | zero =>
  rw [zhf,Int.pow_zero];show (1:Int) % p=1;exact cM #[D] hp
 | succ u =>
  have e:cf x 0 (u+1)=0:=by show (0:Int)*_=0; simp
  rw [e,Int.zero_emod];unfold gl;rw [aO,cQ,cC,if_pos #[O]];rfl
def zeA (K:ah):Sp:=fun vs H Q _=>∃ (p x:Int) (most kept:Nat),vs = [.int p,.int x,.int (most:Int),.int (kept:Int)]∧5≤p∧p≤97∧0≤x∧x < p∧most≤500∧1≤kept∧kept≤100 ∧
 ∀ (l:Addr) (ls:List Addr) (H':Hp),H l=none→zu H H'→H' l=some (.lst (ls.map V.ref))→LsA H' ls (pws p x kept (most+1))→Q (.ref l) H'
theorem zbH:FnScope ["p","by","most","kept","powers","power"] ["p","by","most","kept"] (zh zbi):=#[S]
theorem zeB {fd:FuncData} (T:Txt K mg t) (F:Fun K "moved_powers" "moved_powers" zbi t.moved_powers fd):FnOk P w K mg base CX0 2 t.moved_powers fd ["p","by","most","kept"] (zeA K):=by
 obtain⟨o6,mW,mX⟩:=T.f_times_root;have n9:=zdn (P:=P) (w:=w) (base:=base) T mW;refine F.ok zbH (fun vs H Q E h=>?_) (fun mQ A outer s H vs Q E hr h=>?_)
 ·obtain⟨p,x,most,kept,rfl,_⟩:=h;rfl
 ·obtain⟨p,x,most,kept,rfl,p5,vZ,x0,x1,hm,k1,k2,q⟩:=h;apply zaF; intro zX;refine⟨_,#[ze,#[zm,4,zbH.nd,#[A],#[z0,#[ya,#[zi,#[zb4],#[z0,#[ya,#[zf]]],#[zi,#[zcs],#[z0,#[ya,#[zf]]],#[zi,#[zap],#[pvx,3],#[zf]]]]]]],#[ze,#[zaD,bq,#[z9,T.range_,#[ya,#[pvx,2]]],#[zg,5,zbH.nd,#[A]],#[zl,#[zdy,#[zhL,dS,eS,eU,#[zc0],#[pvx,4],#[ya,#[zby,zcq,#[zp,n9,(hr.mono #[D]),T.m_times_root,mW.kp,mX,#[zN],#[za,#[pvx,0],#[za,#[zK,#[zB],#[pvx,4],#[zps,zl8,#[zf]]],#[ya,#[zps,zl8,#[pvx,1]]]]]],#[zcp],#[zbJ,#[pvx,3]]]]]]]],#[zl,#[zC,#[pvx,4]]]]],?_⟩;apply ze5; intro pZ oS;have pf:=bf;refine⟨by show 1≤sizeLine; lia,fun A1 hA1=>?_⟩;have u1:=zb (o:=.lst [V.int 1]) hA1;have v1:mh H A1 (.lst [V.int 1]) A1=some (.lst [V.int 1]):=zc;generalize mh H A1 (.lst [V.int 1])=H1 at u1 v1 ⊢;refine⟨by show 1≤sizeLine; lia,fun A2 hA2=>?_⟩;have u2:=u1.trans (zb (o:=.lst [V.int 0]) hA2);have B3:=(zb (o:=.lst [V.int 0]) hA2) _ _ v1;have v2:mh H1 A2 (.lst [V.int 0]) A2=some (.lst [V.int 0]):=zc;generalize mh H1 A2 (.lst [V.int 0])=H2 at u2 B3 v2 ⊢;have ek:((kept:Int) - 1).toNat=kept - 1:=by lia
  refine (l5 rfl (mv rfl rfl (ex3 A2 _ _ ⟨rfl,rfl,v2,#[O],#[O],by rw [ek]; show 1*(kept - 1)≤sizeLine; lia,fun A3 hA3=>?_⟩)));rw [ek,cS];have w3:=zb (o:=.lst (ap (kept - 1) (V.int 0))) hA3;have B4:=w3 _ _ B3;have v3:mh H2 A3 (.lst (ap (kept - 1) (V.int 0))) A3=some (.lst (ap (kept - 1) (V.int 0))):=zc;have u3:=u2.trans w3;generalize mh H2 A3 (.lst (ap (kept - 1) (V.int 0)))=H3 at u3 B4 v3 ⊢;refine (ex4 A1 A3 _ _ ⟨rfl,rfl,B4,v3,by rw [aU]; show 1+(kept - 1)≤sizeLine; lia,fun A4 hA4=>?_⟩);have ez:[V.int 1]++ap (kept - 1) (V.int 0)=(pwr p x kept 0).map V.int:=by rw [znN #[O] k1,bg,d8]; rfl
  rw [ez];have u4:=u3.trans (zb (o:=.lst ((pwr p x kept 0).map V.int)) hA4);have v4:mh H3 A4 (.lst ((pwr p x kept 0).map V.int)) A4=some (.lst ((pwr p x kept 0).map V.int)):=zc;generalize mh H3 A4 (.lst ((pwr p x kept 0).map V.int))=H4 at u4 v4 ⊢;refine⟨by show 1≤sizeLine; lia,fun PW G3=>?_⟩;have sw:=zb (o:=.lst [V.ref A4]) G3;have Eu:((most:Int)).toNat=most:=by lia
  refine (l5 rfl (l5 rfl ⟨#[O],#[O],zaN (lo:=0) (n:=((most:Int)).toNat) (fun i σ H'=>∃ (e5:Option V),σ = [some (.int p),some (.int x),some (.int (most:Int)),some (.int (kept:Int)),some (.ref PW),e5]∧zu H H'∧∃ ls:List Addr,H' PW=some (.lst (ls.map V.ref))∧LsA H' ls (pws p x kept (i+1))) ⟨none,rfl,u4.trans sw,[A4],zc,.cons (sw _ _ v4) .nil⟩ ?_ ?_⟩))
  ·rintro zD zT i σ H5 hi ⟨e5,rfl,s5,ls,h5,nc⟩;have vG:ls.length=i+1:=by rw [a8 nc]; unfold pws; rw [ab,aL]
   rw [zfI] at nc;obtain⟨yE,b,rfl⟩:∃ yE b,ls=yE++[b]:=⟨_,_,(List.dropLast_concat_getLast (l:=ls) (fun e=>by rw [e] at vG; simp at vG)).symm⟩;obtain⟨hA,hB⟩:=zem nc;have nJ:atI ((yE++[b]).map V.ref) (-1)=some (.ref b):=by rw [am]; exact zo3
   refine (l5 rfl ⟨.inl ⟨rfl,_,me.of h5⟩,(l5 rfl (l5 rfl (l5 rfl (ex4 PW _ _ _ ⟨rfl,rfl,me.of h5,nJ,(l5 rfl (l5 rfl (ex4 p (-x) b _ ⟨rfl,hB,by rw [zbl]; lia,#[O],#[O],#[O],fun l H6 hl s6 h6=>?_⟩)))⟩))))⟩);refine (l5 rfl (l5 rfl ⟨l,(l5 rfl ⟨me.of h6,fun z hz=>?_⟩)⟩));have ec:zcK ((zbZ p (-x) (pwr p x kept i)).map V.int) none (some (kept:Int))=(pwr p x kept (i+1)).map V.int:=by
    unfold zcK;rw [HT.sIx_nat,HT.sIx_none,fC,eR,ab,zcd,zbl,dL #[O],← fR,znM]
   rw [ec];have sz:=zb (o:=.lst ((pwr p x kept (i+1)).map V.int)) hz;have h6P:=s6 _ _ h5;have h7P:=sz _ _ h6P;have zP:z≠PW:=(zA h6P hz).symm;refine (ex3 PW _ _ ⟨rfl,rfl,h7P,by rw [ab,vG]; lia,?_⟩);refine (l5 rfl ⟨zah ((s5.trans s6).trans sz) (u4.free G3),(yE++[b])++[z],by rw [zc]; simp,?_⟩);rw [zfI];refine b8 (zqI (D:=PW) (fun hm=>?_) (fun c o hc e=>by rw [zn hc]; exact e) (LsA.same (s6.trans sz) (by rw [zfI]; exact nc))) (by rw [zn zP]; exact zc);obtain⟨j,hj⟩:=c7.mp hm;exact LsA.off nc h5 j PW hj rfl
  ·rintro σ H5 ⟨e5,rfl,s5,ls,h5,nc⟩;rw [Eu] at nc;exact (l5 rfl (q PW ls _ (u4.free G3) s5 h5 nc))
def tI (t:Tm):Int×Int:=((t.1:Int),(t.2:Int))
theorem zkJ {ns:List Nat} {M:Int} (hM:M∈ns.map fun n:Nat=>(n:Int)) (Bv:∀ a∈ns.map (fun n:Nat=>(n:Int)),a≤M):∃ m:Nat,M=m∧m∈ns∧∀ n∈ns,n≤m:=by
 obtain⟨m,hm,rfl⟩:=az.mp hM;refine⟨m,rfl,hm,fun n hn=>?_⟩;have:=Bv _ (az.mpr ⟨n,hn,rfl⟩);lia
theorem zkK {K:ah} {H:Hp} {tl:Addr} {bs:List Addr} {ts:List Tm} (pI:H tl=some (.lst (bs.map V.ref))) (vf:PtB H bs (ts.map tI)) (mB:ts.length≤200) {g:TG} {tt:TT} {te:TE} {σ0:L2.St} {Q:VK} (f:Tm→Int)
  (hs:∀ (T:Addr) (t:Tm) (R:VK) (B:L2.St→Hp→Prop),t∈ts→mE K H T [.int (t.1:Int),.int (t.2:Int)]→R (.int (f t)) H→g (.ref T) σ0 H fun σ2 H2=>tt σ2 H2 fun b H3=>if b=true then te σ2 H3 R else B σ2 H3)
  (hd:∀ D,H D=none→Q (.ref D) (mh H D (.lst ((ts.map f).map V.int)))):cGo g tt te σ0 (Itl K tl) Q H:=by
 have sU:bs.length=ts.length:=by rw [a8 vf,ab]
 refine zce (fs:=(ts.map f).map V.int) (me.of pI) (by rw [ab,ab,ab,sU]) (by rw [ab]; lia) (fun i x y R B hx hy hR=>?_) hd;obtain⟨b,rfl,yz⟩:=zQ hx;obtain⟨q,hq,hT⟩:=Paired.get vf yz;rw [af] at hq;obtain⟨t,ht,rfl⟩:=gJ.mp hq;rw [af,af,ht] at hy;have hy:V.int (f t)=y:=by simpa using hy
 subst hy;exact hs b t R B (aA ht) (mE.of hT) hR
def nAt (t:Tm) (x y p:Int) (w m:Nat):List Int:=(av m).flatMap fun u=>(av (w - u)).map fun v=>cv t ⟨x,y,u,v⟩ % p
theorem ziU (t:Tm) (x y p:Int) (w m:Nat):nAt t x y p w (m+1)=nAt t x y p w m++(av (w - m)).map fun v=>cv t ⟨x,y,m,v⟩ % p:=by
 unfold nAt;rw [bX,cJ];simp
theorem zpj (t:Tm) (x y p:Int) (w:Nat):nAt t x y p w w=(pco (x,y,w)).map fun c=>cv t c % p:=by
 unfold nAt pco;rw [lq];congr 1;funext u;rw [bH];rfl
theorem zkL (t:Tm) (x y p:Int) (w:Nat):∀ m,(nAt t x y p w m).length≤w*m
 | 0=>by simp [nAt]
 | m+1=>by
  have ih:=zkL t x y p w m;rw [ziU,aq,ab,aL,fG];lia
theorem znO {H:Hp} {l:Addr} {ls:List Addr} {p x:Int} {w n i u:Nat} (h:LsA H ls (pws p x w n)) (hi:i < n) (hu:u < w):∃ b,atI (ls.map V.ref) (i:Int)=some (.ref b)∧H b=some (.lst ((pwr p x w i).map V.int))∧atI ((pwr p x w i).map V.int) (u:Int)=some (.int (cf x i u % p)):=by
 have hl:ls.length=n:=by rw [a8 h]; unfold pws; rw [ab,aL]
 have hb:ls[i]? = some (ls[i]'#[O]):=aj #[O];obtain⟨v,hv,hvb⟩:=Paired.get h hb;unfold pws at hv;rw [af,bi hi] at hv;cases hv;refine⟨_,zal (by rw [af,hb]; rfl),hvb,zal ?_⟩;rw [af,za7 (by rw [zbl]; exact hu),zfJ hu];rfl
def zf0 (K:ah):Sp:=fun vs H Q _=>∃ (p:Int) (tl pt:Addr) (x y:Int) (w:Nat) (bs:List Addr) (ts:List Tm),vs = [.int p,.ref tl,.ref pt]∧5≤p∧p≤97∧0≤x∧x < p∧0≤y∧y < p∧1≤w∧w≤9∧H tl=some (.lst (bs.map V.ref))∧PtB H bs (ts.map tI)∧ts≠[]∧ts.length≤200∧(∀ t∈ts,t.1≤400∧t.2≤400)∧H pt=some (.tup [.int x,.int y,.int (w:Int)]) ∧
 ∀ (l:Addr) (ls:List Addr) (H':Hp),H l=none→zu H H'→H' l=some (.lst (ls.map V.ref))→LsA H' ls (ts.map fun t=>(pco (x,y,w)).map fun c=>cv t c % p)→Q (.ref l) H'
theorem zaK:FnScope ["p","terms","point","x","y","weight","by_x","by_y"] ["p","terms","point"] (zh zaH):=#[S]
theorem zf1 {fd:FuncData} (T:Txt K mg t) (F:Fun K "numbers_at" "numbers_at" zaH t.numbers_at fd):FnOk P w K mg base CX0 3 t.numbers_at fd ["p","terms","point"] (zf0 K):=by
 obtain⟨qG,nv,mY⟩:=T.f_moved_powers;have oI:=zeB (P:=P) (w:=w) (base:=base) T nv;refine F.ok zaK (fun vs H Q E h=>?_) (fun mQ A outer s H vs Q E hr h=>?_)
 ·obtain⟨p,tl,pt,x,y,wt,bs,ts,rfl,_⟩:=h;rfl
 ·obtain⟨p,tl,pt,x,y,wt,bs,ts,rfl,p5,vZ,x0,x1,y0,y1,w1,w9,pI,vf,mV,mB,uK,hp,q⟩:=h;apply zaF; intro zX;refine⟨_,#[ze,#[zbp,#[pvx,2],#[zbf,#[zj,#[zg,3,zaK.nd,#[A]],#[zj,#[zg,4,zaK.nd,#[A]],#[zj,#[zg,5,zaK.nd,(cB rfl)],#[zG]]]]]],#[ze,#[zm,6,zaK.nd,(cB rfl),#[zp,oI,(hr.mono #[D]),T.m_moved_powers,nv.kp,mY,#[zN],#[za,#[pvx,0],by exact #[za,#[pvx,3],#[za,#[zo,#[zcg],T.max_,gk,#[ya,#[zO,(CompSc.of (N':=["i","j"]) (ix:=[none,none]) (zh zaH) ["p","terms","point","x","y","weight","by_x","by_y"] rfl rfl #[N]),#[zaL,#[zy,#[zy,#[zar]]]],#[zY,#[pvx,1]],(fun _ _ _ _=>#[zaf,(K),2,#[zj,#[zg,0,(nd_ ["i","j"]),#[A]],#[zj,#[zg,1,(nd_ ["i","j"]),#[A]],#[zG]]]]),(fun _ _ _ _=>#[zz]),(fun _ _ _ _=>#[pvx,0])]]],#[ya,#[pvx,5]]]]]]],#[ze,#[zm,7,zaK.nd,(cB rfl),#[zp,oI,(hr.mono #[D]),T.m_moved_powers,nv.kp,mY,#[zN],#[za,#[pvx,0],by exact #[za,#[pvx,4],#[za,#[zo,#[zcg],T.max_,gk,#[ya,#[zO,(CompSc.of (N':=["i","j"]) (ix:=[none,none]) (zh zaH) ["p","terms","point","x","y","weight","by_x","by_y"] rfl rfl #[N]),#[zaL,#[zy,#[zy,#[zar]]]],#[zY,#[pvx,1]],(fun _ _ _ _=>#[zaf,(K),2,#[zj,#[zg,0,(nd_ ["i","j"]),#[A]],#[zj,#[zg,1,(nd_ ["i","j"]),#[A]],#[zG]]]]),(fun _ _ _ _=>#[zz]),(fun _ _ _ _=>#[pvx,1])]]],#[ya,#[pvx,5]]]]]]],#[zl,#[zC,#[zO,(CompSc.of (N':=["i","j","weight","by_x","by_y","p"]) (ix:=[none,none,some 5,some 6,some 7,some 0]) (zh zaH) ["p","terms","point","x","y","weight","by_x","by_y"] rfl rfl #[N]),#[zaL,#[zy,#[zy,#[zar]]]],#[zY,#[pvx,1]],(fun _ _ _ _=>#[zaf,(K),2,#[zj,#[zg,0,(nd_ ["i","j","weight","by_x","by_y","p"]),(cB rfl)],#[zj,#[zg,1,(nd_ ["i","j","weight","by_x","by_y","p"]),(cB rfl)],#[zG]]]]),(fun _ _ _ _=>#[zz]),(fun _ _ _ _=>#[zkh,(CompSc.of (N':=["u","v","by_x","i","by_y","j","p","weight"]) (ix:=[none,none,some 3,some 0,some 4,some 1,some 5,some 2]) ({ kind:=.function,names:=[(".0",.local),("i",.cell),("j",.cell),("range",.globalImplicit),("by_x",.cell),("by_y",.cell),("p",.cell),("weight",.cell)],isGenerator:=false,isCoroutine:=false }) ["i","j","weight","by_x","by_y","p"] (by with_unfolding_all rfl) rfl #[N]),(zdC (js:=[0]) (i:=0) #[D]),(zdC (js:=[1]) (i:=1) #[D]),#[z9,T.range_,#[ya,#[pvx,2]]],(fun _ _ _ _=>#[zg,0,(nd_ ["u","v","by_x","i","by_y","j","p","weight"]),#[A]]),(fun _ _ _ _=>#[zz]),(fun _ _ _ _=>#[z9,T.range_,#[ya,#[zi,#[zap],#[pvx,7],#[pvx,0]]]]),(fun _ _ _ _=>#[zg,1,(nd_ ["u","v","by_x","i","by_y","j","p","weight"]),#[A]]),(fun _ _ _ _=>#[zz]),(fun _ _ _ _=>#[zi,#[zI],#[zi,#[zU],#[zK,#[zaQ,(K)],#[zK,#[zaQ,(K)],#[pvx,2],#[pvx,3]],#[pvx,0]],#[zK,#[zaQ,(K)],#[zK,#[zaQ,(K)],#[pvx,4],#[pvx,5]],#[pvx,1]]],#[pvx,6]]),(by intros; rfl)])]]]]]],?_⟩;apply zja; intro uL pZ oS;have pf:=bf;have sU:bs.length=ts.length:=by rw [a8 vf,ab]
  refine⟨_,rfl,pt,_,rfl,mE.of hp,rfl,_,_,rfl,_,_,rfl,_,_,rfl,rfl,?_⟩;refine⟨_,rfl,_,rfl,_,rfl,tl,rfl,⟨_,me.of pI⟩,zkK pI vf mB (fun t=>(t.1:Int)) (fun T t R B ht hT hR=>gY2 hT ⟨_,rfl,hR⟩) fun D hD=>?_⟩;refine⟨D,ts.map fun t=>(t.1:Int),rfl,me.of zc,by simpa using mV,fun M hM Bv=>?_⟩;obtain⟨mx,rfl,mx1,mx2⟩:=zkJ (ns:=ts.map (·.1)) (by rw [bH]; exact hM) (by rw [bH]; exact Bv);have mx4:mx≤400:=by obtain⟨t,ht,rfl⟩:=az.mp mx1; exact (uK t ht).1
  have s0:=zb (o:=.lst ((ts.map fun t:Tm=>(t.1:Int)).map V.int)) hD;generalize mh H D (.lst ((ts.map fun t:Tm=>(t.1:Int)).map V.int))=H0 at s0 ⊢;refine (l5 rfl (ex4 p x mx wt ⟨rfl,p5,vZ,x0,x1,#[O],w1,#[O],fun l1 ls1 H1 vP s1 h1 g1=>?_⟩));have vg:=s0.trans s1;refine⟨_,rfl,_,rfl,_,rfl,tl,rfl,⟨_,me.of (vg _ _ pI)⟩,zkK (vg _ _ pI) (vf.same vg) mB (fun t=>(t.2:Int)) (fun T t R B ht hT hR=>gY2 hT ⟨_,rfl,hR⟩) fun D2 rO=>?_⟩;refine⟨D2,ts.map fun t=>(t.2:Int),rfl,me.of zc,by simpa using mV,fun M hM Bv=>?_⟩;obtain⟨my,rfl,my1,ym⟩:=zkJ (ns:=ts.map (·.2)) (by rw [bH]; exact hM) (by rw [bH]; exact Bv);have my4:my≤400:=by obtain⟨t,ht,rfl⟩:=az.mp my1; exact (uK t ht).2
  have s2:=zb (o:=.lst ((ts.map fun t:Tm=>(t.2:Int)).map V.int)) rO;generalize mh H1 D2 (.lst ((ts.map fun t:Tm=>(t.2:Int)).map V.int))=H2 at s2 ⊢;refine (l5 rfl (ex4 p y my wt ⟨rfl,p5,vZ,y0,y1,#[O],w1,#[O],fun l2 ls2 H3 qJ s3 h3 g3=>?_⟩));have Ca:=s2.trans s3;have sA:=vg.trans Ca;have h1:=Ca _ _ h1;have g1:=g1.same Ca;refine (l5 rfl ⟨tl,rfl,⟨_,me.of (sA _ _ pI)⟩,zV (n:=ts.length) (fun m ys H'=>zu H3 H'∧∃ us:List Addr,ys=us.map V.ref∧LsA H' us ((ts.take m).map fun t=>(pco (x,y,wt)).map fun c=>cv t c % p)) ⟨fun _ _ e=>e,[],rfl,.nil⟩ ?_ ?_ ?_ ?_⟩)
  ·rintro m ys H4 hm ⟨s4,_⟩;exact⟨_,.ref (bs[m]'#[O]),me.of ((sA.trans s4) _ _ pI),by rw [af,aj #[O]]; rfl⟩
  ·rintro ys H4 ⟨s4,_⟩;exact⟨_,me.of ((sA.trans s4) _ _ pI),by rw [ab]; lia⟩
  ·rintro m z ys H4 H5 hm ⟨s4,us,rfl,mH⟩ ⟨rfl,hx⟩;have sA4:=sA.trans s4;obtain⟨b,rfl,Bj⟩:=zQ (hx _ (me.of (sA4 _ _ pI)));obtain⟨q',pH,hT⟩:=Paired.get (vf.same sA4) Bj;rw [af] at pH;obtain⟨t,ht,rfl⟩:=gJ.mp pH;have EF:=aA ht;have hz:us.length=m:=by rw [a8 mH,ab,aI]; lia
   have t1:t.1 < mx+1:=iW (mx2 _ (az.mpr ⟨t,EF,rfl⟩));have t2:t.2 < my+1:=iW (ym _ (az.mpr ⟨t,EF,rfl⟩));have h4x:=s4 _ _ h1;have h4y:=s4 _ _ h3;have g4x:=g1.same s4;have g4y:=g3.same s4;refine gY2 (mE.of hT) ?_;have ew:((wt:Int)).toNat=wt:=by lia
   refine (l5 rfl (l5 rfl ⟨#[O],#[O],?_⟩));rw [ew];refine zek (n:=wt) (fun u ys H'=>H'=H5∧ys=(nAt t x y p wt u).map V.int) ⟨rfl,rfl⟩ (fun i ys H' hi _=>hi) (fun ys H' _=>ag _) ?_ ?_
   ·rintro u xx ys H6 H7 hu ⟨rfl,rfl⟩ ⟨rfl,rfl⟩;rw [show ((0:Int)+(u:Int))=(u:Int) from cq _];refine gY ?_;have ewu:((wt:Int) - (u:Int)).toNat=wt - u:=by lia
    refine (l5 rfl (l5 rfl (mv rfl rfl (l5 rfl ⟨#[O],#[O],?_⟩))));rw [ewu];refine zek (n:=wt - u) (fun v ys H'=>H'=H7∧ys=(nAt t x y p wt u++(av v).map fun v=>cv t ⟨x,y,u,v⟩ % p).map V.int) ⟨rfl,#[M]⟩ (fun i ys H' hi _=>hi) (fun ys H' _=>ag _) ?_ ?_
    ·rintro v yy ys H8 H9 hv ⟨rfl,rfl⟩ ⟨rfl,rfl⟩;rw [show ((0:Int)+(v:Int))=(v:Int) from cq _];obtain⟨bx,ax1,ax2,ax3⟩:=znO (l:=l1) g4x t1 hu;obtain⟨b2,ay1,ay2,ay3⟩:=znO (l:=l2) g4y t2 (show v < wt by lia);have r0:=aQ (cf x t.1 u) (show p≠0 by lia);have r1:=aH (cf x t.1 u) (show 0 < p by lia);have nl:=zkL t x y p wt u;have nm:wt*u≤9*9:=eK #[O] #[O];refine gY ?_;refine (l5 rfl (l5 rfl (ex4 l1 _ _ _ ⟨rfl,rfl,me.of h4x,ax1,(l5 rfl (ex4 bx _ _ _ ⟨rfl,rfl,me.of ax2,ax3,(l5 rfl (l5 rfl (ex4 l2 _ _ _ ⟨rfl,rfl,me.of h4y,ay1,(l5 rfl (ex4 b2 _ _ _ ⟨rfl,rfl,me.of ay2,ay3,(mv rfl rfl ⟨.inl ⟨#[O],#[O]⟩,(l5 rfl (mv rfl rfl ⟨#[O],?_⟩))⟩)⟩))⟩)))⟩))⟩)));refine⟨by rw [ab,aq,ab,aL]; lia,rfl,?_⟩;rw [bX,am,am,am,am,bD];have:cf x t.1 u % p*(cf y t.2 v % p) % p=cv t ⟨x,y,u,v⟩ % p:=by unfold cv; rw [← Int.mul_emod]
     show _++(_++[V.int (cf x t.1 u % p*(cf y t.2 v % p) % p)])=_;rw [this];rfl
    ·rintro ys H8 ⟨rfl,rfl⟩;refine⟨rfl,?_⟩;rw [ziU]
   ·rintro ys H6 ⟨rfl,rfl⟩ D3 xQ;refine⟨by rw [ab]; lia,s4.trans (zb xQ),us++[D3],#[M],?_⟩;rw [take_snoc ht,am];refine b8 (mH.same (zb xQ)) ?_;rw [zc,zpj]
  ·rintro ys H4 D3 ⟨s4,us,rfl,mH⟩ xQ;rw [aJ (ag _)] at mH;have sf:=sA.trans s4;exact q D3 us _ (sf.free xQ) (sf.trans (zb xQ)) zc (mH.same (zb xQ))
def W3 (H:Hp):List Addr→List (Int×Int×Nat)→Prop:=Paired fun b q=>H b=some (.tup [.int q.1,.int q.2.1,.int (q.2.2:Int)])
theorem W3.same {H H':Hp} (s:zu H H') {bs:List Addr} {mi:List (Int×Int×Nat)} (h:W3 H bs mi):W3 H' bs mi:=dB (fun _ _ z=>s _ _ z) h
def znP (p:Int) (mi:List (Int×Int×Nat)):Prop:=∀ q∈mi,0≤q.1∧q.1 < p∧0≤q.2.1∧q.2.1 < p∧1≤q.2.2∧q.2.2≤9
theorem znQ {p:Int} {mi:List (Int×Int×Nat)} {q:Int×Int×Nat} {t:Tm}:zaR p (mi++[q]) t=zaR p mi t++(pco q).map fun c=>cv t c % p:=by
 unfold zaR cos;rw [cJ,am];simp
theorem zqU {mi:List (Int×Int×Nat)} (i:Nat):(cos (mi.take i)).length≤(cos mi).length:=by
 conv=>rhs; rw [← cw i mi]
 unfold cos;rw [cJ,aq];lia
def zf2 (K:ah):Sp:=fun vs H Q _=>∃ (p:Int) (tl pl:Addr) (bs cs:List Addr) (ts:List Tm) (mi:List (Int×Int×Nat)),vs = [.int p,.ref tl,.ref pl]∧5≤p∧p≤97∧H tl=some (.lst (bs.map V.ref))∧PtB H bs (ts.map tI)∧ts≠[]∧ts.length≤200∧(∀ t∈ts,t.1≤400∧t.2≤400)∧H pl=some (.lst (cs.map V.ref))∧W3 H cs mi∧znP p mi∧(cos mi).length≤800∧mi.length≤1000 ∧
 ∀ (l:Addr) (ls:List Addr) (H':Hp),H l=none→zu H H'→H' l=some (.lst (ls.map V.ref))→LsA H' ls (ts.map (zaR p mi))→Q (.ref l) H'
theorem zbx:FnScope ["p","terms","points","vectors","point"] ["p","terms","points"] (zh zaY):=#[S]
theorem zf3 {fd:FuncData} (T:Txt K mg t) (F:Fun K "vectors_of" "vectors_of" zaY t.vectors_of fd):FnOk P w K mg base CX0 4 t.vectors_of fd ["p","terms","points"] (zf2 K):=by
 obtain⟨rX,pO,oh⟩:=T.f_numbers_at;have tD:=zf1 (P:=P) (w:=w) (base:=base) T pO;refine F.ok zbx (fun vs H Q E h=>?_) (fun mQ A outer s H vs Q E hr h=>?_)
 ·obtain⟨p,tl,pl,bs,cs,ts,mi,rfl,_⟩:=h;rfl
 ·obtain⟨p,tl,pl,bs,cs,ts,mi,rfl,p5,vZ,pI,vf,mV,mB,uK,n5,Ai,hg,hL,hn,q⟩:=h;apply zaF; intro zX;refine⟨_,#[ze,#[zaO,3,zbx.nd,#[A],(CompSc.of (N':=["term"]) (ix:=[none]) (zh zaY) ["p","terms","points","vectors","point"] rfl rfl #[N]),#[zae],#[zY,#[pvx,1]],(fun _ _ _ _=>#[zg,0,(nd_ ["term"]),#[A]]),(fun _ _ _ _=>#[zz]),(fun _ _ _ _=>#[z0,#[zd]])],#[ze,#[zaD,bq,#[zY,#[pvx,2]],#[zg,4,zbx.nd,#[A]],#[zl,#[zaO,3,zbx.nd,#[A],(CompSc.of (N':=["vector","numbers"]) (ix:=[none,none]) (zh zaY) ["p","terms","points","vectors","point"] rfl rfl #[N]),#[zaL,#[zy,#[zy,#[zar]]]],#[zdE,T.zip_,#[za,#[pvx,3],#[ya,#[zp,tD,(hr.mono #[D]),T.m_numbers_at,pO.kp,oh,#[zN],#[za,#[pvx,0],#[za,#[pvx,1],#[ya,#[pvx,4]]]]]]]],(fun _ _ _ _=>#[zaf,(K),2,#[zj,#[zg,0,(nd_ ["vector","numbers"]),#[A]],#[zj,#[zg,1,(nd_ ["vector","numbers"]),#[A]],#[zG]]]]),(fun _ _ _ _=>#[zz]),(fun _ _ _ _=>#[zi,#[zb4],#[pvx,0],#[pvx,1]])]]],#[zl,#[zC,#[pvx,3]]]]],?_⟩;apply ze5; intro pZ oS;have pf:=bf;have sU:bs.length=ts.length:=by rw [a8 vf,ab]
  have uE:=a8 Ai;refine (l5 rfl ⟨tl,rfl,⟨_,me.of pI⟩,zV (n:=ts.length) (fun m ys H'=>zu H H'∧∃ us:List Addr,ys=us.map V.ref∧LsA H' us ((ts.take m).map (zaR p []))) ⟨fun _ _ e=>e,[],rfl,.nil⟩ ?_ ?_ ?_ ?_⟩)
  ·rintro m ys H4 hm ⟨s4,_⟩;exact⟨_,.ref (bs[m]'#[O]),me.of (s4 _ _ pI),by rw [af,aj #[O]]; rfl⟩
  ·rintro ys H4 ⟨s4,_⟩;exact⟨_,me.of (s4 _ _ pI),by rw [ab]; lia⟩
  ·rintro m z ys H4 H5 hm ⟨s4,us,rfl,mH⟩ ⟨rfl,hx⟩;have hz:us.length=m:=by rw [a8 mH,ab,aI]; lia
   refine gY ?_;refine⟨bm _,fun D hD=>⟨by rw [ab]; lia,s4.trans (zb hD),us++[D],#[M],?_⟩⟩;have ht:ts[m]? = some (ts[m]'hm):=aj hm;rw [take_snoc ht,am];exact b8 (mH.same (zb hD)) zc
  ·rintro ys H4 V0 ⟨s4,us,rfl,mH⟩ hV;rw [aJ (ag _)] at mH;have sV:=s4.trans (zb (o:=.lst (us.map V.ref)) hV);refine (l5 rfl ⟨pl,rfl,⟨_,me.of (sV _ _ n5)⟩,zbq (K:=K) (a:=pl) (xs:=cs.map V.ref) (fun i σ H'=>∃ (vl:Addr) (ls:List Addr) (e4:Option V),σ = [some (.int p),some (.ref tl),some (.ref pl),some (.ref vl),e4]∧zu H H'∧H vl=none∧H' vl=some (.lst (ls.map V.ref))∧LsA H' ls (ts.map (zaR p (mi.take i)))) (ex3 V0 us none ⟨rfl,sV,s4.free hV,zc,mH.same (zb hV)⟩) ?_ ?_ ?_⟩)
   ·rintro i σ H' _ ⟨vl,ls,e4,rfl,s,_⟩;exact me.of (s _ _ n5)
   ·rintro zD zT i x σ H5 hx ⟨vl,ls,e4,rfl,s5,wL,h5,nc⟩;obtain⟨b,rfl,hb⟩:=zQ hx;obtain⟨⟨px,py,pw⟩,hq,G4⟩:=Paired.get Ai hb;obtain⟨g1,g2,g3,g4,g5,g6⟩:=hg _ (aA hq);refine (l5 rfl (l5 rfl (l5 rfl (l5 rfl (ex8 p tl b px py pw bs ts ⟨rfl,p5,vZ,g1,g2,g3,g4,g5,g6,s5 _ _ pI,vf.same s5,mV,mB,uK,s5 _ _ G4,fun nl nls H6 Ew s6 h6 g6'=>?_⟩)))));have EG:=s6 _ _ h5;have G5:=nc.same s6;have l1:ls.length=ts.length:=by rw [a8 nc,ab]
    have l2:nls.length=ts.length:=by rw [a8 g6',ab]
    refine (ex4 vl nl _ _ ⟨rfl,me.of EG,me.of h6,zV (n:=ts.length) (fun m ys H'=>zu H6 H'∧∃ us:List Addr,ys=us.map V.ref∧LsA H' us ((ts.take m).map (zaR p (mi.take (i+1))))) ⟨fun _ _ e=>e,[],rfl,.nil⟩ ?_ ?_ ?_ ?_⟩)
    ·rintro m ys H7 hm ⟨s7,_⟩;exact⟨_,_,.ref (ls[m]'#[O]),.ref (nls[m]'#[O]),me.of (s7 _ _ EG),me.of (s7 _ _ h6),by rw [af,aj #[O]]; rfl,by rw [af,aj #[O]]; rfl⟩
    ·rintro ys H7 ⟨s7,_⟩;exact⟨_,_,me.of (s7 _ _ EG),me.of (s7 _ _ h6),by rw [ab,ab]; lia⟩
    ·rintro m z ys H7 H8 hm ⟨s7,us,rfl,mH⟩ ⟨T,u,v,hT,rfl,rfl,hu,hv⟩;obtain⟨b1,rfl,sR⟩:=zQ (hu _ (me.of (s7 _ _ EG)));obtain⟨b2,rfl,uJ⟩:=zQ (hv _ (me.of (s7 _ _ h6)));obtain⟨w1,hw1,G6⟩:=Paired.get G5 sR;obtain⟨w2,hw2,G7⟩:=Paired.get g6' uJ;have ht:ts[m]? = some (ts[m]'hm):=aj hm;rw [af,ht] at hw1 hw2;cases hw1;cases hw2;have hz:us.length=m:=by rw [a8 mH,ab,aI]; lia
     refine gY2 (mE.of zc) ?_;have sT:=s7.trans (zb (o:=.tup [.ref b1,.ref b2]) hT);have DB:=mH.same (zb (o:=.tup [.ref b1,.ref b2]) hT);generalize mh H7 T (.tup [.ref b1,.ref b2])=H8 at sT DB ⊢;have lv:=zqU (mi:=mi) (i+1);have ev:zaR p (mi.take (i+1)) (ts[m]'hm)=zaR p (mi.take i) (ts[m]'hm)++(pco (px,py,pw)).map fun c=>cv (ts[m]'hm) c % p:=by rw [take_snoc hq,znQ]
     have lz:(zaR p (mi.take i) (ts[m]'hm)).length+((pco (px,py,pw)).map fun c=>cv (ts[m]'hm) c % p).length=(cos (mi.take (i+1))).length:=by rw [← aq,← ev,zkA]
     refine (l5 rfl (l5 rfl (ex4 b1 b2 _ _ ⟨rfl,rfl,sT _ _ G6,sT _ _ G7,(by simp only [ab] at lz ⊢; lia),fun D hD=>⟨by rw [ab]; lia,sT.trans (zb hD),us++[D],#[M],?_⟩⟩)));rw [take_snoc ht,am];refine b8 (DB.same (zb hD)) ?_;rw [zc,ev,am]
    ·rintro ys H7 D ⟨s7,us,rfl,mH⟩ hD;rw [aJ (ag _)] at mH;have s57:=s6.trans s7;exact (ex3 D us _ ⟨rfl,(s5.trans s57).trans (zb hD),(s5.trans s57).free hD,zc,mH.same (zb hD)⟩)
   ·rintro σ H5 ⟨vl,ls,e4,rfl,s5,wL,h5,nc⟩;rw [ab,uE,aJ (ag _)] at nc;exact (l5 rfl (q vl ls _ wL s5 h5 nc))
def tK (t:Tm):List Key:=[dh (t.1:Int),dh (t.2:Int)]
theorem znR {t u:Tm} (h:tK t=tK u):t=u:=by
 unfold tK at h;injection h with h1 h2
 injection h2 with h2 _
 have e1:(t.1:Int)=u.1:=jq h1;have e2:(t.2:Int)=u.2:=jq h2;exact lX #[O] #[O]
theorem znS {ts:List Tm} (h:ts.Nodup):(ts.map tK).Nodup:=by
 rw [du,cj];exact gE (fun mV e=>mV (znR e)) h
theorem zqV {H:Hp} {bs:List Addr} {ts:List Tm} (h:PtB H bs (ts.map tI)):KyA H (bs.map V.ref) (ts.map tK):=by
 induction ts generalizing bs with
 | nil=>cases h; exact .nil
 | cons t ts ih =>
  cases h with
  | cons h1 h2=>exact .cons ⟨_,rfl,h1⟩ (ih h2)
def zhv (K:ah):Sp:=fun vs H Q _=>∃ (p:Int) (tl pl:Addr) (bs cs:List Addr) (ts:List Tm) (mi:List (Int×Int×Nat)),vs = [.int p,.ref tl,.ref pl]∧p∈zr∧H tl=some (.lst (bs.map V.ref))∧PtB H bs (ts.map tI)∧ts.Nodup∧ts.length=(cos mi).length+1∧ts.length≤200∧(∀ t∈ts,t.1≤400∧t.2≤400)∧H pl=some (.lst (cs.map V.ref))∧W3 H cs mi∧znP p mi∧mi.length≤1000 ∧
 ∀ (D:Addr) (c:List Int) (m:Nat) (H':Hp),H D=none→zu H H'→H' D=some (.dT ((ts.map tK).zip (c.map V.int)))→IsP p (m+1) c→m < ts.length→gl c m=1→Dep p (cos mi).length (ts.map (zaR p mi)) c→zoW p (cos mi).length m (ts.map (zaR p mi))→Q (.ref D) H'
theorem zdZ:FnScope ["p","terms","points","relation"] ["p","terms","points"] (zh zbE):=#[S]
theorem zhw {fd:FuncData} (T:Txt K mg t) (F:Fun K "first_sum" "first_sum" zbE t.first_sum fd):FnOk P w K mg base CX0 5 t.first_sum fd ["p","terms","points"] (zhv K):=by
 obtain⟨pP,n4,m6⟩:=T.f_first_relation;have qc:=zdY (P:=P) (w:=w) (base:=base) T n4;obtain⟨rY,pQ,oj⟩:=T.f_vectors_of;have tE:=zf3 (P:=P) (w:=w) (base:=base) T pQ;refine F.ok zdZ (fun vs H Q E h=>?_) (fun mQ A outer s H vs Q E hr h=>?_)
 ·obtain⟨p,tl,pl,bs,cs,ts,mi,rfl,_⟩:=h;rfl
 ·obtain⟨p,tl,pl,bs,cs,ts,mi,rfl,hp,pI,vf,oX,mB,qJ,uK,n5,Ai,hg,hn,q⟩:=h;have hu:(A.deeper (envOfC (bK "first_sum") (zh zbE) s.heap.objs.size t.first_sum mQ)).units+20 < cLine:=by have:=hr.units; lia
  apply zaF; intro zX;refine⟨_,#[ze,#[zm,3,zdZ.nd,#[A],#[zp,qc,(hr.mono #[D]),T.m_first_relation,n4.kp,m6,#[zN],#[za,#[pvx,0],#[ya,#[zp,tE,(hr.mono #[D]),T.m_vectors_of,pQ.kp,oj,#[zN],#[za,#[pvx,0],#[za,#[pvx,1],#[ya,#[pvx,2]]]]]]]]],#[zl,#[zC,(zju (iD (kj (show 2≤20 by decide) _) hu) rfl rfl T.dict_ rfl T.zip_ #[za,#[pvx,1],#[ya,#[pvx,3]]])]]],?_⟩;apply zi9; intro oS;have pf:=bf;have rp:=zw hp;have mV:ts≠[]:=fun e=>by rw [e] at mB; simp at mB
  have hv:∀ v∈ts.map (zaR p mi),v.length=(cos mi).length∧∀ c∈v,0≤c∧c < p:=fun v hv=>by
   obtain⟨t,_,rfl⟩:=az.mp hv;exact⟨zkA p mi t,zoY #[O]⟩
  refine (l5 rfl (l5 rfl (l5 rfl (l5 rfl (ex7 p tl pl bs cs ts mi ⟨rfl,#[O],#[O],pI,vf,mV,qJ,uK,n5,Ai,hg,#[O],hn,fun vl vls H1 wL s1 h1 g1=>?_⟩)))));refine (ex5 p vl vls (ts.map (zaR p mi)) ((cos mi).length) ⟨rfl,h1,g1,by simpa using mV,by rw [ab]; exact qJ,#[O],hv,hp,fun H2 s2 hI=>?_,fun l c m H2 hl s2 h2 hc hm DA hD hI=>?_⟩)
  ·have:=znl hp hv hI;rw [ab] at this;lia
  ·rw [ab] at hm;have EH:=s1.trans s2;exact (l5 rfl (l5 rfl (ex5 tl l _ _ _ ⟨rfl,me.of (EH _ _ pI),me.of h2,zqV (vf.same EH),znS oX,fun D H3 xQ s3 h3=>q D c m H3 (EH.free xQ) (EH.trans s3) h3 hc hm DA hD hI⟩)))
def zfK (K:ah):Sp:=fun vs H Q _=>∃ (k many:Nat),vs = [.int (k:Int),.int (many:Int)]∧2≤k∧k≤100∧many≤300 ∧
 ∀ (l:Addr) (us:List Addr) (S:Nat) (H':Hp),H l=none→zu H H'→H' l=some (.lst (us.map V.ref))→PtB H' us (((zW k S).take many).map tI)→S≤many→many≤(zW k S).length→Q (.ref l) H'
theorem zhx (k s:Nat):(tms k s).length=s / (k - 1)+1:=by unfold tms; rw [ab,aL]
theorem zpk {H:Hp} {us:List Addr} {q:List (Int×Int)} (h:PtB H us q) (m:Nat):PtB H (us.take m) (q.take m):=by
 induction h generalizing m with
 | nil=>simp; exact .nil
 | cons h1 _ ih =>
  cases m with
  | zero=>exact .nil
  | succ m=>exact .cons h1 (ih m)
theorem znT {H:Hp} {F:Addr} {xs:List V} {o:HO} {us:List Addr} {q:List (Int×Int)} (h:PtB H us q) (hF:H F=some (.lst xs)):PtB (mh H F o) us q:=dB (fun b v z=>by rw [zn (fun e=>by rw [e,hF] at z; cases z)]; exact z) h
theorem zqW {H:Hp} {us vs:List Addr} {q r:List (Int×Int)} (h1:PtB H us q) (h2:PtB H vs r):PtB H (us++vs) (q++r):=by
 induction h1 with
 | nil=>exact h2
 | cons a _ ih=>exact .cons a ih
theorem zaV:FnScope ["k","many","terms","size"] ["k","many"] (zh za3):=#[S]
theorem zfL {fd:FuncData} (T:Txt K mg t) (F:Fun K "first_terms" "first_terms" za3 t.first_terms fd):FnOk P w K mg base CX0 1 t.first_terms fd ["k","many"] (zfK K):=by
 refine F.ok zaV (fun vs H Q E h=>?_) (fun mQ A outer s H vs Q E hr h=>?_)
 ·obtain⟨k,many,rfl,_⟩:=h;rfl
 ·obtain⟨k,many,rfl,k2,DC,hm,q⟩:=h;apply zaF; intro zX;refine⟨_,#[ze,#[zm,2,zaV.nd,#[A],#[z0,#[zd]]],#[ze,#[zm,3,zaV.nd,(cB rfl),#[zf]],#[ze,#[zeZ,bq,#[zL,#[zga],#[zo,#[zq],T.len_,bP,#[ya,#[pvx,2]]],#[pvx,1],(zZ _)],#[ze,#[zi4,2,zaV.nd,#[A],#[zO,(CompSc.of (N':=["j","size","k"]) (ix:=[none,some 3,some 0]) (zh za3) ["k","many","terms","size"] rfl rfl #[N]),#[zae],#[z9,T.range_,#[ya,#[zi,#[zH],#[zi,#[zaX],#[pvx,3],#[zi,#[zap],#[pvx,0],#[zf]]],#[zf]]]],(fun _ _ _ _=>#[zg,0,(nd_ ["j","size","k"]),#[A]]),(fun _ _ _ _=>#[zz]),(fun _ _ _ _=>#[za0,#[za,#[zi,#[zap],#[pvx,1],#[zi,#[zU],#[zi,#[zap],#[pvx,2],#[zf]],#[pvx,0]]],#[ya,#[pvx,0]]]])],znd],#[zl,#[zi4,3,zaV.nd,(cB rfl),#[zf],zob]]]],#[zl,#[zC,#[zby,zcq,#[pvx,2],#[zcp],#[zbJ,#[pvx,1]]]]]]]],?_⟩;apply zja; intro uL pZ oS;have pf:=bf;refine⟨bm _,fun TL hTL=>?_⟩;refine⟨fun μ σ H'=>∃ (S:Nat) (us:List Addr),μ=many+1 - S∧S≤many∧σ = [some (.int (k:Int)),some (.int (many:Int)),some (.ref TL),some (.int (S:Int))]∧zu H H'∧H' TL=some (.lst (us.map V.ref))∧PtB H' us ((zW k S).map tI),(ex3 (many+1) 0 ([]) ⟨rfl,bm _,rfl,zb hTL,zc,.nil⟩),?_⟩;rintro μ σ H1 ⟨S,us,rfl,hS,rfl,s1,h1,mH⟩;have rN:us.length=(zW k S).length:=by rw [a8 mH,ab]
  have hSl:=zgy k S;refine (l5 rfl ⟨TL,(l5 rfl ⟨.inl (me.of h1),(l5 rfl (mv rfl rfl (l5 rfl ?_)))⟩)⟩);rw [ab,rN];refine zaM (fun mM=>?_) (fun pY=>?_)
  ·have mM:=of_decide_eq_true mM;have mM:(zW k S).length < many:=by lia
   refine⟨fun σ' H'=>∃ m',m' < many+1 - S∧∃ (S:Nat) (us:List Addr),m'=many+1 - S∧S≤many∧σ' = [some (.int (k:Int)),some (.int (many:Int)),some (.ref TL),some (.int (S:Int))]∧zu H H'∧H' TL=some (.lst (us.map V.ref))∧PtB H' us ((zW k S).map tI),fun _ _ z=>z,?_⟩;have k1:0 < k - 1:=by lia
   have ek:((k:Int) - 1)=((k - 1:Nat):Int):=by lia
   have eN:((S:Int) / ((k:Int) - 1)+1)=((S / (k - 1)+1:Nat):Int):=by
    rw [ek];exact congrArg (· + 1) (gT S (k - 1)).symm
   have hq:S / (k - 1)≤S:=hX _ _;refine (l5 rfl (l5 rfl (l5 rfl (mv rfl rfl (mv rfl rfl ⟨⟨#[O],#[O]⟩,(mv rfl rfl ?_)⟩)))));refine⟨(S:Int) / ((k:Int) - 1)+1,rfl,by rw [eN]; exact ck #[D] (kL _),by rw [eN]; exact kM (Int.ofNat_le.mpr (show S / (k - 1)+1≤301 from fH (aT hq #[O]))) #[D],?_⟩;rw [eN,bC];refine zV (n:=S / (k - 1)+1) (fun m ys H'=>zu H1 H'∧∃ vs:List Addr,ys=vs.map V.ref∧PtB H' vs (((tms k S).take m).map tI)) ⟨fun _ _ e=>e,[],rfl,.nil⟩ (fun i ys H' hi _=>hi) (fun ys H' _=>ag _) ?_ ?_
   ·rintro j x ys H2 H3 hj ⟨s2,vs,rfl,uM⟩ ⟨rfl,rfl⟩;rw [show ((0:Int)+(j:Int))=(j:Int) from cq _];have uO:(k - 1)*j≤S:=by
     have:=(eB k1).mp (show j≤S / (k - 1) by lia);rw [eP]; exact this
    have wL:vs.length=j:=by rw [a8 uM,ab,aI,zhx]; lia
    have eV:(S:Int) - ((k:Int) - 1)*(j:Int)=((S - (k - 1)*j:Nat):Int):=by
     rw [ek,lJ uO,ic]
    refine gY ?_;refine (l5 rfl (l5 rfl (mv rfl rfl (l5 rfl (mv rfl rfl ⟨.inl ⟨#[O],#[O]⟩,(mv rfl rfl (l5 rfl ⟨by show 2≤sizeLine; lia,fun T hT=>?_⟩))⟩)))));have EF:(tms k S)[j]? = some (S - (k - 1)*j,j):=by unfold tms; rw [af,bi hj]; rfl
    refine⟨by rw [ab]; lia,s2.trans (zb hT),vs++[T],#[M],?_⟩;rw [take_snoc EF,am];refine b8 (uM.same (zb hT)) ?_;rw [zc];show some (HO.tup [V.int ((S:Int) - ((k:Int) - 1)*(j:Int)),V.int (j:Int)])=_;rw [eV];rfl
   ·rintro ys H2 D ⟨s2,vs,rfl,uM⟩ hD;rw [aJ (by rw [zhx]; exact ag _)] at uM;have sD:=s2.trans (zb (o:=.lst (vs.map V.ref)) hD);have wL:vs.length=S / (k - 1)+1:=by rw [a8 uM,ab,zhx]
    refine (ex4 TL D _ _ ⟨rfl,rfl,sD _ _ h1,zc,by rw [ab,ab]; lia,?_⟩);refine (l5 rfl (mv rfl rfl ?_));refine⟨many+1 - (S+1),#[O],S+1,us++vs,rfl,#[O],rfl,zah (s1.trans sD) hTL,by rw [zc,am],?_⟩;rw [za8,am];have a1:=znT (o:=.lst (us.map V.ref++vs.map V.ref)) (mH.same sD) (sD _ _ h1);have a2:=znT (o:=.lst (us.map V.ref++vs.map V.ref)) (uM.same (zb (o:=.lst (vs.map V.ref)) hD)) (sD _ _ h1);exact zqW a1 a2
  ·have pY:¬ (((zW k S).length:Int) < (many:Int)):=fun h=>pY (decide_eq_true h)
   refine (l5 rfl (l5 rfl (l5 rfl ⟨TL,(l5 rfl ⟨me.of h1,fun z hz=>?_⟩)⟩)));have ec:zcK (us.map V.ref) none (some (many:Int))=(us.take many).map V.ref:=by
    unfold zcK;rw [HT.sIx_nat,HT.sIx_none,fC,eR,ab,dL #[O],fR]
   rw [ec];refine q z (us.take many) S _ (s1.free hz) (s1.trans (zb hz)) zc ?_ hS #[O];have:=(zpk mH many).same (zb (o:=.lst ((us.take many).map V.ref)) hz);rw [← fR] at this;exact this
theorem gY3 {K:ah} {i j l:Nat} {T:Addr} {x y z:V} {σ:L2.St} {H:Hp} {A B:L2.St→Hp→Prop} (hT:mE K H T [x,y,z]) (h:A (((σ.set i (some x)).set j (some y)).set l (some z)) H) :
  zhF K 3 (zcb (zaZ i) (zcb (zaZ j) (zcb (zaZ l) zi2))) (.ref T) σ H (fun σ2 H2=>zol σ2 H2 fun b H3=>if b=true then A σ2 H3 else B σ2 H3):=by
 refine⟨T,_,rfl,hT,rfl,x,_,rfl,y,_,rfl,z,_,rfl,rfl,?_⟩;show (if true=true then A (((σ.set i (some x)).set j (some y)).set l (some z)) H else B (((σ.set i (some x)).set j (some y)).set l (some z)) H);rw [if_pos rfl];exact h
theorem znU (w:Nat):(w:Int)*((w:Int)+1) / 2=(tri w:Int):=by
 unfold tri;rw [show ((w:Int)*((w:Int)+1))=((w*(w+1):Nat):Int) by rw [ic]; rfl];exact (gT _ 2).symm
theorem ziV {α:Type} (f:α→Nat):∀ l:List α,(l.map fun q=>(f q:Int)).sum=((l.map f).sum:Int)
 | []=>rfl
 | a :: l=>by
  rw [bg,dQ,bg,dQ,ziV f l];lia
theorem zkM:∀ {ts:List Tm} {c:List Int} {t:Tm},(zdq ((ts.map tK).zip (c.map V.int)) (tK t)).getD (.int 0) = .int (gof ts c t)
 | [],_,_=>rfl
 | _ :: _,[],_=>rfl
 | a :: ts,b :: c,t=>by
  have ih:=zkM (ts:=ts) (c:=c) (t:=t);unfold zdq gof at ih ⊢;rw [bg,bg,d7,d7,bn];by_cases e:t=a
  ·subst e;rw [List.find?_cons_of_pos #[M],beq_self_eq_true];rfl
  ·rw [List.find?_cons_of_neg (by simp; exact fun h=>e (znR h).symm),show (t == a)=false by simpa using e];exact ih
theorem zpl {k:Nat} (hk:2≤k) (t:Tm):(t.1:Int)+((k:Int) - 1)*(t.2:Int)=(tz k t:Int):=by
 unfold tz;rw [show ((k:Int) - 1)=((k - 1:Nat):Int) by lia,gc,ic]
theorem zlV {k s j:Nat} {g:Tm→Int} (h:j < s / (k - 1)+1):(zbX k s g).take (j+1)=(zbX k s g).take j++[(av (s - (k - 1)*j+1)).map fun i=>g (i,j)]:=take_snoc (znq h)
def zfM (K:ah):Sp:=fun vs H Q _=>∃ (p:Int) (k:Nat) (pl:Addr) (cs:List Addr) (mi:List (Int×Int×Nat)),vs = [.int p,.int (k:Int),.ref pl]∧p∈zr∧2≤k∧k≤100∧H pl=some (.lst (cs.map V.ref))∧W3 H cs mi∧znP p mi∧(cos mi).length≤199∧mi.length≤1000 ∧
 ∀ (z r:Addr) (ls:List Addr) (size:Nat) (g:Tm→Int) (H':Hp),H z=none→zu H H'→H' z=some (.tup [.int (size:Int),.ref r])→H' r=some (.tup (ls.map V.ref))→zbB H' ls (zbX k size g)→Lst p k mi size g→size≤200→Q (.ref z) H'
theorem zaW:FnScope ["p","k","points","asked","found","size","lines"] ["p","k","points"] (zh zan):=#[S]
theorem zfN {fd:FuncData} (T:Txt K mg t) (F:Fun K "least_curve" "least_curve" zan t.least_curve fd):FnOk P w K mg base CX0 6 t.least_curve fd ["p","k","points"] (zfM K):=by
 obtain⟨tF,qA,oJ⟩:=T.f_first_sum;have uj:=zhw (P:=P) (w:=w) (base:=base) T qA;obtain⟨qZ,o8,nL⟩:=T.f_first_terms;have rZ:=zfL (P:=P) (w:=w) (base:=base) T o8;refine F.ok zaW (fun vs H Q E h=>?_) (fun mQ A outer s H vs Q E hr h=>?_)
 ·obtain⟨p,k,pl,cs,mi,rfl,_⟩:=h;rfl
 ·obtain⟨p,k,pl,cs,mi,rfl,hp,k2,DC,n5,Ai,hg,hL,hn,q⟩:=h;have hu:(A.deeper (envOfC (bK "least_curve") (zh zan) s.heap.objs.size t.least_curve mQ)).units+20 < cLine:=by have:=hr.units; lia
  apply zaF; intro zX;refine⟨_,#[ze,#[zm,3,zaW.nd,#[A],#[zo,(@zlk _ rfl),T.sum_,boot_sum,#[ya,#[zO,(CompSc.of (N':=["x","y","weight"]) (ix:=[none,none,none]) (zh zan) ["p","k","points","asked","found","size","lines"] rfl rfl #[N]),#[zaL,#[zy,#[zy,#[zy,#[zar]]]]],#[zY,#[pvx,2]],(fun _ _ _ _=>#[zaf,(K),3,#[zj,#[zg,0,(nd_ ["x","y","weight"]),#[A]],#[zj,#[zg,1,(nd_ ["x","y","weight"]),#[A]],#[zj,#[zg,2,(nd_ ["x","y","weight"]),#[A]],#[zG]]]]]),(fun _ _ _ _=>#[zz]),(fun _ _ _ _=>#[zi,#[zaX],#[zi,#[zU],#[pvx,2],#[zi,#[zH],#[pvx,2],#[zf]]],#[zf]])]]]],#[ze,#[zm,4,zaW.nd,(cB rfl),#[zp,uj,(hr.mono #[D]),T.m_first_sum,qA.kp,oJ,#[zN],#[za,#[pvx,0],#[za,#[zp,rZ,(hr.mono #[D]),T.m_first_terms,o8.kp,nL,#[zN],#[za,#[pvx,1],#[ya,#[zi,#[zH],#[pvx,3],#[zf]]]]],#[ya,#[pvx,2]]]]]],#[ze,#[zm,5,zaW.nd,(cB rfl),#[zo,#[zcg],T.max_,gk,#[ya,#[zO,(CompSc.of (N':=["i","j","k"]) (ix:=[none,none,some 1]) (zh zan) ["p","k","points","asked","found","size","lines"] rfl rfl #[N]),#[zaL,#[zy,#[zy,#[zar]]]],(@zrw _ _ _ _ #[pvx,4]),(fun _ _ _ _=>#[zaf,(K),2,#[zj,#[zg,0,(nd_ ["i","j","k"]),#[A]],#[zj,#[zg,1,(nd_ ["i","j","k"]),#[A]],#[zG]]]]),(fun _ _ _ _=>#[zz]),(fun _ _ _ _=>#[zi,#[zH],#[pvx,0],#[zi,#[zU],#[zi,#[zap],#[pvx,2],#[zf]],#[pvx,1]]])]]]],#[ze,#[zaO,6,zaW.nd,#[A],(CompSc.of (N':=["j","size","k","found"]) (ix:=[none,some 5,some 1,some 4]) (zh zan) ["p","k","points","asked","found","size","lines"] rfl rfl #[N]),#[zae],#[z9,T.range_,#[ya,#[zi,#[zH],#[zi,#[zaX],#[pvx,5],#[zi,#[zap],#[pvx,1],#[zf]]],#[zf]]]],(fun _ _ _ _=>#[zg,0,(nd_ ["j","size","k","found"]),(cB rfl)]),(fun _ _ _ _=>#[zz]),(fun _ _ _ _=>#[zaE,(zfs (K:=K) rfl),T.tuple_,iY,#[ya,#[zO,(CompSc.of (N':=["i","found","j"]) (ix:=[none,some 3,some 0]) ({ kind:=.function,names:=[(".0",.local),("j",.cell),("tuple",.globalImplicit),("range",.globalImplicit),("found",.cell),("k",.cell),("size",.cell)],isGenerator:=false,isCoroutine:=false }) ["j","size","k","found"] (by with_unfolding_all rfl) rfl #[N]),#[zae],#[z9,T.range_,#[ya,#[zi,#[zH],#[zi,#[zap],#[pvx,1],#[zi,#[zU],#[zi,#[zap],#[pvx,2],#[zf]],#[pvx,0]]],#[zf]]]],(fun _ _ _ _=>#[zg,0,(nd_ ["i","found","j"]),#[A]]),(fun _ _ _ _=>#[zz]),(fun _ _ _ _=>(@zmF _ _ _ _ _ _ _ _ _ (iD (kj (show 1≤20 by decide) _) hu) #[pvx,1] #[za0,#[za,#[pvx,0],#[ya,#[pvx,2]]]] #[zf] ⟨rfl,rfl,rfl,rfl⟩))]]])],#[zl,#[zC,#[za0,#[za,#[pvx,5],#[ya,#[zaE,#[za2],T.tuple_,iY,#[ya,#[pvx,6]]]]]]]]]]]],?_⟩;apply zok; intro yr uL pZ oS;have pf:=bf;have rp:=zw hp;have uE:=a8 Ai;refine (l5 rfl ⟨pl,rfl,⟨_,me.of n5⟩,zce (fs:=(mi.map fun q=>(tri q.2.2:Int)).map V.int) (me.of n5) (by rw [ab,ab,ab,uE]) (by rw [ab]; lia) (fun i x y R B hx hy hR=>?_) (fun D0 Du=>?_)⟩)
  ·obtain⟨b,rfl,hb⟩:=zQ hx;obtain⟨⟨px,py,pw⟩,hq,G4⟩:=Paired.get Ai hb;have hw9:=(hg _ (aA hq)).2.2.2.2.2;rw [af,af,hq] at hy;have hy:V.int (tri pw:Int)=y:=by simpa using hy
   subst hy;refine gY3 (mE.of G4) ?_;have hw9:pw≤9:=hw9;refine (l5 rfl (l5 rfl (mv rfl rfl (mv rfl rfl ⟨.inl ⟨#[O],#[O]⟩,(mv rfl rfl ⟨⟨#[D],#[D]⟩,?_⟩)⟩))));show R (.int ((pw:Int)*((pw:Int)+1) / 2)) _;rw [znU];exact hR
  refine⟨D0,mi.map fun q=>(tri q.2.2:Int),rfl,me.of zc,?_⟩;rw [ziV,show (mi.map fun q=>tri q.2.2).sum=zci mi from rfl];have s0:=zb (o:=.lst ((mi.map fun q=>(tri q.2.2:Int)).map V.int)) Du;generalize mh H D0 (.lst ((mi.map fun q=>(tri q.2.2:Int)).map V.int))=H0 at s0 ⊢;have hcn:=zeP mi;refine (l5 rfl (l5 rfl (l5 rfl (mv rfl rfl ⟨k,zci mi+1,rfl,k2,DC,#[O],fun tl us S H1 pI s1 h1 vf hS1 hS2=>?_⟩))));have vg:=s0.trans s1;have G8:∀ t∈(zW k S).take (zci mi+1),tz k t < S:=fun t ht=>(zbc k2).mp (jZ ht)
  have tle:∀ t:Tm,t.1≤tz k t∧t.2≤tz k t:=fun t=>⟨by unfold tz; lia,by
   unfold tz;have:1*t.2≤(k - 1)*t.2:=fP _ #[O];lia⟩
  have oX:((zW k S).take (zci mi+1)).Nodup:=gj (cK _ _) (zbD k2 S);have mB:((zW k S).take (zci mi+1)).length=zci mi+1:=by rw [aI]; lia
  refine (l5 rfl (ex7 p tl pl us cs ((zW k S).take (zci mi+1)) mi ⟨rfl,hp,h1,vf,oX,by rw [mB,hcn],#[O],fun t ht=>?_,vg _ _ n5,Ai.same vg,hg,hn,fun D c m H2 hD s2 h2 hc hm DA hDp hI=>?_⟩))
  ·have:=G8 t ht;have:=tle t;lia
  rw [mB] at hm;have DD:=vg.trans s2;have hDn:H D=none:=vg.free hD;obtain⟨top,pM⟩:∃ top,((zW k S).take (zci mi+1))[m]? = some top:=⟨((zW k S).take (zci mi+1))[m]'#[O],aj _⟩;have LS:=zqH (p:=p) #[O] k2 (mi:=mi) (S:=S) (ts:=(zW k S).take (zci mi+1)) (by rw [hcn]) hc pM DA hDp hI;have El:((zW k S).take (zci mi+1)).Pairwise fun a b=>tz k a≤tz k b:=fB (cK _ _) (zcC k2 S)
  have DE:=G8 top (aA pM);generalize (zW k S).take (zci mi+1)=ts at *;have Bq:c.length=m+1:=hc.1;have GW:((ts.map tK).zip (c.map V.int)).length=m+1:=by rw [lH,ab,ab]; lia
  refine (l5 rfl ⟨D,(l5 rfl ⟨h2,fun o=>?_⟩)⟩);have s3:zu H (mh H2 D (.frz o (.dT ((ts.map tK).zip (c.map V.int))))):=zah DD hDn;have h3:mh H2 D (.frz o (.dT ((ts.map tK).zip (c.map V.int)))) D=some (.frz o (.dT ((ts.map tK).zip (c.map V.int)))):=zc;generalize mh H2 D (.frz o (.dT ((ts.map tK).zip (c.map V.int))))=H3 at s3 h3 ⊢;refine zV (n:=m+1) (fun i ys H'=>H'=H3∧ys=((ts.take i).map fun t=>(tz k t:Int)).map V.int) ⟨rfl,rfl⟩ ?_ ?_ ?_ ?_
  ·rintro i ys H' hi ⟨rfl,_⟩;exact⟨h3,#[O]⟩
  ·rintro ys H' ⟨rfl,_⟩;exact⟨h3,#[O]⟩
  ·rintro i x ys H' H4 hi ⟨rfl,rfl⟩ ⟨rfl,a,ky,rfl,Ek,ha⟩;have EI:ts[i]? = some (ts[i]'#[O]):=aj #[O];have ek:ky=tK (ts[i]'#[O]):=by
    rw [af] at Ek;obtain⟨q',pH,rfl⟩:=gJ.mp Ek;have oC:((ts.map tK).zip (c.map V.int))[i]? = some (q'.1,q'.2):=pH;rw [gb,af,EI] at oC;exact (aV oC.1).symm
   subst ek;generalize ts[i]'#[O]=tt at EI ha;have B1:tz k tt < S:=G8 tt (aA EI);have:=tle tt;refine gY2 (mE.of (xs:=[.int (tt.1:Int),.int (tt.2:Int)]) ha) ?_;refine (l5 rfl (l5 rfl (mv rfl rfl (l5 rfl (mv rfl rfl ⟨.inl ⟨#[O],#[O]⟩,(mv rfl rfl ?_)⟩)))));refine⟨by rw [ab,ab,aI]; lia,rfl,?_⟩;show _++[V.int ((tt.1:Int)+((k:Int) - 1)*(tt.2:Int))]=_;rw [zpl k2,take_snoc EI,am,am];rfl
  rintro ys H' D2 ⟨rfl,rfl⟩ rO;refine⟨D2,(ts.take (m+1)).map fun t=>(tz k t:Int),rfl,me.of zc,fun e=>?_,fun M hM Bv=>?_⟩
  ·have:(ts.take (m+1)).length=0:=by rw [← ab (f:=fun t=>(tz k t:Int)),e]; rfl
   rw [aI] at this;lia
  have eM:M=(tz k top:Int):=by
   obtain⟨t',ht',rfl⟩:=az.mp hM;obtain⟨i',nH⟩:=c7.mp ht';have G9:i' < m+1:=by have:=(au.mp nH).1; rw [aI] at this; lia
   rw [b9 G9] at nH;have b1:=zeb El nH pM #[O];have b2:=Bv (tz k top:Int) (az.mpr ⟨top,c7.mpr ⟨m,by rw [b9 #[O]]; exact pM⟩,rfl⟩);lia
  subst eM;have w4:=zb (o:=.lst (((ts.take (m+1)).map fun t=>(tz k t:Int)).map V.int)) rO;have s4:=s3.trans w4;have h4:=w4 _ _ h3;generalize mh H' D2 (.lst (((ts.take (m+1)).map fun t=>(tz k t:Int)).map V.int))=H4 at s4 h4 ⊢;have k1:0 < k - 1:=by lia
  have ek1:((k:Int) - 1)=((k - 1:Nat):Int):=by lia
  obtain⟨sz,Ed⟩:∃ sz,tz k top=sz:=⟨_,rfl⟩;rw [Ed] at LS DE ⊢;have eN:((sz:Int) / ((k:Int) - 1)+1)=((sz / (k - 1)+1:Nat):Int):=by
   rw [ek1];exact congrArg (· + 1) (gT sz (k - 1)).symm
  have hqs:sz / (k - 1)≤sz:=hX _ _;have G':=fun t=>zkM (ts:=ts) (c:=c) (t:=t)
  generalize (ts.map tK).zip (c.map V.int)=mo at *;generalize gof ts c=g at *;refine (l5 rfl (l5 rfl (mv rfl rfl (mv rfl rfl ⟨⟨#[O],#[O]⟩,(mv rfl rfl ?_)⟩))));refine⟨(sz:Int) / ((k:Int) - 1)+1,rfl,by rw [eN]; exact ck #[D] (kL _),by rw [eN]; exact kM (Int.ofNat_le.mpr (show sz / (k - 1)+1≤301 from fH (aT hqs #[O]))) #[D],?_⟩;rw [eN,bC];refine zV (n:=sz / (k - 1)+1) (fun j ys H'=>zu H4 H'∧∃ us:List Addr,ys=us.map V.ref∧zbB H' us ((zbX k sz g).take j)) ⟨fun _ _ e=>e,[],rfl,.nil⟩ (fun i ys H' hi _=>hi) (fun ys H' _=>ag _) ?_ ?_
  ·rintro j x ys H5 H6 hj ⟨s5,us,rfl,mH⟩ ⟨rfl,rfl⟩;rw [show ((0:Int)+(j:Int))=(j:Int) from cq _];have uO:(k - 1)*j≤sz:=by
    have:=(eB k1).mp (show j≤sz / (k - 1) by lia);rw [eP]; exact this
   have rN:us.length=j:=by rw [a8 mH,aI,zfv]; lia
   have eV:(sz:Int) - ((k:Int) - 1)*(j:Int)+1=((sz - (k - 1)*j+1:Nat):Int):=by
    rw [ek1,gc,lJ uO,ic];rfl
   refine gY ?_;refine (l5 rfl (l5 rfl (mv rfl rfl (l5 rfl (mv rfl rfl ⟨.inl ⟨#[O],#[O]⟩,(mv rfl rfl (mv rfl rfl ?_))⟩)))));refine⟨(sz:Int) - ((k:Int) - 1)*(j:Int)+1,rfl,by rw [eV]; lia,by rw [eV]; lia,?_⟩;rw [eV,bC];refine zV (n:=sz - (k - 1)*j+1) (fun i ys H'=>zu H6 H'∧ys=((av i).map fun i=>g (i,j)).map V.int) ⟨fun _ _ e=>e,rfl⟩ (fun i ys H' hi _=>hi) (fun ys H' _=>ag _) ?_ ?_
   ·rintro i x ys H7 H8 hi ⟨s7,rfl⟩ ⟨rfl,rfl⟩;rw [show ((0:Int)+(i:Int))=(i:Int) from cq _];have h7:=(s5.trans s7) _ _ h4;refine gY ?_;refine (l5 rfl ⟨D,rfl,.inr ⟨mo,.inr ⟨o,h7⟩⟩,(l5 rfl (l5 rfl ⟨by show 2≤sizeLine; lia,fun T hT=>?_⟩))⟩);have wT:=zb (o:=.tup [.int (i:Int),.int (j:Int)]) hT;refine⟨_,.inr ⟨mo,tK (i,j),T,.inr ⟨o,wT _ _ h7⟩,rfl,zc,rfl⟩,?_⟩;rw [G'];refine⟨by rw [ab,ab,aL]; lia,s7.trans wT,?_⟩;rw [bX,am,am];rfl
   ·rintro ys H7 D5 ⟨s7,rfl⟩ hD5;refine⟨D5,(l5 rfl (.inl ⟨me.of zc,fun l hl=>?_⟩))⟩;have w7:=(s7.trans (zb (o:=.lst (((av (sz - (k - 1)*j+1)).map fun i=>g (i,j)).map V.int)) hD5)).trans (zb (o:=.tup (((av (sz - (k - 1)*j+1)).map fun i=>g (i,j)).map V.int)) hl);refine⟨by rw [ab]; lia,s5.trans w7,us++[l],#[M],?_⟩;rw [zlV hj];exact b8 (mH.same w7) zc
  ·rintro ys H5 L1 ⟨s5,us,rfl,mH⟩ yi;rw [aJ (by rw [zfv]; exact ag _)] at mH;have w5:=s5.trans (zb (o:=.lst (us.map V.ref)) yi);have yC:=mH.same (zb (o:=.lst (us.map V.ref)) yi);refine (l5 rfl (l5 rfl ⟨L1,(l5 rfl (.inl ⟨me.of zc,fun r hr=>?_⟩))⟩));have w6:=w5.trans (zb (o:=.tup (us.map V.ref)) hr);have Hi:=yC.same (zb (o:=.tup (us.map V.ref)) hr);refine⟨by show 2≤sizeLine; lia,fun z hz=>?_⟩;have sf:=s4.trans w6;have wz:=zb (o:=.tup [.int (sz:Int),.ref r]) hz;exact q z r us sz g _ (sf.free hz) (sf.trans wz) zc (wz _ _ zc) (Hi.same wz) LS #[O]
def zeC (K:ah):Sp:=fun vs H Q _=>∃ (k:Nat),vs = [.int (k:Int)]∧2≤k∧Q .non H
theorem zeD:FnScope ["k"] ["k"] (zh zbj):=#[S]
theorem zeE {fd:FuncData} (T:Txt K mg t) (F:Fun K "check_curves" "check_curves" zbj t.check_curves fd):FnOk P w K mg base CX0 1 t.check_curves fd ["k"] (zeC K):=by
 refine F.ok zeD (fun vs H Q E h=>?_) (fun mQ A outer s H vs Q E hr h=>?_)
 ·obtain⟨k,rfl,_⟩:=h;rfl
 ·obtain⟨k,rfl,h1,q⟩:=h;apply zaF; intro zX;refine⟨_,#[zl,#[zbm,#[zL,#[zga],#[pvx,0],#[zf],(zZ _)],#[zf7],#[zaw]]],?_⟩;refine (l5 rfl (mv rfl rfl (l5 rfl ?_)));exact zaM (fun h=>absurd (of_decide_eq_true h) #[O]) (fun _=>q)
def wpt (m:Nat) (l:List (Int×Int)):List (Int×Int×Nat):=l.map fun q=>(q.1,q.2,m)
theorem ziW (m:Nat):∀ l,zci (wpt m l)=l.length*tri m
 | []=>by simp [zci,wpt]
 | a :: l=>by
  have ih:=ziW m l;unfold zci wpt at ih ⊢
  (simp only [bg,dQ,bT])
  rw [ih,Nat.add_mul];lia
def zhy (K:ah):Sp:=fun vs H Q _=>∃ (c tt r:Addr) (p:Int) (k m:Nat) (pl:List Int) (rw:List (Option Int)),vs = [.ref c,.ref r,.int (m:Int)]∧zb7 H c tt p k pl∧H r=some (.lst (rw.map pK))∧rw.length=pl.length∧pl.length≤16∧p∈zr∧pl.Nodup∧(∀ x∈pl,0≤x∧x < p)∧(∀ z,some z∈rw→0≤z∧z < p)∧2≤k∧k≤100∧1≤m∧m≤9∧(mS pl rw).length*tri m≤199 ∧
 ∀ (z r:Addr) (ls:List Addr) (size:Nat) (g:Tm→Int) (H':Hp),H z=none→zu H H'→H' z=some (.tup [.int (size:Int),.ref r])→H' r=some (.tup (ls.map V.ref))→zbB H' ls (zbX k size g)→Lst p k (wpt m (mS pl rw)) size g→size≤200→Q (.ref z) H'
theorem zbN:FnScope ["code","row","m","p","k","places"] ["code","row","m"] (zh zbF):=#[S]
theorem zhz {fd:FuncData} (T:Txt K mg t) (F:Fun K "curve_for" "curve_for" zbF t.curve_for fd):FnOk P w K mg base CX0 7 t.curve_for fd ["code","row","m"] (zhy K):=by
 obtain⟨qH,oK,nA⟩:=T.f_check_curves;have rf:=zeE (P:=P) (w:=w) (base:=base) T oK;obtain⟨rh,o9,nM⟩:=T.f_least_curve;have si:=zfN (P:=P) (w:=w) (base:=base) T o9;obtain⟨oB,mO,mP⟩:=T.f_heard_points;have nu:=zcJ (P:=P) (w:=w) (base:=base) T mO;refine F.ok zbN (fun vs H Q E h=>?_) (fun mQ A outer s H vs Q E hr h=>?_)
 ·obtain⟨c,tt,r,p,k,m,pl,rw,rfl,_⟩:=h;rfl
 ·obtain⟨c,tt,r,p,k,m,pl,rw,rfl,hc,ue,oZ,hn,hp,oX,n5,xv,h1,k1,m1,m9,hA,q⟩:=h;apply zaF; intro zX;refine⟨_,#[ze,#[zbp,#[pvx,0],#[zbf,#[zj,#[zg,3,zbN.nd,#[A]],#[zj,#[zg,4,zbN.nd,#[A]],#[zj,#[zg,5,zbN.nd,#[A]],#[zG]]]]]],#[ze,#[zdy,#[zp,rf,(hr.mono #[D]),T.m_check_curves,oK.kp,nA,#[zN],#[ya,#[pvx,4]]]],#[zl,#[zC,#[zp,si,(hr.mono #[D]),T.m_least_curve,o9.kp,nM,#[zN],#[za,#[pvx,3],#[za,#[pvx,4],#[ya,#[zO,(CompSc.of (N':=["place","entry","m"]) (ix:=[none,none,some 2]) (zh zbF) ["code","row","m","p","k","places"] rfl rfl #[N]),#[zaL,#[zy,#[zy,#[zar]]]],#[zY,#[zp,nu,(hr.mono #[D]),T.m_heard_points,mO.kp,mP,#[zN],#[za,#[pvx,0],#[ya,#[pvx,1]]]]],(fun _ _ _ _=>#[zaf,(K),2,#[zj,#[zg,0,(nd_ ["place","entry","m"]),#[A]],#[zj,#[zg,1,(nd_ ["place","entry","m"]),#[A]],#[zG]]]]),(fun _ _ _ _=>#[zz]),(fun _ _ _ _=>#[za0,#[za,#[pvx,0],#[za,#[pvx,1],#[ya,#[pvx,2]]]]])]]]]]]]]],?_⟩;apply ze5; intro pZ oS;have pf:=bf;have rp:=zw hp;have hR:RowAt K H r pl.length rw:=⟨me.of ue,oZ⟩;have hP:=zha oX n5 xv;have G0:=zc6 pl rw;refine⟨_,rfl,c,_,rfl,mE.of hc.1,rfl,_,_,rfl,_,_,rfl,_,_,rfl,rfl,?_⟩;refine (l5 rfl ⟨k,rfl,h1,?_⟩);refine (l5 rfl (l5 rfl (l5 rfl (l5 rfl (ex7 c tt r p k pl rw ⟨rfl,hc,hR,#[O],fun l bs H1 vP s1 sS hB=>?_⟩)))));have sU:bs.length=(mS pl rw).length:=hB.length;refine⟨l,rfl,⟨_,me.of sS⟩,zV (n:=bs.length) (fun i ys H'=>zu H1 H'∧∃ us:List Addr,ys=us.map V.ref∧W3 H' us (wpt m ((mS pl rw).take i))) ⟨fun _ _ e=>e,[],rfl,.nil⟩ ?_ ?_ ?_ ?_⟩
  ·rintro i ys H4 hi ⟨s4,_⟩;exact⟨_,.ref (bs[i]'#[O]),me.of (s4 _ _ sS),by rw [af,aj #[O]]; rfl⟩
  ·rintro ys H4 ⟨s4,_⟩;exact⟨_,me.of (s4 _ _ sS),by rw [ab]; exact ag _⟩
  ·rintro i z ys H4 H5 hi ⟨s4,us,rfl,mH⟩ ⟨rfl,hx⟩;obtain⟨b,rfl,Bj⟩:=zQ (hx _ (me.of (s4 _ _ sS)));obtain⟨q',pH,hT⟩:=Paired.get (hB.same s4) Bj;have hz:us.length=i:=by rw [a8 mH]; unfold wpt; rw [ab,aI]; lia
   refine gY2 (mE.of hT) ?_;refine (l5 rfl (l5 rfl (l5 rfl ⟨by show 3≤sizeLine; lia,fun T Df=>⟨by rw [ab]; lia,s4.trans (zb Df),us++[T],#[M],?_⟩⟩)));rw [take_snoc pH];unfold wpt;rw [am];exact b8 (mH.same (zb Df)) zc
  ·rintro ys H4 D ⟨s4,us,rfl,mH⟩ hD;rw [aJ #[O]] at mH;have w4:=s4.trans (zb (o:=.lst (us.map V.ref)) hD);refine (ex5 p k D us (wpt m (mS pl rw)) ⟨rfl,hp,h1,k1,zc,mH.same (zb hD),fun q' pH=>?_,by rw [zeP,ziW]; exact hA,by unfold wpt; rw [ab]; lia,fun z r' ls size g H5 hz s5 h5 h6 h7 hL hs=>?_⟩)
   ·obtain⟨a,ha,rfl⟩:=az.mp pH;obtain⟨g1,g2,g3,g4⟩:=hP.rg a ha;exact⟨g1,g2,g3,g4,m1,m9⟩
   ·have Ah:=s1.trans w4;exact q z r' ls size g H5 (Ah.free hz) (Ah.trans s5) h5 h6 h7 hL hs
end
section
variable {P:Program} {w:World} {K:ah} {mg:Str→Option Value} {base:Heap} {t:Adr}
theorem zlW (q:Nat):(q+1)*(q+1+1) / 2=q*(q+1) / 2+(q+1):=by
 have e:(q+1)*(q+1+1)=q*(q+1)+2*(q+1):=by grind
 rw [e];lia
theorem zfO {d:Nat} (hd:0 < d):∀ (q r:Nat),r < d→((q:Int)+1)*(((r+q*d:Nat):Int)+1) - (d:Int)*((q*(q+1) / 2:Nat):Int)=(prs d (r+q*d):Int)
 | 0,r,h=>by
  rw [kK,dJ,zhp hd r h];simp
 | q+1,r,h=>by
  have ih:=zfO hd q r h;have e:r+(q+1)*d=r+q*d+d:=by rw [Nat.add_mul]; lia
  rw [e,ziE hd,zlW];generalize q*(q+1) / 2=t at ih ⊢;generalize prs d (r+q*d)=z at ih ⊢;generalize r+q*d=y at ih ⊢;push_cast at ih ⊢;grind
theorem znV {d s:Nat} (hd:0 < d):((s:Int) / (d:Int)+1)*((s:Int)+1) - (d:Int)*((s:Int) / (d:Int)*((s:Int) / (d:Int)+1) / 2)=(prs d s:Int):=by
 have h:=zfO hd (s / d) (s % d) (Nat.mod_lt _ hd);have e:s % d+s / d*d=s:=by rw [eP]; exact Nat.mod_add_div s d
 rw [e] at h;rw [← h];push_cast;rfl
def zfP (K:ah):Sp:=fun vs H Q _=>∃ (d s:Nat),vs = [.int ((d:Int)+1),.int (s:Int)]∧1≤d∧d≤4∧s≤1000000∧Q (.int (prs d s:Int)) H
theorem zcZ:FnScope ["k","size","most"] ["k","size"] (zh zbw):=#[S]
theorem zfQ {fd:FuncData} (T:Txt K mg t) (F:Fun K "pairs_up_to" "pairs_up_to" zbw t.pairs_up_to fd):FnOk P w K mg base CX0 1 t.pairs_up_to fd ["k","size"] (zfP K):=by
 refine F.ok zcZ (fun vs H Q E h=>?_) (fun mQ A outer s H vs Q E hr h=>?_)
 ·obtain⟨d,s,rfl,_⟩:=h;rfl
 ·obtain⟨d,z,rfl,d1,d4,hz,q⟩:=h;apply zaF; intro zX;refine⟨_,#[ze,#[zm,2,zcZ.nd,#[A],#[zi,#[zaX],#[pvx,1],#[zi,#[zap],#[pvx,0],#[zf]]]],#[zl,#[zC,#[zi,#[zap],#[zi,#[zU],#[zi,#[zH],#[pvx,2],#[zf]],#[zi,#[zH],#[pvx,1],#[zf]]],#[zi,#[zU],#[zi,#[zap],#[pvx,0],#[zf]],#[zi,#[zaX],#[zi,#[zU],#[pvx,2],#[zi,#[zH],#[pvx,2],#[zf]]],#[zf]]]]]]],?_⟩;apply zi9; intro oS;have ed:(d:Int)+1 - 1=(d:Int):=by lia
  have e:=znV (d:=d) (s:=z) #[O];rw [← e] at q;rw [← ed] at q;have m0:0≤(z:Int) / ((d:Int)+1 - 1):=Int.ediv_nonneg #[O] #[O];have m1:(z:Int) / ((d:Int)+1 - 1)≤(z:Int):=Int.ediv_le_self _ #[O];refine (l5 rfl (l5 rfl (mv rfl rfl (mv rfl rfl ⟨⟨#[O],#[O]⟩,?_⟩))));refine (l5 rfl (mv rfl rfl (l5 rfl (mv rfl rfl (mv rfl rfl ⟨.inl ⟨#[O],#[O]⟩,(l5 rfl (mv rfl rfl (l5 rfl (l5 rfl (mv rfl rfl (mv rfl rfl ⟨.inl ⟨#[O],#[O]⟩,(mv rfl rfl ⟨⟨#[D],#[D]⟩,(mv rfl rfl ⟨.inl ⟨#[O],#[O]⟩,(mv rfl rfl ?_)⟩)⟩)⟩))))))⟩)))));exact q
theorem zbW:FnScope ["n","k","m","asked","low","high","middle"] ["n","k","m"] (zh zeT):=#[S]
theorem ziX {fd:FuncData} (T:Txt K mg t) (F:Fun K "bound" "bound" zeT t.bound fd):FnOk P w K mg base CX0 2 t.bound fd ["n","k","m"] (znz K):=by
 obtain⟨rj,pd,nN⟩:=T.f_pairs_up_to;have sj:=zfQ (P:=P) (w:=w) (base:=base) T pd;refine F.ok zbW (fun vs H Q E h=>?_) (fun mQ A outer s H vs Q E hr h=>?_)
 ·obtain⟨n,d,m,rfl,_⟩:=h;rfl
 ·obtain⟨n,d,m,rfl,Hj,d1,d4,m1,Hk,q⟩:=h;apply zaF; intro zX;refine⟨_,#[ze,#[zbm,#[zL,#[zga],#[pvx,1],#[zf],(zZ _)],#[zl,#[zC,#[zf]]],#[zaw]],#[ze,#[zm,3,zbW.nd,#[A],#[zi,#[zaX],#[zi,#[zU],#[zi,#[zU],#[pvx,0],#[pvx,2]],#[zi,#[zH],#[pvx,2],#[zf]]],#[zf]]],#[ze,#[zm,4,zbW.nd,#[A],#[zf]],#[ze,#[zm,5,zbW.nd,#[A],#[pvx,3]],#[ze,#[zeZ,bq,#[zL,#[zga],#[pvx,4],#[pvx,5],(zZ _)],#[ze,#[zm,6,zbW.nd,#[A],#[zi,#[zaX],#[zi,#[zH],#[pvx,4],#[pvx,5]],#[zf]]],#[zl,#[zbm,#[zL,#[ze2],#[zp,sj,(hr.mono #[D]),T.m_pairs_up_to,pd.kp,nN,#[zN],#[za,#[pvx,1],#[ya,#[pvx,6]]]],#[pvx,3],(zZ _)],#[zl,#[zm,5,zbW.nd,#[A],#[pvx,6]]],#[zl,#[zm,4,zbW.nd,#[A],#[zi,#[zH],#[pvx,6],#[zf]]]]]]]],#[zl,#[zC,#[pvx,4]]]]]]]],?_⟩;apply zrk; intro C3 yr uL pZ oS;have Hl:n*m*(m+1)≤97*60*61:=eK (eK Hj Hk) #[O];obtain⟨N,hN⟩:∃ N,n*m*(m+1)=N:=⟨_,rfl⟩;rw [hN] at Hl;have hNi:(n:Int)*(m:Int)*((m:Int)+1) / 2=((N / 2:Nat):Int):=by
   rw [← hN];push_cast;rfl
  refine (l5 rfl (mv rfl rfl (l5 rfl ?_)));refine zaM (fun hc=>?_) (fun hc=>?_)
  ·have hc:((d:Int)+1) < 2:=by simpa using hc
   lia
  refine (l5 rfl (l5 rfl (mv rfl rfl ⟨.inl ⟨#[O],#[O]⟩,(l5 rfl (mv rfl rfl (mv rfl rfl ⟨.inr ⟨#[O],#[O]⟩,(mv rfl rfl ⟨⟨#[D],#[D]⟩,(l5 rfl ?_)⟩)⟩)))⟩)));refine zhH (fun σ H'=>H'=H∧∃ (lo hi:Nat) (e6:Option V),σ = [some (.int (n:Int)),some (.int ((d:Int)+1)),some (.int (m:Int)),some (.int ((N / 2:Nat):Int)),some (.int (lo:Int)),some (.int (hi:Int)),e6]∧lo≤hi∧hi≤N / 2∧N / 2 < prs d hi∧∀ r,r < lo→prs d r≤N / 2) (fun σ _=>(intAt 5 σ - intAt 4 σ).toNat)
   ⟨rfl,0,N / 2,none,by rw [← hNi]; rfl,#[O],#[O],by have:=zhq d (N / 2); lia,fun r hr=>by lia⟩ ?_ ?_
  ·rintro σ H2 ⟨rfl,lo,hi,e6,rfl,hlh,xU,hp,hs⟩;refine (l5 rfl (l5 rfl (mv rfl rfl (l5 rfl ?_))));refine zaM (fun hc=>?_) (fun hc=>?_)
   ·have hc:(lo:Int) < (hi:Int):=by simpa using hc
    have em:((lo:Int)+(hi:Int)) / 2=(((lo+hi) / 2:Nat):Int):=by lia
    refine (l5 rfl (l5 rfl (mv rfl rfl (mv rfl rfl ⟨⟨#[D],#[D]⟩,?_⟩))));refine (l5 rfl (l5 rfl ⟨d,(lo+hi) / 2,by rw [← em]; rfl,d1,d4,#[O],?_⟩));refine (l5 rfl (mv rfl rfl (l5 rfl ?_)));refine zaM (fun hg=>?_) (fun hg=>?_)
    ·have hg:(prs d ((lo+hi) / 2):Int) > ((N / 2:Nat):Int):=by simpa using hg
     refine (l5 rfl ⟨⟨rfl,lo,(lo+hi) / 2,_,by rw [← em]; rfl,#[O],#[O],#[O],hs⟩,?_⟩);show ((((lo:Int)+(hi:Int)) / 2) - (lo:Int)).toNat < ((hi:Int) - (lo:Int)).toNat;lia
    ·have hg:¬ (prs d ((lo+hi) / 2):Int) > ((N / 2:Nat):Int):=by simpa using hg
     refine (l5 rfl (mv rfl rfl ⟨⟨rfl,(lo+hi) / 2+1,hi,_,by rw [gc,← em]; rfl,#[O],#[O],#[O],fun r hr=>?_⟩,?_⟩))
     ·have:=ziF d (show r≤(lo+hi) / 2 by lia);lia
     ·show ((hi:Int) - ((((lo:Int)+(hi:Int)) / 2)+1)).toNat < ((hi:Int) - (lo:Int)).toNat;lia
   ·have hc:¬ (lo:Int) < (hi:Int):=by simpa using hc
    have eh:lo=hi:=by lia
    subst eh;have e:zeu n d m=lo:=zjA (by rw [hN]; lia) (by rw [hN]; intro r hr; have:=hs r hr; lia);rw [← e];exact (l5 rfl (q _ (fun _ _ e=>e)))
  ·rintro σ H2 Q1 Q2 hq ⟨v,e,v',e',i,j,e1,e2,k,e3,q⟩;exact⟨v,e,v',e',i,j,e1,e2,k,e3,hq _ _ q⟩
theorem znW:FnScope ["n","k","m"] ["n","k","m"] (zh zeU):=#[S]
theorem znX {fd:FuncData} (T:Txt K mg t) (F:Fun K "reach" "reach" zeU t.reach fd):FnOk P w K mg base CX0 3 t.reach fd ["n","k","m"] (znA K):=by
 obtain⟨uk,pR,pS⟩:=T.f_bound;have tG:=ziX (P:=P) (w:=w) (base:=base) T pR;refine F.ok znW (fun vs H Q E h=>?_) (fun mQ A outer s H vs Q E hr h=>?_)
 ·obtain⟨n,d,m,rfl,_⟩:=h;rfl
 ·obtain⟨n,d,m,rfl,Hj,d1,d4,m1,Hk,q⟩:=h;apply zaF; intro zX;refine⟨_,#[zl,#[zC,#[zi,#[zH],#[zi,#[zaX],#[zp,tG,(hr.mono #[D]),T.m_bound,pR.kp,pS,#[zN],#[za,#[pvx,0],#[za,#[pvx,1],#[ya,#[pvx,2]]]]],#[zo,#[zd2],T.max_,gk,#[za,#[pvx,2],#[ya,#[zf]]]]],#[zf]]]],?_⟩;refine (l5 rfl (l5 rfl (l5 rfl (ex3 n d m ⟨rfl,Hj,d1,d4,m1,Hk,fun H1 s1=>?_⟩))));have em:(if (1:Int) > (m:Int) then (1:Int) else (m:Int))=(m:Int):=if_neg #[O];refine (l5 rfl ⟨_,_,rfl,?_⟩);rw [em];refine (mv rfl rfl ⟨⟨#[O],#[O]⟩,(mv rfl rfl ?_)⟩);have e:((zeu n d m:Nat):Int) / (m:Int)+1=((zed n d m:Nat):Int):=by unfold zed; rw [gc,gT]; rfl
  have:=q H1 s1;rw [← e] at this;exact this
end
theorem zeW (n:Nat) (b l:Ps):mq 0 (n+1) b l=fun i=>b 0*l i+Xl (mq 0 n (fun t=>b (t+1)) l) i:=by
 funext i;simp only [mq,cP,cT]
theorem zhA:∀ (n:Nat) (b:Ps) (m:Nat) (c l:Ps),mq 0 n b (mq 0 m c l)=mq 0 m c (mq 0 n b l)
 | 0,b,m,c,l=>by
  have:mq 0 0 b l=fun _=>0:=rfl
  rw [this,(zcD 0 m c).z];rfl
 | n+1,b,m,c,l=>by
  rw [zeW,zeW,(zcD 0 m c).a,zhm,← zkF,zhA n _ m c l]
def zd0:Ps:=fun i=>if i=0 then 1 else 0
theorem zkN:∀ (n:Nat) (b:Ps) (i:Nat),mq 0 n b zd0 i=if i < n then b i else 0
 | 0,b,i=>by rw [if_neg #[O]]; rfl
 | n+1,b,i=>by
  rw [zeW];show b 0*zd0 i+Xl (mq 0 n (fun t=>b (t+1)) zd0) i=_;unfold Xl zd0;by_cases h:i=0
  ·subst h;rw [if_pos rfl,if_pos rfl,if_pos #[O]];lia
  ·rw [if_neg h,if_neg h];have:=zkN n (fun t=>b (t+1)) (i - 1);unfold zd0 at this;rw [this];by_cases h2:i < n+1
   ·rw [if_pos #[O],if_pos h2,show i - 1+1=i by lia];lia
   ·rw [if_neg #[O],if_neg h2];lia
theorem zeX {n:Nat} {b:Ps} (h:Dg b n):mq 0 n b zd0=b:=by
 funext i;rw [zkN];split
 ·rfl
 ·rw [h i #[O]]
theorem zpm {n m:Nat} {b c:Ps} (hb:Dg b n) (hc:Dg c m):mq 0 n b c=mq 0 m c b:=by
 rw [← zeX hc,zhA,zeX hb,zeX hc]
theorem zpQ:∀ (n:Nat) (b l:Ps) (x:Nat),mq 0 n b l x=sm n fun t=>b t*Xp t l x
 | 0,b,l,x=>rfl
 | n+1,b,l,x=>by
  rw [zeW,zbv];show b 0*l x+Xl (mq 0 n (fun t=>b (t+1)) l) x=b 0*l x+_;congr 1;unfold Xl;by_cases h:x=0
  ·rw [if_pos h];refine (zcA fun i _=>?_).symm;rw [zgD,if_pos #[O],dG]
  ·rw [if_neg h,zpQ n _ l (x - 1)];refine zax fun i _=>?_
   rw [zgD,zgD];by_cases h2:x - 1 < i
   ·rw [if_pos h2,if_pos #[O]]
   ·rw [if_neg h2,if_neg #[O],show x - 1 - i=x - (i+1) by lia]
def itq (k:Nat) (f:Ps):Nat→Ps→Ps
 | 0,l=>l
 | t+1,l=>mq 0 k f (itq k f t l)
theorem ziY (k:Nat) (f:Ps) (n:Nat) (b:Ps):∀ (t:Nat) (l:Ps),mq 0 n b (itq k f t l)=itq k f t (mq 0 n b l)
 | 0,_=>rfl
 | t+1,l=>by
  show mq 0 n b (mq 0 k f (itq k f t l))=mq 0 k f (itq k f t (mq 0 n b l));rw [zhA,ziY k f n b t l]
theorem znY (k:Nat) (f:Ps):∀ (n:Nat) (G:Nat→Ps) (x:Nat),mq 0 k f (fun y=>sm n fun t=>G t y) x=sm n fun t=>mq 0 k f (G t) x
 | 0,G,x=>by
  have:(fun y=>sm 0 fun t=>G t y)=fun _=>(0:Int):=rfl
  rw [this,(zcD 0 k f).z];rfl
 | n+1,G,x=>by
  have e:(fun y=>sm (n+1) fun t=>G t y)=fun y=>(fun y=>G 0 y) y+(fun y=>sm n fun t=>G (t+1) y) y:=by
   funext y;rw [zbv]
  rw [e,(zcD 0 k f).a,zbv];show mq 0 k f (fun y=>G 0 y) x+mq 0 k f (fun y=>sm n fun t=>G (t+1) y) x=_;rw [znY k f n]
theorem znZ {k:Nat} {f:Ps}:∀ (n:Nat) (F:Nat→Ps) (x:Nat),AL k f n F x=sm n fun t=>itq k f t (F t) x
 | 0,F,x=>rfl
 | n+1,F,x=>by
  have ih:AL k f n (fun t=>F (t+1))=fun y=>sm n fun t=>itq k f t (F (t+1)) y:=funext fun y=>znZ n _ y
  show F 0 x+mq 0 k f (AL k f n fun t=>F (t+1)) x=_;rw [ih,znY,zbv];rfl
theorem zqX {k n:Nat} {f:Ps} {F:Nat→Ps}:∀ {m:Nat},n≤m→(∀ t,n≤t→F t=fun _=>0)→AL k f m F=AL k f n F:=fun {m} hm h=>by
 obtain⟨d,rfl⟩:∃ d,m=n+d:=⟨m - n,#[O]⟩;induction d with
 | zero=>rfl
 | succ d ih =>
  have e:AL k f (n+d+1) F=AL k f (n+d) F:=zeQ (zcD 0 k f) (h (n+d) #[O]);rw [show n+(d+1)=n+d+1 by lia,e];exact ih #[O]
theorem zgG (d:Nat):∀ s,(zW (d+1) (s+1)).length=prs d s
 | 0=>by
  rw [za8];simp [zW,tms,prs]
 | s+1=>by
  rw [za8,aq,zgG d s];show _+(tms (d+1) (s+1)).length=prs d s+((s+1) / d+1);unfold tms;rw [ab,aL,bQ]
theorem ziZ {m:Nat}:∀ (l:List (Int×Int)),zci (l.map fun q=>(q.1,q.2,m))=l.length*tri m
 | []=>by simp [zci]
 | q :: l=>by
  have ih:=ziZ (m:=m) l;unfold zci at ih ⊢;rw [bg,bg,dQ,ih,bT,fu];show tri m+_=_;lia
theorem zjI {p:Int} {d m s:Nat} {l:List (Int×Int)} {g:Tm→Int} (L:Lst p (d+1) (l.map fun q=>(q.1,q.2,m)) s g):s≤zeu l.length d m:=by
 (refine bY fun hn=>?_)
 obtain⟨s',rfl⟩:∃ s',s=s'+1:=⟨s - 1,#[O]⟩;have h1:=L.few;rw [zgG,zeP,ziZ] at h1;have h2:=(zjz d (l.length*m*(m+1))).1;have h3:prs d (bnd d (l.length*m*(m+1)))≤prs d s':=ziF d (by unfold zeu at hn; lia);have h4:2*tri m=m*(m+1):=by
  unfold tri;have:m*(m+1) % 2=0:=by
   rcases iM m with h | h
   ·rw [jE,h]; simp
   ·rw [jE,Nat.add_mod,h]
  lia
 have h5:2*(l.length*tri m)=l.length*m*(m+1):=by rw [kR,h4,Nat.mul_assoc]
 lia
theorem zn0 (d N:Nat):bnd d N≤N / 2:=by
 (refine bY fun hn=>?_)
 have h1:=(zjz d N).2 (N / 2) #[O];have h2:=zhq d (N / 2);lia
theorem zlX {k s:Nat} (h2:2≤k) (h5:k≤5) (hs:s≤60):(s / (k - 1)+1) ^ k≤2000000:=by
 have:k=2∨k=3∨k=4∨k=5:=by lia
 rcases this with rfl | rfl | rfl | rfl
 ·exact aT (fZ (show s / (2 - 1)+1≤61 by lia) 2) #[D]
 ·exact aT (fZ (show s / (3 - 1)+1≤31 by lia) 3) #[D]
 ·exact aT (fZ (show s / (4 - 1)+1≤21 by lia) 4) #[D]
 ·exact aT (fZ (show s / (5 - 1)+1≤16 by lia) 5) #[D]
theorem zlY {k s j:Nat} {g:Tm→Int} (h:j < s / (k - 1)+1):(zbX k s g).getD j []=(av (s - (k - 1)*j+1)).map fun i=>g (i,j):=by
 (rw [aO])
 unfold zbX;rw [af,bi h];rfl
theorem zkO {p:Int} {k s:Nat} {mi:List (Int×Int×Nat)} {g:Tm→Int} (L:Lst p k mi s g) {j:Nat} (h:j < s / (k - 1)+1) (i:Nat):gl ((zbX k s g).getD j []) i=g (i,j):=by
 rw [zlY h];by_cases hi:i < s - (k - 1)*j+1
 ·exact zbo (by rw [af,bi hi]; rfl)
 ·rw [zbS (by rw [ab,aL]; lia)];refine (L.out (i,j) ?_).symm;show s < i+(k - 1)*j;lia
theorem zi0 {k s:Nat} {g:Tm→Int} {r:List Int} (h:r∈zbX k s g):r.length≤s+1:=by
 unfold zbX at h;obtain⟨j,_,rfl⟩:=az.mp h;rw [ab,aL];lia
theorem zpn {p:Int} (hp:p∈zr) {k s:Nat} (hk:2≤k) {mi:List (Int×Int×Nat)} {g:Tm→Int} (L:Lst p k mi s g):∃ j i,¬ Cg p (gl ((zbX k s g).getD j []) i) 0:=by
 obtain⟨⟨i,j⟩,ht,mV⟩:=L.top;have rp:=zw hp;have ht:i+(k - 1)*j=s:=ht;have hj:j < s / (k - 1)+1:=by
  have:j≤s / (k - 1):=(eB #[O]).mpr (by rw [eP]; lia);lia
 refine⟨j,i,fun hz=>mV ?_⟩;rw [zkO L hj] at hz;obtain⟨a0,a1⟩:=L.rg (i,j);exact Cg.eq hz a0 a1 (bS 0) #[O]
theorem zlZ {p:Int} (hp:p∈zr) {d s m:Nat} (hd:1≤d) {l:List (Int×Int)} (hP:Pts p l) {g:Tm→Int} (L:Lst p (d+1) (l.map fun q=>(q.1,q.2,m)) s g) {q:List Int} (hq:IsP p (d+1) q) (hs:s < m*hits p q l):Zr p (AL (d+1) (gl q) (s / d+1) fun j i=>gl ((zbX (d+1) s g).getD j []) i):=by
 have rp:=zw hp;have h1:=zhn hp (k1:=d) (s:=s) (m:=m) (g:=g) (f:=gl q) L.out (mi:=l.filter (hit p q)) (j1 _ (cj.mp hP.nd)) (fun a ha=>?_) (fun a ha=>?_) (fun a ha u v huv=>?_) hs
 ·have e:AL (d+1) (gl q) (s+1) (fun t i=>g (i,t))=AL (d+1) (gl q) (s / d+1) (fun t i=>g (i,t)):=zqX (by have:=hX s d; lia) fun t ht=>by
   funext i;refine L.out (i,t) ?_;show s < i+d*t;have:s < t*d:=(Nat.div_lt_iff_lt_mul #[O]).mp #[O];rw [eP] at this;lia
  intro i;have h2:=h1 i;have h3:Cg p (AL (d+1) (gl q) (s+1) (fun t i=>g (i,t)) i) 0:=h2;rw [e] at h3;have e2:AL (d+1) (gl q) (s / d+1) (fun j i=>gl ((zbX (d+1) s g).getD j []) i)=AL (d+1) (gl q) (s / d+1) (fun t i=>g (i,t)):=zec fun t ht=>funext fun i=>zkO L ht i
  rw [e2];exact h3
 ·obtain⟨a1,_⟩:=bv.mp ha;obtain⟨x0,x1,_⟩:=hP.rg a a1;exact⟨x0,x1⟩
 ·obtain⟨_,a2⟩:=bv.mp ha;have a2:zt p a.1 q=a.2:=of_decide_eq_true a2;rw [← a2,znf];exact (ziu (by rw [hq.1]; exact ag _)).symm
 ·obtain⟨a1,_⟩:=bv.mp ha;have hco:(⟨a.1,a.2,u,v⟩:Co)∈cos (l.map fun q=>(q.1,q.2,m)):=cR.mpr ⟨(a.1,a.2,m),az.mpr ⟨a,a1,rfl⟩,cR.mpr ⟨u,aZ.mpr (by show u < m; lia),az.mpr ⟨v,aZ.mpr (by show v < m - u; lia),rfl⟩⟩⟩;have h2:=L.ok _ hco;rw [zns #[O] fun t ht=>by rw [L.out t ht,cP],zqJ] at h2;exact h2
section
variable {P:Program} {w:World} {K:ah} {mg:Str→Option Value} {base:Heap} {t:Adr}
def zjJ (K:ah):Sp:=fun vs H Q _=>∃ (p:Int) (a b:Addr) (as bs:List Int),vs = [.int p,.ref a,.ref b]∧H a=some (.lst (as.map V.int))∧H b=some (.lst (bs.map V.int))∧1≤as.length∧as.length≤1000∧1≤bs.length∧bs.length≤1000∧5≤p∧p≤97∧(∀ c∈as,0≤c∧c < p) ∧
 ∀ (l:Addr) (rs:List Int) (H':Hp),H l=none→zu H H'→H' l=some (.lst (rs.map V.int))→rs.length=as.length+bs.length - 1→(∀ c∈rs,0≤c∧c < p)→(∀ x,Cg p (gl rs x) (mq 0 as.length (gl as) (gl bs) x))→Q (.ref l) H'
def psm (as bs:List Int) (j i x:Nat):Int:=(sm j fun t=>gl as t*Xp t (gl bs) x)+if j≤x∧x < j+i then gl as j*gl bs (x - j) else 0
theorem zpo (as bs:List Int) (j x:Nat):psm as bs j bs.length x=psm as bs (j+1) 0 x:=by
 unfold psm;rw [if_neg (show ¬ (j+1≤x∧x < j+1+0) by lia),cT];show _=(sm j fun t=>gl as t*Xp t (gl bs) x)+gl as j*Xp j (gl bs) x;congr 1;rw [zgD];by_cases h1:x < j
 ·rw [if_neg #[O],if_pos h1,dG]
 ·rw [if_neg h1];by_cases h2:x < j+bs.length
  ·rw [if_pos ⟨#[O],h2⟩]
  ·rw [if_neg #[O],zbS (w:=bs) (y:=x - j) #[O],dG]
theorem zn1 {rs:List Int} {i x:Nat} {v:Int} (hi:i < rs.length):gl (rs.set i v) x=if x=i then v else gl rs x:=by
 unfold gl;rw [aO,aO];by_cases h:x=i
 ·subst h;rw [if_pos rfl,fj hi];rfl
 ·rw [if_neg h,dC (fun e=>h e.symm)]
theorem zkP {as:List Int} {j:Nat} (h:j < as.length):atI (as.map V.int) (j:Int)=some (.int (gl as j)):=zal (by rw [af,za7 h]; rfl)
theorem zcG:FnScope ["p","one","other","found","j","i"] ["p","one","other"] (zh zdd):=#[S]
theorem zjK {fd:FuncData} (T:Txt K mg t) (F:Fun K "_law_times" "_law_times" zdd t.l_times fd):FnOk P w K mg base CX0 1 t.l_times fd ["p","one","other"] (zjJ K):=by
 refine F.ok zcG (fun vs H Q E h=>?_) (fun mQ A outer s H vs Q E hr h=>?_)
 ·obtain⟨p,a,b,as,bs,rfl,_⟩:=h;rfl
 ·obtain⟨p,a,b,as,bs,rfl,ha,hb,a1,a2,b1,b2,p5,vZ,har,q⟩:=h;apply zaF; intro zX;refine⟨_,#[ze,#[zm,3,zcG.nd,#[A],#[zi,#[zcs],#[z0,#[ya,#[zf]]],#[zi,#[zap],#[zi,#[zH],#[zo,#[zq],T.len_,bP,#[ya,#[pvx,1]]],#[zo,#[zq],T.len_,bP,#[ya,#[pvx,2]]]],#[zf]]]],#[ze,#[zaD,bq,#[z9,T.range_,#[ya,#[zo,#[zq],T.len_,bP,#[ya,#[pvx,1]]]]],#[zg,4,zcG.nd,#[A]],#[zl,#[zaD,bq,#[z9,T.range_,#[ya,#[zo,#[zq],T.len_,bP,#[ya,#[pvx,2]]]]],#[zg,5,zcG.nd,#[A]],#[zl,#[zbp,#[zi,#[zI],#[zi,#[zH],#[zK,#[zB],#[pvx,3],#[zi,#[zH],#[pvx,4],#[pvx,5]]],#[zi,#[zU],#[zK,#[zB],#[pvx,1],#[pvx,4]],#[zK,#[zB],#[pvx,2],#[pvx,5]]]],#[pvx,0]],#[zgI,#[pvx,3],#[zi,#[zH],#[pvx,4],#[pvx,5]],set_list]]]]]],#[zl,#[zC,#[pvx,3]]]]],?_⟩;apply ze5; intro pZ oS;have pf:=bf;refine⟨by show 1≤sizeLine; lia,fun z hz=>?_⟩;have u0:=zb (o:=.lst [.int 0]) hz;have eN:(((as.map V.int).length:Nat):Int)+(((bs.map V.int).length:Nat):Int) - 1=((as.length+bs.length - 1:Nat):Int):=by rw [ab,ab]; lia
  have eT:(((as.length+bs.length - 1:Nat):Int)).toNat=as.length+bs.length - 1:=by lia
  refine (l5 rfl ⟨a,(l5 rfl ⟨.inl (me.of (u0 _ _ ha)),(l5 rfl ⟨b,(l5 rfl ⟨.inl (me.of (u0 _ _ hb)),(mv rfl rfl (mv rfl rfl ?_))⟩)⟩)⟩)⟩);show zoi (.ref z) (.int ((((as.map V.int).length:Nat):Int)+(((bs.map V.int).length:Nat):Int) - 1)) _ _;rw [eN];refine (ex3 z _ ([.int 0]) ⟨rfl,rfl,zc,#[O],#[O],by rw [eT]; show 1*_≤sizeLine; lia,fun fa Bw=>?_⟩);rw [eT,cS];have xC:=u0.free Bw;have u1:=u0.trans (zb (o:=.lst (ap (as.length+bs.length - 1) (V.int 0))) Bw);have f1:mh (mh H z (.lst [.int 0])) fa (.lst (ap (as.length+bs.length - 1) (V.int 0))) fa=some (.lst ((ap (as.length+bs.length - 1) (0:Int)).map V.int)):=by rw [zc,d8]
  generalize mh (mh H z (.lst [.int 0])) fa (.lst (ap (as.length+bs.length - 1) (V.int 0)))=H1 at u1 f1 ⊢;have BM:∀ x,gl (ap (as.length+bs.length - 1) (0:Int)) x=0:=fun x=>by
   by_cases h:x < as.length+bs.length - 1
   ·exact zbo (by rw [cC,if_pos h])
   ·exact zbS (by rw [aU]; lia)
  refine (l5 rfl ⟨a,(l5 rfl ⟨.inl (me.of (u1 _ _ ha)),(l5 rfl ⟨by rw [ab]; lia,by rw [ab]; lia,?_⟩)⟩)⟩);rw [ab,bC];refine zaN (lo:=0) (n:=as.length) (fun j σ H'=>∃ (rs:List Int) (e4 e5:Option V),σ = [some (.int p),some (.ref a),some (.ref b),some (.ref fa),e4,e5]∧zu H H'∧H' fa=some (.lst (rs.map V.int))∧rs.length=as.length+bs.length - 1∧(∀ c∈rs,0≤c∧c < p)∧∀ x,Cg p (gl rs x) (psm as bs j 0 x))
   ⟨_,none,none,rfl,u1,f1,aU,fun c hc=>by rw [eQ hc]; lia,fun x=>by rw [BM]; unfold psm; rw [if_neg #[O]]; exact Cg.refl _ _⟩ ?_ ?_
  ·rintro zD zT j σ H2 hj ⟨rs,e4,e5,rfl,s2,h2,oZ,yH,yb⟩;rw [show ((0:Int)+(j:Int))=(j:Int) from cq _];refine (l5 rfl ⟨b,(l5 rfl ⟨.inl (me.of (s2 _ _ hb)),(l5 rfl ⟨by rw [ab]; lia,by rw [ab]; lia,?_⟩)⟩)⟩);rw [ab,bC];refine zaN (lo:=0) (n:=bs.length) (fun i σ H'=>∃ (rs:List Int) (e5:Option V),σ = [some (.int p),some (.ref a),some (.ref b),some (.ref fa),some (.int (j:Int)),e5]∧zu H H'∧H' fa=some (.lst (rs.map V.int))∧rs.length=as.length+bs.length - 1∧(∀ c∈rs,0≤c∧c < p)∧∀ x,Cg p (gl rs x) (psm as bs j i x))
    ⟨rs,e5,rfl,s2,h2,oZ,yH,yb⟩ ?_ ?_
   ·rintro zD zT i σ H3 hi ⟨rs,e5,rfl,s3,h3,oZ,yH,yb⟩;rw [show ((0:Int)+(i:Int))=(i:Int) from cq _];have eji:(j:Int)+(i:Int)=((j+i:Nat):Int):=by lia
    have yp:j+i < rs.length:=by lia
    obtain⟨g0,g1⟩:=har _ (aA (za7 hj));refine (l5 rfl (l5 rfl (l5 rfl (mv rfl rfl (ex4 fa _ _ _ ⟨rfl,rfl,me.of h3,(by rw [eji]; exact zkP yp),(l5 rfl (l5 rfl (ex4 a _ _ _ ⟨rfl,rfl,me.of (s3 _ _ ha),zkP hj,(l5 rfl (l5 rfl (ex4 b _ _ _ ⟨rfl,rfl,me.of (s3 _ _ hb),zkP hi,(mv rfl rfl ⟨.inl ⟨#[O],#[O]⟩,(mv rfl rfl (l5 rfl (mv rfl rfl ⟨#[O],?_⟩)))⟩)⟩)))⟩)))⟩)))));refine (l5 rfl (l5 rfl (l5 rfl (mv rfl rfl (ex4 fa _ _ (j+i) ⟨rfl,rfl,h3,by rw [eji]; exact zgU (by rw [ab]; exact yp),?_⟩)))));refine⟨rs.set (j+i) ((gl rs (j+i)+gl as j*gl bs i) % p),(l5 rfl ⟨zah s3 xC,by rw [zc,je],by rw [f9]; exact oZ,fun c hc=>?_,fun x=>?_⟩)⟩
    ·rcases ga hc with h | h
     ·exact yH c h
     ·rw [h];exact⟨aQ _ #[O],aH _ #[O]⟩
    ·rw [zn1 yp];by_cases h:x=j+i
     ·subst h;rw [if_pos rfl];refine (Cg.emod p _).trans ?_;have h1:=yb (j+i);unfold psm at h1 ⊢;rw [if_neg #[O],cT] at h1;rw [if_pos #[O],df];exact h1.add (Cg.refl p _)
     ·rw [if_neg h];have h1:=yb x;unfold psm at h1 ⊢;by_cases h2:j≤x∧x < j+i
      ·rw [if_pos h2] at h1;rw [if_pos #[O]];exact h1
      ·rw [if_neg h2] at h1;rw [if_neg #[O]];exact h1
   ·rintro σ H3 ⟨rs,e5,rfl,s3,h3,oZ,yH,yb⟩;exact (ex3 rs _ _ ⟨rfl,s3,h3,oZ,yH,fun x=>by rw [← zpo]; exact yb x⟩)
  ·rintro σ H2 ⟨rs,e4,e5,rfl,s2,h2,oZ,yH,yb⟩;refine (l5 rfl (q fa rs H2 xC s2 h2 oZ yH fun x=>?_));have h1:=yb x;unfold psm at h1;rw [if_neg #[O],cT,← zpQ] at h1;exact h1
def zjL (K:ah):Sp:=fun vs H Q _=>∃ (p:Int) (k:Nat) (ca qa:Addr) (bs:List Addr) (rows:List (List Int)) (f:List Int),vs = [.int p,.ref ca,.ref qa]∧H ca=some (.tup (bs.map V.ref))∧zbB H bs rows∧1≤rows.length∧rows.length≤100∧(∀ r∈rows,1≤r.length∧r.length≤100∧∀ c∈r,0≤c∧c < p)∧H qa=some (.tup (f.map V.int))∧IsP p k f∧1≤k∧k≤5∧5≤p∧p≤97 ∧
 ∀ (l:Addr) (fs:List Int) (H':Hp),H l=none→zu H H'→H' l=some (.lst (fs.map V.int))→fs≠[]→(∀ c∈fs,0≤c∧c < p)→(∀ x,x < fs.length→Cg p (gl fs x) (AL k (gl f) rows.length (fun j i=>gl (rows.getD j []) i) x))→Q (.ref l) H'
theorem zn2 (r:List Int):Dg (gl r) r.length:=fun i hi=>zbS hi
theorem zbb:FnScope ["p","curve","polynomial","found","power","line","i","number"] ["p","curve","polynomial"] (zh zcl):=#[S]
theorem zjM {fd:FuncData} (T:Txt K mg t) (F:Fun K "_law_along" "_law_along" zcl t.l_along fd):FnOk P w K mg base CX0 2 t.l_along fd ["p","curve","polynomial"] (zjL K):=by
 obtain⟨vh,qd,oT⟩:=T.f_l_times;have sL:=zjK (P:=P) (w:=w) (base:=base) T qd;refine F.ok zbb (fun vs H Q E h=>?_) (fun mQ A outer s H vs Q E hr h=>?_)
 ·obtain⟨p,k,ca,qa,bs,rows,f,rfl,_⟩:=h;rfl
 ·obtain⟨p,k,ca,qa,bs,rows,f,rfl,Bp,hb,n1,hn,xv,hqa,hf,k1,k5,p5,vZ,q⟩:=h;apply zaF; intro zX;refine⟨_,#[ze,#[zm,3,zbb.nd,#[A],#[zi,#[zcs],#[z0,#[ya,#[zf]]],#[zi,#[zH],#[zo,#[zcg],T.max_,gk,#[ya,#[zO,(CompSc.of (N':=["line"]) (ix:=[none]) (zh zcl) ["p","curve","polynomial","found","power","line","i","number"] rfl rfl #[N]),#[zae],#[zgJ,#[pvx,1]],(fun _ _ _ _=>#[zg,0,(nd_ ["line"]),#[A]]),(fun _ _ _ _=>#[zz]),(fun _ _ _ _=>#[zo,#[zaz,(K)],T.len_,bP,#[ya,#[pvx,0]]])]]],#[zi,#[zU],#[zo,#[zq],T.len_,bP,#[ya,#[pvx,1]]],#[zo,#[zq],T.len_,bP,#[ya,#[pvx,2]]]]]]],#[ze,#[zm,4,zbb.nd,#[A],#[z0,#[ya,#[zf]]]],#[ze,#[zaD,bq,#[zgJ,#[pvx,1]],#[zg,5,zbb.nd,#[A]],#[ze,#[zaD,bq,#[zcN,T.enumerate_,#[ya,#[zp,sL,(hr.mono #[D]),T.m_l_times,qd.kp,oT,#[zN],#[za,#[pvx,0],#[za,#[zaE,#[zcr],T.list_,kJ,#[ya,#[pvx,5]]],#[ya,#[pvx,4]]]]]]],#[zbf,#[zj,#[zg,6,zbb.nd,#[A]],#[zj,#[zg,7,zbb.nd,#[A]],#[zG]]]],#[zl,#[zbp,#[zi,#[zI],#[zi,#[zH],#[zK,#[zB],#[pvx,3],#[pvx,6]],#[pvx,7]],#[pvx,0]],#[zgI,#[pvx,3],#[pvx,6],set_list]]]],#[zl,#[zm,4,zbb.nd,#[A],#[zp,sL,(hr.mono #[D]),T.m_l_times,qd.kp,oT,#[zN],#[za,#[pvx,0],#[za,#[pvx,4],#[ya,#[zaE,#[zcr],T.list_,kJ,#[ya,#[pvx,2]]]]]]]]]]],#[zl,#[zC,#[pvx,3]]]]]],?_⟩;apply zja; intro uL pZ oS;have pf:=bf;have sU:=hb.length;have xA:f.length=k:=hf.1;refine⟨by show 1≤sizeLine; lia,fun z hz=>?_⟩;have u0:=zb (o:=.lst [.int 0]) hz;have f0:mh H z (.lst [.int 0]) z=some (.lst [.int 0]):=zc;generalize mh H z (.lst [.int 0])=H0 at u0 f0 ⊢;have DF:=u0 _ _ Bp;have hb0:=hb.same u0;refine (l5 rfl ⟨ca,rfl,⟨_,mE.of DF⟩,zd6 (K:=K) (xs:=bs.map V.ref) (fs:=(zaA rows).map V.int) (mE.of DF) (by unfold zaA; rw [ab,ab,ab]; lia) (by rw [ab]; lia) ?_ ?_⟩)
  ·intro j x y R B hx hy hR;obtain⟨b,rfl,hbj⟩:=zQ hx;obtain⟨r,m8,nJ⟩:=Paired.get hb0 hbj;have Av:y = .int (r.length:Int):=by
    unfold zaA at hy;rw [af,af,m8] at hy;exact (aV hy).symm
   subst Av;refine gY (l5 rfl ⟨b,(l5 rfl ⟨.inr (mE.of nJ),?_⟩)⟩);rw [ab];exact hR
  intro D hD;have u1:=zb (o:=.lst ((zaA rows).map V.int)) hD;have mV:zaA rows≠[]:=fun e=>by
   have:=congrArg fk e;unfold zaA at this;rw [ab] at this;have:rows.length=0:=this;lia
  refine⟨D,zaA rows,rfl,me.of zc,mV,fun M Bn Es=>?_⟩;obtain⟨W,rfl,hW⟩:∃ W:Nat,M=(W:Int)∧∀ r∈rows,r.length≤W:=by
   obtain⟨r,m8,e⟩:=az.mp Bn;refine⟨r.length,e.symm,fun r2 h2=>?_⟩;have:=Es _ (az.mpr ⟨r2,h2,rfl⟩);lia
  have hW1:1≤W∧W≤100:=by
   obtain⟨r,m8,e⟩:=az.mp Bn;have:=xv r m8;lia
  have vg:=u0.trans u1;generalize mh H0 D (.lst ((zaA rows).map V.int))=H1 at u1 vg ⊢;have hnk:rows.length*k≤500:=aT (eK hn k5) #[D];have eN:(W:Int)+(((bs.map V.ref).length:Nat):Int)*(((f.map V.int).length:Nat):Int)=((W+rows.length*k:Nat):Int):=by rw [ab,ab,xA,sU]; push_cast; rfl
  have eT:(((W+rows.length*k:Nat):Int)).toNat=W+rows.length*k:=by lia
  refine (l5 rfl ⟨ca,(l5 rfl ⟨.inr (mE.of (vg _ _ Bp)),(l5 rfl ⟨qa,(l5 rfl ⟨.inr (mE.of (vg _ _ hqa)),(mv rfl rfl ⟨.inl ⟨by rw [ab]; lia,by rw [ab]; lia⟩,(mv rfl rfl ?_)⟩)⟩)⟩)⟩)⟩);show zoi (.ref z) (.int ((W:Int)+(((bs.map V.ref).length:Nat):Int)*(((f.map V.int).length:Nat):Int))) _ _;rw [eN];refine (ex3 z _ ([.int 0]) ⟨rfl,rfl,u1 _ _ f0,#[O],#[O],by rw [eT]; show 1*_≤sizeLine; lia,fun fa Bw=>?_⟩);rw [eT,cS];obtain⟨N,hN⟩:∃ N,W+rows.length*k=N:=⟨_,rfl⟩;rw [hN];have xC:=vg.free Bw;have DD:=vg.trans (zb (o:=.lst (ap N (V.int 0))) Bw);have f2:mh H1 fa (.lst (ap N (V.int 0))) fa=some (.lst ((ap N (0:Int)).map V.int)):=by rw [zc,d8]
  generalize mh H1 fa (.lst (ap N (V.int 0)))=H2 at DD f2 ⊢;have BM:∀ x,gl (ap N (0:Int)) x=0:=fun x=>by
   by_cases h:x < N
   ·exact zbo (by rw [cC,if_pos h])
   ·exact zbS (by rw [aU]; lia)
  refine⟨by show 1≤sizeLine; lia,fun pa EJ=>?_⟩;have u3:=zb (o:=.lst [.int 1]) EJ;have EK:pa≠fa:=fun e=>by rw [e,f2] at EJ; cases EJ
  refine⟨_,rfl,ca,rfl,⟨_,mE.of ((DD.trans u3) _ _ Bp)⟩,zhN (K:=K) (a:=ca) (xs:=bs.map V.ref) (fun t σ H'=>∃ (pa:Addr) (fs pw:List Int) (e5 e6 e7:Option V),σ = [some (.int p),some (.ref ca),some (.ref qa),some (.ref fa),some (.ref pa),e5,e6,e7]∧zu H H'∧H' fa=some (.lst (fs.map V.int))∧H' pa=some (.lst (pw.map V.int))∧pa≠fa∧(fs.length=N∧∀ c∈fs,0≤c∧c < p)∧(pw.length=1+t*(k - 1)∧∀ c∈pw,0≤c∧c < p)∧(∀ x,x < N→Cg p (gl fs x) (sm t fun u=>itq k (gl f) u (gl (rows.getD u [])) x))∧∀ x,Cg p (gl pw x) (itq k (gl f) t zd0 x))
   ⟨pa,_,[1],none,none,none,rfl,DD.trans u3,u3 _ _ f2,zc,EK,⟨aU,fun c hc=>by rw [eQ hc]; lia⟩,⟨by rw [kK]; rfl,fun c hc=>by rw [aW.mp hc]; lia⟩,fun x _=>by rw [BM]; exact Cg.refl _ _,fun x=>by
    show Cg p (gl [1] x) (zd0 x);unfold zd0;cases x with
    | zero=>exact Cg.refl _ _
    | succ x=>exact Cg.refl _ _⟩ (fun t σ H' _ ⟨_,_,_,_,_,_,_,s',_⟩=>mE.of (s' _ _ Bp)) ?_ ?_⟩
  ·rintro zD zT t x σ H4 hx ⟨pa,fs,pw,e5,e6,e7,rfl,s4,EL,DG,EK,⟨yI,wN⟩,⟨n5,Bc⟩,Cb,Hm⟩;obtain⟨lb,rfl,Ey⟩:=zQ hx;obtain⟨r,m8,nJ⟩:=Paired.get hb Ey;obtain⟨r1,r100,yH⟩:=xv r (aA m8);have hrW:=hW r (aA m8);have htn:=(au.mp m8).1;have er:rows.getD t []=r:=by rw [aO,m8]; rfl
   have htk:t*(k - 1)≤100*4:=eK #[O] #[O];have Hn:(t+1)*(k - 1)≤rows.length*k:=eK #[O] #[O];rw [fu] at Hn;refine (l5 rfl (l5 rfl ⟨lb,(l5 rfl ⟨.inr (mE.of (s4 _ _ nJ)),fun x1 xX=>?_⟩)⟩));have w1:=zb (o:=.lst (r.map V.int)) xX;refine (l5 rfl (ex5 p x1 pa r pw ⟨rfl,zc,w1 _ _ DG,#[O],#[O],#[O],#[O],p5,vZ,yH,fun ra rs H5 ue w2 h5r oZ hrsr yb=>?_⟩));have B8:=w1.trans w2;have hrf:ra≠fa:=fun e=>by
    have:=w1 _ _ EL;rw [← e,ue] at this;cases this
   have h5f:=B8 _ _ EL;have DH:∀ x,Cg p (gl rs x) (itq k (gl f) t (gl r) x):=fun x=>by
    refine (yb x).trans ((znx Hm x).trans (Cg.of_eq ?_));rw [ziY,zeX (zn2 r)]
   have s5:zu H (hide H5 fa):=fun a o e=>zcw ((s4.trans B8) _ _ e) (fun z=>by rw [z,xC] at e; cases e)
   have Bx:=zcw h5r hrf;have Ho:=zcw (B8 _ _ DG) EK;have hhf:hide H5 fa fa=none:=by unfold hide; rw [if_pos rfl]
   refine⟨ra,_,rfl,me.of h5r,zeF (n:=rs.length) (fun i σ H'=>∃ (fs:List Int) (e6 e7:Option V),σ = [some (.int p),some (.ref ca),some (.ref qa),some (.ref fa),some (.ref pa),some (.ref lb),e6,e7]∧zu (hide H5 fa) H'∧H' fa=some (.lst (fs.map V.int))∧(fs.length=N∧∀ c∈fs,0≤c∧c < p)∧∀ x,x < N→Cg p (gl fs x) ((sm t fun u=>itq k (gl f) u (gl (rows.getD u [])) x)+if x < i then gl rs x else 0))
    ⟨fs,_,_,rfl,zh7 _ _,h5f,⟨yI,wN⟩,fun x hx=>by rw [if_neg #[O],cT]; exact Cb x hx⟩ ?_ ?_ ?_ ?_⟩
   ·rintro i σ H6 hi ⟨fs,e6,e7,rfl,s6,_⟩;exact⟨_,.int rs[i],me.of (s6 _ _ Bx),by rw [af,aj hi]; rfl⟩
   ·rintro σ H6 ⟨fs,e6,e7,rfl,s6,_⟩;exact⟨_,me.of (s6 _ _ Bx),by rw [ab]; exact ag _⟩
   ·rintro zD zT i x σ H6 H7 hi ⟨fs,e6,e7,rfl,s6,EM,⟨By,Bz⟩,BA⟩ ⟨T,v,hT,rfl,rfl,hv⟩;obtain⟨y,rfl,hy⟩:=zaj (hv _ (me.of (s6 _ _ Bx)));have hyg:gl rs i=y:=zbo hy;have uT:=zb (o:=.tup [.int (i:Int),.int y]) hT;refine⟨T,_,rfl,mE.of zc,rfl,_,_,rfl,_,_,rfl,rfl,?_⟩;have s7:=s6.trans uT;have Hq:=uT _ _ EM;generalize mh H6 T (.tup [.int (i:Int),.int y])=H7 at uT s7 Hq ⊢;have Dl:i < fs.length:=by lia
    refine (l5 rfl (l5 rfl (ex4 fa _ _ _ ⟨rfl,rfl,me.of Hq,zkP Dl,(l5 rfl (mv rfl rfl (l5 rfl (mv rfl rfl ⟨#[O],?_⟩))))⟩)));refine (l5 rfl (l5 rfl (ex4 fa _ _ i ⟨rfl,rfl,Hq,zgU (by rw [ab]; exact Dl),?_⟩)));refine (ex3 (fs.set i ((gl fs i+y) % p)) _ _ ⟨rfl,zah s7 hhf,by rw [zc,je],⟨by rw [f9]; exact By,fun c hc=>?_⟩,fun x hx=>?_⟩)
    ·rcases ga hc with h | h
     ·exact Bz c h
     ·rw [h];exact⟨aQ _ #[O],aH _ #[O]⟩
    ·rw [zn1 Dl];have h1:=BA x hx;by_cases h:x=i
     ·subst h;rw [if_neg #[O],cT] at h1;rw [if_pos rfl,if_pos #[O],hyg];exact (Cg.emod p _).trans (h1.add (Cg.refl p _))
     ·rw [if_neg h];by_cases h2:x < i
      ·rw [if_pos h2] at h1;rw [if_pos #[O]];exact h1
      ·rw [if_neg h2] at h1;rw [if_neg #[O]];exact h1
   ·rintro σ H6 ⟨fs,e6,e7,rfl,s6,EM,⟨By,Bz⟩,BA⟩;have Hr:=(s5.trans s6) _ _ hqa;refine (l5 rfl (l5 rfl (l5 rfl ⟨qa,(l5 rfl ⟨.inr (mE.of Hr),fun x2 xl=>?_⟩)⟩)));have w3:=zb (o:=.lst (f.map V.int)) xl;refine (ex5 p pa x2 pw f ⟨rfl,w3 _ _ (s6 _ _ Ho),zc,#[O],#[O],#[O],#[O],p5,vZ,Bc,fun pb rs2 H8 hpb w4 h8 Gx hr8 Bg=>?_⟩);have w34:=w3.trans w4;have Hs:pb≠fa:=fun e=>by
     have:=w3 _ _ EM;rw [← e,hpb] at this;cases this
    refine (ex6 pb fs rs2 _ _ _ ⟨rfl,s5.trans (s6.trans w34),w34 _ _ EM,h8,Hs,⟨By,Bz⟩,⟨by rw [Gx,n5,xA,fu]; lia,hr8⟩,fun x hx=>?_,fun x=>?_⟩)
    ·refine (BA x hx).trans ?_;show Cg p _ ((sm t fun u=>itq k (gl f) u (gl (rows.getD u [])) x)+itq k (gl f) t (gl (rows.getD t [])) x);refine (Cg.refl p _).add ?_;rw [er];by_cases h:x < rs.length
     ·rw [if_pos h];exact DH x
     ·rw [if_neg h];have:=DH x;rw [zbS (w:=rs) (y:=x) #[O]] at this;exact this
    ·refine (Bg x).trans ?_;have e1:mq 0 pw.length (gl pw) (gl f)=mq 0 k (gl f) (gl pw):=by
      have:=zpm (zn2 pw) (zn2 f);rw [xA] at this;exact this
     rw [e1];exact znx Hm x
  ·rintro σ H4 ⟨pa,fs,pw,e5,e6,e7,rfl,s4,EL,DG,EK,⟨yI,wN⟩,⟨n5,Bc⟩,Cb,Hm⟩;refine (l5 rfl (q fa fs H4 xC s4 EL (fun e=>by rw [e] at yI; simp at yI; lia) wN fun x hx=>?_));rw [znZ];have:=Cb x #[O];rw [ab,sU] at this;exact this
end
end My
end
section
namespace My
open PySem PySem.Spec L2 PyProof.Rows
noncomputable def isAt (H:Hp) (q:List Int) (u:Value):Bool:=@decide (∃ b,u = .ref b∧H b=some (.tup (q.map V.int))) (ji _)
theorem zkQ {p q:List Int} (h:some (HO.tup (p.map V.int))=some (HO.tup (q.map V.int))):p=q :=
 (List.map_inj_right fun a b z=>by simpa using z).mp (HO.tup.inj (aV h))
theorem zkR {H:Hp} {q q':List Int} {b:Addr} (h:H b=some (.tup (q'.map V.int))):isAt H q (.ref b)=decide (q'=q):=by
 unfold isAt;rw [cV,@decide_eq_true_iff _ (ji _),decide_eq_true_iff];constructor
 ·rintro⟨b',eb,hb⟩;cases eb;exact zkQ (h.symm.trans hb)
 ·rintro rfl;exact⟨b,rfl,h⟩
theorem zeo {H:Hp} {q:List Int}:∀ {rs:List Addr} {qs:List (List Int)} {us:List Value},zbB H rs qs→zS (rs.map V.ref) us→us.any (isAt H q)=decide (q∈qs)
 | _,_,_,.nil,.nil=>by simp
 | r :: rs,q' :: qs,u :: us,.cons h t,.cons ru tu=>by
  have ih:=zeo (q:=q) t tu;cases ru;rw [fS,ih,zkR h,cV,lD,decide_eq_true_iff,decide_eq_true_iff,decide_eq_true_iff,aF];exact⟨fun z=>z.imp Eq.symm id,fun z=>z.imp Eq.symm id⟩
theorem zl0 {X:Cx} {K:ah} (hK:X.K=K) (hu:X.A.units+20 < cLine):OpR X (compareOp .NotIn) (fun x y H Q=>∃ (a l:Addr) (q:List Int) (rs:List Addr) (qs:List (List Int)),x = .ref a∧y = .ref l∧H a=some (.tup (q.map V.int))∧me K H l (rs.map V.ref)∧zbB H rs qs∧Q (.bl (!decide (q∈qs))) H):=by
 subst hK;intro l3 s σ H x y v u Q I rx ry h;obtain⟨a,l,q,rs,qs,rfl,rfl,ha,hl,hT,hQ⟩:=h;cases rx;cases ry;obtain⟨mf,r,pl,hz⟩:=I.list hl;refine SeqAt.notIn_listAt (isAt H q) pl.isList (fun w hw=>?_) ⟨.bl _,H,I,rfl,?_⟩
 ·have hw:w∈mf:=by simpa using hw
  obtain⟨j,hj⟩:=c7.mp hw;obtain⟨yl,tV⟩:=au.mp hj;obtain⟨z,rK,rz⟩:=r.getE (j:=j) yl;obtain⟨b,rfl,hb⟩:=zQ rK;obtain⟨q',pH,hH⟩:=Paired.get hT hb;have xm:mf.toArray[j]=w:=by simpa using tV
  rw [xm] at rz;cases rz;have hH:H b=some (.tup (q'.map V.int)):=hH;rw [zkR hH];by_cases e:b=a
  ·subst e;rw [zkQ (hH.symm.trans ha),decide_eq_true rfl];exact (EqD.same (K:=X.K) (H:=H) (d:=8) (a:=b)).at I X.A.in1 (.ref b) (.ref b) rfl rfl (by simp only [dw]; lia)
  ·have e2:=(EqD.tups (d:=8) e (mE.of hH) (mE.of ha) zmi).at I X.A.in1 (.ref b) (.ref a) rfl rfl (by simp only [dw]; lia);have e4:((av (min (q'.map V.int).length (q.map V.int).length)).all (fun j=>decide (q'[j]? = q[j]?)) && (q'.map V.int).length == (q.map V.int).length)=decide (q'=q):=by
    rw [ab,ab,cV];simp only [fJ,fK,aZ,decide_eq_true_eq,beq_iff_eq];constructor
    ·rintro⟨h1,h2⟩;refine cU fun j=>?_
     by_cases hj:j < q'.length
     ·exact h1 j #[O]
     ·rw [bV #[O],bV #[O]]
    ·rintro rfl;exact⟨fun _ _=>rfl,rfl⟩
   rw [← e4];exact e2
 ·rw [List.any_toArray,zeo hT r];exact hQ
end My
end
section
namespace My
open PySem L2 PyProof.Rows
section
variable {P:Program} {w:World} {K:ah} {mg:Str→Option Value} {base:Heap} {t:Adr}
theorem zeg:FnScope ["code","row","polynomial","places","some"] ["code","row","polynomial"] (zh zcm):=#[S]
theorem zl1 {fd:FuncData} (T:Txt K mg t) (F:Fun K "_law_fits" "_law_fits" zcm t.l_fits fd):FnOk P w K mg base CX0 2 t.l_fits fd ["code","row","polynomial"] (zle K):=by
 obtain⟨qT,nW,nX⟩:=T.f_l_value;have p4:=zfC (P:=P) (w:=w) (base:=base) T nW;refine F.ok zeg (fun vs H Q E h=>?_) (fun mQ A outer s H vs Q E hr h=>?_)
 ·obtain⟨c,tt,ra,po,p,k,pl,mK,rw,rfl,_⟩:=h;rfl
 ·obtain⟨c,tt,ra,po,p,k,pl,mK,rw,rfl,hc,ue,oZ,Be,p0,p1,n5,hn,q⟩:=h;apply zaF; intro zX;refine⟨_,#[ze,#[zm,3,zeg.nd,(cB rfl),#[zK,#[zdp],#[pvx,0],#[zf]]],#[ze,#[zaO,4,zeg.nd,#[A],(CompSc.of (N':=["number","row"]) (ix:=[none,some 1]) (zh zcm) ["code","row","polynomial","places","some"] rfl rfl #[N]),#[zae],#[z9,T.range_,#[ya,#[zo,#[zq],T.len_,bP,#[ya,#[pvx,1]]]]],(fun _ _ _ _=>#[zg,0,(nd_ ["number","row"]),#[A]]),(fun _ _ _ _=>#[zaJ,#[zL,#[zgK],#[zK,#[zaQ,(K)],#[pvx,1],#[pvx,0]],#[zd1],(zZ _)]]),(fun _ _ _ _=>#[pvx,0])],#[zl,#[zC,#[zO,(CompSc.of (N':=["number","code","polynomial","places","row"]) (ix:=[none,some 0,some 2,some 3,some 1]) (zh zcm) ["code","row","polynomial","places","some"] rfl rfl #[N]),#[zae],#[zY,#[pvx,4]],(fun _ _ _ _=>#[zg,0,(nd_ ["number","code","polynomial","places","row"]),#[A]]),(fun _ _ _ _=>#[zaJ,#[zL,#[zdh],#[zp,p4,(hr.mono #[D]),T.m_l_value,nW.kp,nX,#[zN],#[za,#[zK,#[zjX,(K)],#[pvx,1],#[zf]],#[za,#[pvx,2],#[ya,#[zK,#[zjX,(K)],#[pvx,3],#[pvx,0]]]]]],#[zK,#[zaQ,(K)],#[pvx,4],#[pvx,0]],(zZ _)]]),(fun _ _ _ _=>#[pvx,0])]]]]],?_⟩;apply ze5; intro pZ oS;refine (l5 rfl (ex4 c _ _ _ ⟨rfl,rfl,mE.of hc.1,rfl,?_⟩));refine (l5 rfl ⟨ra,(l5 rfl ⟨.inl (me.of ue),(l5 rfl ⟨by rw [ab]; lia,by rw [ab]; lia,?_⟩)⟩)⟩);rw [ab,bC];refine zV (n:=rw.length) (fun i ys H'=>ys=(zbR rw i).map V.int∧H'=H) ⟨rfl,rfl⟩ (fun i ys H' hi _=>hi) (fun ys H' _=>ag _) ?_ ?_
  ·rintro i xx ys H4 H5 hi ⟨rfl,rfl⟩ ⟨rfl,rfl⟩;obtain⟨o,ho⟩:∃ o,rw[i]? = some o:=⟨rw[i]'#[O],#[M]⟩;have nJ:atI (rw.map pK) (0+(i:Int))=some (pK o):=by
    rw [cq];exact zal (by rw [af,ho]; rfl)
   refine (l5 rfl (l5 rfl (ex4 ra _ _ _ ⟨rfl,rfl,me.of ue,nJ,rfl,(l5 rfl ?_)⟩)));have hl:=zdG rw i;rw [zjl,ho,am];refine zaM (fun h1=>(l5 rfl ⟨zad (by rw [ab]; lia),?_,rfl⟩)) (fun h1=>⟨?_,rfl⟩)
   ·cases o with
    | none=>exact absurd h1 (by simp [pK])
    | some z=>rw [cq]; rfl
   ·cases o with
    | none=>simp
    | some z=>exact absurd (by simp [pK]) h1
  ·rintro ys H4 D ⟨rfl,rfl⟩ hD;have sD:=zb (o:=.lst ((zbR rw rw.length).map V.int)) hD;have Ht:mh H4 D (.lst ((zbR rw rw.length).map V.int)) D=some (.lst ((zbR rw rw.length).map V.int)):=zc;generalize mh H4 D (.lst ((zbR rw rw.length).map V.int))=H5 at sD Ht ⊢;have pf:=zdG rw rw.length;refine (l5 rfl ⟨D,rfl,⟨_,me.of Ht⟩,zd7 (K:=K) (xs:=(zbR rw rw.length).map V.int) (kp:=zql p pl rw mK) (f:=id) (me.of Ht) (by rw [ab]; lia) ?_ ?_⟩)
   ·intro j xx R B hx hR;obtain⟨z,rfl,hz⟩:=zaj hx;obtain⟨m,rfl,hm⟩:=zlh (aA hz);obtain⟨o,ho⟩:∃ o,rw[m]? = some o:=⟨rw[m]'#[O],#[M]⟩;obtain⟨x,hx⟩:∃ x,pl[m]? = some x:=⟨pl[m]'#[O],#[M]⟩;obtain⟨x0,x1⟩:=n5 x (aA hx);refine (l5 rfl (ex4 c _ _ _ ⟨rfl,rfl,mE.of (sD _ _ hc.1),rfl,(l5 rfl (l5 rfl (l5 rfl (ex4 tt _ _ (.int x) ⟨rfl,rfl,mE.of (sD _ _ hc.2),zal (by rw [af,hx]; rfl),p,x,po,mK,rfl,.inr (mE.of (sD _ _ Be)),p0,p1,x0,x1,(l5 rfl (l5 rfl (ex4 ra _ _ (pK o) ⟨rfl,rfl,me.of (sD _ _ ue),zal (by rw [af,ho]; rfl),zlf o _,(l5 rfl ?_)⟩)))⟩))))⟩));have e:zql p pl rw mK (.int (m:Int))=decide (V.int (zt p x mK)=pK o):=by
     show zcI p pl rw mK ((m:Int)).toNat=_;rw [bC,zh8 hx ho];exact decide_eq_decide.mpr ⟨fun e=>e.symm,fun e=>e.symm⟩
    rw [e] at hR;refine zaM (fun h1=>(l5 rfl ?_)) (fun h1=>?_)
    ·rw [if_pos h1] at hR;exact hR
    ·rw [if_neg h1] at hR;exact hR
   ·intro D2 rO;refine q D2 _ (sD.free rO) (sD.trans (zb rO)) ?_;rw [zc,zlg,oZ]
end
section
variable {P:Program} {w:World} {K:ah} {mg:Str→Option Value} {base:Heap} {t:Adr}
theorem zkS:∀ {pl:List Int} {rw:List (Option Int)},rw.length=pl.length→(mS pl rw).length=(rw.filter lU).length
 | [],[],_=>rfl
 | [],_ :: _,h=>by simp at h
 | _ :: _,[],h=>by simp at h
 | x :: pl,o :: rw,h=>by
  have ih:=zkS (pl:=pl) (rw:=rw) (by simpa using h);cases o with
  | none=>exact ih
  | some y =>
   show (mS pl rw).length+1=(rw.filter lU).length+1;rw [ih]
theorem zn3 {H:Hp} {Q:VK} {a b:Addr} {rs rs':List Addr} {qs:List (List Int)} (ha:H a=some (.lst (rs.map V.ref))) (hb:H b=some (.lst (rs'.map V.ref))) (h1:zbB H rs qs) (h2:zbB H rs' qs) (q:Q (.bl false) H):zrm K true (.ref a) (.ref b) H Q:=by
 have l1:=h1.length;have l2:=h2.length;refine⟨a,b,_,_,rfl,rfl,.inl ⟨me.of ha,me.of hb⟩,.inr ⟨by rw [ab,ab]; lia,fun _=>true,zo2 h1 h2,?_⟩⟩;have:(av (rs.map V.ref).length).all (fun _=>true)=true:=by simp
 rw [this];exact q
theorem zn4 (m:Nat):2*tri m=m*(m+1):=by
 unfold tri;have:m*(m+1) % 2=0:=by
  rcases iM m with h | h
  ·rw [jE,h]; simp
  ·rw [jE,Nat.add_mod,h]
 lia
theorem za1:FnScope ["script","code","p","k","places","row","n","plan","good","m","size","curve","t","roots","near","one"] ["script"] (zh zcn):=#[S]
theorem zqY {fd:FuncData} (T:Txt K mg t) (F:Fun K "law" "law" zcn t.law fd):FnOk P w K mg base CX0 8 t.law fd ["script"] (zgV K):=by
 obtain⟨wq,um,rk⟩:=T.f_l_code;have xD:=zlM (P:=P) (w:=w) (base:=base) T um;obtain⟨xE,vI,tH⟩:=T.f_l_row;have yJ:=znE (P:=P) (w:=w) (base:=base) T vI;obtain⟨pq,mR,mU⟩:=T.f_l_draws;have nh:=zdv (P:=P) (w:=w) (base:=base) T mR;obtain⟨tJ,qB,oM⟩:=T.f_curve_for;have uo:=zhz (P:=P) (w:=w) (base:=base) T qB;obtain⟨uk,pR,pS⟩:=T.f_bound;have tG:=ziX (P:=P) (w:=w) (base:=base) T pR;obtain⟨xF,vJ,tL⟩:=T.f_reach;have yK:=znX (P:=P) (w:=w) (base:=base) T vJ;obtain⟨uq,rm,pA⟩:=T.f_roots_of;have vi:=ziS (P:=P) (w:=w) (base:=base) T rm;obtain⟨ur,rn,pB⟩:=T.f_all_near;have vj:=ziT (P:=P) (w:=w) (base:=base) T rn;obtain⟨vm,sM,qe⟩:=T.f_l_along;have wu:=zjM (P:=P) (w:=w) (base:=base) T sM;obtain⟨wx,uu,rq⟩:=T.f_l_fits;have xG:=zl1 (P:=P) (w:=w) (base:=base) T uu;refine F.ok za1 (fun vs H Q E h=>?_) (fun mQ A outer s H vs Q E hr h=>?_)
 ·obtain⟨a,ns,rfl,_⟩:=h;rfl
 ·obtain⟨a,ns,rfl,hS,mB,q⟩:=h;have hu:(A.deeper (envOfC (bK "law") (zh zcn) s.heap.objs.size t.law mQ)).units+20 < cLine:=by have:=hr.units; lia
  apply zaF; intro zX;refine⟨_,#[ze,#[zm,1,za1.nd,(cB rfl),#[zp,xD,(hr.mono #[D]),T.m_l_code,um.kp,rk,#[zN],#[za,#[pvx,0],by exact #[za,#[zf],#[za,#[zf],#[ya,#[zf]]]]]]],#[ze,#[zbp,#[pvx,1],#[zbf,#[zj,#[zg,2,za1.nd,#[A]],#[zj,#[zg,3,za1.nd,(cB rfl)],#[zj,#[zg,4,za1.nd,#[A]],#[zG]]]]]],#[ze,#[zm,5,za1.nd,(cB rfl),#[zp,yJ,(hr.mono #[D]),T.m_l_row,vI.kp,tH,#[zN],#[za,#[pvx,0],#[za,#[zf],#[ya,#[pvx,1]]]]]],#[ze,#[zm,6,za1.nd,(cB rfl),#[zo,#[zq],T.len_,bP,#[ya,#[zO,(CompSc.of (N':=["entry"]) (ix:=[none]) (zh zcn) ["script","code","p","k","places","row","n","plan","good","m","size","curve","t","roots","near","one"] rfl rfl #[N]),#[zae],#[zY,#[pvx,5]],(fun _ _ _ _=>#[zg,0,(nd_ ["entry"]),#[A]]),(fun _ _ _ _=>#[zaJ,#[zL,#[zgK],#[pvx,0],#[zd1],(zZ _)]]),(fun _ _ _ _=>#[pvx,0])]]]],#[ze,#[zbm,(@PW.pt _ _ _ #[zpq,#[zL,#[zdh],#[pvx,3],#[zf],(zZ _)],#[zl3,#[zL,#[zdh],#[pvx,6],#[zf],(zZ _)]]]),#[zl,#[zC,#[zf6]]],#[zaw]],#[ze,#[zm,7,za1.nd,#[A],#[zp,nh,(hr.mono #[D]),T.m_l_draws,mR.kp,mU,#[zN],#[za,#[pvx,0],by exact #[za,#[zf],#[za,#[zf],#[ya,#[zf]]]]]]],#[ze,#[zaO,8,za1.nd,#[A],(CompSc.of (N':=["m","n"]) (ix:=[none,some 6]) (zh zcn) ["script","code","p","k","places","row","n","plan","good","m","size","curve","t","roots","near","one"] rfl rfl #[N]),#[zae],#[zY,#[z0,#[zcP,#[za,#[zf],#[za,#[zf],#[ya,#[zf]]]]]]],(fun _ _ _ _=>#[zg,0,(nd_ ["m","n"]),#[A]]),(fun _ _ _ _=>#[zaJ,#[zL,(@zq9 _),#[zi,#[zaX],#[zi,#[zU],#[zi,#[zU],#[pvx,1],#[pvx,0]],#[zi,#[zH],#[pvx,0],#[zf]]],#[zf]],#[zf],(zZ _)]]),(fun _ _ _ _=>#[pvx,0])],#[ze,#[zaD,bq,#[zY,#[z0,#[za,#[zK,#[zB],#[pvx,8],#[zi,#[zI],#[zK,#[zB],#[pvx,7],#[zf]],#[zo,#[zq],T.len_,bP,#[ya,#[pvx,8]]]]],#[ya,#[zK,#[zB],#[pvx,8],#[zi,#[zI],#[zK,#[zB],#[pvx,7],#[zf]],#[zo,#[zq],T.len_,bP,#[ya,#[pvx,8]]]]]]]]],#[zg,9,za1.nd,#[A]],#[ze,#[zbp,#[zp,uo,(hr.mono #[D]),T.m_curve_for,qB.kp,oM,#[zN],#[za,#[pvx,1],#[za,#[pvx,5],#[ya,#[pvx,9]]]]],#[zbf,#[zj,#[zg,10,za1.nd,#[A]],#[zj,#[zg,11,za1.nd,#[A]],#[zG]]]]],#[ze,#[zbm,#[zL,#[ze2],#[pvx,10],#[zp,tG,(hr.mono #[D]),T.m_bound,pR.kp,pS,#[zN],#[za,#[pvx,6],#[za,#[pvx,3],#[ya,#[pvx,9]]]]],(zZ _)],#[zl,#[zC,#[zf6]]],#[zaw]],#[ze,#[zm,12,za1.nd,(cB rfl),#[zp,yK,(hr.mono #[D]),T.m_reach,vJ.kp,tL,#[zN],#[za,#[pvx,6],#[za,#[pvx,3],#[ya,#[pvx,9]]]]]],#[ze,#[zm,13,za1.nd,#[A],#[zp,vi,(hr.mono #[D]),T.m_roots_of,rm.kp,pA,#[zN],#[za,#[pvx,2],#[za,#[pvx,3],#[ya,#[pvx,11]]]]]],#[ze,#[zm,14,za1.nd,#[A],#[zp,vj,(hr.mono #[D]),T.m_all_near,rn.kp,pB,#[zN],#[za,#[pvx,1],#[za,#[pvx,5],#[ya,#[zo,#[zd2],T.max_,gk,#[za,#[pvx,3],#[ya,#[pvx,12]]]]]]]]],#[ze,#[zaD,bq,#[zY,#[pvx,14]],#[zg,15,za1.nd,#[A]],#[zl,#[zbm,(@PW.pt _ _ _ #[zpq,#[zL,(zl0 (K:=K) rfl hu),#[pvx,15],#[pvx,13],(by with_unfolding_all rfl)],#[zl3,#[zL,#[ze2],#[zo,#[zcg],T.max_,gk,#[ya,#[zp,wu,(hr.mono #[D]),T.m_l_along,sM.kp,qe,#[zN],#[za,#[pvx,2],#[za,#[pvx,11],#[ya,#[pvx,15]]]]]]],#[zf],(zZ _)]]]),#[zl,#[zC,#[zf6]]],#[zaw]]]],#[zl,#[zbm,#[zL,(@zqe _ hu),#[zO,(CompSc.of (N':=["one","code","row","k","t"]) (ix:=[none,some 1,some 5,some 3,some 12]) (zh zcn) ["script","code","p","k","places","row","n","plan","good","m","size","curve","t","roots","near","one"] rfl rfl #[N]),#[zae],#[zY,#[pvx,13]],(fun _ _ _ _=>#[zg,0,(nd_ ["one","code","row","k","t"]),#[A]]),(fun _ _ _ _=>#[zaJ,#[zL,#[zma],#[zo,#[zaz,(K)],T.len_,bP,#[ya,#[zp,xG,(hr.mono #[D]),T.m_l_fits,uu.kp,rq,#[zN],#[za,#[pvx,1],#[za,#[pvx,2],#[ya,#[pvx,0]]]]]]],#[zo,#[zd2],T.max_,gk,#[za,#[pvx,3],#[ya,#[pvx,4]]]],(zZ _)]]),(fun _ _ _ _=>#[pvx,0])],#[pvx,14],(zZ _)],#[zl,#[zC,#[zf6]]],#[zaw]]]]]]]]]],#[zl,#[zC,#[zf6]]]]]]]]]]],?_⟩;apply zrV; intro zN9 zN8 Ge C3 yr uL pZ oS;have pf:=bf;refine (l5 rfl (ex5 a ns 0 5 16 ⟨rfl,hS,mB,#[D],#[D],#[D],#[D],#[D],#[D],fun c tt p kI pl H1 hc1 s1 co tf h1t=>?_⟩));have rp:=zw co.pr;have k1:=co.k1;have kk:=co.kk;have kn:=co.kl;have ln:=co.ln;have p0:0 < p:=by lia
  have Gf:pl.length≤16:=by lia
  obtain⟨k,rfl⟩:∃ k:Nat,kI=k:=⟨kI.toNat,#[O]⟩;have DI:zb7 H1 c tt p k pl:=⟨tf,h1t⟩;refine⟨_,rfl,c,_,rfl,mE.of tf,rfl,_,_,rfl,_,_,rfl,_,_,rfl,rfl,?_⟩;refine (l5 rfl (l5 rfl (ex8 a c tt ns 1 p k pl ⟨rfl,s1.seq hS,mB,#[O],#[O],DI,#[O],#[O],co.rg,#[O],fun r rw H2 yZ s2 oZ xv Hu=>?_⟩)));have sA2:=s1.trans s2;have Ap:=DI.same s2;have hP:=zha co.nd co.rg xv;have G0:=zc6 pl rw;have Hv:=zkS oZ;refine (l5 rfl ⟨r,rfl,⟨_,me.of Hu⟩,zd7 (K:=K) (xs:=rw.map pK) (kp:=fun v=>!decide (v=V.non)) (f:=id) (me.of Hu) (by rw [ab]; lia) ?_ ?_⟩)
  ·intro j x R B hx hR;obtain⟨ob,rfl,_⟩:=zgX hx;refine (l5 rfl ⟨rfl,(l5 rfl ?_)⟩);refine zaM (fun h=>?_) (fun h=>?_)
   ·rw [if_pos h] at hR;exact (l5 rfl hR)
   ·rw [if_neg h] at hR;exact hR
  intro d hd;have v3:=zb (o:=.lst (((rw.map pK).filter fun v=>!decide (v=V.non)).map id)) hd;have h3d:mh H2 d (.lst (((rw.map pK).filter fun v=>!decide (v=V.non)).map id)) d=_:=zc;have Hw:(((rw.map pK).filter fun v=>!decide (v=V.non)).map id).length=(mS pl rw).length:=by
   rw [Hv,ab,g9,ab];congr 1;refine iT fun ob _=>?_
   cases ob <;> simp [pK]
  refine⟨d,(l5 rfl ⟨.inl (me.of h3d),?_⟩)⟩;rw [Hw];generalize mh H2 d (.lst (((rw.map pK).filter fun v=>!decide (v=V.non)).map id))=H3 at v3 h3d ⊢;have hc3:=Ap.same v3;have h3r:=v3 _ _ Hu;have sA3:=sA2.trans v3;refine (l5 rfl ⟨rfl,(l5 rfl ?_)⟩);have e1:decide (V.int (k:Int)=V.int 1)=decide (k=1):=by
   refine decide_eq_decide.mpr ⟨fun h=>?_,fun h=>by rw [h]; rfl⟩;injection h with h
   lia
  rw [e1];refine zaM (fun _=>q _) (fun BR=>?_);have rR:2≤k:=by
   have:¬ k=1:=fun z=>BR (decide_eq_true z)
   lia
  refine (l5 rfl ⟨rfl,(l5 rfl ?_)⟩);have e2:decide (V.int ((mS pl rw).length:Nat)=V.int 0)=decide ((mS pl rw).length=0):=by
   refine decide_eq_decide.mpr ⟨fun h=>?_,fun h=>by rw [h]; rfl⟩;injection h with h
   lia
  rw [e2];refine zaM (fun _=>q _) (fun hn0=>?_);have uU:1≤(mS pl rw).length:=by
   have:¬ (mS pl rw).length=0:=fun z=>hn0 (decide_eq_true z)
   lia
  refine (l5 rfl (ex5 a ns 3 2 27720 ⟨rfl,sA3.seq hS,mB,#[D],#[D],#[D],#[D],#[D],#[D],fun pa ds H4 EJ s4 hds DG=>?_⟩));have hc4:=hc3.same s4;have h4r:=s4 _ _ h3r;have hdsl:ds.length=2:=hds.1;obtain⟨nn,Hx⟩:∃ nn,(mS pl rw).length=nn:=⟨_,rfl⟩;rw [Hx] at uU G0 ⊢;refine⟨by show 4≤sizeLine; lia,fun l4 hl4=>?_⟩;have v5:=zb (o:=.lst [.int 1,.int 2,.int 3,.int 4]) hl4;have f5:mh H4 l4 (.lst [.int 1,.int 2,.int 3,.int 4]) l4=some (.lst (([1,2,3,4]:List Int).map V.int)):=zc;generalize mh H4 l4 (.lst [.int 1,.int 2,.int 3,.int 4])=H5 at v5 f5 ⊢;refine⟨l4,rfl,⟨_,me.of f5⟩,zd7 (K:=K) (xs:=([1,2,3,4]:List Int).map V.int) (kp:=fun v=>match v with | .int m=>decide ((nn:Int)*m*(m+1) / 2≤60) | _=>false) (f:=id) (me.of f5) #[D] ?_ ?_⟩
  ·intro j x R B hx hR;obtain⟨m,rfl,hm⟩:=zaj hx;have hm4:1≤m∧m≤4:=by
    have:=aA hm;simp at this;lia
   refine (l5 rfl (l5 rfl (mv rfl rfl ⟨.inr ⟨#[O],#[O]⟩,(l5 rfl (mv rfl rfl (mv rfl rfl ⟨.inr ⟨#[O],#[O]⟩,(mv rfl rfl ⟨⟨#[D],#[D]⟩,(mv rfl rfl (l5 rfl ?_))⟩)⟩)))⟩)));refine zaM (fun h=>?_) (fun h=>?_)
   ·rw [if_pos h] at hR;exact (l5 rfl hR)
   ·rw [if_neg h] at hR;exact hR
  intro gd hgd;obtain⟨gs,egs,wM,y9⟩:∃ gs:List Int,(((([1,2,3,4]:List Int).map V.int).filter fun v=>match v with | .int m=>decide ((nn:Int)*m*(m+1) / 2≤60) | _=>false).map id)=gs.map V.int∧(∀ m∈gs,1≤m∧m≤4∧(nn:Int)*m*(m+1) / 2≤60)∧gs≠[]:=by
   refine⟨([1,2,3,4]:List Int).filter fun m=>decide ((nn:Int)*m*(m+1) / 2≤60),?_,fun m hm=>?_,fun e0=>?_⟩
   ·rw [ir,g9];rfl
   ·obtain⟨h1,h2⟩:=bv.mp hm;simp at h1;have h2:=of_decide_eq_true h2;exact⟨#[O],#[O],h2⟩
   ·have:(1:Int)∈([1,2,3,4]:List Int).filter fun m=>decide ((nn:Int)*m*(m+1) / 2≤60):=bv.mpr ⟨#[M],decide_eq_true #[O]⟩
    rw [e0] at this;cases this
  have v6:=v5.trans (zb (o:=.lst (((([1,2,3,4]:List Int).map V.int).filter fun v=>match v with | .int m=>decide ((nn:Int)*m*(m+1) / 2≤60) | _=>false).map id)) hgd);have f6:mh H5 gd (.lst (((([1,2,3,4]:List Int).map V.int).filter fun v=>match v with | .int m=>decide ((nn:Int)*m*(m+1) / 2≤60) | _=>false).map id)) gd=some (.lst (gs.map V.int)):=by rw [zc,egs]
  generalize mh H5 gd (.lst (((([1,2,3,4]:List Int).map V.int).filter fun v=>match v with | .int m=>decide ((nn:Int)*m*(m+1) / 2≤60) | _=>false).map id))=H6 at v6 f6 ⊢;have hgl:0 < gs.length:=fY.mpr y9;have EN:(0:Int) < (((gs.map V.int).length:Nat):Int):=by rw [ab]; lia
  have h6p:=v6 _ _ DG;obtain⟨d0,Em⟩:=zc2 (ns:=ds) (k:=0) #[D] #[O];obtain⟨d1,Gh⟩:=zc2 (ns:=ds) (k:=1) #[D] #[O];obtain⟨m0,Ec,em0⟩:=zgS (ns:=gs) (k:=d0 % (((gs.map V.int).length:Nat):Int)) (aQ _ #[O]) (by have:=aH d0 EN; rw [ab] at this ⊢; exact this);obtain⟨m1,wR,em1⟩:=zgS (ns:=gs) (k:=d1 % (((gs.map V.int).length:Nat):Int)) (aQ _ #[O]) (by have:=aH d1 EN; rw [ab] at this ⊢; exact this);refine⟨_,rfl,_,rfl,pa,_,_,_,rfl,rfl,me.of h6p,Em,_,rfl,gd,_,rfl,.inl (me.of f6),_,_,rfl,rfl,EN,gd,_,_,_,rfl,rfl,me.of f6,em0,_,rfl,_,rfl,pa,_,_,_,rfl,rfl,me.of h6p,Gh,_,rfl,gd,_,rfl,.inl (me.of f6),_,_,rfl,rfl,EN,gd,_,_,_,rfl,rfl,me.of f6,em1,by show 2≤sizeLine; lia,fun ml BZ=>?_⟩;have v7:=v6.trans (zb (o:=.lst [.int m0,.int m1]) BZ);have f7:mh H6 ml (.lst [.int m0,.int m1]) ml=some (.lst ([m0,m1].map V.int)):=zc;generalize mh H6 ml (.lst [.int m0,.int m1])=H7 at v7 f7 ⊢;have hc7:=hc4.same v7;have B5:=v7 _ _ h4r;refine⟨ml,rfl,⟨_,me.of f7⟩,zbq (K:=K) (a:=ml) (xs:=[m0,m1].map V.int) (fun j σ H'=>∃ (e9 x9 Hy Hz HA HB BB:Option V),σ = [some (.ref a),some (.ref c),some (.int p),some (.int (k:Int)),some (.ref tt),some (.ref r),some (.int (nn:Int)),some (.ref pa),some (.ref gd),e9,x9,Hy,Hz,HA,HB,BB]∧zu H7 H') (ex7 _ _ _ _ _ _ _ ⟨rfl,fun _ _ e=>e⟩) (fun j σ H' _ ⟨_,_,_,_,_,_,_,_,s'⟩=>me.of (s' _ _ f7)) ?_ ?_⟩
  ·rintro zD zT j x σ H8 hx ⟨e9,x9,Hy,Hz,HA,HB,BB,rfl,s8⟩;obtain⟨mI,rfl,hmx⟩:=zaj hx;obtain⟨hmI1,hmI4,DJ⟩:1≤mI∧mI≤4∧(nn:Int)*mI*(mI+1) / 2≤60:=by
    have:=aA hmx;rcases aF.mp this with rfl | h
    ·exact wM _ Ec
    ·rw [aW.mp h];exact wM _ wR
   obtain⟨m,rfl⟩:∃ m:Nat,mI=m:=⟨mI.toNat,#[O]⟩;have HC:nn*m*(m+1) / 2≤60:=by
    have e:(nn:Int)*(m:Int)*((m:Int)+1) / 2=((nn*m*(m+1) / 2:Nat):Int):=by push_cast; rfl
    rw [e] at DJ;lia
   have htri:nn*tri m≤60:=by
    have h1:=zn4 m;have h2:2*(nn*tri m)=nn*m*(m+1):=by rw [kR,h1,Nat.mul_assoc]
    lia
   have Bg:=hc7.same s8;have B6:=s8 _ _ B5;refine (l5 rfl (l5 rfl (l5 rfl (ex8 c tt r p k m pl rw ⟨rfl,Bg,B6,oZ,Gf,co.pr,co.nd,co.rg,xv,rR,#[O],#[O],#[O],by rw [Hx]; lia,fun z cu ls size g H9 hz s9 h9z Bt nc L hsz=>?_⟩))));obtain⟨d,rfl⟩:∃ d,k=d+1:=⟨k - 1,#[O]⟩;have n6:size≤zeu nn d m:=by rw [← Hx]; exact zjI L
   have hb60:zeu nn d m≤60:=aT (zn0 d _) HC;refine⟨z,_,rfl,mE.of h9z,rfl,_,_,rfl,_,_,rfl,rfl,?_⟩;have ek:(((d+1:Nat)):Int)=(d:Int)+1:=by lia
   refine (l5 rfl (l5 rfl (l5 rfl (l5 rfl ⟨nn,d,m,by rw [ek]; rfl,#[O],#[O],#[O],#[O],#[O],fun Ha sa=>(mv rfl rfl (l5 rfl ?_))⟩))));refine zaM (fun h=>absurd (of_decide_eq_true h) #[O]) (fun _=>?_);refine (l5 rfl (l5 rfl (l5 rfl ⟨nn,d,m,by rw [ek]; rfl,#[O],#[O],#[O],#[O],#[O],fun Hb sb=>?_⟩)));have HD:=sa.trans sb;have sN:(zbX (d+1) size g).length=size / d+1:=zfv (d+1) size g;have hdiv:size / d≤size:=hX _ _;refine (l5 rfl (l5 rfl (l5 rfl (ex5 p (d+1) cu ls (zbX (d+1) size g) ⟨rfl,co.pr,HD _ _ Bt,nc.same HD,by rw [sN]; lia,fun r m8=>by have:=zi0 m8; lia,#[O],#[O],by rw [sN]; exact zlX (k:=d+1) rR #[O] #[O],zpn co.pr rR L,fun ro us qs Hc B2 sc hcr hT hqsl hR hm=>?_⟩))));rw [sN] at hm;have HE:=HD.trans sc;have ni:=(Bg.same s9).same HE;have HF:=HE _ _ (s9 _ _ B6);refine (l5 rfl (l5 rfl (l5 rfl (l5 rfl ⟨_,_,rfl,?_⟩))));obtain⟨T,EC,hTk,hTt⟩:∃ T:Nat,(if ((zed nn d m:Nat):Int) > (((d+1:Nat)):Int) then ((zed nn d m:Nat):Int) else (((d+1:Nat)):Int))=(T:Int)∧d+1≤T∧zed nn d m≤T:=by
    by_cases h:((zed nn d m:Nat):Int) > (((d+1:Nat)):Int)
    ·exact⟨zed nn d m,by rw [if_pos h],#[O],#[O]⟩
    ·exact⟨d+1,by rw [if_neg h],#[O],#[O]⟩
   rw [EC];refine (ex8 c tt r p (d+1) (T:Int) pl rw ⟨rfl,ni,HF,oZ,Gf,co.pr,co.nd,co.rg,xv,#[O],#[O],#[O],fun nl ns' qN Hd Ew sd xZ hTN hRN HG=>?_⟩);have s9d:=HE.trans sd;have Aj:∀ x,x∈qN→x∈qs:=fun x hx=>by
    obtain⟨h1,h2⟩:=(HG x).mp hx;refine (hm x).mpr ⟨h1,zlZ co.pr #[O] hP L h1 ?_⟩;have h3:=(zo8 (n:=nn) (d:=d) (m:=m) #[O]).1;have h4:m*zed nn d m≤m*hits p x (mS pl rw):=Nat.mul_le_mul_left m #[O];lia
   have hdr:=sd _ _ hcr;have HH:=hT.same sd;have rN:=HH.length;refine (l5 rfl ⟨nl,rfl,⟨_,me.of xZ⟩,zbq (K:=K) (a:=nl) (xs:=ns'.map V.ref) (fun j σ H'=>∃ (BB:Option V),σ = [some (.ref a),some (.ref c),some (.int p),some (.int ((d+1:Nat):Int)),some (.ref tt),some (.ref r),some (.int (nn:Int)),some (.ref pa),some (.ref gd),some (.int (m:Int)),some (.int (size:Int)),some (.ref cu),some (.int ((zed nn d m:Nat):Int)),some (.ref ro),some (.ref nl),BB]∧zu Hd H') (l5 rfl (fun _ _ e=>e)) (fun j σ H' _ ⟨_,_,s'⟩=>me.of (s' _ _ xZ)) ?_ ?_⟩)
   ·rintro zD zT j x σ He hx ⟨BB,rfl,se⟩;obtain⟨b,rfl,hb⟩:=zQ hx;obtain⟨f,hf,nJ⟩:=Paired.get hTN hb;have hfm:=aA hf;have wN:=Aj f hfm;obtain⟨hfP,hfz⟩:=(hm f).mp wN;refine (l5 rfl (l5 rfl (ex5 b ro f us qs ⟨rfl,rfl,se _ _ nJ,me.of (se _ _ hdr),HH.same se,?_⟩)));rw [decide_eq_true wN];refine (l5 rfl (zme ?_));have s9e:=s9d.trans se;refine (l5 rfl (l5 rfl (l5 rfl (ex7 p (d+1) cu b ls (zbX (d+1) size g) f ⟨rfl,s9e _ _ Bt,nc.same s9e,by rw [sN]; exact lI 1 _,by rw [sN]; lia,fun r m8=>⟨?_,by have:=zi0 m8; lia,?_⟩,se _ _ nJ,hfP,#[O],#[O],#[O],#[O],fun la fs Hf hla sf xA HI HJ Cb=>?_⟩))))
    ·unfold zbX at m8;obtain⟨j',_,rfl⟩:=az.mp m8;rw [ab,aL];lia
    ·unfold zbX at m8;obtain⟨j',_,rfl⟩:=az.mp m8;intro v hv;obtain⟨i',_,rfl⟩:=az.mp hv;exact L.rg _
    rw [sN] at Cb;refine⟨la,fs,rfl,me.of xA,HI,fun M Bn Es=>?_⟩;have hM0:M=0:=by
     obtain⟨i',nH⟩:=dN Bn;have B0:=(au.mp nH).1;have h1:=(Cb i' B0).trans (hfz i');rw [zbo nH] at h1;obtain⟨g0,g1⟩:=HJ M Bn;exact Cg.eq h1 g0 g1 (bS 0) p0
    subst hM0;refine (mv rfl rfl (l5 rfl ?_));refine zaM (fun h=>absurd (of_decide_eq_true h) #[O]) (fun _=>?_);exact (l5 rfl (se.trans sf))
   ·rintro σ He ⟨BB,rfl,se⟩;have C7:=se _ _ hdr;have hTe:=HH.same se;have HK:=s9.trans (s9d.trans se);have AF:=Bg.same HK;have HL:=HK _ _ B6;refine (l5 rfl ⟨ro,rfl,⟨_,me.of C7⟩,zV (n:=us.length) (fun i ys H'=>zu He H'∧∃ vs:List Addr,ys=vs.map V.ref∧vs.length≤i∧zbB H' vs ((qs.take i).filter fun x=>decide ((T:Int)≤(hits p x (mS pl rw):Int)))) ⟨fun _ _ e=>e,[],rfl,ag _,.nil⟩ ?_ ?_ ?_ ?_⟩)
    ·rintro i ys Hf hi ⟨sf,_⟩;exact⟨_,.ref us[i],me.of (sf _ _ C7),by rw [af,aj hi]; rfl⟩
    ·rintro ys Hf ⟨sf,_⟩;exact⟨_,me.of (sf _ _ C7),by rw [ab]; exact ag _⟩
    ·rintro i y ys Hf Hg hi ⟨sf,vs,rfl,wL,uM⟩ ⟨rfl,hy⟩;obtain⟨rb,rfl,Bk⟩:=zQ (hy _ (me.of (sf _ _ C7)));obtain⟨qq,G2,nJ⟩:=Paired.get hTe Bk;refine (l5 rfl (l5 rfl (l5 rfl (ex9 c tt r rb p ((d+1:Nat):Int) pl qq rw ⟨rfl,AF.same sf,sf _ _ HL,oZ,sf _ _ nJ,#[O],#[O],co.rg,#[O],fun fl Hh xA sh h6=>?_⟩))));refine⟨fl,_,rfl,.inl (me.of h6),_,rfl,_,rfl,_,_,rfl,_,_,rfl,rfl,_,rfl,?_⟩;have ef:((zdF p pl rw qq pl.length).map V.int).length=hits p qq (mS pl rw):=by rw [ab]; exact zko oZ
     rw [ef,EC];have vU:(qs.take (i+1)).filter (fun x=>decide ((T:Int)≤(hits p x (mS pl rw):Int)))=(qs.take i).filter (fun x=>decide ((T:Int)≤(hits p x (mS pl rw):Int)))++[qq].filter (fun x=>decide ((T:Int)≤(hits p x (mS pl rw):Int))):=by rw [take_snoc G2,cn]
     refine zaM (fun h=>(l5 rfl ⟨?_,sf.trans sh,vs++[rb],by rw [am]; rfl,by rw [aq]; exact fH wL,?_⟩)) (fun h=>⟨sf.trans sh,vs,rfl,#[O],?_⟩)
     ·rw [ab]; lia
     ·rw [vU,db (p:=fun x=>decide ((T:Int)≤(hits p x (mS pl rw):Int))) h];exact b8 (uM.same sh) ((sf.trans sh) _ _ nJ)
     ·rw [vU,de (p:=fun x=>decide ((T:Int)≤(hits p x (mS pl rw):Int))) h,fh,bI];exact uM.same sh
    ·rintro ys Hf D ⟨sf,vs,rfl,wL,uM⟩ hD;rw [rN,ci] at uM;have uD:=zb (o:=.lst (vs.map V.ref)) hD;have heq:(qs.filter fun x=>decide ((T:Int)≤(hits p x (mS pl rw):Int)))=qN:=by
      refine zkr (hR.filter _) hRN fun x=>?_
      rw [bv];constructor
      ·rintro⟨h1,h2⟩;exact (HG x).mpr ⟨((hm x).mp h1).1,of_decide_eq_true h2⟩
      ·intro h1;exact⟨Aj x h1,decide_eq_true ((HG x).mp h1).2⟩
     rw [heq] at uM;refine (l5 rfl (zn3 (rs:=vs) (rs':=ns') zc ((se.trans (sf.trans uD)) _ _ xZ) (uM.same uD) (hTN.same (se.trans (sf.trans uD))) (l5 rfl (zme ?_))));exact (ex7 _ _ _ _ _ _ _ ⟨rfl,s8.trans (HK.trans (sf.trans uD))⟩)
  ·rintro σ H8 ⟨e9,x9,Hy,Hz,HA,HB,BB,rfl,s8⟩;exact q _
end
structure Dn (K:ah) (x:Str) (st:Stmt) (f:Addr) (fd:FuncData):Prop where
 a:bR K mainGlobals x=some (some (.ref f))
 f:Fun K x x st f fd
theorem zac {K:ah} {x:Str} {st:Stmt} {f:Addr} {od an:Option Addr} {sl:Array (Option Value)} {oc kV dc pm cd ct:Value} (a:bR K mainGlobals x=some (some (.ref f))) (l:K.lookup f=some ⟨oc,od,.func (dD x x (zbY st) (zbK st) (zh st) .none kV dc pm an cd ct),sl⟩) (c:gn K cd x=true) (k:gm K (.ref f)=true):Dn K x st f (dD x x (zbY st) (zbK st) (zh st) .none kV dc pm an cd ct):=⟨a,zmd l c k⟩
theorem el0 {n:Nat} {us:List Value} (e:us.length=n+1):∃ a v,us=a :: v∧v.length=n:=by
 cases us with
 | nil=>cases e
 | cons a v=>exact⟨a,v,rfl,Nat.succ.inj e⟩
theorem el1 {us:List Value} (e:us.length=1):∃ a,us = [a]:=by
 obtain⟨a,v,rfl,h⟩:=el0 e;exact⟨a,by rw [ig h]⟩
theorem el2 {us:List Value} (e:us.length=2):∃ a b,us = [a,b]:=by
 obtain⟨a,v,rfl,h⟩:=el0 e;obtain⟨b,rfl⟩:=el1 h;exact⟨a,b,rfl⟩
theorem el3 {us:List Value} (e:us.length=3):∃ a b c,us = [a,b,c]:=by
 obtain⟨a,v,rfl,h⟩:=el0 e;obtain⟨b,c,rfl⟩:=el2 h;exact⟨a,b,c,rfl⟩
theorem el4 {us:List Value} (e:us.length=4):∃ a b c d,us = [a,b,c,d]:=by
 obtain⟨a,v,rfl,h⟩:=el0 e;obtain⟨b,c,d,rfl⟩:=el3 h;exact⟨a,b,c,d,rfl⟩
local macro_rules|`(#[E1])=>`(fun _ _ _ _ _ _ _ h=>by obtain⟨_,e⟩:=el1 h;subst e;exact rfl)
local macro_rules|`(#[E2])=>`(fun _ _ _ _ _ _ _ h=>by obtain⟨_,_,e⟩:=el2 h;subst e;exact rfl)
local macro_rules|`(#[E3])=>`(fun _ _ _ _ _ _ _ h=>by obtain⟨_,_,_,e⟩:=el3 h;subst e;exact rfl)
local macro_rules|`(#[E4])=>`(fun _ _ _ _ _ _ _ h=>by obtain⟨_,_,_,_,e⟩:=el4 h;subst e;exact rfl)
theorem zqZ {l:jk} {w:World} {K:ah} {h:Heap} {mg:Str→Option Value} {fa fl oO uv sO:Addr} (X:K.In h) (G:h.Ns mainGlobals mg) (Bw:mg "law" = some (.ref fa))
  {od an:Option Addr} {sl:Array (Option Value)} {oc kV dc pm cd ct:Value} (uw:bR K mainGlobals "SlipError" = some (some (.ref oO))) (xH:bR K mainGlobals "TooFew" = some (some (.ref uv))) (wy:bR K mainGlobals "NoCurve" = some (some (.ref sO))) (sk:∃ f fd,Dn K "pairs_up_to" zbw f fd) (yL:∃ f fd,Dn K "bound" zeT f fd) (yM:∃ f fd,Dn K "reach" zeU f fd) (vn:∃ f fd,Dn K "value_at" zcE f fd) (wA:∃ f fd,Dn K "inverse" zc9 f fd) (tM:∃ f fd,Dn K "times_root" zbh f fd) (BC:∃ f fd,Dn K "bent" zfA f fd) (wB:∃ f fd,Dn K "through" zda f fd) (rA:∃ f fd,Dn K "moved_powers" zbi f fd) (tN:∃ f fd,Dn K "numbers_at" zaH f fd) (tO:∃ f fd,Dn K "vectors_of" zaY f fd) (wC:∃ f fd,Dn K "without" zck f fd) (qf:∃ f fd,Dn K "first_relation" zao f fd) (ux:∃ f fd,Dn K "first_sum" zbE f fd) (rB:∃ f fd,Dn K "heard_points" zaS f fd) (BD:∃ f fd,Dn K "fits" zfB f fd) (vo:∃ f fd,Dn K "width_of" zbT f fd) (xI:∃ f fd,Dn K "filled" zcV f fd) (vp:∃ f fd,Dn K "terms_of" zbU f fd) (xJ:∃ f fd,Dn K "raised" zcW f fd) (su:∃ f fd,Dn K "first_terms" za3 f fd) (sv:∃ f fd,Dn K "least_curve" zan f fd) (rC:∃ f fd,Dn K "check_curves" zbj f fd) (uy:∃ f fd,Dn K "curve_for" zbF f fd) (wD:∃ f fd,Dn K "choices" zbO f fd) (sx:∃ f fd,Dn K "all_through" za4 f fd) (vq:∃ f fd,Dn K "all_near" zbV f fd) (uz:∃ f fd,Dn K "without_x" zbd f fd) (tP:∃ f fd,Dn K "next_curve" zbk f fd) (wF:∃ f fd,Dn K "further" zbP f fd) (vt:∃ f fd,Dn K "roots_of" zbs f fd) (xK:∃ f fd,Dn K "_law_cell" zdS f fd) (wG:∃ f fd,Dn K "_law_draws" zdb f fd) (xM:∃ f fd,Dn K "_law_code" zcX f fd) (wH:∃ f fd,Dn K "_law_value" zdc f fd) (rD:∃ f fd,Dn K "_law_polynomial" zaT f fd) (yN:∃ f fd,Dn K "_law_row" zdT f fd) (wI:∃ f fd,Dn K "_law_times" zdd f fd) (wJ:∃ f fd,Dn K "_law_along" zcl f fd) (xN:∃ f fd,Dn K "_law_fits" zcm f fd)   (sb:lT K oO (.type "BaseException")=some true)
  (al:bR K mainGlobals "law" = some (some (.ref fl))) (ll:K.lookup fl=some ⟨oc,od,.func (dD "law" "law" (zbY zcn) (zbK zcn) (zh zcn) .none kV dc pm an cd ct),sl⟩) (cl:gn K cd "law" = true) (kl:gm K (.ref fl)=true) (DK:bR K mainGlobals "len" = some none) (yO:bR K mainGlobals "range" = some none) (BE:bR K mainGlobals "list" = some none) (yP:bR K mainGlobals "tuple" = some none) (DL:bR K mainGlobals "min" = some none) (DM:bR K mainGlobals "max" = some none) (DN:bR K mainGlobals "int" = some none) (DO:bR K mainGlobals "zip" = some none) (uA:bR K mainGlobals "enumerate" = some none) (DP:bR K mainGlobals "sum" = some none) (BF:bR K mainGlobals "dict" = some none) (vw:bR K mainGlobals "reversed" = some none) (xO:bR K mainGlobals "sorted" = some none) (DQ:bR K mainGlobals "any" = some none) (tQ:bR K mainGlobals "ValueError" = some none) :
  ∃ fd:FuncData,(∀ (s:Shared) (v:Value),BindsTo s fd ⟨[v],[]⟩ [("script",v)])∧∀ base:Heap,K.In base→base.Ns mainGlobals mg→FnOk l.prog w K mg base CX0 8 fa fd ["script"] (zgV K):=by
 cases Bw.symm.trans (aR X G al);obtain⟨f_pairs_up_to,rj,nO⟩:=sk;have nN:=nO.f.binds (ps:=["k","size"]) #[E2]
 obtain⟨f_bound,uk,tR⟩:=yL;have pS:=tR.f.binds (ps:=["n","k","m"]) #[E3]
 obtain⟨f_reach,xF,tS⟩:=yM;have tL:=tS.f.binds (ps:=["n","k","m"]) #[E3]
 obtain⟨f_value_at,oG,pC⟩:=vn;have mN:=pC.f.binds (ps:=["p","polynomial","x"]) #[E3]
 obtain⟨f_inverse,qU,qg⟩:=wA;have nZ:=qg.f.binds (ps:=["p","number"]) #[E2]
 obtain⟨f_times_root,o6,om⟩:=tM;have mX:=om.f.binds (ps:=["p","polynomial","root"]) #[E3]
 obtain⟨f_bent,yx,vy⟩:=BC;have uX:=vy.f.binds (ps:=["p","polynomial","vanishing","point"]) #[E4]
 obtain⟨f_through,vd,qh⟩:=wB;have qb:=qh.f.binds (ps:=["p","points"]) #[E2]
 obtain⟨f_moved_powers,qG,nB⟩:=rA;have mY:=nB.f.binds (ps:=["p","by","most","kept"]) #[E4]
 obtain⟨f_numbers_at,rX,oo⟩:=tN;have oh:=oo.f.binds (ps:=["p","terms","point"]) #[E3]
 obtain⟨f_vectors_of,rY,oq⟩:=tO;have oj:=oq.f.binds (ps:=["p","terms","points"]) #[E3]
 obtain⟨f_without,va,qi⟩:=wC;have p8:=qi.f.binds (ps:=["p","vector","times","other"]) #[E4]
 obtain⟨f_first_relation,pP,m7⟩:=qf;have m6:=m7.f.binds (ps:=["p","vectors"]) #[E2]
 obtain⟨f_first_sum,tF,oP⟩:=ux;have oJ:=oP.f.binds (ps:=["p","terms","points"]) #[E3]
 obtain⟨f_heard_points,oB,nC⟩:=rB;have mP:=nC.f.binds (ps:=["code","row"]) #[E2]
 obtain⟨f_fits,yG,vz⟩:=BD;have ve:=vz.f.binds (ps:=["code","row","polynomial"]) #[E3]
 obtain⟨f_width_of,uf,pD⟩:=vo;have pv:=pD.f.binds (ps:=["curve"]) #[E1]
 obtain⟨f_filled,we,rE⟩:=xI;have qX:=rE.f.binds (ps:=["p","curve"]) #[E2]
 obtain⟨f_terms_of,qw,pE⟩:=vp;have nr:=pE.f.binds (ps:=["curve"]) #[E1]
 obtain⟨f_raised,wc,rF⟩:=xJ;have qW:=rF.f.binds (ps:=["p","lines","by"]) #[E3]
 obtain⟨f_first_terms,qZ,nP⟩:=su;have nL:=nP.f.binds (ps:=["k","many"]) #[E2]
 obtain⟨f_least_curve,rh,nQ⟩:=sv;have nM:=nQ.f.binds (ps:=["p","k","points"]) #[E3]
 obtain⟨f_check_curves,qH,nE⟩:=rC;have nA:=nE.f.binds (ps:=["k"]) #[E1]
 obtain⟨f_curve_for,tJ,oQ⟩:=uy;have oM:=oQ.f.binds (ps:=["code","row","m"]) #[E3]
 obtain⟨f_choices,vc,qj⟩:=wD;have p9:=qj.f.binds (ps:=["things","many"]) #[E2]
 obtain⟨f_all_through,qY,nR⟩:=sx;have nK:=nR.f.binds (ps:=["code","points"]) #[E2]
 obtain⟨f_all_near,ur,pF⟩:=vq;have pB:=pF.f.binds (ps:=["code","row","t"]) #[E3]
 obtain⟨f_without_x,tj,oR⟩:=uz;have oH:=oR.f.binds (ps:=["lines"]) #[E1]
 obtain⟨f_next_curve,rV,ou⟩:=tP;have og:=ou.f.binds (ps:=["p","lines","number"]) #[E3]
 obtain⟨f_further,uZ,qk⟩:=wF;have p7:=qk.f.binds (ps:=["p","known","lines"]) #[E3]
 obtain⟨f_roots_of,uq,pG⟩:=vt;have pA:=pG.f.binds (ps:=["p","k","curve"]) #[E3]
 obtain⟨f_l_cell,vX,rG⟩:=xK;have qR:=rG.f.binds (ps:=["script","k"]) #[E2]
 obtain⟨f_l_draws,pq,ql⟩:=wG;have mU:=ql.f.binds (ps:=["script","k","many","base"]) #[E4]
 obtain⟨f_l_code,wq,rH⟩:=xM;have rk:=rH.f.binds (ps:=["script","at","most_k","most_n"]) #[E4]
 obtain⟨f_l_value,qT,qm⟩:=wH;have nX:=qm.f.binds (ps:=["p","polynomial","x"]) #[E3]
 obtain⟨f_l_polynomial,qF,nF⟩:=rD;have nj:=nF.f.binds (ps:=["draws","p","k"]) #[E3]
 obtain⟨f_l_row,xE,tT⟩:=yN;have tH:=tT.f.binds (ps:=["script","at","code"]) #[E3]
 obtain⟨f_l_times,vh,qp⟩:=wI;have oT:=qp.f.binds (ps:=["p","one","other"]) #[E3]
 obtain⟨f_l_along,vm,qr⟩:=wJ;have qe:=qr.f.binds (ps:=["p","curve","polynomial"]) #[E3]
 obtain⟨f_l_fits,wx,rJ⟩:=xN;have rq:=rJ.f.binds (ps:=["code","row","polynomial"]) #[E3]
 let t:Adr:=⟨oO,uv,sO,f_pairs_up_to,f_bound,f_reach,f_value_at,f_inverse,f_times_root,f_bent,f_through,f_moved_powers,f_numbers_at,f_vectors_of,f_without,f_first_relation,f_first_sum,f_heard_points,f_fits,f_width_of,f_filled,f_terms_of,f_raised,f_first_terms,f_least_curve,f_check_curves,f_curve_for,f_choices,f_all_through,f_all_near,f_without_x,f_next_curve,f_further,f_roots_of,f_l_cell,f_l_draws,f_l_code,f_l_value,f_l_polynomial,f_l_row,f_l_times,f_l_along,f_l_fits,fa⟩
 have T:Txt K mg t:=⟨bL X G DK,bL X G yO,bL X G BE,bL X G yP,bL X G DL,bL X G DM,bL X G DN,bL X G DO,bL X G uA,bL X G DP,bL X G BF,bL X G vw,bL X G xO,bL X G DQ,bL X G tQ,aR X G uw,aR X G xH,aR X G wy,sb,aR X G nO.a,aR X G tR.a,aR X G tS.a,aR X G pC.a,aR X G qg.a,aR X G om.a,aR X G vy.a,aR X G qh.a,aR X G nB.a,aR X G oo.a,aR X G oq.a,aR X G qi.a,aR X G m7.a,aR X G oP.a,aR X G nC.a,aR X G vz.a,aR X G pD.a,aR X G rE.a,aR X G pE.a,aR X G rF.a,aR X G nP.a,aR X G nQ.a,aR X G nE.a,aR X G oQ.a,aR X G qj.a,aR X G nR.a,aR X G pF.a,aR X G oR.a,aR X G ou.a,aR X G qk.a,aR X G pG.a,aR X G rG.a,aR X G ql.a,aR X G rH.a,aR X G qm.a,aR X G nF.a,aR X G tT.a,aR X G qp.a,aR X G qr.a,aR X G rJ.a,⟨_,nO.f,nN⟩,⟨_,tR.f,pS⟩,⟨_,tS.f,tL⟩,⟨_,pC.f,mN⟩,⟨_,qg.f,nZ⟩,⟨_,om.f,mX⟩,⟨_,vy.f,uX⟩,⟨_,qh.f,qb⟩,⟨_,nB.f,mY⟩,⟨_,oo.f,oh⟩,⟨_,oq.f,oj⟩,⟨_,qi.f,p8⟩,⟨_,m7.f,m6⟩,⟨_,oP.f,oJ⟩,⟨_,nC.f,mP⟩,⟨_,vz.f,ve⟩,⟨_,pD.f,pv⟩,⟨_,rE.f,qX⟩,⟨_,pE.f,nr⟩,⟨_,rF.f,qW⟩,⟨_,nP.f,nL⟩,⟨_,nQ.f,nM⟩,⟨_,nE.f,nA⟩,⟨_,oQ.f,oM⟩,⟨_,qj.f,p9⟩,⟨_,nR.f,nK⟩,⟨_,pF.f,pB⟩,⟨_,oR.f,oH⟩,⟨_,ou.f,og⟩,⟨_,qk.f,p7⟩,⟨_,pG.f,pA⟩,⟨_,rG.f,qR⟩,⟨_,ql.f,mU⟩,⟨_,rH.f,rk⟩,⟨_,qm.f,nX⟩,⟨_,nF.f,nj⟩,⟨_,tT.f,tH⟩,⟨_,qp.f,oT⟩,⟨_,qr.f,qe⟩,⟨_,rJ.f,rq⟩⟩;have FL:=zmd (st:=zcn) ll cl kl;exact⟨dD "law" "law" (zbY zcn) (zbK zcn) (zh zcn) .none kV dc pm an cd ct,fun s v=>.of_eq rfl,fun base _ _=>zqY (t:=t) T FL⟩
theorem walk {l:jk} {q:Program} {loose:List Str} {XP:(Str→Option Value)→Heap→Prop} {YP:World→Heap→Prop} {d:DefRec} {K:Params→ah} (hn:l.most=some 63) (Cj:d.params.defaults = []) (hY:∀ (w:World) (h:Heap),YP w h→(K w.params).In h)
  (F:∀ (w:World) (mg:Str→Option Value) (fa:Addr) (h:Heap),(K w.params).In h→h.Ns mainGlobals mg→mg d.name=some (.ref fa)→∃ fd:FuncData,(∀ (s:Shared) (u:Value),BindsTo s fd ⟨[u],[]⟩ [("script",u)])∧∀ base:Heap,(K w.params).In base→base.Ns mainGlobals mg→FnOk l.prog w (K w.params) mg base CX0 8 fa fd ["script"] (zgV (K w.params))):lS q loose XP YP l.row.toRowW d [] (fun f vs=>lC f vs) :=
 L2.zoj (n:=63) (k:=8) (x:="script") (CX:=fun _=>CX0) (sp:=fun w=>zgV (K w.params)) hn #[D] Cj ⟨rfl,#[D],#[D]⟩ hY F (fun _ _ a ns hl _ hS=>⟨a,ns,rfl,hS,hl,fun _=>rfl⟩) fun _ _ _ _ _ z=>z
end My
namespace PySem.W.Fast
def tw14774361969695302541:Unit:=()
def tw10103628060641375690:Unit:=()
def tw4728903223113932360:Unit:=()
def tw18356296863984980233:Unit:=()
def tw13637863602269762603:Unit:=()
def tw13324636871596797914:Unit:=()
def tw3562315595900553495:Unit:=()
def tw4630839809551164361:Unit:=()
def tw1149086193509608660:Unit:=()
def tw14953320250756619653:Unit:=()
def tw12173091628281576826:Unit:=()
def tw8820794732623848573:Unit:=()
def tw13879415184339752952:Unit:=()
def tw12177218325493946165:Unit:=()
def tw10332436273792182672:Unit:=()
def tw7367384048352561150:Unit:=()
def tw1574496888927135252:Unit:=()
def tw5886728927176002706:Unit:=()
def tw5013585019576782512:Unit:=()
def tw4212191584785541613:Unit:=()
def tw14846681085330987363:Unit:=()
def tw1850327103601132935:Unit:=()
def tw6303973246048486646:Unit:=()
def tw5443838140924791116:Unit:=()
def tw16424984465975089530:Unit:=()
def tw3267186239238688608:Unit:=()
def tw15477203212757798609:Unit:=()
def tw17141323334473375908:Unit:=()
def tw4709930273988509061:Unit:=()
def tw1457937438564852024:Unit:=()
def tw3459958211020678367:Unit:=()
def tw7959546760637647095:Unit:=()
def tw6686332721925472614:Unit:=()
def tw3582845488598223064:Unit:=()
def tw1806465970222485267:Unit:=()
def tw11828185615857268993:Unit:=()
def tw12334410847683006977:Unit:=()
def tw8745616248841520819:Unit:=()
def tw669547994435752493:Unit:=()
def tw16043029142938973457:Unit:=()
def tw17919821577525350495:Unit:=()
def tw16292430035148611338:Unit:=()
def tw7977279005057989215:Unit:=()
def tw13776452002980830027:Unit:=()
def tw13596173124500256050:Unit:=()
def tw921606701335862392:Unit:=()
def tw10167597895055558776:Unit:=()
def tw17992796166356296036:Unit:=()
def tw11833719454757368982:Unit:=()
def tw18034106616744230210:Unit:=()
def tw11894857740874314227:Unit:=()
def tw13641412635212538999:Unit:=()
def tw17705090133261008300:Unit:=()
def tw10296281419669463901:Unit:=()
def tw14803975217531295462:Unit:=()
def tw3978635571305192594:Unit:=()
def tw11411247624881394509:Unit:=()
def tw14215148978166692118:Unit:=()
def tw9595130315169952611:Unit:=()
def tw5319595253108513867:Unit:=()
end PySem.W.Fast
open PySem PySem.W
open PyProof.Rows
set_option maxHeartbeats 0 in
theorem PySem.Challenge.cw_slipcurve_k16_whole_reaches_hold_holds : PySem.Challenge.rw_slipcurve_k16_whole_reaches_hold.Holds := by
 w_on; o_law; k_head; (case hw=>w_witness2)
 k_fill
 refine My.walk (l:=PySem.Challenge.rw_slipcurve_k16_whole_reaches_hold) rfl rfl (fun w h Y=>PySem.W.kIn_of Y) ?F
 case F =>
  intro w mg fa h KX G hmg;refine' My.zqZ KX G hmg ?a_SlipError ?a_TooFew ?a_NoCurve ⟨_,_,My.zac ?da_pairs_up_to ?dl_pairs_up_to ?dc_pairs_up_to ?dk_pairs_up_to⟩ ⟨_,_,My.zac ?da_bound ?dl_bound ?dc_bound ?dk_bound⟩ ⟨_,_,My.zac ?da_reach ?dl_reach ?dc_reach ?dk_reach⟩ ⟨_,_,My.zac ?da_value_at ?dl_value_at ?dc_value_at ?dk_value_at⟩ ⟨_,_,My.zac ?da_inverse ?dl_inverse ?dc_inverse ?dk_inverse⟩ ⟨_,_,My.zac ?da_times_root ?dl_times_root ?dc_times_root ?dk_times_root⟩ ⟨_,_,My.zac ?da_bent ?dl_bent ?dc_bent ?dk_bent⟩ ⟨_,_,My.zac ?da_through ?dl_through ?dc_through ?dk_through⟩ ⟨_,_,My.zac ?da_moved_powers ?dl_moved_powers ?dc_moved_powers ?dk_moved_powers⟩ ⟨_,_,My.zac ?da_numbers_at ?dl_numbers_at ?dc_numbers_at ?dk_numbers_at⟩ ⟨_,_,My.zac ?da_vectors_of ?dl_vectors_of ?dc_vectors_of ?dk_vectors_of⟩ ⟨_,_,My.zac ?da_without ?dl_without ?dc_without ?dk_without⟩ ⟨_,_,My.zac ?da_first_relation ?dl_first_relation ?dc_first_relation ?dk_first_relation⟩ ⟨_,_,My.zac ?da_first_sum ?dl_first_sum ?dc_first_sum ?dk_first_sum⟩ ⟨_,_,My.zac ?da_heard_points ?dl_heard_points ?dc_heard_points ?dk_heard_points⟩ ⟨_,_,My.zac ?da_fits ?dl_fits ?dc_fits ?dk_fits⟩ ⟨_,_,My.zac ?da_width_of ?dl_width_of ?dc_width_of ?dk_width_of⟩ ⟨_,_,My.zac ?da_filled ?dl_filled ?dc_filled ?dk_filled⟩ ⟨_,_,My.zac ?da_terms_of ?dl_terms_of ?dc_terms_of ?dk_terms_of⟩ ⟨_,_,My.zac ?da_raised ?dl_raised ?dc_raised ?dk_raised⟩ ⟨_,_,My.zac ?da_first_terms ?dl_first_terms ?dc_first_terms ?dk_first_terms⟩ ⟨_,_,My.zac ?da_least_curve ?dl_least_curve ?dc_least_curve ?dk_least_curve⟩ ⟨_,_,My.zac ?da_check_curves ?dl_check_curves ?dc_check_curves ?dk_check_curves⟩ ⟨_,_,My.zac ?da_curve_for ?dl_curve_for ?dc_curve_for ?dk_curve_for⟩ ⟨_,_,My.zac ?da_choices ?dl_choices ?dc_choices ?dk_choices⟩ ⟨_,_,My.zac ?da_all_through ?dl_all_through ?dc_all_through ?dk_all_through⟩ ⟨_,_,My.zac ?da_all_near ?dl_all_near ?dc_all_near ?dk_all_near⟩ ⟨_,_,My.zac ?da_without_x ?dl_without_x ?dc_without_x ?dk_without_x⟩ ⟨_,_,My.zac ?da_next_curve ?dl_next_curve ?dc_next_curve ?dk_next_curve⟩ ⟨_,_,My.zac ?da_further ?dl_further ?dc_further ?dk_further⟩ ⟨_,_,My.zac ?da_roots_of ?dl_roots_of ?dc_roots_of ?dk_roots_of⟩ ⟨_,_,My.zac ?da_l_cell ?dl_l_cell ?dc_l_cell ?dk_l_cell⟩ ⟨_,_,My.zac ?da_l_draws ?dl_l_draws ?dc_l_draws ?dk_l_draws⟩ ⟨_,_,My.zac ?da_l_code ?dl_l_code ?dc_l_code ?dk_l_code⟩ ⟨_,_,My.zac ?da_l_value ?dl_l_value ?dc_l_value ?dk_l_value⟩ ⟨_,_,My.zac ?da_l_polynomial ?dl_l_polynomial ?dc_l_polynomial ?dk_l_polynomial⟩ ⟨_,_,My.zac ?da_l_row ?dl_l_row ?dc_l_row ?dk_l_row⟩ ⟨_,_,My.zac ?da_l_times ?dl_l_times ?dc_l_times ?dk_l_times⟩ ⟨_,_,My.zac ?da_l_along ?dl_l_along ?dc_l_along ?dk_l_along⟩ ⟨_,_,My.zac ?da_l_fits ?dl_l_fits ?dc_l_fits ?dk_l_fits⟩ ?sb ?al ?ll ?cl ?kl ?z_len ?z_range ?z_list ?z_tuple ?z_min ?z_max ?z_int ?z_zip ?z_enumerate ?z_sum ?z_dict ?z_reversed ?z_sorted ?z_any ?z_ValueError
  (case a_SlipError=>k_is)
  (case a_TooFew=>k_is)
  (case a_NoCurve=>k_is)
  (case da_pairs_up_to=>k_is)
  (case dl_pairs_up_to=>k_is)
  (case dc_pairs_up_to=>k_is)
  (case dk_pairs_up_to=>k_is)
  (case da_bound=>k_is)
  (case dl_bound=>k_is)
  (case dc_bound=>k_is)
  (case dk_bound=>k_is)
  (case da_reach=>k_is)
  (case dl_reach=>k_is)
  (case dc_reach=>k_is)
  (case dk_reach=>k_is)
  (case da_value_at=>k_is)
  (case dl_value_at=>k_is)
  (case dc_value_at=>k_is)
  (case dk_value_at=>k_is)
  (case da_inverse=>k_is)
  (case dl_inverse=>k_is)
  (case dc_inverse=>k_is)
  (case dk_inverse=>k_is)
  (case da_times_root=>k_is)
  (case dl_times_root=>k_is)
  (case dc_times_root=>k_is)
  (case dk_times_root=>k_is)
  (case da_bent=>k_is)
  (case dl_bent=>k_is)
  (case dc_bent=>k_is)
  (case dk_bent=>k_is)
  (case da_through=>k_is)
  (case dl_through=>k_is)
  (case dc_through=>k_is)
  (case dk_through=>k_is)
  (case da_moved_powers=>k_is)
  (case dl_moved_powers=>k_is)
  (case dc_moved_powers=>k_is)
  (case dk_moved_powers=>k_is)
  (case da_numbers_at=>k_is)
  (case dl_numbers_at=>k_is)
  (case dc_numbers_at=>k_is)
  (case dk_numbers_at=>k_is)
  (case da_vectors_of=>k_is)
  (case dl_vectors_of=>k_is)
  (case dc_vectors_of=>k_is)
  (case dk_vectors_of=>k_is)
  (case da_without=>k_is)
  (case dl_without=>k_is)
  (case dc_without=>k_is)
  (case dk_without=>k_is)
  (case da_first_relation=>k_is)
  (case dl_first_relation=>k_is)
  (case dc_first_relation=>k_is)
  (case dk_first_relation=>k_is)
  (case da_first_sum=>k_is)
  (case dl_first_sum=>k_is)
  (case dc_first_sum=>k_is)
  (case dk_first_sum=>k_is)
  (case da_heard_points=>k_is)
  (case dl_heard_points=>k_is)
  (case dc_heard_points=>k_is)
  (case dk_heard_points=>k_is)
  (case da_fits=>k_is)
  (case dl_fits=>k_is)
  (case dc_fits=>k_is)
  (case dk_fits=>k_is)
  (case da_width_of=>k_is)
  (case dl_width_of=>k_is)
  (case dc_width_of=>k_is)
  (case dk_width_of=>k_is)
  (case da_filled=>k_is)
  (case dl_filled=>k_is)
  (case dc_filled=>k_is)
  (case dk_filled=>k_is)
  (case da_terms_of=>k_is)
  (case dl_terms_of=>k_is)
  (case dc_terms_of=>k_is)
  (case dk_terms_of=>k_is)
  (case da_raised=>k_is)
  (case dl_raised=>k_is)
  (case dc_raised=>k_is)
  (case dk_raised=>k_is)
  (case da_first_terms=>k_is)
  (case dl_first_terms=>k_is)
  (case dc_first_terms=>k_is)
  (case dk_first_terms=>k_is)
  (case da_least_curve=>k_is)
  (case dl_least_curve=>k_is)
  (case dc_least_curve=>k_is)
  (case dk_least_curve=>k_is)
  (case da_check_curves=>k_is)
  (case dl_check_curves=>k_is)
  (case dc_check_curves=>k_is)
  (case dk_check_curves=>k_is)
  (case da_curve_for=>k_is)
  (case dl_curve_for=>k_is)
  (case dc_curve_for=>k_is)
  (case dk_curve_for=>k_is)
  (case da_choices=>k_is)
  (case dl_choices=>k_is)
  (case dc_choices=>k_is)
  (case dk_choices=>k_is)
  (case da_all_through=>k_is)
  (case dl_all_through=>k_is)
  (case dc_all_through=>k_is)
  (case dk_all_through=>k_is)
  (case da_all_near=>k_is)
  (case dl_all_near=>k_is)
  (case dc_all_near=>k_is)
  (case dk_all_near=>k_is)
  (case da_without_x=>k_is)
  (case dl_without_x=>k_is)
  (case dc_without_x=>k_is)
  (case dk_without_x=>k_is)
  (case da_next_curve=>k_is)
  (case dl_next_curve=>k_is)
  (case dc_next_curve=>k_is)
  (case dk_next_curve=>k_is)
  (case da_further=>k_is)
  (case dl_further=>k_is)
  (case dc_further=>k_is)
  (case dk_further=>k_is)
  (case da_roots_of=>k_is)
  (case dl_roots_of=>k_is)
  (case dc_roots_of=>k_is)
  (case dk_roots_of=>k_is)
  (case da_l_cell=>k_is)
  (case dl_l_cell=>k_is)
  (case dc_l_cell=>k_is)
  (case dk_l_cell=>k_is)
  (case da_l_draws=>k_is)
  (case dl_l_draws=>k_is)
  (case dc_l_draws=>k_is)
  (case dk_l_draws=>k_is)
  (case da_l_code=>k_is)
  (case dl_l_code=>k_is)
  (case dc_l_code=>k_is)
  (case dk_l_code=>k_is)
  (case da_l_value=>k_is)
  (case dl_l_value=>k_is)
  (case dc_l_value=>k_is)
  (case dk_l_value=>k_is)
  (case da_l_polynomial=>k_is)
  (case dl_l_polynomial=>k_is)
  (case dc_l_polynomial=>k_is)
  (case dk_l_polynomial=>k_is)
  (case da_l_row=>k_is)
  (case dl_l_row=>k_is)
  (case dc_l_row=>k_is)
  (case dk_l_row=>k_is)
  (case da_l_times=>k_is)
  (case dl_l_times=>k_is)
  (case dc_l_times=>k_is)
  (case dk_l_times=>k_is)
  (case da_l_along=>k_is)
  (case dl_l_along=>k_is)
  (case dc_l_along=>k_is)
  (case dk_l_along=>k_is)
  (case da_l_fits=>k_is)
  (case dl_l_fits=>k_is)
  (case dc_l_fits=>k_is)
  (case dk_l_fits=>k_is)
  (case sb=>k_is)
  (case al=>k_is)
  (case ll=>k_is)
  (case cl=>k_is)
  (case kl=>k_is)
  (case z_len=>k_is)
  (case z_range=>k_is)
  (case z_list=>k_is)
  (case z_tuple=>k_is)
  (case z_min=>k_is)
  (case z_max=>k_is)
  (case z_int=>k_is)
  (case z_zip=>k_is)
  (case z_enumerate=>k_is)
  (case z_sum=>k_is)
  (case z_dict=>k_is)
  (case z_reversed=>k_is)
  (case z_sorted=>k_is)
  (case z_any=>k_is)
  (case z_ValueError=>k_is)
#print axioms PySem.Challenge.cw_slipcurve_k16_whole_reaches_hold_holds
end