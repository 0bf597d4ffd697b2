import PyProof.Rows.All
import Wide.All
import OpenK.AllK
import Wide.FinOn
import Lean
import PyProof.EqAt
import PyProof.EqKinds
import PyProof.ListMulRoad
import KE.KUnpackStar
import KE.KIntText
import PyProof.CallStr
import KE.KDictSum
import KE.KSortTup
import PyProof.Walk
import PyProof.Rows.SortRuns
import PyProof.Rows.ChunkEnd
import PyProof.Rows.Range3
import PyProof.Rows.SeqGen
import PyProof.ConsumeWalk
import PyProof.ListRange
import PyProof.NeKinds
import PyProof.TupleCall
import PySem.Challenge.RW_slipcurve_k25_rows_together
set_option maxHeartbeats 3999000
open PySem renaming wpAny_bind→aa,wpAny_pure→ai,wpAny_call_entry→bj,wpAny_callSpecial?_slot→br,sizeLine_eq→bt,wpAny_field→bz,wpAny_setField_rec→bC,wpAny_holding→bK,wpAny_mono→bZ,wpAny_rule→cg,wpAny_attempt→cn,wpAny_newObj_type→cu,boot_len→cv,wpAny_seqItems→cP,wpAny_ite_false→cR,wpAny_isInstance→cW,wpAny_typeNameOfWhole_keyiter→dm,wpAny_passesOwn→dB,wpAny_specialOf→dE,wpAny_setField→dO,mem_of_lookup→dS,wpAny_execs_nil→d8,wpAny_Call_Name_kw→ed,wpAny_of_eq→eh,builtinLookup_eq_fast→eC,wpAny_forIn_list→eI,call_meets→eJ,wpAny_standAt→eM,wpAny_loadPart'→eS,wpAny_pyIter_tuple→fc,wpAny_pyIter_enum→ft,wpAny_onRaise→fE,wpAny_pyIter_zip→fH,isSubtype_tuple_tuple→fR,codeAny_mono→fS,typeLookup_type→fU,wpAny_updateSeq_pair→fV,isSubtype_type→gg,isSubtype_stop→gh,wpAny_newTuple→gj,wpAny_ite_true→gk,seqIndex_of→gq,wpAny_tupleItemsOf→gD,wpAny_newFunctionEnv_cells→gH,wpAny_letOwnedTupleGo_enum→gJ,wpAny_truthy_bool→gO,wpAny_pyIter_list→gP,wpAny_pyIter_slot→gT,wpAny_dictEntries→gV,wpAny_call→gZ,wpAny_execs_cons→hV,noFill_tuple_add→hW,wpAny_comprehension_free→ij,callType_new→ik,wpAny_dictEpoch→iF,wpAny_letGo→iJ,wpAny_Assign_Subscript→iM,codeAny_call_function→iR,wpAny_isOneOf_keyiter→iW,wpAny_loadName_local→ja,wpAny_pyIter_revIter→je,codeAny_call_builtin→jh,seq_tuple_add→jn,wpAny_handled→jo,wpAny_newList→jt,wpAny_loadName_cell→jv,wpAny_specialOf_val→jy,concat_meets→jM,seqIndex_neg→jN,wpAny_setItem_heap→jT,wpAny_eqBool_tuple→jY,list_append→j6,wpAny_throw→kr,wpAny_Name→kH,typeIs_int→kK,call→kM,Within→lE
open List renaming length_map→ae,mem_cons_of_mem→aj,getElem?_eq_some_iff→ak,size_toArray→am,getElem?_eq_getElem→ao,getElem?_map→ap,mem_cons→au,map_append→aw,mem_map→az,replicate→aA,length_append→aB,mem_cons_self→aF,mem_of_getElem?→aH,mem_append_right→aI,length_take→aL,not_mem_nil→aM,take_of_length_le→aO,mem_append→aP,map_cons→aR,mem_append_left→aS,zipWith→aW,take_length→aX,mem_singleton→aY,range→bg,map_map→bh,append_assoc→bq,lookup_cons→bu,replicate_succ→bx,mem_range→bF,length_cons→bG,all_eq_true→bH,append_nil→bI,mem_filter→bN,pairwise_map→bQ,filter_append→bV,map_congr_left→bY,take_sublist→cf,take_append_drop→ci,length_filter_le→cj,length_drop→ck,drop_eq_nil_of_le→cr,drop_eq_getElem_cons→cB,getElem?_eq_none→cE,getElem?_set_ne→cN,getElem?_append_right→cT,getElem?_append_left→cY,extract_eq_take_drop→cZ,nodup_cons→c6,getElem?_cons_succ→dn,length_eq_zero_iff→dq,filterMap_cons→dt,mem_map_of_mem→du,getElem?_set_self→dz,forIn_cons→dD,length_range→dI,pairwise_iff_getElem→dL,getElem?_of_mem→dM,take_zero→dP,length_take_le→dU,getElem_of_mem→dW,filter_cons_of_pos→dX,filter_cons_of_neg→dY,length_nil→ee,flatten_cons→ek,ext_getElem?→er,length_replicate→et,length_singleton→eB,length→eQ,length_set→eU,nil_append→eV,getElem?_eq_none_iff→eX,getElem?_zip_eq_some→eY,mem_or_eq_of_mem_set→eZ,getElem?_take_of_lt→fe,zip_cons_cons→ff,forIn_nil→fj,nodup_append→fu,filter_congr→fw,any_cons→fC,nodup_range→fI,mem_flatMap→fL,nil_sublist→fM,sublist_nil→fN,drop_length→fO,concat_eq_append→fQ,of_mem_zip→fT,find?_cons→fW,mem_of_mem_take→f',length_zipWith→gd,filter_sublist→gf,drop_zero→gn,map_id→gu,filter_filter→gB,getElem?_drop→gC,all_cons→gI,nodup_iff_pairwise_ne→gL,getD_eq_getElem?_getD→gM,flatMap_cons→gW,map_nil→hX,getElem_mem→im,any_eq_true→ip,getElem?_cons_zero→iu,not_any_eq_all_not→iw,foldl_cons→iB,range_succ→iD,filter_map→iE,range_succ_eq_map→iI,length_eq_one_iff→iO,drop_drop→iT,eq_nil_or_concat→iU,all_congr→iY,pairwise_append→jk,map_take→jp,map_drop→jq,sum_cons→ju,getElem?_range→jB,flatMap_append→jC,mem_filterMap→jI,forIn_toArray→jR,pairwise_cons→jZ,map_set→j0,zip_nil_left→j5,take_add_one→j7,getElem_take→kd,foldl_append→kh,zipIdx_cons→kB,foldl→kL,zipIdx_nil→kN,filter_nil→kY,nodup_nil→k8,take_take→k9,take_nil→lC
open PySem.Heap renaming get?_push_of_some→af,get?_push_size→aC,lt_size→aD,SameBut→be,size_push→bi,get?_update_self→dC,get?_update_other→fB,IsTuple→jS,ExtBut→kq
open PySem.W renaming Frag→ag,mg_of→aN,kitOne→a8,nsIn→bn,mg_none_of→bM,mroIn→bO,kia_one→bP,findIn→cp,fnOf→cF,hideAll→dA,keepIn→dN,codeIn→eA,kitCls→eF,hideAll_get→eR,cellsFrom_some→fz,Looks→fF,excIn→fG,looks_mroIn→ge,of_hideAll→gv,callWith_K→gw,methodObj→gN,instObj→iA,OpenLaw→iC,lookIn→iQ,hideAll_none→iZ,looks_findIn→ji,kdu_collect→jA,codeRec_of→jK,kitx_list→j1,kitx_dict→j3,plainGet→ku,kat_cons→kD,kat_kind→kG,kit_cls→kQ,kat_nil→kS,kat_yes→kU,kat_one→kW,KatTups→kX,KatLex→lh,kat_no→li,kat_lt→lp,WalkO→lx
open Nat renaming le_refl→ah,lt_of_lt_of_le→aU,le_trans→aV,ne_of_lt→aZ,zero_le→bo,lt_irrefl→cm,add_sub_cancel→cJ,zero_add→c9,lt_succ_of_lt→dG,pow_le_pow_right→eL,add_assoc→eP,ne_of_gt→fb,add_zero→fh,le_add_right→fK,min_eq_left→fX,le_succ→gr,le_of_succ_le→gR,le_of_lt→hU,succ_le_succ→ic,succ_ne_self→ig,sub_self→iq,pow_succ→jV,sub_zero→jX,lt_succ_self→kz
open PyProof.Rows renaming wpS_bind→aq,wpS_pure→av,callWith_type1→bv,boot_isinstance→bX,wpS_forRange→cI,zipApart_new→c8,wpS_mono→dv,wpS_modify→eK,wpS_get→fk,wpS_lift→gm,boot_tuple→g8,pairsOf_size→io,subscriptTail_builtinR→iH,mirror_perm→iN,pairsOf_toList→iX,boot_range→jb,listUpdate_at→jr,getElem?_mirror_all→jz,boot_list→jW,seqEpoch_at→kt,boot_zip→kA
open Or renaming inl→ar,inr→dJ
open PySem.Value renaming ref→aE,none→cw,bool→d7,int→iz,str→jE,isStrOf→lu,builtin→lB
open Option.some renaming inj→aG,injEq→kg
open Bool renaming false_ne_true→aJ,false_eq_true→aT,eq_iff_iff→cQ,and_eq_true→dQ,not_true→dZ,not_eq_true'→kb,false_and→kZ,and_false→k6,and_true→ly
open Int renaming emod_lt_of_pos→aK,emod_nonneg→aQ,toNat_natCast→bf,le_trans→bW,le_refl→cq,mul_le_mul_of_nonneg_right→cC,zero_add→dg,emod_eq_of_lt→dH,le_of_lt→eG,fdiv_eq_ediv_of_nonneg→gG,pow_succ→il,mul_comm→jU,lt_trichotomy→kf
open PySem.Builtin.SmallTypes renaming nextOf→ba,ownedTupleIsFree→bJ,ownedTupleHandOut→cH,newRecord→k7
open Array renaming getElem?_toList→bd,length_toList→bw,toList_append→bE,getElem?_eq_some_iff→cV,toList_extract→df,perm_iff_toList_perm→eN,toList_reverse→fY,forIn_toList→gE,append_assoc→jH,toList_map→kF,size_map→lj,toList→lF
open PySem.Paired renaming mono→bp,snoc→bR,length→jm
open PySem.PassesOwn renaming never→bA,leaving→gX
open PySem.F renaming plainAttrs_list→bD,slot_list_append→cL,type_list_append→cM,slot_zip_next→de,slot_dict_keyiterator_next→dw,slot_tuple_iterator_next→dF,slot_enumerate_next→eE,args_tuple_add_2→fg,entry_tuple_add→fq,args_zip_next_1→fv,slot_tuple_add→fA,entry_zip_next→fJ,args_dict_keyiterator_next_1→fZ,entry_dict_keyiterator_next→gc,args_tuple_iterator_next_1→gi,entry_tuple_iterator_next→gz,args_enumerate_next_1→ir,entry_enumerate_next→iK,args_list_append_2→jd,args_object_init_2→jf,args_object_init_3→jg,excBase_ValueError→jj,entry_list_append→jw,slot_list_append→jO,slot_tuple_hash→km,typeCall_zip_2→kC,slot_dict_iter→kE
open PySem.NameKind renaming free→bS,cell→cU
open False renaming elim→bT
open PySem.Str renaming ofString→bU
open ForInStep renaming yield→cA,done→fm
open PySem.Builtin.Tuple renaming tupleHashOf→cD
open PySem.Around renaming in1_units→cG
open List.Pairwise renaming imp_of_mem→cK,nil→gQ,sublist→iS,map→ki,imp→kj
open PySem.Heap.SameBut renaming update→cS
open PySem.Obj renaming data_mapFields→cX,mapSeq→c7,isFreed_of_fields→eD,mapFields→gK,cls_mapFields→gS
open Sum renaming inl→dh,inr→g9
open Ne renaming symm→dk
open PySem.Builtin.List renaming listTooLong→dR
open List.cons renaming inj→d6
open True renaming intro→d9
open List.Nodup renaming length_le_of_subset→eg
open List.Perm renaming trans→eW
open PySem.W.KF renaming type_class→fP
open PySem.Builtin.Dict_items renaming ownsTuple→gp
open PySem.Shared renaming heap→gt
open PySem.SeqAt.EqAt renaming of_refs→gA,int_str→jF,str_int→jG,int_int→jL,same→kJ
open PySem.Calls renaming Name_function_global→gF,call_function_entry→g7,evalArgs_plain→jc,spliced_cons→jJ,spliced_nil→j4
open Option renaming isSome_map→gU,getD_some→ie,isSome_some→jQ,getD_none→kx,toList→lA,none→lJ
open PySem.SeqAt renaming EqAt→g6
open PyProof renaming noPylong_small→iG
open PySem.Builtin.Getset_descriptor renaming descrCheckInstance→iL,descrNameAndClass→iP,descrGetter→jD,descrGet→j8
open PySem.Builtin.Dict renaming showsAll→iV
open PySem.W.KatTups renaming cons→jl
open PySem.SeqAt.RcNeAt renaming tuples→jx
open Classical renaming em→jP
open PySem.Builtin.ObjectAttr renaming dataDescriptor?→j9,takesStores→kP,attrName→lr,bindTo→lD,getOf→lG,find→lH
open PySem.Data renaming fields→ko
open PySem.IsL renaming update→ky
open PySem.Draws renaming list→kO
open PyProof.Rows.SortSt renaming mk'→kR
open PyProof.Rows.Boot renaming ValueError→lq
open Sum.inl renaming inj→lI
open PySem.Manifest.AttrKind renaming slot→lK
open PySem.PyData renaming bool→lL
local macro_rules | `(tactic| trivial)=>`(tactic| first | exact .inl rfl | exact .inr rfl | assumption)
local macro_rules|`(#[$xs,*])=>do
 let a:=xs.getElems
 if h:a.size=0 then Lean.Macro.throwUnsupported else
 let s:=a[0].raw.getId.eraseMacroScopes.toString
 if s=="O" then `(by lia) else if s=="D" then `(by decide) else if s=="N" then `(by decide +kernel) else if s=="S" then `(⟨rfl,rfl,rfl,by decide +kernel,rfl,by decide +kernel,by decide +kernel⟩) else if s=="A" then `(Or.inl rfl) else if s=="M" then `(by simp) else
 match [("_____eb","zg"),("________eee","zbi zm"),("________eeee","zJ"),("_","zmw zF zQ zaw zcf zR zaj zI zap zjY zh zbs zhO zbn zfi zbq zdr zaR z8 zdI zbZ za3 zag zg0 zhP zaa zmv"),("_e__f","pvx"),("_________ereeeddrr","zy zaG"),("___er","ya"),("___e","zn zdJ zbd"),("____e","zO zY z6 zbt zjO zjQ zfh"),("_______eeeu","zL"),("____","zi zcS zfg"),("__e____efeert","zr"),("_____e","zbr"),("______b","zf8"),("_____eer","zd zq"),("________________eefeeeneedrr","zH"),("________efeeei","zaD"),("______feer","zaF"),("__e_efet","zl"),("____er","zbW"),("____________eeeeeerrrrr","zcB"),("_f","zeQ zcE"),("_____________efeeeeei","zas"),("__f","zaE"),("_ef","zbu zbK zdM zd8 zcJ"),("__________eeee","zcT"),("___fe","zU"),("_________feerr","zdL"),("_e___e_fferr","zaW"),("______eerrr","zbX"),("______ferr","zbI"),("_____________e___efeefeeeeerit","zaJ"),("___","zdg"),("__e__fefd","zbb"),("_______ee","zjP zgU"),("___ei","zjN"),("__e__feefdd","zhK"),("_e___fe","zgE"),("_______eeei","zgW"),("_e","zg6")].find? fun q=>(q.2.splitOn " ").contains s with
 |none=>Lean.Macro.throwUnsupported
 |some (p,_)=>do
  let mut r:=#[]
  let mut i:=1
  for c in p.toList do
   if c=='e' then
    r:=r.push (a[i]!)
    i:=i+1
   else if c=='b' then
    r:=r.push (←`((by exact $(a[i]!))))
    i:=i+1
   else r:=r.push (←match c with|'_'=>`(_)|'r'=>`((by rfl))|'d'=>`((by decide))|'f'=>`(rfl)|'t'=>`((by trivial))|'i'=>`((by intro _; rfl))|'u'=>`((fun _ _=>rfl))|'n'=>`(.nil)|'l'=>`(Or.inl rfl)|'o'=>`(Or.inr rfl)|_=>`(nomark _))
  return Lean.Syntax.mkApp (←`(@$(⟨a[0].raw⟩):ident)) r
set_option Elab.async false
set_option linter.all false
set_option maxRecDepth 100000
namespace L2
open PySem PySem.Spec PyProof.Rows
abbrev Key:=Sum Int Str
def zeM:Key→Value→Bool
 | .inl k,v=>Value.isInt k v
 | .inr x,v=>lu x v
def zok (w:World):Key→Int
 | .inl k=>hashInt k
 | .inr x=>hashStr w x
theorem zar:∀ {k:Key} {v:Value},zeM k v=true→(∃ i t,k=dh i∧v=iz i t)∨(∃ x t,k=g9 x∧v=jE x t)
 | .inl i,v,h=>by
  obtain⟨t,e⟩:=Value.isInt_shape (k:=i) (v:=v) h;exact .inl ⟨i,t,rfl,e⟩
 | .inr x,v,h=>by
  obtain⟨t,e⟩:=Value.isStrOf_shape (x:=x) (v:=v) h;exact .inr ⟨x,t,rfl,e⟩
theorem ziz (i:Int) (t:Tok):zeM (.inl i) (.int i t)=true:=by simp [zeM,Value.isInt]
theorem ziA (x:Str) (t:Tok):zeM (.inr x) (.str x t)=true:=by simp [zeM,lu]
theorem zmN (a b:Int):decide ((dh a:Key)=dh b)=(a == b):=by
 by_cases e:a=b
 ·subst e; simp
 ·have h:¬ (dh a:Key)=dh b:=fun q=>e (lI q)
  rw [decide_eq_false h];exact (beq_eq_false_iff_ne.mpr e).symm
theorem zmO (a b:Str):decide ((g9 a:Key)=g9 b)=decide (a=b):=by
 by_cases e:a=b
 ·subst e; simp
 ·have h:¬ (g9 a:Key)=g9 b:=fun q=>e (Sum.inr.inj q)
  rw [decide_eq_false h,decide_eq_false e]
theorem zmP (a:Int) (b:Str):decide ((dh a:Key)=g9 b)=false:=decide_eq_false (fun q=>nomatch q)
theorem zmQ (a:Str) (b:Int):decide ((g9 a:Key)=dh b)=false:=decide_eq_false (fun q=>nomatch q)
def zaO (prog:Program) (w:World):PySem.KeyKind prog w Key where
 is:=zeM
 hash:=zok w
 inj:=fun v a b ha hb=>by
  rcases zar ha with ⟨i,t,rfl,rfl⟩ | ⟨x,t,rfl,rfl⟩
  ·rcases zar hb with ⟨j,u,rfl,e⟩ | ⟨y,u,rfl,e⟩
   ·injection e with e1 _; rw [e1]
   ·exact nomatch e
  ·rcases zar hb with ⟨j,u,rfl,e⟩ | ⟨y,u,rfl,e⟩
   ·exact nomatch e
   ·injection e with e1 _; rw [e1]
 byValue:=fun k v h=>by
  rcases zar h with ⟨i,t,rfl,rfl⟩ | ⟨x,t,rfl,rfl⟩ <;> rfl
 pyHash:=fun hv h=>by
  rcases zar hv with ⟨i,t,rfl,rfl⟩ | ⟨x,t,rfl,rfl⟩
  ·exact wpAny_pyHash_int h
  ·exact wpAny_pyHash_str h
 eqBool:=fun hu hv h=>by
  rcases zar hu with ⟨i,t,rfl,rfl⟩ | ⟨x,t,rfl,rfl⟩
  ·rcases zar hv with ⟨j,u,rfl,rfl⟩ | ⟨y,u,rfl,rfl⟩
   ·rw [zmN] at h; exact wpAny_eqBool_int h
   ·rw [zmP] at h; exact jF i t y u _ _ _ _ h
  ·rcases zar hv with ⟨j,u,rfl,rfl⟩ | ⟨y,u,rfl,rfl⟩
   ·rw [zmQ] at h; exact jG x t j u _ _ _ _ h
   ·rw [zmO] at h; exact wpAny_eqBool_str h
 «strs»:=fun k x t v h=>by
  rcases zar h with ⟨i,u,rfl,e⟩ | ⟨y,u,rfl,e⟩
  ·exact nomatch e
  ·injection e with e1 _
   subst e1;cases v <;> rfl
theorem zfV (prog:Program) (w:World) (i:Int) (t:Tok):(zaO prog w).is (.inl i) (.int i t)=true:=ziz i t
theorem zfW (prog:Program) (w:World) (x:Str) (t:Tok):(zaO prog w).is (.inr x) (.str x t)=true:=ziA x t
inductive V where
 | non | bl (b:Bool) | int (i:Int) | str (x:Str) | byt (b:Array UInt8) | flt (b:UInt64) | ref (a:Addr) | ty (n:String)
 deriving DecidableEq
def RelV:V→Value→Prop
 | .non,u=>u=cw
 | .bl b,u=>u=d7 b
 | .int i,u=>∃ t,u=iz i t
 | .str x,u=>∃ t,u=jE x t
 | .byt b,u=>∃ t,u=Value.bytes b t
 | .flt b,u=>∃ t,u=Value.float b t
 | .ref a,u=>u=aE a
 | .ty n,u=>u=Value.type n
abbrev zG:List V→List Value→Prop:=Paired RelV
theorem zG.length {xs:List V} {us:List Value} (r:zG xs us):xs.length=us.length:=jm r
theorem zG.get:∀ {xs:List V} {us:List Value} {i:Nat} {x:V},zG xs us→xs[i]? = some x→∃ u,us[i]? = some u∧RelV x u
 | _,_,_,_,.nil,e=>by simp at e
 | _,_,0,_,.cons r _,e=>by simp at e; subst e; exact⟨_,rfl,r⟩
 | _,_,i+1,x,.cons _ t,e=>by
  obtain⟨u,h1,h2⟩:=zG.get (i:=i) (x:=x) t (by simpa using e);exact⟨u,by simpa using h1,h2⟩
theorem zG.set {x:V} {u:Value} (r:RelV x u):∀ {xs:List V} {us:List Value} (i:Nat),zG xs us→zG (xs.set i x) (us.set i u)
 | _,_,_,.nil=>.nil
 | _,_,0,.cons _ t=>.cons r t
 | _,_,i+1,.cons q t=>.cons q (zG.set r i t)
theorem zG.append:∀ {xs ys:List V} {us ws:List Value},zG xs us→zG ys ws→zG (xs++ys) (us++ws)
 | _,_,_,_,.nil,s=>s
 | _,_,_,_,.cons r t,s=>.cons r (zG.append t s)
theorem zG.take:∀ {xs:List V} {us:List Value} (n:Nat),zG xs us→zG (xs.take n) (us.take n)
 | _,_,0,_=>.nil
 | _,_,_+1,.nil=>.nil
 | _,_,n+1,.cons r t=>.cons r (zG.take n t)
theorem zG.drop:∀ {xs:List V} {us:List Value} (n:Nat),zG xs us→zG (xs.drop n) (us.drop n)
 | _,_,0,r=>r
 | _,_,_+1,.nil=>.nil
 | _,_,n+1,.cons _ t=>zG.drop n t
def ziB:Option V→Option Value→Prop
 | some v,some u=>RelV v u
 | none,none=>True
 | _,_=>False
def KV {κ:Type}:List (κ×V)→List (κ×Value)→Prop:=Paired fun (p:κ×V) (q:κ×Value)=>p.1=q.1∧RelV p.2 q.2
def kV:Key→V
 | .inl i=>.int i
 | .inr x=>.str x
inductive HO where
 | lst (xs:List V)
 | tup (xs:List V)
 | dK (lV:List (Key×V)) | dT (lV:List (List Key×V))
 | set (S:Int→Bool) (n:Nat)
 | ins (C dx:Addr) (fs:List (Str×V))
 | own (x:Addr)
 | xd (fs:List (Str×V))
 | met (f x:Addr)
 | rng (lo hi:Int)
 | frz (o:Obj) (u:HO)
 | tbl (ps:Array Value)
 | ext (φ:Heap→Prop)
abbrev Hp:=Addr→Option HO
def lP (H:Hp) (a:Addr) (o:HO):Hp:=fun b=>if b=a then some o else H b
theorem ze {H:Hp} {a:Addr} {o:HO}:lP H a o a=some o:=by unfold lP; rw [if_pos rfl]
theorem zp {H:Hp} {a b:Addr} {o:HO} (h:b≠a):lP H a o b=H b:=by unfold lP; rw [if_neg h]
theorem znO {H:Hp} {a b:Addr} {o u:HO} (h:H a=some o) (h':H b=some u) (d:o≠u):a≠b:=by
 intro e; subst e; rw [h] at h'; exact d (aG h')
theorem zw {H:Hp} {a b:Addr} {o:HO} (h:H a=some o) (h':H b=none):a≠b:=by
 intro e; subst e; rw [h] at h'; cases h'
section
variable (P:Program) (w:World)
def zab (H:Hp) (h:Heap) (a:Addr):HO→Prop
 | .lst xs=>xs.length≤sizeLine∧∃ (lO:List Value) (n:Nat),zG xs lO∧h.get? a=some { cls:=.type "list",data:=.seq lO.toArray n }
 | .tup xs=>xs.length≤sizeLine∧∃ lO:List Value,zG xs lO∧IsTup h a lO.toArray
 | .dK lV=>lV.length≤sizeLine∧(a == sysModules)=false∧∃ vs,KV lV vs∧h.DictOf (zaO P w) a vs
 | .dT lV=>lV.length≤sizeLine∧(a == sysModules)=false∧∃ xs:List (List Key×Addr×Value),
   Paired (fun (p:List Key×V) (q:List Key×Addr×Value)=>p.1=q.1∧H q.2.1=some (.tup (p.1.map kV))∧RelV p.2 q.2.2) lV xs ∧
   ∃ o es ep,h.get? a=some o∧o.ExactDict∧o.data = .dict es ep∧es.toList=xs.map (entryOfKey (tupleKind (zaO P w)))∧(xs.map (·.1)).Nodup
 | .set S n=>h.SetOf (intKind P w) a S n
 | .ins C dx fs=>H dx=some (.own a)∧fs.length≤1000∧dx≠a∧h.get? a=some (iA C dx) ∧
   ∃ mA,h.Ns1 dx mA∧(∀ f,ziB (fs.lookup f) (mA f))∧lE mA (fs.map (·.1))
 | .own _=>∃ o,h.get? a=some o
 | .xd fs=>∃ mA,h.Ns1 a mA∧∀ f,ziB (fs.lookup f) (mA f)
 | .rng lo hi=>∃ t u v,h.get? a=some { cls:=.type "range",data:=.fields #[.int lo t,.int hi u,.int 1 v] }
 | .frz o u=>h.get? a=some o∧zab H h a u
 | .tbl ps=>h.get? a=some { cls:=.none,data:=.fields ps }
 | .met f x=>h.get? a=some (gN (.ref f) (.ref x))
 | .ext φ=>φ h∧(∃ o,h.get? a=some o)∧∀ h1 h2:Heap,φ h1→(∀ o,h1.get? a=some o→h2.get? a=some o)→φ h2
def HOk (H:Hp) (h:Heap):Prop:=∀ a o,H a=some o→zab P w H h a o
end
section
variable {P:Program} {w:World} {H H':Hp} {h h':Heap} {a:Addr} {o:HO}
theorem zab.lt (x:zab P w H h a o):a < h.objs.size:=by
 cases o with
 | lst xs=>obtain⟨_,_,_,_,e⟩:=x; exact aD e
 | tup xs=>obtain⟨_,_,_,p⟩:=x; exact p.lt
 | dK lV=>obtain⟨_,_,_,_,o,_,_,e,_⟩:=x; exact aD e
 | dT lV=>obtain⟨_,_,_,_,o,_,_,e,_⟩:=x; exact aD e
 | set S n=>obtain⟨o,_,_,_,e,_⟩:=x; exact aD e
 | ins C dx fs=>obtain⟨_,_,_,e,_⟩:=x; exact aD e
 | own y=>obtain⟨_,e⟩:=x; exact aD e
 | xd fs=>obtain⟨_,⟨_,_,_,e,_⟩,_⟩:=x; exact aD e
 | rng lo hi=>obtain⟨_,_,_,e⟩:=x; exact aD e
 | frz ob u=>obtain⟨e,_⟩:=x; exact aD e
 | tbl ps=>exact aD (show h.get? a=some _ from x)
 | met f y=>exact aD (show h.get? a=some _ from x)
 | ext φ=>obtain⟨_,⟨_,e⟩,_⟩:=x; exact aD e
theorem Paired.mapP {α β:Type} {F G:α→β→Prop}:∀ {l₁:List α} {l₂:List β},Paired F l₁ l₂→(∀ a b,F a b→G a b)→Paired G l₁ l₂
 | _,_,.nil,_=>.nil
 | _,_,.cons r t,f=>.cons (f _ _ r) (Paired.mapP t f)
theorem zab.stay (x:zab P w H h a o) (k:∀ b u,(b=a∨H b=some (.own a))→h.get? b=some u→h'.get? b=some u)
  (ho:∀ b,H b=some (.own a)→H' b=some (.own a)) (ht:∀ b xs,H b=some (.tup xs)→H' b=some (.tup xs)):zab P w H' h' a o:=by
 induction o with
 | lst xs=>obtain⟨z,lO,n,r,e⟩:=x; exact⟨z,lO,n,r,k _ _ (.inl rfl) e⟩
 | tup xs=>obtain⟨z,lO,r,ob,e,c⟩:=x; exact⟨z,lO,r,ob,k _ _ (.inl rfl) e,c⟩
 | dK lV=>obtain⟨z,y,vs,r,ob,es,ep,e,c⟩:=x; exact⟨z,y,vs,r,ob,es,ep,k _ _ (.inl rfl) e,c⟩
 | dT lV =>
  obtain⟨z,y,xs,r,ob,es,ep,e,c⟩:=x;exact⟨z,y,xs,Paired.mapP r fun p q z=>⟨z.1,ht _ _ z.2.1,z.2.2⟩,ob,es,ep,k _ _ (.inl rfl) e,c⟩
 | set S n=>obtain⟨ob,es,ep,t,e,c⟩:=x; exact⟨ob,es,ep,t,k _ _ (.inl rfl) e,c⟩
 | ins C dx fs =>
  obtain⟨d,z,ne,e,mA,⟨od,es,ep,e2,c⟩,r⟩:=x;exact⟨ho _ d,z,ne,k _ _ (.inl rfl) e,mA,⟨od,es,ep,k _ _ (.inr d) e2,c⟩,r⟩
 | own y=>obtain⟨ob,e⟩:=x; exact⟨ob,k _ _ (.inl rfl) e⟩
 | xd fs=>obtain⟨mA,⟨od,es,ep,e,c⟩,r⟩:=x; exact⟨mA,⟨od,es,ep,k _ _ (.inl rfl) e,c⟩,r⟩
 | rng lo hi=>obtain⟨t,u,v,e⟩:=x; exact⟨t,u,v,k _ _ (.inl rfl) e⟩
 | frz ob u ih=>obtain⟨e,q⟩:=x; exact⟨k _ _ (.inl rfl) e,ih q⟩
 | tbl ps =>
  have e:h.get? a=some { cls:=.none,data:=.fields ps }:=x;show h'.get? a=some { cls:=.none,data:=.fields ps };exact k a _ (.inl rfl) e
 | met f y =>
  have e:h.get? a=some (gN (.ref f) (.ref y)):=x;show h'.get? a=some (gN (.ref f) (.ref y));exact k a _ (.inl rfl) e
 | ext φ=>obtain⟨p,⟨o,e⟩,st⟩:=x; exact⟨st _ _ p fun o q=>k _ _ (.inl rfl) q,⟨o,k _ _ (.inl rfl) e⟩,st⟩
theorem HOk.lt (x:HOk P w H h) (e:H a=some o):a < h.objs.size:=(x a o e).lt
theorem HOk.fresh (x:HOk P w H h) (e:h.objs.size≤a):H a=none:=by
 cases q:H a with
 | none=>rfl
 | some u=>exact absurd (aU (x.lt q) e) (cm _)
theorem HOk.kept (x:HOk P w H h) (k:∀ b u,h.get? b=some u→h'.get? b=some u):HOk P w H h':=fun a o e =>
 (x a o e).stay (fun b u _ q=>k b u q) (fun _ q=>q) fun _ _ q=>q
theorem HOk.laid (x:HOk P w H h) (k:∀ b u,h.get? b=some u→h'.get? b=some u) (hp:h.objs.size≤a) (new:zab P w (lP H a o) h' a o):HOk P w (lP H a o) h':=fun b u e=>by
 have hn:=x.fresh hp;by_cases hb:b=a
 ·subst hb; rw [ze] at e; cases e; exact new
 ·rw [zp hb] at e;exact (x b u e).stay (fun c v _ q=>k c v q) (fun c q=>by rw [zp (zw q hn)]; exact q) fun c xs q=>by rw [zp (zw q hn)]; exact q
end
def Rd (H:Hp) (a:Addr) (u:HO):Prop:=H a=some u∨∃ o,H a=some (.frz o u)
theorem Rd.ok {P:Program} {w:World} {H:Hp} {h:Heap} {a:Addr} {u:HO} (r:Rd H a u) (x:HOk P w H h):zab P w H h a u:=by
 rcases r with r | ⟨o,r⟩
 ·exact x a u r
 ·obtain⟨_,q⟩:=x a _ r;exact q
def Mut:Option HO→Prop
 | some (.lst _)=>True
 | some (.dK _)=>True
 | some (.dT _)=>True
 | some (.set _ _)=>True
 | some (.ins _ _ _)=>True
 | some (.ext _)=>True
 | _=>False
section
variable {P:Program} {w:World} {H:Hp} {h h':Heap} {x e:Addr} {o':HO}
theorem HOk.write (ok:HOk P w H h) (mu:Mut (H x)) (he:e=x∨H e=some (.own x)) (k:∀ b u,b≠e→h.get? b=some u→h'.get? b=some u) (yu:∃ u,h'.get? e=some u)
  (new:zab P w (lP H x o') h' x o'):HOk P w (lP H x o') h':=fun b u q=>by
 have yU:∀ c y,H c=some (.own y)→c≠x:=fun c y r z=>by subst z; rw [r] at mu; exact mu
 have Ck:∀ c xs,H c=some (.tup xs)→c≠x:=fun c xs r z=>by subst z; rw [r] at mu; exact mu
 by_cases hb:b=x
 ·subst hb; rw [ze] at q; cases q; exact new
 ·rw [zp hb] at q;by_cases xr:b=e
  ·have q':H b=some (.own x):=by
    rcases he with z | z
    ·exact absurd (xr.trans z) hb
    ·rw [xr]; exact z
   rw [q] at q'; cases q';obtain⟨v,hv⟩:=yu;exact⟨v,by rw [xr]; exact hv⟩
  ·refine (ok b u q).stay (fun c v hc r=>k c v ?_ r) (fun c r=>by rw [zp (yU c b r)]; exact r) fun c xs r=>by rw [zp (Ck c xs r)]; exact r
   rcases hc with rfl | hc
   ·exact xr
   ·rintro rfl;rcases he with z | z
    ·exact yU c b hc z
    ·rw [hc] at z; cases z; exact hb rfl
end
structure Un (fs ex:List Addr) (H H':Hp) (h h':Heap):Prop where
 keep:∀ b o,h.get? b=some o→H b=none→b∉fs→b∉ex→h'.get? b=some o
 slot:∀ b o,h.get? b=some o→H b=none→b∈fs→b∉ex→∃ sl,h'.get? b=some { o with slots:=sl }
 free:∀ b o,h.get? b=some o→H b=none→b∉ex→H' b=none
 there:∀ b o,h.get? b=some o→b∉ex→∃ o',h'.get? b=some o'
 tups:∀ b xs,H b=some (.tup xs)→H' b=some (.tup xs)
 frzs:∀ b o u,H b=some (.frz o u)→H' b=some (.frz o u)
 tbls:∀ b ps,H b=some (.tbl ps)→∃ more,H' b=some (.tbl (ps++more))
section
variable {fs fs' ex ex':List Addr} {H H1 H2:Hp} {h h1 h2 h':Heap} {a x e:Addr} {o:HO}
theorem Un.any (u:Un fs ex H H1 h h1) {b:Addr} {ob:Obj} (q:h.get? b=some ob) (n:H b=none) (hx:b∉ex):∃ sl,h1.get? b=some { ob with slots:=sl }:=by
 by_cases hb:b∈fs
 ·exact u.slot b ob q n hb hx
 ·exact⟨ob.slots,u.keep b ob q n hb hx⟩
theorem Un.kept (k:∀ b u,h.get? b=some u→h'.get? b=some u):Un fs ex H H h h' :=
 ⟨fun b ob q _ _ _=>k b ob q,fun b ob q _ _ _=>⟨ob.slots,k b ob q⟩,fun _ _ _ n _=>n,fun b ob q _=>⟨ob,k b ob q⟩,fun _ _ q=>q,fun _ _ _ q=>q,fun _ ps q=>⟨#[],by rw [q]; simp⟩⟩
theorem Un.refl:Un fs ex H H h h:=Un.kept fun _ _ q=>q
theorem Un.laid (k:∀ b u,h.get? b=some u→h'.get? b=some u) (hp:h.objs.size≤a) (hn:H a=none):Un fs ex H (lP H a o) h h' where
 keep:=fun b u q _ _ _=>k b u q
 slot:=fun b u q _ _ _=>⟨u.slots,k b u q⟩
 free:=fun b u q n _=>by rw [zp (aZ (aU (aD q) hp))]; exact n
 there:=fun b u q _=>⟨u,k b u q⟩
 tups:=fun b xs q=>by rw [zp (zw q hn)]; exact q
 frzs:=fun b u xs q=>by rw [zp (zw q hn)]; exact q
 tbls:=fun b ps q=>⟨#[],by rw [zp (zw q hn),q]; simp⟩
theorem Un.write (mu:Mut (H x)) (he:e=x∨H e=some (.own x)) (k:∀ b u,b≠e→h.get? b=some u→h'.get? b=some u) (yu:∃ u,h'.get? e=some u):Un fs ex H (lP H x o) h h':=by
 have hx:∀ b,H b=none→b≠x:=fun b n z=>by subst z; rw [n] at mu; exact mu
 have hb:∀ b,H b=none→b≠e:=fun b n z=>by
  subst z;rcases he with r | r
  ·exact hx b n r
  ·rw [n] at r; cases r
 have hm:∀ b u,H b=some u→¬ Mut (some u)→b≠x:=fun b u q nm z=>by subst z; rw [q] at mu; exact nm mu
 refine⟨fun b u q n _ _=>k b u (hb b n) q,fun b u q n _ _=>⟨u.slots,k b u (hb b n) q⟩,fun b u q n _=>by rw [zp (hx b n)]; exact n,fun b u q _=>?_,
  fun b xs q=>by rw [zp (hm b _ q fun z=>z)]; exact q,fun b u xs q=>by rw [zp (hm b _ q fun z=>z)]; exact q,fun b ps q=>⟨#[],by rw [zp (hm b _ q fun z=>z),q]; simp⟩⟩
 by_cases xr:b=e
 ·subst xr; exact yu
 ·exact⟨u,k b u xr q⟩
end
def trk (h:Heap) (H:Hp):List Addr:=(bg h.objs.size).filter fun a=>(H a).isSome
def zff (h:Heap) (H:Hp):Heap:=dA h (trk h H)
theorem ziC (h:Heap) (H:Hp):(zff h H).objs.size=h.objs.size:=PySem.W.hideAll_size _ _
theorem zjM {h:Heap} {H:Hp} {b:Addr} {o:Obj} (e:h.get? b=some o) (n:H b=none):(zff h H).get? b=some o :=
 eR _ e fun hm=>by
  have q:(H b).isSome=true:=(bN.mp hm).2;rw [n] at q; simp at q
theorem zls {h:Heap} {H:Hp} {b:Addr} {o:Obj} (e:(zff h H).get? b=some o):h.get? b=some o∧H b=none:=by
 have e':h.get? b=some o:=gv (trk h H) e;refine⟨e',?_⟩;cases q:H b with
 | none=>rfl
 | some x =>
  have hm:b∈trk h H:=bN.mpr ⟨bF.mpr (aD e'),by simp [q]⟩;have z:(zff h H).get? b=none:=iZ (trk h H) hm;rw [z] at e; cases e
structure Mod (K:ag) (mg:Str→Option Value) (base:Heap):Prop where
 kin:K.In base
 glob:base.Ns mainGlobals mg
 blt:∃ mb,base.Ns builtinsNs mb∧∀ x:Str,x≠"__name__"→mb x=bootBuiltins x
 nolimit:base.NoLimit
structure Cx where
 prog:Program
 w:World
 K:ag
 mg:Str→Option Value
 base:Heap
 A:Around
 N:List Str
 s₀:Shared
 H₀:Hp
 env:Env
 outer:List Env
 stack:List Env
 ex:List Addr
 fn:Str→Bool
 calm:Bool
 pn:List (Addr×Obj)
 xe:Value→Shared→Prop
def frs (l:List Env):List Addr:=l.filterMap (·.frame)
abbrev Cx.fs (X:Cx):List Addr:=frs X.outer
def Vis (sc:Scope) (x:Str):Prop:=sc.names.lookup x=some .local∨sc.names.lookup x=some .cell∨sc.names.lookup x=some .free
def Loc (sc:Scope) (x:Str):Prop:=sc.names.lookup x=some .local∨sc.names.lookup x=some .cell
def Look (env:Env) (h:Heap) (m:Str→Option Value) (x:Str) (u:Value):Prop :=
 (env.kindOf x=some .local∧m x=some u)∨((env.kindOf x=some .cell∨env.kindOf x=some .free)∧∃ c,env.cells.lookup x=some c∧h.IsCell c (some u))
structure Cx.Ok (X:Cx):Prop where
 mod:Mod X.K X.mg X.base
 kind:X.env.scope.kind = .function
 glob:X.env.globals=mainGlobals
 blt:X.env.builtins=builtinsNs
 above:X.s₀.heap.objs.size≤X.env.locals
 inj:∀ x y c,X.env.cells.lookup x=some c→X.env.cells.lookup y=some c→x=y
 has:∀ x,(X.env.kindOf x=some .cell∨X.env.kindOf x=some .free)→∃ c,X.env.cells.lookup x=some c
 cab:∀ x c,X.fn x=true→X.env.cells.lookup x=some c→X.s₀.heap.objs.size≤c
 hd:X.calm=true→X.A.handled=none
 frames:X.A.frames=some X.stack
 stk:X.stack=X.outer∨(X.stack=X.env :: X.outer∧X.env.frame=some X.env.locals)
 exf:∀ b∈X.ex,b≠X.env.locals∧∀ x c,X.env.cells.lookup x=some c→c≠b
 bs:∀ b o,X.base.get? b=some o→X.s₀.heap.get? b=some o∧X.H₀ b=none
 bsz:X.base.objs.size≤X.s₀.heap.objs.size
 noex:∀ b o,X.base.get? b=some o→b∉X.ex
 exfs:∀ b∈X.ex,b∉X.fs
 funs:X.s₀.heap.FunFrames X.base X.outer
 frf:∀ b∈X.fs,X.H₀ b=none
structure Inv (X:Cx) (lM:List (Addr×Obj)) (σ:List (Option V)) (H:Hp) (s:Shared):Prop where
 ok:X.Ok
 os:s.os=X.s₀.os
 bare:AllBare s.gens
 base:Un X.fs X.ex X.H₀ H X.s₀.heap s.heap
 loc:∃ m,s.heap.Ns X.env.locals m∧∀ (i:Nat) (x:Str) (v:V),X.N[i]? = some x→σ[i]? = some (some v)→Vis X.env.scope x→∃ u,RelV v u∧Look X.env s.heap m x u
 cell:∀ x c,X.env.cells.lookup x=some c→∃ v,s.heap.IsCell c v
 free:H X.env.locals=none
 freeC:∀ x c,X.env.cells.lookup x=some c→H c=none
 pin:∀ p∈X.pn++lM,s.heap.get? p.1=some p.2∧H p.1=none∧p.1≠X.env.locals∧p.1∉X.fs∧∀ v,p.2.data≠.cell v
 hok:HOk X.prog X.w H s.heap
 len:σ.length=X.N.length
section
variable {X:Cx} {lM:List (Addr×Obj)} {σ:List (Option V)} {H H':Hp} {s:Shared} {h':Heap}
theorem Cx.Ok.nofr (ok:X.Ok) {b:Addr} {o:Obj} (e:X.base.get? b=some o):b∉X.fs:=fun hb=>by
 have:=(ok.funs.mem hb).1;rw [e] at this; cases this
theorem Inv.bs (I:Inv X lM σ H s):∀ b o,X.base.get? b=some o→s.heap.get? b=some o∧H b=none:=fun b o e =>
 ⟨I.base.keep b o (I.ok.bs b o e).1 (I.ok.bs b o e).2 (I.ok.nofr e) (I.ok.noex b o e),I.base.free b o (I.ok.bs b o e).1 (I.ok.bs b o e).2 (I.ok.noex b o e)⟩
theorem Inv.bk (I:Inv X lM σ H s):∀ b o,X.base.get? b=some o→s.heap.get? b=some o:=fun b o e=>(I.bs b o e).1
theorem Inv.mod (I:Inv X lM σ H s):Mod X.K X.mg X.base:=I.ok.mod
theorem Inv.kIn (I:Inv X lM σ H s):X.K.In s.heap:=I.ok.mod.kin.keeps I.bk
theorem Inv.lt (I:Inv X lM σ H s):X.env.locals < s.heap.objs.size:=let ⟨_,hn,_⟩:=I.loc; hn.lt
theorem Inv.sz (I:Inv X lM σ H s):X.s₀.heap.objs.size≤s.heap.objs.size:=aV I.ok.above (hU I.lt)
theorem Inv.nofs (I:Inv X lM σ H s) {a:Addr} (h:s.heap.objs.size≤a):a∉X.fs:=fun hb=>by
 obtain⟨_,o,ho,_⟩:=I.ok.funs.mem hb;exact absurd (aU (aD ho) (aV I.sz h)) (cm _)
theorem Inv.cne (I:Inv X lM σ H s):∀ x c,X.env.cells.lookup x=some c→c≠X.env.locals:=fun x c e z=>by
 obtain⟨v,o,ho,hd⟩:=I.cell x c e;obtain⟨m,⟨o',es,ep,rT,sW,_⟩,_⟩:=I.loc;rw [z,rT] at ho; cases ho; rw [sW] at hd; cases hd
theorem Inv.funs (I:Inv X lM σ H s):s.heap.FunFrames X.base X.outer:=by
 have all:∀ (l:List Env),(∀ b∈frs l,b∈X.fs)→X.s₀.heap.FunFrames X.base l→s.heap.FunFrames X.base l:=by
  intro l;induction l with
  | nil=>intro _ _; trivial
  | cons env r ih =>
   intro hs hl;obtain⟨hk,⟨L,o,hf,hn,ho,hd⟩,hr⟩:=hl;have hL:L∈X.fs:=hs L (by unfold frs; rw [dt,hf]; exact aF);obtain⟨sl,e⟩:=I.base.slot L o ho (I.ok.frf L hL) hL fun z=>I.ok.exfs L z hL
   exact⟨hk,⟨L,_,hf,hn,e,hd⟩,ih (fun b hb=>hs b (by unfold frs; rw [dt,hf]; exact aj _ hb)) hr⟩
 exact all X.outer (fun _ hb=>hb) I.ok.funs
theorem Inv.stack (I:Inv X lM σ H s):s.heap.FunFrames X.base X.stack:=by
 rcases I.ok.stk with e | ⟨e,hf⟩
 ·rw [e]; exact I.funs
 ·rw [e];obtain⟨m,hn,_⟩:=I.loc;refine .cons (by rw [I.ok.kind]; decide) hf hn ?_ I.funs;exact Heap.get?_none_of_le (aV I.ok.bsz I.ok.above)
theorem Inv.stkSub (I:Inv X lM σ H s):∀ b∈frs X.stack,b∈X.env.locals :: X.fs:=fun b hb=>by
 rcases I.ok.stk with e | ⟨e,hf⟩
 ·rw [e] at hb; exact aj _ hb
 ·rw [e] at hb;unfold frs at hb;rw [dt,hf] at hb;exact hb
theorem Inv.stkFree (I:Inv X lM σ H s):∀ b∈frs X.stack,H b=none:=fun b hb=>by
 rcases au.mp (I.stkSub b hb) with e | hb
 ·rw [e]; exact I.free
 ·obtain⟨_,o,ho,_⟩:=I.ok.funs.mem hb;exact I.base.free b o ho (I.ok.frf b hb) fun z=>I.ok.exfs b z hb
theorem Inv.step {g':Array GenState} {t':Nat} {d':Drawn} {ch:List Addr} (I:Inv X lM σ H s)
  (oD:∀ b∈ch,(b∈X.ex∨X.s₀.heap.objs.size≤b)∧b≠X.env.locals∧(∀ x c,X.env.cells.lookup x=some c→c≠b)∧∀ p∈X.pn++lM,p.1≠b)
  (keep:∀ b o,b≠X.env.locals→b∉X.fs→b∉ch→s.heap.get? b=some o→H b=none→h'.get? b=some o)
  (slot:∀ b o,b≠X.env.locals→b∈X.fs→b∉ch→s.heap.get? b=some o→H b=none→∃ sl,h'.get? b=some { o with slots:=sl }) (free:∀ b o,b∉ch→s.heap.get? b=some o→H b=none→H' b=none)
  (there:∀ b o,b∉ch→s.heap.get? b=some o→∃ o',h'.get? b=some o')
  (tups:∀ b xs,H b=some (.tup xs)→H' b=some (.tup xs)) (frzs:∀ b o u,H b=some (.frz o u)→H' b=some (.frz o u)) (tbls:∀ b ps,H b=some (.tbl ps)→∃ more,H' b=some (.tbl (ps++more)))
  (ns:∀ m,s.heap.Ns X.env.locals m→h'.Ns X.env.locals m) (hok:HOk X.prog X.w H' h') (hg:AllBare g') :
  Inv X lM σ H' { s with heap:=h',gens:=g',drawn:=d',toks:=t' }:=by
 have neL:∀ b o,X.s₀.heap.get? b=some o→b≠X.env.locals:=fun b o e=>aZ (aU (aD e) I.ok.above)
 have By:∀ b o,X.s₀.heap.get? b=some o→b∉X.ex→b∉ch:=fun b o e hx hb=>by
  rcases (oD b hb).1 with z | z
  ·exact hx z
  ·exact absurd (aU (aD e) z) (cm _)
 have cellK:∀ x c,X.env.cells.lookup x=some c→∀ v,s.heap.IsCell c v→h'.IsCell c v:=fun x c e v ⟨o,ho,hd⟩=>by
  have yV:c∉ch:=fun z=>(oD c z).2.2.1 x c e rfl
  by_cases hc:c∈X.fs
  ·obtain⟨sl,q⟩:=slot c o (I.cne x c e) hc yV ho (I.freeC x c e);exact⟨_,q,hd⟩
  ·exact⟨o,keep c o (I.cne x c e) hc yV ho (I.freeC x c e),hd⟩
 refine⟨I.ok,I.os,hg,⟨fun b o e n hb hx=>?_,fun b o e n hb hx=>?_,fun b o e n hx=>?_,fun b o e hx=>?_,fun b xs e=>tups b xs (I.base.tups b xs e),fun b o xs e=>frzs b o xs (I.base.frzs b o xs e),fun b ps e=>?_⟩,?_,fun x c e=>?_,?_,fun x c e=>?_,fun p hp=>?_,hok,I.len⟩
 ·exact keep b o (neL b o e) hb (By b o e hx) (I.base.keep b o e n hb hx) (I.base.free b o e n hx)
 ·obtain⟨sl,e1⟩:=I.base.slot b o e n hb hx;obtain⟨Bz,e2⟩:=slot b _ (neL b o e) hb (By b o e hx) e1 (I.base.free b o e n hx);exact⟨Bz,e2⟩
 ·obtain⟨o',e1⟩:=I.base.there b o e hx;exact free b o' (By b o e hx) e1 (I.base.free b o e n hx)
 ·obtain⟨o',e1⟩:=I.base.there b o e hx;exact there b o' (By b o e hx) e1
 ·obtain⟨m1,e1⟩:=I.base.tbls b ps e;obtain⟨m2,e2⟩:=tbls b _ e1;exact⟨m1++m2,by rw [e2,jH]⟩
 ·obtain⟨m,hn,hl⟩:=I.loc;refine⟨m,ns m hn,fun i x v e1 e2 e3=>?_⟩;obtain⟨u,r,l⟩:=hl i x v e1 e2 e3;refine⟨u,r,?_⟩;rcases l with l | ⟨k,c,e,z⟩
  ·exact .inl l
  ·exact .inr ⟨k,c,e,cellK x c e _ z⟩
 ·obtain⟨v,z⟩:=I.cell x c e;exact⟨v,cellK x c e v z⟩
 ·obtain⟨m,⟨o,_,_,ho,_⟩,_⟩:=I.loc;exact free _ o (fun z=>(oD _ z).2.1 rfl) ho I.free
 ·obtain⟨v,o,ho,hd⟩:=I.cell x c e;exact free c o (fun z=>(oD c z).2.2.1 x c e rfl) ho (I.freeC x c e)
 ·obtain⟨e,n,ne,nf,d⟩:=I.pin p hp;have yV:p.1∉ch:=fun z=>(oD p.1 z).2.2.2 p hp rfl
  exact⟨keep p.1 p.2 ne nf yV e n,free p.1 p.2 yV e n,ne,nf,d⟩
theorem Inv.un {t':Nat} (I:Inv X lM σ H s) (u:Un X.fs [] H H' s.heap h') (hok:HOk X.prog X.w H' h'):Inv X lM σ H' { s with heap:=h',toks:=t' }:=by
 obtain⟨m,⟨o,es,ep,ho,r⟩,_⟩:=id I.loc;obtain⟨sl,hL⟩:=u.any ho I.free #[M];exact I.step (g':=s.gens) (d':=s.drawn) (ch:=[]) (fun _ z=>nomatch z) (fun b o _ hb _ e n=>u.keep b o e n hb #[M]) (fun b o _ hb _ e n=>u.slot b o e n hb #[M]) (fun b o _ e n=>u.free b o e n #[M]) (fun b o _ e=>u.there b o e #[M]) u.tups u.frzs u.tbls (fun m' hm=>by
  obtain⟨o',uy,Cm,rT,r'⟩:=hm;rw [ho] at rT; cases rT;exact⟨_,uy,Cm,hL,r'⟩) hok I.bare
theorem Inv.call {g':Array GenState} {t':Nat} {d':Drawn} {ch:List Addr} (I:Inv X lM σ H s) (u:Un (frs X.stack) ch H H' s.heap h') (hok:HOk X.prog X.w H' h') (hg:AllBare g')
  (oD:∀ b∈ch,(b∈X.ex∨X.s₀.heap.objs.size≤b)∧b≠X.env.locals∧(∀ x c,X.env.cells.lookup x=some c→c≠b)∧∀ p∈X.pn++lM,p.1≠b) :
  Inv X lM σ H' { s with heap:=h',gens:=g',drawn:=d',toks:=t' }:=by
 obtain⟨m,⟨o,es,ep,ho,r⟩,_⟩:=id I.loc;obtain⟨sl,hL⟩:=u.any ho I.free fun z=>(oD _ z).2.1 rfl
 exact I.step (ch:=ch) oD (fun b o hL hb hc e n=>u.keep b o e n (fun z=>(au.mp (I.stkSub b z)).elim hL hb) hc) (fun b o _ _ hc e n=>u.any e n hc) (fun b o hc e n=>u.free b o e n hc) (fun b o hc e=>u.there b o e hc) u.tups u.frzs u.tbls (fun m' hm=>by
  obtain⟨o',uy,Cm,rT,r'⟩:=hm;rw [ho] at rT; cases rT;exact⟨_,uy,Cm,hL,r'⟩) hok hg
theorem Inv.turned {t':Nat} {it:Addr} (I:Inv X lM σ H s) (k:∀ b o,b≠it→s.heap.get? b=some o→h'.get? b=some o) (hn:H it=none) (hL:it≠X.env.locals)
  (h1:it∈X.ex∨X.s₀.heap.objs.size≤it) (h2:∀ x c,X.env.cells.lookup x=some c→c≠it) (h3:∀ p∈X.pn++lM,p.1≠it):Inv X lM σ H { s with heap:=h',toks:=t' }:=by
 have rd:∀ b u,H b=some u→b≠it:=fun b u e z=>by rw [z,hn] at e; cases e
 refine I.step (g':=s.gens) (d':=s.drawn) (ch:=[it]) (fun b hb=>?_) (fun b o _ _ hc e _=>k b o (fun z=>hc (by simp [z])) e) (fun b o _ _ hc e _=>⟨o.slots,k b o (fun z=>hc (by simp [z])) e⟩) (fun _ _ _ _ n=>n)
  (fun b o hc e=>⟨o,k b o (fun z=>hc (by simp [z])) e⟩) (fun _ _ e=>e) (fun _ _ _ e=>e) (fun b ps e=>⟨#[],by rw [e]; simp⟩) (fun m hm=>?_) (fun b u e=>?_) I.bare
 ·have e:b=it:=by simpa using hb
  subst e;exact⟨h1,hL,h2,h3⟩
 ·obtain⟨o,es,ep,ho,r⟩:=hm;exact⟨o,es,ep,k _ o (dk hL) ho,r⟩
 ·refine (I.hok b u e).stay (fun c v hc q=>k c v ?_ q) (fun _ q=>q) fun _ _ q=>q
  rcases hc with z | z
  ·rw [z]; exact rd b u e
  ·exact rd c _ z
theorem Inv.tok (I:Inv X lM σ H s) (t:Nat):Inv X lM σ H { s with toks:=t }:=I.un (h':=s.heap) (t':=t) Un.refl I.hok
theorem Inv.kept {t':Nat} (I:Inv X lM σ H s) (k:∀ b u,s.heap.get? b=some u→h'.get? b=some u):Inv X lM σ H { s with heap:=h',toks:=t' }:=I.un (Un.kept k) (I.hok.kept k)
theorem Inv.laid {a:Addr} {o:HO} {t':Nat} (I:Inv X lM σ H s) (k:∀ b u,s.heap.get? b=some u→h'.get? b=some u) (hp:s.heap.objs.size≤a) (new:zab X.prog X.w (lP H a o) h' a o) :
  Inv X lM σ (lP H a o) { s with heap:=h',toks:=t' }:=I.un (Un.laid k hp (I.hok.fresh hp)) (I.hok.laid k hp new)
theorem Inv.write {x e:Addr} {o:HO} {t':Nat} (I:Inv X lM σ H s) (mu:Mut (H x)) (he:e=x∨H e=some (.own x)) (k:∀ b u,b≠e→s.heap.get? b=some u→h'.get? b=some u) (yu:∃ u,h'.get? e=some u)
  (new:zab X.prog X.w (lP H x o) h' x o):Inv X lM σ (lP H x o) { s with heap:=h',toks:=t' }:=I.un (Un.write mu he k yu) (I.hok.write mu he k yu new)
theorem Inv.weak {σ':List (Option V)} (I:Inv X lM σ H s) (hl:σ'.length=σ.length) (w:∀ (i:Nat) v,σ'[i]? = some (some v)→σ[i]? = some (some v)):Inv X lM σ' H s :=
 ⟨I.ok,I.os,I.bare,I.base,let ⟨m,hn,uz⟩:=I.loc; ⟨m,hn,fun i x v e1 e2 e3=>uz i x v e1 (w i v e2) e3⟩,I.cell,I.free,I.freeC,I.pin,I.hok,hl.trans I.len⟩
theorem Inv.pins_of {o3:List (Addr×Obj)} (I:Inv X lM σ H s) (h:∀ p∈o3,s.heap.get? p.1=some p.2∧H p.1=none∧p.1≠X.env.locals∧p.1∉X.fs∧∀ v,p.2.data≠.cell v):Inv X o3 σ H s :=
 ⟨I.ok,I.os,I.bare,I.base,I.loc,I.cell,I.free,I.freeC,fun p hp=>(aP.mp hp).elim (fun z=>I.pin p (aS _ z)) (h p),I.hok,I.len⟩
theorem zd1 {N:List Str} (hN:N.Nodup) {i j:Nat} {x:Str} (a:N[i]? = some x) (b:N[j]? = some x):i=j:=by
 obtain⟨h1,e1⟩:=ak.mp a;obtain⟨h2,e2⟩:=ak.mp b;exact (List.getElem_inj hN).mp (e1.trans e2.symm)
theorem zeN {M:Model} {A:Around} {E:Value→Shared→Prop} {i:Nat} {x:Str} {v:V} {u:Value} {Q:Unit→Shared→Prop} (I:Inv X lM σ H s) (hN:X.N.Nodup) (hi:X.N[i]? = some x) (hx:Loc X.env.scope x) (r:RelV v u)
  (h:∀ s',Inv X lM (σ.set i (some v)) H s'→(∃ a,be a s.heap s'.heap∧(a=X.env.locals∨X.env.cells.lookup x=some a))→Q () s') (hf:X.fn x=true∨X.env.scope.names.lookup x=some .local:=by first | exact .inl rfl | exact .inr rfl | assumption):wpAny M A (storeName X.env x u) Q E s:=by
 obtain⟨m,hn,hl⟩:=id I.loc;have uA:(X.env.scope.kind == .class || (X.env.scope.kind == .module && X.env.locals != X.env.globals))=false:=by rw [I.ok.kind]; rfl
 have hiσ:i < σ.length:=by rw [I.len]; exact (ak.mp hi).1
 have cne:=I.cne;have tracked:∀ {a:Addr} {h':Heap},(∃ o,s.heap.get? a=some o∧H a=none)→be a s.heap h'→HOk X.prog X.w H h':=fun {a h'} ha hs b ob e=>by
  obtain⟨_,_,wK⟩:=ha;refine (I.hok b ob e).stay (fun c w' hc q=>(hs.2 c ?_).trans q) (fun _ q=>q) fun _ _ q=>q
  rintro rfl;rcases hc with rfl | hc
  ·rw [wK] at e; cases e
  ·rw [wK] at hc; cases hc
 rcases hx with hk | hk
 ·refine wpAny_storeName_local hk hn (fun h' xt hs=>?_) uA;obtain⟨oL,_,_,vv,_⟩:=id hn;refine h _ ⟨I.ok,I.os,I.bare,⟨fun b o e n hb hx=>?_,fun b o e n hb hx=>?_,I.base.free,fun b o e hx=>?_,I.base.tups,I.base.frzs,I.base.tbls⟩,⟨_,xt,fun j y v' e1 e2 e3=>?_⟩,fun y c e=>?_,I.free,I.freeC,fun p hp=>?_,tracked ⟨oL,vv,I.free⟩ hs,by simpa using I.len⟩ ⟨_,hs,.inl rfl⟩
  ·exact (hs.2 b (aZ (aU (aD e) I.ok.above))).trans (I.base.keep b o e n hb hx)
  ·obtain⟨sl,e1⟩:=I.base.slot b o e n hb hx;exact⟨sl,(hs.2 b (aZ (aU (aD e) I.ok.above))).trans e1⟩
  ·obtain⟨o',e1⟩:=I.base.there b o e hx;exact⟨o',(hs.2 b (aZ (aU (aD e) I.ok.above))).trans e1⟩
  ·by_cases hj:j=i
   ·subst hj;rw [hi] at e1; cases e1;rw [dz hiσ] at e2;cases e2;exact⟨u,r,.inl ⟨hk,#[M]⟩⟩
   ·rw [cN (dk hj)] at e2;obtain⟨u',r',q⟩:=hl j y v' e1 e2 e3;refine⟨u',r',?_⟩;rcases q with ⟨k,e⟩ | ⟨k,c,e,z⟩
    ·refine .inl ⟨k,?_⟩;have:y≠x:=fun e=>hj (zd1 hN e1 (e ▸ hi))
     simp [this,e]
    ·exact .inr ⟨k,c,e,z.sameBut hs (cne y c e)⟩
  ·obtain⟨w',z⟩:=I.cell y c e;exact⟨w',z.sameBut hs (cne y c e)⟩
  ·obtain⟨e,n,ne,nf,d⟩:=I.pin p hp;exact⟨(hs.2 p.1 ne).trans e,n,ne,nf,d⟩
 ·have yW:X.fn x=true:=by
   rcases hf with z | z
   ·exact z
   ·rw [z] at hk; cases hk
  obtain⟨c,hc⟩:=I.ok.has x (.inl hk);obtain⟨w',z⟩:=I.cell x c hc;refine wpAny_storeName_cell I.ok.kind hk hc z (fun h' lR hs=>?_);obtain⟨oc,hoc,Cn⟩:=id z;refine h { s with heap:=h' } ⟨I.ok,I.os,I.bare,⟨fun b o e n hb hx=>?_,fun b o e n hb hx=>?_,I.base.free,fun b o e hx=>?_,I.base.tups,I.base.frzs,I.base.tbls⟩,⟨m,hn.sameBut hs (dk (cne x c hc)),fun j y v' e1 e2 e3=>?_⟩,fun y c' e=>?_,I.free,I.freeC,fun p hp=>?_,tracked ⟨oc,hoc,I.freeC x c hc⟩ hs,by simpa using I.len⟩ ⟨c,hs,.inr hc⟩
  ·exact (hs.2 b (aZ (aU (aD e) (I.ok.cab x c yW hc)))).trans (I.base.keep b o e n hb hx)
  ·obtain⟨sl,e1⟩:=I.base.slot b o e n hb hx;exact⟨sl,(hs.2 b (aZ (aU (aD e) (I.ok.cab x c yW hc)))).trans e1⟩
  ·obtain⟨o',e1⟩:=I.base.there b o e hx;exact⟨o',(hs.2 b (aZ (aU (aD e) (I.ok.cab x c yW hc)))).trans e1⟩
  ·by_cases hj:j=i
   ·subst hj;rw [hi] at e1; cases e1;rw [dz hiσ] at e2;cases e2;exact⟨u,r,.inr ⟨.inl hk,c,hc,lR⟩⟩
   ·rw [cN (dk hj)] at e2;obtain⟨u',r',q⟩:=hl j y v' e1 e2 e3;refine⟨u',r',?_⟩;rcases q with q | ⟨k,c',e,z'⟩
    ·exact .inl q
    ·refine .inr ⟨k,c',e,z'.sameBut hs ?_⟩;rintro rfl;exact hj (zd1 hN e1 (I.ok.inj _ _ _ e hc ▸ hi))
  ·by_cases mU:c'=c
   ·subst mU; exact⟨_,lR⟩
   ·obtain⟨w2,z2⟩:=I.cell y c' e;exact⟨w2,z2.sameBut hs mU⟩
  ·obtain⟨e,n,ne,nf,d⟩:=I.pin p hp;refine⟨(hs.2 p.1 ?_).trans e,n,ne,nf,d⟩;intro q;rw [q,hoc] at e;have q':oc=p.2:=aG e;exact d w' (by rw [← q']; exact Cn)
theorem zbO {M:Model} {A:Around} {E:Value→Shared→Prop} {i:Nat} {x:Str} {v:V} {u:Value} {Q:Unit→Shared→Prop} (I:Inv X lM σ H s) (hN:X.N.Nodup) (hi:X.N[i]? = some x) (hx:Loc X.env.scope x) (r:RelV v u)
  (h:∀ s',Inv X lM (σ.set i (some v)) H s'→Q () s') (hf:X.fn x=true∨X.env.scope.names.lookup x=some .local:=by first | exact .inl rfl | exact .inr rfl | assumption):wpAny M A (storeName X.env x u) Q E s :=
 zeN I hN hi hx r (fun s' I' _=>h s' I') hf
theorem Inv.call' {s':Shared} {ch:List Addr} (I:Inv X lM σ H s) (ho:s'.os=s.os) (u:Un (frs X.stack) ch H H' s.heap s'.heap) (hok:HOk X.prog X.w H' s'.heap) (hg:AllBare s'.gens)
  (oD:∀ b∈ch,(b∈X.ex∨X.s₀.heap.objs.size≤b)∧b≠X.env.locals∧(∀ x c,X.env.cells.lookup x=some c→c≠b)∧∀ p∈X.pn++lM,p.1≠b):Inv X lM σ H' s':=by
 obtain⟨h',g',d',t',o'⟩:=s';have e:o'=s.os:=ho;subst e;exact I.call (g':=g') (t':=t') (d':=d') u hok hg oD
end
abbrev XK:=Value→Option Addr→Hp→Prop
abbrev St:=List (Option V)
abbrev VK:=V→Hp→Prop
abbrev TE:=St→Hp→VK→Prop
abbrev TT:=St→Hp→(Bool→Hp→Prop)→Prop
abbrev TA:=St→Hp→(List V→Hp→Prop)→Prop
structure Ends where
 nx:St→Hp→Prop
 rt:VK
 bk:St→Hp→Prop:=fun _ _=>False
 ct:St→Hp→Prop:=fun _ _=>False
abbrev TS:=Ends→St→Hp→Prop
def EP (X:Cx) (lM:List (Addr×Obj)) (σ:St) (Q:VK) (u:Value) (s':Shared):Prop:=∃ v H',Inv X lM σ H' s'∧RelV v u∧Q v H'
def TP (X:Cx) (lM:List (Addr×Obj)) (σ:St) (Q:Bool→Hp→Prop) (b:Bool) (s':Shared):Prop:=∃ H',Inv X lM σ H' s'∧Q b H'
def AP (X:Cx) (lM:List (Addr×Obj)) (σ:St) (Q:List V→Hp→Prop) (us:List Value) (s':Shared):Prop:=∃ vs H',Inv X lM σ H' s'∧zG vs us∧Q vs H'
def SP (X:Cx) (lM:List (Addr×Obj)) (D:Ends) (f:Flow) (s':Shared):Prop :=
 match f with
 | .next=>∃ σ' H',Inv X lM σ' H' s'∧D.nx σ' H'
 | .brk=>∃ σ' H',Inv X lM σ' H' s'∧D.bk σ' H'
 | .cont=>∃ σ' H',Inv X lM σ' H' s'∧D.ct σ' H'
 | .ret u=>∃ v σ' H',Inv X lM σ' H' s'∧RelV v u∧D.rt v H'
def PE (X:Cx) (e:Expr) (t:TE):Prop :=
 ∀ (lM:List (Addr×Obj)) (s:Shared) (σ:St) (H:Hp) (Q:VK),Inv X lM σ H s→t σ H Q→wpAny (model X.prog X.w) X.A (eval e X.env) (EP X lM σ Q) X.xe s
def PT (X:Cx) (e:Expr) (t:TT):Prop :=
 ∀ (lM:List (Addr×Obj)) (s:Shared) (σ:St) (H:Hp) (Q:Bool→Hp→Prop),Inv X lM σ H s→t σ H Q→wpAny (model X.prog X.w) X.A (isTrue e X.env (eval e X.env)) (TP X lM σ Q) X.xe s
def PW (X:Cx) (e:Expr) (t:TT):Prop :=
 ∀ (whole:Sem Value) (lM:List (Addr×Obj)) (s:Shared) (σ:St) (H:Hp) (Q:Bool→Hp→Prop),Inv X lM σ H s→t σ H Q→wpAny (model X.prog X.w) X.A (isTrue e X.env whole) (TP X lM σ Q) X.xe s
theorem PW.pt {X:Cx} {e:Expr} {t:TT} (h:PW X e t):PT X e t:=h _
def PA (X:Cx) (es:List Expr) (t:TA):Prop :=
 ∀ (pos:Pos) (lM:List (Addr×Obj)) (s:Shared) (σ:St) (H:Hp) (Q:List V→Hp→Prop),Inv X lM σ H s→t σ H Q→wpAny (model X.prog X.w) X.A (spliced (backTo pos (starEach es X.env))) (AP X lM σ Q) X.xe s
def PS (X:Cx) (st:Stmt) (t:TS):Prop :=
 ∀ (lM:List (Addr×Obj)) (s:Shared) (σ:St) (H:Hp) (D:Ends),Inv X lM σ H s→t D σ H→wpAny (model X.prog X.w) X.A (exec st X.env) (SP X lM D) X.xe s
def PSs (X:Cx) (st:List Stmt) (t:TS):Prop :=
 ∀ (lM:List (Addr×Obj)) (s:Shared) (σ:St) (H:Hp) (D:Ends),Inv X lM σ H s→t D σ H→wpAny (model X.prog X.w) X.A (execs st X.env) (SP X lM D) X.xe s
theorem thn {α:Type} {t:Sem α} {Q Q':α→Shared→Prop} {M:Model} {A:Around} {E:Value→Shared→Prop} {s:Shared} (h:wpAny M A t Q E s) (hQ:∀ a s,Q a s→Q' a s):wpAny M A t Q' E s:=bZ h hQ fun _ _ x=>x
section
variable {X:Cx}
def znP (i:Nat):TE:=fun σ H Q=>∃ v,σ[i]? = some (some v)∧Q v H
def tC (v:V):TE:=fun _ H Q=>Q v H
theorem zmR {i:Nat} {x:Str} {pos:Pos} (hN:X.N[i]? = some x) (hv:Vis X.env.scope x) (hd:(x == ("__debug__" : Str))=false:=by decide) (qF:(x == ("__classdict__" : Str))=false:=by decide):PE X (.Name x pos) (znP i):=by
 intro lM s σ H Q I h;obtain⟨v,e,h⟩:=h;obtain⟨m,hn,hl⟩:=I.loc;obtain⟨u,r,l⟩:=hl i x v hN e hv;have fin:EP X lM σ Q u s:=⟨v,H,I,r,h⟩;rcases l with ⟨hk,hm⟩ | ⟨hk,c,hc,o6⟩
 ·exact kH (ja I.ok.kind hk hn hm fin) hd
 ·rcases hk with hk | hk
  ·exact kH (jv I.ok.kind hk hc o6 fin) hd
  ·exact kH (wpAny_loadName_free I.ok.kind hk hc o6 fin qF) hd
theorem zi {i j pos}:PE X (.Constant (.int i) j pos) (tC (.int i)):=fun _ _ _ H _ I h=>wpAny_Constant_int ⟨.int i,H,I.tok _,⟨_,rfl⟩,h⟩
theorem zcS {b j pos}:PE X (.Constant (.bool b) j pos) (tC (.bl b)):=fun _ _ _ H _ I h=>Constant_bool ⟨.bl b,H,I,rfl,h⟩
theorem zdg {j pos}:PE X (.Constant .none j pos) (tC .non):=fun _ _ _ H _ I h=>Constant_none ⟨.non,H,I,rfl,h⟩
theorem zfg {x j pos}:PE X (.Constant (.str x) j pos) (tC (.str x)):=fun _ _ _ H _ I h=>Calls.Constant_str ⟨.str x,H,I.tok _,⟨_,rfl⟩,h⟩
def Gl (X:Cx) (x:Str):Prop:=X.env.kindOf x=some .globalImplicit
theorem zcp {E:Value→Shared→Prop} {lM:List (Addr×Obj)} {s:Shared} {σ:St} {H:Hp} {x:Str} {u:Value} {pos:Pos} {Q:Value→Shared→Prop} (I:Inv X lM σ H s) (hg:Gl X x) (hm:X.mg x=some u) (h:Q u s)
  (hd:(x == ("__debug__" : Str))=false:=by decide):wpAny (model X.prog X.w) X.A (eval (.Name x pos) X.env) Q E s :=
 gF I.ok.kind hg (Calls.loadGlobal_global (by rw [I.ok.glob]; exact I.mod.glob.keeps I.bk) hm h) hd
theorem zbg {E:Value→Shared→Prop} {lM:List (Addr×Obj)} {s:Shared} {σ:St} {H:Hp} {x:Str} {u:Value} {pos:Pos} {Q:Value→Shared→Prop} (I:Inv X lM σ H s) (hg:Gl X x) (hm:X.mg x=none) (hv:bootBuiltins x=some u) (h:Q u s)
  (hn:x≠"__name__":=by decide) (hd:(x == ("__debug__" : Str))=false:=by decide):wpAny (model X.prog X.w) X.A (eval (.Name x pos) X.env) Q E s:=by
 obtain⟨mb,h1,h2⟩:=I.mod.blt;exact gF I.ok.kind hg (Calls.loadGlobal_builtin (by rw [I.ok.glob]; exact I.mod.glob.keeps I.bk) hm (by rw [I.ok.blt]; exact h1.keeps I.bk) ((h2 x hn).trans hv) h) hd
theorem zbb {x:Str} {v:V} {u:Value} {pos:Pos} (hg:Gl X x) (hm:X.mg x=some u) (r:RelV v u) (hd:(x == ("__debug__" : Str))=false:=by decide):PE X (.Name x pos) (tC v) :=
 fun _ _ _ H _ I h=>zcp I hg hm ⟨v,H,I,r,h⟩ hd
theorem zhK {x:Str} {v:V} {u:Value} {pos:Pos} (hg:Gl X x) (hm:X.mg x=none) (hv:bootBuiltins x=some u) (r:RelV v u) (hn:x≠"__name__":=by decide) (hd:(x == ("__debug__" : Str))=false:=by decide):PE X (.Name x pos) (tC v) :=
 fun _ _ _ H _ I h=>zbg I hg hm hv ⟨v,H,I,r,h⟩ hn hd
variable {a b:Expr} {ta tb:TE} {pos:Pos}
def tB (t:TE):TT:=fun σ H Q=>t σ H fun x H1=>∃ c,x = .bl c∧Q c H1
theorem zjN {e:Expr} {t:TE} (h:PE X e t) (he:∀ whole,isTrue e X.env whole=(do let v ← whole; standAt e.pos; holding [v] (truthy v)):=by intro _; rfl):PT X e (tB t):=by
 intro lM s σ H Q I hw;refine isTrue_plain (thn (h lM s σ H _ I hw) fun v s1 ⟨x,H1,I1,r1,q1⟩=>?_) (he _);obtain⟨d,rfl,q⟩:=q1;cases r1;exact gO ⟨H1,I1,q⟩
variable {tA BA:TT} {rest:List Expr}
def zol (t u:TT):TT:=fun σ H Q=>t σ H fun c H1=>if c=true then u σ H1 Q else Q false H1
def tOr (t u:TT):TT:=fun σ H Q=>t σ H fun c H1=>if c=true then Q true H1 else u σ H1 Q
def zom (t:TT):TT:=fun σ H Q=>t σ H fun c H1=>Q (!c) H1
theorem zfh (ha:PT X a tA):PW X (.BoolOp .And [a] pos) tA:=by
 intro wh lM s σ H Q I h;refine isTrue_and (thn (ha lM s σ H Q I h) fun c s1 e=>?_);cases c with
 | true=>exact isTrue_and_nil e
 | false=>exact e
theorem zjO (ha:PT X a tA):PW X (.BoolOp .Or [a] pos) tA:=by
 intro wh lM s σ H Q I h;refine isTrue_or (thn (ha lM s σ H Q I h) fun c s1 e=>?_);cases c with
 | false=>exact isTrue_or_nil e
 | true=>exact e
theorem zgU (ha:PT X a tA) (hb:PW X (.BoolOp .And (b :: rest) pos) BA):PW X (.BoolOp .And (a :: b :: rest) pos) (zol tA BA):=by
 intro wh lM s σ H Q I h;refine isTrue_and (thn (ha lM s σ H _ I h) fun c s1 ⟨H1,I1,q1⟩=>?_);cases c with
 | true=>exact hb wh lM s1 σ H1 Q I1 q1
 | false=>exact⟨H1,I1,q1⟩
theorem zjP (ha:PT X a tA) (hb:PW X (.BoolOp .Or (b :: rest) pos) BA):PW X (.BoolOp .Or (a :: b :: rest) pos) (tOr tA BA):=by
 intro wh lM s σ H Q I h;refine isTrue_or (thn (ha lM s σ H _ I h) fun c s1 ⟨H1,I1,q1⟩=>?_);cases c with
 | true=>exact⟨H1,I1,q1⟩
 | false=>exact hb wh lM s1 σ H1 Q I1 q1
theorem zjQ (ha:PT X a tA):PT X (.UnaryOp .Not a pos) (zom tA):=by
 intro lM s σ H Q I h;exact isTrue_not (ha lM s σ H (fun c H1=>Q (!c) H1) I h)
def tIf (t:TT) (ta tb:TE):TE:=fun σ H Q=>t σ H fun c H1=>if c=true then ta σ H1 Q else tb σ H1 Q
theorem zjR {c:Expr} (hc:PT X c tA) (ha:PE X a ta) (hb:PE X b tb):PE X (.IfExp c a b pos) (tIf tA ta tb):=by
 intro lM s σ H Q I h;refine wpAny_IfExp (thn (hc lM s σ H _ I h) fun d s1 ⟨H1,I1,q1⟩=>?_);cases d with
 | true=>exact ha lM s1 σ H1 Q I1 q1
 | false=>exact hb lM s1 σ H1 Q I1 q1
end
def lN (K:ag) (H:Hp) (a:Addr) (xs:List V):Prop :=
 Rd H a (.lst xs) ∨
  ∃ (o:Obj) (lO:Array Value) (n:Nat),K.lookup a=some o∧o.cls = .type "list"∧o.dict=none∧o.data = .seq lO n∧lO.size≤sizeLine∧zG xs lO.toList
def lX (K:ag) (H:Hp) (a:Addr) (xs:List V):Prop :=
 Rd H a (.tup xs) ∨
  ∃ (o:Obj) (lO:Array Value) (n:Nat),K.lookup a=some o∧o.cls = .type "tuple"∧o.data = .seq lO n∧lO.size≤sizeLine∧zG xs lO.toList
def zon:Value→Option V
 | .none=>some .non
 | .bool b=>some (.bl b)
 | .int i _=>some (.int i)
 | .str x _=>some (.str x)
 | .bytes b _=>some (.byt b)
 | .float b _=>some (.flt b)
 | .ref a=>some (.ref a)
 | .type n=>some (.ty n)
 | _=>none
theorem RelV.abs {x:V} {u:Value} (r:RelV x u):zon u=some x:=by
 cases x with
 | non=>cases r; rfl
 | bl _=>cases r; rfl
 | int _=>obtain⟨t,rfl⟩:=r; rfl
 | str _=>obtain⟨t,rfl⟩:=r; rfl
 | byt _=>obtain⟨t,rfl⟩:=r; rfl
 | flt _=>obtain⟨t,rfl⟩:=r; rfl
 | ref _=>cases r; rfl
 | ty _=>cases r; rfl
theorem RelV.inj {x y:V} {u:Value} (r:RelV x u) (q:RelV y u):x=y:=aG (r.abs.symm.trans q.abs)
theorem zG.inj:∀ {xs ys:List V} {us:List Value},zG xs us→zG ys us→xs=ys
 | _,_,_,.nil,.nil=>rfl
 | _,_,_,.cons r t,.cons r' t'=>by rw [r.inj r',zG.inj t t']
section
variable {X:Cx} {lM:List (Addr×Obj)} {σ:St} {H:Hp} {s:Shared} {a:Addr} {xs ys:List V}
theorem lN.of {K:ag} (h:H a=some (.lst xs)):lN K H a xs:=.inl (.inl h)
theorem lX.of {K:ag} (h:H a=some (.tup xs)):lX K H a xs:=.inl (.inl h)
theorem Inv.list (I:Inv X lM σ H s) (h:lN X.K H a xs):∃ lO:List Value,zG xs lO∧PlainL s.heap a lO.toArray∧xs.length≤sizeLine:=by
 rcases h with h | ⟨o,lO,n,hk,hc,hd,hs,hz,r⟩
 ·obtain⟨z,lO,n,r,e⟩:=h.ok I.hok;exact⟨lO,r,⟨_,n,e,rfl,rfl,rfl⟩,z⟩
 ·refine⟨lO.toList,r,⟨o,n,I.kIn a o hk,hc,hd,by simpa using hs⟩,?_⟩;have e:=r.length;simp only [bw] at e;lia
theorem Inv.tuple (I:Inv X lM σ H s) (h:lX X.K H a xs):∃ lO:List Value,zG xs lO∧IsTup s.heap a lO.toArray∧xs.length≤sizeLine:=by
 rcases h with h | ⟨o,lO,n,hk,hc,hs,hz,r⟩
 ·obtain⟨z,lO,r,p⟩:=h.ok I.hok;exact⟨lO,r,p,z⟩
 ·refine⟨lO.toList,r,⟨o,I.kIn a o hk,hc,n,by simpa using hs⟩,?_⟩;have e:=r.length;simp only [bw] at e;lia
theorem Inv.list_inj (I:Inv X lM σ H s) (h:lN X.K H a xs) (h':lN X.K H a ys):xs=ys:=by
 obtain⟨lO,r,⟨o,n,e,_,_,d⟩,_⟩:=I.list h;obtain⟨its',r',⟨o',n',e',_,_,d'⟩,_⟩:=I.list h';rw [e] at e'; cases e';rw [d] at d';injection d' with d1 _
 have:lO=its':=by simpa using congrArg lF d1
 subst this;exact r.inj r'
theorem Inv.tuple_inj (I:Inv X lM σ H s) (h:lX X.K H a xs) (h':lX X.K H a ys):xs=ys:=by
 obtain⟨lO,r,⟨o,e,_,n,d⟩,_⟩:=I.tuple h;obtain⟨its',r',⟨o',e',_,n',d'⟩,_⟩:=I.tuple h';rw [e] at e'; cases e';rw [d] at d';injection d' with d1 _
 have:lO=its':=by simpa using congrArg lF d1
 subst this;exact r.inj r'
end
abbrev Cx.wish (X:Cx) (E:Value→Shared→Prop):Cx:={ X with xe:=E }
abbrev Cx.nox (X:Cx):Cx:=X.wish fun _ _=>False
theorem Cx.Ok.wish {X:Cx} (ok:X.Ok) (E:Value→Shared→Prop):(X.wish E).Ok :=
 ⟨ok.mod,ok.kind,ok.glob,ok.blt,ok.above,ok.inj,ok.has,ok.cab,ok.hd,ok.frames,ok.stk,ok.exf,ok.bs,ok.bsz,ok.noex,ok.exfs,ok.funs,ok.frf⟩
theorem Cx.Ok.unwish {X:Cx} {E:Value→Shared→Prop} (ok:(X.wish E).Ok):X.Ok :=
 ⟨ok.mod,ok.kind,ok.glob,ok.blt,ok.above,ok.inj,ok.has,ok.cab,ok.hd,ok.frames,ok.stk,ok.exf,ok.bs,ok.bsz,ok.noex,ok.exfs,ok.funs,ok.frf⟩
section
variable {X:Cx} {lM:List (Addr×Obj)} {σ:St} {H:Hp} {s:Shared} {E:Value→Shared→Prop}
theorem Inv.wish (I:Inv X lM σ H s) (E:Value→Shared→Prop):Inv (X.wish E) lM σ H s:=⟨I.ok.wish E,I.os,I.bare,I.base,I.loc,I.cell,I.free,I.freeC,I.pin,I.hok,I.len⟩
theorem Inv.unwish (I:Inv (X.wish E) lM σ H s):Inv X lM σ H s:=⟨I.ok.unwish,I.os,I.bare,I.base,I.loc,I.cell,I.free,I.freeC,I.pin,I.hok,I.len⟩
theorem SP.unwish {D:Ends} {f:Flow} {s':Shared} (h:SP (X.wish E) lM D f s'):SP X lM D f s':=by
 cases f with
 | next=>obtain⟨σ',H',I,q⟩:=h; exact⟨σ',H',I.unwish,q⟩
 | brk=>obtain⟨σ',H',I,q⟩:=h; exact⟨σ',H',I.unwish,q⟩
 | cont=>obtain⟨σ',H',I,q⟩:=h; exact⟨σ',H',I.unwish,q⟩
 | ret u=>obtain⟨v,σ',H',I,r,q⟩:=h; exact⟨v,σ',H',I.unwish,r,q⟩
theorem PSs.nox {st:List Stmt} {t:TS} (h:PSs X.nox st t):PSs X st t:=fun lM s σ H D I hw =>
 bZ (h lM s σ H D (I.wish _) hw) (fun _ _ q=>q.unwish) fun _ _ z=>bT z
end
section
variable {X:Cx} {st:Stmt} {rest:List Stmt} {t u:TS} {e:Expr} {te:TE} {pos:Pos}
def znQ:TS:=fun D σ H=>D.nx σ H
def zbk (t u:TS):TS:=fun D σ H=>t { D with nx:=u D } σ H
theorem zaw:PSs X [] znQ:=fun _ _ σ H _ I h=>d8 ⟨σ,H,I,h⟩
theorem zg (h1:PS X st t) (h2:PSs X rest u):PSs X (st :: rest) (zbk t u):=by
 intro lM s σ H D I h;refine hV (thn (h1 lM s σ H { D with nx:=u D } I h) fun f s1 q=>?_);cases f with
 | next =>
  obtain⟨σ',H',I',q⟩:=q;exact h2 lM s1 σ' H' D I' q
 | ret v=>exact q
 | brk=>exact q
 | cont=>exact q
theorem zn (h1:PS X st t):PSs X [st] t:=by
 intro lM s σ H D I h;refine hV (thn (h1 lM s σ H D I h) fun f s1 q=>?_);cases f with
 | next=>exact d8 q
 | ret v=>exact q
 | brk=>exact q
 | cont=>exact q
theorem Inv.quiet {lM:List (Addr×Obj)} {σ:St} {H:Hp} {s:Shared} (I:Inv X lM σ H s):interactive X.env=false:=by simp [interactive,I.ok.kind]
def znR (te:TE):TS:=fun D σ H=>te σ H fun _ H1=>D.nx σ H1
theorem zbW (he:PE X e te) (hs:swapsWith e none pos.line X.env=pure false:=by rfl):PS X (.Expr e pos) (znR te):=by
 intro lM s σ H D I h;exact wpAny_Expr_any (thn (he lM s σ H _ I h) fun v s1 ⟨x,H1,I1,r1,q1⟩=>⟨σ,H1,I1,q1⟩) I.quiet hs
def zoo (te:TE):TS:=fun D σ H=>te σ H D.rt
theorem zO (he:PE X e te):PS X (.Return (some e) pos) (zoo te):=by
 intro lM s σ H D I h;exact wpAny_Return_some (thn (he lM s σ H _ I h) fun v s1 ⟨x,H1,I1,r1,q1⟩=>⟨x,σ,H1,I1,r1,q1⟩)
def zop (c:TT) (t u:TS):TS:=fun D σ H=>c σ H fun b H1=>if b=true then t D σ H1 else u D σ H1
theorem zbi {c:Expr} {a b:List Stmt} {tc:TT} (hc:PT X c tc) (ha:PSs X a t) (hb:PSs X b u):PS X (.If c a b pos) (zop tc t u):=by
 intro lM s σ H D I h;refine wpAny_If (thn (hc lM s σ H _ I h) fun d s1 ⟨H1,I1,q1⟩=>?_);cases d with
 | true=>exact ha lM s1 σ H1 D I1 q1
 | false=>exact hb lM s1 σ H1 D I1 q1
end
abbrev TG:=V→St→Hp→(St→Hp→Prop)→Prop
abbrev TGs:=List V→St→Hp→(St→Hp→Prop)→Prop
def PG (X:Cx) (target:Expr) (t:TG):Prop :=
 ∀ (lM:List (Addr×Obj)) (s:Shared) (σ:St) (H:Hp) (v:V) (u:Value) (Q:St→Hp→Prop),Inv X lM σ H s→RelV v u→t v σ H Q →
  wpAny (model X.prog X.w) X.A (assign target X.env u) (fun _ s'=>∃ σ' H',Inv X lM σ' H' s'∧Q σ' H') X.xe s
def PGs (X:Cx) (ts:List Expr) (t:TGs):Prop :=
 ∀ (lM:List (Addr×Obj)) (s:Shared) (σ:St) (H:Hp) (vs:List V) (us:List Value) (Q:St→Hp→Prop),Inv X lM σ H s→zG vs us→t vs σ H Q →
  wpAny (model X.prog X.w) X.A (assignInOrder ((assignEach ts X.env).map (·.2)) us) (fun _ s'=>∃ σ' H',Inv X lM σ' H' s'∧Q σ' H') X.xe s
abbrev zmS:=V→V→V→Hp→(Hp→Prop)→Prop
def znS (X:Cx) (t:zmS):Prop :=
 ∀ (lM:List (Addr×Obj)) (s:Shared) (σ:St) (H:Hp) (o i v:V) (ov iv u:Value) (Q:Hp→Prop),Inv X lM σ H s→RelV o ov→RelV i iv→RelV v u→t o i v H Q →
  wpAny (model X.prog X.w) X.A (setItem ov iv u) (fun _ s'=>∃ H',Inv X lM σ H' s'∧Q H') X.xe s
abbrev TIp:=V→V→Hp→VK→Prop
def PIp (X:Cx) (op:Operator) (t:TIp):Prop :=
 ∀ (lM:List (Addr×Obj)) (s:Shared) (σ:St) (H:Hp) (x y:V) (v u:Value) (Q:VK),Inv X lM σ H s→RelV x v→RelV y u→t x y H Q →
  wpAny (model X.prog X.w) X.A (inplaceOp op v u) (EP X lM σ Q) X.xe s
section
variable {X:Cx} {pos:Pos}
def zaQ (i:Nat):TG:=fun v σ H Q=>Q (σ.set i (some v)) H
theorem zl {i:Nat} {x:Str} (hN:X.N.Nodup) (hi:X.N[i]? = some x) (hx:Loc X.env.scope x) (hf:X.fn x=true∨X.env.scope.names.lookup x=some .local:=by first | exact .inl rfl | exact .inr rfl | assumption):PG X (.Name x pos) (zaQ i):=by
 intro lM s σ H v u Q I r h;exact wpAny_assign_Name (zbO I hN hi hx r (fun s' I'=>⟨_,H,I',h⟩) hf)
def ziD:TGs:=fun vs σ H Q=>vs = []∧Q σ H
def zcz (t:TG) (u:TGs):TGs:=fun vs σ H Q=>∃ v r,vs=v :: r∧t v σ H fun σ' H'=>u r σ' H' Q
theorem zag:PGs X [] ziD:=by
 intro lM s σ H vs us Q I r h;obtain⟨e,h⟩:=h;subst e;cases r;exact assignInOrder_nil ⟨σ,H,I,h⟩
theorem zq {e:Expr} {es:List Expr} {t:TG} {u:TGs} (h1:PG X e t) (h2:PGs X es u)
  (hs:(assignEach (e :: es) X.env).map (·.2)=assign e X.env :: (assignEach es X.env).map (·.2):=by rfl):PGs X (e :: es) (zcz t u):=by
 intro lM s σ H vs us Q I r h;obtain⟨v,vr,e1,h⟩:=h;subst e1;cases r with
 | cons r rr =>
  rw [hs];refine assignInOrder_cons (thn (h1 lM s σ H _ _ _ I r h) fun _ s1 ⟨σ1,H1,I1,q1⟩=>?_);exact h2 lM s1 σ1 H1 _ _ Q I1 rr q1
def zgV (K:ag) (n:Nat) (t:TGs):TG:=fun v σ H Q=>∃ a xs,v = .ref a∧lX K H a xs∧xs.length=n∧t xs σ H Q
theorem zbI {es:List Expr} {k:Nat} {t:TGs} {n:Nat} (hc:X.calm=true) (h:PGs X es t)
  (hn:(assignEach es X.env).length=n:=by rfl) (oE:(assignEach es X.env).findIdx? (·.1)=none:=by rfl):PG X (.Tuple es k pos) (zgV X.K n t):=by
 intro lM s σ H v u Q I r hw;obtain⟨a,xs,e1,hq,hl,hw⟩:=hw;subst e1;cases r;obtain⟨lO,rv,ht,hz⟩:=I.tuple hq;refine assign_Tuple_tuple (I.ok.hd hc) ht (by simp [hn,← hl,rv.length]) oE fun h' hx=>?_
 have I1:Inv X lM σ H { s with heap:=h' }:=I.kept (t':=s.toks) fun b o e=>hx b o (aZ (aD e)) e
 exact h lM _ σ H xs _ Q I1 (by simpa using rv) hw
def zoq (to ti:TE) (t:zmS):TG:=fun v σ H Q=>to σ H fun o H1=>ti σ H1 fun i H2=>t o i v H2 fun H3=>Q σ H3
theorem zgW {o i:Expr} {to ti:TE} {t:zmS} (ho:PE X o to) (hi:PE X i ti) (hs:znS X t)
  (ha:∀ v,assign (.Subscript o i pos) X.env v=(do
   let ov ← holding [v] (eval o X.env)
   let iv ← holding [v,ov] (eval i X.env)
   standAt pos
   holding [v,ov,iv] (setItem ov iv v)
   release [v,ov,iv] []):=by intro _; rfl):PG X (.Subscript o i pos) (zoq to ti t):=by
 intro lM s σ H v u Q I r h;rw [ha];refine aa (bK (thn (ho lM s σ H _ I h) fun ov s1 ⟨x,H1,I1,r1,q1⟩=>?_));refine aa (bK (thn (hi lM s1 σ H1 _ I1 q1) fun iv s2 ⟨y,H2,I2,r2,q2⟩=>?_));refine aa (eM (aa (bK (thn (hs lM s2 σ H2 x y v ov iv u _ I2 r1 r2 r q2) fun _ s3 ⟨H3,I3,q3⟩=>?_))));exact wpAny_release ⟨σ,H3,I3,q3⟩
def zex (te:TE) (g:TG):TS:=fun D σ H=>te σ H fun x H1=>g x σ H1 D.nx
theorem zbX {tg e:Expr} {te:TE} {g:TG} (he:PE X e te) (hg:PG X tg g) (hs:swapsWithSole [tg] e pos.line X.env=pure false:=by rfl) (hw:swappedStores [tg] e X.env=pure none:=by rfl)
  (h1:(assignEach [tg] X.env).map (·.2) = [assign tg X.env]:=by rfl):PS X (.Assign [tg] e pos) (zex te g):=by
 intro lM s σ H D I h;refine wpAny_Assign_stores (thn (he lM s σ H _ I h) fun v s1 ⟨x,H1,I1,r1,q1⟩=>?_) hs hw;rw [h1];exact thn (hg lM s1 σ H1 x v _ I1 r1 q1) fun _ s2 q=>q
theorem zr {i:Nat} {x:Str} {e:Expr} {te:TE} {pos':Pos} (hN:X.N.Nodup) (hi:X.N[i]? = some x) (hx:Loc X.env.scope x) (he:PE X e te) (hs:swapsWith e (some (.Name x pos')) pos.line X.env=pure false:=by rfl) (hf:X.fn x=true∨X.env.scope.names.lookup x=some .local:=by first | exact .inl rfl | exact .inr rfl | assumption) :
  PS X (.Assign [.Name x pos'] e pos) (zex te (zaQ i)):=by
 intro lM s σ H D I h;refine wpAny_Assign_Name (thn (he lM s σ H _ I h) fun v s1 ⟨y,H1,I1,r1,q1⟩=>?_) hs;exact zbO I1 hN hi hx r1 (fun s2 I2=>⟨_,H1,I2,q1⟩) hf
def zor (i:Nat) (te:TE) (ti:TIp):TS:=fun D σ H=>∃ x,σ[i]? = some (some x)∧te σ H fun y H1=>ti x y H1 fun z H2=>D.nx (σ.set i (some z)) H2
theorem zmT {i:Nat} {x:Str} {e:Expr} {te:TE} {op:Operator} {ti:TIp} {pos':Pos} (hN:X.N.Nodup) (hi:X.N[i]? = some x) (hx:Loc X.env.scope x) (he:PE X e te) (ho:PIp X op ti) (hf:X.fn x=true∨X.env.scope.names.lookup x=some .local:=by first | exact .inl rfl | exact .inr rfl | assumption) :
  PS X (.AugAssign (.Name x pos') op e pos) (zor i te ti):=by
 intro lM s σ H D I h;obtain⟨v,e1,h⟩:=h;obtain⟨m,hn,hl⟩:=I.loc;have vis:Vis X.env.scope x:=by rcases hx with k | k; exact .inl k; exact .inr (.inl k)
 obtain⟨u,r,l⟩:=hl i x v hi e1 vis;refine wpAny_AugAssign_Name ?_;have go:wpAny (model X.prog X.w) X.A (eval e X.env) (fun w s₂=>wpAny (model X.prog X.w) X.A (inplaceOp op u w) (fun r s₃=>wpAny (model X.prog X.w) X.A (storeName X.env x r) (fun _=>SP X lM D .next) X.xe s₃) X.xe s₂) X.xe s:=by
  refine thn (he lM s σ H _ I h) fun w s1 ⟨y,H1,I1,r1,q1⟩=>?_
  refine thn (ho lM s1 σ H1 v y u w _ I1 r r1 q1) fun z s2 ⟨zv,H2,I2,r2,q2⟩=>?_
  exact zbO I2 hN hi hx r2 (fun s3 I3=>⟨_,H2,I3,q2⟩) hf
 rcases l with ⟨hk,hm⟩ | ⟨hk,c,hc,o6⟩
 ·exact ja I.ok.kind hk hn hm go
 ·rcases hk with hk | hk
  ·exact jv I.ok.kind hk hc o6 go
  ·rcases hx with k | k
   ·have:X.env.scope.names.lookup x=some .free:=hk;rw [k] at this; cases this
   ·have:X.env.scope.names.lookup x=some .free:=hk;rw [k] at this; cases this
def zjS (c:TT) (tb:TS):TS:=fun D σ H=>∃ W:Nat→St→Hp→Prop,(∃ m,W m σ H)∧∀ m σ H,W m σ H →
 c σ H fun b H1=>if b=true then ∃ N:St→Hp→Prop,(∀ σ' H',N σ' H'→∃ m',m' < m∧W m' σ' H')∧tb { D with nx:=N,ct:=N,bk:=D.nx } σ H1 else D.nx σ H1
theorem zjT {c:Expr} {body:List Stmt} {tc:TT} {tb:TS} (hp:PassesOwn (model X.prog X.w) X.A X.env X.xe) (hc:PT X c tc) (hb:PSs X body tb):PS X (.While c body [] pos) (zjS tc tb):=by
 intro lM s σ H D I h;obtain⟨W,⟨m0,w0⟩,turn⟩:=h;refine wpAny_While (codeAny_whileLoop (fun n s'=>∃ σ' H',Inv X lM σ' H' s'∧W n σ' H') ?_ m0 ⟨σ,H,I,w0⟩);rintro n s1 ⟨σ1,H1,I1,w1⟩;refine dB hp (thn (hc lM s1 σ1 H1 _ I1 (turn n σ1 H1 w1)) fun b s2 ⟨H2,I2,q2⟩=>?_);cases b with
 | true =>
  obtain⟨N,hN,q2⟩:=q2;rw [if_pos rfl];refine dB hp (thn (hb lM s2 σ1 H2 _ I2 q2) fun f s3 q3=>?_);cases f with
  | next =>
   obtain⟨σ3,H3,I3,n3⟩:=q3;obtain⟨m',hm,w3⟩:=hN σ3 H3 n3;exact⟨m',hm,σ3,H3,I3,w3⟩
  | cont =>
   obtain⟨σ3,H3,I3,n3⟩:=q3;obtain⟨m',hm,w3⟩:=hN σ3 H3 n3;exact⟨m',hm,σ3,H3,I3,w3⟩
  | brk=>exact q3
  | ret v=>exact q3
 | false =>
  rw [if_neg aJ];exact d8 ⟨σ1,H2,I2,q2⟩
end
structure It where
 go:Nat→Hp→Prop
 yld:Nat→Hp→V→Hp→Prop
 stop:Nat→Hp→Prop
def zcd (X:Cx) (lM:List (Addr×Obj)) (H:Hp) (b:Addr):Prop :=
 H b=none∧b≠X.env.locals∧b∉X.fs∧(b∈X.ex∨X.s₀.heap.objs.size≤b)∧(∀ x c,X.env.cells.lookup x=some c→c≠b)∧∀ p∈X.pn++lM,p.1≠b
theorem Inv.fpOk {X:Cx} {lM:List (Addr×Obj)} {σ:St} {H H':Hp} {s:Shared} {b:Addr} (I:Inv X lM σ H s) (hb:s.heap.objs.size≤b) (hn:H' b=none):zcd X lM H' b:=by
 refine⟨hn,fb (aU I.lt hb),I.nofs hb,.inr (aV I.sz hb),fun x c e z=>?_,fun p hp z=>?_⟩
 ·obtain⟨v,q⟩:=I.cell x c e;exact absurd (aU q.lt (by rw [z]; exact hb)) (cm _)
 ·exact absurd (aU (aD (I.pin p hp).1) (by rw [z]; exact hb)) (cm _)
structure Turn (P:Program) (w:World) (K:ag) (tg:Expr) (J:It) (fp:List Addr) (it:Addr) (tn:Nat→Heap→Prop):Prop where
 mem:it∈fp
 obj:∀ i h,tn i h→∀ b∈fp,∃ o,h.get? b=some o∧∀ v,o.data≠.cell v
 keep:∀ i h h',tn i h→(∀ b∈fp,∀ o,h.get? b=some o→h'.get? b=some o)→tn i h'
 item:∀ (X:Cx),X.prog=P→X.w=w→X.K=K→X.calm=true→∀ (i:Nat) (lM:List (Addr×Obj)) (s:Shared) (σ:St) (H:Hp) (E:Value→Shared→Prop),Inv X lM σ H s→(∀ b∈fp,zcd X lM H b)→tn i s.heap→J.go i H →
  wpAny (model P w) X.A (pyNext (.ref it)) (fun r s1=>∃ u,r=some u ∧
   wpAny (model P w) X.A (letOwnedTupleGo tg (.ref it) u) (fun _ s2=>∃ x H',Inv X lM σ H' s2∧RelV x u∧J.yld i H x H'∧tn (i+1) s2.heap∧∀ b∈fp,H' b=none) E s1) E s
 done:∀ (X:Cx),X.prog=P→X.w=w→X.K=K→X.calm=true→∀ (i:Nat) (lM:List (Addr×Obj)) (s:Shared) (σ:St) (H:Hp) (E:Value→Shared→Prop),Inv X lM σ H s→(∀ b∈fp,zcd X lM H b)→tn i s.heap→J.stop i H →
  wpAny (model P w) X.A (pyNext (.ref it)) (fun r s1=>r=none∧Inv X lM σ H s1) E s
 self:∀ (A:Around) (i:Nat) (s:Shared) (Q:Value→Shared→Prop) (E:Value→Shared→Prop),tn i s.heap→Q (.ref it) s→wpAny (model P w) A (pyIter (.ref it)) Q E s
abbrev TI:=St→Hp→(It→Hp→Prop)→Prop
def PIE (X:Cx) (lM:List (Addr×Obj)) (σ:St) (tg:Expr) (R:It→Hp→Prop) (xu:Value) (s2:Shared):Prop :=
 ∃ (it:Addr) (fp:List Addr) (tn:Nat→Heap→Prop) (J:It) (H':Hp),xu = .ref it∧Inv X lM σ H' s2∧Turn X.prog X.w X.K tg J fp it tn∧tn 0 s2.heap∧(∀ b∈fp,zcd X lM H' b)∧R J H'
def PI (X:Cx) (tg iter:Expr) (wi:TI):Prop :=
 ∀ (lM:List (Addr×Obj)) (s:Shared) (σ:St) (H:Hp) (R:It→Hp→Prop),Inv X lM σ H s→wi σ H R →
  wpAny (model X.prog X.w) X.A (eval iter X.env) (fun v s1=>wpAny (model X.prog X.w) X.A (pyIter v) (PIE X lM σ tg R) X.xe s1) X.xe s
theorem zfX {M:Model} {A:Around} {E:Value→Shared→Prop} {s:Shared} {tg:Expr} {it:Addr} {u:Value} {o:Obj} {n:String} {vs:Array Value} {Q:Unit→Shared→Prop} (ho:s.heap.get? it=some o) (hc:o.cls = .type n) (hd:o.data = .fields vs)
  (hn:["enumerate","zip","dict_itemiterator","dict_reverseitemiterator","odict_iterator","itertools.zip_longest","itertools.pairwise"].contains n=false) (hQ:Q () s):wpAny M A (letOwnedTupleGo tg (.ref it) u) Q E s:=by
 unfold letOwnedTupleGo;cases tg <;> first
  | exact ai hQ
  | (cases u <;> first
    | exact ai hQ
    | (refine aa (wpAny_load ho ?_)
       rw [hc,hd];show wpAny M A (if (["enumerate","zip","dict_itemiterator","dict_reverseitemiterator","odict_iterator","itertools.zip_longest","itertools.pairwise"].contains n && vs[0]? == some (rawInt _))=true then _ else _) Q E s;rw [if_neg (by intro h; rw [hn,kZ] at h; cases h)];exact ai hQ))
def Itl (K:ag) (a:Addr):It :=
 ⟨fun i H=>∃ xs x,lN K H a xs∧xs[i]? = some x,fun i H x H'=>H'=H∧∀ xs,lN K H a xs→xs[i]? = some x,fun i H=>∃ xs,lN K H a xs∧xs.length≤i⟩
def Itt (K:ag) (a:Addr):It :=
 ⟨fun i H=>∃ xs x,lX K H a xs∧xs[i]? = some x,fun i H x H'=>H'=H∧∀ xs,lX K H a xs→xs[i]? = some x,fun i H=>∃ xs,lX K H a xs∧xs.length≤i⟩
def Itr (lo:Int) (n:Nat):It:=⟨fun i _=>i < n,fun i H x H'=>H'=H∧x = .int (lo+i),fun i _=>n≤i⟩
theorem zeO {P:Program} {w:World} {K:ag} {tg:Expr} (a it:Addr):Turn P w K tg (Itl K a) [it] it (fun i h=>h.IsListIter it a i) where
 mem:=by simp
 obj:=fun i h st b hb=>by
  have e:b=it:=by simpa using hb
  subst e;obtain⟨o,e,c,d⟩:=st;exact⟨o,e,fun v z=>by rw [d] at z; cases z⟩
 keep:=fun i h h' st k=>st.at fun o e=>k it #[M] o e
 item:=by
  intro X hP hw hK hc i lM s σ H E I hf st hg;subst hP hw hK;obtain⟨xs,x,hq,hx⟩:=hg;obtain⟨lO,rv,p,hz⟩:=I.list hq;obtain⟨u,hu,ru⟩:=rv.get hx;obtain⟨f0,f1,f2,f3,f4,f5⟩:=hf it #[M];refine wpAny_pyNext_list_item st p.isList (x:=u) (by simpa using hu) fun h' lQ sb=>?_
  have I1:Inv X lM σ H { s with heap:=h' }:=I.turned (t':=s.toks) (fun b o hb e=>(sb.2 b hb).trans e) f0 f1 f3 f4 f5;obtain⟨o,e,c,d⟩:=id lQ;exact⟨u,rfl,zfX (s:={ s with heap:=h' }) e c d #[D] ⟨x,H,I1,ru,⟨rfl,fun ys hy=>by rw [I.list_inj hy hq]; exact hx⟩,lQ,fun b hb=>(hf b hb).1⟩⟩
 done:=by
  intro X hP hw hK hc i lM s σ H E I hf st hg;subst hP hw hK;obtain⟨xs,hq,hx⟩:=hg;obtain⟨lO,rv,p,hz⟩:=I.list hq;obtain⟨f0,f1,f2,f3,f4,f5⟩:=hf it #[M];have hl:=rv.length;exact wpAny_pyNext_list_end (I.ok.hd hc) st p.isList (by simp; lia) fun h' eb=>⟨rfl,I.turned (t':=s.toks) (fun b o hb e=>eb b o hb e) f0 f1 f3 f4 f5⟩
 self:=fun _ _ _ _ _ st h=>wpAny_pyIter_listiter st h
theorem zd2 {P:Program} {w:World} {K:ag} {tg:Expr} (a it:Addr):Turn P w K tg (Itt K a) [it] it (fun i h=>h.IsTupleIter it a i) where
 mem:=by simp
 obj:=fun i h st b hb=>by
  have e:b=it:=by simpa using hb
  subst e;obtain⟨o,e,c,d⟩:=st;exact⟨o,e,fun v z=>by rw [d] at z; cases z⟩
 keep:=fun i h h' st k=>st.at fun o e=>k it #[M] o e
 item:=by
  intro X hP hw hK hc i lM s σ H E I hf st hg;subst hP hw hK;obtain⟨xs,x,hq,hx⟩:=hg;obtain⟨lO,rv,p,hz⟩:=I.tuple hq;obtain⟨u,hu,ru⟩:=rv.get hx;obtain⟨f0,f1,f2,f3,f4,f5⟩:=hf it #[M];refine wpAny_pyNext_tuple_item st (show s.heap.IsTuple a lO.toArray from p) (x:=u) (by simpa using hu) fun h' lQ sb=>?_
  have I1:Inv X lM σ H { s with heap:=h' }:=I.turned (t':=s.toks) (fun b o hb e=>(sb.2 b hb).trans e) f0 f1 f3 f4 f5;obtain⟨o,e,c,d⟩:=id lQ;exact⟨u,rfl,zfX (s:={ s with heap:=h' }) e c d #[D] ⟨x,H,I1,ru,⟨rfl,fun ys hy=>by rw [I.tuple_inj hy hq]; exact hx⟩,lQ,fun b hb=>(hf b hb).1⟩⟩
 done:=by
  intro X hP hw hK hc i lM s σ H E I hf st hg;subst hP hw hK;obtain⟨xs,hq,hx⟩:=hg;obtain⟨lO,rv,p,hz⟩:=I.tuple hq;obtain⟨f0,f1,f2,f3,f4,f5⟩:=hf it #[M];have hl:=rv.length;exact wpAny_pyNext_tuple_end (I.ok.hd hc) st (show s.heap.IsTuple a lO.toArray from p) (by simp; lia) fun h' eb=>⟨rfl,I.turned (t':=s.toks) (fun b o hb e=>eb b o hb e) f0 f1 f3 f4 f5⟩
 self:=fun _ _ _ _ _ st h=>wpAny_pyIter_tupleiter st h
theorem zgX {P:Program} {w:World} {K:ag} {tg:Expr} (it:Addr) (lo:Int) (n:Nat):Turn P w K tg (Itr lo n) [it] it (fun i h=>IsRangeIter h it (lo+(i:Nat)*1) ((n:Int) - (i:Nat)) 1) where
 mem:=by simp
 obj:=fun i h st b hb=>by
  have e:b=it:=by simpa using hb
  subst e;exact⟨_,st,fun v z=>by
   have z':ko _=Data.cell v:=z;cases z'⟩
 keep:=fun i h h' st k=>k it #[M] _ st
 item:=by
  intro X hP hw hK hc i lM s σ H E I hf st hg;subst hP hw hK;obtain⟨f0,f1,f2,f3,f4,f5⟩:=hf it #[M];have W:=Walks.range (prog:=X.prog) (w:=X.w) (I.ok.hd hc) it lo 1 n;refine W.item i s _ _ hg st fun v h' tk hv lQ kk=>?_
  obtain⟨t,rfl⟩:=hv;have I1:Inv X lM σ H { s with heap:=h',toks:=tk }:=I.turned (fun b o hb e=>kk b o (by simpa using hb) e) f0 f1 f3 f4 f5;refine⟨_,rfl,zfX (s:={ s with heap:=h',toks:=tk }) (n:="range_iterator") lQ rfl rfl #[D] ⟨.int (lo+i),H,I1,⟨t,?_⟩,⟨rfl,rfl⟩,lQ,fun b hb=>(hf b hb).1⟩⟩;rw [Int.mul_one]
 done:=by
  intro X hP hw hK hc i lM s σ H E I hf st hg;subst hP hw hK;obtain⟨f0,f1,f2,f3,f4,f5⟩:=hf it #[M];exact wpAny_pyNext_range_end (I.ok.hd hc) st (by have:n≤i:=hg; lia) fun h' eb=>⟨rfl,I.turned (t':=s.toks) (fun b o hb e=>eb b o hb e) f0 f1 f3 f4 f5⟩
 self:=fun _ _ _ _ _ st h=>wpAny_pyIter_rangeiter st h
section
variable {X:Cx} {tg:Expr}
def zmu (K:ag) (tl:TE):TI:=fun σ H R=>tl σ H fun x H1=>∃ a,x = .ref a∧(∃ xs,lN K H1 a xs)∧R (Itl K a) H1
def zos (K:ag) (tl:TE):TI:=fun σ H R=>tl σ H fun x H1=>∃ a,x = .ref a∧(∃ xs,lX K H1 a xs)∧R (Itt K a) H1
theorem z6 {l:Expr} {tl:TE} (hl:PE X l tl):PI X tg l (zmu X.K tl):=by
 intro lM s σ H R I h;refine thn (hl lM s σ H _ I h) fun v s1 ⟨x,H1,I1,r1,q1⟩=>?_
 obtain⟨a,e,⟨xs,hq⟩,q⟩:=q1;subst e;cases r1;obtain⟨lO,rv,p,hz⟩:=I1.list hq;refine gP p.isList ?_;refine⟨s1.heap.objs.size,[s1.heap.objs.size],_,_,H1,rfl,I1.kept (t':=s1.toks) fun b o e=>af _ e,zeO a _,⟨_,aC _ rfl,rfl,rfl⟩,fun b hb=>?_,q⟩;have e:b=s1.heap.objs.size:=by simpa using hb
 subst e;exact I1.fpOk (ah _) (I1.hok.fresh (ah _))
theorem zmU {l:Expr} {tl:TE} (hl:PE X l tl):PI X tg l (zos X.K tl):=by
 intro lM s σ H R I h;refine thn (hl lM s σ H _ I h) fun v s1 ⟨x,H1,I1,r1,q1⟩=>?_
 obtain⟨a,e,⟨xs,hq⟩,q⟩:=q1;subst e;cases r1;obtain⟨lO,rv,p,hz⟩:=I1.tuple hq;refine fc (show s1.heap.IsTuple a lO.toArray from p) ?_;refine⟨s1.heap.objs.size,[s1.heap.objs.size],_,_,H1,rfl,I1.kept (t':=s1.toks) fun b o e=>af _ e,zd2 a _,⟨_,aC _ rfl,rfl,rfl⟩,fun b hb=>?_,q⟩;have e:b=s1.heap.objs.size:=by simpa using hb
 subst e;exact I1.fpOk (ah _) (I1.hok.fresh (ah _))
theorem zfY {lM:List (Addr×Obj)} {σ:St} {H:Hp} {s:Shared} {R:It→Hp→Prop} {E:Value→Shared→Prop} {lo hi:Int} {t u v:Tok} {tk:Nat} (I:Inv X lM σ H s) (h1:-(2 ^ 62)≤lo) (h2:lo < 2 ^ 62) (h3:-(2 ^ 62)≤hi) (h4:hi < 2 ^ 62)
  (q:R (Itr lo (hi - lo).toNat) H):wpAny (model X.prog X.w) X.A (pyIter (.ref s.heap.objs.size)) (PIE X lM σ tg R) E { s with heap:=s.heap.push { cls:=.type "range",data:=.fields #[.int lo t,.int hi u,.int 1 v] },toks:=tk }:=by
 refine wpAny_pyIter_range (IsRange.new ..) (small_one h1 h2 h3 h4) ?_;have I1:Inv X lM σ H { s with heap:=s.heap.push { cls:=.type "range",data:=.fields #[.int lo t,.int hi u,.int 1 v] },toks:=tk }:=I.kept fun b o e=>af _ e
 refine⟨(s.heap.push { cls:=.type "range",data:=.fields #[.int lo t,.int hi u,.int 1 v] }).objs.size,[(s.heap.push { cls:=.type "range",data:=.fields #[.int lo t,.int hi u,.int 1 v] }).objs.size],_,_,H,rfl,
  I1.kept (t':=tk) fun b o e=>af _ e,zgX _ lo (hi - lo).toNat,?_,fun b hb=>?_,q⟩
 ·have e1:lo+((0:Nat):Int)*1=lo:=by simp
  have e2:(((hi - lo).toNat:Nat):Int) - ((0:Nat):Int)=Builtin.Range.rangeSize lo hi 1:=by rw [rangeSize_one]; split <;> lia
  show IsRangeIter _ _ (lo+((0:Nat):Int)*1) ((((hi - lo).toNat:Nat):Int) - ((0:Nat):Int)) 1;rw [e1,e2];exact aC _ rfl
 ·have e:b=(s.heap.push { cls:=.type "range",data:=.fields #[.int lo t,.int hi u,.int 1 v] }).objs.size:=by simpa using hb
  subst e;exact I1.fpOk (ah _) (I1.hok.fresh (ah _))
def znT (ta:TA):TI:=fun σ H R=>ta σ H fun vs H1=>∃ j:Int,vs = [.int j]∧-(2 ^ 62)≤j∧j < 2 ^ 62∧R (Itr 0 j.toNat) H1
def znU (ta:TA):TI:=fun σ H R=>ta σ H fun vs H1=>∃ i j:Int,vs = [.int i,.int j]∧(-(2 ^ 62)≤i∧i < 2 ^ 62∧-(2 ^ 62)≤j∧j < 2 ^ 62)∧R (Itr i (j - i).toNat) H1
theorem zaF {a:Expr} {ta:TA} {p pos:Pos} (hg:Gl X "range") (hm:X.mg "range" = none) (ha:PA X [a] ta) (hs:starEach [a] X.env = [(false,eval a X.env)]:=by rfl):PI X tg (.Call (.Name "range" p) [a] [] pos) (znT ta):=by
 intro lM s σ H R I h;refine Call_ (zbg I hg hm jb (bv (thn (ha pos lM s σ H _ I h) fun us s1 ⟨vs,H1,I1,r1,q1⟩=>?_) hs rfl));obtain⟨j,e,q1,q2,q⟩:=q1;subst e;cases r1 with
 | cons r rr =>
  cases rr;obtain⟨t,rfl⟩:=r;exact call_range_1 (zfY I1 #[O] #[O] q1 q2 (by simpa using q))
theorem ziE {a b:Expr} {ta:TA} {p pos:Pos} (hg:Gl X "range") (hm:X.mg "range" = none) (ha:PA X [a,b] ta) (hs:starEach [a,b] X.env = [(false,eval a X.env),(false,eval b X.env)]:=by rfl) (nK:starEach [b] X.env = [(false,eval b X.env)]:=by rfl) :
  PI X tg (.Call (.Name "range" p) [a,b] [] pos) (znU ta):=by
 intro lM s σ H R I h;refine Call_ (zbg I hg hm jb (bv (thn (ha pos lM s σ H _ I h) fun us s1 ⟨vs,H1,I1,r1,q1⟩=>?_) (by rw [hs,nK]) (by rw [nK]; rfl)));obtain⟨i,j,e,⟨q1,q2,q3,q4⟩,q⟩:=q1;subst e;cases r1 with
 | cons r rr =>
  cases rr with
  | cons r' rr =>
   cases rr;obtain⟨t,rfl⟩:=r;obtain⟨t',rfl⟩:=r';exact call_range_2 (zfY I1 q1 q2 q3 q4 q)
def zot (wi:TI) (g:TG) (tb:TS):TS:=fun D σ H=>wi σ H fun J H1=>∃ W:Nat→Nat→St→Hp→Prop,(∃ m,W 0 m σ H1)∧∀ i m σ H,W i m σ H →
 (J.stop i H∧D.nx σ H)∨(J.go i H∧∃ N:St→Hp→Prop,(∀ σ' H',N σ' H'→∃ m',m' < m∧W (i+1) m' σ' H')∧∀ x H',J.yld i H x H'→g x σ H' fun σ2 H2=>tb { D with nx:=N,ct:=N,bk:=D.nx } σ2 H2)
def zce (fp:List Addr) (h:Heap):List (Addr×Obj):=fp.filterMap fun b=>(h.get? b).map fun o=>(b,o)
theorem zbY {fp:List Addr} {h:Heap} {b:Addr} {o:Obj} (hb:b∈fp) (e:h.get? b=some o):(b,o)∈zce fp h:=jI.mpr ⟨b,hb,by rw [e]; rfl⟩
theorem zeP {fp:List Addr} {h:Heap} {p:Addr×Obj} (hp:p∈zce fp h):p.1∈fp∧h.get? p.1=some p.2:=by
 obtain⟨b,hb,e⟩:=jI.mp hp;cases q:h.get? b with
 | none=>rw [q] at e; cases e
 | some o =>
  rw [q] at e;have e':(b,o)=p:=aG e;subst e';exact⟨hb,q⟩
theorem Inv.pinned {lM:List (Addr×Obj)} {σ:St} {H:Hp} {s:Shared} {fp:List Addr} (I:Inv X lM σ H s) (hf:∀ b∈fp,zcd X lM H b) (ho:∀ b∈fp,∃ o,s.heap.get? b=some o∧∀ v,o.data≠.cell v):Inv X (lM++zce fp s.heap) σ H s :=
 I.pins_of fun p hp=>(aP.mp hp).elim (fun z=>I.pin p (aI _ z)) fun z=>by
  obtain⟨hb,e⟩:=zeP z;obtain⟨f0,f1,f2,_⟩:=hf p.1 hb;obtain⟨o,e',d⟩:=ho p.1 hb;rw [e] at e'; cases e';exact⟨e,f0,f1,f2,d⟩
theorem Inv.unpinned {lM pl:List (Addr×Obj)} {σ:St} {H:Hp} {s:Shared} (I:Inv X (lM++pl) σ H s):Inv X lM σ H s:=I.pins_of fun p hp=>I.pin p (aI _ (aS _ hp))
theorem zaD {iter:Expr} {body:List Stmt} {wi:TI} {g:TG} {tb:TS} {pos:Pos} (hp:PassesOwn (model X.prog X.w) X.A X.env X.xe) (hc:X.calm=true) (hi:PI X tg iter wi) (hg:PG X tg g) (hb:PSs X body tb)
  (hs:∀ x,foldedSetIterable iter X.env x=pure x:=by intro _; rfl):PS X (.For tg iter body [] pos) (zot wi g tb):=by
 intro lM s σ H D I h;refine wpAny_For (thn (hi lM s σ H _ I h) fun v s1 h1=>thn h1 fun xu s2 h2=>?_) hs;obtain⟨it,fp,tn,J,H2,e,I2,T,mG,f2,W,⟨m0,w0⟩,turn⟩:=h2;subst e;have xv:∀ {H':Hp},(∀ b∈fp,H' b=none)→∀ b∈fp,zcd X lM H' b:=fun hn b hb=>⟨hn b hb,(f2 b hb).2⟩
 refine codeAny_forLoop_any (fun n s'=>∃ i σ' H',Inv X lM σ' H' s'∧tn i s'.heap∧(∀ b∈fp,H' b=none)∧W i n σ' H') ?_ m0 ⟨0,σ,H2,I2,mG,fun b hb=>(f2 b hb).1,w0⟩;rintro n s3 ⟨i,σ3,H3,I3,vP,fr3,w3⟩;rcases turn i n σ3 H3 w3 with ⟨stop,qn⟩ | ⟨go,N,hN,step⟩
 ·refine dB hp (thn (T.done X rfl rfl rfl hc i lM s3 σ3 H3 X.xe I3 (xv fr3) vP stop) fun r s4 ⟨hr,I4⟩=>?_);subst hr;exact d8 ⟨σ3,H3,I4,qn⟩
 ·refine dB hp (thn (T.item X rfl rfl rfl hc i lM s3 σ3 H3 X.xe I3 (xv fr3) vP go) fun r s4 ⟨u,hr,h4⟩=>?_);subst hr;refine dB hp (thn h4 fun _ s5 ⟨x,H5,I5,r5,y5,yw,fr5⟩=>?_);have I5':=I5.pinned (xv fr5) (T.obj _ _ yw);refine dB hp (thn (hg _ s5 σ3 H5 x u _ I5' r5 (step x H5 y5)) fun _ s6 ⟨σ6,H6,I6,q6⟩=>?_);refine dB hp (thn (hb _ s6 σ6 H6 _ I6 q6) fun f s7 q7=>?_);have again:∀ {σ7:St} {H7:Hp},Inv X (lM++zce fp s5.heap) σ7 H7 s7→N σ7 H7→∃ m,m < n∧∃ i σ' H',Inv X lM σ' H' s7∧tn i s7.heap∧(∀ b∈fp,H' b=none)∧W i m σ' H':=fun {σ7 H7} I7 n7=>by
   obtain⟨m',hm,w7⟩:=hN σ7 H7 n7;refine⟨m',hm,i+1,σ7,H7,I7.unpinned,T.keep _ _ _ yw fun b hb o e=>(I7.pin (b,o) (aI _ (aI _ (zbY hb e)))).1,fun b hb=>?_,w7⟩;obtain⟨o,e,d⟩:=T.obj _ _ yw b hb;exact (I7.pin (b,o) (aI _ (aI _ (zbY hb e)))).2.1
  cases f with
  | next=>obtain⟨σ7,H7,I7,n7⟩:=q7; exact again I7 n7
  | cont=>obtain⟨σ7,H7,I7,n7⟩:=q7; exact again I7 n7
  | brk=>obtain⟨σ7,H7,I7,q7⟩:=q7; exact⟨σ7,H7,I7.unpinned,q7⟩
  | ret v=>obtain⟨x7,σ7,H7,I7,r7,q7⟩:=q7; exact⟨x7,σ7,H7,I7.unpinned,r7,q7⟩
end
theorem zjU {K:ag} {a:Addr} {xs:List V} {g:TG} {tb:TS} {D:Ends} {σ:St} {H:Hp} (Pv:Nat→St→Hp→Prop) (h0:Pv 0 σ H) (hl:∀ i σ H,i≤xs.length→Pv i σ H→lN K H a xs)
  (hs:∀ i x σ H,xs[i]? = some x→Pv i σ H→g x σ H fun σ2 H2=>tb { D with nx:=Pv (i+1),ct:=Pv (i+1),bk:=D.nx } σ2 H2) (hd:∀ σ H,Pv xs.length σ H→D.nx σ H) :
  ∃ W:Nat→Nat→St→Hp→Prop,(∃ m,W 0 m σ H)∧∀ i m σ H,W i m σ H →
   ((Itl K a).stop i H∧D.nx σ H)∨((Itl K a).go i H∧∃ N:St→Hp→Prop,(∀ σ' H',N σ' H'→∃ m',m' < m∧W (i+1) m' σ' H')∧∀ x H',(Itl K a).yld i H x H'→g x σ H' fun σ2 H2=>tb { D with nx:=N,ct:=N,bk:=D.nx } σ2 H2):=by
 refine⟨fun i m σ H=>m=xs.length - i∧i≤xs.length∧Pv i σ H,⟨xs.length,#[M],bo _,h0⟩,?_⟩;rintro i m σ H ⟨rfl,hi,p⟩;have q:=hl i σ H hi p;by_cases ml:i < xs.length
 ·refine .inr ⟨⟨xs,xs[i],q,by simp [ml]⟩,Pv (i+1),fun σ' H' p'=>⟨xs.length - (i+1),#[O],rfl,ml,p'⟩,fun x H' y=>?_⟩;obtain⟨e,y⟩:=y;subst e;exact hs i x σ _ (y xs q) p
 ·have e:i=xs.length:=by lia
  subst e;exact .inl ⟨⟨xs,q,ah _⟩,hd σ H p⟩
theorem zlu {K:ag} {a:Addr} {xs:List V} {g:TG} {tb:TS} {D:Ends} {σ:St} {H:Hp} (Pv:Nat→St→Hp→Prop) (h0:Pv 0 σ H) (hl:∀ i σ H,i≤xs.length→Pv i σ H→lX K H a xs)
  (hs:∀ i x σ H,xs[i]? = some x→Pv i σ H→g x σ H fun σ2 H2=>tb { D with nx:=Pv (i+1),ct:=Pv (i+1),bk:=D.nx } σ2 H2) (hd:∀ σ H,Pv xs.length σ H→D.nx σ H) :
  ∃ W:Nat→Nat→St→Hp→Prop,(∃ m,W 0 m σ H)∧∀ i m σ H,W i m σ H →
   ((Itt K a).stop i H∧D.nx σ H)∨((Itt K a).go i H∧∃ N:St→Hp→Prop,(∀ σ' H',N σ' H'→∃ m',m' < m∧W (i+1) m' σ' H')∧∀ x H',(Itt K a).yld i H x H'→g x σ H' fun σ2 H2=>tb { D with nx:=N,ct:=N,bk:=D.nx } σ2 H2):=by
 refine⟨fun i m σ H=>m=xs.length - i∧i≤xs.length∧Pv i σ H,⟨xs.length,#[M],bo _,h0⟩,?_⟩;rintro i m σ H ⟨rfl,hi,p⟩;have q:=hl i σ H hi p;by_cases ml:i < xs.length
 ·refine .inr ⟨⟨xs,xs[i],q,by simp [ml]⟩,Pv (i+1),fun σ' H' p'=>⟨xs.length - (i+1),#[O],rfl,ml,p'⟩,fun x H' y=>?_⟩;obtain⟨e,y⟩:=y;subst e;exact hs i x σ _ (y xs q) p
 ·have e:i=xs.length:=by lia
  subst e;exact .inl ⟨⟨xs,q,ah _⟩,hd σ H p⟩
theorem ziF {lo:Int} {n:Nat} {g:TG} {tb:TS} {D:Ends} {σ:St} {H:Hp} (Pv:Nat→St→Hp→Prop) (h0:Pv 0 σ H)
  (hs:∀ i σ H,i < n→Pv i σ H→g (.int (lo+i)) σ H fun σ2 H2=>tb { D with nx:=Pv (i+1),ct:=Pv (i+1),bk:=D.nx } σ2 H2) (hd:∀ σ H,Pv n σ H→D.nx σ H) :
  ∃ W:Nat→Nat→St→Hp→Prop,(∃ m,W 0 m σ H)∧∀ i m σ H,W i m σ H →
   ((Itr lo n).stop i H∧D.nx σ H)∨((Itr lo n).go i H∧∃ N:St→Hp→Prop,(∀ σ' H',N σ' H'→∃ m',m' < m∧W (i+1) m' σ' H')∧∀ x H',(Itr lo n).yld i H x H'→g x σ H' fun σ2 H2=>tb { D with nx:=N,ct:=N,bk:=D.nx } σ2 H2):=by
 refine⟨fun i m σ H=>m=n - i∧i≤n∧Pv i σ H,⟨n,#[M],bo _,h0⟩,?_⟩;rintro i m σ H ⟨rfl,hi,p⟩;by_cases ml:i < n
 ·refine .inr ⟨ml,Pv (i+1),fun σ' H' p'=>⟨n - (i+1),#[O],rfl,ml,p'⟩,fun x H' y=>?_⟩;obtain⟨e,y⟩:=y;subst e y;exact hs i σ _ ml p
 ·have e:i=n:=by lia
  subst e;exact .inl ⟨ah _,hd σ H p⟩
theorem zjV {c:TT} {tb:TS} {D:Ends} {σ:St} {H:Hp} (Pv:St→Hp→Prop) (μ:St→Hp→Nat) (h0:Pv σ H)
  (hs:∀ σ H,Pv σ H→c σ H fun b H1=>if b=true then tb { D with nx:=fun σ' H'=>Pv σ' H'∧μ σ' H' < μ σ H,ct:=fun σ' H'=>Pv σ' H'∧μ σ' H' < μ σ H,bk:=D.nx } σ H1 else D.nx σ H1)
  (mono:∀ σ H Q Q',(∀ b H1,Q b H1→Q' b H1)→c σ H Q→c σ H Q'):zjS c tb D σ H:=by
 refine⟨fun m σ H=>m=μ σ H∧Pv σ H,⟨_,rfl,h0⟩,?_⟩;rintro m σ H ⟨rfl,p⟩;refine mono σ H _ _ (fun b H1 q=>?_) (hs σ H p);cases b with
 | true=>exact⟨_,fun σ' H' ⟨p',l⟩=>⟨_,l,rfl,p'⟩,q⟩
 | false=>exact q
abbrev R2:=V→V→Hp→VK→Prop
def OpR (X:Cx) (f:Value→Value→Sem Value) (r:R2):Prop :=
 ∀ (lM:List (Addr×Obj)) (s:Shared) (σ:St) (H:Hp) (x y:V) (v u:Value) (Q:VK),Inv X lM σ H s→RelV x v→RelV y u→r x y H Q →
  wpAny (model X.prog X.w) X.A (f v u) (EP X lM σ Q) X.xe s
def UnR (X:Cx) (f:Value→Sem Value) (r:V→Hp→VK→Prop):Prop :=
 ∀ (lM:List (Addr×Obj)) (s:Shared) (σ:St) (H:Hp) (x:V) (v:Value) (Q:VK),Inv X lM σ H s→RelV x v→r x H Q →
  wpAny (model X.prog X.w) X.A (f v) (EP X lM σ Q) X.xe s
def zbB (X:Cx) (f:Value) (r:List V→Hp→VK→Prop):Prop :=
 ∀ (lM:List (Addr×Obj)) (s:Shared) (σ:St) (H:Hp) (xs:List V) (us:List Value) (Q:VK),Inv X lM σ H s→zG xs us→r xs H Q →
  wpAny (model X.prog X.w) X.A (call f us) (EP X lM σ Q) X.xe s
def tOp (r:R2) (ta tb:TE):TE:=fun σ H Q=>ta σ H fun x H1=>tb σ H1 fun y H2=>r x y H2 Q
def tUn (r:V→Hp→VK→Prop) (ta:TE):TE:=fun σ H Q=>ta σ H fun x H1=>r x H1 Q
def rI (C:Int→Int→Prop) (g:Int→Int→V):R2:=fun x y H Q=>∃ i j,x = .int i∧y = .int j∧C i j∧Q (g i j) H
def rI0 (g:Int→Int→V):R2:=fun x y H Q=>∃ i j,x = .int i∧y = .int j∧Q (g i j) H
def rU (g:Int→V):V→Hp→VK→Prop:=fun x H Q=>∃ i,x = .int i∧Q (g i) H
section
variable {X:Cx} {a b c:Expr} {ta tb tc:TE} {pos:Pos}
theorem zmV (ha:PE X a ta) (hb:PE X b tb) {lM:List (Addr×Obj)} {s:Shared} {σ:St} {H:Hp} {R:V→V→Hp→Prop} (I:Inv X lM σ H s)
  (h:ta σ H fun x H1=>tb σ H1 fun y H2=>R x y H2) {Q:Value→Shared→Prop} {f:Value→Value→Sem Value}
  (hf:∀ v u s2 x y H2,Inv X lM σ H2 s2→RelV x v→RelV y u→R x y H2→wpAny (model X.prog X.w) X.A (f v u) Q X.xe s2) :
  wpAny (model X.prog X.w) X.A (eval a X.env) (fun v s₁=>wpAny (model X.prog X.w) X.A (eval b X.env) (fun u s₂=>wpAny (model X.prog X.w) X.A (f v u) Q X.xe s₂) X.xe s₁) X.xe s:=by
 refine thn (ha lM s σ H _ I h) fun v s1 ⟨x,H1,I1,r1,q1⟩=>?_
 refine thn (hb lM s1 σ H1 _ I1 q1) fun u s2 ⟨y,H2,I2,r2,q2⟩=>?_
 exact hf v u s2 x y H2 I2 r1 r2 q2
theorem zm {op:Operator} {r:R2} (ho:OpR X (binaryOp op) r) (ha:PE X a ta) (hb:PE X b tb):PE X (.BinOp a op b pos) (tOp r ta tb):=by
 intro lM s σ H Q I h;exact wpAny_BinOp (zmV ha hb I h fun v u s2 x y H2 I2 rx ry q=>ho lM s2 σ H2 x y v u Q I2 rx ry q)
theorem znV {op:UnaryOp} {r:V→Hp→VK→Prop} (ho:UnR X (unaryOp op) r) (ha:PE X a ta):PE X (.UnaryOp op a pos) (tUn r ta):=by
 intro lM s σ H Q I h;exact UnaryOp_ (thn (ha lM s σ H _ I h) fun v s1 ⟨x,H1,I1,r1,q1⟩=>ho lM s1 σ H1 x v Q I1 r1 q1)
theorem opI {f:Value→Value→Sem Value} {C:Int→Int→Prop} {g:Int→Int→Int}
  (rule:∀ (i j:Int) (t u:Tok) (s:Shared) (Q:Value→Shared→Prop) (E:Value→Shared→Prop),C i j→Q (.int (g i j) s.toks) { s with toks:=s.toks+1 }→wpAny (model X.prog X.w) X.A (f (.int i t) (.int j u)) Q E s) :
  OpR X f (rI C fun i j=>.int (g i j)):=by
 intro lM s σ H x y v u Q I rx ry h;obtain⟨i,j,rfl,rfl,hc,q⟩:=h;obtain⟨t,rfl⟩:=rx;obtain⟨t',rfl⟩:=ry;exact rule i j t t' s _ _ hc ⟨.int (g i j),H,I.tok _,⟨_,rfl⟩,q⟩
theorem znW {f:Value→Value→Sem Value} {g:Int→Int→Int}
  (rule:∀ (i j:Int) (t u:Tok) (s:Shared) (Q:Value→Shared→Prop) (E:Value→Shared→Prop),Q (.int (g i j) s.toks) { s with toks:=s.toks+1 }→wpAny (model X.prog X.w) X.A (f (.int i t) (.int j u)) Q E s) :
  OpR X f (rI0 fun i j=>.int (g i j)):=by
 intro lM s σ H x y v u Q I rx ry h;obtain⟨i,j,rfl,rfl,q⟩:=h;obtain⟨t,rfl⟩:=rx;obtain⟨t',rfl⟩:=ry;exact rule i j t t' s _ _ ⟨.int (g i j),H,I.tok _,⟨_,rfl⟩,q⟩
theorem zmW {f:Value→Value→Sem Value} {g:Int→Int→Bool}
  (rule:∀ (i j:Int) (t u:Tok) (s:Shared) (Q:Value→Shared→Prop) (E:Value→Shared→Prop),Q (.bool (g i j)) s→wpAny (model X.prog X.w) X.A (f (.int i t) (.int j u)) Q E s) :
  OpR X f (rI0 fun i j=>.bl (g i j)):=by
 intro lM s σ H x y v u Q I rx ry h;obtain⟨i,j,rfl,rfl,q⟩:=h;obtain⟨t,rfl⟩:=rx;obtain⟨t',rfl⟩:=ry;exact rule i j t t' s _ _ ⟨.bl (g i j),H,I,rfl,q⟩
def znX (i j:Int):Prop:=0 < j∧j < 1073741824
def zou (i j:Int):Prop:=0≤j∧j≤1000000∧i.natAbs < 2 ^ 64
def zmX (i j:Int):Prop:=(-(2 ^ 64) < i∧i < 2 ^ 64)∨(-(2 ^ 64) < j∧j < 2 ^ 64)
theorem zmX.ok {i j:Int} (h:zmX i j):IntMulOk i j:=by
 rcases h with ⟨h1,h2⟩ | ⟨h1,h2⟩
 ·exact .of_left (intBits_le_64 h1 h2)
 ·exact .of_right (intBits_le_64 h1 h2)
theorem zR:OpR X (binaryOp .Add) (rI0 fun i j=>.int (i+j)):=znW fun _ _ _ _ _ _ _ q=>add_int q
theorem zbq:OpR X (binaryOp .Sub) (rI0 fun i j=>.int (i - j)):=znW fun _ _ _ _ _ _ _ q=>sub_int q
theorem zaj:OpR X (binaryOp .Mult) (rI zmX fun i j=>.int (i*j)):=opI fun _ _ _ _ _ _ _ hc q=>mul_int q hc.ok
theorem zfi:OpR X (binaryOp .FloorDiv) (rI znX fun i j=>.int (i / j)):=opI fun i j _ _ _ _ _ hc q=>by
 have h1:(0:Int) < j:=hc.1;have h2:j < 1073741824:=hc.2;exact floordiv_int #[O] (by rw [gG i #[O]]; exact q) (.inl (iG #[O]))
theorem zI:OpR X (binaryOp .Mod) (rI (fun _ j=>0 < j) fun i j=>.int (i % j)):=opI fun i j _ _ _ _ _ hc q=>by
 have h1:(0:Int) < j:=hc;exact mod_int' #[O] (by rw [Int.fmod_eq_emod_of_nonneg i #[O]]; exact q)
theorem zmY:OpR X (binaryOp .Pow) (rI zou fun i j=>.int (i ^ j.toNat)):=opI fun _ _ _ _ _ _ _ hc q=>pow_int_small hc.1 hc.2.1 hc.2.2 q
theorem zjW:OpR X (inplaceOp .FloorDiv) (rI znX fun i j=>.int (i / j)):=opI fun i j _ _ _ _ _ hc q=>by
 have h1:(0:Int) < j:=hc.1;have h2:j < 1073741824:=hc.2;exact ifloordiv_int #[O] (by rw [gG i #[O]]; exact q) (.inl (iG #[O]))
theorem unI {f:Value→Sem Value} {g:Int→Int}
  (rule:∀ (i:Int) (t:Tok) (s:Shared) (Q:Value→Shared→Prop) (E:Value→Shared→Prop),Q (.int (g i) s.toks) { s with toks:=s.toks+1 }→wpAny (model X.prog X.w) X.A (f (.int i t)) Q E s) :
  UnR X f (rU fun i=>.int (g i)):=by
 intro lM s σ H x v Q I rx h;obtain⟨i,rfl,q⟩:=h;obtain⟨t,rfl⟩:=rx;exact rule i t s _ _ ⟨.int (g i),H,I.tok _,⟨_,rfl⟩,q⟩
theorem zmZ:UnR X (unaryOp .USub) (rU fun i=>.int (-i)):=unI fun _ _ _ _ _ q=>neg_int q
end
def zlv:V→V→Bool
 | .non,.non=>true | .non,.int _=>true | .int _,.non=>true | .non,.bl _=>true | .bl _,.non=>true | .non,.str _=>true | .str _,.non=>true
 | .int _,.int _=>true | .bl _,.bl _=>true | .str _,.str _=>true | .byt _,.byt _=>true
 | .int _,.str _=>true | .str _,.int _=>true | .bl _,.str _=>true | .str _,.bl _=>true
 | _,_=>false
def rEq:R2:=fun x y H Q=>zlv x y=true∧Q (.bl (decide (x=y))) H
def rNe:R2:=fun x y H Q=>zlv x y=true∧Q (.bl (!decide (x=y))) H
theorem zhL {i j:Int}:decide (V.int i=V.int j)=(i == j):=by
 rw [cQ];simp
theorem zjX {i j:Bool}:decide (V.bl i=V.bl j)=(i == j):=by
 rw [cQ];simp
theorem zhM {i j:Str}:decide (V.str i=V.str j)=(i == j):=by
 rw [cQ];simp
theorem zhN {i j:Array UInt8}:decide (V.byt i=V.byt j)=(i.toList == j.toList):=by
 rw [cQ];cases i;cases j;simp
section
variable {X:Cx} {a b c:Expr} {ta tb tc:TE} {pos:Pos}
theorem zW {lM:List (Addr×Obj)} {σ:St} {H:Hp} {s:Shared} {Q:VK} {k k':Bool} (I:Inv X lM σ H s) (q:Q (.bl k) H) (e:k=k'):EP X lM σ Q (.bool k') s:=by
 subst e;exact⟨.bl k,H,I,rfl,q⟩
theorem zcf:OpR X (compareOp .Eq) rEq:=by
 intro lM s σ H x y v u Q I rx ry h;obtain⟨hs,q⟩:=h;cases x with
 | non =>
  cases rx;cases y with
  | non=>cases ry; exact PySem.EqNone.eq_none_none (zW I q #[M])
  | bl j=>cases ry; exact PySem.EqNone.eq_none_bool (zW I q #[M])
  | int j=>obtain⟨t',rfl⟩:=ry; exact PySem.EqNone.eq_none_int (zW I q #[M])
  | str j=>obtain⟨t',rfl⟩:=ry; exact PySem.EqNone.eq_none_str (zW I q #[M])
  | _=>exact absurd (show false=true from hs) aJ
 | bl i =>
  cases rx;cases y with
  | non=>cases ry; exact PySem.EqNone.eq_bool_none (zW I q #[M])
  | bl j=>cases ry; exact eq_bool (zW I q zjX)
  | str j=>obtain⟨t',rfl⟩:=ry; exact PySem.EqMixed.eq_bool_str (zW I q #[M])
  | _=>exact absurd (show false=true from hs) aJ
 | int i =>
  obtain⟨t,rfl⟩:=rx;cases y with
  | non=>cases ry; exact PySem.EqNone.eq_int_none (zW I q #[M])
  | int j=>obtain⟨t',rfl⟩:=ry; exact eq_int (zW I q zhL)
  | str j=>obtain⟨t',rfl⟩:=ry; exact PySem.EqMixed.eq_int_str (zW I q #[M])
  | _=>exact absurd (show false=true from hs) aJ
 | str i =>
  obtain⟨t,rfl⟩:=rx;cases y with
  | non=>cases ry; exact PySem.EqNone.eq_str_none (zW I q #[M])
  | bl j=>cases ry; exact PySem.EqMixed.eq_str_bool (zW I q #[M])
  | int j=>obtain⟨t',rfl⟩:=ry; exact PySem.EqMixed.eq_str_int (zW I q #[M])
  | str j=>obtain⟨t',rfl⟩:=ry; exact eq_str (zW I q zhM)
  | _=>exact absurd (show false=true from hs) aJ
 | byt i =>
  obtain⟨t,rfl⟩:=rx;cases y with
  | byt j=>obtain⟨t',rfl⟩:=ry; exact PySem.W.eq_bytes (zW I q zhN)
  | _=>exact absurd (show false=true from hs) aJ
 | _=>cases y <;> exact absurd (show false=true from hs) aJ
theorem zmv:OpR X (compareOp .NotEq) rNe:=by
 intro lM s σ H x y v u Q I rx ry h;obtain⟨hs,q⟩:=h;cases x with
 | non =>
  cases rx;cases y with
  | non=>cases ry; exact PySem.EqNone.ne_none_none (zW I q #[M])
  | bl j=>cases ry; exact PySem.EqNone.ne_none_bool (zW I q #[M])
  | int j=>obtain⟨t',rfl⟩:=ry; exact PySem.EqNone.ne_none_int (zW I q #[M])
  | str j=>obtain⟨t',rfl⟩:=ry; exact PySem.EqNone.ne_none_str (zW I q #[M])
  | _=>exact absurd (show false=true from hs) aJ
 | bl i =>
  cases rx;cases y with
  | non=>cases ry; exact PySem.EqNone.ne_bool_none (zW I q #[M])
  | bl j=>cases ry; exact ne_bool (zW I q (congrArg not zjX))
  | str j=>obtain⟨t',rfl⟩:=ry; exact PySem.EqMixed.ne_bool_str (zW I q #[M])
  | _=>exact absurd (show false=true from hs) aJ
 | int i =>
  obtain⟨t,rfl⟩:=rx;cases y with
  | non=>cases ry; exact PySem.EqNone.ne_int_none (zW I q #[M])
  | int j=>obtain⟨t',rfl⟩:=ry; exact ne_int (zW I q (congrArg not zhL))
  | str j=>obtain⟨t',rfl⟩:=ry; exact PySem.EqMixed.ne_int_str (zW I q #[M])
  | _=>exact absurd (show false=true from hs) aJ
 | str i =>
  obtain⟨t,rfl⟩:=rx;cases y with
  | non=>cases ry; exact PySem.EqNone.ne_str_none (zW I q #[M])
  | bl j=>cases ry; exact PySem.EqMixed.ne_str_bool (zW I q #[M])
  | int j=>obtain⟨t',rfl⟩:=ry; exact PySem.EqMixed.ne_str_int (zW I q #[M])
  | str j=>obtain⟨t',rfl⟩:=ry; exact ne_str (zW I q (congrArg not zhM))
  | _=>exact absurd (show false=true from hs) aJ
 | byt i =>
  obtain⟨t,rfl⟩:=rx;cases y with
  | byt j=>obtain⟨t',rfl⟩:=ry; exact PySem.W.ne_bytes (zW I q (congrArg not zhN))
  | _=>exact absurd (show false=true from hs) aJ
 | _=>cases y <;> exact absurd (show false=true from hs) aJ
theorem zmw:OpR X (compareOp .Lt) (rI0 fun i j=>.bl (decide (i < j))):=zmW fun _ _ _ _ _ _ _ q=>lt_int q
theorem zhO:OpR X (compareOp .Gt) (rI0 fun i j=>.bl (decide (j < i))):=zmW fun _ _ _ _ _ _ _ q=>gt_int q
theorem zjY:OpR X (compareOp .GtE) (rI0 fun i j=>.bl (decide (j≤i))):=zmW fun _ _ _ _ _ _ _ q=>ge_int q
theorem zhP:OpR X (compareOp .IsNot) (fun x y H Q=>y = .non∧Q (.bl (!decide (x = .non))) H):=by
 intro lM s σ H x y v u Q I rx ry h;obtain⟨rfl,q⟩:=h;cases ry;refine isnot_none_gen (zW I q ?_);cases x <;> first
  | (cases rx; rfl)
  | (obtain⟨t,rfl⟩:=rx; rfl)
theorem zad (b:Expr) {op:CmpOp} (h:op≠.In:=by decide) (h2:op≠.NotIn:=by decide):behindInMarks op b=false:=by
 have e1:(op == CmpOp.In)=false:=by cases op <;> first | rfl | exact absurd rfl h
 have e2:(op == CmpOp.NotIn)=false:=by cases op <;> first | rfl | exact absurd rfl h2
 cases b <;> simp [behindInMarks,e1,e2]
theorem zlw {op:CmpOp} {r:R2} (ho:OpR X (compareOp op) r) (ha:PE X a ta) (hb:PE X b tb) (hm:behindInMarks op b=false):PE X (.Compare a [op] [b] pos) (tOp r ta tb):=by
 intro lM s σ H Q I h;exact wpAny_Compare1 (zmV ha hb I h fun v u s2 x y H2 I2 rx ry q=>ho lM s2 σ H2 x y v u Q I2 rx ry q) hm
def znY (t:TE):TT:=fun σ H Q=>t σ H fun x H'=>∃ k,x = .bl k∧Q k H'
theorem zJ {op:CmpOp} {r:R2} (ho:OpR X (compareOp op) r) (ha:PE X a ta) (hb:PE X b tb) (hm:behindInMarks op b=false):PT X (.Compare a [op] [b] pos) (znY (tOp r ta tb)):=by
 intro lM s σ H Q I h;refine wpAny_isTrue_Compare1 (thn (ha lM s σ H _ I h) fun v s1 ⟨x,H1,I1,r1,q1⟩=>thn (hb lM s1 σ H1 _ I1 q1) fun u s2 ⟨y,H2,I2,r2,q2⟩ =>
  thn (ho lM s2 σ H2 x y v u _ I2 r1 r2 q2) fun c s3 ⟨z,H3,I3,r3,k,e,q3⟩=>?_) hm
 subst e;cases r3;exact gO ⟨H3,I3,q3⟩
theorem zfj:(sizeLine:Nat) < 2 ^ 63:=by rw [bt]; decide
theorem vals1 {x:V} {us:List Value} (r:zG [x] us):∃ u,us = [u]∧RelV x u:=by
 cases r with
 | cons r1 r2=>cases r2; exact⟨_,rfl,r1⟩
theorem vals2 {x y:V} {us:List Value} (r:zG [x,y] us):∃ u w',us = [u,w']∧RelV x u∧RelV y w':=by
 cases r with
 | cons r1 r2 =>
  cases r2 with
  | cons r3 r4=>cases r4; exact⟨_,_,rfl,r1,r3⟩
theorem zeQ (hc:X.calm=true):zbB X (.builtin "min") (fun xs H Q=>∃ i j,xs = [.int i,.int j]∧Q (.int (if j < i then j else i)) H):=by
 intro lM s σ H xs us Q I r h;obtain⟨i,j,rfl,q⟩:=h;obtain⟨u,w',rfl,⟨t,rfl⟩,⟨t',rfl⟩⟩:=vals2 r;refine min_two_ints (I.ok.hd hc) fun h' tk k=>⟨_,H,I.kept k,?_,q⟩
 by_cases hj:j < i
 ·rw [if_pos hj,if_pos hj]; exact⟨_,rfl⟩
 ·rw [if_neg hj,if_neg hj]; exact⟨_,rfl⟩
end
structure ObjM (h:Heap) (x dx C:Addr) (mA:Str→Option Value):Prop where
 obj:h.get? x=some (iA C dx)
 ns:h.Ns1 dx mA
 ne:dx≠x
theorem ziG {h:Heap} {dx:Addr} {mA:Str→Option Value} (n:h.Ns1 dx mA):∃ od,h.get? dx=some od∧∀ name,iQ name od=some (mA name):=by
 obtain⟨o,es,ep,ho,hd,hk,_,hm⟩:=n;refine⟨o,ho,fun name=>?_⟩;have e:=hm name;unfold nsFind findBy at e;rw [← Array.find?_toList] at e;unfold iQ;rw [hd];dsimp only;split
 ·rename_i y q
  rw [q] at e;exact congrArg some e
 ·rename_i q
  rw [q] at e;have a:es.toList.any (·.refKey)=false:=by
   rw [List.any_eq_false];intro y hy;obtain⟨z,t,qf⟩:=hk y (Array.mem_toList_iff.mp hy);simp [DictEntry.refKey,qf]
  have a':¬ es.toList.any (·.refKey)=true:=by rw [a]; exact aJ
  rw [if_neg a'];exact congrArg some e
theorem ObjM.look {h:Heap} {x dx C:Addr} {mA:Str→Option Value} (I:ObjM h x dx C mA):∃ od,PySem.W.InstAt h x (iA C dx) C (some od)∧∀ name,iQ name od=some (mA name) :=
 let ⟨od,ho,hl⟩:=ziG I.ns
 ⟨od,⟨I.obj,rfl,rfl,ho⟩,hl⟩
section
variable {P:Program} {w:World} {H H':Hp} {h h':Heap} {a C dx:Addr} {fs fs':List (Str×V)}
theorem zlx (hok:HOk P w H h) (e:H a=some (.ins C dx fs)):∃ mA,ObjM h a dx C mA∧(∀ f,ziB (fs.lookup f) (mA f))∧lE mA (fs.map (·.1))∧fs.length≤1000∧H dx=some (.own a):=by
 obtain⟨d,z,ne,ob,mA,n,r,q⟩:=(show zab P w H h a (.ins C dx fs) from hok a _ e);exact⟨mA,⟨ob,n,ne⟩,r,q,z,d⟩
end
structure Cls (K:ag) (C:Addr):Prop where
 pg:ku K C Str.empty=true
 hd:PySem.W.hasDictIn K C=true
 po:PySem.W.plainOver K C=true
 sa:cp K (.ref C) "__setattr__" = some (some (.builtin "object.__setattr__"))
theorem Cls.get {K:ag} {C:Addr} (c:Cls K C) (f:Str):ku K C f=true:=c.pg
section
variable {X:Cx} {lM:List (Addr×Obj)} {σ:St} {H:Hp} {s:Shared} {A:Around} {E:Value→Shared→Prop} {Q:Value→Shared→Prop} {c:Value} {b:Bool}
inductive TyOf (K:ag) (H:Hp):V→Value→Prop where
 | non:TyOf K H .non (.type "NoneType")
 | bl (x:Bool):TyOf K H (.bl x) (.type "bool")
 | int (i:Int):TyOf K H (.int i) (.type "int")
 | str (x:Str):TyOf K H (.str x) (.type "str")
 | flt (x:UInt64):TyOf K H (.flt x) (.type "float")
 | lst {a:Addr} {xs:List V} (e:H a=some (.lst xs)):TyOf K H (.ref a) (.type "list")
 | frz {a:Addr} {o:Obj} {xs:List V} (e:H a=some (.frz o (.lst xs))):TyOf K H (.ref a) (.type "list")
 | tup {a:Addr} {xs:List V} (e:H a=some (.tup xs)):TyOf K H (.ref a) (.type "tuple")
 | dK {a:Addr} {lV:List (Key×V)} (e:H a=some (.dK lV)):TyOf K H (.ref a) (.type "dict")
 | dT {a:Addr} {lV:List (List Key×V)} (e:H a=some (.dT lV)):TyOf K H (.ref a) (.type "dict")
 | ins {a C dx:Addr} {fs:List (Str×V)} (e:H a=some (.ins C dx fs)) (cl:Cls K C) (ha:cp K (.ref C) "__class__" = some (some (.builtin "object.__class__")))
   (hn:PySem.W.specialIn K (.builtin "object.__class__") "__get__" = some (some (.builtin "getset_descriptor.__get__"))) (xw:PySem.W.takesIn K (.builtin "object.__class__")=some true)
   (hm:bO K C (.type "object")=some true):TyOf K H (.ref a) (.ref C)
theorem ziH {x:V} {u t:Value} (I:Inv X lM σ H s) (rx:RelV x u) (ty:TyOf X.K H x t) (e:a8 X.K t c=some b) (h:∀ tk,Q (.bool b) { s with toks:=tk }) :
  wpAny (model X.prog X.w) A (call (.builtin "isinstance") [u,c]) Q E s:=by
 cases ty with
 | non=>cases (show u=cw from rx); exact bP PySem.W.kitx_none I.kIn d9 e (fun z=>nomatch z) h
 | bl y=>cases (show u=d7 y from rx); exact bP PySem.W.kitx_bool I.kIn d9 e (fun z=>nomatch z) h
 | int i=>obtain⟨t,q⟩:=(show ∃ t,u=iz i t from rx); cases q; exact bP PySem.W.kitx_int I.kIn d9 e (fun z=>nomatch z) h
 | str y=>obtain⟨t,q⟩:=(show ∃ t,u=jE y t from rx); cases q; exact bP PySem.W.kitx_str I.kIn d9 e (fun z=>nomatch z) h
 | flt y=>obtain⟨t,q⟩:=(show ∃ t,u=Value.float y t from rx); cases q; exact bP PySem.W.kitx_float I.kIn d9 e (fun z=>nomatch z) h
 | @lst a xs ea =>
  cases (show u=aE a from rx);obtain⟨_,_,n,_,h1⟩:=(show zab X.prog X.w H s.heap a (.lst xs) from I.hok a _ ea);exact bP j1 I.kIn ⟨_,h1,rfl⟩ e (fun z=>nomatch z) h
 | @frz a ob xs ea =>
  cases (show u=aE a from rx);obtain⟨_,_,_,n,_,h1⟩:=(show zab X.prog X.w H s.heap a (.frz ob (.lst xs)) from I.hok a _ ea);exact bP j1 I.kIn ⟨_,h1,rfl⟩ e (fun z=>nomatch z) h
 | @tup a xs ea =>
  cases (show u=aE a from rx);obtain⟨_,_,_,p⟩:=(show zab X.prog X.w H s.heap a (.tup xs) from I.hok a _ ea);obtain⟨o,h1,h2,_⟩:=p;exact bP PySem.W.kitx_tuple I.kIn ⟨o,h1,h2⟩ e (fun z=>nomatch z) h
 | @dK a lV ea =>
  cases (show u=aE a from rx);obtain⟨_,_,vs,_,p⟩:=(show zab X.prog X.w H s.heap a (.dK lV) from I.hok a _ ea);obtain⟨o,es,ep,h1,h2,_⟩:=p;exact bP j3 I.kIn ⟨o,h1,h2.1⟩ e (fun z=>nomatch z) h
 | @dT a lV ea =>
  cases (show u=aE a from rx);obtain⟨_,_,xs,_,o,es,ep,h1,h2,_⟩:=(show zab X.prog X.w H s.heap a (.dT lV) from I.hok a _ ea);exact bP j3 I.kIn ⟨o,h1,h2.1⟩ e (fun z=>nomatch z) h
 | @ins a C dx fs ea cl ha hn xw hm =>
  cases (show u=aE a from rx);obtain⟨mA,O,_⟩:=zlx I.hok ea;obtain⟨od,J,_⟩:=O.look;exact bP (PySem.W.kitx_own (cl.get _) cl.hd ha hn xw hm) I.kIn J e (fun z=>nomatch z) h
end
structure Room (k:Nat) (A:Around):Prop where
 hd:A.handled=none
 dp:A.depth+3*k+5 < recursionLimit
 un:A.units+16*k+200 < cLine
theorem Room.mono {j k:Nat} {A:Around} (r:Room k A) (h:j≤k):Room j A:=⟨r.hd,by have:=r.dp; lia,by have:=r.un; lia⟩
theorem Room.deeper {k:Nat} {A:Around} (r:Room (k+1) A) (env:Env):Room k (A.deeper env) :=
 ⟨r.hd,by have:=r.dp; show A.depth+1+3*k+5 < _; lia,by have:=r.un; show A.units+3+16*k+200 < _; lia⟩
theorem Room.depth {k:Nat} {A:Around} (r:Room k A):A.depth < recursionLimit:=by have:=r.dp; lia
theorem Room.units {k:Nat} {A:Around} (r:Room k A):A.units+64 < cLine:=by have:=r.un; lia
def zm0:TA:=fun _ H Q=>Q [] H
def zhQ (ta:TE) (tr:TA):TA:=fun σ H Q=>ta σ H fun x H1=>tr σ H1 fun xs H2=>Q (x :: xs) H2
section
variable {X:Cx} {e:Expr} {es:List Expr} {te:TE} {t:TA} {pos:Pos}
theorem zh:PA X [] zm0:=fun _ _ _ _ H Q I h=>j4 ⟨[],H,I,.nil,h⟩
theorem zd (ha:PE X e te) (hr:PA X es t) (hs:starEach (e :: es) X.env=(false,eval e X.env) :: starEach es X.env:=by rfl):PA X (e :: es) (zhQ te t):=by
 intro pos lM s σ H Q I h;rw [hs];show wpAny _ _ (spliced ((false,eval e X.env) :: backTo pos (starEach es X.env))) _ _ s;refine jJ (thn (ha lM s σ H _ I h) fun u s1 ⟨x,H1,I1,r1,q1⟩=>?_);exact thn (hr pos lM s1 σ H1 _ I1 q1) fun us s2 ⟨xs,H2,I2,r2,q2⟩=>⟨x :: xs,H2,I2,.cons r1 r2,q2⟩
theorem ya {X:Cx} {e:Expr} {te:TE} (a:PE X e te) (b:starEach [e] X.env=(false,eval e X.env) :: starEach [] X.env):PA X [e] (zhQ te zm0):=zd a zh b
def zov (t:TA):TE:=fun σ H Q=>t σ H fun xs H1=>xs.length≤sizeLine∧∀ p,H1 p=none→Q (.ref p) (lP H1 p (.tup xs))
def zgY (t:TA):TE:=fun σ H Q=>t σ H fun xs H1=>xs.length≤sizeLine∧∀ p,H1 p=none→Q (.ref p) (lP H1 p (.lst xs))
theorem zbr {x1} (h:PA X es t):PE X (.Tuple es x1 pos) (zov t):=by
 intro lM s σ H Q I hq;refine wpAny_Tuple_spliced (thn (h pos lM s σ H _ I hq) fun us s1 ⟨xs,H1,I1,r,z,q⟩=>⟨by rw [← r.length]; exact z,?_⟩);have hf:H1 s1.heap.objs.size=none:=I1.hok.fresh (ah _);refine⟨.ref s1.heap.objs.size,lP H1 s1.heap.objs.size (.tup xs),I1.laid (t':=s1.toks) (fun b u e=>af _ e) (ah _) ?_,rfl,q _ hf⟩;exact⟨z,us,r,⟨_,aC _ rfl,rfl,_,rfl⟩⟩
theorem zY (h:PA X es t):PE X (.List es pos) (zgY t):=by
 intro lM s σ H Q I hq;refine wpAny_List_spliced (thn (h pos lM s σ H _ I hq) fun us s1 ⟨xs,H1,I1,r,z,q⟩=>⟨by rw [← r.length]; exact z,?_⟩);have hf:H1 s1.heap.objs.size=none:=I1.hok.fresh (ah _);refine⟨.ref s1.heap.objs.size,lP H1 s1.heap.objs.size (.lst xs),I1.laid (t':=s1.toks) (fun b u e=>af _ e) (ah _) ?_,rfl,q _ hf⟩;exact⟨z,us,0,r,aC _ rfl⟩
end
abbrev Sp:=List V→Hp→VK→XK→Prop
abbrev CXT:=List Env→Hp→Shared→XK→Value→Shared→Prop
structure Env0 (P:Program) (w:World) (K:ag) (mg:Str→Option Value) (base:Heap) (A:Around) (outer:List Env) (s:Shared) (H:Hp):Prop where
 frames:A.frames=some outer
 mod:Mod K mg base
 bs:∀ b o,base.get? b=some o→s.heap.get? b=some o∧H b=none
 bsz:base.objs.size≤s.heap.objs.size
 funs:s.heap.FunFrames base outer
 frf:∀ b∈frs outer,H b=none
 hok:HOk P w H s.heap
 bare:AllBare s.gens
def CE (outer:List Env) (P:Program) (w:World) (H:Hp) (s:Shared) (Q:VK) (u:Value) (s':Shared):Prop :=
 ∃ v H',s'.os=s.os∧AllBare s'.gens∧Un (frs outer) [] H H' s.heap s'.heap∧HOk P w H' s'.heap∧RelV v u∧Q v H'
def CR (CX:CXT) (outer:List Env) (P:Program) (w:World) (H:Hp) (s:Shared) (Q:VK) (E:XK) (r:Result) (s':Shared):Prop :=
 match r with
 | .ok (.ret u)=>CE outer P w H s Q u s'
 | .ok _=>False
 | .error e=>CX outer H s E e s'
structure FnOk (P:Program) (w:World) (K:ag) (mg:Str→Option Value) (base:Heap) (CX:CXT) (k:Nat) (f:Addr) (fd:FuncData) (ps:List Str) (sp:Sp):Prop where
 len:∀ vs H Q E,sp vs H Q E→vs.length=ps.length
 run:∀ (A:Around) (outer:List Env) (s:Shared) (H:Hp) (args:Args) (us:List Value) (vs:List V) (Q:VK) (E:XK),Room k A→Env0 P w K mg base A outer s H→BindsTo s fd args (ps.zip us)→zG vs us→sp vs H Q E →
  codeAny (model P w) A (.call (.ref f) args) (CR CX outer P w H s Q E) s
section
variable {X:Cx} {lM:List (Addr×Obj)} {σ:St} {H:Hp} {s s':Shared}
theorem Inv.env0 (I:Inv X lM σ H s):Env0 X.prog X.w X.K X.mg X.base X.A X.stack s H :=
 ⟨I.ok.frames,I.ok.mod,I.bs,aV I.ok.bsz I.sz,I.stack,I.stkFree,I.hok,I.bare⟩
theorem Inv.after {Q:VK} {u:Value} (I:Inv X lM σ H s) (h:CE X.stack X.prog X.w H s Q u s'):EP X lM σ Q u s':=by
 obtain⟨v,H',os,bare,un,hok,r,q⟩:=h;obtain⟨hh,g,d,t,os'⟩:=s';obtain rfl:os'=s.os:=os;exact⟨v,H',I.call (h':=hh) (g':=g) (d':=d) (t':=t) (ch:=[]) un hok bare (fun b z=>absurd z #[M]),r,q⟩
end
def zjZ (sp:Sp) (rV:List V) (E:XK) (t:TA):TE:=fun σ H Q=>t σ H fun vs H1=>sp (vs++rV) H1 Q E
def Binds (K:ag) (fd:FuncData) (ps:List Str) (ds:List Value):Prop :=
 ∀ (s:Shared) (us:List Value),K.In s.heap→(us++ds).length=ps.length→BindsTo s fd ⟨us,[]⟩ (ps.zip (us++ds))
theorem Binds.all {K:ag} {fd:FuncData} {ps:List Str} (h:∀ us:List Value,us.length=ps.length→bindArgs fd ⟨us,[]⟩=pure (ps.zip us)):Binds K fd ps []:=fun s us _ hl=>by
 rw [bI] at hl ⊢;exact .of_eq (h us hl)
def zd3 (CX:CXT) (X:Cx) (E:XK):Prop:=∀ (lM:List (Addr×Obj)) (σ:St) (H:Hp) (s:Shared) (e:Value) (s':Shared),Inv X lM σ H s→CX X.stack H s E e s'→X.xe e s'
section
variable {X:Cx} {CX:CXT} {k:Nat} {f C:Addr} {fd:FuncData} {ps:List Str} {sp:Sp} {rV:List V} {ds:List Value} {E:XK} {x m:Str} {p pos apos:Pos} {e o:Expr} {es:List Expr} {ta:TE} {t:TA}
theorem zm1 {lM:List (Addr×Obj)} {σ:St} {H:Hp} {s:Shared} {Q:VK} {us:List Value} {vs:List V} (F:FnOk X.prog X.w X.K X.mg X.base CX k f fd ps sp) (hr:Room k X.A) (hb:Binds X.K fd ps ds) (hd:zG rV ds) (hx:zd3 CX X E)
  (I:Inv X lM σ H s) (r:zG vs us) (h:sp (vs++rV) H Q E):wpAny (model X.prog X.w) X.A (call (.ref f) us) (EP X lM σ Q) X.xe s:=by
 have r2:zG (vs++rV) (us++ds):=r.append hd;have hl:(us++ds).length=ps.length:=by rw [← r2.length]; exact F.len _ _ _ _ h
 refine gZ (fS (F.run X.A X.stack s H ⟨us,[]⟩ (us++ds) (vs++rV) Q E hr I.env0 (hb s us I.kIn hl) r2 h) fun r s' hq=>?_);cases r with
 | error e=>exact hx lM σ H s e s' I hq
 | ok fl =>
  cases fl with
  | ret u=>exact I.after hq
  | next=>exact bT hq
  | brk=>exact bT hq
  | cont=>exact bT hq
theorem zH (F:FnOk X.prog X.w X.K X.mg X.base CX k f fd ps sp) (hr:Room k X.A) (hg:Gl X x) (hm:X.mg x=some (.ref f)) (hk:dN X.K (.ref f)=true) (hb:Binds X.K fd ps ds) (hd:zG rV ds) (hx:zd3 CX X E)
  (ha:PA X (e :: es) t) (uB:(x == ("__debug__" : Str))=false:=by decide) (he:starEach (e :: es) X.env=(false,eval e X.env) :: starEach es X.env:=by rfl) (mT:(backTo pos (starEach es X.env)).any (·.1)=false:=by rfl) :
  PE X (.Call (.Name x p) (e :: es) [] pos) (zjZ sp rV E t):=by
 intro lM s σ H Q I h;refine ed (zcp I hg hm ?_ uB);refine gw (h₀:=X.base) I.ok.mod.kin hk (thn (ha pos lM s σ H _ I h) fun us s1 ⟨vs,H1,I1,r,q⟩=>⟨I1.kIn,?_⟩) he mT;exact zm1 F hr hb hd hx I1 r q
end
structure FnScope (N P:List Str) (sc:Scope):Prop where
 kind:sc.kind = .function
 co:sc.isCoroutine=false
 gen:sc.isGenerator=false
 nd:N.Nodup
 pre:N.take P.length=P
 par:∀ x∈P,sc.names.lookup x=some .local∨sc.names.lookup x=some .cell
 nofree:∀ y∈sc.names,y.2≠.free
theorem zeR {kindOf:Str→Option NameKind} {x:Str}:∀ {binds:List (Str×Value)} {m:Str→Option Value},(∀ v,(x,v)∉binds)→bindL kindOf binds m x=m x
 | [],_,_=>rfl
 | (n,v) :: r,m,h=>by
  unfold bindL;rw [zeR fun w hw=>h w (aj _ hw)];split
  ·have:x≠n:=by rintro rfl; exact h v aF
   simp [this]
  ·rfl
theorem zeS {kindOf:Str→Option NameKind} {x:Str}:∀ {binds:List (Str×Value)} {m:Str→Option Value},(∀ v,(x,v)∉binds)→bindC kindOf binds m x=m x
 | [],_,_=>rfl
 | (n,v) :: r,m,h=>by
  unfold bindC;rw [zeS fun w hw=>h w (aj _ hw)];split
  ·rfl
  ·have:x≠n:=by rintro rfl; exact h v aF
   simp [this]
theorem zeT {kindOf:Str→Option NameKind} {x:Str} {v:Value}:∀ {P:List Str} {vs:List Value} {i:Nat} {m:Str→Option Value},P.Nodup→P[i]? = some x→vs[i]? = some v→kindOf x=some .local →
  bindL kindOf (P.zip vs) m x=some v
 | [],_,_,_,_,h,_,_=>by simp at h
 | _ :: _,[],_,_,_,_,h,_=>by simp at h
 | p :: P,w :: vs,0,m,nd,h1,h2,hk=>by
  simp at h1 h2; subst h1; subst h2;show bindL kindOf ((p,w) :: P.zip vs) m p=_;unfold bindL;rw [zeR fun v hv=>(c6.mp nd).1 (fT hv).1,if_pos hk];simp
 | p :: P,w :: vs,i+1,m,nd,h1,h2,hk=>by
  show bindL kindOf ((p,w) :: P.zip vs) m x=_;unfold bindL;exact zeT (i:=i) (c6.mp nd).2 (by simpa using h1) (by simpa using h2) hk
theorem zeU {kindOf:Str→Option NameKind} {x:Str} {v:Value}:∀ {P:List Str} {vs:List Value} {i:Nat} {m:Str→Option Value},P.Nodup→P[i]? = some x→vs[i]? = some v→kindOf x≠some .local →
  bindC kindOf (P.zip vs) m x=some v
 | [],_,_,_,_,h,_,_=>by simp at h
 | _ :: _,[],_,_,_,_,h,_=>by simp at h
 | p :: P,w :: vs,0,m,nd,h1,h2,hk=>by
  simp at h1 h2; subst h1; subst h2;show bindC kindOf ((p,w) :: P.zip vs) m p=_;unfold bindC;rw [zeS fun v hv=>(c6.mp nd).1 (fT hv).1,if_neg hk];simp
 | p :: P,w :: vs,i+1,m,nd,h1,h2,hk=>by
  show bindC kindOf ((p,w) :: P.zip vs) m x=_;unfold bindC;exact zeU (i:=i) (c6.mp nd).2 (by simpa using h1) (by simpa using h2) hk
def start (N:List Str) (vs:List V):St:=vs.map some++aA (N.length - vs.length) none
def zbA (CX:CXT) (P:Program) (w:World) (K:ag) (mg:Str→Option Value) (base:Heap) (N:List Str) (qual:Str) (scope:Scope) (f:Addr) (cd:Value) (A:Around) (outer:List Env) (s:Shared) (H:Hp) (E:XK):Cx where
 prog:=P
 w:=w
 K:=K
 mg:=mg
 base:=base
 A:=A.deeper (envOfC qual scope s.heap.objs.size f cd)
 N:=N
 s₀:=s
 H₀:=H
 env:=envOfC qual scope s.heap.objs.size f cd
 outer:=outer
 stack:=envOfC qual scope s.heap.objs.size f cd :: outer
 ex:=[]
 calm:=true
 fn:=fun _=>true
 pn:=[]
 xe:=fun e s'=>wpAny (model P w) (A.deeper (envOfC qual scope s.heap.objs.size f cd)) (leaving (envOfC qual scope s.heap.objs.size f cd) e) (fun _ yX=>CX outer H s E e yX) (fun e' yX=>CX outer H s E e' yX) s'
theorem zfZ {sc:Scope} {n:Nat} {x:Str} (h:sc.names.lookup x=some .cell):∃ c,(cellsFrom n sc.names []).lookup x=some c:=by
 have q:=fz sc.names n [] (.inl h);exact Option.isSome_iff_exists.mp q
theorem zeV {CX:CXT} {P:Program} {w:World} {K:ag} {mg:Str→Option Value} {base:Heap} {N ps:List Str} {qual:Str} {scope:Scope} {f:Addr} {cd:Value} {A:Around} {outer:List Env} {s s1:Shared} {H:Hp} {E:XK} {us:List Value} {vs:List V}
  (S:FnScope N ps scope) (hd:A.handled=none) (e0:Env0 P w K mg base A outer s H) (hl:vs.length=ps.length) (r:zG vs us)
  (x:InCallC s s.heap.objs.size (bindL (envOfC qual scope s.heap.objs.size f cd).kindOf (ps.zip us) fun _=>none) (cellsFrom (s.heap.objs.size+1) scope.names []) (bindC (envOfC qual scope s.heap.objs.size f cd).kindOf (ps.zip us) fun _=>none) s1) :
  Inv (zbA CX P w K mg base N qual scope f cd A outer s H E) [] (start N vs) H s1:=by
 have mT:ps.length≤N.length:=by have:=congrArg eQ S.pre; rw [aL] at this; lia
 obtain⟨h1,tk,rfl,hk⟩:=x.done;have xy:∀ b:Addr,b∉(zbA CX P w K mg base N qual scope f cd A outer s H E).ex:=fun b z=>absurd (show b∈([]:List Addr) from z) #[M]
 refine⟨⟨e0.mod,S.kind,rfl,rfl,ah _,fun y z c h1 h2=>?_,fun y hy=>?_,fun y c _ h=>?_,fun _=>hd,Around.frames_deeper e0.frames,.inr ⟨rfl,rfl⟩,fun b z=>absurd z (xy b),e0.bs,e0.bsz,fun b _ _=>xy b,fun b z=>absurd z (xy b),e0.funs,e0.frf⟩,
  rfl,e0.bare,Un.kept hk,⟨_,x.toInCall.ns,fun i y v h1 h2 h3=>?_⟩,fun y c h=>⟨_,x.cell y c h⟩,e0.hok.fresh (ah _),fun y c h=>?_,fun p hp=>absurd (show p∈([]:List (Addr×Obj)) from hp) #[M],e0.hok.kept hk,?_⟩
 ·exact name_of_addr x.apart (dS h1) (dS h2)
 ·have hy:scope.names.lookup y=some .cell∨scope.names.lookup y=some .free:=hy;rcases hy with hy | hy
  ·exact zfZ hy
  ·exact absurd rfl (S.nofree _ (dS hy))
 ·exact hU (x.above y c (dS h))
 ·have hi:i < vs.length:=by
   unfold start at h2;by_cases hi:i < vs.length
   ·exact hi
   ·rw [cT (by simpa using hi)] at h2;rw [List.getElem?_replicate] at h2;split at h2 <;> cases h2
  have ha:vs[i]? = some v:=by
   unfold start at h2;rw [cY (by simpa using hi),ap] at h2;cases e:vs[i]? with
   | none=>rw [e] at h2; cases h2
   | some a=>rw [e] at h2; cases h2; rfl
  obtain⟨u,hu,rv⟩:=r.get ha;have hp:ps[i]? = some y:=by
   rw [← S.pre,fe #[O]]; exact h1
  have ndP:ps.Nodup:=by rw [← S.pre]; exact S.nd.sublist (cf _ _)
  refine⟨u,rv,?_⟩;rcases S.par y (aH hp) with k | k
  ·exact .inl ⟨k,zeT ndP hp hu k⟩
  ·obtain⟨c,e⟩:=zfZ (n:=s.heap.objs.size+1) k;refine .inr ⟨.inl k,c,e,?_⟩;have q:=x.cell y c e;rw [zeU ndP hp hu (by show scope.names.lookup y≠_; rw [k]; decide)] at q;exact q
 ·exact e0.hok.fresh (hU (x.above y c (dS h)))
 ·unfold start;show _=N.length;rw [aB,ae,et];lia
theorem zmx {CX:CXT} {P:Program} {w:World} {K:ag} {mg:Str→Option Value} {base:Heap} {k:Nat} {f:Addr} {name qual:Str} {params:Arguments} {body:List Stmt} {scope:Scope} {dV kV doc pm l8 ct oc:Value} {an od:Option Addr}
  {ui:Array (Option Value)} {N ps:List Str} {sp:Sp} (lk:K.lookup f=some ⟨oc,od,.func (cF name qual params body scope dV kV doc pm an l8 ct),ui⟩) (qF:eA K l8 qual=true) (S:FnScope N ps scope)
  (len:∀ vs H Q E,sp vs H Q E→vs.length=ps.length)
  (n9:∀ (A:Around) (outer:List Env) (s:Shared) (H:Hp) (vs:List V) (Q:VK) (E:XK),Room k (A.deeper (envOfC qual scope s.heap.objs.size f l8))→sp vs H Q E →
   ∃ t,PSs (zbA CX P w K mg base N qual scope f l8 A outer s H E) body t∧t { nx:=fun _ H'=>Q .non H',rt:=Q } (start N vs) H) :
  FnOk P w K mg base CX (k+1) f (cF name qual params body scope dV kV doc pm an l8 ct) ps sp:=by
 refine⟨len,fun A outer s H args us vs Q E hr e0 hb r qG=>?_⟩;have hl:=len _ _ _ _ qG;have KX:K.In s.heap:=e0.mod.kin.keeps fun b o e=>(e0.bs b o e).1
 have lim:s.heap.NoLimit:=e0.mod.nolimit.keeps fun b o e=>(e0.bs b o e).1
 have og:∀ y∈ps.zip us,scope.names.lookup y.1=some .local∨(scope.names.lookup y.1=some .cell∧((cellsFrom (s.heap.objs.size+1) scope.names []).lookup y.1).isSome=true):=fun ⟨n,v⟩ hy=>by
  rcases S.par n (fT hy).1 with q | q
  ·exact .inl q
  ·exact .inr ⟨q,fz _ _ _ (.inl q)⟩
 refine iR hr.depth (KX _ _ lk) rfl S.co S.gen rfl (jK KX qF) (hb _ _ _ _ ?_);refine gH S.kind og fun env he s1 x=>?_
 subst he;refine⟨lim.keeps x.toInCall.keep,codeAny_func ?_⟩;obtain⟨t,ht,hq⟩:=n9 A outer s H vs Q E (hr.deeper _) qG;have I:Inv (zbA CX P w K mg base N qual scope f l8 A outer s H E) [] (start N vs) H s1:=zeV S hr.hd e0 hl r x;refine bZ (ht [] s1 (start N vs) H _ I hq) (fun fl s' hs=>?_) fun e s' hs=>hs
 have fin:∀ {σ':St} {H':Hp} {v:V} {u:Value},Inv (zbA CX P w K mg base N qual scope f l8 A outer s H E) [] σ' H' s'→RelV v u→Q v H'→CE outer P w H s Q u s' :=
  fun {σ' H' v u} J rv q=>⟨v,H',J.os,J.bare,J.base,J.hok,rv,q⟩
 cases fl with
 | ret u =>
  obtain⟨v,σ',H',J,rv,q⟩:=hs;exact fin J rv q
 | next =>
  obtain⟨σ',H',J,q⟩:=hs;exact fin (v:=V.non) (u:=cw) J rfl q
 | brk =>
  obtain⟨_,_,_,q⟩:=hs;exact bT q
 | cont =>
  obtain⟨_,_,_,q⟩:=hs;exact bT q
section
variable {X:Cx} {x:Str} {p pos:Pos} {e:Expr} {es:List Expr} {t:TA} {id T:String} {r:List V→Hp→VK→Prop}
def tCB (r:List V→Hp→VK→Prop) (t:TA):TE:=fun σ H Q=>t σ H fun vs H1=>r vs H1 Q
theorem zy (hc:zbB X (.builtin id) r) (hg:Gl X x) (hm:X.mg x=none) (hv:bootBuiltins x=some (.builtin id)) (ha:PA X (e :: es) t) (hn:x≠"__name__":=by decide) (uB:(x == ("__debug__" : Str))=false:=by decide)
  (he:starEach (e :: es) X.env=(false,eval e X.env) :: starEach es X.env:=by rfl) (mT:(backTo pos (starEach es X.env)).any (·.1)=false:=by rfl):PE X (.Call (.Name x p) (e :: es) [] pos) (tCB r t):=by
 intro lM s σ H Q I h;refine ed (zbg I hg hm hv ?_ hn uB);exact PyProof.Rows.callWith_builtin1 (thn (ha pos lM s σ H _ I h) fun us s1 ⟨vs,H1,I1,r1,q1⟩=>hc lM s1 σ H1 vs us Q I1 r1 q1) he mT
theorem zaG (hc:zbB X (.type T) r) (hg:Gl X x) (hm:X.mg x=none) (hv:bootBuiltins x=some (.type T)) (ha:PA X (e :: es) t) (hn:x≠"__name__":=by decide) (uB:(x == ("__debug__" : Str))=false:=by decide)
  (he:starEach (e :: es) X.env=(false,eval e X.env) :: starEach es X.env:=by rfl) (mT:(backTo pos (starEach es X.env)).any (·.1)=false:=by rfl):PE X (.Call (.Name x p) (e :: es) [] pos) (tCB r t):=by
 intro lM s σ H Q I h;refine ed (zbg I hg hm hv ?_ hn uB);exact bv (thn (ha pos lM s σ H _ I h) fun us s1 ⟨vs,H1,I1,r1,q1⟩=>hc lM s1 σ H1 vs us Q I1 r1 q1) he mT
end
end L2
namespace HT
open PySem PyProof.Rows
def lexLt:List Int→List Int→Bool
 | [],[]=>false
 | [],_ :: _=>true
 | _ :: _,[]=>false
 | x :: xs,y :: ys=>if x=y then lexLt xs ys else decide (x < y)
theorem lexLt_cons (x y:Int) (xs ys:List Int):lexLt (x :: xs) (y :: ys)=if x=y then lexLt xs ys else decide (x < y):=rfl
theorem zey:lexLt [] []=false:=rfl
theorem zd4 (y:Int) (ys:List Int):lexLt [] (y :: ys)=true:=rfl
theorem zd5 (x:Int) (xs:List Int):lexLt (x :: xs) []=false:=rfl
theorem zj0 (A:Around) (s:Shared) (a:Int) (t:Tok) (c:Int) (u:Tok):∃ e,g6 A s (.int a t) (.int c u) e∧(e=true↔a=c) :=
 ⟨(a == c),jL a t c u,#[M]⟩
theorem zj1 (A:Around) (s:Shared) (a:Int) (t:Tok) (c:Int) (u:Tok) (prog:Program) (w:World) (E:Value→Shared→Prop) (Q:Value→Shared→Prop) (h:Q (.bool (decide (a < c))) s) :
  wpAny (model prog w) A (richCompare .Lt (.int a t) (.int c u)) Q E s :=
 (PyProof.Rows.lt_int h:wpAny (model prog w) A (compareOp .Lt (.int a t) (.int c u)) Q E s)
section
open PySem.SeqAt
open PySem.AutoSeq1 (wpAny_loadPart')
open PySem.MeetsSeq PySem.MeetsSeq2 PySem.MeetsSeq3
theorem zez (l b:Addr) (lS mW:Array Value) (n n2:Nat) (dd wL:Option Addr) (sl sN:Array (Option Value)) (ns ms:List Int) (hi:IntsAre lS.toList ns) (hj:IntsAre mW.toList ms) :
  Meets (Builtin.«tuple.__lt__» ⟨[.ref l,.ref b],[]⟩)
   (fun _ R s=>s.heap.get? l=some { cls:=.type "tuple",dict:=dd,data:=.seq lS n,slots:=sl }∧s.heap.get? b=some { cls:=.type "tuple",dict:=wL,data:=.seq mW n2,slots:=sN } ∧
    R (.ok (.ret (.bool (lexLt ns ms)))) s) :=
 .of_wp fun prog w A R s h=>by
  obtain⟨hp,g,d,tk,os⟩:=s; obtain⟨hl,hb,h⟩:=h;have f2:=AutoSeq1.sub_tuple_tuple;have z1:lS.size=ns.length:=by rw [← hi.length]; simp
  have z2:mW.size=ms.length:=by rw [← hj.length]; simp
  wp_walk using eS hl,eS hb,eI _ (fun rest b s'=>b.1=none∧s'=⟨hp,g,d,tk,os⟩∧∃ (vs ws:List Value) (xA rW:List Int),rest=vs.zip ws ∧
   IntsAre vs xA∧IntsAre ws rW∧xA.length+mW.size=rW.length+lS.size∧R (.ok (.ret (.bool (lexLt xA rW)))) ⟨hp,g,d,tk,os⟩) _
  case turn =>
   rintro⟨y,x⟩ rest b s' ⟨vQ,rfl,vs,ws,xA,rW,hz,Co,BB,lT,hR⟩;cases Co with
   | nil=>rw [j5] at hz; cases hz
   | cons a t Cp =>
    cases BB with
    | nil=>rw [List.zip_nil_right] at hz; cases hz
    | cons c u Cq =>
     rw [ff] at hz;injection hz with hyx yY
     injection hyx with hy hx
     subst hy hx;rw [lexLt_cons] at hR;simp only [bG] at lT;obtain⟨e,he,yZ⟩:=zj0 A.in1 ⟨hp,g,d,tk,os⟩ a t c u;refine aa (he prog w _ _ ?_);cases e with
     | true =>
      rw [if_pos (yZ.mp rfl)] at hR
      wp_walk
      exact⟨rfl,rfl,_,_,_,_,yY,Cp,Cq,#[O],hR⟩
     | false =>
      rw [if_neg (fun q=>absurd (yZ.mpr q) aJ)] at hR;have hri:=zj1 A.in1 ⟨hp,g,d,tk,os⟩ a t c u prog w
      wp_walk using hri
      exact⟨_,rfl,by simpa using hR⟩
  case fin =>
   rintro⟨b1,b2⟩ s' ⟨vQ,rfl,vs,ws,xA,rW,hz,Co,BB,lT,hR⟩;simp only at vQ;subst vQ;have hv:lexLt xA rW=decide (lS.size < mW.size):=by
    cases Co with
    | nil =>
     cases BB with
     | nil =>
      simp only [ee] at lT;rw [zey];exact (decide_eq_false #[O]).symm
     | cons c u hw =>
      simp only [ee,bG] at lT;rw [zd4];exact (decide_eq_true #[O]).symm
    | cons a t hv =>
     cases BB with
     | nil =>
      simp only [ee,bG] at lT;rw [zd5];exact (decide_eq_false #[O]).symm
     | cons c u hw =>
      rw [ff] at hz;cases hz
   rw [hv] at hR
   wp_walk
   exact⟨_,rfl,by simpa [Builtin.Tuple.tupleCompareSizes] using hR⟩
  case h =>
   exact⟨rfl,rfl,lS.toList,mW.toList,ns,ms,rfl,hi,hj,#[O],h⟩
end
section
variable {prog:Program} {w:World} {A:Around} {E:Value→Shared→Prop} {s:Shared}
theorem lt_tupInts {l b:Addr} {lS mW:Array Value} {ns ms:List Int} {Q:Value→Shared→Prop} (hl:IsTup s.heap l lS) (hb:IsTup s.heap b mW) (hi:IntsAre lS.toList ns) (hj:IntsAre mW.toList ms)
  (hu:A.units < cLine) (h:Q (.bool (lexLt ns ms)) s):wpAny (model prog w) A (compareOp .Lt (.ref l) (.ref b)) Q E s:=by
 obtain⟨⟨cls,dd,data,sl⟩,ho,hc,n,hd⟩:=id hl;obtain⟨⟨y4,wL,data2,sN⟩,rf,uC,n2,hd2⟩:=id hb;simp only at hc hd uC hd2;subst hc hd uC hd2;exact richCompare_meets_room (op:=.Lt) ⟨_,ho,rfl⟩ ⟨_,rf,rfl⟩ PySem.F.slot_tuple_lt PySem.F.entry_tuple_lt (PySem.F.args_tuple_lt_2 _ _) (zez l b lS mW n n2 dd wL sl sN ns ms hi hj)
  ⟨ho,rf,show d7 (lexLt ns ms)≠Value.notImplemented∧Q (.bool (lexLt ns ms)) s from ⟨(fun x=>nomatch x),h⟩⟩ hu
theorem cat_tup {t b:Addr} {vs ws:List Value} {Q:Value→Shared→Prop} (ht:IsTup s.heap t vs.toArray) (hb:IsTup s.heap b ws.toArray) (hv:vs≠[])
  (h1:ws = []→Q (.ref t) s) (h2:ws≠[]→Q (.ref s.heap.objs.size) { s with heap:=s.heap.push { cls:=.type "tuple",data:=.seq (vs++ws).toArray } })
  (hsz:vs.length+ws.length≤sizeLine):wpAny (model prog w) A (binaryOp .Add (.ref t) (.ref b)) Q E s:=by
 obtain⟨⟨cls,dd,data,sl⟩,ho,hc,n,hd⟩:=id ht;obtain⟨⟨y4,wL,data2,sN⟩,rf,uC,n2,hd2⟩:=id hb;simp only at hc hd uC hd2;subst hc hd uC hd2;have e:vs.toArray++ws.toArray=(vs++ws).toArray:=by simp
 by_cases hw:ws = []
 ·exact jM ⟨_,ho,rfl⟩ ⟨_,rf,rfl⟩ hW jn fA fq (fg _ _)
   (tuple_addW1 t b vs.toArray ws.toArray n n2 dd wL sl sN (by simpa using hv) (by simp [hw])) ⟨ho,rf,h1 hw⟩
 ·refine jM ⟨_,ho,rfl⟩ ⟨_,rf,rfl⟩ hW jn fA fq (fg _ _)
   (tuple_addW2 t b vs.toArray ws.toArray n n2 dd wL sl sN (by simpa using hv) (by simpa using hw) (by rw [am,am]; exact hsz)) ⟨ho,rf,?_⟩
  rw [e];exact h2 hw
def sIx (n d:Nat):Option Int→Nat
 | none=>d
 | some v=>if v < 0 then (v+(n:Int)).toNat else min v.toNat n
theorem sIx_none (n d:Nat):sIx n d none=d:=rfl
theorem sIx_nat (n d k:Nat):sIx n d (some (k:Int))=min k n:=by
 show (if (k:Int) < 0 then ((k:Int)+(n:Int)).toNat else min (k:Int).toNat n)=min k n;rw [if_neg #[O],bf]
end
end HT
namespace L2
open PySem PySem.Spec PyProof.Rows
abbrev TO:=St→Hp→(Option Int→Hp→Prop)→Prop
def PO (X:Cx) (e:Option Expr) (t:TO):Prop :=
 ∀ (lM:List (Addr×Obj)) (s:Shared) (σ:St) (H:Hp) (Q:Option Int→Hp→Prop),Inv X lM σ H s→t σ H Q →
  wpAny (model X.prog X.w) X.A (evalPart e X.env) (fun u s'=>∃ o H',Inv X lM σ H' s'∧IsPart u o∧Q o H') X.xe s
def zly:TO:=fun _ H Q=>Q none H
def znZ (t:TE):TO:=fun σ H Q=>t σ H fun x H1=>∃ i,x = .int i∧Q (some i) H1
theorem intsAre_of {ns:List Int}:∀ {us:List Value},zG (ns.map V.int) us→IntsAre us ns:=by
 induction ns with
 | nil=>intro us r; rw [hX] at r; cases r; exact .nil
 | cons n ns ih =>
  intro us r;rw [aR] at r;cases r with
  | cons r1 r2 =>
   obtain⟨t,e⟩:=r1;subst e;exact .cons n t (ih r2)
section
variable {X:Cx} {e:Expr} {te:TE} {lo hi:Option Expr} {tl th:TO} {pos p2:Pos}
theorem zdI:PO X none zly:=by
 intro lM s σ H Q I h;rw [evalPart_none];exact ai ⟨none,H,I,.none,h⟩
theorem zdJ (h:PE X e te):PO X (some e) (znZ te):=by
 intro lM s σ H Q I hw;rw [evalPart_some];refine thn (h lM s σ H _ I hw) fun u s1 ⟨x,H1,I1,r1,q1⟩=>?_
 obtain⟨i,rfl,q⟩:=q1;obtain⟨t,rfl⟩:=r1;exact⟨some i,H1,I1,.int i t,q⟩
def SlR (X:Cx) (r:V→Option Int→Option Int→Hp→VK→Prop):Prop :=
 ∀ (lM:List (Addr×Obj)) (s:Shared) (σ:St) (H:Hp) (x:V) (v vl vu:Value) (lo hi:Option Int) (sl:Addr) (Q:VK),Inv X lM σ H s→RelV x v→s.heap.IsSliceOf sl vl vu .none→IsPart vl lo→IsPart vu hi→r x lo hi H Q →
  ∃ T id,typeLookup (.type T) "__getitem__" = pure (some (.builtin id))∧s.TypeIs v T∧wpAny (model X.prog X.w) X.A (getItem v (.ref sl)) (EP X lM σ Q) X.xe s
def tSl (r:V→Option Int→Option Int→Hp→VK→Prop) (te:TE) (tl th:TO):TE:=fun σ H Q=>te σ H fun x H1=>tl σ H1 fun l H2=>th σ H2 fun u H3=>r x l u H3 Q
theorem zcT {r:V→Option Int→Option Int→Hp→VK→Prop} (hr:SlR X r) (he:PE X e te) (hl:PO X lo tl) (hu:PO X hi th):PE X (.Subscript e (.Slice lo hi none p2) pos) (tSl r te tl th):=by
 intro lM s σ H Q I h;refine Subscript_ (thn (he lM s σ H _ I h) fun v s1 ⟨x,H1,I1,r1,q1⟩=>?_);refine wpAny_Slice (thn (hl lM s1 σ H1 _ I1 q1) fun vl s2 ⟨l,H2,I2,pl,q2⟩=>thn (hu lM s2 σ H2 _ I2 q2) fun vu s3 ⟨u,H3,I3,pu,q3⟩=>?_);rw [evalPart_none];refine ai ?_;have I4:Inv X lM σ H3 { s3 with heap:=s3.heap.push { cls:=.type "slice",data:=.fields #[vl,vu,.none] } }:=I3.kept (t':=s3.toks) fun b ob q=>af _ q
 obtain⟨T,id,hT,ht,hg⟩:=hr lM { s3 with heap:=s3.heap.push { cls:=.type "slice",data:=.fields #[vl,vu,.none] } } σ H3 x v vl vu l u s3.heap.objs.size Q I4 r1 (Heap.IsSliceOf.new ..) pl pu q3;show wpAny (model X.prog X.w) X.A (subscriptTail e (.Slice lo hi none p2) v (.ref s3.heap.objs.size)) (EP X lM σ Q) X.xe { s3 with heap:=s3.heap.push { cls:=.type "slice",data:=.fields #[vl,vu,.none] } };exact tail_any (ops:=[.ref s3.heap.objs.size,v]) ht hT hg (by with_unfolding_all rfl)
def zdh (xs:List V) (lo hi:Option Int):List V:=(xs.drop (HT.sIx xs.length 0 lo)).take (HT.sIx xs.length xs.length hi - HT.sIx xs.length 0 lo)
theorem zf0 (xs:List V) (lo hi:Option Int):(zdh xs lo hi).length≤xs.length:=by
 unfold zdh;rw [aL,ck];lia
def zn0 (K:ag):R2:=fun x y H Q=>∃ a b xs ys,x = .ref a∧y = .ref b∧lX K H a xs∧lX K H b ys∧xs≠[]∧xs.length+ys.length≤sizeLine ∧
 (ys = []→Q (.ref a) H)∧(ys≠[]→∀ p,H p=none→Q (.ref p) (lP H p (.tup (xs++ys))))
theorem zG.nil_iff {xs:List V} {us:List Value} (r:zG xs us):us = []↔xs = []:=by
 cases r with
 | nil=>simp
 | cons _ _=>simp
theorem zlz:OpR X (binaryOp .Add) (zn0 X.K):=by
 intro lM s σ H x y v u Q I rx ry h;obtain⟨a,b,xs,ys,rfl,rfl,ha,hb,hx,hz,q1,q2⟩:=h;cases rx;cases ry;obtain⟨lO,r1,p1,_⟩:=I.tuple ha;obtain⟨l9,r2,p2,_⟩:=I.tuple hb;refine HT.cat_tup p1 p2 (fun z=>hx (r1.nil_iff.mp z)) (fun z=>⟨.ref a,H,I,rfl,q1 (r2.nil_iff.mp z)⟩) (fun z=>?_) (by rw [← r1.length,← r2.length]; exact hz);refine⟨.ref s.heap.objs.size,_,I.laid (t':=s.toks) (o:=.tup (xs++ys)) (fun b ob q=>af _ q) (ah _) ?_,rfl,q2 (fun w=>z (r2.nil_iff.mpr w)) _ (I.hok.fresh (ah _))⟩;exact⟨by rw [aB]; exact hz,_,r1.append r2,IsTup.new _ _⟩
end
def ixN (n:Nat) (i:Int):Option Nat:=if 0≤i then (if i < n then some i.toNat else none) else if -(n:Int)≤i then some (i+n).toNat else none
def atI {α:Type} (xs:List α) (i:Int):Option α:=(ixN xs.length i).bind fun j=>xs[j]?
theorem zhR {n:Nat} {i:Int} {j:Nat} (h:ixN n i=some j):seqIndex? i n=some j∧j < n∧-(n:Int)≤i∧i < n:=by
 unfold ixN at h;by_cases h0:0≤i
 ·rw [if_pos h0] at h;by_cases h1:i < n
  ·rw [if_pos h1] at h;have e:i.toNat=j:=aG h;exact⟨by rw [gq h0 h1,e],#[O],#[O],h1⟩
  ·rw [if_neg h1] at h; cases h
 ·rw [if_neg h0] at h;by_cases h1:-(n:Int)≤i
  ·rw [if_pos h1] at h;have e:(i+n).toNat=j:=aG h;exact⟨by rw [jN #[O] h1,e],#[O],h1,#[O]⟩
  ·rw [if_neg h1] at h; cases h
theorem zhS {α:Type} {xs:List α} {i:Int} {v:α} (h:atI xs i=some v):∃ j,seqIndex? i xs.length=some j∧xs[j]? = some v∧j < xs.length∧-(xs.length:Int)≤i∧i < xs.length:=by
 unfold atI at h;cases e:ixN xs.length i with
 | none=>rw [e] at h; cases h
 | some j =>
  rw [e] at h;obtain⟨h1,h2,h3,h4⟩:=zhR e;exact⟨j,h1,h,h2,h3,h4⟩
theorem zaV {α:Type} {xs:List α} {j:Nat} {v:α} (h:xs[j]? = some v):atI xs (j:Int)=some v:=by
 have hj:j < xs.length:=(ak.mp h).1;have e:ixN xs.length (j:Int)=some j:=by
  unfold ixN;rw [if_pos #[O],if_pos #[O]]; simp
 unfold atI; rw [e]; exact h
def zlA (b:Expr):Prop:=∀ o i,subscripted b false o i=operate [o,i] (getItem o i)
def IxR (X:Cx) (r:R2):Prop :=
 ∀ (value slice:Expr) (lM:List (Addr×Obj)) (s:Shared) (σ:St) (H:Hp) (x y:V) (v u:Value) (Q:VK),Inv X lM σ H s→RelV x v→RelV y u→r x y H Q →
  subscripted slice false v u=operate [v,u] (getItem v u)→wpAny (model X.prog X.w) X.A (subscriptTail value slice v u) (EP X lM σ Q) X.xe s
def MtR (X:Cx) (id:String) (r:V→List V→Hp→VK→Prop):Prop :=
 ∀ (lM:List (Addr×Obj)) (s:Shared) (σ:St) (H:Hp) (x:V) (xs:List V) (v:Value) (us:List Value) (Q:VK),Inv X lM σ H s→RelV x v→zG xs us→r x xs H Q →
  wpAny (model X.prog X.w) X.A (call (.builtin id) (v :: us)) (EP X lM σ Q) X.xe s
section
variable {X:Cx} {a b:Expr} {ta tb:TE} {pos:Pos}
theorem zL {r:R2} (hr:IxR X r) (ha:PE X a ta) (hb:PE X b tb) (hs:zlA b):PE X (.Subscript a b pos) (tOp r ta tb):=by
 intro lM s σ H Q I h;exact Subscript_ (zmV ha hb I h fun v u s2 x y H2 I2 rx ry q=>hr a b lM s2 σ H2 x y v u Q I2 rx ry q (hs _ _))
def zn1 (K:ag):R2:=fun x y H Q=>∃ p xs i v,x = .ref p∧y = .int i∧lN K H p xs∧atI xs i=some v∧Q v H
def zn2 (K:ag):R2:=fun x y H Q=>∃ p xs i v,x = .ref p∧y = .int i∧lX K H p xs∧atI xs i=some v∧Q v H
theorem zQ:IxR X (zn1 X.K):=by
 intro value slice lM s σ H x y v u Q I rx ry h hs;obtain⟨p,xs,i,z,rfl,rfl,hq,he,q⟩:=h;cases rx;obtain⟨t,rfl⟩:=ry;obtain⟨lO,r,pl,hz⟩:=I.list hq;obtain⟨j,h1,h2,h3,h4,h5⟩:=zhS he;obtain⟨w,ew,wM⟩:=r.get h2;have hl:=r.length;have hn:=zfj;have fin:EP X lM σ Q w s:=⟨z,H,I,wM,q⟩;by_cases h0:0≤i
 ·have hj:i.toNat=j:=by
   rw [gq h0 h5] at h1;exact aG h1
  exact item_listR pl.isList h0 #[O] (by rw [hj]; simpa using ew) fin hs
 ·have hj:(i+(lO.toArray.size:Int)).toNat=j:=by
   rw [jN #[O] h4] at h1;rw [am,← hl];exact aG h1
  exact iH (x:=w) pl.isList.typeIs slot_list_getitem.lookup
   (wpAny_getItem_list_neg (Q:=fun r s'=>r=w∧EP X lM σ Q r s') pl.isList #[O] (by rw [am] <;> lia) #[O] (by rw [hj]; simpa using ew) ⟨rfl,fin⟩) hs
theorem zbs:IxR X (zn2 X.K):=by
 intro value slice lM s σ H x y v u Q I rx ry h hs;obtain⟨p,xs,i,z,rfl,rfl,hq,he,q⟩:=h;cases rx;obtain⟨t,rfl⟩:=ry;obtain⟨lO,r,pl,hz⟩:=I.tuple hq;obtain⟨j,h1,h2,h3,h4,h5⟩:=zhS he;obtain⟨w,ew,wM⟩:=r.get h2;have hl:=r.length;have hn:=zfj;have fin:EP X lM σ Q w s:=⟨z,H,I,wM,q⟩;exact iH (x:=w) pl.typeIs slot_tuple_getitem.lookup
  (getItem_tuple (j:=j) (Q:=fun r s'=>r=w∧EP X lM σ Q r s') pl #[O] #[O] (by rw [am,← hl]; exact h1) (by simpa using ew) ⟨rfl,fin⟩) hs
theorem zgZ (lO:List Value) (n j:Nat) (u:Value):c7 (·.setIfInBounds j u) { cls:=.type "list",data:=.seq lO.toArray n } = { cls:=.type "list",data:=.seq (lO.set j u).toArray n }:=by
 simp [c7]
theorem Inv.lst {lM:List (Addr×Obj)} {σ:St} {H:Hp} {s:Shared} {p:Addr} {xs:List V} (I:Inv X lM σ H s) (h:H p=some (.lst xs)) :
  ∃ (lO:List Value) (n:Nat),zG xs lO∧s.heap.get? p=some { cls:=.type "list",data:=.seq lO.toArray n }∧xs.length≤sizeLine:=by
 obtain⟨z,lO,n,r,e⟩:=I.hok p _ h;exact⟨lO,n,r,e,z⟩
theorem Inv.lstUpd {lM:List (Addr×Obj)} {σ:St} {H:Hp} {s:Shared} {p:Addr} {xs ys:List V} {lO its':List Value} {n n':Nat} {f:Obj→Obj} (I:Inv X lM σ H s) (h:H p=some (.lst xs))
  (ho:s.heap.get? p=some { cls:=.type "list",data:=.seq lO.toArray n }) (hf:f { cls:=.type "list",data:=.seq lO.toArray n } = { cls:=.type "list",data:=.seq its'.toArray n' }) (r:zG ys its') (hz:ys.length≤sizeLine) (t:Nat) :
  Inv X lM σ (lP H p (.lst ys)) { s with heap:=s.heap.update p f,toks:=t }:=by
 have e:(s.heap.update p f).get? p=some { cls:=.type "list",data:=.seq its'.toArray n' }:=by
  rw [dC f ho (by rw [hf] <;> rfl),hf]
 refine I.write (x:=p) (e:=p) (by rw [h]; trivial) (.inl rfl) (fun b u hb q=>(fB _ _ (dk hb)).trans q) ⟨_,e⟩ ?_;exact⟨hz,its',n',r,e⟩
def zn3:V→V→V→Hp→(Hp→Prop)→Prop:=fun o i v H Q=>∃ p xs k j,o = .ref p∧i = .int k∧H p=some (.lst xs)∧ixN xs.length k=some j∧Q (lP H p (.lst (xs.set j v)))
theorem set_list:znS X zn3:=by
 intro lM s σ H o i v ov iv u Q I ro ri rv h;obtain⟨p,xs,k,j,rfl,rfl,hp,hj,q⟩:=h;cases ro;obtain⟨t,rfl⟩:=ri;obtain⟨lO,n,r,ho,hz⟩:=I.lst hp;obtain⟨h1,h2,h3,h4⟩:=zhR hj;have hl:=r.length;have hn:=zfj;have I':Inv X lM σ (lP H p (.lst (xs.set j v))) { s with heap:=s.heap.update p (c7 (·.setIfInBounds j u)) } :=
  I.lstUpd hp ho (zgZ lO n j u) (r.set rv j) (by rw [eU]; exact hz) s.toks
 by_cases h0:0≤k
 ·have hk:k.toNat=j:=by
   rw [gq h0 h4] at h1;exact aG h1
  exact PySem.W.ki_setAt ho h0 #[O] (by rw [am,← hl]; exact h4) (by rw [hk]; exact⟨_,I',q⟩)
 ·have hk:(k+(lO.toArray.size:Int)).toNat=j:=by
   rw [jN #[O] h3] at h1;rw [am,← hl];exact aG h1
  exact PySem.W.ki_setBack ho #[O] (by rw [am,← hl]; exact h3) #[O] (by rw [hk]; exact⟨_,I',q⟩)
theorem zfk (lo hi:Option Int) (n:Nat):(sliceBounds lo hi none n).1=((HT.sIx n 0 lo:Nat):Int)∧(sliceBounds lo hi none n).2.1=((HT.sIx n n hi:Nat):Int)∧(sliceBounds lo hi none n).2.2=1:=by
 refine⟨?_,?_,rfl⟩
 ·cases lo with
  | none=>simp [sliceBounds,HT.sIx]
  | some i =>
   simp only [sliceBounds,HT.sIx,kx,show (1:Int) > 0 by decide,if_true];by_cases h:i < 0
   ·simp only [h,if_true] <;> lia
   ·simp only [h,if_false] <;> lia
 ·cases hi with
  | none=>simp [sliceBounds,HT.sIx]
  | some i =>
   simp only [sliceBounds,HT.sIx,kx,show (1:Int) > 0 by decide,if_true];by_cases h:i < 0
   ·simp only [h,if_true] <;> lia
   ·simp only [h,if_false] <;> lia
theorem zeA (lO:List Value) (lo hi:Option Int):slicePick lO.toArray lo hi none=((lO.drop (HT.sIx lO.length 0 lo)).take (HT.sIx lO.length lO.length hi - HT.sIx lO.length 0 lo)).toArray:=by
 obtain⟨h1,h2,h3⟩:=zfk lo hi lO.toArray.size;unfold slicePick;rw [h1,h2,h3];simp only [sliceRange_one,pick_run,am] <;> rfl
def zow (K:ag):V→Option Int→Option Int→Hp→VK→Prop:=fun x lo hi H Q=>∃ a xs,x = .ref a∧lN K H a xs∧∀ p,H p=none→Q (.ref p) (lP H p (.lst (zdh xs lo hi)))
theorem zdK:SlR X (zow X.K):=by
 intro lM s σ H x v vl vu lo hi sl Q I rx hs pl pu h;obtain⟨a,xs,rfl,hx,q⟩:=h;cases rx;obtain⟨lO,r,ht,hz⟩:=I.list hx;have lT:=r.length;refine⟨"list",_,slot_list_getitem.lookup,ht.isList.typeIs,?_⟩;refine wpAny_getItem_list_slice ht.isList hs pl pu .none #[M] ?_ (by rw [am] <;> lia);rw [zeA,← lT];refine⟨.ref s.heap.objs.size,_,I.laid (t':=s.toks) (o:=.lst (zdh xs lo hi)) (fun b ob q=>af _ q) (ah _) ?_,rfl,q _ (I.hok.fresh (ah _))⟩;exact⟨aV (zf0 xs lo hi) hz,_,0,(r.drop (HT.sIx xs.length 0 lo)).take (HT.sIx xs.length xs.length hi - HT.sIx xs.length 0 lo),aC _ rfl⟩
def zcA:V→Bool
 | .non=>true
 | .bl _=>true
 | .int _=>true
 | .str _=>true
 | _=>false
def eqV:V→V→Bool
 | .non,.non=>true
 | .bl a,.bl b=>a == b
 | .bl a,.int b=>(if a then 1 else 0) == b
 | .int a,.bl b=>a == (if b then 1 else 0)
 | .int a,.int b=>a == b
 | .str a,.str b=>a == b
 | _,_=>false
theorem zj2 {A:Around} {s:Shared} {y x:V} {u v:Value} (ry:RelV y u) (rx:RelV x v) (fy:zcA y=true) (fx:zcA x=true):g6 A s u v (eqV y x):=by
 cases y with
 | non =>
  cases ry;cases x with
  | non=>cases rx; exact kJ _
  | bl b=>cases rx; exact SeqAt.EqAt.none_bool b
  | int b=>obtain⟨t,rfl⟩:=rx; exact SeqAt.EqAt.none_int b t
  | str b=>obtain⟨t,rfl⟩:=rx; exact SeqAt.EqAt.none_str b t
  | _=>exact absurd (show false=true from fx) aJ
 | bl a =>
  cases ry;cases x with
  | non=>cases rx; exact SeqAt.EqAt.bool_none a
  | bl b=>cases rx; exact SeqAt.EqAt.bool_bool a b
  | int b=>obtain⟨t,rfl⟩:=rx; exact SeqAt.EqAt.bool_int a b t
  | str b=>obtain⟨t,rfl⟩:=rx; exact SeqAt.EqAt.bool_str a b t
  | _=>exact absurd (show false=true from fx) aJ
 | int a =>
  obtain⟨t',rfl⟩:=ry;cases x with
  | non=>cases rx; exact SeqAt.EqAt.int_none a t'
  | bl b=>cases rx; exact SeqAt.EqAt.int_bool a t' b
  | int b=>obtain⟨t,rfl⟩:=rx; exact jL a t' b t
  | str b=>obtain⟨t,rfl⟩:=rx; exact jF a t' b t
  | _=>exact absurd (show false=true from fx) aJ
 | str a =>
  obtain⟨t',rfl⟩:=ry;cases x with
  | non=>cases rx; exact SeqAt.EqAt.str_none a t'
  | bl b=>cases rx; exact SeqAt.EqAt.str_bool a t' b
  | int b=>obtain⟨t,rfl⟩:=rx; exact jG a t' b t
  | str b=>obtain⟨t,rfl⟩:=rx; exact SeqAt.EqAt.str_str a t' b t
  | _=>exact absurd (show false=true from fx) aJ
 | _=>exact absurd (show false=true from fy) aJ
def eqU (x:V) (u:Value):Bool:=match u with
 | .none=>eqV .non x
 | .bool b=>eqV (.bl b) x
 | .int i _=>eqV (.int i) x
 | .str z _=>eqV (.str z) x
 | _=>false
theorem zj3 {x y:V} {u:Value} (r:RelV y u) (f:zcA y=true):eqU x u=eqV y x:=by
 cases y with
 | non=>cases r; rfl
 | bl b=>cases r; rfl
 | int i=>obtain⟨t,rfl⟩:=r; rfl
 | str z=>obtain⟨t,rfl⟩:=r; rfl
 | _=>exact absurd (show false=true from f) aJ
theorem zcU {x:V}:∀ {xs:List V} {us:List Value},zG xs us→xs.all zcA=true→us.any (eqU x)=xs.any fun y=>eqV y x
 | _,_,.nil,_=>rfl
 | y :: xs,u :: us,.cons r t,f=>by
  rw [gI,dQ] at f;rw [fC,fC,zj3 r f.1,zcU t f.2]
theorem zcg {A:Around} {s:Shared} {x:V} {v:Value} (rx:RelV x v) (fx:zcA x=true):∀ {xs:List V} {us:List Value},zG xs us→xs.all zcA=true→∀ u∈us,g6 A s u v (eqU x u)
 | _,_,.nil,_=>fun u hu=>by cases hu
 | y :: xs,u :: us,.cons r t,f=>fun u' hu=>by
  rw [gI,dQ] at f;rcases au.mp hu with rfl | hu
  ·rw [zj3 r f.1]; exact zj2 r rx f.1 fx
  ·exact zcg rx fx t f.2 u' hu
def inV (x:V) (xs:List V):Bool:=xs.any fun y=>eqV y x
def rIn (K:ag) (neg:Bool):R2:=fun x y H Q=>∃ p xs,y = .ref p∧(lN K H p xs∨lX K H p xs)∧zcA x=true∧xs.all zcA=true∧Q (.bl (if neg then !inV x xs else inV x xs)) H
theorem ziI:OpR X (compareOp .In) (rIn X.K false):=by
 intro lM s σ H x y v u Q I rx ry h;obtain⟨p,xs,rfl,hq,fx,fs,q⟩:=h;cases ry;rcases hq with hq | hq
 ·obtain⟨lO,r,pl,hz⟩:=I.list hq;refine SeqAt.in_listAt (eqU x) pl.isList (fun w hw=>zcg rx fx r fs w (by simpa using hw)) ⟨.bl _,H,I,rfl,?_⟩;rw [show lO.toArray.any (eqU x)=lO.any (eqU x) by simp,zcU r fs];exact q
 ·obtain⟨lO,r,pl,hz⟩:=I.tuple hq;refine SeqAt.in_tupleAt (eqU x) pl (fun w hw=>zcg rx fx r fs w (by simpa using hw)) ⟨.bl _,H,I,rfl,?_⟩;rw [show lO.toArray.any (eqU x)=lO.any (eqU x) by simp,zcU r fs];exact q
theorem zfl:OpR X (compareOp .NotIn) (rIn X.K true):=by
 intro lM s σ H x y v u Q I rx ry h;obtain⟨p,xs,rfl,hq,fx,fs,q⟩:=h;cases ry;rcases hq with hq | hq
 ·obtain⟨lO,r,pl,hz⟩:=I.list hq;refine SeqAt.notIn_listAt (eqU x) pl.isList (fun w hw=>zcg rx fx r fs w (by simpa using hw)) ⟨.bl _,H,I,rfl,?_⟩;rw [show lO.toArray.any (eqU x)=lO.any (eqU x) by simp,zcU r fs];exact q
 ·obtain⟨lO,r,pl,hz⟩:=I.tuple hq;refine SeqAt.notIn_tupleAt (eqU x) pl (fun w hw=>zcg rx fx r fs w (by simpa using hw)) ⟨.bl _,H,I,rfl,?_⟩;rw [show lO.toArray.any (eqU x)=lO.any (eqU x) by simp,zcU r fs];exact q
theorem zF:zbB X (.builtin "len") (fun xs H Q=>∃ p ys,xs = [.ref p]∧(lN X.K H p ys∨lX X.K H p ys)∧Q (.int ys.length) H):=by
 intro lM s σ H xs us Q I r h;obtain⟨p,ys,rfl,hq,q⟩:=h;obtain⟨u,rfl,rx⟩:=vals1 r;cases rx;have hn:=zfj;rcases hq with hq | hq
 ·obtain⟨lO,r',pl,hz⟩:=I.list hq;have lT:=r'.length;exact Calls.call_len_list pl.isList (by simp only [am] <;> lia) ⟨.int ys.length,H,I.tok _,⟨s.toks+1,by rw [am,lT]⟩,q⟩
 ·obtain⟨lO,r',pl,hz⟩:=I.tuple hq;have lT:=r'.length;exact len_tuple pl (by simp only [am] <;> lia) ⟨.int ys.length,H,I.tok _,⟨s.toks+1,by rw [am,lT]⟩,q⟩
theorem zfm:zbB X (.type "list") (fun xs H Q=>∃ p ys,xs = [.ref p]∧(lN X.K H p ys∨lX X.K H p ys)∧∀ l,H l=none→Q (.ref l) (lP H l (.lst ys))):=by
 intro lM s σ H xs us Q I r h;obtain⟨p,ys,rfl,hq,q⟩:=h;obtain⟨u,rfl,rx⟩:=vals1 r;cases rx;have fin:∀ (lO:List Value),zG ys lO→ys.length≤sizeLine→∀ (h':Heap) (c':Nat),(∀ b o',s.heap.get? b=some o'→h'.get? b=some o') →
   h'.get? s.heap.objs.size=some { cls:=.type "list",dict:=none,data:=.seq lO.toArray c',slots:=#[] }→EP X lM σ Q (.ref s.heap.objs.size) { s with heap:=h' }:=fun lO r' hz h' c' kp e =>
  ⟨.ref s.heap.objs.size,_,I.laid (t':=s.toks) kp (ah _) (show zab X.prog X.w _ h' _ (.lst ys) from ⟨hz,lO,c',r',e⟩),rfl,q _ (I.hok.fresh (ah _))⟩
 rcases hq with hq | hq
 ·obtain⟨lO,r',pl,hz⟩:=I.list hq;have lT:=r'.length;obtain⟨o,ho,hc,n,hd⟩:=pl.isList;exact call_list_seq p (.inl rfl) ho hc hd (fun h' c' kp e=>fin lO r' hz h' c' kp e) (by simp only [am] <;> lia)
 ·obtain⟨lO,r',pl,hz⟩:=I.tuple hq;have lT:=r'.length;obtain⟨o,ho,hc,n,hd⟩:=pl;exact call_list_seq p (.inr rfl) ho hc hd (fun h' c' kp e=>fin lO r' hz h' c' kp e) (by simp only [am] <;> lia)
theorem zaR:zbB X (.type "tuple") (fun xs H Q=>∃ p ys,xs = [.ref p]∧((lN X.K H p ys∧∀ l,H l=none→Q (.ref l) (lP H l (.tup ys)))∨(lX X.K H p ys∧Q (.ref p) H))):=by
 intro lM s σ H xs us Q I r h;obtain⟨p,ys,rfl,h⟩:=h;obtain⟨u,rfl,rx⟩:=vals1 r;cases rx;rcases h with ⟨hq,q⟩ | ⟨hq,q⟩
 ·obtain⟨lO,r',pl,hz⟩:=I.list hq;have lT:=r'.length;refine call_tuple_list pl.isList (fun h' kp=>?_) (by simp only [am] <;> lia);have I1:Inv X lM σ H { s with heap:=h' }:=I.kept (t':=s.toks) kp;have I2:Inv X lM σ (lP H h'.objs.size (.tup ys)) { s with heap:=h'.push { cls:=.type "tuple",data:=.seq lO.toArray } } :=
   I1.laid (t':=s.toks) (fun b o e=>af _ e) (ah _) (show zab X.prog X.w _ _ _ (.tup ys) from ⟨hz,lO,r',IsTup.new _ _⟩)
  exact⟨.ref h'.objs.size,_,I2,rfl,q _ (I1.hok.fresh (ah _))⟩
 ·obtain⟨lO,r',pl,hz⟩:=I.tuple hq;exact call_tuple_same pl ⟨.ref p,H,I,rfl,q⟩
def tyV (K:ag) (T:String) (x:V) (H:Hp):Prop:=match x with
 | .str _=>T = "str"
 | .int _=>T = "int"
 | .ref p=>(T = "list"∧∃ xs,lN K H p xs)∨(T = "tuple"∧∃ o,K.lookup p=some o∧o.cls = .type "tuple"∧o.dict=none) ∨
   (T = "dict"∧((∃ lV,H p=some (.dK lV))∨∃ lV,H p=some (.dT lV)))∨(T = "set"∧∃ S n,H p=some (.set S n))
 | _=>False
theorem zm2 {lM:List (Addr×Obj)} {σ:St} {H:Hp} {s:Shared} {T:String} {x:V} {v:Value} (I:Inv X lM σ H s) (r:RelV x v) (ty:tyV X.K T x H) :
  s.TypeIs v T∧∀ a,v = .ref a→∃ ob,s.heap.get? a=some ob∧ob.dict=none:=by
 cases x with
 | str z =>
  obtain⟨t,rfl⟩:=r;cases (show T = "str" from ty);exact⟨typeIs_str s z t,fun _ e=>nomatch e⟩
 | int i =>
  obtain⟨t,rfl⟩:=r;cases (show T = "int" from ty);exact⟨kK s i t,fun _ e=>nomatch e⟩
 | ref p =>
  cases r;rcases ty with ⟨rfl,xs,hq⟩ | ⟨rfl,o,hk,hc,hd⟩ | ⟨rfl,hk⟩ | ⟨rfl,S,n,hk⟩
  ·obtain⟨lO,_,pl,_⟩:=I.list hq;refine⟨pl.isList.typeIs,fun a e=>?_⟩;cases e;obtain⟨o,n,e,c,hd,_⟩:=pl;exact⟨o,e,hd⟩
  ·refine⟨⟨o,I.kIn p o hk,hc⟩,fun a e=>?_⟩;cases e;exact⟨o,I.kIn _ o hk,hd⟩
  ·have z:∃ o,s.heap.get? p=some o∧o.ExactDict:=by
    rcases hk with ⟨lV,hk⟩ | ⟨lV,hk⟩
    ·obtain⟨_,_,_,_,o,_,_,e,ex,_⟩:=I.hok p _ hk;exact⟨o,e,ex⟩
    ·obtain⟨_,_,_,_,o,_,_,e,ex,_⟩:=I.hok p _ hk;exact⟨o,e,ex⟩
   obtain⟨o,e,ex⟩:=z;refine⟨⟨o,e,ex.1⟩,fun a e2=>?_⟩;cases e2;exact⟨o,e,ex.2.1⟩
  ·obtain⟨o,_,_,_,e,ex,_⟩:=I.hok p _ hk;refine⟨⟨o,e,ex.1⟩,fun a e2=>?_⟩;cases e2;exact⟨o,e,ex.2.1⟩
 | _=>exact bT ty
def tBM (K:ag) (T:String) (r:V→List V→Hp→VK→Prop) (to:TE) (t:TA):TE:=fun σ H Q=>to σ H fun x H1=>tyV K T x H1∧t σ H1 fun xs H2=>r x xs H2 Q
variable {o e:Expr} {es:List Expr} {to:TE} {t:TA} {name:Str} {apos nu:Pos} {T id:String} {r:V→List V→Hp→VK→Prop}
theorem zcB (pa:PlainAttrs T) (slot:Slot T name id) (Cr:typeOf (.builtin id)=pure (.type "method_descriptor")) (hm:MtR X id r) (ho:PE X o to) (ha:PA X (e :: es) t)
  (uD:attributeBase o name X.env (eval o X.env)=eval o X.env:=by rfl)
  (xB:((backTo nu (starEach (e :: es) X.env)).all (fun x=>!x.1) && (backToKw nu (keywordEach [] X.env)).all (fun x=>x.1.isSome)
   && decide ((e :: es).length+([]:List Keyword).length+(if ([]:List Keyword).isEmpty then 0 else 1) < 30))=true:=by rfl)
  (uE:(apos.endLine == nu.line)=true:=by rfl) (hs:starEach (e :: es) X.env=(false,eval e X.env) :: starEach es X.env:=by rfl) (rX:(backTo nu (starEach es X.env)).any (·.1)=false:=by rfl) :
  PE X (.Call (.Attribute o name apos) (e :: es) [] nu) (tBM X.K T r to t):=by
 intro lM s σ H Q I h;refine wpAny_Call_method_late uD xB uE rfl (thn (ho lM s σ H _ I h) fun v s1 ⟨x,H1,I1,r1,ty,q1⟩=>?_);obtain⟨h1,h2⟩:=zm2 I1 r1 ty;refine⟨T,id,pa,slot,Cr,h1,h2,?_⟩;have hA:=ha nu lM s1 σ H1 _ I1 q1;rw [hs] at hA ⊢;refine Calls.callWith_builtin (by show (false || (backTo nu (starEach es X.env)).any (·.1))=false; rw [rX] <;> rfl) (jc ?_);exact thn hA fun us s2 ⟨vs,H2,I2,r2,q2⟩=>hm lM s2 σ H2 x vs v us Q I2 r1 r2 q2
end
def MtM (X:Cx) (id:String) (r:V→List V→Hp→VK→Prop):Prop :=
 ∀ (lM:List (Addr×Obj)) (s:Shared) (σ:St) (H:Hp) (x:V) (xs:List V) (v:Value) (us:List Value) (Q:VK),Inv X lM σ H s→RelV x v→zG xs us→r x xs H Q →
  wpAny (model X.prog X.w) X.A (call (.builtin id) (v :: us)) (EP X lM σ Q) X.xe s
theorem zG.one:∀ {x:V} {us:List Value},zG [x] us→∃ u,us = [u]∧RelV x u
 | _,_,.cons r .nil=>⟨_,rfl,r⟩
theorem zG.eraseIdx:∀ {xs:List V} {us:List Value} (i:Nat),zG xs us→zG (xs.eraseIdx i) (us.eraseIdx i)
 | _,_,_,.nil=>.nil
 | _,_,0,.cons _ t=>t
 | _,_,i+1,.cons r t=>.cons r (zG.eraseIdx i t)
theorem zG.rep {xs:List V} {us:List Value} (h:zG xs us):∀ k:Nat,zG (aA k xs).flatten (aA k us).flatten
 | 0=>.nil
 | k+1=>by
  rw [bx,bx,ek,ek];exact zG.append h (zG.rep h k)
theorem zeW {α:Type}:∀ (l:List α) (i:Nat),(l.eraseIdx i).length≤l.length
 | [],_=>ah _
 | _ :: _,0=>gr _
 | _ :: r,i+1=>ic (zeW r i)
theorem foldl_rep (lO:List Value):∀ (k:Nat) (acc:List Value),
  kL (fun x1 x2=>x1++x2) acc.toArray (aA k lO.toArray)=(acc++(aA k lO).flatten).toArray
 | 0,acc=>by simp
 | k+1,acc=>by
  have e:acc.toArray++lO.toArray=(acc++lO).toArray:=by simp
  have e2:(acc++lO)++(aA k lO).flatten=acc++(aA (k+1) lO).flatten:=by
   rw [bx,ek,bq]
  rw [← e2,← foldl_rep lO k (acc++lO),← e,bx,iB]
section
variable {X:Cx} {lM:List (Addr×Obj)} {σ:St} {H:Hp} {s:Shared} {l b:Addr} {xs ys zs:List V}
theorem Inv.lset {lO its':List Value} {n:Nat} {f:Array Value→Array Value} {t':Nat} (I:Inv X lM σ H s) (hH:H l=some (.lst xs))
  (e:s.heap.get? l=some { cls:=.type "list",data:=.seq lO.toArray n }) (hf:f lO.toArray=its'.toArray) (hv:zG ys its') (hz:ys.length≤sizeLine) :
  Inv X lM σ (lP H l (.lst ys)) { s with heap:=s.heap.update l (c7 f),toks:=t' }:=by
 have q:=ky e f;rw [hf] at q;refine I.write (x:=l) (e:=l) (by rw [hH]; exact trivial) (.inl rfl) (fun b' u hb hu=>(fB s.heap (c7 f) (dk hb)).trans hu) ⟨_,q⟩ ?_;exact⟨hz,its',_,hv,q⟩
theorem Inv.lnew {lO:List Value} {t':Nat} (I:Inv X lM σ H s) (hv:zG ys lO) (hz:ys.length≤sizeLine) :
  Inv X lM σ (lP H s.heap.objs.size (.lst ys)) { s with heap:=s.heap.push { cls:=.type "list",data:=.seq lO.toArray },toks:=t' } :=
 I.laid (fun _ _ q=>af _ q) (ah _) ⟨hz,lO,0,hv,aC _ rfl⟩
theorem Inv.fresh (I:Inv X lM σ H s):H s.heap.objs.size=none:=I.hok.fresh (ah _)
theorem Inv.lstM (I:Inv X lM σ H s) (hH:H l=some (.lst xs)):xs.length≤sizeLine∧∃ (lO:List Value) (n:Nat),zG xs lO∧xs.length=lO.length∧s.heap.get? l=some { cls:=.type "list",data:=.seq lO.toArray n }:=by
 obtain⟨z,lO,n,r,e⟩:=I.hok l _ hH;exact⟨z,lO,n,r,r.length,e⟩
theorem zf1 {n:Nat} (h:n≤sizeLine):dR n=false:=by
 unfold dR;exact decide_eq_false #[O]
end
section
variable {X:Cx}
def zlB:V→List V→Hp→VK→Prop:=fun x vs H Q=>∃ l xs y,x = .ref l∧vs = [y]∧H l=some (.lst xs)∧xs.length < sizeLine∧Q .non (lP H l (.lst (xs++[y])))
theorem zbn:MtM X "list.append" zlB:=by
 intro lM s σ H x vs v us Q I rx rv h;obtain⟨l,xs,y,rfl,rfl,hH,hz,q⟩:=h;cases rx;obtain⟨u,rfl,ru⟩:=rv.one;obtain⟨z,lO,n,r,hl,e⟩:=I.lstM hH;refine eJ jO ⟨_,e,rfl⟩ jw (jd _ _) (j6 l lO.toArray n u (by rw [am]; lia)) ⟨e,?_⟩;refine⟨.non,_,I.lset (its':=lO++[u]) hH e #[M] (r.append (.cons ru .nil)) ?_,rfl,q⟩;rw [aB,eB];lia
def zlC:V→List V→Hp→VK→Prop:=fun x vs H Q=>∃ l b xs zs,x = .ref l∧vs = [.ref b]∧H l=some (.lst xs)∧H b=some (.lst zs)∧xs.length+zs.length≤sizeLine∧Q .non (lP H l (.lst (xs++zs)))
theorem ziJ:MtM X "list.extend" zlC:=by
 intro lM s σ H x vs v us Q I rx rv h;obtain⟨l,b,xs,zs,rfl,rfl,hH,hB,hz,q⟩:=h;cases rx;obtain⟨u,rfl,ru⟩:=rv.one;cases ru;obtain⟨z,lO,n,r,hl,e⟩:=I.lstM hH;obtain⟨z2,l9,n2,r2,n8,e2⟩:=I.lstM hB;have hsz:lO.toArray.size+l9.toArray.size≤sizeLine:=by rw [am,am]; lia
 have uF:¬ (!lO.toArray.isEmpty && dR (lO.toArray.size+l9.toArray.size))=true:=by
  rw [zf1 hsz,k6];exact aJ
 refine eJ F.slot_list_extend ⟨_,e,rfl⟩ F.entry_list_extend (F.args_list_extend_2 _ _)
  (AutoSeq1.list_extend_list_list_0 l lO.toArray n b l9.toArray n2 uF (by rw [am]; lia) #[O]) ⟨e,e2,?_⟩
 refine⟨.non,_,I.lset (its':=lO++l9) hH e #[M] (r.append r2) ?_,rfl,q⟩;rw [aB];lia
def zm3:V→List V→Hp→VK→Prop:=fun x vs H Q=>∃ l xs i k y,x = .ref l∧vs = [.int i]∧H l=some (.lst xs)∧-(2 ^ 63)≤i∧i < 2 ^ 63∧seqIndex? i xs.length=some k∧xs[k]? = some y∧Q y (lP H l (.lst (xs.eraseIdx k)))
theorem zj4:MtM X "list.pop" zm3:=by
 intro lM s σ H x vs v us Q I rx rv h;obtain⟨l,xs,i,k,y,rfl,rfl,hH,h1,h2,hk,hy,q⟩:=h;cases rx;obtain⟨u,rfl,ru⟩:=rv.one;obtain⟨t,rfl⟩:=ru;obtain⟨z,lO,n,r,hl,e⟩:=I.lstM hH;obtain⟨w,hw,wM⟩:=r.get hy;refine eJ F.slot_list_pop ⟨_,e,rfl⟩ F.entry_list_pop (F.args_list_pop_2 _ _)
  (MeetsSeq.list_pop_at l lO.toArray n i t k w (fitsIndex_both h1 h2) (by rw [am,← hl]; exact hk) (by rw [← bd]; exact hw) (by rw [am]; lia)) ⟨e,?_⟩
 refine⟨y,_,I.lset (its':=lO.eraseIdx k) hH e ?_ (r.eraseIdx k) ?_,wM,q⟩
 ·show lO.toArray.eraseIdxIfInBounds k=(lO.eraseIdx k).toArray;rw [List.eraseIdxIfInBounds_toArray]
 ·have:=zeW xs k;lia
def zox:R2:=fun x y H Q=>∃ l b xs zs,x = .ref l∧y = .ref b∧H l=some (.lst xs)∧H b=some (.lst zs)∧xs.length+zs.length≤sizeLine∧∀ p,H p=none→Q (.ref p) (lP H p (.lst (xs++zs)))
theorem zbZ:OpR X (binaryOp .Add) zox:=by
 intro lM s σ H x y v u Q I rx ry h;obtain⟨l,b,xs,zs,rfl,rfl,hH,hB,hz,q⟩:=h;cases rx;cases ry;obtain⟨z,lO,n,r,hl,e⟩:=I.lstM hH;obtain⟨z2,l9,n2,r2,n8,e2⟩:=I.lstM hB;refine PySem.P.add_list e e2 ?_ (by rw [am,am]; lia);have ea:lO.toArray++l9.toArray=(lO++l9).toArray:=by simp
 rw [ea];exact⟨.ref _,_,I.lnew (t':=s.toks) (r.append r2) (by rw [aB]; lia),rfl,q _ I.fresh⟩
def zoy:R2:=fun x y H Q=>∃ l k xs,x = .ref l∧y = .int k∧H l=some (.lst xs)∧-(2 ^ 63)≤k∧k < 2 ^ 63∧xs.length*k.toNat≤sizeLine ∧
 ∀ p,H p=none→Q (.ref p) (lP H p (.lst (aA k.toNat xs).flatten))
theorem len_rep {α:Type} (xs:List α) (k:Nat):(aA k xs).flatten.length=k*xs.length:=by
 induction k with
 | zero=>simp
 | succ k ih=>rw [bx,ek,aB,ih,Nat.succ_mul,Nat.add_comm]
theorem zg0:OpR X (binaryOp .Mult) zoy:=by
 intro lM s σ H x y v u Q I rx ry h;obtain⟨l,k,xs,rfl,rfl,hH,h1,h2,hz,q⟩:=h;cases rx;obtain⟨t,rfl⟩:=ry;obtain⟨z,lO,n,r,hl,e⟩:=I.lstM hH;have lT:lO.toArray.size*k.toNat≤sizeLine:=by rw [am,← hl]; exact hz
 have Cs:¬ lO.toArray.size*k.toNat > (2 ^ 63 - 1) / 8:=by
  have:(sizeLine:Nat)≤(2 ^ 63 - 1) / 8:=by decide
  lia
 have Ct:¬ (!Builtin.List.listFitsIndex k)=true:=by
  rw [fitsIndex_both h1 h2];exact aJ
 have uF:¬ dR (lO.toArray.size*k.toNat)=true:=by
  rw [zf1 lT];exact aJ
 have Cu:kL (fun x1 x2=>x1++x2) #[] (aA (if lO.toArray.isEmpty=true then 0 else k.toNat) lO.toArray)=(aA k.toNat lO).flatten.toArray:=by
  have f0:∀ m:Nat,kL (fun x1 x2=>x1++x2) #[] (aA m lO.toArray)=(aA m lO).flatten.toArray:=fun m=>by
   have:=foldl_rep lO m [];rw [eV] at this;exact this
  rw [f0];cases lO with
  | nil=>simp
  | cons a r'=>rw [if_neg #[M]]
 refine wpAny_binaryOp_repeat_ref (T:="list") (U:="int") #[D] ⟨_,e,rfl⟩ (fun s'=>kK s' k t) noFill_list_mul F.fills_int_mul F.slot_int_rmul repeat_list F.slot_int_index.lookup
  (eJ F.slot_int_rmul (kK s k t) F.entry_int_rmul (F.args_int_rmul_2 _ _) (int___rmul___int_list k t l lO.toArray n)
   ⟨e,rfl,⟨_,e,rfl⟩,eJ F.slot_list_mul ⟨_,e,rfl⟩ F.entry_list_mul (F.args_list_mul_2 _ _) (AutoListH.list___mul___list_int_3 l lO.toArray n k t Ct Cs uF) ⟨e,?_⟩⟩)
 rw [Cu];exact⟨.ref _,_,I.lnew (t':=s.toks) (r.rep k.toNat) (by rw [len_rep,Nat.mul_comm]; exact hz),rfl,q _ I.fresh⟩
end
end L2
namespace Att
open PySem PySem.W PySem.Calls PyProof.Rows
theorem zdB {P:Params} {h:Heap}:∀ (ns:List Int) (vs:List Value),WellAll P h vs (ns.map WData.int)→IntsAre vs ns:=by
 intro ns;induction ns with
 | nil =>
  intro vs w;rw [hX] at w;cases w;exact .nil
 | cons n ns ih =>
  intro vs w;rw [aR] at w;cases w with
  | cons a b =>
   cases a;exact .cons _ _ (ih _ b)
theorem ziK {l:OpenLaw} {n:Nat} (hn:l.most=some n) {P:Params} {h:Heap} {args:List WData} {vals:List Value}
  (vR:l.row.toRowW.claim.pre args=true) (vS:WellAll P h vals args) :
  ∃ a vs ns,vals = [aE a]∧args = [WData.list (ns.map WData.int)]∧h.get? a=some { cls:=.type "list",data:=.seq vs.toArray }∧IntsAre vs ns∧ns.length≤n:=by
 have hsh:WShape.hasAll [] args [.list .int]=true:=(pre_splitW vR).1;have hc:l.pre.holds [] { args:=args }=true:=(pre_splitW vR).2;obtain⟨d,r,rfl,h1,h2⟩:=hasAllW_cons hsh;obtain rfl:=hasAllW_nil h2;obtain⟨xs,rfl,h3⟩:=hasW_list h1;obtain⟨ns,rfl⟩:=items_int h3;have lT:ns.length≤n:=by
  unfold OpenLaw.pre at hc;have h4:(WTm.not (.lt (.lit (.int (n:Int))) (.len (.arg 0)))).holds [] { args:=[.list (ns.map .int)] }=true:=by
   have h4:=(holds_andW hc).1;rw [hn] at h4;exact h4
  have h5:=condW_of h4 (w_not (w_lt w_lit (w_len_list (w_arg rfl))));rw [ae] at h5;refine Nat.le_of_not_lt fun q=>?_
  have q':(n:Int) < ((ns.length:Nat):Int):=by lia
  first
   | (rw [decide_eq_true q'] at h5; exact absurd h5 #[D])
   | (simp at h5; lia)
 cases vS with
 | cons w1 w2 =>
  cases w2;cases w1 with
  | list ho oF=>exact⟨_,_,ns,rfl,rfl,ho,zdB ns _ oF,lT⟩
theorem ziL (l:OpenLaw) (args:List WData):l.row.toRowW.claim.post args (.bool true) args=true :=
 postW_of (r:=l.row.toRowW) (X:=(true == true))
  (show WShape.has [] (.bool true) .bool=true by first | rfl | decide | simp [WShape.has,WShape.arms,WShape.armsAll])
  (show (WTm.eq .res (.lit (.bool true))).value [] { args:=args,res:=some (.bool true),after:=args }=some (.bool (true == true)) from w_eq_bool (w_res rfl) w_lit) rfl
theorem attach_call {l:OpenLaw} {n:Nat} {q:Program} {loose:List Str} {XP:(Str→Option Value)→Heap→Prop} {YP:World→Heap→Prop} {d:DefRec}
  (hn:l.most=some n) (y6:d.params.defaults = [])
  (call:∀ (w:World) (s₀ s₁:Shared) (mg mb:Str→Option Value) (fa:Addr) (o:Obj) (pm cd doc:Value) (a:Addr) (vs:List Value) (ns:List Int),
   Ground q loose [] XP w s₀ mg mb s₁.heap→YP w s₁.heap →
   s₁.heap.get? fa=some o→o.data = .func (docDef d.name d.params d.body d.scope pm cd doc)→s₁.heap.CodeRec cd d.name→mg d.name=some (.ref fa) →
   s₁.heap.get? a=some { cls:=.type "list",data:=.seq vs.toArray }→IntsAre vs ns→ns.length≤n→s₁.gens = #[] →
   codeAny (model l.prog w) callerA (.call (.ref fa) ⟨[.ref a],[]⟩) (fun r s'=>r = .ok (.ret (.bool true))∧OldK s₁.heap s'.heap∧s'.os=s₁.os∧AllBare s'.gens) s₁) :
  WalkO q loose XP YP l.row.toRowW d [] (fun f vs=>kM f vs):=by
 intro w s₀ s₁ mg mb G Y fa o pm cd doc dV kV ho hd qF hD sX hg args vals as vR hlay hrd vS ph;obtain rfl:dV = .none:=Dflts.none hD y6;obtain rfl:kV = .none:=Dflts.noKw hD;obtain⟨a,vs,ns,rfl,rfl,xC,hints,lT⟩:=ziK hn vR vS;refine enter_call (fS (call w s₀ s₁ mg mb fa o pm cd doc a vs ns G Y ho (fd_plain hd) qF sX xC hints lT hg) fun r s' hq=>?_);obtain⟨rfl,h2,h3,h4⟩:=hq;exact⟨.inl ⟨.bool true,.bool true,[],rfl,fun _=>rfl,.bool true,ziL l _,fun _=>⟨gQ,fun _ hm=>(nomatch hm)⟩⟩,h2,h3,h4⟩
end Att
namespace L2
open PySem PySem.Spec PyProof.Rows
theorem zeX:∀ {vs:List Value} {ns:List Int},IntsAre vs ns→zG (ns.map V.int) vs
 | _,_,.nil=>.nil
 | _,_,.cons n t h=>.cons ⟨t,rfl⟩ (zeX h)
def zm4 (H:Hp):Prop:=∀ b,H b=none∨∃ o xs,H b=some (.frz o (.lst xs))
theorem zj5 {P:Program} {w:World} {K:ag} {mg mb:Str→Option Value} {CX:CXT} {k:Nat} {fa a:Addr} {fd:FuncData} {x:Str} {sp:Sp} {s₁:Shared} {vs:List Value} {ns:List Int}
  (KX:K.In s₁.heap) (BC:s₁.heap.Ns mainGlobals mg) (hb:s₁.heap.Ns builtinsNs mb) (hbb:∀ x:Str,x≠"__name__"→mb x=bootBuiltins x) (Cv:s₁.heap.NoLimit) (hg:s₁.gens = #[])
  (ha:s₁.heap.get? a=some { cls:=.type "list",data:=.seq vs.toArray }) (hi:IntsAre vs ns) (hl:ns.length≤sizeLine) (hr:Room k callerA)
  (F:∀ base:Heap,K.In base→base.Ns mainGlobals mg→FnOk P w K mg base CX k fa fd [x] sp) (y8:∀ (s:Shared) (u:Value),BindsTo s fd ⟨[u],[]⟩ [(x,u)])
  (qG:∀ H:Hp,zm4 H→lN K H a (ns.map V.int)→sp [.ref a] H (fun v _=>v = .bl true) fun _ _ _=>False)
  (Cw:∀ H e s',CX [] H s₁ (fun _ _ _=>False) e s'→False) :
  codeAny (model P w) callerA (.call (.ref fa) ⟨[.ref a],[]⟩) (fun r s'=>r = .ok (.ret (.bool true))∧OldK s₁.heap s'.heap∧s'.os=s₁.os∧AllBare s'.gens) s₁:=by
 have rv:=zeX hi;have Cy:=hi.length;have core:∀ H:Hp,zm4 H→lN K H a (ns.map V.int)→HOk P w H s₁.heap→(∀ b,H b≠none→b=a)→(H a≠none→K.lookup a=none) →
   codeAny (model P w) callerA (.call (.ref fa) ⟨[.ref a],[]⟩) (fun r s'=>r = .ok (.ret (.bool true))∧OldK s₁.heap s'.heap∧s'.os=s₁.os∧AllBare s'.gens) s₁:=by
  intro H hO hS hok hA hK;have sO:∀ {b:Addr} {o:Obj},s₁.heap.get? b=some o→H b=none→(zff s₁.heap H).get? b=some o:=fun e n=>zjM e n
  have xy:∀ {b:Addr} {o:Obj} {es:Array DictEntry} {ep:Nat},s₁.heap.get? b=some o→o.data = .dict es ep→H b=none:=fun {b o es ep} e d=>by
   cases q:H b with
   | none=>rfl
   | some u =>
    have e':b=a:=hA b (by rw [q]; simp);subst e';rw [ha] at e; cases e;have d':Data.seq vs.toArray _=Data.dict es ep:=d;cases d'
  have BD:∀ {b:Addr} {m:Str→Option Value},s₁.heap.Ns b m→(zff s₁.heap H).Ns b m:=fun {b m} ⟨o,es,ep,e,d,r⟩=>⟨o,es,ep,sO e (xy e d),d,r⟩
  have hKb:K.In (zff s₁.heap H):=fun b o e=>sO (KX b o e) (by
   cases q:H b with
   | none=>rfl
   | some u =>
    have e':b=a:=hA b (by rw [q]; simp);subst e';rw [hK (by rw [q]; simp)] at e; cases e)
  have hM:Mod K mg (zff s₁.heap H):=⟨hKb,BD BC,⟨mb,BD hb,hbb⟩,let ⟨mc,h1,h2⟩:=Cv; ⟨mc,BD h1,h2⟩⟩;have e0:Env0 P w K mg (zff s₁.heap H) callerA [] s₁ H:=⟨rfl,hM,fun b o e=>zls e,Nat.le_of_eq (ziC _ _),trivial,fun b hb=>absurd (show b∈([]:List Addr) from hb) #[M],hok,.of_eq hg⟩;refine fS ((F _ hKb (BD BC)).run callerA [] s₁ H ⟨[.ref a],[]⟩ [.ref a] [.ref a] _ _ hr e0 (y8 s₁ (.ref a)) (.cons rfl .nil) (qG H hO hS)) fun r s' h=>?_
  cases r with
  | error e=>exact (Cw H e s' h).elim
  | ok fl =>
   cases fl with
   | next=>exact bT h
   | brk=>exact bT h
   | cont=>exact bT h
   | ret u =>
    obtain⟨v,H',os,bare,un,Cz,r',q⟩:=h;have q':v = .bl true:=q;subst q';obtain rfl:u=d7 true:=r';refine⟨rfl,OldK.of_keep fun b o e=>?_,os,bare⟩;cases q:H b with
    | none=>exact un.keep b o e q (by intro z; exact absurd (show b∈([]:List Addr) from z) #[M]) #[M]
    | some u =>
     rcases hO b with z | ⟨ob,xs,z⟩
     ·rw [q] at z; cases z
     ·have z2:=un.frzs b ob _ z;obtain⟨e1,_⟩:=hok b _ z;obtain⟨e2,_⟩:=Cz b _ z2;rw [e] at e1; cases e1;exact e2
 cases hk:K.lookup a with
 | some o =>
  have e:=KX a o hk;rw [ha] at e;cases e;refine core (fun _=>none) (fun _=>.inl rfl) (.inr ⟨_,vs.toArray,_,hk,rfl,rfl,rfl,by rw [am,Cy]; exact hl,by simpa using rv⟩) (fun b u z=>by have z':(none:Option HO)=some u:=z; cases z') (fun b z=>absurd rfl z) fun z=>absurd rfl z
 | none =>
  refine core (fun b=>if b=a then some (.frz { cls:=.type "list",data:=.seq vs.toArray } (.lst (ns.map V.int))) else none) (fun b=>?_) (.inl (.inr ⟨{ cls:=.type "list",data:=.seq vs.toArray },if_pos rfl⟩)) (fun b u z=>?_) (fun b z=>?_) fun _=>hk
  ·by_cases hb:b=a
   ·exact .inr ⟨_,_,if_pos hb⟩
   ·exact .inl (if_neg hb)
  ·by_cases hb:b=a
   ·have z':=(if_pos hb).symm.trans z;cases z';subst hb;exact⟨ha,by rw [ae]; exact hl,vs,_,rv,ha⟩
   ·have z':=(if_neg hb).symm.trans z;cases z'
  ·by_cases hb:b=a
   ·exact hb
   ·exact absurd (if_neg hb) z
theorem zlD {l:iC} {n k:Nat} {q:Program} {loose:List Str} {XP:(Str→Option Value)→Heap→Prop} {YP:World→Heap→Prop} {d:DefRec} {K:Params→ag} {CX:World→CXT} {sp:World→Sp} {x:Str}
  (hn:l.most=some n) (rQ:n≤sizeLine) (y6:d.params.defaults = []) (hr:Room k callerA)
  (hY:∀ (w:World) (h:Heap),YP w h→(K w.params).In h)
  (F:∀ (w:World) (mg:Str→Option Value) (fa:Addr) (h:Heap),(K w.params).In h→h.Ns mainGlobals mg→mg d.name=some (.ref fa) →
   ∃ fd:FuncData,(∀ (s:Shared) (u:Value),BindsTo s fd ⟨[u],[]⟩ [(x,u)]) ∧
    ∀ base:Heap,(K w.params).In base→base.Ns mainGlobals mg→FnOk l.prog w (K w.params) mg base (CX w) k fa fd [x] (sp w))
  (qG:∀ (w:World) (H:Hp) (a:Addr) (ns:List Int),ns.length≤n→zm4 H→lN (K w.params) H a (ns.map V.int)→sp w [.ref a] H (fun v _=>v = .bl true) fun _ _ _=>False)
  (Cw:∀ (w:World) (H:Hp) (s:Shared) (e:Value) (s':Shared),CX w [] H s (fun _ _ _=>False) e s'→False) :
  lx q loose XP YP l.row.toRowW d [] (fun f vs=>kM f vs):=by
 refine Att.attach_call hn y6 fun w s₀ s₁ mg mb fa o pm cd doc a vs ns G Y ho hd qF sX xC hints lT hg=>?_
 have KX:=hY w _ Y;obtain⟨fd,hb,hF⟩:=F w mg fa _ KX G.T.g sX;exact zj5 KX G.T.g G.T.b G.T.builtins G.T.nolimit hg xC hints (aV lT rQ) hr hF hb (fun H hO hS=>qG w H a ns lT hO hS) fun H e s'=>Cw w H s₁ e s'
def zbC (s:Stmt):Arguments:=match s with
 | .FunctionDef _ a _ _ _ _ _ _ _ _=>a
 | _=>{ posonlyargs:=[],args:=[],vararg:=none,kwonlyargs:=[],kw_defaults:=[],kwarg:=none,defaults:=[] }
def za2 (s:Stmt):List Stmt:=match s with
 | .FunctionDef _ _ b _ _ _ _ _ _ _=>b
 | _=>[]
def zj (s:Stmt):Scope:=match s with
 | .FunctionDef _ _ _ _ _ _ sc _ _ _=>sc
 | _=>{ kind:=.function,names:=[],isGenerator:=false,isCoroutine:=false }
abbrev CX0:CXT:=fun _ _ _ _ _ _=>False
abbrev E0:XK:=fun _ _ _=>False
theorem zap {X:Cx}:zd3 CX0 X E0:=fun _ _ _ _ _ _ _ h=>h.elim
structure Fun (K:ag) (x qual:Str) (st:Stmt) (f:Addr) (fd:FuncData):Prop where
 ex:∃ (oc:Value) (od:Option Addr) (kV doc pm:Value) (an:Option Addr) (l8 ct:Value) (ui:Array (Option Value)),
  fd=cF x qual (zbC st) (za2 st) (zj st) .none kV doc pm an l8 ct∧K.lookup f=some ⟨oc,od,.func fd,ui⟩∧eA K l8 qual=true
 kp:dN K (.ref f)=true
section
variable {P:Program} {w:World} {K:ag} {mg:Str→Option Value} {base:Heap}
theorem Fun.ok {x qual:Str} {st:Stmt} {f:Addr} {fd:FuncData} {N ps:List Str} {k:Nat} {sp:Sp} (F:Fun K x qual st f fd) (S:FnScope N ps (zj st)) (len:∀ vs H Q E,sp vs H Q E→vs.length=ps.length)
  (n9:∀ (l8:Value) (A:Around) (outer:List Env) (s:Shared) (H:Hp) (vs:List V) (Q:VK) (E:XK),Room k (A.deeper (envOfC qual (zj st) s.heap.objs.size f l8))→sp vs H Q E →
   ∃ t,PSs (zbA CX0 P w K mg base N qual (zj st) f l8 A outer s H E).nox (za2 st) t∧t { nx:=fun _ H'=>Q .non H',rt:=Q } (start N vs) H):FnOk P w K mg base CX0 (k+1) f fd ps sp:=by
 obtain⟨oc,od,kV,doc,pm,an,l8,ct,ui,rfl,lk,qF⟩:=F.ex;refine zmx lk qF S len fun A outer s H vs Q E hr qG=>?_
 obtain⟨t,h,q⟩:=n9 l8 A outer s H vs Q E hr qG;exact⟨t,h.nox,q⟩
theorem Fun.binds {x qual:Str} {st:Stmt} {f:Addr} {fd:FuncData} {ps:List Str} (F:Fun K x qual st f fd)
  (h:∀ (kV doc pm:Value) (an:Option Addr) (l8 ct:Value) (us:List Value),us.length=ps.length→bindArgs (cF x qual (zbC st) (za2 st) (zj st) .none kV doc pm an l8 ct) ⟨us,[]⟩=pure (ps.zip us)):Binds K fd ps []:=by
 obtain⟨oc,od,kV,doc,pm,an,l8,ct,ui,rfl,lk,qF⟩:=F.ex;exact .all (h kV doc pm an l8 ct)
theorem zj6 {x qual:Str} {st:Stmt} {f:Addr} {oc:Value} {od an:Option Addr} {ui:Array (Option Value)} {kV doc pm l8 ct:Value} (l:K.lookup f=some ⟨oc,od,.func (cF x qual (zbC st) (za2 st) (zj st) .none kV doc pm an l8 ct),ui⟩)
  (c:eA K l8 qual=true) (k:dN K (.ref f)=true):Fun K x qual st f (cF x qual (zbC st) (za2 st) (zj st) .none kV doc pm an l8 ct):=⟨⟨oc,od,kV,doc,pm,an,l8,ct,ui,rfl,l,c⟩,k⟩
end
theorem zeB {A B:Prop} (h:B):if false=true then A else B:=by
 rw [if_neg aJ];exact h
theorem zoz {A B:Prop} (h:A):if true=true then A else B:=by
 rw [if_pos rfl];exact h
theorem zbc {c A B:Prop} [Decidable c] (h1:c→A) (h2:¬ c→B):if c then A else B:=by
 by_cases h:c
 ·rw [if_pos h];exact h1 h
 ·rw [if_neg h];exact h2 h
def zA (H H':Hp):Prop:=∀ b o,H b=some o→H' b=some o
theorem zA.trans {H H1 H2:Hp} (a:zA H H1) (b:zA H1 H2):zA H H2:=fun c o h=>b c o (a c o h)
theorem zA.free {H H':Hp} (e:zA H H') {l:Addr} (h:H' l=lJ):H l=lJ:=by
 cases q:H l with
 | none=>rfl
 | some o =>
  rw [e l o q] at h;cases h
theorem zA.seq {K:ag} {H H':Hp} {a:Addr} {xs:List V} (e:zA H H') (h:lN K H a xs):lN K H' a xs:=by
 rcases h with (h | ⟨o,h⟩) | h
 ·exact .inl (.inl (e _ _ h))
 ·exact .inl (.inr ⟨o,e _ _ h⟩)
 ·exact .inr h
end L2
section
namespace L2
open PySem
abbrev Ends.n (D:Ends) (N:St→Hp→Prop):Ends:={ D with nx:=N }
section
variable {r1 r2 r3 r4 r5 r6 r7 r8 r9 r10 r11 r12 r13 r14 r15:TS} {D:Ends} {σ:St} {H:Hp}
theorem zm5 (h:let N2:=r2 D; r1 (D.n N2) σ H):(zbk r1 r2) D σ H:=h
theorem zg1 (h:let N3:=r3 D; let N2:=r2 (D.n N3); r1 (D.n N2) σ H):(zbk r1 (zbk r2 r3)) D σ H:=h
theorem zlE (h:let N4:=r4 D; let N3:=r3 (D.n N4); let N2:=r2 (D.n N3); r1 (D.n N2) σ H):(zbk r1 (zbk r2 (zbk r3 r4))) D σ H:=h
theorem zlF (h:let N5:=r5 D; let N4:=r4 (D.n N5); let N3:=r3 (D.n N4); let N2:=r2 (D.n N3); r1 (D.n N2) σ H):(zbk r1 (zbk r2 (zbk r3 (zbk r4 r5)))) D σ H:=h
theorem zm6 (h:let N6:=r6 D; let N5:=r5 (D.n N6); let N4:=r4 (D.n N5); let N3:=r3 (D.n N4); let N2:=r2 (D.n N3); r1 (D.n N2) σ H):(zbk r1 (zbk r2 (zbk r3 (zbk r4 (zbk r5 r6))))) D σ H:=h
theorem zm7 (h:let N7:=r7 D; let N6:=r6 (D.n N7); let N5:=r5 (D.n N6); let N4:=r4 (D.n N5); let N3:=r3 (D.n N4); let N2:=r2 (D.n N3); r1 (D.n N2) σ H):(zbk r1 (zbk r2 (zbk r3 (zbk r4 (zbk r5 (zbk r6 r7)))))) D σ H:=h
theorem zbl {X0:Cx} {B:List PySem.Stmt} (h:let X:=X0; ∃ t,PSs X B t∧t D σ H):∃ t,PSs X0 B t∧t D σ H:=h
end
end L2
end
section
namespace L2
open PySem PySem.Spec PyProof.Rows
def zao (cs:List (Str×Addr)):List (Str×NameKind)→List (Str×Addr)→List (Str×Addr)
 | [],acc=>acc
 | (n,k) :: r,acc=>if k == .free then zao cs r ((n,(cs.lookup n).getD 0) :: acc) else zao cs r acc
theorem zcC {scope:Scope} {env:Env} (h:∀ y∈scope.names,y.2 = .free→∃ c,env.cells.lookup y.1=some c) :
  closureFor scope env=pure (zao env.cells scope.names []):=by
 have go:∀ (names:List (Str×NameKind)) (acc:List (Str×Addr)),(∀ y∈names,y.2 = .free→∃ c,env.cells.lookup y.1=some c) →
   (forIn names acc (fun (x:Str×NameKind) (cs:List (Str×Addr))=>(if (x.2 == bS)=true then do
    let a ← cellOf env x.1
    pure (cA ((x.1,a) :: cs)) else pure (cA cs):Sem (ForInStep (List (Str×Addr))))))=(pure (zao env.cells names acc):Sem _):=by
  intro names;induction names with
  | nil=>intro acc _; rfl
  | cons y r ih =>
   intro acc hy;obtain⟨n,k⟩:=y;rw [dD];cases hk:(k == bS) with
   | true =>
    obtain⟨c,hc⟩:=hy (n,k) aF (by simpa using hk);have o6:cellOf env n=pure c:=by
     unfold cellOf;have lR:env.cells.lookup n=some c:=hc;rw [lR]
    simp only [hk,if_true,o6];have e:=ih ((n,c) :: acc) fun y uj=>hy y (aj _ uj)
    have lR:env.cells.lookup n=some c:=hc;simp only [zao,hk,if_true,lR,ie];exact e
   | false =>
    simp only [hk,aT,if_false];have e:=ih acc fun y uj=>hy y (aj _ uj)
    simp only [zao,hk,aT,if_false];exact e
 have e:=go scope.names [] h;unfold closureFor;show (forIn scope.names [] _ >>= fun cs=>pure cs)=_
 first
  | (rw [e]; rfl)
  | (simp only []; rw [e]; rfl)
  | (have e':=e; simp at e' ⊢; exact e')
theorem zbJ {cs:List (Str×Addr)}:∀ (names:List (Str×NameKind)) (acc:List (Str×Addr)),
  (∀ y∈names,y.2 = .free→∃ c,cs.lookup y.1=some c)→(∀ x c,acc.lookup x=some c→cs.lookup x=some c) →
  ∀ x c,(zao cs names acc).lookup x=some c→cs.lookup x=some c
 | [],acc,_,h,x,c,e=>h x c e
 | (n,k) :: r,acc,hy,h,x,c,e=>by
  have hr:∀ y∈r,y.2 = .free→∃ c,cs.lookup y.1=some c:=fun y uj=>hy y (aj _ uj)
  unfold zao at e;cases hk:(k == bS) with
  | false =>
   rw [hk] at e;exact zbJ r acc hr h x c e
  | true =>
   rw [hk] at e;obtain⟨d,hd⟩:=hy (n,k) aF (by simpa using hk);have sW:cs.lookup n=some d:=hd;refine zbJ r _ hr (fun x c e'=>?_) x c e;rw [sW,ie,bu] at e';cases hx:(x == n) with
   | true =>
    rw [hx] at e';have:x=n:=by simpa using hx
    subst this;rw [sW];exact e'
   | false =>
    rw [hx] at e';exact h x c e'
theorem zb0 {cs:List (Str×Addr)}:∀ (names:List (Str×NameKind)) (acc:List (Str×Addr)) (x:Str),
  ((∃ c,acc.lookup x=some c)∨(x,bS)∈names)→∃ c,(zao cs names acc).lookup x=some c
 | [],acc,x,h=>by
  rcases h with h | h
  ·exact h
  ·cases h
 | (n,k) :: r,acc,x,h=>by
  unfold zao;cases hk:(k == bS) with
  | false =>
   refine zb0 r acc x ?_;rcases h with h | h
   ·exact .inl h
   ·rcases au.mp h with h | h
    ·cases h;exact absurd hk #[D]
    ·exact .inr h
  | true =>
   refine zb0 r _ x ?_;cases hx:(x == n) with
   | true=>exact .inl ⟨_,by rw [bu,hx]⟩
   | false =>
    rcases h with ⟨c,h⟩ | h
    ·exact .inl ⟨c,by rw [bu,hx]; exact h⟩
    ·rcases au.mp h with h | h
     ·cases h;simp at hx
     ·exact .inr h
theorem lookup_mem {α:Type}:∀ {l:List (Str×α)} {x:Str} {k:α},l.lookup x=some k→(x,k)∈l
 | [],x,k,h=>by simp at h
 | (n,j) :: r,x,k,h=>by
  rw [bu] at h;cases hx:(x == n) with
  | true =>
   rw [hx] at h;have:x=n:=by simpa using hx
   subst this;cases h;exact aF
  | false =>
   rw [hx] at h;exact aj _ (lookup_mem h)
theorem zbj {env:Env}:∀ {names:List (Str×NameKind)} {x:Str},names.lookup x=some .free →
  (names.map fun (n,k)=>if (k == bS && env.scope.kind == .function && env.kindOf n == some .cell) then (n,cU) else (n,k)).lookup x=some .cell ∨
  (names.map fun (n,k)=>if (k == bS && env.scope.kind == .function && env.kindOf n == some .cell) then (n,cU) else (n,k)).lookup x=some .free
 | [],_,h=>by simp at h
 | (n,k) :: r,x,h=>by
  have ih:=@zbj env r x;simp only [aR];cases hx:x == n with
  | true =>
   simp only [bu,hx] at h; cases h;by_cases hc:(bS == bS && env.scope.kind == .function && env.kindOf n == some .cell)=true
   ·rw [if_pos hc]; left; simp only [bu,hx]
   ·rw [if_neg hc]; right; simp only [bu,hx]
  | false =>
   simp only [bu,hx] at h; rcases jP ((k == bS && env.scope.kind == .function && env.kindOf n == some .cell)=true) with hc | hc
   ·exact (by rw [if_pos hc]; simp only [bu,hx]; exact ih h)
   ·exact (by rw [if_neg hc]; simp only [bu,hx]; exact ih h)
theorem zcV {env:Env}:∀ {names:List (Str×NameKind)} {x:Str},
  ((names.map fun (n,k)=>if (k == bS && env.scope.kind == .function && env.kindOf n == some .cell) then (n,cU) else (n,k)).lookup x=some .cell ∨
  (names.map fun (n,k)=>if (k == bS && env.scope.kind == .function && env.kindOf n == some .cell) then (n,cU) else (n,k)).lookup x=some .free) →
  names.lookup x=some .free∨names.lookup x=some .cell
 | [],_,h=>by simp at h
 | (n,k) :: r,x,h=>by
  have ih:=@zcV env r x;simp only [aR] at h;cases hx:x == n with
  | true =>
   rcases jP ((k == bS && env.scope.kind == .function && env.kindOf n == some .cell)=true) with hc | hc
   ·have hk:k = .free:=by
     simp only [dQ] at hc; simpa using hc.1.1
    subst hk;exact .inl (by simp only [bu,hx])
   ·rw [if_neg hc] at h;simp only [bu,hx] at h ⊢;rcases h with h | h
    ·exact .inr h
    ·exact .inl h
  | false =>
   rcases jP ((k == bS && env.scope.kind == .function && env.kindOf n == some .cell)=true) with hc | hc
   ·rw [if_pos hc] at h;simp only [bu,hx] at h ⊢;exact ih h
   ·rw [if_neg hc] at h;simp only [bu,hx] at h ⊢;exact ih h
theorem zfn:∀ (names:List (Str×NameKind)) (n:Nat) (acc:List (Str×Addr)) (x:Str),(x,cU)∉names→(cellsFrom n names acc).lookup x=acc.lookup x
 | [],_,_,_,_=>rfl
 | (y,k) :: r,n,acc,x,h=>by
  have hr:(x,cU)∉r:=fun z=>h (aj _ z)
  unfold cellsFrom;split
  ·rename_i hk
   have vw:k = .cell:=by simpa using hk
   rw [zfn r _ _ x hr,bu];cases hx:(x == y) with
   | true =>
    have:x=y:=by simpa using hx
    subst this;subst vw;exact absurd aF h
   | false=>rfl
  ·exact zfn r _ _ x hr
theorem zfo:∀ (names:List (Str×NameKind)) (n:Nat) (acc:List (Str×Addr)) (x:Str),(x,cU)∈names→∃ c,(cellsFrom n names acc).lookup x=some c∧n≤c
 | (y,k) :: r,n,acc,x,h=>by
  by_cases hr:(x,cU)∈r
  ·unfold cellsFrom;split
   ·obtain⟨c,e,l⟩:=zfo r (n+1) ((y,n) :: acc) x hr;exact⟨c,e,#[O]⟩
   ·exact zfo r n acc x hr
  ·rcases au.mp h with e | e
   ·cases e;unfold cellsFrom;rw [if_pos #[D],zfn r _ _ _ hr,bu,beq_self_eq_true];exact⟨n,rfl,ah _⟩
   ·exact absurd e hr
structure CO (h:Heap) (lo:Nat) (old cs:List (Str×Addr)):Prop where
 each:∀ x c,cs.lookup x=some c→(h.IsCell c none∧lo≤c)∨(old.lookup x=some c∧c < lo)
 inj:∀ x y c,cs.lookup x=some c→cs.lookup y=some c→x=y
theorem zj7 {lo:Nat} {old:List (Str×Addr)}:∀ (names:List (Str×NameKind)) (h:Heap) (acc:List (Str×Addr)),CO h lo old acc→lo≤h.objs.size→CO (pushCells h names) lo old (cellsFrom h.objs.size names acc)
 | [],_,_,a,_=>a
 | (y,k) :: r,h,acc,a,hl=>by
  unfold pushCells cellsFrom;split
  ·have lt:∀ x c,acc.lookup x=some c→c < h.objs.size:=fun x c e=>(a.each x c e).elim (fun z=>z.1.lt) fun z=>aU z.2 hl
   have key:∀ x c,List.lookup x ((y,h.objs.size) :: acc)=some c→(x=y∧c=h.objs.size)∨acc.lookup x=some c:=fun x c e=>by
    rw [bu] at e;cases hx:(x == y) with
    | true =>
     rw [hx] at e;exact .inl ⟨by simpa using hx,(aG e).symm⟩
    | false =>
     rw [hx] at e;exact .inr e
   have:=zj7 (lo:=lo) (old:=old) r (h.push { cls:=.type "cell",data:=.cell none }) ((y,h.objs.size) :: acc) ⟨fun x c e=>?_,fun x z c e1 e2=>?_⟩ (by rw [bi]; lia)
   ·rw [bi] at this;exact this
   ·rcases key x c e with ⟨_,rfl⟩ | e
    ·exact .inl ⟨⟨_,aC _ rfl,rfl⟩,hl⟩
    ·rcases a.each x c e with z | z
     ·exact .inl ⟨z.1.keeps fun b o e=>af _ e,z.2⟩
     ·exact .inr z
   ·rcases key x c e1 with ⟨p1,q1⟩ | f1 <;> rcases key z c e2 with ⟨p2,q2⟩ | f2
    ·exact p1.trans p2.symm
    ·exact absurd (lt _ _ f2) (by rw [q1]; exact cm _)
    ·exact absurd (lt _ _ f1) (by rw [q2]; exact cm _)
    ·exact a.inj x z c f1 f2
  ·exact zj7 r h acc a hl
theorem ziM {M:Model} {A:Around} {E:Value→Shared→Prop} {s:Shared} {scope:Scope} {globals:Addr} {closure:List (Str×Addr)} {qual:Str} {env:Env} {Q:Env→Shared→Prop}
  (h:Q (newEnv scope s.heap.objs.size globals (cellsFrom (s.heap.objs.size+1) scope.names closure) qual none .none (some env) builtinsNs) { s with heap:=pushCells (s.heap.push { cls:=.type "dict",data:=.dict #[] }) scope.names }) :
  wpAny M A (newFunctionEnv scope globals closure [] qual none .none (some env)) Q E s:=by
 (simp only [newFunctionEnv,jQ,if_true])
 (refine aa (wpAny_alloc ?_))
 (refine aa (wpAny_layCells _ (fun name kind cells=>by cases hkc:kind == cU <;> simp [hkc]) _ _ _ _ ?_))
 rw [show ({ s with heap:=s.heap.push { cls:=.type "dict",data:=.dict #[] } }:Shared).heap.objs.size=s.heap.objs.size+1 from bi ..]
 (exact aa (ai (ai h)))
abbrev zM (X:Cx) (N':List Str) (scope:Scope) (s₃:Shared) (H₃:Hp) (ex:List Addr) (lM:List (Addr×Obj)):Cx :=
 { X with N:=N',s₀:=s₃,H₀:=H₃,env:=compEnvC scope (cellsFrom (s₃.heap.objs.size+1) scope.names (zao X.env.cells scope.names [])) s₃.heap.objs.size X.env,outer:=X.stack,stack:=X.stack,ex:=ex,fn:=fun x=>scope.names.lookup x == some .cell,pn:=X.pn++lM,xe:=fun _ _=>False }
def zg2 (ifs:List Expr) (env:Env):Sem Bool :=
 forIn ifs true fun c r=>if r=true then do let ok ← isTrue c env (eval c env); pure (cA ok) else pure (cA r)
def zdC (X:Cx) (ifs:List Expr) (t:TT):Prop :=
 ∀ (lM:List (Addr×Obj)) (s:Shared) (σ:St) (H:Hp) (Q:Bool→Hp→Prop),Inv X lM σ H s→t σ H Q→wpAny (model X.prog X.w) X.A (zg2 ifs X.env) (TP X lM σ Q) X.xe s
def zm8:TT:=fun _ H Q=>Q true H
theorem z8 {X:Cx}:zdC X [] zm8:=fun _ _ _ H _ I h=>ai ⟨H,I,h⟩
theorem zbd {X:Cx} {c:Expr} {t:TT} (h:PT X c t):zdC X [c] t:=by
 intro lM s σ H Q I hw;unfold zg2;rw [dD];simp only [if_true];exact aa (aa (thn (h lM s σ H _ I hw) fun b s1 q=>ai (ai q)))
structure CompSc (X:Cx) (N':List Str) (ix:List (Option Nat)) (scope:Scope):Prop where
 kind:scope.kind = .function
 cells:∀ y∈scope.names,y.2 = .cell→scope.names.lookup y.1=some .cell
 names:∀ y∈scope.names,y.2 = .local→scope.names.lookup y.1=some .local
 free:∀ y∈scope.names,y.2 = .free→X.env.kindOf y.1=some .cell∨X.env.kindOf y.1=some .free
 len:N'.length=ix.length
 cap:∀ j i:Nat,ix[j]? = some (some i)→∃ x,N'[j]? = some x∧X.N[i]? = some x∧scope.names.lookup x=some .free
def zhT (yx:Scope) (oN N':List Str) (ix:List (Option Nat)) (scope:Scope):Bool :=
 (scope.kind == .function) && (scope.names.all fun y=>y.2 != .cell || scope.names.lookup y.1 == some .cell) && (scope.names.all fun y=>y.2 != .local || scope.names.lookup y.1 == some .local) &&
 (scope.names.all fun y=>y.2 != .free || (yx.names.lookup y.1 == some .cell || yx.names.lookup y.1 == some .free)) && (N'.length == ix.length) &&
 ((bg ix.length).all fun j=>match ix[j]? with
  | some (some i)=>(match N'[j]? with
   | some x=>oN[i]? == some x && scope.names.lookup x == some .free
   | none=>false)
  | _=>true)
theorem CompSc.of {X:Cx} {N':List Str} {ix:List (Option Nat)} {scope:Scope} (yx:Scope) (oN:List Str) (h1:X.env.scope=yx) (h2:X.N=oN) (hb:zhT yx oN N' ix scope=true):CompSc X N' ix scope:=by
 unfold zhT at hb;simp only [dQ,bH] at hb;obtain⟨⟨⟨⟨⟨a,b⟩,c⟩,d⟩,e⟩,f⟩:=hb;refine⟨?_,fun y hy hl=>?_,fun y hy hl=>?_,fun y hy hf=>?_,by simpa using e,fun j i hj=>?_⟩
 ·revert a
  cases scope.kind <;> first | (intro _; rfl) | (intro h; exact absurd h #[D])
 ·have:=b y hy;rw [hl] at this;simpa using this
 ·have:=c y hy;rw [hl] at this;simpa using this
 ·have:=d y hy;rw [hf] at this;have e1:X.env.kindOf y.1=yx.names.lookup y.1:=by rw [← h1]; rfl
  rw [e1];simpa using this
 ·have ml:j < ix.length:=(ak.mp hj).1;have:=f j (bF.mpr ml);rw [hj] at this;cases hN:N'[j]? with
  | none =>
   rw [hN] at this;simp at this
  | some x =>
   rw [hN] at this;refine⟨x,rfl,?_⟩;rw [h2];simpa using this
def zcW (ix:List (Option Nat)) (σ:St):St:=ix.map fun o=>match o with
 | none=>none
 | some i=>(σ[i]?).join
theorem Inv.track {X:Cx} {lM:List (Addr×Obj)} {σ:St} {H:Hp} {s:Shared} {D:Addr} {o:HO} (I:Inv X lM σ H s) (hn:H D=none) (hs:X.s₀.heap.objs.size≤D) (hL:X.env.locals≠D)
  (hC:∀ x c,X.env.cells.lookup x=some c→c≠D) (hp:∀ p∈X.pn++lM,p.1≠D) (ok:zab X.prog X.w (lP H D o) s.heap D o):Inv X lM σ (lP H D o) s:=by
 have ne:∀ b u,H b=some u→b≠D:=fun b u e=>zw e hn
 refine⟨I.ok,I.os,I.bare,⟨I.base.keep,I.base.slot,fun b u e n hx=>?_,I.base.there,fun b xs e=>?_,fun b u xs e=>?_,fun b ps e=>?_⟩,I.loc,I.cell,?_,fun x c e=>?_,fun p pB=>?_,fun b u e=>?_,I.len⟩
 ·have:b≠D:=aZ (aU (aD e) hs);rw [zp this];exact I.base.free b u e n hx
 ·have:=I.base.tups b xs e;rw [zp (ne b _ this)];exact this
 ·have:=I.base.frzs b u xs e;rw [zp (ne b _ this)];exact this
 ·obtain⟨more,q⟩:=I.base.tbls b ps e;exact⟨more,by rw [zp (ne b _ q)]; exact q⟩
 ·rw [zp hL];exact I.free
 ·rw [zp (hC x c e)];exact I.freeC x c e
 ·obtain⟨a1,a2,a3⟩:=I.pin p pB;exact⟨a1,by rw [zp (hp p pB)]; exact a2,a3⟩
 ·by_cases hb:b=D
  ·subst hb;rw [ze] at e;cases e;exact ok
  ·rw [zp hb] at e;exact (I.hok b u e).stay (fun c v _ q=>q) (fun c q=>by rw [zp (ne c _ q)]; exact q) fun c xs q=>by rw [zp (ne c _ q)]; exact q
def cGo (g:TG) (ts:TT) (te:TE) (σ0:St) (J:It) (Q:VK) (H1:Hp):Prop :=
 ∃ W:Nat→Nat→List V→Hp→Prop,(∃ m,W 0 m [] H1)∧∀ i m ys H,W i m ys H →
  (J.stop i H∧∀ D,H D=none→Q (.ref D) (lP H D (.lst ys))) ∨
  (J.go i H∧∃ N:List V→Hp→Prop,(∀ pD H',N pD H'→∃ m',m' < m∧W (i+1) m' pD H')∧∀ x H',J.yld i H x H'→g x σ0 H' fun σ2 H2=>ts σ2 H2 fun b H3 =>
   if b=true then te σ2 H3 fun y H4=>ys.length < sizeLine∧N (ys++[y]) H4 else N ys H3)
def zmy (ix:List (Option Nat)) (wi:TI) (g:TG) (ts:TT) (te:TE):TE:=fun σ H Q=>wi σ H fun J H1=>cGo g ts te (zcW ix σ) J Q H1
theorem zcX {J:It} {n:Nat} {g:TG} {ts:TT} {te:TE} {σ0:St} {Q:VK} {H:Hp} (Pv:Nat→List V→Hp→Prop) (h0:Pv 0 [] H) (vT:∀ i ys H,i < n→Pv i ys H→J.go i H) (oE:∀ ys H,Pv n ys H→J.stop n H)
  (hs:∀ i x ys H H',i < n→Pv i ys H→J.yld i H x H'→g x σ0 H' fun σ2 H2=>ts σ2 H2 fun b H3=>if b=true then te σ2 H3 fun y H4=>ys.length < sizeLine∧Pv (i+1) (ys++[y]) H4 else Pv (i+1) ys H3)
  (hd:∀ ys H D,Pv n ys H→H D=none→Q (.ref D) (lP H D (.lst ys))):cGo g ts te σ0 J Q H:=by
 refine⟨fun i m ys H=>m=n - i∧i≤n∧Pv i ys H,⟨n,#[M],bo _,h0⟩,?_⟩;rintro i m ys H ⟨rfl,hi,p⟩;by_cases ml:i < n
 ·exact .inr ⟨vT i ys H ml p,Pv (i+1),fun pD H' p'=>⟨n - (i+1),#[O],rfl,ml,p'⟩,fun x H' y=>hs i x ys H H' ml p y⟩
 ·have e:i=n:=by lia
  subst e;exact .inl ⟨oE ys H p,fun D hD=>hd ys H D p hD⟩
theorem zm9 {J:It} {n:Nat} {g:TG} {tb:TS} {D:Ends} {σ:St} {H:Hp} (Pv:Nat→St→Hp→Prop) (h0:Pv 0 σ H) (vT:∀ i σ H,i < n→Pv i σ H→J.go i H) (oE:∀ σ H,Pv n σ H→J.stop n H)
  (hs:∀ i x σ H H',i < n→Pv i σ H→J.yld i H x H'→g x σ H' fun σ2 H2=>tb { D with nx:=Pv (i+1),ct:=Pv (i+1),bk:=D.nx } σ2 H2) (hd:∀ σ H,Pv n σ H→D.nx σ H) :
  ∃ W:Nat→Nat→St→Hp→Prop,(∃ m,W 0 m σ H)∧∀ i m σ H,W i m σ H →
   (J.stop i H∧D.nx σ H)∨(J.go i H∧∃ N:St→Hp→Prop,(∀ σ' H',N σ' H'→∃ m',m' < m∧W (i+1) m' σ' H')∧∀ x H',J.yld i H x H'→g x σ H' fun σ2 H2=>tb { D with nx:=N,ct:=N,bk:=D.nx } σ2 H2):=by
 refine⟨fun i m σ H=>m=n - i∧i≤n∧Pv i σ H,⟨n,#[M],bo _,h0⟩,?_⟩;rintro i m σ H ⟨rfl,hi,p⟩;by_cases ml:i < n
 ·exact .inr ⟨vT i σ H ml p,Pv (i+1),fun σ' H' p'=>⟨n - (i+1),#[O],rfl,ml,p'⟩,fun x H' y=>hs i x σ H H' ml p y⟩
 ·have e:i=n:=by lia
  subst e;exact .inl ⟨oE σ H p,hd σ H p⟩
end L2
end
section
namespace L2
open PySem
abbrev Lp (J:It) (g:TG) (tb:TS) (D:Ends) (σ:St) (H:Hp):Prop:=∃ W:Nat→Nat→St→Hp→Prop,(∃ m,W 0 m σ H)∧∀ i m σ H,W i m σ H→(J.stop i H∧D.nx σ H)∨(J.go i H∧∃ N:St→Hp→Prop,(∀ σ' H',N σ' H'→∃ m',m' < m∧W (i+1) m' σ' H')∧∀ x H',J.yld i H x H'→g x σ H' fun σ2 H2=>tb { D with nx:=N,ct:=N,bk:=D.nx } σ2 H2)
abbrev Ends.l (D:Ends) (Pv:Nat→St→Hp→Prop) (i:Nat):Ends:={ D with nx:=Pv (i+1),ct:=Pv (i+1),bk:=D.nx }
section
variable {g:TG} {tb:TS} {D:Ends} {σ:St} {H:Hp} (Pv:Nat→St→Hp→Prop) {n:Nat} {K:ag} {a:Addr} {xs:List V}
theorem zhU {J:It} (h0:Pv 0 σ H) (vT:∀ i σ H,i < n→Pv i σ H→J.go i H) (oE:∀ σ H,Pv n σ H→J.stop n H) (hs:let N:=D.l Pv; let T:=tb; ∀ i x σ H H',i < n→Pv i σ H→J.yld i H x H'→g x σ H' (T (N i))) (hd:∀ σ H,Pv n σ H→D.nx σ H):Lp J g tb D σ H:=zm9 Pv h0 vT oE hs hd
theorem zak (h0:Pv 0 σ H) (hl:∀ i σ H,i≤xs.length→Pv i σ H→lN K H a xs) (hs:let N:=D.l Pv; let T:=tb; ∀ i x σ H,xs[i]? = some x→Pv i σ H→g x σ H (T (N i))) (hd:∀ σ H,Pv xs.length σ H→D.nx σ H):Lp (Itl K a) g tb D σ H:=zjU Pv h0 hl hs hd
theorem zj8 (h0:Pv 0 σ H) (hl:∀ i σ H,i≤xs.length→Pv i σ H→lX K H a xs) (hs:let N:=D.l Pv; let T:=tb; ∀ i x σ H,xs[i]? = some x→Pv i σ H→g x σ H (T (N i))) (hd:∀ σ H,Pv xs.length σ H→D.nx σ H):Lp (Itt K a) g tb D σ H:=zlu Pv h0 hl hs hd
theorem za7 {lo:Int} (h0:Pv 0 σ H) (hs:let N:=D.l Pv; let T:=tb; ∀ i σ H,i < n→Pv i σ H→g (.int (lo+i)) σ H (T (N i))) (hd:∀ σ H,Pv n σ H→D.nx σ H):Lp (Itr lo n) g tb D σ H:=ziF Pv h0 hs hd
end
theorem z9 {J:It} {n:Nat} {g:TG} {ts:TT} {te:TE} {σ0:St} {Q:VK} {H:Hp} (Pv:Nat→List V→Hp→Prop) (h0:Pv 0 [] H) (vT:∀ i ys H,i < n→Pv i ys H→J.go i H) (oE:∀ ys H,Pv n ys H→J.stop n H)
  (hs:let S:=σ0; let T:=ts; let E:=te; ∀ i x ys H H',i < n→Pv i ys H→J.yld i H x H'→g x S H' fun σ2 H2=>T σ2 H2 fun b H3=>if b=true then E σ2 H3 fun y H4=>ys.length < sizeLine∧Pv (i+1) (ys++[y]) H4 else Pv (i+1) ys H3)
  (hd:∀ ys H D,Pv n ys H→H D=none→Q (.ref D) (lP H D (.lst ys))):cGo g ts te σ0 J Q H:=zcX Pv h0 vT oE hs hd
end L2
end
section
namespace L2
end L2
end
section
namespace L2
open PySem PySem.Spec PyProof.Rows
abbrev TM:=List V→St→Hp→(List V→Hp→Prop)→Prop
abbrev zdD (lO:List Value) (nn:Nat):Obj:={ cls:=.type "list",data:=.seq lO.toArray nn }
structure AccAt (Y:Cx) (lM:List (Addr×Obj)) (H:Hp) (s:Shared) (D:Addr) (ys:List V) (lO:List Value) (nn:Nat):Prop where
 fp:zcd Y lM H D
 here:s.heap.get? D=some (zdD lO nn)
 vals:zG ys lO
 len:ys.length≤sizeLine
def zfp (js:List Nat) (σ:St):Prop:=∀ j∈js,∀ v,σ[j]?≠some (some v)
def Kp (js:List Nat) (σ σ2:St):Prop:=σ2.length=σ.length∧∀ j,j∉js→σ2[j]? = σ[j]?
theorem Kp.refl {js:List Nat} {σ:St}:Kp js σ σ:=⟨rfl,fun _ _=>rfl⟩
theorem Kp.set {js:List Nat} {σ σ2:St} {i:Nat} {v:Option V} (hi:i∈js) (h:Kp js σ σ2):Kp js σ (σ2.set i v):=by
 refine⟨by rw [eU]; exact h.1,fun j hj=>?_⟩;rw [cN (fun z=>hj (by rw [← z]; exact hi))];exact h.2 j hj
def GS (js:List Nat) (g:TG):Prop:=∀ (σ σ1:St) (x:V) (H:Hp) (Q:St→Hp→Prop),Kp js σ σ1→g x σ1 H Q→g x σ1 H fun σ2 H2=>Kp js σ σ2∧Q σ2 H2
def GSs (js:List Nat) (g:TGs):Prop:=∀ (σ σ1:St) (xs:List V) (H:Hp) (Q:St→Hp→Prop),Kp js σ σ1→g xs σ1 H Q→g xs σ1 H fun σ2 H2=>Kp js σ σ2∧Q σ2 H2
theorem zhV {js:List Nat} {i:Nat} (hi:i∈js):GS js (zaQ i):=fun σ σ1 x H Q hw h=>⟨hw.set hi,h⟩
theorem zhW {js:List Nat}:GSs js ziD:=fun σ σ1 xs H Q hw h=>⟨h.1,hw,h.2⟩
theorem zd6 {js:List Nat} {i:Nat} {u:TGs} (hi:i∈js) (h2:GSs js u):GSs js (zcz (zaQ i) u):=fun σ σ1 xs H Q hw h=>by
 obtain⟨v,r,e,h⟩:=h;exact⟨v,r,e,h2 σ _ r H Q (hw.set hi) h⟩
theorem zj9 {js:List Nat} {K:ag} {n:Nat} {t:TGs} (h:GSs js t):GS js (zgV K n t):=fun σ σ1 x H Q hw hg=>by
 obtain⟨a,xs,e,hq,hl,hg⟩:=hg;exact⟨a,xs,e,hq,hl,h σ σ1 xs H Q hw hg⟩
theorem Inv.fewer {X:Cx} {lM o3:List (Addr×Obj)} {σ:St} {H:Hp} {s:Shared} (I:Inv X lM σ H s) (h:∀ p∈o3,p∈lM):Inv X o3 σ H s :=
 I.pins_of fun p hp=>I.pin p (aI _ (h p hp))
section
variable {Y:Cx} {lM:List (Addr×Obj)} {σ:St} {H:Hp} {s:Shared} {D:Addr} {ys:List V} {lO:List Value} {nn:Nat}
theorem AccAt.pin (a:AccAt Y lM H s D ys lO nn) (I:Inv Y lM σ H s):Inv Y (lM++[(D,zdD lO nn)]) σ H s :=
 I.pins_of fun p hp=>by
  rcases (aP.mp hp) with hp | hp
  ·exact I.pin p (aI _ hp)
  ·obtain rfl:p=(D,zdD lO nn):=by simpa using hp
   obtain⟨a0,a1,a2,_⟩:=a.fp;exact⟨a.here,a0,a1,a2,fun v z=>by cases z⟩
theorem AccAt.back {o3:List (Addr×Obj)} {σ':St} {H':Hp} {s':Shared} (a:AccAt Y lM H s D ys lO nn) (I:Inv Y o3 σ' H' s') (hm:(D,zdD lO nn)∈o3):AccAt Y lM H' s' D ys lO nn:=by
 have p:=I.pin (D,zdD lO nn) (aI _ hm);exact⟨⟨p.2.1,a.fp.2⟩,p.1,a.vals,a.len⟩
end
def PM (Y:Cx) (D:Addr) (js:List Nat) (mk:Sem Fin→Sem Fin) (tm:TM):Prop :=
 ∀ (last:Sem Fin) (lM:List (Addr×Obj)) (s:Shared) (σ:St) (H:Hp) (ys:List V) (lO:List Value) (nn:Nat) (Q:List V→Hp→Prop) (Φ:Fin→Shared→Prop),Inv Y lM σ H s→AccAt Y lM H s D ys lO nn→zfp js σ→tm ys σ H Q →
  (∀ (s':Shared) (pD:List V) (its':List Value) (xD:Nat) (H':Hp),Inv Y lM σ H' s'→AccAt Y lM H' s' D pD its' xD→Q pD H'→wpAny (model Y.prog Y.w) Y.A last Φ (fun _ _=>False) s') →
  wpAny (model Y.prog Y.w) Y.A (mk last) Φ (fun _ _=>False) s
def zeY (elt:Expr) (acc:Value) (env:Env) (last:Sem Fin):Sem Fin:=(eval elt env >>= fun x=>call (.builtin "list.append") [acc,x] >>= fun _=>pure ()) >>= fun _=>last
def zhX (e iter:Expr) (d:Nat) (acc:Value) (env:Env) (last:Sem Fin):Sem Fin :=
 eval iter env >>= fun x=>standAt iter.pos >>= fun _=>foldedSetIterable iter env x >>= fun x=>holding [x] (pyIter x) >>= fun xu=>runOwn (.compStart e d xu acc env) env >>= fun _=>last
def zka (te:TE):TM:=fun ys σ H Q=>te σ H fun y H4=>ys.length < sizeLine∧Q (ys++[y]) H4
def cIn (g:TG) (ts:TT) (tm:TM) (σ:St) (J:It) (Q:List V→Hp→Prop) (ys:List V) (H1:Hp):Prop :=
 ∃ W:Nat→Nat→List V→Hp→Prop,(∃ m,W 0 m ys H1)∧∀ i m ys H,W i m ys H →
  (J.stop i H∧Q ys H) ∨
  (J.go i H∧∃ N:List V→Hp→Prop,(∀ pD H',N pD H'→∃ m',m' < m∧W (i+1) m' pD H')∧∀ x H',J.yld i H x H'→g x σ H' fun σ2 H2=>ts σ2 H2 fun b H3 =>
   if b=true then tm ys σ2 H3 N else N ys H3)
def zkb (wi:TI) (g:TG) (ts:TT) (tm:TM):TM:=fun ys σ H Q=>wi σ H fun J H1=>cIn g ts tm σ J Q ys H1
def zg3 (ix:List (Option Nat)) (wi:TI) (g:TG) (ts:TT) (tm:TM):TE:=fun σ H Q=>wi σ H fun J H1=>cIn g ts tm (zcW ix σ) J (fun ys H'=>∀ D,H' D=none→Q (.ref D) (lP H' D (.lst ys))) [] H1
theorem thx {α:Type} {X:Cx} {m:Sem α} {P Q:α→Shared→Prop} {E:Value→Shared→Prop} {s:Shared} (hx:X.xe=fun _ _=>False) (h:wpAny (model X.prog X.w) X.A m P X.xe s) (k:∀ a s',P a s'→Q a s'):wpAny (model X.prog X.w) X.A m Q E s :=
 bZ h k fun _ _ z=>by rw [hx] at z; exact z.elim
theorem zg4 {Y:Cx} {D:Addr} {elt:Expr} {te:TE} (hx:Y.xe=fun _ _=>False) (he:PE Y elt te):PM Y D [] (zeY elt (.ref D) Y.env) (zka te):=by
 intro last lM s σ H ys lO nn Q Φ I a no h k;unfold zeY;refine aa (aa (thx hx (he (lM++[(D,zdD lO nn)]) s σ H _ (a.pin I) h) fun yv s1 ⟨y,H1,I1,r1,hz,q1⟩=>aa ?_));have a1:=a.back I1 (aI _ aF);have J1:Inv Y lM σ H1 s1:=I1.fewer fun p hp=>aS _ hp
 have xE:=a1.vals.length;refine eJ jO ⟨_,a1.here,rfl⟩ jw (jd _ _) (j6 D lO.toArray nn yv (by rw [am]; lia)) ⟨a1.here,?_⟩;refine ai ?_;have q:=ky a1.here (·.push yv);have k10:∀ b o,b≠D→s1.heap.get? b=some o→(s1.heap.update D (c7 (·.push yv))).get? b=some o:=fun b o hb e=>(fB s1.heap (c7 (·.push yv)) (dk hb)).trans e
 obtain⟨b0,b1,b2,b3,b4,b5⟩:=a1.fp;have I11:Inv Y lM σ H1 { s1 with heap:=s1.heap.update D (c7 (·.push yv)) }:=J1.turned (t':=s1.toks) k10 b0 b1 b3 b4 b5;have e1:lO.toArray.push yv=(lO++[yv]).toArray:=by simp
 rw [e1] at q;refine k _ (ys++[y]) (lO++[yv]) _ H1 I11 ⟨a1.fp,q,a1.vals.append (.cons r1 .nil),?_⟩ q1;rw [aB,eB];lia
section
variable {Y:Cx} {D:Addr} {js js':List Nat} {elt:Expr} {gens:List Comprehension} {scope:Scope} {pos:Pos} {d:Nat} {tg:Expr} {ifs:List Expr} {p:Pos} {mk:Sem Fin→Sem Fin} {g:TG} {ts:TT} {tm:TM}
def zb1 (tg:Expr) (ifs:List Expr) (p:Pos) (mk:Sem Fin→Sem Fin) (c:Code) (it:Value) (env:Env):Sem Fin :=
 standAt p >>= fun _=>pyNext it >>= fun r=>match r with
  | none=>pure (.done .next)
  | some v=>letOwnedTupleGo tg it v >>= fun _=>assign tg env v >>= fun _=>zg2 ifs env >>= fun ok=>if ok=true then mk (again c) else again c
theorem zhY (hc:Y.calm=true) (hx:Y.xe=fun _ _=>False) (vU:GS js g) (pE:∀ j∈js,j∉js') (hg:PG Y tg g) (ht:zdC Y ifs ts) (hm:PM Y D js' mk tm)
  (oh:∀ it,compTurn (.ListComp elt gens scope pos) d it (.ref D) Y.env=zb1 tg ifs p mk (.compLoop (.ListComp elt gens scope pos) d it (.ref D) Y.env) it Y.env)
  {lM:List (Addr×Obj)} {σ:St} {H2:Hp} {s2:Shared} {it:Addr} {fp:List Addr} {tn:Nat→Heap→Prop} {J:It} {Q:List V→Hp→Prop} {R:Result→Shared→Prop} {ys:List V} {lO:List Value} {nn:Nat}
  (I2:Inv Y lM σ H2 s2) (a2:AccAt Y lM H2 s2 D ys lO nn) (no:zfp (js++js') σ) (T:Turn Y.prog Y.w Y.K tg J fp it tn) (mG:tn 0 s2.heap) (f2:∀ b∈fp,zcd Y lM H2 b) (fD:∀ b∈fp,b≠D) (q:cIn g ts tm σ J Q ys H2)
  (hR:∀ (s':Shared) (pD:List V) (its':List Value) (xD:Nat) (H':Hp),Inv Y lM σ H' s'→AccAt Y lM H' s' D pD its' xD→Q pD H'→R (.ok .next) s') :
  codeAny (model Y.prog Y.w) Y.A (.compLoop (.ListComp elt gens scope pos) d (.ref it) (.ref D) Y.env) R s2:=by
 obtain⟨W,⟨m0,w0⟩,turn⟩:=q;have yy:∀ {H':Hp} {lO:List Value} {nn:Nat},(∀ b∈fp,H' b=none)→∀ b∈fp,zcd Y (lM++[(D,zdD lO nn)]) H' b:=fun {H' lO nn} hn b hb=>by
  obtain⟨_,a1,a2,a3,a4,a5⟩:=f2 b hb;refine⟨hn b hb,a1,a2,a3,a4,fun p hp=>?_⟩;rcases (aP.mp hp) with hp | hp
  ·exact a5 p (aS _ hp)
  ·rcases (aP.mp hp) with hp | hp
   ·exact a5 p (aI _ hp)
   ·obtain rfl:p=(D,zdD lO nn):=by simpa using hp
    exact (fD b hb).symm
 refine codeAny_loop rfl (fun n s'=>∃ i ys H' lO nn,Inv Y lM σ H' s'∧tn i s'.heap∧(∀ b∈fp,H' b=none)∧AccAt Y lM H' s' D ys lO nn∧W i n ys H') ?_ m0
  ⟨0,ys,H2,lO,nn,I2,mG,fun b hb=>(f2 b hb).1,a2,w0⟩
 rintro n s5 ⟨i,ys,H5,lO,nn,I5,yw,fr5,a5,w5⟩;show wpAny _ Y.A ((compTurn (.ListComp elt gens scope pos) d (.ref it) (.ref D) Y.env).onRaise (fun x=>do noteFrame x Y.env; theTreesLotGoes x)) _ _ s5;refine wpAny_noted ?_;rw [oh];unfold zb1;have I5p:=a5.pin I5
 (refine aa (eM (aa ?_)))
 rcases turn i n ys H5 w5 with ⟨stop,qn⟩ | ⟨go,N,hN,step⟩
 ·refine bZ (T.done Y rfl rfl rfl hc i _ s5 _ H5 (fun _ _=>False) I5p (yy fr5) yw stop) (fun r s6 ⟨hr,I6⟩=>?_) fun _ _ z=>z.elim
  subst hr;exact ai (hR s6 ys lO nn H5 (I6.fewer fun p hp=>aS _ hp) (a5.back I6 (aI _ aF)) qn)
 ·refine bZ (T.item Y rfl rfl rfl hc i _ s5 _ H5 (fun _ _=>False) I5p (yy fr5) yw go) (fun r s6 ⟨u,hr,h6⟩=>?_) fun _ _ z=>z.elim
  subst hr;refine aa (bZ h6 (fun _ s7 ⟨x,H7,I7,r7,y7,CA,fr7⟩=>?_) fun _ _ z=>z.elim);have I7':=I7.pinned (yy fr7) (T.obj _ _ CA);refine aa (thx hx (hg _ s7 _ H7 x u _ I7' r7 (vU σ σ x H7 _ Kp.refl (step x H7 y7))) fun _ s8 ⟨σ8,H8,I8,kp,q8⟩=>?_);refine aa (thx hx (ht _ s8 σ8 H8 _ I8 q8) fun ok s9 ⟨H9,I9,q9⟩=>?_);have mD:(D,zdD lO nn)∈(lM++[(D,zdD lO nn)])++zce fp s7.heap:=aS _ (aI _ aF);have a9:=a5.back I9 mD;have K9:Inv Y (lM++zce fp s7.heap) σ8 H9 s9:=I9.fewer fun p hp=>(aP.mp hp).elim (fun z=>aS _ (aS _ z)) fun z=>aI _ z
  have wk:∀ (j:Nat) v,σ[j]? = some (some v)→σ8[j]? = some (some v):=fun j v e=>by
   have hj:j∉js:=fun z=>no j (aS _ z) v e
   rw [kp.2 j hj];exact e
  have back:∀ {H':Hp} {s':Shared},Inv Y (lM++zce fp s7.heap) σ8 H' s'→Inv Y lM σ H' s'∧tn (i+1) s'.heap∧∀ b∈fp,H' b=none:=fun {H' s'} I'=>by
   refine⟨(I'.fewer fun p hp=>aS _ hp).weak kp.1.symm wk,T.keep _ _ _ CA fun b hb o e=>(I'.pin (b,o) (aI _ (aI _ (zbY hb e)))).1,fun b hb=>?_⟩;obtain⟨o,e,d⟩:=T.obj _ _ CA b hb;exact (I'.pin (b,o) (aI _ (aI _ (zbY hb e)))).2.1
  cases ok with
  | false =>
   rw [if_neg aJ] at q9 ⊢;obtain⟨m',CB,w9⟩:=hN _ _ q9;obtain⟨b1,b2,b3⟩:=back K9;exact ai ⟨rfl,m',CB,i+1,ys,H9,lO,nn,b1,b2,b3,a9,w9⟩
  | true =>
   rw [if_pos rfl] at q9 ⊢;have a9':AccAt Y (lM++zce fp s7.heap) H9 s9 D ys lO nn:=by
    obtain⟨b0,b1,b2,b3,b4,b5⟩:=a9.fp;refine⟨⟨b0,b1,b2,b3,b4,fun p hp=>?_⟩,a9.here,a9.vals,a9.len⟩;rcases (aP.mp hp) with hp | hp
    ·exact b5 p (aS _ hp)
    ·rcases (aP.mp hp) with hp | hp
     ·exact b5 p (aI _ hp)
     ·exact fD _ (zeP hp).1
   have no':zfp js' σ8:=fun j hj v e=>by
    have qp:j∉js:=fun z=>pE j z hj
    rw [kp.2 j qp] at e;exact no j (aI _ hj) v e
   refine bZ (hm (again _) _ s9 σ8 H9 ys lO nn N (fun fin s'=>match fin with | .done f=>R (.ok f) s' | .again c'=>c'=_∧∃ m,m < n∧_) K9 a9' no' q9 fun s' pD its' xD H' I' a' n'=>?_) (fun _ _ z=>z) fun _ _ z=>z.elim
   obtain⟨m',CB,w'⟩:=hN _ _ n';obtain⟨b1,b2,b3⟩:=back I';obtain⟨c0,c1,c2,c3,c4,c5⟩:=a'.fp;refine ai ⟨rfl,m',CB,i+1,pD,H',its',xD,b1,b2,b3,⟨⟨c0,c1,c2,c3,c4,fun p hp=>?_⟩,a'.here,a'.vals,a'.len⟩,w'⟩;rcases (aP.mp hp) with hp | hp
   ·exact c5 p (aS _ hp)
   ·exact c5 p (aI _ (aS _ hp))
theorem zf2 {prog:Program} {w:World} {A:Around} {R:Result→Shared→Prop} {s:Shared} {iter:Expr} {it acc:Value} {env:Env} (hd:gens[d]? = some ⟨tg,iter,ifs,0⟩)
  (h0:codeAny (model prog w) A (.compLoop (.ListComp elt gens scope pos) d it acc env) R s)
  (h:wpAny (model prog w) A (pyIter it) (fun CC s'=>codeAny (model prog w) A (.compLoop (.ListComp elt gens scope pos) d CC acc env) R s') (fun _ _=>False) s) :
  codeAny (model prog w) A (.compStart (.ListComp elt gens scope pos) d it acc env) R s:=by
 refine codeAny_of_tree ?_;show wpAny _ _ ((compStart (.ListComp elt gens scope pos) d it acc env).onRaise (fun x=>do noteFrame x env; standAt theWindowsPlace)) _ _ s;refine wpAny_notedAt ?_;unfold compStart;have e1:(clausesOf (.ListComp elt gens scope pos))[d]? = some ⟨tg,iter,ifs,0⟩:=hd;rw [e1]
 (show wpAny _ _ (ask >>= _) _ _ s)
 (refine aa (wpAny_askSetting (wpAny_ite ?_)))
 split
 ·first
   | (exact aa (ai (ai ⟨rfl,h0⟩)))
   | (exact ai ⟨rfl,h0⟩)
 ·first
   | exact aa (cg (aa (eM (aa (bZ h (fun CC s' h'=>ai (And.intro rfl h')) fun _ _ x=>x.elim)))))
   | (refine aa (cg ?_); show wpAny _ _ (standAt iter.pos >>= _) _ _ s; exact aa (eM (aa (bZ h (fun CC s' h'=>ai (And.intro rfl h')) fun _ _ x=>x.elim))))
theorem zna {iter:Expr} {wi:TI} (hc:Y.calm=true) (hx:Y.xe=fun _ _=>False) (vU:GS js g) (pE:∀ j∈js,j∉js') (hi:PI Y tg iter wi) (hg:PG Y tg g) (ht:zdC Y ifs ts) (hm:PM Y D js' mk tm) (hd:gens[d]? = some ⟨tg,iter,ifs,0⟩)
  (oh:∀ it,compTurn (.ListComp elt gens scope pos) d it (.ref D) Y.env=zb1 tg ifs p mk (.compLoop (.ListComp elt gens scope pos) d it (.ref D) Y.env) it Y.env)
  (hs:∀ x,foldedSetIterable iter Y.env x=pure x:=by intro _; rfl) :
  PM Y D (js++js') (zhX (.ListComp elt gens scope pos) iter d (.ref D) Y.env) (zkb wi g ts tm):=by
 intro last lM s σ H ys lO nn Q Φ I a no h k;unfold zhX;refine aa (thx hx (hi (lM++[(D,zdD lO nn)]) s σ H _ (a.pin I) h) fun v s1 h1=>aa (eM (aa ?_)));rw [hs v];refine ai (aa (bK (thx hx h1 fun xu s2 h2=>?_)));obtain⟨it,fp,tn,J,H2,e,I2,T,mG,f2,q⟩:=h2;subst e;have a2:=a.back I2 (aI _ aF);have J2:Inv Y lM σ H2 s2:=I2.fewer fun p hp=>aS _ hp
 have CD:∀ b∈fp,zcd Y lM H2 b:=fun b hb=>by
  obtain⟨c0,c1,c2,c3,c4,c5⟩:=f2 b hb;refine⟨c0,c1,c2,c3,c4,fun p hp=>?_⟩;rcases (aP.mp hp) with hp | hp
  ·exact c5 p (aS _ hp)
  ·exact c5 p (aI _ (aS _ hp))
 have fD:∀ b∈fp,b≠D:=fun b hb=>((f2 b hb).2.2.2.2.2 (D,zdD lO nn) (aI _ (aI _ aF))).symm
 have loop:codeAny (model Y.prog Y.w) Y.A (.compLoop (.ListComp elt gens scope pos) d (.ref it) (.ref D) Y.env) (fun r s'=>match r with | .ok f=>wpAny (model Y.prog Y.w) Y.A last Φ (fun _ _=>False) s' | .error e=>cameBackBy (model Y.prog Y.w) Y.A Y.env (fun _ _=>False) e s') s2 :=
  zhY hc hx vU pE hg ht hm oh J2 a2 no T mG CD fD q fun s' pD its' xD H' I' a' q'=>k s' pD its' xD H' I' a' q'
 exact aa (wpAny_runOwn (zf2 hd loop (T.self _ 0 _ _ _ mG loop)))
end
section
variable {X:Cx} {elt tg iter:Expr} {ifs:List Expr} {gs:List Comprehension} {scope:Scope} {pos:Pos} {N':List Str} {ix:List (Option Nat)} {js js':List Nat} {g:TG} {ts:TT} {tm:TM} {mk:Addr→Env→Sem Fin→Sem Fin}
theorem zdp {lM:List (Addr×Obj)} {σ:St} {H2:Hp} {s2:Shared} {it:Addr} {fp:List Addr} {tn:Nat→Heap→Prop} {J:It} {Q:VK} {E:Value→Shared→Prop} {RR:Value→Addr→Result→Shared→Prop}
  (SC:CompSc X N' ix scope) (hc:X.calm=true) (vU:GS js g) (pE:∀ j∈js,j∉js') (vV:∀ j∈js++js',ix[j]? = some none)
  (hg:∀ s₃ H₃ ex lM,PG (zM X N' scope s₃ H₃ ex lM) tg g) (ht:∀ s₃ H₃ ex lM,zdC (zM X N' scope s₃ H₃ ex lM) ifs ts) (hm:∀ s₃ H₃ ex lM D,PM (zM X N' scope s₃ H₃ ex lM) D js' (mk D (zM X N' scope s₃ H₃ ex lM).env) tm)
  (oh:∀ it D env,compTurn (.ListComp elt (⟨tg,iter,ifs,0⟩ :: gs) scope pos) 0 it (.ref D) env=zb1 tg ifs iter.pos (mk D env) (.compLoop (.ListComp elt (⟨tg,iter,ifs,0⟩ :: gs) scope pos) 0 it (.ref D) env) it env)
  (I2:Inv X lM σ H2 s2) (T:Turn X.prog X.w X.K tg J fp it tn) (mG:tn 0 s2.heap) (f2:∀ b∈fp,zcd X lM H2 b) (q:cIn g ts tm (zcW ix σ) J (fun ys H'=>∀ D,H' D=none→Q (.ref D) (lP H' D (.lst ys))) [] H2)
  (hRR:∀ (D C:Addr) (s':Shared) (ys:List V) (H':Hp) (m:Str→Option Value),Inv X lM σ (lP H' D (.lst ys)) s'→zcd X lM (lP H' D (.lst ys)) C→s'.heap.Ns C m→Q (.ref D) (lP H' D (.lst ys))→RR (.ref D) C (.ok .next) s') :
  wpAny (model X.prog X.w) X.A (newList []) (fun acc s₃=>wpAny (model X.prog X.w) X.A (newFunctionEnv scope X.env.globals (zao X.env.cells scope.names []) [] X.env.qual none .none (some X.env)) (fun y9 s₄ =>
   codeAny (model X.prog X.w) X.A (.compStart (.ListComp elt (⟨tg,iter,ifs,0⟩ :: gs) scope pos) 0 (.ref it) acc { y9 with scope:=relabel scope X.env }) (RR acc y9.locals) s₄) E s₃) E s2:=by
 have xF:∀ y∈scope.names,y.2 = .free→∃ c,X.env.cells.lookup y.1=some c:=fun y hy hf=>I2.ok.has y.1 (SC.free y hy hf)
 have uk:∀ x c,(zao X.env.cells scope.names []).lookup x=some c→X.env.cells.lookup x=some c:=zbJ scope.names [] xF (fun x c e=>by simp at e);refine cu (ziM ?_);have I3:Inv X lM σ H2 { s2 with heap:=s2.heap.push { cls:=.type "list",dict:=none,data:=.seq ([]:List Value).toArray } }:=I2.kept (t':=s2.toks) fun b o e=>af _ e
 have yz:(s2.heap.push { cls:=.type "list",dict:=none,data:=.seq ([]:List Value).toArray }).get? s2.heap.objs.size=some { cls:=.type "list",dict:=none,data:=.seq ([]:List Value).toArray }:=aC _ rfl;have Aa:tn 0 (s2.heap.push { cls:=.type "list",dict:=none,data:=.seq ([]:List Value).toArray }):=T.keep _ _ _ mG fun b hb o e=>af _ e
 have Ab:(s2.heap.push { cls:=.type "list",dict:=none,data:=.seq ([]:List Value).toArray }).objs.size=s2.heap.objs.size+1:=bi _ _;generalize hh3:s2.heap.push { cls:=.type "list",dict:=none,data:=.seq ([]:List Value).toArray }=h3 at *;have CF:=T.obj _ _ mG;have wN:∀ b∈fp,b < s2.heap.objs.size:=fun b hb=>by obtain⟨o,e,_⟩:=CF b hb; exact aD e
 have stk:∀ b∈frs X.stack,b=X.env.locals∨b∈X.fs:=fun b hb=>au.mp (I2.stkSub b hb)
 have Ac:zcd X lM H2 s2.heap.objs.size:=I2.fpOk (ah _) I2.fresh;have sY:∀ b∈s2.heap.objs.size :: fp,zcd X lM H2 b:=fun b hb=>by
  rcases (au.mp hb) with e | hb
  ·rw [e]; exact Ac
  ·exact f2 b hb
 have xG:∀ b∈s2.heap.objs.size :: fp,b < h3.objs.size:=fun b hb=>by
  rw [Ab];rcases (au.mp hb) with e | hb; · rw [e]; exact kz _
  ·exact dG (wN b hb)
 have wO:∀ b∈s2.heap.objs.size :: fp,b∉frs X.stack:=fun b hb z=>by
  obtain⟨_,a1,a2,_⟩:=sY b hb;rcases stk b z with e | e
  ·exact a1 e
  ·exact a2 e
 have hns₁:(pushCells (h3.push { cls:=.type "dict",data:=.dict #[] }) scope.names).Ns h3.objs.size (fun _=>none):=(Heap.Ns.new h3 (.type "dict")).keeps (pushCells_keeps _ _);have old:∀ b o,h3.get? b=some o→(pushCells (h3.push { cls:=.type "dict",data:=.dict #[] }) scope.names).get? b=some o:=fun b o e=>pushCells_keeps _ _ b o (af _ e)
 have CG:∀ x c,X.env.cells.lookup x=some c→c < h3.objs.size:=fun x c e=>by
  obtain⟨v,q⟩:=I3.cell x c e;exact q.lt
 have co:CO (pushCells (h3.push { cls:=.type "dict",data:=.dict #[] }) scope.names) (h3.objs.size+1) (zao X.env.cells scope.names []) (cellsFrom (h3.objs.size+1) scope.names (zao X.env.cells scope.names [])):=by
  have:=zj7 (lo:=h3.objs.size+1) (old:=zao X.env.cells scope.names []) scope.names (h3.push { cls:=.type "dict",data:=.dict #[] }) (zao X.env.cells scope.names [])
   ⟨fun x c e=>.inr ⟨e,dG (CG x c (uk x c e))⟩,fun x y c e1 e2=>I2.ok.inj x y c (uk x c e1) (uk y c e2)⟩ (by rw [bi]; exact ah _)
  rw [bi] at this;exact this
 generalize pushCells (h3.push { cls:=.type "dict",data:=.dict #[] }) scope.names=h₁ at hns₁ old co ⊢;have CH:∀ {x c},(cellsFrom (h3.objs.size+1) scope.names (zao X.env.cells scope.names [])).lookup x=some c→(h₁.IsCell c none∧h3.objs.size+1≤c)∨X.env.cells.lookup x=some c:=fun {x c} e=>(co.each x c e).elim .inl fun z=>.inr (uk x c z.1)
 have cfr:∀ x,scope.names.lookup x=some .free→(cellsFrom (h3.objs.size+1) scope.names (zao X.env.cells scope.names [])).lookup x=(zao X.env.cells scope.names []).lookup x:=fun x hx=>zfn _ _ _ _ fun z=>by
  have:=SC.cells _ z rfl;rw [hx] at this;cases this
 let s3:Shared:={ s2 with heap:=h3 }
 let Y:Cx:=zM X N' scope s3 H2 (s2.heap.objs.size :: fp) lM
 have um:Inv X lM σ H2 s3:=I3;have okY:Y.Ok:=by
  refine⟨I2.ok.mod,SC.kind,I2.ok.glob,I2.ok.blt,ah _,co.inj,fun x hx=>?_,fun x c z e=>?_,I2.ok.hd,I2.ok.frames,.inl rfl,fun b hb=>?_,fun b o e=>um.bs b o e,?_,fun b o e hb=>?_,wO,um.stack,um.stkFree⟩
  ·have rY:=zcV (env:=X.env) (names:=scope.names) (x:=x) hx;rcases rY with rY | rY
   ·obtain⟨c,e⟩:=zb0 (cs:=X.env.cells) scope.names [] x (.inr (lookup_mem rY));exact⟨c,(cfr x rY).trans e⟩
   ·obtain⟨c,e,_⟩:=zfo scope.names (h3.objs.size+1) (zao X.env.cells scope.names []) x (lookup_mem rY);exact⟨c,e⟩
  ·obtain⟨c',e',l'⟩:=zfo scope.names (h3.objs.size+1) (zao X.env.cells scope.names []) x (lookup_mem (by have z':(scope.names.lookup x == some cU)=true:=z; simpa using z'));have e2:(cellsFrom (h3.objs.size+1) scope.names (zao X.env.cells scope.names [])).lookup x=some c:=e;rw [e'] at e2;cases e2;exact gR l'
  ·refine⟨aZ (xG b hb),fun x c e=>(CH e).elim (fun z y=>?_) fun z=>(sY b hb).2.2.2.2.1 x c z⟩;subst y;exact cm _ (aU (xG _ hb) (gR z.2))
  ·exact aV I2.ok.bsz um.sz
  ·obtain⟨_,_,_,a3,_⟩:=sY b hb;rcases a3 with z | z
   ·exact I2.ok.noex b o e z
   ·have:=(I2.ok.bs b o e).1;exact absurd (aU (aD this) z) (cm _)
 have CI:Inv Y [] (zcW ix σ) H2 { s3 with heap:=h₁ }:=by
  refine⟨okY,rfl,I2.bare,Un.kept old,⟨_,hns₁,fun j x v e1 e2 e3=>?_⟩,fun x c e=>?_,um.fresh,fun x c e=>(CH e).elim (fun z=>um.hok.fresh (gR z.2)) fun z=>I2.freeC x c z,fun p hp=>?_,um.hok.kept old,?_⟩
  ·unfold zcW at e2;rw [ap] at e2;cases hj:ix[j]? with
   | none=>rw [hj] at e2; simp at e2
   | some oi =>
    rw [hj] at e2;cases oi with
    | none=>simp at e2
    | some i =>
     obtain⟨y,h1,h2,BE⟩:=SC.cap j i hj;have Ad:y=x:=by
      have e1':N'[j]? = some x:=e1;rw [h1] at e1';exact aG e1'
     subst Ad;have Ae:(σ[i]?).join=some v:=by simpa using e2
     have CJ:σ[i]? = some (some v):=by
      cases hs:σ[i]? with
      | none=>rw [hs] at Ae; simp at Ae
      | some w=>rw [hs] at Ae; simp at Ae; rw [Ae]
     obtain⟨m,hn,hl⟩:=um.loc;have hk:=SC.free (y,.free) (lookup_mem BE) rfl;have CK:Vis X.env.scope y:=hk.elim (fun z=>.inr (.inl z)) fun z=>.inr (.inr z)
     obtain⟨u,r,l⟩:=hl i y v h2 CJ CK;refine⟨u,r,.inr ⟨zbj BE,?_⟩⟩;obtain⟨c,mU⟩:=zb0 (cs:=X.env.cells) scope.names [] y (.inr (lookup_mem BE));refine⟨c,(cfr y BE).trans mU,?_⟩;rcases l with ⟨vw,_⟩ | ⟨_,c',lR,o6⟩
     ·rcases hk with hk | hk
      ·have rh:X.env.kindOf y=some .cell:=hk;rw [rh] at vw; cases vw
      ·have rh:X.env.kindOf y=some .free:=hk;rw [rh] at vw; cases vw
     ·have:=uk y c mU;rw [lR] at this;cases this;obtain⟨o,ho,hd⟩:=o6;exact⟨o,old _ _ ho,hd⟩
  ·rcases CH e with z | z
   ·exact⟨_,z.1⟩
   ·obtain⟨v,o,ho,hd⟩:=um.cell x c z;exact⟨v,o,old _ _ ho,hd⟩
  ·have pB:p∈X.pn++lM:=by
    have:p∈(X.pn++lM)++([]:List (Addr×Obj)):=hp;simpa using this
   obtain⟨a1,a2,a3,a4,a5⟩:=um.pin p pB;exact⟨old _ _ a1,a2,aZ (aD a1),fun z=>(stk _ z).elim a3 a4,a5⟩
  ·unfold zcW;rw [ae];exact SC.len.symm
 have yy:∀ {H':Hp},(∀ b∈s2.heap.objs.size :: fp,H' b=none)→∀ b∈s2.heap.objs.size :: fp,zcd Y [] H' b:=fun {H'} hn b hb=>by
  obtain⟨_,a1,a2,a3,a4,a5⟩:=sY b hb;refine⟨hn b hb,aZ (xG b hb),wO b hb,.inl hb,(okY.exf b hb).2,fun p hp=>?_⟩;have:p∈(X.pn++lM)++([]:List (Addr×Obj)):=hp;exact a5 p (by simpa using this)
 have nn2:∀ b∈s2.heap.objs.size :: fp,H2 b=none:=fun b hb=>(sY b hb).1
 have xy:zfp (js++js') (zcW ix σ):=fun j hj v e=>by
  unfold zcW at e;rw [ap,vV j hj] at e;simp at e
 have loop:∀ s₅:Shared,s₅ = { s2 with heap:=h₁ } →
   codeAny (model X.prog X.w) X.A (.compLoop (.ListComp elt (⟨tg,iter,ifs,0⟩ :: gs) scope pos) 0 (.ref it) (.ref s2.heap.objs.size) (compEnvC scope (cellsFrom (h3.objs.size+1) scope.names (zao X.env.cells scope.names [])) h3.objs.size X.env)) (RR (.ref s2.heap.objs.size) h3.objs.size) s₅:=by
  rintro s₅ rfl;refine zhY (Y:=Y) (lM:=[]) (σ:=zcW ix σ) (lO:=[]) (nn:=0) hc rfl vU pE (hg s3 H2 _ lM) (ht s3 H2 _ lM) (hm s3 H2 _ lM s2.heap.objs.size) (fun it=>oh it _ _) CI ⟨yy nn2 _ aF,old _ _ yz,.nil,bo _⟩ xy T (T.keep _ _ _ Aa fun b hb o e=>old b o e)
   (fun b hb=>yy nn2 b (aj _ hb)) (fun b hb=>aZ (wN b hb)) q fun s6 ys lO nn H5 I6 a6 qn=>?_
  have dn5:H5 s2.heap.objs.size=none:=a6.fp.1;have I7:Inv X lM σ H5 s6:=by
   refine um.call' (s':=s6) (ch:=s2.heap.objs.size :: fp) I6.os I6.base I6.hok I6.bare fun b hb=>?_
   obtain⟨_,a1,a2,a3,a4,a5⟩:=sY b hb;exact⟨a3,a1,a4,a5⟩
  have I8:Inv X lM σ (lP H5 s2.heap.objs.size (.lst ys)) s6:=by
   obtain⟨_,a1,a2,a3,a4,a5⟩:=Ac;exact I7.track dn5 I2.sz (dk a1) a4 a5 ⟨a6.len,lO,nn,a6.vals,a6.here⟩
  obtain⟨mm,hmm,_⟩:=I6.loc;have dne:h3.objs.size≠s2.heap.objs.size:=by rw [Ab]; exact ig _
  refine hRR _ _ s6 ys H5 mm I8 (um.fpOk (H':=lP H5 s2.heap.objs.size (.lst ys)) (ah _) ?_) hmm (qn _ dn5);show lP H5 s2.heap.objs.size (.lst ys) h3.objs.size=none;rw [zp dne];exact I6.free
 exact zf2 rfl (loop _ rfl) (T.self _ 0 _ _ _ (T.keep _ _ _ Aa fun b hb o e=>old b o e) (loop _ rfl))
theorem zkc {wi:TI} (SC:CompSc X N' ix scope) (hc:X.calm=true) (vU:GS js g) (pE:∀ j∈js,j∉js') (vV:∀ j∈js++js',ix[j]? = some none) (hi:PI X tg iter wi)
  (hg:∀ s₃ H₃ ex lM,PG (zM X N' scope s₃ H₃ ex lM) tg g) (ht:∀ s₃ H₃ ex lM,zdC (zM X N' scope s₃ H₃ ex lM) ifs ts) (hm:∀ s₃ H₃ ex lM D,PM (zM X N' scope s₃ H₃ ex lM) D js' (mk D (zM X N' scope s₃ H₃ ex lM).env) tm)
  (oh:∀ it D env,compTurn (.ListComp elt (⟨tg,iter,ifs,0⟩ :: gs) scope pos) 0 it (.ref D) env=zb1 tg ifs iter.pos (mk D env) (.compLoop (.ListComp elt (⟨tg,iter,ifs,0⟩ :: gs) scope pos) 0 it (.ref D) env) it env)
  (hs:∀ x,foldedSetIterable iter X.env x=pure x:=by intro _; rfl):PE X (.ListComp elt (⟨tg,iter,ifs,0⟩ :: gs) scope pos) (zg3 ix wi g ts tm):=by
 intro lM s σ H Q I h;rw [eval_ListComp];have xF:∀ y∈scope.names,y.2 = .free→∃ c,X.env.cells.lookup y.1=some c:=fun y hy hf=>I.ok.has y.1 (SC.free y hy hf)
 refine ij (use:=none) rfl hs (zcC xF) SC.kind SC.names (thn (hi lM s σ H _ I h) fun v s1 h1=>thn h1 fun xu s2 h2=>?_);obtain⟨it,fp,tn,J,H2,e,I2,T,mG,f2,q⟩:=h2;subst e;refine zdp (RR:=fun acc C=>compPost (model X.prog X.w) X.A X.xe none (EP X lM σ Q) acc C) SC hc vU pE vV hg ht hm oh I2 T mG f2 q ?_;intro D C s' ys H' m I' CL hm q';refine⟨m,hm,fun sZ m9=>⟨.ref D,_,?_,rfl,q'⟩⟩;obtain⟨f0,f1,CD,f3,f4,f5⟩:=CL;exact I'.turned (t':=s'.toks) (fun b o hb e=>m9.extBut b o hb e) f0 f1 f3 f4 f5
theorem zdq {wi:TI} {i:Nat} {x:Str} {pos' oj:Pos} (hN:X.N.Nodup) (vx:X.N[i]? = some x) (hx:Loc X.env.scope x) (SC:CompSc X N' ix scope) (hc:X.calm=true) (vU:GS js g) (pE:∀ j∈js,j∉js') (vV:∀ j∈js++js',ix[j]? = some none) (hi:PI X tg iter wi)
  (hg:∀ s₃ H₃ ex lM,PG (zM X N' scope s₃ H₃ ex lM) tg g) (ht:∀ s₃ H₃ ex lM,zdC (zM X N' scope s₃ H₃ ex lM) ifs ts) (hm:∀ s₃ H₃ ex lM D,PM (zM X N' scope s₃ H₃ ex lM) D js' (mk D (zM X N' scope s₃ H₃ ex lM).env) tm)
  (oh:∀ it D env,compTurn (.ListComp elt (⟨tg,iter,ifs,0⟩ :: gs) scope pos) 0 it (.ref D) env=zb1 tg ifs iter.pos (mk D env) (.compLoop (.ListComp elt (⟨tg,iter,ifs,0⟩ :: gs) scope pos) 0 it (.ref D) env) it env)
  (Af:swapsWith (.ListComp elt (⟨tg,iter,ifs,0⟩ :: gs) scope pos) (some (.Name x pos')) oj.line X.env=pure true:=by rfl)
  (hs:∀ x,foldedSetIterable iter X.env x=pure x:=by intro _; rfl) (hf:X.fn x=true∨X.env.scope.names.lookup x=some .local:=by first | exact .inl rfl | exact .inr rfl | assumption) :
  PS X (.Assign [.Name x pos'] (.ListComp elt (⟨tg,iter,ifs,0⟩ :: gs) scope pos) oj) (zex (zg3 ix wi g ts tm) (zaQ i)):=by
 intro lM s σ H D I h;have xF:∀ y∈scope.names,y.2 = .free→∃ c,X.env.cells.lookup y.1=some c:=fun y hy hf=>I.ok.has y.1 (SC.free y hy hf)
 rw [exec_Assign_Name_used _ _ _ _ Af]; refine aa (eM (aa ?_));show wpAny _ X.A (do let _ ← comprehension (.ListComp elt (⟨tg,iter,ifs,0⟩ :: gs) scope pos) scope X.env _ (newList []) false (eval iter X.env) (some (assign (.Name x pos') X.env))) _ _ s;refine aa (bZ (ij (use:=some (assign (.Name x pos') X.env)) (Q:=fun _ s'=>SP X lM D .next s') rfl hs (zcC xF) SC.kind SC.names
  (thn (hi lM s σ H _ I h) fun v s1 h1=>thn h1 fun xu s2 h2=>?_)) (fun _ s' hq=>ai (ai hq)) fun _ _ e=>e)
 obtain⟨it,fp,tn,J,H2,e,I2,T,mG,f2,q⟩:=h2;subst e;refine zdp (Q:=fun x H1=>zaQ i x σ H1 D.nx) (RR:=fun acc C=>compPost (model X.prog X.w) X.A X.xe (some (assign (.Name x pos') X.env)) (fun _ s'=>SP X lM D .next s') acc C) SC hc vU pE vV hg ht hm oh I2 T mG f2 q ?_;intro Da C s' ys H' m I' CL hm q';show wpAny _ X.A (assign (.Name x pos') X.env (.ref Da)) _ _ _;refine wpAny_assign_Name (zeN I' hN vx hx (show RelV (.ref Da) (.ref Da) from rfl) (fun yX I'' ⟨a,mH,ha⟩=>?_) hf);obtain⟨f0,f1,CD,f3,f4,f5⟩:=CL;have hCa:C≠a:=by
  rcases ha with e | e
  ·rw [e]; exact f1
  ·exact dk (f4 x a e)
 refine⟨m,hm.sameBut mH hCa,fun h₃ hs₃=>⟨_,_,?_,q'⟩⟩;exact I''.turned (t':=yX.toks) (fun b o hb e=>hs₃.extBut b o hb e) f0 f1 f3 f4 f5
end
theorem znb {elt t1 i1 t2 i2:Expr} {f1 f2:List Expr} {scope:Scope} {pos:Pos} (it:Value) (D:Addr) (env:Env):compTurn (.ListComp elt [⟨t1,i1,f1,0⟩,⟨t2,i2,f2,0⟩] scope pos) 0 it (.ref D) env =
  zb1 t1 f1 i1.pos (zhX (.ListComp elt [⟨t1,i1,f1,0⟩,⟨t2,i2,f2,0⟩] scope pos) i2 1 (.ref D) env) (.compLoop (.ListComp elt [⟨t1,i1,f1,0⟩,⟨t2,i2,f2,0⟩] scope pos) 0 it (.ref D) env) it env:=by rfl
theorem znc {elt t1 i1 t2 i2:Expr} {f1 f2:List Expr} {scope:Scope} {pos:Pos} (it:Value) (D:Addr) (env:Env):compTurn (.ListComp elt [⟨t1,i1,f1,0⟩,⟨t2,i2,f2,0⟩] scope pos) 1 it (.ref D) env =
  zb1 t2 f2 i2.pos (zeY elt (.ref D) env) (.compLoop (.ListComp elt [⟨t1,i1,f1,0⟩,⟨t2,i2,f2,0⟩] scope pos) 1 it (.ref D) env) it env:=by rfl
def zdi (ix:List (Option Nat)):List Nat:=(bg ix.length).filter fun j=>ix[j]? == some none
theorem zb2 {ix:List (Option Nat)} {i:Nat}:i∈zdi ix↔ix[i]? = some none:=by
 unfold zdi;rw [bN,bF,beq_iff_eq];exact⟨fun h=>h.2,fun h=>⟨(ak.mp h).1,h⟩⟩
def GK (ix:List (Option Nat)) (g:TG):Prop:=GS (zdi ix) g
def GKs (ix:List (Option Nat)) (g:TGs):Prop:=GSs (zdi ix) g
theorem zaE {ix:List (Option Nat)} {i:Nat} (hi:ix[i]? = some none):GK ix (zaQ i):=zhV (zb2.2 hi)
theorem za3 {ix:List (Option Nat)}:GKs ix ziD:=zhW
theorem zU {ix:List (Option Nat)} {i:Nat} {u:TGs} (hi:ix[i]? = some none) (h2:GKs ix u):GKs ix (zcz (zaQ i) u):=zd6 (zb2.2 hi) h2
theorem zbt {ix:List (Option Nat)} {K:ag} {n:Nat} {t:TGs} (h:GKs ix t):GK ix (zgV K n t):=zj9 h
theorem ziN {ix:List (Option Nat)} {g:TG} {u:TGs} (h1:GK ix g) (h2:GKs ix u) (mono:∀ (x:V) (σ:St) (H:Hp) (Q Q':St→Hp→Prop),(∀ σ' H',Q σ' H'→Q' σ' H')→g x σ H Q→g x σ H Q'):GKs ix (zcz g u):=fun σ σ1 xs H Q hw h=>by
 obtain⟨v,r,e,h⟩:=h;refine⟨v,r,e,mono v σ1 H _ _ (fun σ' H' q=>?_) (h1 σ σ1 v H _ hw h)⟩;exact h2 σ σ' r H' Q q.1 q.2
theorem zmz {elt t1 i1:Expr} {f1:List Expr} {scope:Scope} {pos:Pos} (it:Value) (D:Addr) (env:Env):compTurn (.ListComp elt [⟨t1,i1,f1,0⟩] scope pos) 0 it (.ref D) env =
  zb1 t1 f1 i1.pos (zeY elt (.ref D) env) (.compLoop (.ListComp elt [⟨t1,i1,f1,0⟩] scope pos) 0 it (.ref D) env) it env:=by rfl
section
variable {X:Cx} {elt tg iter:Expr} {ifs:List Expr} {scope:Scope} {pos:Pos} {N':List Str} {ix:List (Option Nat)} {g:TG} {ts:TT} {te:TE}
theorem zas {wi:TI} (SC:CompSc X N' ix scope) (hc:X.calm=true) (hk:GK ix g) (hi:PI X tg iter wi)
  (hg:∀ s₃ H₃ ex lM,PG (zM X N' scope s₃ H₃ ex lM) tg g) (ht:∀ s₃ H₃ ex lM,zdC (zM X N' scope s₃ H₃ ex lM) ifs ts) (he:∀ s₃ H₃ ex lM,PE (zM X N' scope s₃ H₃ ex lM) elt te)
  (hs:∀ x,foldedSetIterable iter X.env x=pure x:=by intro _; rfl):PE X (.ListComp elt [⟨tg,iter,ifs,0⟩] scope pos) (zmy ix wi g ts te) :=
 zkc (mk:=fun D env=>zeY elt (.ref D) env) (js:=zdi ix) (js':=[]) SC hc hk (fun _ _ h=>nomatch h) (fun j h=>zb2.1 (by simpa using h)) hi hg ht (fun s₃ H₃ ex lM D=>zg4 rfl (he s₃ H₃ ex lM)) (fun _ _ _=>zmz _ _ _) hs
theorem zaJ {wi:TI} {i:Nat} {x:Str} {pos' oj:Pos} (hN:X.N.Nodup) (vx:X.N[i]? = some x) (hx:Loc X.env.scope x) (SC:CompSc X N' ix scope) (hc:X.calm=true) (hk:GK ix g) (hi:PI X tg iter wi)
  (hg:∀ s₃ H₃ ex lM,PG (zM X N' scope s₃ H₃ ex lM) tg g) (ht:∀ s₃ H₃ ex lM,zdC (zM X N' scope s₃ H₃ ex lM) ifs ts) (he:∀ s₃ H₃ ex lM,PE (zM X N' scope s₃ H₃ ex lM) elt te)
  (Af:swapsWith (.ListComp elt [⟨tg,iter,ifs,0⟩] scope pos) (some (.Name x pos')) oj.line X.env=pure true:=by rfl)
  (hs:∀ x,foldedSetIterable iter X.env x=pure x:=by intro _; rfl) (hf:X.fn x=true∨X.env.scope.names.lookup x=some .local:=by first | exact .inl rfl | exact .inr rfl | assumption) :
  PS X (.Assign [.Name x pos'] (.ListComp elt [⟨tg,iter,ifs,0⟩] scope pos) oj) (zex (zmy ix wi g ts te) (zaQ i)) :=
 zdq (mk:=fun D env=>zeY elt (.ref D) env) (js:=zdi ix) (js':=[]) hN vx hx SC hc hk (fun _ _ h=>nomatch h) (fun j h=>zb2.1 (by simpa using h)) hi hg ht (fun s₃ H₃ ex lM D=>zg4 rfl (he s₃ H₃ ex lM)) (fun _ _ _=>zmz _ _ _) Af hs hf
end
section
variable {X:Cx} {lM:List (Addr×Obj)} {σ:St} {H:Hp} {s:Shared} {h':Heap}
theorem Inv.turnedL {t':Nat} {ch:List Addr} (I:Inv X lM σ H s) (k:∀ b o,b∉ch→s.heap.get? b=some o→h'.get? b=some o) (hf:∀ b∈ch,zcd X lM H b)
  (th:∀ b∈ch,∃ o,h'.get? b=some o):Inv X lM σ H { s with heap:=h',toks:=t' }:=by
 have rd:∀ b u,H b=some u→b∉ch:=fun b u e z=>by rw [(hf b z).1] at e; cases e
 refine I.step (g':=s.gens) (d':=s.drawn) (ch:=ch) (fun b hb=>?_) (fun b o _ _ hc e _=>k b o hc e) (fun b o _ _ hc e _=>⟨o.slots,k b o hc e⟩) (fun _ _ _ _ n=>n)
  (fun b o hc e=>⟨o,k b o hc e⟩) (fun _ _ e=>e) (fun _ _ _ e=>e) (fun b ps e=>⟨#[],by rw [e]; simp⟩) (fun m hm=>?_) (fun b u e=>?_) I.bare
 ·obtain⟨_,a1,_,a3,a4,a5⟩:=hf b hb;exact⟨a3,a1,a4,a5⟩
 ·obtain⟨o,es,ep,ho,r⟩:=hm;exact⟨o,es,ep,k _ o (fun z=>(hf _ z).2.1 rfl) ho,r⟩
 ·refine (I.hok b u e).stay (fun c v hc q=>k c v ?_ q) (fun _ q=>q) fun _ _ q=>q
  rcases hc with z | z
  ·rw [z]; exact rd b u e
  ·exact rd c _ z
theorem Inv.turnedNew {t':Nat} {ch:List Addr} {T:Addr} {o:HO} (I:Inv X lM σ H s) (k:∀ b o,b∉ch→s.heap.get? b=some o→h'.get? b=some o) (hf:∀ b∈ch,zcd X lM H b)
  (th:∀ b∈ch,∃ o,h'.get? b=some o) (hT:s.heap.objs.size≤T) (ok:zab X.prog X.w (lP H T o) h' T o):Inv X lM σ (lP H T o) { s with heap:=h',toks:=t' }:=by
 have I1:Inv X lM σ H { s with heap:=h',toks:=t' }:=I.turnedL k hf th;have hn:H T=none:=I.hok.fresh hT;obtain⟨_,a1,a2,a3,a4,a5⟩:=I.fpOk (H':=H) hT hn;exact I1.track hn (aV I.sz hT) (dk a1) a4 a5 ok
end
def znd (Sq:Hp→Addr→List V→Prop) (a:Addr):It :=
 ⟨fun i H=>∃ xs x,Sq H a xs∧xs[i]? = some x,fun i H x H'=>∃ T v,H T=none∧x = .ref T∧H'=lP H T (.tup [.int i,v])∧∀ xs,Sq H a xs→xs[i]? = some v,fun i H=>∃ xs,Sq H a xs∧xs.length≤i⟩
theorem za8 {h:Heap} {T:Addr} {a b:Value} (e:h.get? T=some { cls:=.type "tuple",data:=.seq #[a,b] }):IsTup h T ([a,b]:List Value).toArray:=⟨_,e,rfl,_,rfl⟩
theorem zaC:2≤sizeLine:=by rw [bt]; decide
theorem zg5 {P:Program} {w:World} {K:ag} {es:List Expr} {k:Nat} {pos:Pos} (a it e:Addr) (hei:e≠it):Turn P w K (.Tuple es k pos) (znd (lN K) a) [e,it] e (fun i h=>(∃ old,IsEnum h e it i old)∧h.IsListIter it a i) where
 mem:=by simp
 obj:=fun i h st b hb=>by
  obtain⟨⟨old,he⟩,o,ho,hc,hd⟩:=st;rcases au.mp hb with z | z
  ·subst z;exact⟨_,he,fun v z=>by cases z⟩
  ·have z:b=it:=by simpa using z
   subst z;exact⟨o,ho,fun v z=>by rw [hd] at z; cases z⟩
 keep:=fun i h h' st kk=>⟨st.1.imp fun old he=>kk e #[M] _ he,st.2.at fun o eo=>kk it #[M] o eo⟩
 item:=by
  intro X hP hw hK hc i lM s σ H E I hf st hg;subst hP hw hK;obtain⟨xs,x,hq,hx⟩:=hg;obtain⟨⟨old,he⟩,hit⟩:=st;obtain⟨lO,rv,p,hz⟩:=I.list hq;obtain⟨u,hu,ru⟩:=rv.get hx;have vy:e < s.heap.objs.size:=aD he;have hits:it < s.heap.objs.size:=by obtain⟨o,ho,_⟩:=hit; exact aD ho
  refine wpAny_pyNext_enum_item he hit p.isList (x:=u) (by simpa using hu) hei fun h' rT rZ hT hsz kk=>?_
  have k1:∀ b o,b∉[e,it]→s.heap.get? b=some o→h'.get? b=some o:=fun b o hb eo=>kk b o (fun z=>hb (by simp [z])) (fun z=>hb (by simp [z])) eo
  have vW:∀ b∈[e,it],∃ o,h'.get? b=some o:=fun b hb=>by
   rcases au.mp hb with z | z
   ·subst z; exact⟨_,rT⟩
   ·have z:b=it:=by simpa using z
    subst z;obtain⟨o,eo,_⟩:=rZ;exact⟨o,eo⟩
  have I1:Inv X lM σ (lP H s.heap.objs.size (.tup [.int i,x])) { s with heap:=h',toks:=s.toks+1 } :=
   I.turnedNew k1 hf vW (ah _) ⟨zaC,_,.cons ⟨s.toks,rfl⟩ (.cons ru .nil),za8 hT⟩
  refine⟨_,rfl,gJ rT fun sZ sd m9=>?_⟩;have fr:∀ b∈[e,it],lP H s.heap.objs.size (.tup [.int i,x]) b=none:=fun b hb=>by
   have ml:b < s.heap.objs.size:=by
    rcases au.mp hb with z | z
    ·subst z; exact vy
    ·have z:b=it:=by simpa using z
     subst z; exact hits
   rw [zp (aZ ml)];exact (hf b hb).1
  have I2:Inv X lM σ (lP H s.heap.objs.size (.tup [.int i,x])) { s with heap:=sZ,toks:=s.toks+1 } :=
   Inv.turnedL (s:={ s with heap:=h',toks:=s.toks+1 }) (ch:=[e]) (t':=s.toks+1) I1 (fun b o hb eo=>m9.extBut b o (by simpa using hb) eo) (fun b hb=>by
    have z:b=e:=by simpa using hb
    subst z;exact⟨fr b #[M],(hf b #[M]).2⟩) (fun b hb=>by
    have z:b=e:=by simpa using hb
    subst z;exact⟨_,sd⟩)
  refine⟨.ref s.heap.objs.size,_,I2,rfl,⟨_,x,I.fresh,rfl,rfl,fun ys hy=>by rw [I.list_inj hy hq]; exact hx⟩,⟨⟨_,by simpa using sd⟩,rZ.extBut m9.extBut (dk hei)⟩,fr⟩
 done:=by
  intro X hP hw hK hc i lM s σ H E I hf st hg;subst hP hw hK;obtain⟨xs,hq,hx⟩:=hg;obtain⟨⟨old,he⟩,hit⟩:=st;obtain⟨lO,rv,p,hz⟩:=I.list hq;have hl:=rv.length;obtain⟨f0,f1,f2,f3,f4,f5⟩:=hf it #[M];exact wpAny_pyNext_enum_end (I.ok.hd hc) he hit p.isList (by simp; lia) fun h' eb=>⟨rfl,I.turned (t':=s.toks) (fun b o hb e=>eb b o hb e) f0 f1 f3 f4 f5⟩
 self:=fun _ _ _ _ _ st h=>by
  obtain⟨⟨old,he⟩,_⟩:=st;exact ft he h
def iEn (Sq:Hp→Addr→List V→Prop) (ta:TA):TI:=fun σ H R=>ta σ H fun vs H1=>∃ a xs,vs = [.ref a]∧Sq H1 a xs∧R (znd Sq a) H1
theorem zkd {X:Cx} {es:List Expr} {k:Nat} {nP p pos:Pos} {a:Expr} {ta:TA} (hg:Gl X "enumerate") (hm:X.mg "enumerate" = none) (ha:PA X [a] ta) (hs:starEach [a] X.env = [(false,eval a X.env)]:=by rfl) :
  PI X (.Tuple es k nP) (.Call (.Name "enumerate" p) [a] [] pos) (iEn (lN X.K) ta):=by
 intro lM s σ H R I h;refine Call_ (zbg I hg hm boot_enumerate (bv (thn (ha pos lM s σ H _ I h) fun us s1 ⟨vs,H1,I1,r1,q1⟩=>?_) hs rfl));obtain⟨l,xs,e,hq,q⟩:=q1;subst e;cases r1 with
 | cons r rr =>
  cases rr;cases r;obtain⟨lO,rv,pl,hz⟩:=I1.list hq;refine call_enumerate_list pl.isList fun h' he hi hsz kk=>?_
  have I2:Inv X lM σ H1 { s1 with heap:=h' }:=I1.kept (t':=s1.toks) kk;refine ft he ?_; refine⟨_,[s1.heap.objs.size+1,s1.heap.objs.size],_,znd (lN X.K) l,H1,rfl,I2,zg5 l s1.heap.objs.size (s1.heap.objs.size+1) (ig _),⟨⟨_,he⟩,hi⟩,fun b hb=>?_,q⟩;have hle:s1.heap.objs.size≤b:=by
   rcases au.mp hb with z | z
   ·rw [z]; exact gr _
   ·have z:b=s1.heap.objs.size:=by simpa using z
    rw [z]; exact ah _
  exact I1.fpOk hle (I1.hok.fresh hle)
def ziO (oG qr:Hp→Addr→List V→Prop) (a b:Addr):It :=
 ⟨fun i H=>∃ xs ys x y,oG H a xs∧qr H b ys∧xs[i]? = some x∧ys[i]? = some y,
  fun i H x H'=>∃ T u v,H T=none∧x = .ref T∧H'=lP H T (.tup [u,v])∧(∀ xs,oG H a xs→xs[i]? = some u)∧∀ ys,qr H b ys→ys[i]? = some v,
  fun i H=>∃ xs ys,oG H a xs∧qr H b ys∧(xs.length≤i∨ys.length≤i)⟩
theorem ziP {P:Program} {w:World} {K:ag} {es:List Expr} {k:Nat} {pos:Pos} (a b:Addr) (n:Nat) (ha:a < n) (hb:b < n):Turn P w K (.Tuple es k pos) (ziO (lN K) (lN K) a b) [n+4,n+2,n+3,n,n+1] (n+4)
  (fun i h=>IsZip h (n+4) (n+2) (n+3) .none∧IsPair h (n+2) (.ref n) (.ref (n+1))∧(∃ u v,IsPair h (n+3) u v)∧h.IsListIter n a i∧h.IsListIter (n+1) b i) where
 mem:=by simp
 obj:=fun i h st c hc=>by
  obtain⟨h1,h2,⟨u,v,h3⟩,⟨o4,e4,_,d4⟩,⟨o5,e5,_,d5⟩⟩:=st;simp only [au,aM,or_false] at hc;rcases hc with z | z | z | z | z <;> subst z
  ·exact⟨_,h1,fun v z=>by cases z⟩
  ·exact⟨_,h2,fun v z=>by cases z⟩
  ·exact⟨_,h3,fun v z=>by cases z⟩
  ·exact⟨_,e4,fun v z=>by rw [d4] at z; cases z⟩
  ·exact⟨_,e5,fun v z=>by rw [d5] at z; cases z⟩
 keep:=fun i h h' st kk=>by
  obtain⟨h1,h2,⟨u,v,h3⟩,h4,h5⟩:=st;exact⟨kk _ #[M] _ h1,kk _ #[M] _ h2,⟨u,v,kk _ #[M] _ h3⟩,h4.at fun o eo=>kk _ #[M] o eo,h5.at fun o eo=>kk _ #[M] o eo⟩
 item:=by
  intro X hP hw hK hc i lM s σ H E I hf st hg;subst hP hw hK;obtain⟨xs,ys,x,y,oB,nH,hx,hy⟩:=hg;obtain⟨h1,h2,⟨u0,v0,h3⟩,h4,h5⟩:=st;obtain⟨mj,qH,p1,rj⟩:=I.list oB;obtain⟨l9,qX,p2,sP⟩:=I.list nH;obtain⟨u,hu,ru⟩:=qH.get hx;obtain⟨v,hv,rv⟩:=qX.get hy;have hzs:n+4 < s.heap.objs.size:=aD h1;refine wpAny_pyNext_zip_item (c8 ha hb) h1 h2 h3 h4 h5 p1.isList p2.isList (x:=u) (y:=v) (by simpa using hu) (by simpa using hv) fun h' a1 a2 a3 a4 a5 a6 kk=>?_
  have k1:∀ c o,c∉[n+4,n+3,n,n+1]→s.heap.get? c=some o→h'.get? c=some o:=fun c o lR eo =>
   kk c o (fun z=>lR (by simp [z])) (fun z=>lR (by simp [z])) (fun z=>lR (by simp [z])) (fun z=>lR (by simp [z])) eo
  have sub:∀ c∈[n+4,n+3,n,n+1],c∈[n+4,n+2,n+3,n,n+1]:=fun c lR=>by
   simp only [au,aM,or_false] at lR ⊢;rcases lR with z | z | z | z <;> subst z <;> simp
  have vW:∀ c∈[n+4,n+3,n,n+1],∃ o,h'.get? c=some o:=fun c lR=>by
   simp only [au,aM,or_false] at lR;rcases lR with z | z | z | z <;> subst z
   ·exact⟨_,a1⟩
   ·exact⟨_,a2⟩
   ·obtain⟨o,e,_⟩:=a3; exact⟨o,e⟩
   ·obtain⟨o,e,_⟩:=a4; exact⟨o,e⟩
  have I1:Inv X lM σ (lP H s.heap.objs.size (.tup [x,y])) { s with heap:=h' } :=
   I.turnedNew (t':=s.toks) k1 (fun c lR=>hf c (sub c lR)) vW (ah _) ⟨zaC,_,.cons ru (.cons rv .nil),za8 a5⟩
  refine⟨_,rfl,wpAny_letOwnedTupleGo_zip a1 fun sZ rk m9=>?_⟩;have fr:∀ c∈[n+4,n+2,n+3,n,n+1],lP H s.heap.objs.size (.tup [x,y]) c=none:=fun c lR=>by
   have ml:c < s.heap.objs.size:=by
    simp only [au,aM,or_false] at lR;rcases lR with z | z | z | z | z <;> subst z <;> lia
   rw [zp (aZ ml)];exact (hf c lR).1
  have I2:Inv X lM σ (lP H s.heap.objs.size (.tup [x,y])) { s with heap:=sZ } :=
   Inv.turnedL (s:={ s with heap:=h' }) (ch:=[n+4]) (t':=s.toks) I1 (fun c o lR eo=>m9.extBut c o (by simpa using lR) eo) (fun c lR=>by
    have z:c=n+4:=by simpa using lR
    subst z;exact⟨fr _ #[M],(hf _ #[M]).2⟩) (fun c lR=>by
    have z:c=n+4:=by simpa using lR
    subst z;exact⟨_,rk⟩)
  refine⟨.ref s.heap.objs.size,_,I2,rfl,⟨_,x,y,I.fresh,rfl,rfl,fun zs hz=>by rw [I.list_inj hz oB]; exact hx,fun zs hz=>by rw [I.list_inj hz nH]; exact hy⟩,
   ⟨rk,m9.extBut _ _ (c8 ha hb).TIz (kk _ _ (c8 ha hb).TIz (c8 ha hb).TITO (c8 ha hb).TIi1 (c8 ha hb).TIi2 h2),⟨_,_,m9.extBut _ _ (c8 ha hb).TOz a2⟩,a3.extBut m9.extBut (c8 ha hb).i1z,a4.extBut m9.extBut (c8 ha hb).i2z⟩,fr⟩
 done:=by
  intro X hP hw hK hc i lM s σ H E I hf st hg;subst hP hw hK;obtain⟨xs,ys,oB,nH,hx⟩:=hg;obtain⟨h1,h2,⟨u0,v0,h3⟩,h4,h5⟩:=st;obtain⟨mj,qH,p1,rj⟩:=I.list oB;obtain⟨l9,qX,p2,sP⟩:=I.list nH;have rR:=qH.length;have n8:=qX.length;refine wpAny_pyNext_zip_end (I.ok.hd hc) (c8 ha hb) h1 h2 h3 h4 h5 p1.isList p2.isList ?_ fun h' kk=>⟨rfl,?_⟩
  ·rcases hx with z | z
   ·exact .inl (by simp; lia)
   ·exact .inr (by simp; lia)
  ·have hth:∀ c∈[n+4,n+3,n,n+1],c∈[n+4,n+2,n+3,n,n+1]:=fun c lR=>by
    simp only [au,aM,or_false] at lR ⊢;rcases lR with z | z | z | z <;> subst z <;> simp
   refine I.step (g':=s.gens) (d':=s.drawn) (t':=s.toks) (ch:=[n+4,n+3,n,n+1]) (fun c lR=>?_) (fun c o _ _ mU e _=>kk c o (fun z=>mU (by simp [z])) (fun z=>mU (by simp [z])) (fun z=>mU (by simp [z])) (fun z=>mU (by simp [z])) e)
    (fun c o _ _ mU e _=>⟨o.slots,kk c o (fun z=>mU (by simp [z])) (fun z=>mU (by simp [z])) (fun z=>mU (by simp [z])) (fun z=>mU (by simp [z])) e⟩) (fun _ _ _ _ n=>n)
    (fun c o mU e=>⟨o,kk c o (fun z=>mU (by simp [z])) (fun z=>mU (by simp [z])) (fun z=>mU (by simp [z])) (fun z=>mU (by simp [z])) e⟩) (fun _ _ e=>e) (fun _ _ _ e=>e) (fun c ps e=>⟨#[],by rw [e]; simp⟩) (fun m hm=>?_) (fun c u e=>?_) I.bare
   ·obtain⟨_,a1,_,a3,a4,a5⟩:=hf c (hth c lR);exact⟨a3,a1,a4,a5⟩
   ·obtain⟨o,uy,ep,ho,r⟩:=hm;have ne:∀ c∈[n+4,n+2,n+3,n,n+1],X.env.locals≠c:=fun c lR=>dk (hf c lR).2.1
    exact⟨o,uy,ep,kk _ o (ne _ #[M]) (ne _ #[M]) (ne _ #[M]) (ne _ #[M]) ho,r⟩
   ·have rd:∀ d u',H d=some u'→∀ c∈[n+4,n+2,n+3,n,n+1],d≠c:=fun d u' e' c lR z=>by rw [z,(hf c lR).1] at e'; cases e'
    refine (I.hok c u e).stay (fun d v' hd q=>kk d v' ?_ ?_ ?_ ?_ q) (fun _ q=>q) fun _ _ q=>q
    all_goals
     rcases hd with z | z
     ·rw [z]; exact rd c u e _ #[M]
     ·exact rd d _ z _ #[M]
 self:=fun _ _ _ _ _ st h=>fH st.1 h
def iZp (oG qr:Hp→Addr→List V→Prop) (ta:TA):TI:=fun σ H R=>ta σ H fun vs H1=>∃ a b xs ys,vs = [.ref a,.ref b]∧oG H1 a xs∧qr H1 b ys∧R (ziO oG qr a b) H1
theorem zdL {X:Cx} {es:List Expr} {k:Nat} {nP p pos:Pos} {a b:Expr} {ta:TA} (hg:Gl X "zip") (hm:X.mg "zip" = none) (ha:PA X [a,b] ta) (hs:starEach [a,b] X.env = [(false,eval a X.env),(false,eval b X.env)]:=by rfl) (nK:starEach [b] X.env = [(false,eval b X.env)]:=by rfl) :
  PI X (.Tuple es k nP) (.Call (.Name "zip" p) [a,b] [] pos) (iZp (lN X.K) (lN X.K) ta):=by
 intro lM s σ H R I h;refine Call_ (zbg I hg hm kA (bv (thn (ha pos lM s σ H _ I h) fun us s1 ⟨vs,H1,I1,r1,q1⟩=>?_) (by rw [hs,nK]) (by rw [nK]; rfl)));obtain⟨l1,l2,xs,ys,e,oB,nH,q⟩:=q1;subst e;cases r1 with
 | cons r rr =>
  cases rr with
  | cons r' rr =>
   cases rr;cases r;cases r';obtain⟨mj,qH,vz,rj⟩:=I1.list oB;obtain⟨l9,qX,vX,sP⟩:=I1.list nH;have oH:l1 < s1.heap.objs.size:=by obtain⟨_,_,e,_⟩:=vz; exact aD e
   have oI:l2 < s1.heap.objs.size:=by obtain⟨_,_,e,_⟩:=vX; exact aD e
   refine call_zip_2 vz.isList vX.isList fun h' b1 b2 b3 b4 b5 b6 kk=>?_
   have I2:Inv X lM σ H1 { s1 with heap:=h' }:=I1.kept (t':=s1.toks) kk;refine fH b1 ?_;refine⟨_,_,_,ziO (lN X.K) (lN X.K) l1 l2,H1,rfl,I2,ziP l1 l2 s1.heap.objs.size oH oI,⟨b1,b2,⟨_,_,b3⟩,b4,b5⟩,fun c hc=>?_,q⟩;have hle:s1.heap.objs.size≤c:=by
    simp only [au,aM,or_false] at hc;rcases hc with z | z | z | z | z <;> subst z <;> lia
   exact I1.fpOk hle (I1.hok.fresh hle)
def zf3 (Sq:Hp→Addr→List V→Prop) (a:Addr) (n:Nat):It :=
 ⟨fun i H=>i < n∧∃ xs,Sq H a xs∧xs.length=n,fun i H x H'=>H'=H∧∀ xs,Sq H a xs→xs[n - 1 - i]? = some x,fun i H=>n≤i⟩
theorem ziQ {P:Program} {w:World} {K:ag} {tg:Expr} (a it:Addr) (n:Nat):Turn P w K tg (zf3 (lN K) a n) [it] it (fun i h=>i≤n∧h.IsRevIter it a ((n:Int) - 1 - (i:Int))) where
 mem:=by simp
 obj:=fun i h st b hb=>by
  have z:b=it:=by simpa using hb
  subst z;obtain⟨_,o,e,c,d⟩:=st;exact⟨o,e,fun v z=>by rw [d] at z; cases z⟩
 keep:=fun i h h' st k=>⟨st.1,st.2.at fun o e=>k it #[M] o e⟩
 item:=by
  intro X hP hw hK hc i lM s σ H E I hf st hg;subst hP hw hK;obtain⟨qt,xs,hq,hl⟩:=hg;obtain⟨lO,rv,p,hz⟩:=I.list hq;have lT:=rv.length;obtain⟨x,hx⟩:∃ x,xs[n - 1 - i]? = some x:=⟨xs[n - 1 - i]'#[O],#[M]⟩;obtain⟨u,hu,ru⟩:=rv.get hx;obtain⟨f0,f1,f2,f3,f4,f5⟩:=hf it #[M];have e:(n:Int) - 1 - (i:Int)=((n - 1 - i:Nat):Int):=by lia
  have hit:=st.2;rw [e] at hit;refine wpAny_pyNext_rev_item hit p.isList (x:=u) (by simpa using hu) fun h' lQ sb=>?_
  have I1:Inv X lM σ H { s with heap:=h' }:=I.turned (t':=s.toks) (fun b o hb e=>(sb.2 b hb).trans e) f0 f1 f3 f4 f5;have e2:((n - 1 - i:Nat):Int) - 1=(n:Int) - 1 - ((i+1:Nat):Int):=by lia
  rw [e2] at lQ;obtain⟨o,eo,c,d⟩:=id lQ;exact⟨u,rfl,zfX (s:={ s with heap:=h' }) eo c d #[D] ⟨x,H,I1,ru,⟨rfl,fun ys hy=>by rw [I.list_inj hy hq]; exact hx⟩,⟨qt,lQ⟩,fun b hb=>(hf b hb).1⟩⟩
 done:=by
  intro X hP hw hK hc i lM s σ H E I hf st hg;subst hP hw hK;obtain⟨f0,f1,f2,f3,f4,f5⟩:=hf it #[M];have qt:n≤i:=hg;have e:(n:Int) - 1 - (i:Int) = -1:=by have:=st.1; lia
  have hit:=st.2;rw [e] at hit;exact wpAny_pyNext_rev_end (I.ok.hd hc) hit fun h' eb=>⟨rfl,I.turned (t':=s.toks) (fun b o hb e=>eb b o hb e) f0 f1 f3 f4 f5⟩
 self:=fun _ _ _ _ _ st h=>je st.2 h
end L2
end
section
namespace PySem
namespace F
theorem zeZ:Manifest.owners.lookup (String.ofList ['d','e','s','r','e','v','e','r'].reverse)=some Manifest.sig_reversed:=by kernel_rfl
theorem slot_rvd_next:Slot "reversed" "__next__" "reversed.__next__" :=
 .of (owner:="reversed") (n:="__next__") (by rw [fU,eC]; kernel_rfl) #[N] #[N] #[N] (by first | exact .inl #[N] | exact .inr #[N]) (by rw [gg]; kernel_rfl)
theorem entry_rvd_next:entryFor table "reversed.__next__" = some Builtin.«reversed.__next__»:=entryFor_of_tree (by kernel_rfl)
theorem args_rvd_next_1 (a:Value):argsOk "reversed.__next__" ⟨[a],[]⟩:=by
 unfold argsOk; rw [signature?_of (id:="reversed.__next__") (n:=['_','_','t','x','e','n','_','_']) (o:=['d','e','s','r','e','v','e','r']) (by kernel_rfl) zeZ]; kernel_rfl
theorem slot_rvd_iter:Slot "reversed" "__iter__" "reversed.__iter__" :=
 .of (owner:="reversed") (n:="__iter__") (by rw [fU,eC]; kernel_rfl) #[N] #[N] #[N] (by first | exact .inl #[N] | exact .inr #[N]) (by rw [gg]; kernel_rfl)
theorem args_rvd_iter_1 (a:Value):argsOk "reversed.__iter__" ⟨[a],[]⟩:=by
 unfold argsOk; rw [signature?_of (id:="reversed.__iter__") (n:=['_','_','r','e','t','i','_','_']) (o:=['d','e','s','r','e','v','e','r']) (by kernel_rfl) zeZ]; kernel_rfl
theorem entry_rvd_iter:entryFor table "reversed.__iter__" = some Builtin.«dict_keyiterator.__iter__»:=entryFor_alias (id':="dict_keyiterator.__iter__") (by kernel_rfl) (by first | rfl | decide +kernel | (unfold String.splitOn; simp +decide [String.splitOnAux])) #[N] (by kernel_rfl)
theorem zeC:Slot "reversed" "__init__" "object.__init__":=.of (owner:="object") (n:="__init__") (by rw [fU,eC]; kernel_rfl) #[N] #[N] #[N] (by first | exact .inl #[N] | exact .inr #[N]) (by rw [gg]; kernel_rfl)
theorem called_rvd:TypeCalled "reversed" "reversed.__new__" "object.__init__" :=
 ⟨#[N],#[N],⟨_,_,mro_reversed⟩,made_reversed,#[N],by rw [gg]; kernel_rfl,zeC⟩
theorem noRev_tuple:typeLookup (.type "tuple") "__reversed__" = pure none:=by rw [fU,eC]; kernel_rfl
end F
def zfq (l:Addr) (i:Int):Obj:={ cls:=.type "reversed",data:=.fields #[.ref l,rawInt i] }
def Heap.IsRvd (h:Heap) (a l:Addr) (i:Int):Prop:=∃ o,h.get? a=some o∧o.cls = .type "reversed"∧o.data = .fields #[.ref l,rawInt i]
theorem Heap.IsRvd.typeIs {s:Shared} {a l:Addr} {i:Int} (x:s.heap.IsRvd a l i):s.TypeIs (.ref a) "reversed":=let ⟨o,ho,hc,_⟩:=x; ⟨o,ho,hc⟩
theorem Heap.IsRvd.at {h h':Heap} {a l:Addr} {i:Int} (x:h.IsRvd a l i) (e:∀ o,h.get? a=some o→h'.get? a=some o):h'.IsRvd a l i:=let ⟨o,ho,r⟩:=x; ⟨o,e _ ho,r⟩
open PyProof.Rows in
theorem zeD (l:Addr) (lS:Array Value) :
  Meets (Builtin.«reversed.__new__» ⟨[.type "reversed",.ref l],[]⟩) (fun _ R s=>IsTup s.heap l lS∧(lS.size:Int) < 2 ^ 63 ∧
   R (.ok (.ret (.ref s.heap.objs.size))) { s with heap:=s.heap.push (zfq l ((lS.size:Int) - 1)),toks:=s.toks+1+1 }) :=
 .of_wp fun prog w A R s h=>by
  obtain⟨hl,hsz,h⟩:=h;unfold Builtin.«reversed.__new__»; refine aa (eh (newClass_reversed _) ?_)
  try dsimp only
  iterate 2 refine aa (eh (a:=()) (by first | rfl | kernel_rfl) ?_)
  try dsimp only
  refine aa (dE hl.typeIs F.noRev_tuple ?_)
  try dsimp only
  refine aa (aa (m:=isInstance (.ref l) (.type "dict")) (cW hl.typeIs F.sub_tuple_dict ?_));simp only [aT,if_false]; refine aa (m:=specialOf (.ref l) "__getitem__") (dE hl.typeIs slot_tuple_getitem.lookup ?_);refine ai ?_
  try dsimp only
  try simp only [dZ,aT,if_false]
  refine aa (len_tuple hl hsz ?_);refine aa (m:=asInt? _) (eh (a:=some (lS.size:Int)) rfl ?_)
  try dsimp only
  refine aa (m:=k7 _ _) ?_;show wpAny _ _ (newObj (.type "reversed") (.fields #[.ref l,rawInt ((lS.size:Int) - 1)]) none) _ _ _;refine cu ?_;exact ai ⟨_,rfl,h⟩
section
variable {prog:Program} {w:World} {A:Around} {E:Value→Shared→Prop} {s:Shared}
open PyProof.Rows
theorem zd7 {l:Addr} {lS:Array Value} {Q:Value→Shared→Prop} (hl:IsTup s.heap l lS) (hsz:(lS.size:Int) < 2 ^ 63)
  (h:Q (.ref s.heap.objs.size) { s with heap:=s.heap.push (zfq l ((lS.size:Int) - 1)),toks:=s.toks+1+1 }):wpAny (model prog w) A (call (.type "reversed") [.ref l]) Q E s:=by
 refine ik F.called_rvd #[D] (F.typeCall_reversed_1 _) (F.newCall_reversed_1 _) (fun obj=>jf obj _) F.entry_reversed_new (zeD l lS) ⟨hl,hsz,?_⟩; exact⟨⟨_,aC _ rfl,rfl⟩,h⟩
theorem zcb {it l:Addr} {i:Nat} {lS:Array Value} {x:Value} {Q:Option Value→Shared→Prop} (hit:s.heap.IsRvd it l (i:Int)) (hl:IsTup s.heap l lS) (hx:lS[i]? = some x) (hi:(i:Int) < 2 ^ 62)
  (hQ:∀ h',h'.IsRvd it l ((i:Int) - 1)→be it s.heap h'→Q (some x) { s with heap:=h',toks:=s.toks+1 }):wpAny (model prog w) A (pyNext (.ref it)) Q E s:=by
 obtain⟨o,ho,hc,hd⟩:=id hit; unfold pyNext;refine aa (cn (br (name:=bU "__next__") hit.typeIs F.slot_rvd_next
  (bj F.slot_rvd_next hit.typeIs F.entry_rvd_next ?_ (F.args_rvd_next_1 _))))
 unfold Builtin.«reversed.__next__»;refine aa (eh (a:=(aE it,[])) rfl ?_); try dsimp only
 refine aa (bz ho hd (x:=.ref l) rfl ?_); refine aa (bz ho hd (x:=rawInt (i:Int)) rfl ?_);show wpAny _ _ (if (i:Int) < 0 then _ else _) _ _ s; rw [if_neg #[O]];refine aa (dE hl.typeIs slot_tuple_getitem.lookup ?_)
 try simp only [Option.isNone_some,aT,if_false]
 refine aa (wpAny_mkInt ?_); have ml:i < lS.size:=by
  obtain⟨h1,_⟩:=cV.mp hx;exact h1
 refine aa (cn (getItem_tuple (j:=i) hl #[O] #[O] (by rw [gq #[O] #[O]]; simp) hx ?_))
 try dsimp only
 refine aa (bz (s:={ s with toks:=s.toks+1 }) ho hd (x:=rawInt (i:Int)) rfl ?_);show wpAny _ _ (setField (.ref it) 1 (rawInt ((i:Int) - 1)) >>= _) _ _ _;refine aa (dO (s:={ s with toks:=s.toks+1 }) ho hd #[M] (ai ⟨x,rfl,ai (hQ _ ?_ (cS ..))⟩));exact⟨_,dC _ ho (eD (cX hd _)),(gS ..).trans hc,by rw [cX hd]; simp⟩
theorem zch {it l:Addr} {Q:Option Value→Shared→Prop} (hh:A.handled=none) (hit:s.heap.IsRvd it l (-1)) (hQ:∀ h',kq it s.heap h'→Q none { s with heap:=h' }):wpAny (model prog w) A (pyNext (.ref it)) Q E s:=by
 obtain⟨o,ho,hc,hd⟩:=id hit; unfold pyNext;refine aa (cn (br (name:=bU "__next__") hit.typeIs F.slot_rvd_next
  (bj F.slot_rvd_next hit.typeIs F.entry_rvd_next ?_ (F.args_rvd_next_1 _))))
 unfold Builtin.«reversed.__next__»;refine aa (eh (a:=(aE it,[])) rfl ?_); try dsimp only
 refine aa (bz ho hd (x:=.ref l) rfl ?_); refine aa (bz ho hd (x:=rawInt (-1)) rfl ?_);show wpAny _ _ (if (-1:Int) < 0 then _ else _) _ _ s; rw [if_pos #[D]];refine aa (cg ?_);refine aa (aa (m:=setField (.ref it) 1 (rawInt (-1))) (dO ho hd #[M] ?_));have hd2:=cX hd (·.setIfInBounds 1 (rawInt (-1)));have rf:=dC (gK (·.setIfInBounds 1 (rawInt (-1)))) ho (eD hd2);refine dO rf hd2 #[M] ?_
 try dsimp only
 refine aa ?_; show wpAny _ _ (newExc (.type "StopIteration") [] >>= _) _ _ _;refine aa ?_;simp only [newExc,newTuple];refine aa (cu ?_ (by size_fits)); refine aa (m:=firstArgMember _ _) (eh (a:=cw) (by first | rfl | (simp only [firstArgMember]; rfl)) ?_);refine cu ?_ (by size_fits); simp only [raiseNew];refine aa (jo ?_); first | rw [show A.in1.handled=none from hh] | rw [hh]
 refine aa (ai (kr ?_)); refine aa (cW (T:="StopIteration") (b:=true) ⟨_,aC _ rfl,rfl⟩ gh ?_);exact ai (hQ _ ((((cS ..).extBut.trans (cS ..).extBut).push _).push _))
theorem zbP {it l:Addr} {i:Int} {Q:Value→Shared→Prop} (hit:s.heap.IsRvd it l i) (h:Q (.ref it) s):wpAny (model prog w) A (pyIter (.ref it)) Q E s:=by
 refine gT hit.typeIs F.slot_rvd_iter (bj F.slot_rvd_iter hit.typeIs F.entry_rvd_iter ?_ (F.args_rvd_iter_1 _));show wpAny _ _ (ret (.ref it)) _ _ s; exact ai ⟨_,rfl,"reversed",_,hit.typeIs,F.slot_rvd_next.lookup,h⟩
end
section
variable {prog:Program} {w:World} {A:Around} {E:Value→Shared→Prop} {s:Shared}
theorem zf4 {it t:Addr} {i:Nat} {lS:Array Value} {x:Value} {Q:Value→Shared→Prop} (hit:s.heap.IsTupleIter it t i) (ht:s.heap.IsTuple t lS) (hx:lS[i]? = some x)
  (hQ:∀ h',h'.IsTupleIter it t (i+1)→be it s.heap h'→Q x { s with heap:=h' }):wpAny (model prog w) A (ba (.ref it)) Q E s:=by
 obtain⟨o,ho,hc,hd⟩:=id hit; obtain⟨ot,CM,_,nt,CN⟩:=ht;unfold ba; refine aa (br (name:=bU "__next__") hit.typeIs dF (bj dF hit.typeIs gz ?_ (gi _)));show wpAny _ _ (field (.ref it) 0 >>= _) _ _ s; refine aa (bz ho hd (x:=.ref t) rfl ?_); show wpAny _ _ (if (aE t == cw)=true then _ else _) _ _ _; rw [if_neg (by exact aJ)];refine aa (bz ho hd (x:=.int _ 0) rfl ?_); refine aa (m:=seqItems? _) (cP CM CN ?_); simp only [bf,hx];have hn:=dC (gK (·.setIfInBounds 1 (rawInt ((i+1:Nat):Int)))) ho (eD (cX hd _));refine aa (dO ho hd #[M] (ai ⟨x,rfl,ai (hQ _ ⟨_,hn,(gS ..).trans hc,?_⟩ (cS ..))⟩)); rw [cX hd]; simp [rawInt]
theorem zf5 {it t:Addr} {i:Nat} {lS:Array Value} {Q:Value→Shared→Prop} (hh:A.handled=none) (hit:s.heap.IsTupleIter it t i) (ht:s.heap.IsTuple t lS) (hx:lS[i]? = none)
  (hE:∀ h' e,kq it s.heap h'→(∃ o,h'.get? e=some o∧o.cls = .type "StopIteration")→E (.ref e) { s with heap:=h' }):wpAny (model prog w) A (ba (.ref it)) Q E s:=by
 obtain⟨o,ho,hc,hd⟩:=id hit; obtain⟨ot,CM,_,nt,CN⟩:=ht;unfold ba; refine aa (br (name:=bU "__next__") hit.typeIs dF (bj dF hit.typeIs gz ?_ (gi _)));show wpAny _ _ (field (.ref it) 0 >>= _) _ _ s; refine aa (bz ho hd (x:=.ref t) rfl ?_); show wpAny _ _ (if (aE t == cw)=true then _ else _) _ _ _; rw [if_neg (by exact aJ)];refine aa (bz ho hd (x:=.int _ 0) rfl ?_); refine aa (m:=seqItems? _) (cP CM CN ?_); simp only [bf,hx];refine aa (cg (aa (dO ho hd #[M] ?_))); show wpAny _ _ (newExc (.type "StopIteration") [] >>= _) _ _ _; refine aa ?_;simp only [newExc,newTuple]; refine aa (cu ?_ (by size_fits)); refine aa (m:=firstArgMember _ _) (eh (a:=cw) (by first | rfl | (simp only [firstArgMember]; rfl)) ?_);refine cu ?_ (by size_fits); simp only [raiseNew]; refine aa (jo ?_); first | rw [show A.in1.handled=none from hh] | rw [hh]
 refine aa (ai (kr ?_)); exact hE _ _ (((cS ..).extBut.push _).push _) ⟨_,aC _ rfl,rfl⟩
end
theorem Draws.tuple {prog:Program} {w:World} {A:Around} (hh:A.handled=none) (it t:Addr) (m6:t≠it) (lS:Array Value):Draws prog w A it [it,t] lS.size (fun i v=>lS[i]? = some v) (fun i h=>h.IsTupleIter it t i∧h.IsTuple t lS) where
 live:=fun i h st=>st.1.imp fun o r=>r.1
 frame:=fun i h h' st kk=>⟨st.1.at fun o=>kk it #[M] o,st.2.at fun o=>kk t #[M] o⟩
 item:=fun i s Q E hi st hQ=>zf4 st.1 st.2 (x:=lS[i]) (by simp [hi]) fun h' a b=>hQ _ h' s.toks (by simp [hi]) ⟨a,st.2.extBut b.extBut m6⟩ b
 done:=fun s Q E st hE=>zf5 hh st.1 st.2 #[M] hE
def zb9 (t:Addr):Obj:={ cls:=.type "tuple_iterator",data:=.fields #[.ref t,.int 0 0] }
def zke (it:Addr):Obj:={ cls:=.type "enumerate",data:=.fields #[.none,.bool false,.ref it,rawInt 0,.none,.none] }
end PySem
namespace L2
open PySem PySem.Spec PyProof.Rows
theorem ziR {P:Program} {w:World} {K:ag} {tg:Expr} (a it:Addr) (n:Nat):Turn P w K tg (zf3 (lX K) a n) [it] it (fun i h=>i≤n∧h.IsRvd it a ((n:Int) - 1 - (i:Int))) where
 mem:=by simp
 obj:=fun i h st b hb=>by
  have z:b=it:=by simpa using hb
  subst z;obtain⟨_,o,e,c,d⟩:=st;exact⟨o,e,fun v z=>by rw [d] at z; cases z⟩
 keep:=fun i h h' st k=>⟨st.1,st.2.at fun o e=>k it #[M] o e⟩
 item:=by
  intro X hP hw hK hc i lM s σ H E I hf st hg;subst hP hw hK;obtain⟨qt,xs,hq,hl⟩:=hg;obtain⟨lO,rv,p,hz⟩:=I.tuple hq;have lT:=rv.length;have qu:=bt;obtain⟨x,hx⟩:∃ x,xs[n - 1 - i]? = some x:=⟨xs[n - 1 - i]'#[O],#[M]⟩;obtain⟨u,hu,ru⟩:=rv.get hx;obtain⟨f0,f1,f2,f3,f4,f5⟩:=hf it #[M];have e:(n:Int) - 1 - (i:Int)=((n - 1 - i:Nat):Int):=by lia
  have hit:=st.2;rw [e] at hit;refine zcb hit p (x:=u) (by simpa using hu) #[O] fun h' lQ sb=>?_
  have I1:Inv X lM σ H { s with heap:=h',toks:=s.toks+1 }:=I.turned (t':=s.toks+1) (fun b o hb e=>(sb.2 b hb).trans e) f0 f1 f3 f4 f5;have e2:((n - 1 - i:Nat):Int) - 1=(n:Int) - 1 - ((i+1:Nat):Int):=by lia
  rw [e2] at lQ;obtain⟨o,eo,c,d⟩:=id lQ;exact⟨u,rfl,zfX (s:={ s with heap:=h',toks:=s.toks+1 }) eo c d #[D] ⟨x,H,I1,ru,⟨rfl,fun ys hy=>by rw [I.tuple_inj hy hq]; exact hx⟩,⟨qt,lQ⟩,fun b hb=>(hf b hb).1⟩⟩
 done:=by
  intro X hP hw hK hc i lM s σ H E I hf st hg;subst hP hw hK;obtain⟨f0,f1,f2,f3,f4,f5⟩:=hf it #[M];have qt:n≤i:=hg;have e:(n:Int) - 1 - (i:Int) = -1:=by have:=st.1; lia
  have hit:=st.2;rw [e] at hit;exact zch (I.ok.hd hc) hit fun h' eb=>⟨rfl,I.turned (t':=s.toks) (fun b o hb e=>eb b o hb e) f0 f1 f3 f4 f5⟩
 self:=fun _ _ _ _ _ st h=>zbP st.2 h
theorem zfr {X:Cx} {tg:Expr} {lM:List (Addr×Obj)} {σ:St} {H1:Hp} {s1:Shared} {R:It→Hp→Prop} {l:Addr} {xs:List V} (I1:Inv X lM σ H1 s1) (hq:lX X.K H1 l xs) (q:R (zf3 (lX X.K) l xs.length) H1) :
  wpAny (model X.prog X.w) X.A (call (.type "reversed") [.ref l]) (fun v s2=>wpAny (model X.prog X.w) X.A (pyIter v) (PIE X lM σ tg R) X.xe s2) X.xe s1:=by
 obtain⟨lO,rv,pl,hz⟩:=I1.tuple hq;have lT:=rv.length;have qu:=bt;refine zd7 pl (by rw [am]; lia) ?_;have I2:Inv X lM σ H1 { s1 with heap:=s1.heap.push (zfq l ((lO.toArray.size:Int) - 1)),toks:=s1.toks+1+1 }:=I1.kept fun b o e=>af _ e
 have hr:(s1.heap.push (zfq l ((lO.toArray.size:Int) - 1))).IsRvd s1.heap.objs.size l ((xs.length:Int) - 1 - ((0:Nat):Int)):=by
  refine⟨_,aC _ rfl,rfl,?_⟩;have e1:(lO.toArray.size:Int) - 1=(xs.length:Int) - 1 - ((0:Nat):Int):=by rw [am,lT]; lia
  show ko #[.ref l,rawInt ((lO.toArray.size:Int) - 1)]=_;rw [e1]
 refine zbP hr ?_;refine⟨_,[s1.heap.objs.size],_,zf3 (lX X.K) l xs.length,H1,rfl,I2,ziR l s1.heap.objs.size xs.length,⟨bo _,hr⟩,fun b hb=>?_,q⟩;have z:b=s1.heap.objs.size:=by simpa using hb
 subst z;exact I1.fpOk (ah _) (I1.hok.fresh (ah _))
theorem zf6 {X:Cx} {tg:Expr} {lM:List (Addr×Obj)} {σ:St} {H1:Hp} {s1:Shared} {R:It→Hp→Prop} {l:Addr} {xs:List V} (I1:Inv X lM σ H1 s1) (hq:lN X.K H1 l xs) (q:R (zf3 (lN X.K) l xs.length) H1) :
  wpAny (model X.prog X.w) X.A (call (.type "reversed") [.ref l]) (fun v s2=>wpAny (model X.prog X.w) X.A (pyIter v) (PIE X lM σ tg R) X.xe s2) X.xe s1:=by
 obtain⟨lO,rv,pl,hz⟩:=I1.list hq;have lT:=rv.length;refine call_reversed_list pl.isList ?_;have I2:Inv X lM σ H1 { s1 with heap:=s1.heap.push (revObj l ((lO.toArray.size:Int) - 1)) }:=I1.kept (t':=s1.toks) fun b o e=>af _ e
 have hr:(s1.heap.push (revObj l ((lO.toArray.size:Int) - 1))).IsRevIter s1.heap.objs.size l ((xs.length:Int) - 1 - ((0:Nat):Int)):=by
  refine⟨_,aC _ rfl,rfl,?_⟩;have e1:(lO.toArray.size:Int) - 1=(xs.length:Int) - 1 - ((0:Nat):Int):=by rw [am,lT]; lia
  show ko #[.ref l,rawInt ((lO.toArray.size:Int) - 1)]=_;rw [e1]
 refine je hr ?_;refine⟨_,[s1.heap.objs.size],_,zf3 (lN X.K) l xs.length,H1,rfl,I2,ziQ l s1.heap.objs.size xs.length,⟨bo _,hr⟩,fun b hb=>?_,q⟩;have z:b=s1.heap.objs.size:=by simpa using hb
 subst z;exact I1.fpOk (ah _) (I1.hok.fresh (ah _))
def zoA (K:ag) (ta:TA):TI:=fun σ H R=>ta σ H fun vs H1=>∃ a xs,vs = [.ref a]∧((lN K H1 a xs∧R (zf3 (lN K) a xs.length) H1)∨(lX K H1 a xs∧R (zf3 (lX K) a xs.length) H1))
theorem zne {X:Cx} {tg:Expr} {p pos:Pos} {a:Expr} {ta:TA} (hg:Gl X "reversed") (hm:X.mg "reversed" = none) (ha:PA X [a] ta) (hs:starEach [a] X.env = [(false,eval a X.env)]:=by rfl) :
  PI X tg (.Call (.Name "reversed" p) [a] [] pos) (zoA X.K ta):=by
 intro lM s σ H R I h;refine Call_ (zbg I hg hm boot_reversed (bv (thn (ha pos lM s σ H _ I h) fun us s1 ⟨vs,H1,I1,r1,q1⟩=>?_) hs rfl));obtain⟨l,xs,e,hq⟩:=q1;subst e;cases r1 with
 | cons r rr =>
  cases rr;cases r;rcases hq with ⟨hq,q⟩ | ⟨hq,q⟩
  ·exact zf6 I1 hq q
  ·exact zfr I1 hq q
inductive EqD (K:ag) (H:Hp):Nat→V→V→Bool→Prop where
 | flat {d:Nat} {x y:V} (hx:zcA x=true) (hy:zcA y=true):EqD K H d x y (eqV x y)
 | same {d:Nat} {a:Addr}:EqD K H d (.ref a) (.ref a) true
 | lists {d:Nat} {a b:Addr} {xs ys:List V} {e:Nat→Bool} (m6:a≠b) (ha:lN K H a xs) (hb:lN K H b ys) (hl:xs.length=ys.length)
   (he:∀ (j:Nat) x y,xs[j]? = some x→ys[j]? = some y→EqD K H d x y (e j)):EqD K H (d+1) (.ref a) (.ref b) ((bg xs.length).all e)
 | lens {d:Nat} {a b:Addr} {xs ys:List V} (m6:a≠b) (ha:lN K H a xs) (hb:lN K H b ys) (hl:xs.length≠ys.length):EqD K H (d+1) (.ref a) (.ref b) false
 | tups {d:Nat} {a b:Addr} {xs ys:List V} {e:Nat→Bool} (m6:a≠b) (ha:lX K H a xs) (hb:lX K H b ys)
   (he:∀ (j:Nat) x y,xs[j]? = some x→ys[j]? = some y→EqD K H d x y (e j)):EqD K H (d+1) (.ref a) (.ref b) ((bg (min xs.length ys.length)).all e && xs.length == ys.length)
theorem zG.getE {xs:List V} {us:List Value} (r:zG xs us) {j:Nat} (h:j < us.toArray.size):∃ x,xs[j]? = some x∧RelV x us.toArray[j]:=by
 have hl:=r.length;have hj:j < xs.length:=by rw [hl]; simpa using h
 obtain⟨u,hu,ru⟩:=r.get (i:=j) (x:=xs[j]) #[M];refine⟨xs[j],#[M],?_⟩;have:us.toArray[j]=u:=by
  have h2:j < us.length:=by simpa using h
  rw [ao h2] at hu;simpa using aG hu
 rw [this];exact ru
theorem EqD.at {X:Cx} {lM:List (Addr×Obj)} {σ:St} {H:Hp} {s:Shared} (I:Inv X lM σ H s) {d:Nat} {x y:V} {b:Bool} (h:EqD X.K H d x y b) :
  ∀ (A:Around) (u v:Value),RelV x u→RelV y v→A.units+d < cLine→g6 A s u v b:=by
 induction h with
 | flat hx hy=>exact fun A u v rx ry _=>zj2 rx ry hx hy
 | same=>intro A u v rx ry _; cases rx; cases ry; exact kJ _
 | lists m6 ha hb hl he ih =>
  intro A u v rx ry hu;cases rx; cases ry;obtain⟨xH,r1,p1,_⟩:=I.list ha;obtain⟨xI,r2,p2,_⟩:=I.list hb;have l1:=r1.length;have l2:=r2.length;refine gA m6 ?_;have q:=SeqAt.RcAt.lists (A:=A) p1.isList p2.isList (by simp only [am]; lia) #[O] fun j h1 h2=>by
   obtain⟨x,hx,rx⟩:=r1.getE h1;obtain⟨y,hy,ry⟩:=r2.getE h2;exact ih j x y hx hy A.in1 _ _ rx ry (by simp only [cG]; lia)
  rw [am,← l1] at q;exact q
 | lens m6 ha hb hl =>
  intro A u v rx ry hu;cases rx; cases ry;obtain⟨xH,r1,p1,_⟩:=I.list ha;obtain⟨xI,r2,p2,_⟩:=I.list hb;have l1:=r1.length;have l2:=r2.length;exact gA m6 (SeqAt.RcAt.lists_lengths p1.isList p2.isList (by simp only [am,bne_iff_ne]; lia) #[O])
 | tups m6 ha hb he ih =>
  intro A u v rx ry hu;cases rx; cases ry;obtain⟨xH,r1,p1,_⟩:=I.tuple ha;obtain⟨xI,r2,p2,_⟩:=I.tuple hb;have l1:=r1.length;have l2:=r2.length;refine gA m6 ?_;have q:=SeqAt.RcAt.tuples (A:=A) (s:=s) p1 p2 #[O] fun j h1 h2=>by
   obtain⟨x,hx,rx⟩:=r1.getE h1;obtain⟨y,hy,ry⟩:=r2.getE h2;exact ih j x y hx hy A.in1 _ _ rx ry (by simp only [cG]; lia)
  rw [am,am,← l1,← l2] at q;exact q
def zlG (K:ag) (neg:Bool):R2:=fun x y H Q=>∃ a b xs ys,x = .ref a∧y = .ref b∧((lN K H a xs∧lN K H b ys)∨(lX K H a xs∧lX K H b ys)) ∧
 ((xs.length≠ys.length∧(∀ (j:Nat) x y,xs[j]? = some x→ys[j]? = some y→∃ c,EqD K H 8 x y c)∧Q (.bl neg) H) ∨
  (xs.length=ys.length∧∃ e:Nat→Bool,(∀ (j:Nat) x y,xs[j]? = some x→ys[j]? = some y→EqD K H 8 x y (e j))∧Q (.bl (if neg then !(bg xs.length).all e else (bg xs.length).all e)) H))
theorem zg6 {X:Cx} (hu:X.A.units+20 < cLine):OpR X (compareOp .NotEq) (zlG X.K true):=by
 intro lM s σ H x y v u Q I rx ry h;obtain⟨a,b,xs,ys,rfl,rfl,hk,h⟩:=h;cases rx; cases ry;rcases hk with ⟨ha,hb⟩ | ⟨ha,hb⟩
 ·obtain⟨xH,r1,p1,_⟩:=I.list ha;obtain⟨xI,r2,p2,_⟩:=I.list hb;have l1:=r1.length;have l2:=r2.length;rcases h with ⟨hl,_,q⟩ | ⟨hl,e,he,q⟩
  ·exact SeqAt.RcNeAt.lists_lengths p1.isList p2.isList (by simp only [am,bne_iff_ne]; lia) #[O] _ _ _ _ ⟨.bl true,H,I,rfl,q⟩
  ·refine SeqAt.RcNeAt.lists p1.isList p2.isList (e:=e) (by simp only [am]; lia) #[O] (fun j h1 h2=>?_) _ _ _ _ ⟨.bl _,H,I,rfl,?_⟩
   ·obtain⟨x,hx,rx⟩:=r1.getE h1;obtain⟨y,hy,ry⟩:=r2.getE h2;exact (he j x y hx hy).at I _ _ _ rx ry (by simp only [cG]; lia)
   ·rw [am,← l1];exact q
 ·obtain⟨xH,r1,p1,_⟩:=I.tuple ha;obtain⟨xI,r2,p2,_⟩:=I.tuple hb;have l1:=r1.length;have l2:=r2.length;rcases h with ⟨hl,he,q⟩ | ⟨hl,e,he,q⟩
  ·have Ag:∀ j:Nat,∃ c:Bool,∀ x y,xs[j]? = some x→ys[j]? = some y→EqD X.K H 8 x y c:=fun j=>by
    cases hx:xs[j]? with
    | none=>exact⟨true,fun x y z=>by cases z⟩
    | some x =>
     cases hy:ys[j]? with
     | none=>exact⟨true,fun x y _ z=>by cases z⟩
     | some y =>
      obtain⟨c,hc⟩:=he j x y hx hy;exact⟨c,fun x' y' z1 z2=>by cases z1; cases z2; exact hc⟩
   obtain⟨e,sd⟩:=Classical.axiomOfChoice Ag;refine jx (s:=s) p1 p2 (e:=e) #[O] (fun j h1 h2=>?_) _ _ _ _ ⟨.bl _,H,I,rfl,?_⟩
   ·obtain⟨x,hx,rx⟩:=r1.getE h1;obtain⟨y,hy,ry⟩:=r2.getE h2;exact (sd j x y hx hy).at I _ _ _ rx ry (by simp only [cG]; lia)
   ·have vQ:(xH.toArray.size == xI.toArray.size)=false:=by
     rw [am,am]; exact beq_eq_false_iff_ne.mpr #[O]
    rw [vQ,k6];exact q
  ·refine jx (s:=s) p1 p2 (e:=e) #[O] (fun j h1 h2=>?_) _ _ _ _ ⟨.bl _,H,I,rfl,?_⟩
   ·obtain⟨x,hx,rx⟩:=r1.getE h1;obtain⟨y,hy,ry⟩:=r2.getE h2;exact (he j x y hx hy).at I _ _ _ rx ry (by simp only [cG]; lia)
   ·have vQ:(xH.toArray.size == xI.toArray.size)=true:=by
     rw [am,am]; exact beq_iff_eq.mpr #[O]
    have CP:min xH.toArray.size xI.toArray.size=xs.length:=by rw [am,am]; lia
    rw [vQ,ly,CP];exact q
theorem zf7 {X:Cx}:zbB X (.builtin "isinstance") (fun xs H Q=>∃ x t n b,xs = [x,.ty n]∧TyOf X.K H x t∧a8 X.K t (.type n)=some b∧Q (.bl b) H):=by
 intro lM s σ H xs us Q I r h;obtain⟨x,t,n,b,rfl,ty,hk,q⟩:=h;obtain⟨u,u',rfl,rx,r2⟩:=vals2 r;cases r2;exact ziH I rx ty hk fun tk=>⟨.bl b,H,I.tok tk,rfl,q⟩
theorem zdr {X:Cx}:zbB X (.type "range") (fun xs H Q=>∃ j:Int,xs = [.int j]∧∀ l,H l=none→Q (.ref l) (lP H l (.rng 0 j))):=by
 intro lM s σ H xs us Q I r h;obtain⟨j,rfl,q⟩:=h;obtain⟨u,rfl,t,rfl⟩:=vals1 r;refine call_range_1 ?_;exact⟨.ref s.heap.objs.size,_,I.laid (o:=.rng 0 j) (fun b o e=>af _ e) (ah _) ⟨_,_,_,aC _ rfl⟩,rfl,q _ I.fresh⟩
def zat (lo:Int) (n:Nat):List Int:=(bg n).map fun (i:Nat)=>lo+(i:Int)
theorem zcD (lo:Int) (n:Nat):(zat lo n).length=n:=by simp [zat]
theorem zeE {acc:Array Value} {lo:Int} {n:Nat} (h:ItemsOf (fun i v=>∃ t,v = .int (lo+(i:Nat)*1) t) acc n):zG ((zat lo n).map V.int) acc.toList:=by
 obtain⟨hsz,hv⟩:=h;have go:∀ (us:List Value) (k:Nat),(∀ (j:Nat) v,us[j]? = some v→∃ t,v = .int (lo+((k+j:Nat):Int)) t)→zG (((bg us.length).map fun (i:Nat)=>V.int (lo+((k+i:Nat):Int)))) us:=by
  intro us;induction us with
  | nil=>intro k _; exact .nil
  | cons u us ih =>
   intro k hu;rw [bG,iI,aR,bh];refine .cons ?_ ?_
   ·obtain⟨t,e⟩:=hu 0 u rfl;exact⟨t,e⟩
   ·have:=ih (k+1) fun j v e=>by
     obtain⟨t,z⟩:=hu (j+1) v (by simpa using e);exact⟨t,by rw [z]; congr 1; lia⟩
    have e2:(fun (i:Nat)=>V.int (lo+((k+1+i:Nat):Int)))=((fun (i:Nat)=>V.int (lo+((k+i:Nat):Int))) ∘ Nat.succ):=by
     funext i;show V.int _=V.int _;congr 2;show ((k+1+i:Nat):Int)=((k+(i+1):Nat):Int);lia
    rw [← e2];exact this
 have h1:=go acc.toList 0 fun j v e=>by
  obtain⟨t,z⟩:=hv j v (by simpa using e);exact⟨t,by rw [z]; simp⟩
 have e1:acc.toList.length=n:=by simpa using hsz
 rw [e1] at h1;unfold zat;rw [bh];have e2:(V.int ∘ fun (i:Nat)=>lo+(i:Int))=fun (i:Nat)=>V.int (lo+((0+i:Nat):Int)):=by
  funext i;show V.int (lo+(i:Int))=V.int (lo+((0+i:Nat):Int));rw [c9]
 rw [e2];exact h1
theorem zcE {X:Cx} (hc:X.calm=true):zbB X (.type "list") (fun xs H Q=>∃ p hi,xs = [.ref p]∧H p=some (.rng 0 hi)∧0≤hi∧hi≤1000∧∀ l,H l=none→Q (.ref l) (lP H l (.lst ((zat 0 hi.toNat).map V.int)))):=by
 intro lM s σ H xs us Q I r h;obtain⟨p,hi,rfl,hp,h0,h1,q⟩:=h;obtain⟨u,rfl,rx⟩:=vals1 r;cases rx;obtain⟨t,u',v,e⟩:=(show zab X.prog X.w H s.heap p (.rng 0 hi) from I.hok p _ hp);have qu:=bt;refine call_list_range (n:=hi.toNat) (I.ok.hd hc) (show IsRange s.heap p 0 hi 1 t u' v from e) (small_one #[O] #[O] #[O] #[O]) (by rw [rangeSize_one]; split <;> lia) #[O] fun h' tk CQ c' kk ho qI=>?_
 have hv:=zeE (lo:=0) (n:=hi.toNat) qI;refine⟨.ref s.heap.objs.size,_,I.laid kk (ah _) ?_,rfl,q _ I.fresh⟩;exact⟨by rw [ae,zcD]; lia,CQ.toList,c',hv,by simpa using ho⟩
def zoB (K:ag) (tl:TE):TI:=fun σ H R=>tl σ H fun x H1=>∃ a,x = .ref a∧(((∃ xs,lN K H1 a xs)∧R (Itl K a) H1)∨((∃ xs,lX K H1 a xs)∧R (Itt K a) H1))
theorem znf {X:Cx} {tg l:Expr} {tl:TE} (hl:PE X l tl):PI X tg l (zoB X.K tl):=by
 intro lM s σ H R I h;refine thn (hl lM s σ H _ I h) fun v s1 ⟨x,H1,I1,r1,q1⟩=>?_
 obtain⟨a,e,q⟩:=q1;subst e;cases r1;rcases q with ⟨⟨xs,hq⟩,q⟩ | ⟨⟨xs,hq⟩,q⟩
 ·obtain⟨lO,rv,p,hz⟩:=I1.list hq;refine gP p.isList ?_;refine⟨s1.heap.objs.size,[s1.heap.objs.size],_,_,H1,rfl,I1.kept (t':=s1.toks) fun b o e=>af _ e,zeO a _,⟨_,aC _ rfl,rfl,rfl⟩,fun b hb=>?_,q⟩;have e:b=s1.heap.objs.size:=by simpa using hb
  subst e;exact I1.fpOk (ah _) (I1.hok.fresh (ah _))
 ·obtain⟨lO,rv,p,hz⟩:=I1.tuple hq;refine fc (show s1.heap.IsTuple a lO.toArray from p) ?_;refine⟨s1.heap.objs.size,[s1.heap.objs.size],_,_,H1,rfl,I1.kept (t':=s1.toks) fun b o e=>af _ e,zd2 a _,⟨_,aC _ rfl,rfl,rfl⟩,fun b hb=>?_,q⟩;have e:b=s1.heap.objs.size:=by simpa using hb
  subst e;exact I1.fpOk (ah _) (I1.hok.fresh (ah _))
def intsOf:List Expr→Option (List Int)
 | []=>some []
 | .Constant (.int i) _ _ :: r=>(intsOf r).map (i :: ·)
 | _=>none
def ze0 (ns:List Int):TA:=fun _ H Q=>Q (ns.map V.int) H
theorem zkf {X:Cx}:∀ (es:List Expr) (ns:List Int),intsOf es=some ns→PA X es (ze0 ns):=by
 intro es;induction es with
 | nil =>
  intro ns h;have e:ns = []:=(aG h).symm;subst e;exact zh
 | cons e r ih =>
  intro ns h;unfold intsOf at h;split at h
  ·rename_i heq
   cases heq
  ·rename_i i j p r' heq
   injection heq with e1 e2
   subst e1 e2;cases hr:intsOf r with
   | none=>rw [hr] at h; cases h
   | some ms =>
    rw [hr] at h;have e:i :: ms=ns:=aG h;subst e;exact zd zi (ih ms hr)
  ·cases h
theorem zlH {X:Cx} {es:List Expr} {ns:List Int} (h:intsOf es=some ns):PA X es (ze0 ns):=zkf es ns h
theorem zf8 {X:Cx} {i:Int} {j:Nat} {p:Pos} {es:List Expr} {t:TA} (hr:PA X es t):PA X (.Constant (.int i) j p :: es) (zhQ (tC (.int i)) t):=zd zi hr
theorem zkg {X:Cx} {i:Nat} {x:Str} {pos' nQ oj:Pos} {rest:List Stmt} {u:TS} {es:List Expr} {ns:List Int} (h:intsOf es=some ns) (hN:X.N.Nodup) (hi:X.N[i]? = some x) (hx:Loc X.env.scope x)
  (hf:X.fn x=true∨X.env.scope.names.lookup x=some .local) (hr:PSs X rest u):PSs X (.Assign [.Name x pos'] (.List es nQ) oj :: rest) (zbk (zex (zgY (ze0 ns)) (zaQ i)) u):=by
 have h1:PE X (.List es nQ) (zgY (ze0 ns)):=@zY X es (ze0 ns) nQ (@zlH X es ns h);have h2:PS X (.Assign [.Name x pos'] (.List es nQ) oj) (zex (zgY (ze0 ns)) (zaQ i)):=zr hN hi hx h1 (by rfl) hf;exact zg h2 hr
section
variable {X:Cx} {K:ag}
theorem zbu (hK:X.K=K):IxR X (zn1 K):=by subst hK; exact zQ
theorem zdM (hK:X.K=K):IxR X (zn2 K):=by subst hK; exact zbs
theorem zd8 (hK:X.K=K):OpR X (compareOp .In) (rIn K false):=by subst hK; exact ziI
def zn4 (K:ag):List V→Hp→VK→Prop:=fun xs H Q=>∃ p ys,xs = [.ref p]∧(lN K H p ys∨lX K H p ys)∧Q (.int ys.length) H
theorem zbK (hK:X.K=K):zbB X (.builtin "len") (zn4 K):=by subst hK; exact zF
theorem zaW {es:List Expr} {k:Nat} {t:TGs} {n:Nat} {pos:Pos} (hK:X.K=K) (hc:X.calm=true) (h:PGs X es t)
  (hn:(assignEach es X.env).length=n:=by rfl) (oE:(assignEach es X.env).findIdx? (·.1)=none:=by rfl):PG X (.Tuple es k pos) (zgV K n t):=by subst hK; exact zbI hc h hn oE
theorem zng {o e:Expr} {es:List Expr} {to:TE} {t:TA} {name:Str} {apos nu:Pos} {T id:String} {r:V→List V→Hp→VK→Prop} (hK:X.K=K) (pa:PlainAttrs T) (slot:Slot T name id) (Cr:typeOf (.builtin id)=pure (.type "method_descriptor")) (hm:MtR X id r) (ho:PE X o to) (ha:PA X (e :: es) t)
  (uD:attributeBase o name X.env (eval o X.env)=eval o X.env:=by rfl)
  (xB:((backTo nu (starEach (e :: es) X.env)).all (fun x=>!x.1) && (backToKw nu (keywordEach [] X.env)).all (fun x=>x.1.isSome)
   && decide ((e :: es).length+([]:List Keyword).length+(if ([]:List Keyword).isEmpty then 0 else 1) < 30))=true:=by rfl)
  (uE:(apos.endLine == nu.line)=true:=by rfl) (hs:starEach (e :: es) X.env=(false,eval e X.env) :: starEach es X.env:=by rfl) (rX:(backTo nu (starEach es X.env)).any (·.1)=false:=by rfl) :
  PE X (.Call (.Attribute o name apos) (e :: es) [] nu) (tBM K T r to t):=by subst hK; exact zcB pa slot Cr hm ho ha uD xB uE hs rX
end
end L2
end
section
namespace My
def Cg (p a b:Int):Prop:=∃ k,a=b+p*k
theorem Cg.refl (p a:Int):Cg p a a:=⟨0,by grind⟩
theorem Cg.symm {p a b:Int} (h:Cg p a b):Cg p b a:=by obtain⟨k,e⟩:=h; exact⟨-k,by grind⟩
theorem Cg.trans {p a b c:Int} (h:Cg p a b) (h':Cg p b c):Cg p a c:=by
 obtain⟨k,e⟩:=h; obtain⟨l,e'⟩:=h'; exact⟨k+l,by grind⟩
theorem Cg.add {p a b c d:Int} (h:Cg p a b) (h':Cg p c d):Cg p (a+c) (b+d):=by
 obtain⟨k,e⟩:=h; obtain⟨l,e'⟩:=h'; exact⟨k+l,by grind⟩
theorem Cg.sub {p a b c d:Int} (h:Cg p a b) (h':Cg p c d):Cg p (a - c) (b - d):=by
 obtain⟨k,e⟩:=h; obtain⟨l,e'⟩:=h'; exact⟨k - l,by grind⟩
theorem Cg.mul {p a b c d:Int} (h:Cg p a b) (h':Cg p c d):Cg p (a*c) (b*d):=by
 obtain⟨k,e⟩:=h; obtain⟨l,e'⟩:=h';exact⟨k*d+b*l+p*k*l,by subst e e'; grind⟩
theorem Cg.of_eq {p a b:Int} (h:a=b):Cg p a b:=h ▸ Cg.refl p a
theorem Cg.emod (p a:Int):Cg p (a % p) a:=⟨-(a / p),by have:=Int.emod_add_mul_ediv a p; grind⟩
theorem Cg.mod_eq {p a b:Int} (h:Cg p a b):a % p=b % p:=by
 obtain⟨k,e⟩:=h; rw [e,Int.add_mul_emod_self_left]
theorem Cg.of_mod {p a b:Int} (h:a % p=b % p):Cg p a b:=(Cg.emod p a).symm.trans (h ▸ Cg.emod p b)
theorem Cg.eq {p a b:Int} (h:Cg p a b) (ha:0≤a) (ha':a < p) (hb:0≤b) (vQ:b < p):a=b:=by
 have:=h.mod_eq
 rwa [dH ha ha',dH hb vQ] at this
def zu (p x:Int):List Int→Int
 | []=>0
 | c :: r=>(c+x*zu p x r) % p
theorem zbD {p x:Int} (hp:0 < p):∀ l,0≤zu p x l
 | []=>cq 0
 | _ :: _=>aQ _ #[O]
theorem zbE {p x:Int} (hp:0 < p):∀ l,zu p x l < p
 | []=>hp
 | _ :: _=>aK _ hp
theorem zal (p x c:Int) (r:List Int):Cg p (zu p x (c :: r)) (c+x*zu p x r):=Cg.emod _ _
theorem zg7 {p x:Int} (m:Nat):zu p x (aA m 0)=0:=by
 induction m with
 | zero=>rfl
 | succ m ih=>rw [bx]; show (0+x*zu p x (aA m 0)) % p=0; rw [ih]; simp
theorem zf9 {p x:Int} (m:Nat):∀ l,zu p x (l++aA m 0)=zu p x l
 | []=>zg7 m
 | c :: r=>by show (c+x*zu p x (r++aA m 0)) % p=(c+x*zu p x r) % p; rw [zf9 m r]
def lv (p x:Int):Int→Int→List Int→Int
 | lY,_,[]=>lY
 | lY,power,c :: r=>lv p x ((lY+c*power) % p) (power*x % p) r
theorem zmA {p x:Int}:∀ (l:List Int) (lY power:Int),Cg p (lv p x lY power l) (lY+power*zu p x l)
 | [],lY,power=>Cg.of_eq (by show lY=lY+power*0; grind)
 | c :: r,lY,power=>by
  have h1:=zmA (p:=p) (x:=x) r ((lY+c*power) % p) (power*x % p);refine h1.trans ?_;have h2:Cg p ((lY+c*power) % p+power*x % p*zu p x r) (lY+c*power+power*x*zu p x r):=(Cg.emod p _).add ((Cg.emod p (power*x)).mul (Cg.refl p _));refine h2.trans ?_;have h3:Cg p (lY+power*(c+x*zu p x r)) (lY+power*zu p x (c :: r)):=(Cg.refl p _).add ((Cg.refl p _).mul (zal p x c r).symm);refine (Cg.of_eq ?_).trans h3;grind
theorem zkh {p x:Int} (hp:0 < p):∀ (l:List Int) (lY power:Int),0≤lY→lY < p→0≤lv p x lY power l∧lv p x lY power l < p
 | [],lY,power,h1,h2=>⟨h1,h2⟩
 | c :: r,lY,power,h1,h2=>zkh hp r _ _ (aQ _ #[O]) (aK _ hp)
theorem zhZ {p x:Int} (hp:0 < p) (l:List Int):lv p x 0 1 l=zu p x l:=by
 obtain⟨a,b⟩:=zkh (x:=x) hp l 0 1 (cq _) hp;exact ((zmA l 0 1).trans (Cg.of_eq (by grind))).eq a b (zbD hp l) (zbE hp l)
def zz:List Int:=[5,7,11,13,17,19,23,29,31,37,41,43,47,53,59,61,67,71,73,79,83,89,97]
def zcq (p:Int):Nat→Int→Int→Int→Int
 | 0,prod,_,_=>prod
 | n+1,prod,sq,left=>if 0 < left then zcq p n (if left % 2=1 then prod*sq % p else prod) (sq*sq % p) (left / 2) else prod
def inv (p h:Int):Int:=zcq p 7 1 (h % p) (p - 2)
def zoC:Bool:=zz.all fun p=>(bg p.toNat).all fun h=>h == 0 || (inv p h*h) % p == 1
theorem ziS:zoC=true:=by decide +kernel
theorem zN {p:Int} (hp:p∈zz):5≤p∧p≤97:=by
 have:zz.all (fun p=>decide (5≤p∧p≤97))=true:=by decide +kernel
 have:=bH.mp this p hp;simpa using this
theorem zfs {p h:Int} (hp:p∈zz) (h0:0 < h) (h1:h < p):Cg p (inv p h*h) 1:=by
 have e:=bH.mp (bH.mp ziS p hp) h.toNat (bF.mpr #[O]);have hh:((h.toNat:Nat):Int)=h:=by lia
 have:h.toNat≠0:=by lia
 simp only [Bool.or_eq_true,beq_iff_eq,hh,this,false_or] at e;have hr:=zN hp;exact Cg.of_mod (by rw [e,dH #[O] #[O]])
theorem zga {p a b:Int} (hp:p∈zz) (h:Cg p (a*b) 0):Cg p a 0∨Cg p b 0:=by
 have hr:=zN hp;by_cases ha:a % p=0
 ·exact .inl (Cg.of_mod (by rw [ha]; simp))
 ·right;have h0:0 < a % p:=by have:=aQ a (show p≠0 by lia); lia
  have hi:=zfs hp h0 (aK a #[O]);have h1:Cg p (inv p (a % p)*(a*b)) 0:=((Cg.refl p _).mul h).trans (Cg.of_eq (by grind));have h2:Cg p (inv p (a % p)*(a % p)*b) (1*b):=hi.mul (Cg.refl p b);have h3:Cg p (inv p (a % p)*(a*b)) (inv p (a % p)*(a % p)*b):=by
   have:=((Cg.refl p (inv p (a % p))).mul (Cg.emod p a).symm).mul (Cg.refl p b);exact (Cg.of_eq (by grind)).trans this
  exact ((Cg.of_eq (by grind)).trans (h2.symm.trans (h3.symm.trans h1)))
def trF (p r:Int) (high low:Int):Int:=(high - r*low) % p
def zcF (p r:Int) (v:List Int):List Int:=aW (trF p r) (0 :: v) (v++[0])
theorem zmB {p r z:Int}:∀ (v:List Int) (h:Int),Cg p (zu p z (aW (trF p r) (h :: v) (v++[0]))) (h+(z - r)*zu p z v)
 | [],h=>by
  show Cg p ((trF p r h 0+z*0) % p) (h+(z - r)*0);refine (Cg.emod p _).trans ?_;have:Cg p (trF p r h 0) (h - r*0):=Cg.emod p _;exact (this.add (Cg.refl p (z*0))).trans (Cg.of_eq (by grind))
 | c :: w,h=>by
  show Cg p ((trF p r h c+z*zu p z (aW (trF p r) (c :: w) (w++[0]))) % p) (h+(z - r)*zu p z (c :: w));have ih:=zmB (p:=p) (r:=r) (z:=z) w c;have h1:Cg p (trF p r h c) (h - r*c):=Cg.emod p _;refine (Cg.emod p _).trans ((h1.add ((Cg.refl p z).mul ih)).trans ?_);have h2:Cg p (h+(z - r)*(c+z*zu p z w)) (h+(z - r)*zu p z (c :: w)):=(Cg.refl p h).add ((Cg.refl p _).mul (zal p z c w).symm);exact (Cg.of_eq (by grind)).trans h2
theorem zlI {p r z:Int} (v:List Int):Cg p (zu p z (zcF p r v)) ((z - r)*zu p z v):=(zmB v 0).trans (Cg.of_eq (by grind))
theorem ze1 (p r:Int) (v:List Int):(zcF p r v).length=v.length+1:=by simp [zcF]
theorem zgb {α β γ:Type} {f:α→β→γ}:∀ {as:List α} {bs:List β} {c:γ},c∈aW f as bs→∃ a b,c=f a b
 | [],_,c,h=>by simp at h
 | _ :: _,[],c,h=>by simp at h
 | a :: as,b :: bs,c,h=>by
  rcases au.mp h with e | e
  ·exact⟨a,b,e⟩
  ·exact zgb e
theorem znh {p r:Int} (hp:0 < p) (v:List Int):∀ c∈zcF p r v,0≤c∧c < p:=by
 intro c hc;obtain⟨a,b,e⟩:=zgb hc;rw [e]; exact⟨aQ _ #[O],aK _ hp⟩
def ad (p f:Int):List Int→List Int→List Int
 | c :: cs,v :: vs=>(c+f*v) % p :: ad p f cs vs
 | cs,[]=>cs
 | [],_ :: _=>[]
theorem ze2 (p f:Int):∀ (cs vs:List Int),(ad p f cs vs).length=cs.length
 | _ :: cs,_ :: vs=>by show (ad p f cs vs).length+1=_; rw [ze2 p f cs vs]; rfl
 | [],[]=>rfl
 | _ :: _,[]=>rfl
 | [],_ :: _=>rfl
theorem zki {p f:Int} (hp:0 < p):∀ (cs vs:List Int),(∀ c∈cs,0≤c∧c < p)→∀ c∈ad p f cs vs,0≤c∧c < p
 | c :: cs,v :: vs,h,d,hd=>by
  rcases au.mp hd with e | e
  ·rw [e]; exact⟨aQ _ #[O],aK _ hp⟩
  ·exact zki hp cs vs (fun c hc=>h c (aj _ hc)) d e
 | [],[],h,d,hd=>h d hd
 | _ :: _,[],h,d,hd=>h d hd
 | [],_ :: _,h,d,hd=>by cases hd
theorem zh0 {p f z:Int}:∀ (cs vs:List Int),vs.length≤cs.length→Cg p (zu p z (ad p f cs vs)) (zu p z cs+f*zu p z vs)
 | c :: cs,v :: vs,h=>by
  have ih:=zh0 (p:=p) (f:=f) (z:=z) cs vs (by simpa using h);show Cg p (((c+f*v) % p+z*zu p z (ad p f cs vs)) % p) (zu p z (c :: cs)+f*zu p z (v :: vs));refine (Cg.emod p _).trans (((Cg.emod p (c+f*v)).add ((Cg.refl p z).mul ih)).trans ?_);have h2:Cg p ((c+z*zu p z cs)+f*(v+z*zu p z vs)) (zu p z (c :: cs)+f*zu p z (v :: vs)):=(zal p z c cs).symm.add ((Cg.refl p f).mul (zal p z v vs).symm);exact (Cg.of_eq (by grind)).trans h2
 | [],[],_=>Cg.of_eq (by show (0:Int)=0+f*0; grind)
 | c :: cs,[],_=>Cg.of_eq (by show zu p z (c :: cs)=zu p z (c :: cs)+f*0; grind)
 | [],_ :: _,h=>by simp at h
def zbF (p:Int) (s:List Int×List Int) (q:Int×Int):List Int×List Int :=
 (ad p ((q.2 - zu p q.1 s.1)*inv p (zu p q.1 s.2) % p) s.1 s.2,zcF p q.1 s.2)
def zn5 (p:Int) (n:Nat) (lW:List (Int×Int)):List Int×List Int:=lW.foldl (zbF p) (aA n 0,[1])
def thr (p:Int) (lW:List (Int×Int)):List Int:=(zn5 p lW.length lW).1
def zci (z:Int):List (Int×Int)→Int
 | []=>1
 | q :: r=>(z - q.1)*zci z r
theorem zd9 (z:Int) (q:Int×Int):∀ l,zci z (l++[q])=zci z l*(z - q.1)
 | []=>by show (z - q.1)*1=1*(z - q.1); grind
 | a :: l=>by show (z - a.1)*zci z (l++[q])=(z - a.1)*zci z l*(z - q.1); rw [zd9 z q l]; grind
theorem zea {z:Int}:∀ {l:List (Int×Int)},(∃ q∈l,q.1=z)→zci z l=0
 | [],h=>by obtain⟨q,hq,_⟩:=h; cases hq
 | a :: l,h=>by
  show (z - a.1)*zci z l=0;obtain⟨q,hq,e⟩:=h;rcases au.mp hq with hq | hq
  ·subst hq; rw [e]; simp
  ·rw [zea ⟨q,hq,e⟩]; simp
theorem zgc {p z:Int} (hp:p∈zz) (hz:0≤z) (BF:z < p):∀ {l:List (Int×Int)},(∀ q∈l,0≤q.1∧q.1 < p∧q.1≠z)→¬ Cg p (zci z l) 0
 | [],_,h=>by
  have hr:=zN hp;have:=h.mod_eq;have e1:(zci z []:Int)=1:=rfl;rw [e1,dH #[O] #[O]] at this;simp at this
 | a :: l,hl,h=>by
  rcases zga hp (show Cg p ((z - a.1)*zci z l) 0 from h) with h | h
  ·obtain⟨h1,h2,h3⟩:=hl a aF;have:Cg p z a.1:=by
    have:=h.add (Cg.refl p a.1);exact (Cg.of_eq (by grind)).trans (this.trans (Cg.of_eq (by grind)))
   exact h3 (this.eq hz BF h1 h2).symm
  ·exact zgc hp hz BF (fun q hq=>hl q (aj _ hq)) h
structure Nw (p:Int) (n:Nat) (done:List (Int×Int)) (s:List Int×List Int):Prop where
 lc:s.1.length=n
 lv:s.2.length=done.length+1
 rc:∀ c∈s.1,0≤c∧c < p
 rv:∀ c∈s.2,0≤c∧c < p
 van:∀ z,Cg p (zu p z s.2) (zci z done)
 hit:∀ q∈done,zu p q.1 s.1=q.2
theorem zeb {p:Int} (hp:p∈zz) (n:Nat):Nw p n [] (aA n 0,[1]):=by
 have hr:=zN hp;refine⟨#[M],rfl,fun c hc=>?_,fun c hc=>?_,fun z=>?_,fun q hq=>by cases hq⟩
 ·obtain⟨_,e⟩:=List.mem_replicate.mp hc;lia
 ·have:c=1:=by simpa using hc
  lia
 ·show Cg p ((1+z*0) % p) 1;exact (Cg.emod p _).trans (Cg.of_eq (by grind))
theorem zft {p:Int} {n:Nat} {done:List (Int×Int)} {s:List Int×List Int} (hp:p∈zz) (h:Nw p n done s) {q:Int×Int} (q0:0≤q.1) (q1:q.1 < p) (hd:∀ a∈done,0≤a.1∧a.1 < p∧a.1≠q.1) :
  0 < zu p q.1 s.2∧zu p q.1 s.2 < p:=by
 have hr:=zN hp;refine⟨?_,zbE #[O] _⟩;have h0:=zbD (x:=q.1) (show 0 < p by lia) s.2;by_cases e:zu p q.1 s.2=0
 ·exact absurd ((h.van q.1).symm.trans (Cg.of_eq e)) (zgc hp q0 q1 hd)
 ·lia
theorem ze3 {p:Int} {n:Nat} {done:List (Int×Int)} {s:List Int×List Int} (hp:p∈zz) (h:Nw p n done s) {q:Int×Int} (q0:0≤q.1) (q1:q.1 < p) (hd:∀ a∈done,0≤a.1∧a.1 < p∧a.1≠q.1) :
  Cg p ((q.2 - zu p q.1 s.1)*inv p (zu p q.1 s.2) % p*zu p q.1 s.2) (q.2 - zu p q.1 s.1):=by
 obtain⟨h0,h1⟩:=zft hp h q0 q1 hd;have hi:=zfs hp h0 h1;refine ((Cg.emod p _).mul (Cg.refl p _)).trans ?_;have:=(Cg.refl p (q.2 - zu p q.1 s.1)).mul hi;exact (Cg.of_eq (by grind)).trans (this.trans (Cg.of_eq (by grind)))
theorem zfu {p:Int} {n:Nat} {done:List (Int×Int)} {s:List Int×List Int} (hp:p∈zz) (h:Nw p n done s) {q:Int×Int} (hn:done.length < n) (q0:0≤q.1) (q1:q.1 < p) (q2:0≤q.2) (q3:q.2 < p)
  (hd:∀ a∈done,0≤a.1∧a.1 < p∧a.1≠q.1∧0≤a.2∧a.2 < p):Nw p n (done++[q]) (zbF p s q):=by
 have hr:=zN hp;have sW:∀ a∈done,0≤a.1∧a.1 < p∧a.1≠q.1:=fun a ha=>⟨(hd a ha).1,(hd a ha).2.1,(hd a ha).2.2.1⟩
 have hlv:=h.lv;have hlc:=h.lc;have hle:s.2.length≤s.1.length:=by lia
 refine⟨by show (ad _ _ _ _).length=n; rw [ze2,h.lc],by show (zcF _ _ _).length=_; rw [ze1,h.lv,aB,eB],zki #[O] _ _ h.rc,znh #[O] _,fun z=>?_,fun a ha=>?_⟩
 ·rw [zd9];exact (zlI s.2).trans (((Cg.refl p _).mul (h.van z)).trans (Cg.of_eq (by grind)))
 ·have hv:=zh0 (p:=p) (f:=(q.2 - zu p q.1 s.1)*inv p (zu p q.1 s.2) % p) (z:=a.1) s.1 s.2 hle; rcases aP.mp ha with ha | ha
  ·obtain⟨b0,b1,b2,b3,b4⟩:=hd a ha;have hz:Cg p (zu p a.1 s.2) 0:=(h.van a.1).trans (Cg.of_eq (zea ⟨a,ha,rfl⟩));have h2:Cg p (zu p a.1 (ad p ((q.2 - zu p q.1 s.1)*inv p (zu p q.1 s.2) % p) s.1 s.2)) (zu p a.1 s.1):=hv.trans (((Cg.refl p (zu p a.1 s.1)).add ((Cg.refl p _).mul hz)).trans (Cg.of_eq (by rw [Int.mul_zero,Int.add_zero])));rw [h.hit a ha] at h2;exact h2.eq (zbD #[O] _) (zbE #[O] _) b3 b4
  ·have e:a=q:=by simpa using ha
   subst e;have h2:Cg p (zu p a.1 (ad p ((a.2 - zu p a.1 s.1)*inv p (zu p a.1 s.2) % p) s.1 s.2)) a.2:=hv.trans (((Cg.refl p (zu p a.1 s.1)).add (ze3 hp h q0 q1 sW)).trans (Cg.of_eq #[O]));exact h2.eq (zbD #[O] _) (zbE #[O] _) q2 q3
structure Pts (p:Int) (lW:List (Int×Int)):Prop where
 nd:(lW.map (·.1)).Nodup
 rg:∀ q∈lW,0≤q.1∧q.1 < p∧0≤q.2∧q.2 < p
theorem Pts.apart {p:Int} {done rest:List (Int×Int)} {q:Int×Int} (h:Pts p (done++q :: rest)):∀ a∈done,0≤a.1∧a.1 < p∧a.1≠q.1∧0≤a.2∧a.2 < p:=fun a ha=>by
 obtain⟨r1,r2,r3,r4⟩:=h.rg a (aS _ ha);refine⟨r1,r2,fun e=>?_,r3,r4⟩;have nd:=h.nd;rw [aw,fu] at nd;exact nd.2.2 a.1 (az.mpr ⟨a,ha,rfl⟩) q.1 #[M] e
theorem zkj {p:Int} (hp:p∈zz) {n:Nat}:∀ (rest done:List (Int×Int)) (s:List Int×List Int),Pts p (done++rest)→(done++rest).length=n→Nw p n done s→Nw p n (done++rest) (rest.foldl (zbF p) s)
 | [],done,s,_,_,h=>by rw [bI]; exact h
 | q :: rest,done,s,hP,hn,h=>by
  have xt:done.length < n:=by rw [← hn]; simp
  obtain⟨a,b,c,d⟩:=hP.rg q #[M];have hs:=zfu hp h (q:=q) xt a b c d hP.apart;have e:done++q :: rest=(done++[q])++rest:=by simp
  rw [e] at hP hn ⊢;exact zkj hp rest (done++[q]) _ hP hn hs
theorem zg8 {p:Int} (hp:p∈zz) {lW:List (Int×Int)} (hP:Pts p lW):(thr p lW).length=lW.length∧(∀ c∈thr p lW,0≤c∧c < p)∧∀ q∈lW,zu p q.1 (thr p lW)=q.2:=by
 have h:=zkj hp (n:=lW.length) lW [] _ (by simpa using hP) #[M] (zeb hp lW.length);exact⟨h.lc,h.rc,h.hit⟩
theorem ziT {p high step f m:Int} (hp:p∈zz) (h0:0 < high) (h1:high < p) (hf:Cg p (f*high) step) (hm:Cg p (m*high) step) (f0:0≤f) (f1:f < p) (m0:0≤m) (m1:m < p):f=m:=by
 have hi:=zfs hp h0 h1;have h2:Cg p (f*high) (m*high):=hf.trans hm.symm;have h3:=(Cg.refl p (inv p high)).mul h2;have h4:Cg p (inv p high*high*f) (1*f):=hi.mul (Cg.refl p f);have h5:Cg p (inv p high*high*m) (1*m):=hi.mul (Cg.refl p m);have h6:Cg p f m:=(Cg.of_eq (by grind)).trans (h4.symm.trans ((Cg.of_eq (by grind)).trans (h3.trans ((Cg.of_eq (by grind)).trans (h5.trans (Cg.of_eq (by grind)))))));exact h6.eq f0 f1 m0 m1
theorem zfv {p f:Int} (hp:0 < p):∀ (cs vs:List Int) (m:Nat),(∀ c∈cs,0≤c∧c < p)→cs.length≤vs.length+m→vs.length≤cs.length→aW (fun one other=>(one+f*other) % p) cs (vs++aA m 0)=ad p f cs vs
 | c :: cs,v :: vs,m,h,h1,h2=>by
  show (c+f*v) % p :: aW _ cs (vs++aA m 0)=(c+f*v) % p :: ad p f cs vs;rw [zfv hp cs vs m (fun d hd=>h d (aj _ hd)) (by simp at h1; lia) (by simpa using h2)]
 | [],[],m,_,_,_=>by simp [ad]
 | [],_ :: _,_,_,_,h2=>by simp at h2
 | c :: cs,[],m,h,h1,h2=>by
  cases m with
  | zero=>simp at h1
  | succ m =>
   obtain⟨c0,c1⟩:=h c aF;have ih:=zfv (f:=f) hp cs [] m (fun d hd=>h d (aj _ hd)) (by simp at h1 ⊢; lia) #[M];have e:ad p f cs []=cs:=by cases cs <;> rfl
   rw [e,eV] at ih;rw [eV,bx];show (c+f*0) % p :: aW _ cs (aA m 0)=c :: cs;rw [ih,Int.mul_zero,Int.add_zero,dH c0 c1]
theorem ze4 {p r:Int}:∀ m:Nat,aW (trF p r) (aA (m+1) 0) (aA m 0)=aA m 0
 | 0=>by simp
 | m+1=>by
  rw [bx (n:=m+1),bx (n:=m)];show trF p r 0 0 :: aW (trF p r) (0 :: aA m 0) (aA m 0)=0 :: aA m 0;have:=ze4 (p:=p) (r:=r) m;rw [bx] at this;rw [this];have e:trF p r 0 0=0:=by simp [trF]
  rw [e]
theorem zh1 {p r:Int} (m:Nat):∀ (v:List Int) (h:Int),aW (trF p r) (h :: (v++aA (m+1) 0)) (v++aA (m+1) 0)=aW (trF p r) (h :: v) (v++[0])++aA m 0
 | [],h=>by
  rw [eV,bx];show trF p r h 0 :: aW (trF p r) (0 :: aA m 0) (aA m 0)=trF p r h 0 :: aA m 0;have:=ze4 (p:=p) (r:=r) m;rw [bx] at this;rw [this]
 | c :: v,h=>by
  show trF p r h c :: aW (trF p r) (c :: (v++aA (m+1) 0)) (v++aA (m+1) 0)=trF p r h c :: (aW (trF p r) (c :: v) (v++[0])++aA m 0);rw [zh1 m v c]
end My
end
section
namespace My
open PySem L2 PyProof.Rows
section
variable {K:ag}
theorem zg9 {ns:List Int} {k:Int} (h0:0≤k) (h1:k < ns.length):∃ c:Int,ns[k.toNat]? = some c∧atI (ns.map V.int) k=some (.int c):=by
 have ml:k.toNat < ns.length:=by lia
 have e:atI (ns.map V.int) ((k.toNat:Nat):Int)=some (.int ns[k.toNat]):=zaV (by simp [ap,ao ml]);have hk:((k.toNat:Nat):Int)=k:=by lia
 rw [hk] at e;exact⟨ns[k.toNat],#[M],e⟩
theorem zb3 {ns:List Int} {k:Int} (h0:0≤k) (h1:k < ns.length):∃ c:Int,atI (ns.map V.int) k=some (.int c):=let ⟨c,_,e⟩:=zg9 h0 h1; ⟨c,e⟩
theorem zf {H:Hp} {a:Addr} {o:HO} (h:H a=none):zA H (lP H a o):=fun b u e=>by rw [zp (zw e h)]; exact e
theorem zae {H H':Hp} {a:Addr} {o:HO} (s:zA H H') (h:H a=none):zA H (lP H' a o):=fun b u e=>by rw [zp (zw e h)]; exact s b u e
theorem zau {n:Nat} (h:n≤10000):n < sizeLine:=by rw [bt]; lia
def ziU (K:ag):Sp:=fun vs H Q _=>∃ (a:Addr) (ns:List Int) (k:Int),vs = [.ref a,.int k]∧lN K H a (ns.map V.int)∧ns.length≤63∧0≤k∧k≤1000∧∀ c:Int,Q (.int c) H
def zh2 (many:Nat) (base:Int) (ds:List Int):Prop:=ds.length=many∧∀ d∈ds,0≤d∧d < base
def zha (K:ag):Sp:=fun vs H Q _=>∃ (a:Addr) (ns:List Int) (k many base:Int),vs = [.ref a,.int k,.int many,.int base]∧lN K H a (ns.map V.int)∧ns.length≤63∧0≤k∧k≤1000∧0≤many∧many≤1000∧0 < base∧base < 1073741824 ∧
 ∀ (l:Addr) (ds:List Int) (H':Hp),H l=none→zA H H'→zh2 many.toNat base ds→H' l=some (.lst (ds.map V.int))→Q (.ref l) H'
abbrev zlJ:List V:=[.int 2147483647,.int 2147483629,.int 2147483587,.int 2147483579,.int 2147483563,.int 2147483549,.int 2147483543,.int 2147483497]
theorem zlK {m:Int} (h0:0≤m) (h1:m < 8):∃ q:Int,atI zlJ m=some (.int q)∧0 < q∧q < 2147483648:=by
 have:m=0∨m=1∨m=2∨m=3∨m=4∨m=5∨m=6∨m=7:=by lia
 rcases this with e | e | e | e | e | e | e | e <;> subst e <;> exact⟨_,rfl,#[D],#[D]⟩
theorem zec (j:Int):∃ q:Int,atI zlJ (j % 8)=some (.int q)∧0 < q∧q < 2147483648:=zlK (aQ _ #[D]) (aK _ #[D])
theorem gY {i:Nat} {x:V} {σ:L2.St} {H:Hp} {A B:L2.St→Hp→Prop} (h:A (σ.set i (some x)) H):zaQ i x σ H (fun σ2 H2=>zm8 σ2 H2 fun b H3=>if b=true then A σ2 H3 else B σ2 H3):=by
 show (if true=true then A (σ.set i (some x)) H else B (σ.set i (some x)) H);rw [if_pos rfl];exact h
structure CodeOk (mk mn p k:Int) (pl:List Int):Prop where
 pr:p∈zz
 k1:1≤k
 kk:k≤mk
 kl:k≤pl.length
 ln:(pl.length:Int)≤mn
 nd:pl.Nodup
 rg:∀ x∈pl,0≤x∧x < p
def ziV (K:ag):Sp:=fun vs H Q _=>∃ (a:Addr) (ns:List Int) (at' mk mn:Int),vs = [.ref a,.int at',.int mk,.int mn]∧lN K H a (ns.map V.int)∧ns.length≤63∧0≤at'∧at'≤1000∧1≤mk∧mk≤5∧mk≤mn∧mn≤16 ∧
 ∀ (c tt:Addr) (p k:Int) (pl:List Int) (H':Hp),H c=none→zA H H'→CodeOk mk mn p k pl→H' c=some (.tup [.int p,.int k,.ref tt])→H' tt=some (.tup (pl.map V.int))→Q (.ref c) H'
theorem zni {x y m:Int} (h0:0≤m) (h1:m < 2):∃ z:Int,atI [V.int x,V.int y] m=some (.int z)∧(z=x∨z=y):=by
 have:m=0∨m=1:=by lia
 rcases this with e | e <;> subst e
 ·exact⟨x,rfl,.inl rfl⟩
 ·exact⟨y,rfl,.inr rfl⟩
theorem zkk {ns:List Int} {k:Int} (h0:0≤k) (h1:k < ns.length):∃ c:Int,c∈ns∧atI (ns.map V.int) k=some (.int c):=by
 obtain⟨c,e,h⟩:=zg9 h0 h1;exact⟨c,aH e,h⟩
theorem ze5 {α β:Type} (f:α→β):∀ (l:List α) (k:Nat),(l.map f).eraseIdx k=(l.eraseIdx k).map f
 | [],_=>rfl
 | _ :: _,0=>rfl
 | a :: l,k+1=>by show f a :: (l.map f).eraseIdx k=f a :: (l.eraseIdx k).map f; rw [ze5 f l k]
theorem zed {α:Type}:∀ {l:List α} {k:Nat} {x:α},l[k]? = some x→(x :: l.eraseIdx k).Perm l
 | [],_,_,h=>by simp at h
 | a :: l,0,x,h=>by
  have e:a=x:=by simpa using h
  subst e;exact List.Perm.refl _
 | a :: l,k+1,x,h=>by
  have ih:=zed (l:=l) (k:=k) (x:=x) (by simpa using h);exact (List.Perm.swap a x _).trans (ih.cons a)
theorem zlL {p:Int} {xs ls:List Int} {k:Nat} {x:Int} (h:ls[k]? = some x) (nd:(xs++ls).Nodup) (rg:∀ y∈xs++ls,0≤y∧y < p):((xs++[x])++ls.eraseIdx k).Nodup∧∀ y∈(xs++[x])++ls.eraseIdx k,0≤y∧y < p:=by
 have hp:((xs++[x])++ls.eraseIdx k).Perm (xs++ls):=by
  rw [bq];exact (zed h).append_left xs
 exact⟨hp.nodup_iff.mpr nd,fun y hy=>rg y (hp.mem_iff.mp hy)⟩
theorem ziW (p:Int):(zat 0 p.toNat).Nodup∧∀ y∈zat 0 p.toNat,0≤y∧y < p:=by
 unfold zat;constructor
 ·rw [gL,bQ];exact (gL.mp (fI (n:=p.toNat))).imp fun {a b} oC=>by lia
 ·intro y hy;obtain⟨i,hi,e⟩:=az.mp hy;have:=bF.mp hi;lia
def zds (K:ag):Sp:=fun vs H Q _=>∃ (p x:Int) (a:Addr) (cs:List Int),vs = [.int p,.ref a,.int x]∧(lN K H a (cs.map V.int)∨lX K H a (cs.map V.int))∧0 < p∧p≤97∧0≤x∧x < p∧Q (.int (zu p x cs)) H
def zhb (K:ag):Sp:=zds K
theorem ze6 {cs:List Int} {i:Nat} {c:Int} (hi:i < cs.length) (h:cs[cs.length - 1 - i]? = some c):cs.drop (cs.length - (i+1))=c :: cs.drop (cs.length - i):=by
 have e:cs.length - (i+1)=cs.length - 1 - i:=by lia
 have ml:cs.length - 1 - i < cs.length:=by lia
 rw [e,cB ml];have:cs[cs.length - 1 - i]=c:=by
  rw [ao ml] at h;exact aG h
 rw [this];congr 2;lia
theorem zax {cs:List Int} {j:Nat} {x:V} (h:(cs.map V.int)[j]? = some x):∃ c,x = .int c∧cs[j]? = some c:=by
 rw [ap] at h;cases e:cs[j]? with
 | none=>rw [e] at h; cases h
 | some c=>rw [e] at h; exact⟨c,(aG h).symm,rfl⟩
theorem zh3 {p x lY power c:Int} {cs:List Int} {i:Nat} (h:cs[i]? = some c):lv p x lY power (cs.drop i)=lv p x ((lY+c*power) % p) (power*x % p) (cs.drop (i+1)):=by
 obtain⟨ml,e⟩:=ak.mp h;rw [cB ml,e];rfl
def zhc (K:ag):Sp:=fun vs H Q _=>∃ (p h:Int),vs = [.int p,.int h]∧p∈zz∧0≤h∧h < p∧Q (.int (inv p h)) H
def znj (σ:L2.St):Nat:=match (σ[4]?:Option (Option V)) with
 | some (some (V.int l))=>l.toNat
 | _=>0
theorem zfw {p prod sq left:Int} {n:Nat} (h0:0 < left) (h1:left < 2 ^ (n+1)):zcq p (n+1) prod sq left=zcq p n (if left % 2=1 then prod*sq % p else prod) (sq*sq % p) (left / 2):=by
 show (if 0 < left then _ else _)=_;rw [if_pos h0]
theorem zgd {p prod sq:Int}:∀ n,zcq p n prod sq 0=prod
 | 0=>rfl
 | n+1=>by show (if (0:Int) < 0 then _ else prod)=prod; rw [if_neg #[D]]
theorem gY2 {K:ag} {i j:Nat} {T:Addr} {x y:V} {σ:L2.St} {H:Hp} {A B:L2.St→Hp→Prop} (hT:lX K H T [x,y]) (h:A ((σ.set i (some x)).set j (some y)) H) :
  zgV K 2 (zcz (zaQ i) (zcz (zaQ j) ziD)) (.ref T) σ H (fun σ2 H2=>zm8 σ2 H2 fun b H3=>if b=true then A σ2 H3 else B σ2 H3):=by
 refine⟨T,_,rfl,hT,rfl,x,_,rfl,y,_,rfl,rfl,?_⟩;show (if true=true then A ((σ.set i (some x)).set j (some y)) H else B ((σ.set i (some x)).set j (some y)) H);rw [if_pos rfl];exact h
theorem zge {f:Int→Int→Int} {as bs:List Int} {i:Nat} {x y:Int} (hx:as[i]? = some x) (hy:bs[i]? = some y):(aW f as bs).take (i+1)=(aW f as bs).take i++[f x y]:=by
 have e:(aW f as bs)[i]? = some (f x y):=by rw [List.getElem?_zipWith,hx,hy]
 rw [j7,e,lA]
def zeF (K:ag):Sp:=fun vs H Q _=>∃ (p r:Int) (a:Addr) (cs:List Int),vs = [.int p,.ref a,.int r]∧H a=some (.lst (cs.map V.int))∧cs.length≤1000∧0 < p∧0≤r∧r≤97 ∧
 ∀ (l:Addr) (H':Hp),H l=none→zA H H'→H' l=some (.lst ((zcF p r cs).map V.int))→Q (.ref l) H'
def zh4 (K:ag) (H:Hp) (a:Addr) (lW:List (Int×Int)):Prop:=∃ bs:List Addr,lN K H a (bs.map V.ref)∧bs.length=lW.length∧∀ (i:Nat) (b:Addr) (q:Int×Int),bs[i]? = some b→lW[i]? = some q→H b=some (.tup [.int q.1,.int q.2])
theorem zee (n:Nat):(aA n [V.int 0]).flatten=(aA n (0:Int)).map V.int:=by
 induction n with
 | zero=>rfl
 | succ n ih=>rw [bx,ek,ih,bx]; rfl
theorem zfx {n j:Nat} (h:j < n):ixN n (j:Int)=some j:=by
 unfold ixN;rw [if_pos #[O],if_pos #[O]];rfl
theorem zK {bs:List Addr} {i:Nat} {x:V} (h:(bs.map V.ref)[i]? = some x):∃ b,x = .ref b∧bs[i]? = some b:=by
 rw [ap] at h;cases e:bs[i]? with
 | none=>rw [e] at h; cases h
 | some b=>rw [e] at h; exact⟨b,(aG h).symm,rfl⟩
theorem take_snoc {α:Type} {l:List α} {i:Nat} {x:α} (h:l[i]? = some x):l.take (i+1)=l.take i++[x]:=by
 rw [j7,h,lA]
theorem zb4 {α:Type} {l:List α} {i:Nat} {x:α} (h:l[i]? = some x):l=l.take i++x :: l.drop (i+1):=by
 obtain⟨hi,e⟩:=ak.mp h; have:=ci i l;rw [cB hi,e] at this;exact this.symm
def zhd (K:ag):Sp:=fun vs H Q _=>∃ (p:Int) (a:Addr) (lW:List (Int×Int)),vs = [.int p,.ref a]∧zh4 K H a lW∧lW.length≤100∧p∈zz∧Pts p lW ∧
 ∀ (l:Addr) (H':Hp),H l=none→zA H H'→H' l=some (.tup ((thr p lW).map V.int))→Q (.ref l) H'
def zfy (K:ag):Sp:=zhd K
theorem zkl {f:Int→Int→Int} {as bs:List Int} {n:Nat} (h1:n≤as.length) (h2:n≤bs.length) (h3:as.length≤n∨bs.length≤n):(aW f as bs).length=n:=by
 rw [gd];lia
theorem zdj {a b:Addr} {as bs:List Int} {n:Nat} {f:Int→Int→Int} {g:TG} {ts:TT} {te:TE} {σ0:L2.St} {Q:VK} {H:Hp} (ha:H a=some (.lst (as.map V.int))) (hb:H b=some (.lst (bs.map V.int))) (h1:n≤as.length) (h2:n≤bs.length) (h3:as.length≤n∨bs.length≤n) (hn:n≤10000)
  (hs:∀ (i:Nat) (x y:Int) (H1:Hp) (T:Addr) (R:VK) (B:L2.St→Hp→Prop),as[i]? = some x→bs[i]? = some y→zA H H1→H1 T=none→R (.int (f x y)) (lP H1 T (.tup [.int x,.int y]))→g (.ref T) σ0 (lP H1 T (.tup [.int x,.int y])) fun σ2 H2=>ts σ2 H2 fun b H3=>if b=true then te σ2 H3 R else B σ2 H3)
  (hd:∀ D H1,zA H H1→H1 D=none→Q (.ref D) (lP H1 D (.lst ((aW f as bs).map V.int)))):cGo g ts te σ0 (ziO (lN K) (lN K) a b) Q H:=by
 have hl:=zkl (f:=f) h1 h2 h3;refine zcX (n:=n) (fun i ys H'=>ys=((aW f as bs).take i).map V.int∧zA H H') ⟨#[M],fun _ _ e=>e⟩ ?_ ?_ ?_ ?_
 ·rintro i ys H3 hi ⟨_,s3⟩;obtain⟨x,hx⟩:∃ x,as[i]? = some x:=⟨as[i]'#[O],#[M]⟩;obtain⟨y,hy⟩:∃ y,bs[i]? = some y:=⟨bs[i]'#[O],#[M]⟩;exact⟨_,_,.int x,.int y,lN.of (s3 _ _ ha),lN.of (s3 _ _ hb),by rw [ap,hx]; rfl,by rw [ap,hy]; rfl⟩
 ·rintro ys H3 ⟨_,s3⟩;exact⟨_,_,lN.of (s3 _ _ ha),lN.of (s3 _ _ hb),by rw [ae,ae]; exact h3⟩
 ·rintro i x ys H3 H4 hi ⟨rfl,s3⟩ ⟨T,u,v,hT,rfl,rfl,hu,hv⟩;obtain⟨x,rfl,hx⟩:=zax (hu _ (lN.of (s3 _ _ ha)));obtain⟨y,rfl,hy⟩:=zax (hv _ (lN.of (s3 _ _ hb)));refine hs i x y H3 T _ _ hx hy s3 hT ⟨zau ?_,?_,s3.trans (zf hT)⟩
  ·rw [ae];exact aV (dU _ _) #[O]
  ·rw [zge hx hy,aw];rfl
 ·rintro ys H3 D ⟨rfl,s3⟩ hD;rw [aO #[O]];exact hd D H3 s3 hD
theorem ziX {a:Addr} {xs fs:List V} {g:TG} {ts:TT} {te:TE} {σ0:L2.St} {Q:VK} {H:Hp} (ha:lN K H a xs) (hl:fs.length=xs.length) (hn:xs.length≤10000)
  (hs:∀ (i:Nat) (x y:V) (R:VK) (B:L2.St→Hp→Prop),xs[i]? = some x→fs[i]? = some y→R y H→g x σ0 H fun σ2 H2=>ts σ2 H2 fun b H3=>if b=true then te σ2 H3 R else B σ2 H3)
  (hd:∀ D,H D=none→Q (.ref D) (lP H D (.lst fs))):cGo g ts te σ0 (Itl K a) Q H:=by
 refine zcX (n:=xs.length) (fun i ys H'=>ys=fs.take i∧H'=H) ⟨#[M],rfl⟩ ?_ ?_ ?_ ?_
 ·rintro i ys H3 hi ⟨_,rfl⟩;exact⟨_,xs[i],ha,#[M]⟩
 ·rintro ys H3 ⟨_,rfl⟩;exact⟨_,ha,ah _⟩
 ·rintro i x ys H3 H4 hi ⟨rfl,rfl⟩ ⟨rfl,hx⟩;have hy:fs[i]? = some fs[i]:=by simp
  refine hs i x fs[i] _ _ (hx _ ha) hy ⟨zau (aV (dU _ _) #[O]),?_,rfl⟩;rw [take_snoc hy]
 ·rintro ys H3 D ⟨rfl,rfl⟩ hD;rw [aO #[O]];exact hd D hD
theorem ziY {a:Addr} {xs fs:List V} {g:TG} {ts:TT} {te:TE} {σ0:L2.St} {Q:VK} {H:Hp} (ha:lX K H a xs) (hl:fs.length=xs.length) (hn:xs.length≤10000)
  (hs:∀ (i:Nat) (x y:V) (R:VK) (B:L2.St→Hp→Prop),xs[i]? = some x→fs[i]? = some y→R y H→g x σ0 H fun σ2 H2=>ts σ2 H2 fun b H3=>if b=true then te σ2 H3 R else B σ2 H3)
  (hd:∀ D,H D=none→Q (.ref D) (lP H D (.lst fs))):cGo g ts te σ0 (Itt K a) Q H:=by
 refine zcX (n:=xs.length) (fun i ys H'=>ys=fs.take i∧H'=H) ⟨#[M],rfl⟩ ?_ ?_ ?_ ?_
 ·rintro i ys H3 hi ⟨_,rfl⟩;exact⟨_,xs[i],ha,#[M]⟩
 ·rintro ys H3 ⟨_,rfl⟩;exact⟨_,ha,ah _⟩
 ·rintro i x ys H3 H4 hi ⟨rfl,rfl⟩ ⟨rfl,hx⟩;have hy:fs[i]? = some fs[i]:=by simp
  refine hs i x fs[i] _ _ (hx _ ha) hy ⟨zau (aV (dU _ _) #[O]),?_,rfl⟩;rw [take_snoc hy]
 ·rintro ys H3 D ⟨rfl,rfl⟩ hD;rw [aO #[O]];exact hd D hD
theorem zkm (ds:List Int) (lo hi:Option Int):∃ ms:List Int,zdh (ds.map V.int) lo hi=ms.map V.int∧ms.length≤ds.length:=by
 refine⟨(ds.drop (HT.sIx (ds.map V.int).length 0 lo)).take (HT.sIx (ds.map V.int).length (ds.map V.int).length hi - HT.sIx (ds.map V.int).length 0 lo),?_,?_⟩
 ·unfold zdh; rw [jp,jq]
 ·rw [aL,ck];lia
theorem zgf {ms:List Int} {f:Int→V} {i:Nat} {x y:V} (hx:(ms.map V.int)[i]? = some x) (hy:(ms.map f)[i]? = some y):∃ c,ms[i]? = some c∧x = .int c∧y=f c:=by
 obtain⟨c,rfl,hc⟩:=zax hx;rw [ap,hc] at hy;exact⟨c,hc,rfl,(aG hy).symm⟩
def zfz (K:ag):Sp:=fun vs H Q _=>∃ (a:Addr) (ns:List Int),vs = [.ref a]∧lN K H a (ns.map V.int)∧ns.length≤63∧∀ H',Q (.bl true) H'
end
end My
end
section
namespace PySem
abbrev IsZ (h:Heap) (z TI TO:Addr) (f0 f1:Value):Prop:=h.get? z=some { cls:=.type "zip",dict:=none,data:=.fields #[f0,f1,.bool false,.ref TI,.ref TO],slots:=#[] }
def ZF (f0 f1:Value):Prop:=(f0 = .none∨∃ a t,f0 = .int a t)∧∃ b,f1 = .bool b
structure Zap (z TI TO i1 i2:Addr) (qc qd:List Addr):Prop where
 zTI:TI≠z
 zTO:TO≠z
 z1:i1≠z
 z2:i2≠z
 TT:TI≠TO
 T1:TI≠i1
 T2:TI≠i2
 O1:TO≠i1
 O2:TO≠i2
 ii:i1≠i2
 a1:z∉qc
 a2:TO∉qc
 a3:i2∉qc
 b1:z∉qd
 b2:TO∉qd
 b3:i1∉qd
section
variable {prog:Program} {w:World} {A:Around} {E:Value→Shared→Prop} {s:Shared}
theorem ziZ {a:Addr} {Q:Option Obj→Shared→Prop} (h:Q (s.heap.get? a) s):wpAny (model prog w) A (loadIfAlive a) Q E s:=fun _ _ _=>h
theorem zkn {z TI TO:Addr} {f0 f1:Value} {Q:Bool→Shared→Prop} (hz:IsZ s.heap z TI TO f0 f1) (hf:ZF f0 f1) (h1:Q true s)
  (h2:∀ h',IsZ h' z TI TO f0 (.bool true)→be z s.heap h'→Q false { s with heap:=h' }):wpAny (model prog w) A (bJ (.ref z)) Q E s:=by
 obtain⟨hf,b,rfl⟩:=hf;unfold bJ; rcases hf with rfl | ⟨a,t,rfl⟩
 ·exact aa (bz hz rfl (x:=.none) rfl (ai h1))
 ·refine aa (bz hz rfl (x:=.int a t) rfl ?_);refine aa (ziZ ?_);cases s.heap.get? a.toNat with
  | none=>exact ai h1
  | some o =>
   refine aa (bz hz rfl (x:=.bool b) rfl ?_);cases b with
   | true=>exact ai (h2 s.heap hz ⟨rfl,fun _ _=>rfl⟩)
   | false=>exact aa (bC hz #[M] fun h' a' b'=>ai (h2 h' a' b'))
theorem zh5 {z TI TO i1 i2:Addr} {qc qd:List Addr} {n1 n2 k1 k2:Nat} {P1 P2:Nat→Value→Prop} {S1 S2:Nat→Heap→Prop} {f0 f1 a b:Value} {Q:Value→Shared→Prop} (D1:Draws prog w A i1 qc n1 P1 S1) (D2:Draws prog w A i2 qd n2 P2 S2) (Z:Zap z TI TO i1 i2 qc qd)
  (hz:IsZ s.heap z TI TO f0 f1) (hf:ZF f0 f1) (tf:IsPair s.heap TI (.ref i1) (.ref i2)) (uo:IsPair s.heap TO a b) (nM:S1 k1 s.heap) (mG:S2 k2 s.heap) (l1:k1 < n1) (l2:k2 < n2)
  (hQ:∀ x y h' tk g0 g1 a' b',P1 k1 x→P2 k2 y→IsZ h' z TI TO g0 g1→ZF g0 g1→IsPair h' TI (.ref i1) (.ref i2)→IsPair h' TO a' b'→S1 (k1+1) h'→S2 (k2+1) h'→IsPair h' s.heap.objs.size x y→h'.objs.size=s.heap.objs.size+1 →
   (∀ c o,c≠z→c≠TO→c≠i1→c≠i2→s.heap.get? c=some o→h'.get? c=some o)→Q (.ref s.heap.objs.size) { s with heap:=h',toks:=tk }):wpAny (model prog w) A (Builtin.«zip.__next__» ⟨[.ref z],[]⟩) (fun fin s'=>∃ v,fin = .done (.ret v)∧Q v s') E s:=by
 obtain⟨hp,g,d,BG,os⟩:=s;show wpAny _ _ (field (.ref z) 2 >>= _) _ _ _; refine aa (bz hz rfl (x:=.bool false) rfl ?_); show wpAny _ _ (field (.ref z) 3 >>= _) _ _ _;refine aa (bz hz rfl (x:=.ref TI) rfl ?_); refine aa (cP tf rfl ?_);show wpAny _ _ (bJ (.ref z) >>= _) _ _ _; refine aa (zkn hz hf ?_ fun h0 hz0 sQ=>?_)
 ·simp only [if_true];refine aa (cg (aa (bz hz rfl (x:=.ref TO) rfl ?_)));refine aa (bC hz #[M] fun ha wQ rm=>?_);replace wQ:IsZ ha z TI TO .ellipsis f1:=wQ;replace rm:be z hp ha:=rm;refine aa ?_;simp only [kB,kN,dD,fj]; refine aa (aa (fE ?_)); show wpAny _ _ (ba (.ref i1) >>= _) _ _ _;refine aa (D1.item k1 _ _ _ l1 (D1.frame _ _ _ nM fun c hc o e=>rm.extBut c o (fun q=>Z.a1 (q ▸ hc)) e) fun x hb Ah px Ai mH=>ai ?_);replace mH:be i1 ha hb:=mH;have uG:IsPair hb TO a b:=mH.extBut _ _ Z.O1 (rm.extBut _ _ Z.zTO uo);refine aa (cP uG rfl (aa (fV uG fun hc vY tj=>?_)));replace vY:IsPair hc TO x b:=vY;replace tj:be TO hb hc:=tj;refine aa (iJ (ai (aa (aa (fE ?_))))); show wpAny _ _ (ba (.ref i2) >>= _) _ _ _;refine aa (D2.item k2 _ _ _ l2 (D2.frame _ _ _ mG fun c pj o e=>tj.extBut c o (fun q=>Z.b2 (q ▸ pj)) (mH.extBut c o (fun q=>Z.b3 (q ▸ pj)) (rm.extBut c o (fun q=>Z.b1 (q ▸ pj)) e))) fun y hd CS py CT qv=>ai ?_);replace qv:be i2 hc hd:=qv;have vZ:IsPair hd TO x b:=qv.extBut _ _ Z.O2 vY;refine aa (cP vZ rfl (aa (fV vZ fun he v3 xJ=>?_)));replace v3:IsPair he TO x y:=v3;replace xJ:be TO hd he:=xJ;refine aa (iJ (ai (ai ?_))); refine aa (cP v3 rfl (aa (gj ?_)));have hsz:he.objs.size=hp.objs.size:=by rw [xJ.1,qv.1,tj.1,mH.1,rm.1]
  have hze:IsZ he z TI TO .ellipsis f1:=xJ.extBut _ _ Z.zTO.symm (qv.extBut _ _ Z.z2.symm (tj.extBut _ _ Z.zTO.symm (mH.extBut _ _ Z.z1.symm wQ)));have kk:∀ c o,c≠z→c≠TO→c≠i1→c≠i2→hp.get? c=some o→he.get? c=some o:=fun c o c1 c2 c3 c4 e=>xJ.extBut _ _ c2 (qv.extBut _ _ c4 (tj.extBut _ _ c2 (mH.extBut _ _ c3 (rm.extBut _ _ c1 e))))
  have CU:S1 (k1+1) he:=D1.frame _ _ _ Ai fun c pj o e=>xJ.extBut c o (fun q=>Z.a2 (q ▸ pj)) (qv.extBut c o (fun q=>Z.a3 (q ▸ pj)) (tj.extBut c o (fun q=>Z.a2 (q ▸ pj)) e))
  have CV:S2 (k2+1) he:=D2.frame _ _ _ CT fun c pj o e=>xJ.extBut c o (fun q=>Z.b2 (q ▸ pj)) e
  have zlt:z < he.objs.size:=aD hze;show wpAny _ _ (cH (.ref z) (.ref he.objs.size) >>= _) _ _ _;refine aa ?_;unfold cH; have tq:IsZ (he.push { cls:=.type "tuple",data:=.seq #[x,y] }) z TI TO .ellipsis f1:=af _ hze;refine aa (bC tq #[M] fun h7 CW wR=>?_);replace CW:IsZ h7 z TI TO (rawInt he.objs.size) f1:=CW;refine bC CW #[M] fun h8 BH CY=>ai ⟨_,rfl,?_⟩
  replace BH:IsZ h8 z TI TO (rawInt he.objs.size) (.bool false):=BH;have up:∀ c o,c≠z→he.get? c=some o→h8.get? c=some o:=fun c o c1 e=>CY.extBut _ _ c1 (wR.extBut _ _ c1 (af _ e))
  have Aj:IsPair h8 he.objs.size x y:=CY.extBut _ _ (fb zlt) (wR.extBut _ _ (fb zlt) (aC _ rfl));have uH:h8.objs.size=he.objs.size+1:=by rw [CY.1,wR.1,bi]
  show Q (.ref he.objs.size) _;rw [hsz] at BH Aj uH ⊢;exact hQ x y h8 CS _ _ _ _ px py BH ⟨.inr ⟨_,_,rfl⟩,_,rfl⟩ (up _ _ Z.zTI (kk _ _ Z.zTI Z.TT Z.T1 Z.T2 tf)) (up _ _ Z.zTO v3) (D1.frame _ _ _ CU fun c pj o e=>up c o (fun q=>Z.a1 (q ▸ pj)) e) (D2.frame _ _ _ CV fun c pj o e=>up c o (fun q=>Z.b1 (q ▸ pj)) e) Aj uH fun c o c1 c2 c3 c4 e=>up c o c1 (kk c o c1 c2 c3 c4 e)
 ·simp only [aT,if_false]; replace sQ:be z hp h0:=sQ;rw [show (#[aE i1,aE i2]:Array Value) = [aE i1,aE i2].toArray from rfl];simp only [jR,dD,fj];refine aa (aa (aa (bK ?_))); show wpAny _ _ (ba (.ref i1) >>= _) _ _ _;refine aa (D1.item k1 _ _ _ l1 (D1.frame _ _ _ nM fun c hc o e=>sQ.extBut c o (fun q=>Z.a1 (q ▸ hc)) e) fun x hb Ah px Ai mH=>ai (ai ?_));replace mH:be i1 h0 hb:=mH;refine aa (aa (bK ?_)); show wpAny _ _ (ba (.ref i2) >>= _) _ _ _;refine aa (D2.item k2 _ _ _ l2 (D2.frame _ _ _ mG fun c pj o e=>mH.extBut c o (fun q=>Z.b3 (q ▸ pj)) (sQ.extBut c o (fun q=>Z.b1 (q ▸ pj)) e)) fun y hd CS py CT qv=>ai (ai (ai ?_)));replace qv:be i2 hb hd:=qv;show wpAny _ _ (newTuple [x,y] >>= _) _ _ _;refine aa (gj (ai ⟨_,rfl,?_⟩));have hsz:hd.objs.size=hp.objs.size:=by rw [qv.1,mH.1,sQ.1]
  have kk:∀ c o,c≠z→c≠TO→c≠i1→c≠i2→hp.get? c=some o→hd.get? c=some o:=fun c o c1 c2 c3 c4 e=>qv.extBut _ _ c4 (mH.extBut _ _ c3 (sQ.extBut _ _ c1 e))
  have BI:IsZ hd z TI TO f0 (.bool true):=qv.extBut _ _ Z.z2.symm (mH.extBut _ _ Z.z1.symm hz0);have vZ:IsPair hd TO a b:=qv.extBut _ _ Z.O2 (mH.extBut _ _ Z.O1 (sQ.extBut _ _ Z.zTO uo));have CZ:S1 (k1+1) hd:=D1.frame _ _ _ Ai fun c pj o e=>qv.extBut c o (fun q=>Z.a3 (q ▸ pj)) e
  have up:∀ c o,hd.get? c=some o→(hd.push { cls:=.type "tuple",data:=.seq #[x,y] }).get? c=some o:=fun c o e=>af _ e
  have Aj:IsPair (hd.push { cls:=.type "tuple",data:=.seq #[x,y] }) hd.objs.size x y:=aC _ rfl;have uH:(hd.push { cls:=.type "tuple",data:=.seq #[x,y] }).objs.size=hd.objs.size+1:=bi ..;show Q (.ref hd.objs.size) _;rw [hsz] at Aj uH ⊢;exact hQ x y _ CS _ _ _ _ px py (up _ _ BI) ⟨hf.1,_,rfl⟩ (up _ _ (kk _ _ Z.zTI Z.TT Z.T1 Z.T2 tf)) (up _ _ vZ) (D1.frame _ _ _ CZ fun c _ o e=>up c o e) (D2.frame _ _ _ CT fun c _ o e=>up c o e) Aj uH fun c o c1 c2 c3 c4 e=>up c o (kk c o c1 c2 c3 c4 e)
theorem zko {z TI TO i1 i2:Addr} {qc qd:List Addr} {n1 n2 k1 k2:Nat} {P1 P2:Nat→Value→Prop} {S1 S2:Nat→Heap→Prop} {f0 f1 a b:Value} {Q:Fin→Shared→Prop} (D1:Draws prog w A i1 qc n1 P1 S1) (D2:Draws prog w A i2 qd n2 P2 S2) (Z:Zap z TI TO i1 i2 qc qd)
  (hz:IsZ s.heap z TI TO f0 f1) (hf:ZF f0 f1) (tf:IsPair s.heap TI (.ref i1) (.ref i2)) (uo:IsPair s.heap TO a b) (nM:S1 k1 s.heap) (mG:S2 k2 s.heap) (l1:k1=n1∨(k1 < n1∧k2=n2))
  (hE:∀ h' tk e,(∀ c o,c≠z→c≠TO→c≠i1→c≠i2→s.heap.get? c=some o→h'.get? c=some o)→(∃ o,h'.get? e=some o∧o.cls = .type "StopIteration")→E (.ref e) { s with heap:=h',toks:=tk }):wpAny (model prog w) A (Builtin.«zip.__next__» ⟨[.ref z],[]⟩) Q E s:=by
 obtain⟨hp,g,d,BG,os⟩:=s;have nz:∀ {h:Heap} {e:Addr} {o:Obj} {x y:Value},IsZ h z TI TO x y→h.get? e=some o→o.cls = .type "StopIteration"→e≠z:=fun h1 h2 h3 q=>by subst q; rw [h1] at h2; cases h2; simp at h3
 show wpAny _ _ (field (.ref z) 2 >>= _) _ _ _; refine aa (bz hz rfl (x:=.bool false) rfl ?_); show wpAny _ _ (field (.ref z) 3 >>= _) _ _ _;refine aa (bz hz rfl (x:=.ref TI) rfl ?_); refine aa (cP tf rfl ?_);show wpAny _ _ (bJ (.ref z) >>= _) _ _ _; refine aa (zkn hz hf ?_ fun h0 hz0 sQ=>?_)
 ·simp only [if_true];refine aa (cg (aa (bz hz rfl (x:=.ref TO) rfl ?_)));refine aa (bC hz #[M] fun ha wQ rm=>?_);replace wQ:IsZ ha z TI TO .ellipsis f1:=wQ;replace rm:be z hp ha:=rm;refine aa ?_;simp only [kB,kN,dD,fj]; refine aa (aa (fE ?_)); show wpAny _ _ (ba (.ref i1) >>= _) _ _ _;have uI:S1 k1 ha:=D1.frame _ _ _ nM fun c hc o e=>rm.extBut c o (fun q=>Z.a1 (q ▸ hc)) e
  rcases l1 with rfl | ⟨l1,rfl⟩
  ·refine aa (D1.done _ _ _ uI fun hb e mH ⟨oe,Ak,Al⟩=>?_);have hzb:IsZ hb z TI TO .ellipsis f1:=mH _ _ Z.z1.symm wQ;exact bC hzb #[M] fun h3 _ tu=>hE h3 BG e (fun c o c1 _ c3 _ x=>tu.extBut _ _ c1 (mH _ _ c3 (rm.extBut _ _ c1 x))) ⟨oe,tu.extBut _ _ (nz hzb Ak Al) Ak,Al⟩
  ·refine aa (D1.item k1 _ _ _ l1 uI fun x hb Ah px Ai mH=>ai ?_);replace mH:be i1 ha hb:=mH;have uG:IsPair hb TO a b:=mH.extBut _ _ Z.O1 (rm.extBut _ _ Z.zTO uo);refine aa (cP uG rfl (aa (fV uG fun hc vY tj=>?_)));replace tj:be TO hb hc:=tj;refine aa (iJ (ai (aa (aa (fE ?_))))); show wpAny _ _ (ba (.ref i2) >>= _) _ _ _;refine aa (D2.done _ _ _ (D2.frame _ _ _ mG fun c pj o e=>tj.extBut c o (fun q=>Z.b2 (q ▸ pj)) (mH.extBut c o (fun q=>Z.b3 (q ▸ pj)) (rm.extBut c o (fun q=>Z.b1 (q ▸ pj)) e))) fun hd e qv ⟨oe,Ak,Al⟩=>?_);have BI:IsZ hd z TI TO .ellipsis f1:=qv _ _ Z.z2.symm (tj.extBut _ _ Z.zTO.symm (mH.extBut _ _ Z.z1.symm wQ));exact bC BI #[M] fun h3 _ tu=>hE h3 Ah e (fun c o c1 c2 c3 c4 x=>tu.extBut _ _ c1 (qv _ _ c4 (tj.extBut _ _ c2 (mH.extBut _ _ c3 (rm.extBut _ _ c1 x))))) ⟨oe,tu.extBut _ _ (nz BI Ak Al) Ak,Al⟩
 ·simp only [aT,if_false]; replace sQ:be z hp h0:=sQ;rw [show (#[aE i1,aE i2]:Array Value) = [aE i1,aE i2].toArray from rfl];simp only [jR,dD,fj];refine aa (aa (aa (bK ?_))); show wpAny _ _ (ba (.ref i1) >>= _) _ _ _;have uI:S1 k1 h0:=D1.frame _ _ _ nM fun c hc o e=>sQ.extBut c o (fun q=>Z.a1 (q ▸ hc)) e
  rcases l1 with rfl | ⟨l1,rfl⟩
  ·exact aa (D1.done _ _ _ uI fun hb e mH he=>hE hb BG e (fun c o c1 _ c3 _ x=>mH _ _ c3 (sQ.extBut _ _ c1 x)) he)
  ·refine aa (D1.item k1 _ _ _ l1 uI fun x hb Ah px Ai mH=>ai (ai ?_));replace mH:be i1 h0 hb:=mH;refine aa (aa (bK ?_)); show wpAny _ _ (ba (.ref i2) >>= _) _ _ _;exact aa (D2.done _ _ _ (D2.frame _ _ _ mG fun c pj o e=>mH.extBut c o (fun q=>Z.b3 (q ▸ pj)) (sQ.extBut c o (fun q=>Z.b1 (q ▸ pj)) e)) fun hd e qv he=>hE hd Ah e (fun c o c1 _ c3 c4 x=>qv _ _ c4 (mH.extBut _ _ c3 (sQ.extBut _ _ c1 x))) he)
theorem zlM {e z TI TO i1 i2:Addr} {qc qd:List Addr} {n1 n2 i:Nat} {P1 P2:Nat→Value→Prop} {S1 S2:Nat→Heap→Prop} {f0 f1 a b old:Value} {Q:Option Value→Shared→Prop} (D1:Draws prog w A.in1.in1 i1 qc n1 P1 S1) (D2:Draws prog w A.in1.in1 i2 qd n2 P2 S2) (Z:Zap z TI TO i1 i2 qc qd)
  (he:IsEnum s.heap e z i old) (ez:e≠z) (eT:e≠TI) (eO:e≠TO) (e1:e≠i1) (e2:e≠i2) (ef1:e∉qc) (ef2:e∉qd)
  (hz:IsZ s.heap z TI TO f0 f1) (hf:ZF f0 f1) (tf:IsPair s.heap TI (.ref i1) (.ref i2)) (uo:IsPair s.heap TO a b) (nM:S1 i s.heap) (mG:S2 i s.heap) (l1:i < n1) (l2:i < n2)
  (hQ:∀ x y h' tk g0 g1 a' b',P1 i x→P2 i y→IsEnumOut h' e z ((i:Int)+1) (.ref s.heap.objs.size) (s.heap.objs.size+1)→IsZ h' z TI TO g0 g1→ZF g0 g1→IsPair h' TI (.ref i1) (.ref i2)→IsPair h' TO a' b'→S1 (i+1) h'→S2 (i+1) h'→IsPair h' s.heap.objs.size x y →
   IsPair h' (s.heap.objs.size+1) (.int i tk) (.ref s.heap.objs.size)→h'.objs.size=s.heap.objs.size+2 →
   (∀ c o,c≠e→c≠z→c≠TO→c≠i1→c≠i2→s.heap.get? c=some o→h'.get? c=some o)→Q (some (.ref (s.heap.objs.size+1))) { s with heap:=h',toks:=tk+1 }):wpAny (model prog w) A (pyNext (.ref e)) Q E s:=by
 have hT:s.TypeIs (.ref e) "enumerate":=⟨_,he,rfl⟩; have uJ:s.TypeIs (.ref z) "zip":=⟨_,hz,rfl⟩;unfold pyNext;refine aa (cn (br (name:=bU "__next__") hT eE (bj eE hT iK ?_ (ir _))));obtain⟨hp,g,d,BG,os⟩:=s;show wpAny _ _ (field (.ref e) 2 >>= _) _ _ _; refine aa (bz he rfl (x:=.ref z) rfl (aa ?_));unfold ba; refine aa (br (name:=bU "__next__") uJ de (bj de uJ fJ ?_ (fv _)));refine zh5 D1 D2 Z hz hf tf uo nM mG l1 l2 fun x y h1 tk g0 g1 a' b' px py rj C0 xK xM xN xO se xP kk=>ai ?_
 have wU:IsEnum h1 e z i old:=kk _ _ ez eO e1 e2 he;have elt:e < hp.objs.size:=aD he;show wpAny _ _ (field (.ref e) 3 >>= _) _ _ ⟨h1,g,d,tk,os⟩; refine aa (bz wU rfl (x:=rawInt i) rfl ?_);show wpAny _ _ (field (.ref e) 4 >>= _) _ _ ⟨h1,g,d,tk,os⟩; refine aa (bz wU rfl (x:=.none) rfl ?_);show wpAny _ _ (mkInt i >>= _) _ _ ⟨h1,g,d,tk,os⟩; refine aa (wpAny_mkInt ?_);show wpAny _ _ (setField (.ref e) 3 (rawInt ((i:Int)+1)) >>= _) _ _ ⟨h1,g,d,tk+1,os⟩; refine aa (bC wU #[M] fun h2 C2 nK=>?_);replace nK:be e h1 h2:=nK;replace C2:IsEnum h2 e z ((i:Int)+1) old:=C2;show wpAny _ _ (setField (.ref e) 4 .none >>= _) _ _ ⟨h2,g,d,tk+1,os⟩; refine aa (bC C2 #[M] fun h3 wV tu=>?_);replace tu:be e h2 h3:=tu;replace wV:IsEnum h3 e z ((i:Int)+1) old:=wV;show wpAny _ _ (newTuple [.int i tk,.ref hp.objs.size] >>= _) _ _ ⟨h3,g,d,tk+1,os⟩; refine aa (gj ?_);have z3:h3.objs.size=hp.objs.size+1:=by rw [tu.1,nK.1]; exact xP
 rw [z3];have BJ:IsEnum (h3.push { cls:=.type "tuple",data:=.seq #[.int i tk,.ref hp.objs.size] }) e z ((i:Int)+1) old:=af _ wV;have C3:=aC h3 (o:={ cls:=.type "tuple",data:=.seq #[.int i tk,.ref hp.objs.size] }) rfl;rw [z3] at C3;have k4:∀ c o,c≠e→h1.get? c=some o→(h3.push { cls:=.type "tuple",data:=.seq #[.int i tk,.ref hp.objs.size] }).get? c=some o:=fun c o ce x=>af _ (tu.extBut c o ce (nK.extBut c o ce x))
 have z4:(h3.push { cls:=.type "tuple",data:=.seq #[.int i tk,.ref hp.objs.size] }).objs.size=hp.objs.size+2:=by rw [bi,z3]
 generalize h3.push { cls:=.type "tuple",data:=.seq #[.int i tk,.ref hp.objs.size] }=h4 at BJ C3 k4 z4 ⊢;show wpAny _ _ (bJ (.ref e) >>= _) _ _ ⟨h4,g,d,tk+1,os⟩;refine aa ?_;unfold bJ; refine aa (bz BJ rfl (x:=.none) rfl (ai ?_));simp only [if_true]; refine aa (cg (aa (bz BJ rfl (x:=old) rfl ?_)));refine aa (bC BJ #[M] fun h5 yA BK=>?_);replace BK:be e h4 h5:=BK;replace yA:IsEnum h5 e z ((i:Int)+1) (.ref hp.objs.size):=yA;show wpAny _ _ (cH (.ref e) (.ref (hp.objs.size+1)) >>= _) _ _ ⟨h5,g,d,tk+1,os⟩;refine aa ?_;unfold cH; refine aa (bC yA #[M] fun h6 C4 BL=>?_);replace BL:be e h5 h6:=BL;replace C4:IsEnumOut h6 e z ((i:Int)+1) (.ref hp.objs.size) (hp.objs.size+1):=C4;refine bC C4 #[M] fun h7 C5 wR=>?_
 replace wR:be e h6 h7:=wR;replace C5:IsEnumOut h7 e z ((i:Int)+1) (.ref hp.objs.size) (hp.objs.size+1):=C5;have up:∀ c o,c≠e→h4.get? c=some o→h7.get? c=some o:=fun c o ce x=>wR.extBut c o ce (BL.extBut c o ce (BK.extBut c o ce x))
 have z7:h7.objs.size=hp.objs.size+2:=by rw [wR.1,BL.1,BK.1,z4]
 refine aa (iJ (ai ⟨_,rfl,ai ?_⟩));exact hQ x y h7 tk g0 g1 a' b' px py C5 (up _ _ ez.symm (k4 _ _ ez.symm rj)) C0 (up _ _ eT.symm (k4 _ _ eT.symm xK)) (up _ _ eO.symm (k4 _ _ eO.symm xM))
  (D1.frame _ _ _ xN fun c hc o x=>up c o (fun q=>ef1 (q ▸ hc)) (k4 c o (fun q=>ef1 (q ▸ hc)) x)) (D2.frame _ _ _ xO fun c hc o x=>up c o (fun q=>ef2 (q ▸ hc)) (k4 c o (fun q=>ef2 (q ▸ hc)) x))
  (up _ _ (fb elt) (k4 _ _ (fb elt) se)) (up _ _ (fb (dG elt)) C3) z7 fun c o ce cz cO c1 c2 x=>up c o ce (k4 c o ce (kk c o cz cO c1 c2 x))
theorem znk {e z TI TO i1 i2:Addr} {qc qd:List Addr} {n1 n2 k:Nat} {i:Int} {P1 P2:Nat→Value→Prop} {S1 S2:Nat→Heap→Prop} {f0 f1 a b old:Value} {Q:Option Value→Shared→Prop} (D1:Draws prog w A.in1.in1 i1 qc n1 P1 S1) (D2:Draws prog w A.in1.in1 i2 qd n2 P2 S2) (Z:Zap z TI TO i1 i2 qc qd)
  (he:IsEnum s.heap e z i old) (hz:IsZ s.heap z TI TO f0 f1) (hf:ZF f0 f1) (tf:IsPair s.heap TI (.ref i1) (.ref i2)) (uo:IsPair s.heap TO a b) (nM:S1 k s.heap) (mG:S2 k s.heap) (l1:k=n1∨(k < n1∧k=n2))
  (hQ:∀ h' tk,(∀ c o,c≠z→c≠TO→c≠i1→c≠i2→s.heap.get? c=some o→h'.get? c=some o)→Q none { s with heap:=h',toks:=tk }):wpAny (model prog w) A (pyNext (.ref e)) Q E s:=by
 have hT:s.TypeIs (.ref e) "enumerate":=⟨_,he,rfl⟩; have uJ:s.TypeIs (.ref z) "zip":=⟨_,hz,rfl⟩;unfold pyNext;refine aa (cn (br (name:=bU "__next__") hT eE (bj eE hT iK ?_ (ir _))));show wpAny _ _ (field (.ref e) 2 >>= _) _ _ _; refine aa (bz he rfl (x:=.ref z) rfl (aa ?_));unfold ba; refine aa (br (name:=bU "__next__") uJ de (bj de uJ fJ ?_ (fv _)));refine zko D1 D2 Z hz hf tf uo nM mG l1 fun h' tk x kk ⟨o,ho,hc⟩=>?_
 exact aa (cW (T:="StopIteration") (b:=true) ⟨o,ho,hc⟩ gh (ai (hQ h' tk kk)))
end
def zcc (x y:Value):Obj:={ cls:=.type "tuple",data:=.seq #[x,y] }
def zlN (a b:Addr):Obj:={ cls:=.type "zip",data:=.fields #[.none,.bool false,.bool false,.ref a,.ref b] }
def itO (C:String) (l:Addr):Obj:={ cls:=.type C,data:=.fields #[.ref l,.int 0 0] }
abbrev zt2 (C:String) (h:Heap) (l1 l2:Addr):Heap:=(h.push (zb9 l1)).push (itO C l2)
abbrev zt4 (C:String) (h:Heap) (l1 l2:Addr):Heap:=((zt2 C h l1 l2).push (zcc (.ref h.objs.size) (.ref (h.push (zb9 l1)).objs.size))).push (zcc .none .none)
abbrev zt5 (C:String) (h:Heap) (l1 l2:Addr):Heap:=(zt4 C h l1 l2).push (zlN (zt2 C h l1 l2).objs.size ((zt2 C h l1 l2).push (zcc (.ref h.objs.size) (.ref (h.push (zb9 l1)).objs.size))).objs.size)
def ItC (C:String) (h:Heap) (a l:Addr) (i:Nat):Prop:=∃ o,h.get? a=some o∧o.cls = .type C∧o.data = .fields #[.ref l,.int i 0]
structure SkH (C:String) (Is:Heap→Addr→Array Value→Prop):Prop where
 it:∀ {prog:Program} {w:World} {A:Around} {E:Value→Shared→Prop} {s:Shared} {l:Addr} {lS:Array Value} {Q:Value→Shared→Prop},Is s.heap l lS→Q (.ref s.heap.objs.size) { s with heap:=s.heap.push (itO C l) }→wpAny (model prog w) A (pyIter (.ref l)) Q E s
 pu:∀ {h:Heap} {l:Addr} {lS:Array Value} (o:Obj),Is h l lS→Is (h.push o) l lS
 dr:∀ {prog:Program} {w:World} {A:Around},A.handled=none→∀ (it l:Addr),l≠it→∀ (lS:Array Value),Draws prog w A it [it,l] lS.size (fun i v=>lS[i]? = some v) fun i h=>ItC C h it l i∧Is h l lS
theorem skL:SkH "list_iterator" Heap.IsList:=⟨fun h q=>gP h q,fun o h=>Heap.IsList.push h o,fun hh it l ne lS=>kO hh it l ne lS⟩
theorem skT:SkH "tuple_iterator" jS:=⟨fun h q=>fc h q,fun o ⟨u,e,r⟩=>⟨u,af _ e,r⟩,fun hh it l ne lS=>Draws.tuple hh it l ne lS⟩
theorem zgg {C:String} {Is:Heap→Addr→Array Value→Prop} (S:SkH C Is) (l1 l2:Addr) (xs ys:Array Value):Meets (Builtin.«zip.__new__» ⟨[.type "zip",.ref l1,.ref l2],[]⟩) (fun _ R s=>s.heap.IsTuple l1 xs∧Is s.heap l2 ys∧R (.ok (.ret (.ref (zt4 C s.heap l1 l2).objs.size))) { s with heap:=zt5 C s.heap l1 l2 }) :=
 .of_wp fun prog w A R s h=>by
  obtain⟨hp,g,d,tk,os⟩:=s; obtain⟨rR,n8,h⟩:=h; have qJ:=sub_zip;have wW:jS (gt ⟨hp,g,d,tk,os⟩) l1 xs:=rR;have wX:Is (gt ⟨hp.push { cls:=.type "tuple_iterator",data:=.fields #[.ref l1,.int 0 0] },g,d,tk,os⟩) l2 ys:=S.pu _ n8
  wp_walk using fc wW,S.it wX
  exact⟨_,rfl,h⟩
section
variable {prog:Program} {w:World} {A:Around} {E:Value→Shared→Prop} {s:Shared}
theorem zef {C:String} {Is:Heap→Addr→Array Value→Prop} (S:SkH C Is) {l1 l2:Addr} {xs ys:Array Value} {Q:Value→Shared→Prop} (rR:s.heap.IsTuple l1 xs) (n8:Is s.heap l2 ys)
  (h:∀ h' n,n=s.heap.objs.size→IsZ h' (n+4) (n+2) (n+3) .none (.bool false)→IsPair h' (n+2) (.ref n) (.ref (n+1))→IsPair h' (n+3) .none .none→h'.IsTupleIter n l1 0→ItC C h' (n+1) l2 0→h'.objs.size=n+5 →
   (∀ c o,s.heap.get? c=some o→h'.get? c=some o)→Q (.ref (n+4)) { s with heap:=h' }):wpAny (model prog w) A (call (.type "zip") [.ref l1,.ref l2]) Q E s:=by
 refine ik F.called_zip #[D] (kC _ _) (F.newCall_zip_2 _ _) (fun obj=>jg obj _ _) F.entry_zip_new (zgg S l1 l2 xs ys) ⟨rR,n8,?_⟩;have z1:(s.heap.push (zb9 l1)).objs.size=s.heap.objs.size+1:=bi ..;have z2:(zt2 C s.heap l1 l2).objs.size=s.heap.objs.size+2:=by rw [bi,z1]
 have z3:((zt2 C s.heap l1 l2).push (zcc (.ref s.heap.objs.size) (.ref (s.heap.push (zb9 l1)).objs.size))).objs.size=s.heap.objs.size+3:=by rw [bi,z2]
 have z4:(zt4 C s.heap l1 l2).objs.size=s.heap.objs.size+4:=by rw [bi,z3]
 have g5:=aC (zt4 C s.heap l1 l2) (o:=zlN (zt2 C s.heap l1 l2).objs.size ((zt2 C s.heap l1 l2).push (zcc (.ref s.heap.objs.size) (.ref (s.heap.push (zb9 l1)).objs.size))).objs.size) rfl;have g4:(zt5 C s.heap l1 l2).get? _=some _:=af _ (aC ((zt2 C s.heap l1 l2).push (zcc (.ref s.heap.objs.size) (.ref (s.heap.push (zb9 l1)).objs.size))) (o:=zcc .none .none) rfl);have g3:(zt5 C s.heap l1 l2).get? _=some _:=af _ (af _ (aC (zt2 C s.heap l1 l2) (o:=zcc (.ref s.heap.objs.size) (.ref (s.heap.push (zb9 l1)).objs.size)) rfl));have g2:(zt5 C s.heap l1 l2).get? _=some _:=af _ (af _ (af _ (aC (s.heap.push (zb9 l1)) (o:=itO C l2) rfl)));have g1:(zt5 C s.heap l1 l2).get? s.heap.objs.size=some (zb9 l1):=af _ (af _ (af _ (af _ (aC _ rfl))));have z5:(zt5 C s.heap l1 l2).objs.size=s.heap.objs.size+5:=by rw [bi,z4]
 have k5:∀ c o,s.heap.get? c=some o→(zt5 C s.heap l1 l2).get? c=some o:=fun c o x=>af _ (af _ (af _ (af _ (af _ x))))
 show _∧_;rw [z4] at g5 ⊢;rw [z3] at g4;rw [z2] at g3;rw [z1] at g2;refine⟨⟨_,g5,rfl⟩,h _ _ rfl ?_ ?_ g4 ⟨_,g1,rfl,rfl⟩ ⟨_,g2,rfl,rfl⟩ z5 k5⟩
 ·have:IsZ (zt5 C s.heap l1 l2) (s.heap.objs.size+4) (zt2 C s.heap l1 l2).objs.size ((zt2 C s.heap l1 l2).push (zcc (.ref s.heap.objs.size) (.ref (s.heap.push (zb9 l1)).objs.size))).objs.size .none (.bool false):=g5;rw [z2,z3] at this;exact this
 ·have:IsPair (zt5 C s.heap l1 l2) (s.heap.objs.size+2) (.ref s.heap.objs.size) (.ref (s.heap.push (zb9 l1)).objs.size):=g3;rw [z1] at this;exact this
theorem zhe {l1 l2:Addr} {xs ys:Array Value} {Q:Value→Shared→Prop} (rR:s.heap.IsTuple l1 xs) (n8:s.heap.IsList l2 ys)
  (h:∀ h' n,n=s.heap.objs.size→IsZ h' (n+4) (n+2) (n+3) .none (.bool false)→IsPair h' (n+2) (.ref n) (.ref (n+1))→IsPair h' (n+3) .none .none→h'.IsTupleIter n l1 0→h'.IsListIter (n+1) l2 0→h'.objs.size=n+5 →
   (∀ c o,s.heap.get? c=some o→h'.get? c=some o)→Q (.ref (n+4)) { s with heap:=h' }):wpAny (model prog w) A (call (.type "zip") [.ref l1,.ref l2]) Q E s:=zef skL rR n8 h
end
open AutoSeq1 (wpAny_loadPart') in
theorem zgh (z TI TO:Addr) (f0:Value):Meets (Builtin.«enumerate.__new__» ⟨[.type "enumerate",.ref z],[]⟩) (fun _ R s=>IsZip s.heap z TI TO f0∧R (.ok (.ret (.ref s.heap.objs.size))) { s with heap:=s.heap.push (zke z) }) :=
 .of_wp fun prog w A R s h=>by
  obtain⟨hp,g,d,tk,os⟩:=s; obtain⟨hz,h⟩:=h;have hZ:IsZip (gt ⟨hp,g,d,tk,os⟩) z TI TO f0:=hz;have qJ:=sub_enumerate; wp_walk using eS hz;refine wpAny_stack_any fun st=>ai ?_; split
  ·rename_i c _ _ _ _ _; cases (c == Value.type "enumerate") <;> (wp_walk using eS hz,fH hZ; exact⟨_,rfl,h⟩)
  ·wp_walk using eS hz,fH hZ; exact⟨_,rfl,h⟩
theorem zhf {prog:Program} {w:World} {A:Around} {E:Value→Shared→Prop} {s:Shared} {z TI TO:Addr} {f0:Value} {Q:Value→Shared→Prop} (hz:IsZip s.heap z TI TO f0)
  (h:∀ h',IsEnum h' s.heap.objs.size z 0 .none→h'.objs.size=s.heap.objs.size+1→(∀ b o,s.heap.get? b=some o→h'.get? b=some o)→Q (.ref s.heap.objs.size) { s with heap:=h' }):wpAny (model prog w) A (call (.type "enumerate") [.ref z]) Q E s:=by
 refine ik F.called_enumerate #[D] (F.typeCall_enumerate_1 _) (F.newCall_enumerate_1 _) (fun obj=>jf obj _) F.entry_enumerate_new (zgh z TI TO f0) ⟨hz,?_⟩;have he:=aC s.heap (o:=zke z) rfl;exact⟨⟨_,he,rfl⟩,h _ he (bi ..) fun b o x=>af _ x⟩
end PySem
end
section
namespace L2
open PySem PySem.Spec PyProof.Rows
def zlO (oG qr:Hp→Addr→List V→Prop) (a b:Addr):It :=
 ⟨fun i H=>∃ xs ys x y,oG H a xs∧qr H b ys∧xs[i]? = some x∧ys[i]? = some y,
  fun i H x H'=>∃ T1 T2 u v,H T1=none∧H T2=none∧T1≠T2∧x = .ref T2∧H'=lP (lP H T1 (.tup [u,v])) T2 (.tup [.int i,.ref T1])∧(∀ xs,oG H a xs→xs[i]? = some u)∧∀ ys,qr H b ys→ys[i]? = some v,
  fun i H=>∃ xs ys,oG H a xs∧qr H b ys∧xs.length=i⟩
abbrev zeg (n:Nat):List Addr:=[n+5,n+4,n+2,n+3,n,n+1]
abbrev znl (n a b:Nat) (i:Nat) (h:Heap):Prop:=(∃ old,IsEnum h (n+5) (n+4) i old)∧(∃ f0 f1,IsZ h (n+4) (n+2) (n+3) f0 f1∧ZF f0 f1)∧IsPair h (n+2) (.ref n) (.ref (n+1))∧(∃ u v,IsPair h (n+3) u v)∧h.IsTupleIter n a i∧h.IsListIter (n+1) b i
theorem nq {x y:Nat} (h:x≠y):@Ne Addr x y:=h
theorem nl {x y:Nat} (h:x < y):@LT.lt Nat _ x y:=h
theorem nm2 {c x y:Nat} (h1:c≠x) (h2:c≠y):¬ @Membership.mem Addr (List Addr) _ [x,y] c:=fun h=>by
 rcases au.mp h with e | e
 ·exact h1 e
 ·exact h2 (aY.mp e)
theorem zcr {n a b:Nat} (ha:a < n) (hb:b < n):Zap (n+4) (n+2) (n+3) n (n+1) [n,a] [n+1,b] :=
 ⟨nq #[O],nq #[O],nq #[O],nq #[O],nq #[O],nq #[O],nq #[O],nq #[O],nq #[O],nq #[O],nm2 #[O] #[O],nm2 #[O] #[O],nm2 #[O] #[O],nm2 #[O] #[O],nm2 #[O] #[O],nm2 #[O] #[O]⟩
theorem zlP {P:Program} {w:World} {K:ag} {es:List Expr} {k:Nat} {pos:Pos} (a b n:Nat) (ha:a < n) (hb:b < n):Turn P w K (.Tuple es k pos) (zlO (lX K) (lN K) a b) (zeg n) (n+5) (znl n a b) where
 mem:=by simp
 obj:=fun i h st c hc=>by
  obtain⟨⟨old,h0⟩,⟨f0,f1,h1,_⟩,h2,⟨u,v,h3⟩,⟨o4,e4,_,d4⟩,⟨o5,e5,_,d5⟩⟩:=st;simp only [zeg,au,aM,or_false] at hc;rcases hc with z | z | z | z | z | z <;> subst z
  ·exact⟨_,h0,fun v z=>by cases z⟩
  ·exact⟨_,h1,fun v z=>by cases z⟩
  ·exact⟨_,h2,fun v z=>by cases z⟩
  ·exact⟨_,h3,fun v z=>by cases z⟩
  ·exact⟨_,e4,fun v z=>by rw [d4] at z; cases z⟩
  ·exact⟨_,e5,fun v z=>by rw [d5] at z; cases z⟩
 keep:=fun i h h' st kk=>by
  obtain⟨⟨old,h0⟩,⟨f0,f1,h1,hf⟩,h2,⟨u,v,h3⟩,h4,h5⟩:=st;exact⟨⟨old,kk _ #[M] _ h0⟩,⟨f0,f1,kk _ #[M] _ h1,hf⟩,kk _ #[M] _ h2,⟨u,v,kk _ #[M] _ h3⟩,h4.at fun o eo=>kk _ #[M] o eo,h5.at fun o eo=>kk _ #[M] o eo⟩
 item:=by
  intro X hP hw hK hc i lM s σ H E I hf st hg;subst hP hw hK;obtain⟨xs,ys,x,y,oB,nH,hx,hy⟩:=hg;obtain⟨⟨old,h0⟩,⟨f0,f1,h1,tq⟩,h2,⟨u0,v0,h3⟩,h4,h5⟩:=st;obtain⟨mj,qH,p1,rj⟩:=I.tuple oB;obtain⟨l9,qX,p2,sP⟩:=I.list nH;obtain⟨u,hu,ru⟩:=qH.get hx;obtain⟨v,hv,rv⟩:=qX.get hy;have vy:n+5 < s.heap.objs.size:=aD h0;have hh:X.A.in1.in1.handled=none:=by simp [I.ok.hd hc]
  have oH:i < mj.toArray.size:=by have:=(ak.mp hu).1; simpa using this
  have oI:i < l9.toArray.size:=by have:=(ak.mp hv).1; simpa using this
  refine zlM (Draws.tuple hh n a (nq #[O]) mj.toArray) (kO hh (n+1) b (nq #[O]) l9.toArray) (zcr ha hb) h0 (nq #[O]) (nq #[O]) (nq #[O]) (nq #[O]) (nq #[O]) (nm2 #[O] #[O]) (nm2 #[O] #[O]) h1 tq h2 h3 ⟨h4,(show s.heap.IsTuple a mj.toArray from p1)⟩ ⟨h5,p2.isList⟩ oH oI
   fun x' y' h' tk g0 g1 a' b' px py eo ez Am e2 e3 t4 t5 pp pe hsz kk=>?_
  have eu:x'=u:=by
   have e1:mj[i]? = some x':=by simpa using px
   rw [hu] at e1; exact (aG e1).symm
  have ev:y'=v:=by
   have e1:l9[i]? = some y':=by simpa using py
   rw [hv] at e1; exact (aG e1).symm
  subst eu ev;have ch:∀ c∈[n+5,n+4,n+3,n,n+1],c∈zeg n:=fun c lR=>by
   simp only [zeg,au,aM,or_false] at lR ⊢;rcases lR with z | z | z | z | z <;> subst z <;> simp
  have k1:∀ c o,c∉[n+5,n+4,n+3,n,n+1]→s.heap.get? c=some o→h'.get? c=some o:=fun c o lR eo=>by
   simp only [au,aM,or_false,not_or] at lR;exact kk c o lR.1 lR.2.1 lR.2.2.1 lR.2.2.2.1 lR.2.2.2.2 eo
  have vW:∀ c∈[n+5,n+4,n+3,n,n+1],∃ o,h'.get? c=some o:=fun c lR=>by
   simp only [au,aM,or_false] at lR;rcases lR with z | z | z | z | z <;> subst z
   ·exact⟨_,eo⟩
   ·exact⟨_,ez⟩
   ·exact⟨_,e3⟩
   ·obtain⟨o,e,_⟩:=t4.1; exact⟨o,e⟩
   ·obtain⟨o,e,_⟩:=t5.1; exact⟨o,e⟩
  have I1:Inv X lM σ (lP H s.heap.objs.size (.tup [x,y])) { s with heap:=h',toks:=tk+1 } :=
   I.turnedNew k1 (fun c lR=>hf c (ch c lR)) vW (ah _) ⟨zaC,_,.cons ru (.cons rv .nil),za8 pp⟩
  have rQ:H (s.heap.objs.size+1)=none:=I.hok.fresh (gr _);have C6:lP H s.heap.objs.size (.tup [x,y]) (s.heap.objs.size+1)=none:=by rw [zp (ig _)]; exact rQ
  obtain⟨_,a1,a2,a3,a4,a5⟩:=I.fpOk (H':=H) (gr s.heap.objs.size) rQ;have I1':Inv X lM σ (lP (lP H s.heap.objs.size (.tup [x,y])) (s.heap.objs.size+1) (.tup [.int i,.ref s.heap.objs.size])) { s with heap:=h',toks:=tk+1 } :=
   I1.track C6 (aV I.sz (gr _)) (dk a1) a4 a5 ⟨zaC,_,.cons ⟨tk,rfl⟩ (.cons rfl .nil),za8 pe⟩
  refine⟨_,rfl,gJ eo fun sZ sd m9=>?_⟩;have fr:∀ c∈zeg n,lP (lP H s.heap.objs.size (.tup [x,y])) (s.heap.objs.size+1) (.tup [.int i,.ref s.heap.objs.size]) c=none:=fun c lR=>by
   have ml:c < s.heap.objs.size:=by
    simp only [zeg,au,aM,or_false] at lR;rcases lR with z | z | z | z | z | z <;> subst z <;> exact nl #[O]
   rw [zp (aZ (dG ml)),zp (aZ ml)];exact (hf c lR).1
  have I2:Inv X lM σ (lP (lP H s.heap.objs.size (.tup [x,y])) (s.heap.objs.size+1) (.tup [.int i,.ref s.heap.objs.size])) { s with heap:=sZ,toks:=tk+1 } :=
   Inv.turnedL (s:={ s with heap:=h',toks:=tk+1 }) (ch:=[n+5]) (t':=tk+1) I1' (fun c o lR eo=>m9.extBut c o (by simpa using lR) eo) (fun c lR=>by
    have z:c=n+5:=by simpa using lR
    subst z;exact⟨fr _ #[M],(hf _ #[M]).2⟩) (fun c lR=>by
    have z:c=n+5:=by simpa using lR
    subst z;exact⟨_,sd⟩)
  have up:∀ c o,c≠n+5→h'.get? c=some o→sZ.get? c=some o:=fun c o lR e=>m9.extBut c o lR e
  exact⟨.ref (s.heap.objs.size+1),_,I2,rfl,⟨_,_,x,y,I.fresh,rQ,aZ (kz _),rfl,rfl,fun zs hz=>by rw [I.tuple_inj hz oB]; exact hx,fun zs hz=>by rw [I.list_inj hz nH]; exact hy⟩,
   ⟨⟨_,by simpa using sd⟩,⟨g0,g1,up _ _ (nq #[O]) ez,Am⟩,up _ _ (nq #[O]) e2,⟨_,_,up _ _ (nq #[O]) e3⟩,t4.1.at fun o e=>up _ o (nq #[O]) e,t5.1.at fun o e=>up _ o (nq #[O]) e⟩,fr⟩
 done:=by
  intro X hP hw hK hc i lM s σ H E I hf st hg;subst hP hw hK;obtain⟨xs,ys,oB,nH,hx⟩:=hg;obtain⟨⟨old,h0⟩,⟨f0,f1,h1,tq⟩,h2,⟨u0,v0,h3⟩,h4,h5⟩:=st;obtain⟨mj,qH,p1,rj⟩:=I.tuple oB;obtain⟨l9,qX,p2,sP⟩:=I.list nH;have hh:X.A.in1.in1.handled=none:=by simp [I.ok.hd hc]
  have rR:=qH.length;refine znk (Draws.tuple hh n a (nq #[O]) mj.toArray) (kO hh (n+1) b (nq #[O]) l9.toArray) (zcr ha hb) h0 h1 tq h2 h3 ⟨h4,(show s.heap.IsTuple a mj.toArray from p1)⟩ ⟨h5,p2.isList⟩ (.inl (by rw [am]; lia)) fun h' tk kk=>⟨rfl,?_⟩
  have sub:∀ c∈[n+4,n+3,n,n+1],c∈zeg n:=fun c lR=>by
   simp only [zeg,au,aM,or_false] at lR ⊢;rcases lR with z | z | z | z <;> subst z <;> simp
  have k1:∀ c o,c∉[n+4,n+3,n,n+1]→s.heap.get? c=some o→h'.get? c=some o:=fun c o lR e=>by
   simp only [au,aM,or_false,not_or] at lR;exact kk c o lR.1 lR.2.1 lR.2.2.1 lR.2.2.2 e
  have rd:∀ d u',H d=some u'→d∉[n+4,n+3,n,n+1]:=fun d u' e' hd=>by rw [(hf d (sub d hd)).1] at e'; cases e'
  refine I.step (g':=s.gens) (d':=s.drawn) (t':=tk) (ch:=[n+4,n+3,n,n+1]) (fun c lR=>?_) (fun c o _ _ mU e _=>k1 c o mU e) (fun c o _ _ mU e _=>⟨o.slots,k1 c o mU e⟩) (fun _ _ _ _ n=>n)
   (fun c o mU e=>⟨o,k1 c o mU e⟩) (fun _ _ e=>e) (fun _ _ _ e=>e) (fun c ps e=>⟨#[],by rw [e]; simp⟩) (fun m hm=>?_) (fun c u e=>?_) I.bare
  ·obtain⟨_,a1,_,a3,a4,a5⟩:=hf c (sub c lR);exact⟨a3,a1,a4,a5⟩
  ·obtain⟨o,uy,ep,ho,r⟩:=hm;exact⟨o,uy,ep,k1 _ o (fun z=>(hf _ (sub _ z)).2.1 rfl) ho,r⟩
  ·refine (I.hok c u e).stay (fun d v' hd q=>k1 d v' ?_ q) (fun _ q=>q) fun _ _ q=>q
   rcases hd with z | z
   ·rw [z]; exact rd c u e
   ·exact rd d _ z
 self:=fun _ _ _ _ _ st h=>by
  obtain⟨⟨old,he⟩,_⟩:=st;exact ft he h
def iEZ (oG qr:Hp→Addr→List V→Prop) (ta:TA):TI:=fun σ H R=>ta σ H fun vs H1=>∃ a b xs ys,vs = [.ref a,.ref b]∧oG H1 a xs∧qr H1 b ys∧R (zlO oG qr a b) H1
theorem zhg {X:Cx} {es:List Expr} {k:Nat} {nP p p2 pos nQ:Pos} {a b:Expr} {ta:TA} (hg:Gl X "enumerate") (hm:X.mg "enumerate" = none) (An:Gl X "zip") (uq:X.mg "zip" = none) (ha:PA X [a,b] ta) (hs:starEach [a,b] X.env = [(false,eval a X.env),(false,eval b X.env)]:=by rfl) (nK:starEach [b] X.env = [(false,eval b X.env)]:=by rfl)
  (tu:starEach [.Call (.Name "zip" p2) [a,b] [] nQ] X.env = [(false,eval (.Call (.Name "zip" p2) [a,b] [] nQ) X.env)]:=by rfl) :
  PI X (.Tuple es k nP) (.Call (.Name "enumerate" p) [.Call (.Name "zip" p2) [a,b] [] nQ] [] pos) (iEZ (lX X.K) (lN X.K) ta):=by
 intro lM s σ H R I h;refine Call_ (zbg I hg hm boot_enumerate (bv ?_ tu rfl));rw [tu];show wpAny _ _ (spliced ((false,eval (.Call (.Name "zip" p2) [a,b] [] nQ) X.env) :: [])) _ _ s;refine jJ ?_;refine Call_ (zbg I An uq kA (bv (thn (ha nQ lM s σ H _ I h) fun us s1 ⟨vs,H1,I1,r1,q1⟩=>?_) (by rw [hs,nK]) (by rw [nK]; rfl)));obtain⟨l1,l2,xs,ys,e,oB,nH,q⟩:=q1;subst e;cases r1 with
 | cons r rr =>
  cases rr with
  | cons r' rr =>
   cases rr;cases r;cases r';obtain⟨mj,qH,vz,rj⟩:=I1.tuple oB;obtain⟨l9,qX,vX,sP⟩:=I1.list nH;have oH:l1 < s1.heap.objs.size:=by obtain⟨_,e,_⟩:=vz; exact aD e
   have oI:l2 < s1.heap.objs.size:=by obtain⟨_,_,e,_⟩:=vX; exact aD e
   refine zhe (show s1.heap.IsTuple l1 mj.toArray from vz) vX.isList fun h' n hn b1 b2 b3 b4 b5 b6 kk=>?_
   refine j4 ?_;refine zhf b1 fun h2 he hsz yB=>?_
   have I2:Inv X lM σ H1 { s1 with heap:=h2 }:=I1.kept (t':=s1.toks) fun c o e=>yB c o (kk c o e)
   refine ft he ?_; have e5:h'.objs.size=n+5:=b6;have Ag:IsEnum h2 (n+5) (n+4) 0 .none:=by rw [← e5]; exact he
   refine⟨_,zeg n,znl n l1 l2,zlO (lX X.K) (lN X.K) l1 l2,H1,rfl,I2,?_,⟨⟨_,Ag⟩,⟨_,_,yB _ _ b1,.inl rfl,_,rfl⟩,yB _ _ b2,⟨_,_,yB _ _ b3⟩,b4.at fun o e=>yB _ o e,b5.at fun o e=>yB _ o e⟩,fun c hc=>?_,q⟩
   ·show Turn X.prog X.w X.K (.Tuple es k nP) (zlO (lX X.K) (lN X.K) l1 l2) (zeg n) h'.objs.size (znl n l1 l2);rw [e5];exact zlP l1 l2 n (by rw [hn]; exact oH) (by rw [hn]; exact oI)
   ·have hle:s1.heap.objs.size≤c:=by
     simp only [zeg,au,aM,or_false] at hc;rw [← hn];rcases hc with z | z | z | z | z | z <;> subst z
     all_goals first | exact fK _ _ | exact ah _
    exact I1.fpOk hle (I1.hok.fresh hle)
theorem zhh {K:ag} {i j:Nat}:∀ (x:V) (σ:St) (H:Hp) (Q Q':St→Hp→Prop),(∀ σ' H',Q σ' H'→Q' σ' H')→zgV K 2 (zcz (zaQ i) (zcz (zaQ j) ziD)) x σ H Q→zgV K 2 (zcz (zaQ i) (zcz (zaQ j) ziD)) x σ H Q':=fun x σ H Q Q' hq ⟨a,xs,e1,h1,h2,v,r,e3,v2,r2,e4,e5,h⟩=>⟨a,xs,e1,h1,h2,v,r,e3,v2,r2,e4,e5,hq _ _ h⟩
end L2
end
section
namespace My
open PySem L2 PyProof.Rows
section
variable {K:ag}
def zoH (H:Hp):V→Option (List V)
 | .ref a=>match H a with
  | some (.lst xs)=>some xs
  | _=>none
 | _=>none
def zbh (H:Hp) (c tt:Addr) (p k:Int) (pl:List Int):Prop:=H c=some (.tup [.int p,.int k,.ref tt])∧H tt=some (.tup (pl.map V.int))
theorem zbh.same {H H':Hp} {c tt:Addr} {p k:Int} {pl:List Int} (s:zA H H') (h:zbh H c tt p k pl):zbh H' c tt p k pl:=⟨s _ _ h.1,s _ _ h.2⟩
theorem zi0 {a:Addr} {xs:List V} {kp:V→Bool} {f:V→V} {g:TG} {ts:TT} {te:TE} {σ0:L2.St} {Q:VK} {H:Hp} (ha:lN K H a xs) (hn:xs.length≤10000)
  (hs:∀ (i:Nat) (x:V) (R:VK) (B:Hp→Prop),xs[i]? = some x→(if kp x=true then R (f x) H else B H)→g x σ0 H fun σ2 H2=>ts σ2 H2 fun b H3=>if b=true then te σ2 H3 R else B H3)
  (hd:∀ D,H D=none→Q (.ref D) (lP H D (.lst ((xs.filter kp).map f)))):cGo g ts te σ0 (Itl K a) Q H:=by
 refine zcX (n:=xs.length) (fun i ys H'=>ys=((xs.take i).filter kp).map f∧H'=H) ⟨#[M],rfl⟩ ?_ ?_ ?_ ?_
 ·rintro i ys H3 hi ⟨_,rfl⟩;exact⟨_,xs[i],ha,#[M]⟩
 ·rintro ys H3 ⟨_,rfl⟩;exact⟨_,ha,ah _⟩
 ·rintro i x ys H3 H4 hi ⟨rfl,rfl⟩ ⟨rfl,hx⟩;refine hs i x _ _ (hx _ ha) ?_;rw [take_snoc (hx _ ha),bV,aw];by_cases h:kp x=true
  ·rw [if_pos h];refine⟨zau ?_,?_,rfl⟩
   ·rw [ae];exact aV (cj _ _) (aV (dU _ _) #[O])
   ·congr 1;simp [h]
  ·rw [if_neg h];refine⟨?_,rfl⟩;simp [h]
 ·rintro ys H3 D ⟨rfl,rfl⟩ hD;rw [aX];exact hd D hD
def mF:Option Int→V
 | none=>.non
 | some i=>.int i
def zaz (p:Int) (pl:List Int) (rw:List (Option Int)) (l6:List Int) (j:Nat):Bool:=match pl[j]?,rw[j]? with
 | some x,some (some i)=>decide (i=zu p x l6)
 | _,_=>false
def zaK (p:Int) (pl:List Int) (rw:List (Option Int)) (l6:List Int) (n:Nat):List Int:=((bg n).filter (zaz p pl rw l6)).map fun (j:Nat)=>(j:Int)
theorem ze7 {p:Int} {pl:List Int} {rw:List (Option Int)} {l6:List Int} {n:Nat}:zaK p pl rw l6 (n+1)=zaK p pl rw l6 n++if zaz p pl rw l6 n then [(n:Int)] else []:=by
 unfold zaK;rw [iD,bV,aw];congr 1;by_cases h:zaz p pl rw l6 n=true
 ·rw [if_pos h]; simp [h]
 ·rw [if_neg h]; simp [h]
theorem zdt (p:Int) (pl:List Int) (rw:List (Option Int)) (l6:List Int) (n:Nat):(zaK p pl rw l6 n).length≤n:=by
 unfold zaK;rw [ae];exact aV (cj _ _) (by rw [dI]; exact ah _)
theorem zdN {rw:List (Option Int)} {j:Nat} {x:V} (h:(rw.map mF)[j]? = some x):∃ o,x=mF o∧rw[j]? = some o:=by
 rw [ap] at h;cases e:rw[j]? with
 | none=>rw [e] at h; cases h
 | some c=>rw [e] at h; exact⟨c,(aG h).symm,rfl⟩
def hide (H:Hp) (a:Addr):Hp:=fun b=>if b=a then none else H b
theorem zcj (H:Hp) (a:Addr):zA (hide H a) H:=fun b o e=>by
 unfold hide at e;split at e
 ·cases e
 ·exact e
theorem zkp {H:Hp} {a:Addr} {o:HO}:hide (lP H a o) a=hide H a:=by
 funext b;unfold hide;by_cases h:b=a
 ·rw [if_pos h,if_pos h]
 ·rw [if_neg h,if_neg h,zp h]
theorem zdk {H H':Hp} {a:Addr} (s:zA H H'):zA (hide H a) (hide H' a):=fun b o e=>by
 unfold hide at e ⊢;by_cases h:b=a
 ·rw [if_pos h] at e; cases e
 ·rw [if_neg h] at e ⊢; exact s _ _ e
theorem zac {H:Hp} {a b:Addr} {o:HO} (h:H b=some o) (m6:b≠a):hide H a b=some o:=by unfold hide; rw [if_neg m6]; exact h
end
section
variable {K:ag}
def zh6 (K:ag):Sp:=fun vs H Q _=>∃ (c tt ra po:Addr) (p k:Int) (pl l6:List Int) (rw:List (Option Int)),vs = [.ref c,.ref ra,.ref po]∧zbh H c tt p k pl∧H ra=some (.lst (rw.map mF))∧rw.length=pl.length∧H po=some (.tup (l6.map V.int))∧0 < p∧p≤97∧(∀ x∈pl,0≤x∧x < p)∧pl.length≤100 ∧
 ∀ (l:Addr) (H':Hp),H l=none→zA H H'→H' l=some (.lst ((zaK p pl rw l6 pl.length).map V.int))→Q (.ref l) H'
def zi1 (K:ag):Sp:=zh6 K
theorem zkq (o:Option Int) (z:Int):zlv (mF o) (.int z)=true:=by cases o <;> rfl
theorem zi2 (o:Option Int) (z:Int):zlv (.int z) (mF o)=true:=by cases o <;> rfl
theorem zgi {p:Int} {pl:List Int} {rw:List (Option Int)} {l6:List Int} {j:Nat} {x:Int} {o:Option Int} (hx:pl[j]? = some x) (ho:rw[j]? = some o):zaz p pl rw l6 j=decide (mF o = .int (zu p x l6)):=by
 unfold zaz;rw [hx,ho];cases o with
 | none=>rfl
 | some i=>simp [mF]
def zaH (rw:List (Option Int)) (n:Nat):List Int:=((bg n).filter fun j=>(rw[j]?.getD none).isSome).map fun (j:Nat)=>(j:Int)
theorem zeh {rw:List (Option Int)} {n:Nat}:zaH rw (n+1)=zaH rw n++if (rw[n]?.getD none).isSome=true then [(n:Int)] else []:=by
 unfold zaH;rw [iD,bV,aw];congr 1;by_cases h:(rw[n]?.getD none).isSome=true
 ·rw [if_pos h]; simp [h]
 ·rw [if_neg h]; simp [h]
theorem zcY (rw:List (Option Int)) (n:Nat):(zaH rw n).length≤n:=by
 unfold zaH;rw [ae];exact aV (cj _ _) (by rw [dI]; exact ah _)
def znm (p:Int) (pl:List Int) (rw:List (Option Int)) (l6:List Int):V→Bool
 | .int z=>zaz p pl rw l6 z.toNat
 | _=>false
theorem zi3 {p:Int} {pl:List Int} {rw:List (Option Int)} {l6:List Int} (n:Nat):(((zaH rw n).map V.int).filter (znm p pl rw l6)).map id=(zaK p pl rw l6 n).map V.int:=by
 rw [gu];unfold zaH zaK;rw [iE,iE,gB];congr 2;refine fw fun j _=>?_
 show (zaz p pl rw l6 ((j:Int)).toNat && (rw[j]?.getD none).isSome)=zaz p pl rw l6 j;rw [bf];by_cases h:zaz p pl rw l6 j=true
 ·rw [h,Bool.true_and];unfold zaz at h;split at h
  ·rename_i _ _ e; rw [e]; rfl
  ·cases h
 ·rw [Bool.eq_false_iff.mpr h,kZ]
theorem zi4 {rw:List (Option Int)} {n:Nat} {z:Int} (h:z∈zaH rw n):∃ j:Nat,z=j∧j < n:=by
 unfold zaH at h;obtain⟨j,hj,e⟩:=az.mp h;exact⟨j,e.symm,bF.mp (bN.mp hj).1⟩
end
end My
end
section
namespace PySem
section
variable {prog:Program} {w:World} {A:Around} {E:Value→Shared→Prop} {s:Shared}
theorem zh7 {z TI TO i1 i2:Addr} {qc qd:List Addr} {n1 n2 k1 k2:Nat} {P1 P2:Nat→Value→Prop} {S1 S2:Nat→Heap→Prop} {f0 f1 a b:Value} {Q:Option Value→Shared→Prop} (D1:Draws prog w A.in1 i1 qc n1 P1 S1) (D2:Draws prog w A.in1 i2 qd n2 P2 S2) (Z:Zap z TI TO i1 i2 qc qd)
  (hz:IsZ s.heap z TI TO f0 f1) (hf:ZF f0 f1) (tf:IsPair s.heap TI (.ref i1) (.ref i2)) (uo:IsPair s.heap TO a b) (nM:S1 k1 s.heap) (mG:S2 k2 s.heap) (l1:k1 < n1) (l2:k2 < n2)
  (hQ:∀ x y h' tk g0 g1 a' b',P1 k1 x→P2 k2 y→IsZ h' z TI TO g0 g1→ZF g0 g1→IsPair h' TI (.ref i1) (.ref i2)→IsPair h' TO a' b'→S1 (k1+1) h'→S2 (k2+1) h'→IsPair h' s.heap.objs.size x y→h'.objs.size=s.heap.objs.size+1 →
   (∀ c o,c≠z→c≠TO→c≠i1→c≠i2→s.heap.get? c=some o→h'.get? c=some o)→Q (some (.ref s.heap.objs.size)) { s with heap:=h',toks:=tk }):wpAny (model prog w) A (pyNext (.ref z)) Q E s:=by
 have uJ:s.TypeIs (.ref z) "zip":=⟨_,hz,rfl⟩;unfold pyNext;refine aa (cn (br (name:=bU "__next__") uJ de (bj de uJ fJ ?_ (fv _))));exact zh5 D1 D2 Z hz hf tf uo nM mG l1 l2 fun x y h1 tk g0 g1 a' b' px py rj C0 xK xM xN xO se xP kk=>ai (hQ x y h1 tk g0 g1 a' b' px py rj C0 xK xM xN xO se xP kk)
theorem zkr {z TI TO i1 i2:Addr} {qc qd:List Addr} {n1 n2 k1 k2:Nat} {P1 P2:Nat→Value→Prop} {S1 S2:Nat→Heap→Prop} {f0 f1 a b:Value} {Q:Option Value→Shared→Prop} (D1:Draws prog w A.in1 i1 qc n1 P1 S1) (D2:Draws prog w A.in1 i2 qd n2 P2 S2) (Z:Zap z TI TO i1 i2 qc qd)
  (hz:IsZ s.heap z TI TO f0 f1) (hf:ZF f0 f1) (tf:IsPair s.heap TI (.ref i1) (.ref i2)) (uo:IsPair s.heap TO a b) (nM:S1 k1 s.heap) (mG:S2 k2 s.heap) (l1:k1=n1∨(k1 < n1∧k2=n2))
  (hQ:∀ h' tk,(∀ c o,c≠z→c≠TO→c≠i1→c≠i2→s.heap.get? c=some o→h'.get? c=some o)→Q none { s with heap:=h',toks:=tk }):wpAny (model prog w) A (pyNext (.ref z)) Q E s:=by
 have uJ:s.TypeIs (.ref z) "zip":=⟨_,hz,rfl⟩;unfold pyNext;refine aa (cn (br (name:=bU "__next__") uJ de (bj de uJ fJ ?_ (fv _))));refine zko D1 D2 Z hz hf tf uo nM mG l1 fun h' tk x kk ⟨o,ho,hc⟩=>?_
 exact aa (cW (T:="StopIteration") (b:=true) ⟨o,ho,hc⟩ gh (ai (hQ h' tk kk)))
theorem zdO {z TI TO:Addr} {f0 f1:Value} {Q:Value→Shared→Prop} (hz:IsZ s.heap z TI TO f0 f1) (h:Q (.ref z) s):wpAny (model prog w) A (pyIter (.ref z)) Q E s:=by
 have hT:s.TypeIs (.ref z) "zip":=⟨_,hz,rfl⟩; refine gT hT F.slot_zip_iter (bj F.slot_zip_iter hT F.entry_zip_iter ?_ (F.args_zip_iter_1 _));show wpAny _ _ (ret (.ref z)) _ _ s; exact ai ⟨_,rfl,"zip",_,hT,F.slot_zip_next.lookup,h⟩
theorem zmC {elts:List Expr} {x1} {pos:Pos} {z TI TO T:Addr} {f0 f1:Value} {Q:Unit→Shared→Prop} (hz:IsZ s.heap z TI TO f0 f1) (hf:ZF f0 f1)
  (hQ:∀ h' g0,IsZ h' z TI TO g0 f1→ZF g0 f1→be z s.heap h'→Q () { s with heap:=h' }):wpAny (model prog w) A (letOwnedTupleGo (.Tuple elts x1 pos) (.ref z) (.ref T)) Q E s:=by
 unfold letOwnedTupleGo; refine aa (wpAny_load hz ?_);show wpAny _ _ (if _ then _ else _) Q E s;split
 ·refine aa (cg ?_); show wpAny _ _ (setField (.ref z) 0 .none) Q E s;exact bC hz #[M] fun h' BF nI=>hQ h' .none BF ⟨.inl rfl,hf.2⟩ nI
 ·exact ai (hQ s.heap f0 hz hf ⟨rfl,fun _ _=>rfl⟩)
end
end PySem
namespace L2
open PySem PySem.Spec PyProof.Rows
def zkt (oG qr:Hp→Addr→List V→Prop) (a b:Addr):It :=
 ⟨(ziO oG qr a b).go,(ziO oG qr a b).yld,fun i H=>∃ xs ys,oG H a xs∧qr H b ys∧(xs.length=i∨(i < xs.length∧ys.length=i))⟩
abbrev zbQ (n:Nat):List Addr:=[n+4,n+2,n+3,n,n+1]
abbrev zn6 (C:String) (n a b:Nat) (i:Nat) (h:Heap):Prop:=(∃ f0 f1,IsZ h (n+4) (n+2) (n+3) f0 f1∧ZF f0 f1)∧IsPair h (n+2) (.ref n) (.ref (n+1))∧(∃ u v,IsPair h (n+3) u v)∧h.IsTupleIter n a i∧ItC C h (n+1) b i
structure Sk (C:String) (Is:Heap→Addr→Array Value→Prop) (Sq:ag→Hp→Addr→List V→Prop):Prop where
 h:SkH C Is
 inv:∀ {X:Cx} {lM:List (Addr×Obj)} {σ:St} {H:Hp} {s:Shared} {a:Addr} {xs:List V},Inv X lM σ H s→Sq X.K H a xs→∃ lO:List Value,zG xs lO∧Is s.heap a lO.toArray∧a < s.heap.objs.size
 inj:∀ {X:Cx} {lM:List (Addr×Obj)} {σ:St} {H:Hp} {s:Shared} {a:Addr} {xs ys:List V},Inv X lM σ H s→Sq X.K H a xs→Sq X.K H a ys→xs=ys
theorem sqL:Sk "list_iterator" Heap.IsList lN:=⟨skL,fun I h=>let ⟨lO,r,p,_⟩:=I.list h; ⟨lO,r,p.isList,by obtain⟨_,_,e,_⟩:=p; exact aD e⟩,fun I h h'=>I.list_inj h h'⟩
theorem sqT:Sk "tuple_iterator" jS lX:=⟨skT,fun I h=>let ⟨lO,r,p,_⟩:=I.tuple h; ⟨lO,r,p,by obtain⟨_,e,_⟩:=p; exact aD e⟩,fun I h h'=>I.tuple_inj h h'⟩
theorem zku {C:String} {Is:Heap→Addr→Array Value→Prop} {Sq:ag→Hp→Addr→List V→Prop} (S:Sk C Is Sq) {P:Program} {w:World} {K:ag} {es:List Expr} {k:Nat} {pos:Pos} (a b n:Nat) (ha:a < n) (hb:b < n):Turn P w K (.Tuple es k pos) (zkt (lX K) (Sq K) a b) (zbQ n) (n+4) (zn6 C n a b) where
 mem:=by simp
 obj:=fun i h st c hc=>by
  obtain⟨⟨f0,f1,h1,_⟩,h2,⟨u,v,h3⟩,⟨o4,e4,_,d4⟩,⟨o5,e5,_,d5⟩⟩:=st;simp only [zbQ,au,aM,or_false] at hc;rcases hc with z | z | z | z | z <;> subst z
  ·exact⟨_,h1,fun v z=>by cases z⟩
  ·exact⟨_,h2,fun v z=>by cases z⟩
  ·exact⟨_,h3,fun v z=>by cases z⟩
  ·exact⟨_,e4,fun v z=>by rw [d4] at z; cases z⟩
  ·exact⟨_,e5,fun v z=>by rw [d5] at z; cases z⟩
 keep:=fun i h h' st kk=>by
  obtain⟨⟨f0,f1,h1,hf⟩,h2,⟨u,v,h3⟩,h4,h5⟩:=st;obtain⟨o5,e5,r5⟩:=h5;exact⟨⟨f0,f1,kk _ #[M] _ h1,hf⟩,kk _ #[M] _ h2,⟨u,v,kk _ #[M] _ h3⟩,h4.at fun o eo=>kk _ #[M] o eo,o5,kk _ #[M] _ e5,r5⟩
 item:=by
  intro X hP hw hK hc i lM s σ H E I hf st hg;subst hP hw hK;obtain⟨xs,ys,x,y,oB,nH,hx,hy⟩:=hg;obtain⟨⟨f0,f1,h1,tq⟩,h2,⟨u0,v0,h3⟩,h4,h5⟩:=st;obtain⟨mj,qH,p1,rj⟩:=I.tuple oB;obtain⟨l9,qX,p2,_⟩:=S.inv I nH;obtain⟨u,hu,ru⟩:=qH.get hx;obtain⟨v,hv,rv⟩:=qX.get hy;have vy:n+4 < s.heap.objs.size:=aD h1;have hh:X.A.in1.handled=none:=by simp [I.ok.hd hc]
  have oH:i < mj.toArray.size:=by have:=(ak.mp hu).1; simpa using this
  have oI:i < l9.toArray.size:=by have:=(ak.mp hv).1; simpa using this
  refine zh7 (Draws.tuple hh n a (nq #[O]) mj.toArray) (S.h.dr hh (n+1) b (nq #[O]) l9.toArray) (zcr ha hb) h1 tq h2 h3 ⟨h4,(show s.heap.IsTuple a mj.toArray from p1)⟩ ⟨h5,p2⟩ oH oI
   fun x' y' h' tk g0 g1 a' b' px py ez Am e2 e3 t4 t5 pp hsz kk=>?_
  have eu:x'=u:=by
   have e1:mj[i]? = some x':=by simpa using px
   rw [hu] at e1; exact (aG e1).symm
  have ev:y'=v:=by
   have e1:l9[i]? = some y':=by simpa using py
   rw [hv] at e1; exact (aG e1).symm
  subst eu ev;have ch:∀ c∈[n+4,n+3,n,n+1],c∈zbQ n:=fun c lR=>by
   simp only [zbQ,au,aM,or_false] at lR ⊢;rcases lR with z | z | z | z <;> subst z <;> simp
  have k1:∀ c o,c∉[n+4,n+3,n,n+1]→s.heap.get? c=some o→h'.get? c=some o:=fun c o lR eo=>by
   simp only [au,aM,or_false,not_or] at lR;exact kk c o lR.1 lR.2.1 lR.2.2.1 lR.2.2.2 eo
  have vW:∀ c∈[n+4,n+3,n,n+1],∃ o,h'.get? c=some o:=fun c lR=>by
   simp only [au,aM,or_false] at lR;rcases lR with z | z | z | z <;> subst z
   ·exact⟨_,ez⟩
   ·exact⟨_,e3⟩
   ·obtain⟨o,e,_⟩:=t4.1; exact⟨o,e⟩
   ·obtain⟨o,e,_⟩:=t5.1; exact⟨o,e⟩
  have I1:Inv X lM σ (lP H s.heap.objs.size (.tup [x,y])) { s with heap:=h',toks:=tk } :=
   I.turnedNew k1 (fun c lR=>hf c (ch c lR)) vW (ah _) ⟨zaC,_,.cons ru (.cons rv .nil),za8 pp⟩
  refine⟨_,rfl,zmC (s:={ s with heap:=h',toks:=tk }) ez Am fun sZ g2 rk uK m9=>?_⟩;have fr:∀ c∈zbQ n,lP H s.heap.objs.size (.tup [x,y]) c=none:=fun c lR=>by
   have ml:c < s.heap.objs.size:=by
    simp only [zbQ,au,aM,or_false] at lR;rcases lR with z | z | z | z | z <;> subst z <;> exact nl #[O]
   rw [zp (aZ ml)];exact (hf c lR).1
  have I2:Inv X lM σ (lP H s.heap.objs.size (.tup [x,y])) { s with heap:=sZ,toks:=tk } :=
   Inv.turnedL (s:={ s with heap:=h',toks:=tk }) (ch:=[n+4]) (t':=tk) I1 (fun c o lR eo=>m9.extBut c o (by simpa using lR) eo) (fun c lR=>by
    have z:c=n+4:=by simpa using lR
    subst z;exact⟨fr _ #[M],(hf _ #[M]).2⟩) (fun c lR=>by
    have z:c=n+4:=by simpa using lR
    subst z;exact⟨_,rk⟩)
  have up:∀ c o,c≠n+4→h'.get? c=some o→sZ.get? c=some o:=fun c o lR e=>m9.extBut c o lR e
  exact⟨.ref s.heap.objs.size,_,I2,rfl,⟨_,x,y,I.fresh,rfl,rfl,fun zs hz=>by rw [I.tuple_inj hz oB]; exact hx,fun zs hz=>by rw [S.inj I hz nH]; exact hy⟩,
   ⟨⟨g2,g1,rk,uK⟩,up _ _ (nq #[O]) e2,⟨_,_,up _ _ (nq #[O]) e3⟩,t4.1.at fun o e=>up _ o (nq #[O]) e,⟨t5.1.choose,up _ _ (nq #[O]) t5.1.choose_spec.1,t5.1.choose_spec.2⟩⟩,fr⟩
 done:=by
  intro X hP hw hK hc i lM s σ H E I hf st hg;subst hP hw hK;obtain⟨xs,ys,oB,nH,hx⟩:=hg;obtain⟨⟨f0,f1,h1,tq⟩,h2,⟨u0,v0,h3⟩,h4,h5⟩:=st;obtain⟨mj,qH,p1,rj⟩:=I.tuple oB;obtain⟨l9,qX,p2,_⟩:=S.inv I nH;have hh:X.A.in1.handled=none:=by simp [I.ok.hd hc]
  have rR:=qH.length;have n8:=qX.length;refine zkr (Draws.tuple hh n a (nq #[O]) mj.toArray) (S.h.dr hh (n+1) b (nq #[O]) l9.toArray) (zcr ha hb) h1 tq h2 h3 ⟨h4,(show s.heap.IsTuple a mj.toArray from p1)⟩ ⟨h5,p2⟩ (by rw [am,am]; lia) fun h' tk kk=>⟨rfl,?_⟩
  have sub:∀ c∈[n+4,n+3,n,n+1],c∈zbQ n:=fun c lR=>by
   simp only [zbQ,au,aM,or_false] at lR ⊢;rcases lR with z | z | z | z <;> subst z <;> simp
  have k1:∀ c o,c∉[n+4,n+3,n,n+1]→s.heap.get? c=some o→h'.get? c=some o:=fun c o lR e=>by
   simp only [au,aM,or_false,not_or] at lR;exact kk c o lR.1 lR.2.1 lR.2.2.1 lR.2.2.2 e
  have rd:∀ d u',H d=some u'→d∉[n+4,n+3,n,n+1]:=fun d u' e' hd=>by rw [(hf d (sub d hd)).1] at e'; cases e'
  refine I.step (g':=s.gens) (d':=s.drawn) (t':=tk) (ch:=[n+4,n+3,n,n+1]) (fun c lR=>?_) (fun c o _ _ mU e _=>k1 c o mU e) (fun c o _ _ mU e _=>⟨o.slots,k1 c o mU e⟩) (fun _ _ _ _ n=>n)
   (fun c o mU e=>⟨o,k1 c o mU e⟩) (fun _ _ e=>e) (fun _ _ _ e=>e) (fun c ps e=>⟨#[],by rw [e]; simp⟩) (fun m hm=>?_) (fun c u e=>?_) I.bare
  ·obtain⟨_,a1,_,a3,a4,a5⟩:=hf c (sub c lR);exact⟨a3,a1,a4,a5⟩
  ·obtain⟨o,uy,ep,ho,r⟩:=hm;exact⟨o,uy,ep,k1 _ o (fun z=>(hf _ (sub _ z)).2.1 rfl) ho,r⟩
  ·refine (I.hok c u e).stay (fun d v' hd q=>k1 d v' ?_ q) (fun _ q=>q) fun _ _ q=>q
   rcases hd with z | z
   ·rw [z]; exact rd c u e
   ·exact rd d _ z
 self:=fun _ _ _ _ _ st h=>by
  obtain⟨⟨f0,f1,hz,_⟩,_⟩:=st;exact zdO hz h
def iZq (oG qr:Hp→Addr→List V→Prop) (ta:TA):TI:=fun σ H R=>ta σ H fun vs H1=>∃ a b xs ys,vs = [.ref a,.ref b]∧oG H1 a xs∧qr H1 b ys∧R (zkt oG qr a b) H1
theorem zkv {C:String} {Is:Heap→Addr→Array Value→Prop} {Sq:ag→Hp→Addr→List V→Prop} (S:Sk C Is Sq) {X:Cx} {es:List Expr} {k:Nat} {nP p pos:Pos} {a b:Expr} {ta:TA} (hg:Gl X "zip") (hm:X.mg "zip" = none) (ha:PA X [a,b] ta) (hs:starEach [a,b] X.env = [(false,eval a X.env),(false,eval b X.env)]:=by rfl) (nK:starEach [b] X.env = [(false,eval b X.env)]:=by rfl) :
  PI X (.Tuple es k nP) (.Call (.Name "zip" p) [a,b] [] pos) (iZq (lX X.K) (Sq X.K) ta):=by
 intro lM s σ H R I h;refine Call_ (zbg I hg hm kA (bv (thn (ha pos lM s σ H _ I h) fun us s1 ⟨vs,H1,I1,r1,q1⟩=>?_) (by rw [hs,nK]) (by rw [nK]; rfl)));obtain⟨l1,l2,xs,ys,e,oB,nH,q⟩:=q1;subst e;cases r1 with
 | cons r rr =>
  cases rr with
  | cons r' rr =>
   cases rr;cases r;cases r';obtain⟨mj,qH,vz,rj⟩:=I1.tuple oB;obtain⟨l9,qX,vX,oI⟩:=S.inv I1 nH;have oH:l1 < s1.heap.objs.size:=by obtain⟨_,e,_⟩:=vz; exact aD e
   refine zef S.h (show s1.heap.IsTuple l1 mj.toArray from vz) vX fun h' n hn b1 b2 b3 b4 b5 b6 kk=>?_
   have I2:Inv X lM σ H1 { s1 with heap:=h' }:=I1.kept (t':=s1.toks) kk;refine zdO b1 ?_;refine⟨_,zbQ n,zn6 C n l1 l2,zkt (lX X.K) (Sq X.K) l1 l2,H1,rfl,I2,zku S l1 l2 n (by rw [hn]; exact oH) (by rw [hn]; exact oI),⟨⟨_,_,b1,.inl rfl,_,rfl⟩,b2,⟨_,_,b3⟩,b4,b5⟩,fun c hc=>?_,q⟩;have hle:s1.heap.objs.size≤c:=by
    simp only [zbQ,au,aM,or_false] at hc;rw [← hn];rcases hc with z | z | z | z | z <;> subst z
    all_goals first | exact fK _ _ | exact ah _
   exact I1.fpOk hle (I1.hok.fresh hle)
theorem zkw {X:Cx} {es:List Expr} {k:Nat} {nP p pos:Pos} {a b:Expr} {ta:TA} (hg:Gl X "zip") (hm:X.mg "zip" = none) (ha:PA X [a,b] ta) (hs:starEach [a,b] X.env = [(false,eval a X.env),(false,eval b X.env)]:=by rfl) (nK:starEach [b] X.env = [(false,eval b X.env)]:=by rfl) :
  PI X (.Tuple es k nP) (.Call (.Name "zip" p) [a,b] [] pos) (iZq (lX X.K) (lN X.K) ta):=zkv sqL hg hm ha hs nK
section
variable {prog:Program} {w:World} {A:Around} {h:Heap} {g:Array GenState} {d:Drawn} {tk:Nat} {os:OsState} {K:ag} {x C:Addr} {E:Value→Shared→Prop}
theorem zhi {R:Result→Shared→Prop} {tp:Value} (J:∀ M,fF M h (typeOf (.ref x)) (.ref C)) (X:K.In h)
  (hm:bO K C (.type "object")=some true) (q:R (.ok (.ret (.ref C))) ⟨h,g,d,tk,os⟩) :
  codeAny (model prog w) A (Code.call (.builtin "getset_descriptor.__get__") { pos:=[.builtin "object.__class__",.ref x,tp] }) R ⟨h,g,d,tk,os⟩:=by
 refine jh PySem.W.KF.slot_gs.plain PySem.W.KF.entry_gs (PySem.W.KF.slot_gs.check _ _ _ _ _ _ _ _ ?_ (PySem.W.KF.args_gs _ _ _) ?_)
 ·exact fP
 ·unfold Builtin.«getset_descriptor.__get__» j8;rw [PySem.W.dga_obj];refine aa (ai ?_)
  try dsimp only
  unfold jD
  try dsimp only
  refine aa ?_;unfold iL iP
  try dsimp only
  rw [PySem.W.KF.owner_class];refine aa (ai ?_)
  try dsimp only
  unfold isInstance;refine aa (aa ((J _).at ((ge X hm).at ?_)));refine cR rfl (ai ?_);unfold again;refine ai ⟨Code.quiet_builtin _ #[N],?_⟩;refine codeAny_builtin PySem.W.KF.entry_class ?_;unfold Builtin.«object.__class__»
  try dsimp only
  unfold shownTypeOf;refine aa (aa ((J _).at ?_));refine cR rfl (ai ?_);unfold ret;exact ai q
theorem zi5 {M:Model} {wY:Value} {Q:Unit→Shared→Prop} (J:∀ M,fF M h (typeOf (.ref x)) (.ref C)) (X:K.In h) (hm:bO K C (.type "BaseException")=some true) (q:Q () ⟨h,g,d,tk,os⟩) :
  wpAny M A (checkBuiltinCall "BaseException.__getattribute__" { pos:=[.ref x,wY] }) Q E ⟨h,g,d,tk,os⟩:=by
 have hk:builtinKind "BaseException.__getattribute__" = some lK:=#[N];have hs:splitId "BaseException.__getattribute__" = some ("BaseException","__getattribute__"):=by decide +kernel
 unfold checkBuiltinCall;rw [hk,hs]
 try dsimp only
 unfold isInstance;refine aa (aa ((J _).at ((ge X hm).at ?_)));refine cR rfl ?_;have ok:=F.args_bexc_ga (.ref x) wY;unfold argsOk at ok;generalize Manifest.signature? "BaseException.__getattribute__" = sg at ok ⊢;cases sg with
 | none=>exact ai q
 | some sig =>
  dsimp only at ok ⊢;rw [ok];exact ai q
theorem zi6 {Q:Option Value→Shared→Prop} (J:∀ M,fF M h (typeOf (.ref x)) (.ref C)) (X:K.In h)
  (F1:cp K (.ref C) "__getattribute__" = some (some (.builtin "BaseException.__getattribute__"))) (F2:cp K (.ref C) "__getattr__" = some none)
  (F3:cp K (.ref C) "__class__" = some (some (.builtin "object.__class__"))) (hm:bO K C (.type "object")=some true) (hb:bO K C (.type "BaseException")=some true)
  (q:Q (some (.ref C)) ⟨h,g,d,tk+1,os⟩):wpAny (model prog w) A (getAttr? (.ref x) "__class__") Q E ⟨h,g,d,tk,os⟩:=by
 unfold getAttr?
 (refine aa (wpAny_mkText ?_))
 unfold getAttrBy?
 (refine aa (cn ?_))
 unfold getAttrBy;refine bK (aa ((J _).at (aa ((ji X F1).at ?_))))
 try dsimp only
 refine cR rfl ?_;unfold getAttrByItsOwn;refine aa ((PySem.W.looks_hook (mc:=.ref C) X (r:=none) (by rw [show onTheHeap (aE C)=true from rfl,if_pos rfl]; exact F2)).at ?_)
 (refine aa (cn (bK ?_)))
 unfold callGetattribute;refine cR rfl ?_;unfold boundAndCalled;rw [F.attrBase_ValueError.ga.bind];refine aa (ai ?_)
 try dsimp only
 refine gZ ?_;refine jh F.attrBase_ValueError.ga.plain F.entry_bexc_ga (zi5 J X hb ?_)
 (unfold Builtin.«object.__getattribute__»)
 refine aa ?_;unfold slotArgs
 try dsimp only
 refine cR rfl (cR rfl (ai ?_))
 try dsimp only
 unfold lr
 try dsimp only
 refine aa (ai (aa ((J _).at (aa ?_))));unfold lH;refine aa ((ji X F3).at ?_);unfold lG
 try dsimp only
 refine aa (jy fP F.slot_gs_get.lookup ?_);unfold j9
 try dsimp only
 refine aa ?_;unfold kP;refine aa (aa (jy fP F.slot_gs_set.lookup ?_));refine gk rfl (ai ?_);refine gk rfl (ai ?_)
 try dsimp only
 (refine aa (cg (ai ?_)))
 try dsimp only
 unfold lD
 try dsimp only
 refine aa (bK (gZ (zhi J X hm ?_)))
 try dsimp only
 unfold ret;refine ai ?_
 try dsimp only
 unfold handedOut
 try dsimp only
 refine ai ?_
 try dsimp only
 exact ai q
end
structure Xc (K:ag) (C:Addr):Prop where
 f1:cp K (.ref C) "__getattribute__" = some (some (.builtin "BaseException.__getattribute__"))
 f2:cp K (.ref C) "__getattr__" = some none
 f3:cp K (.ref C) "__class__" = some (some (.builtin "object.__class__"))
 ob:bO K C (.type "object")=some true
 bb:bO K C (.type "BaseException")=some true
 kc:eF K (.ref C) (.ref C)=some true
theorem zei {h:Heap} {x C:Addr} (e:∃ o,h.get? x=some o∧o.cls = .ref C) (M:Model):fF M h (typeOf (.ref x)) (.ref C):=by
 obtain⟨o,e,c⟩:=e;intro A Q E s k q;obtain⟨h',g,d,t,os⟩:=s;unfold typeOf;refine aa (wpAny_loadPart_at (k _ _ e) (ai ?_));rw [c];exact q
theorem znn {K:ag} {C:Addr} {b:Value} {r:Bool} (m:bO K C b=some r):∃ oc dd cd sl,K.lookup C=some ⟨oc,dd,.cls cd,sl⟩:=by
 unfold bO PySem.W.clsIn at m;cases e:List.lookup C K with
 | none=>rw [e] at m; cases m
 | some o =>
  obtain⟨oc,dd,da,sl⟩:=o;cases da with
  | cls cd=>exact⟨oc,dd,cd,sl,rfl⟩
  | _=>rw [e] at m; cases m
theorem zgj {K:ag} {x C:Addr} (c:Xc K C):PySem.W.KitX K (.ref x) (.ref C) (fun h=>∃ o,h.get? x=some o∧o.cls = .ref C):=by
 refine⟨fun M h _ e=>zei e M,fun M h X e=>(kQ X c.kc).2.1,fun h tp dd lO n sl X e=>?_,fun {prog w A E Q s} X e q=>?_⟩
 ·obtain⟨oc,wZ,cd,Bz,l⟩:=znn c.ob;have e2:=X _ _ l;have ne:C≠tp:=fun z=>by
   rw [z,e] at e2;cases e2
  exact decide_eq_false fun z=>ne (by injection z)
 ·obtain⟨h,g,d,tk,os⟩:=s;exact zi6 (fun M=>zei e M) X c.f1 c.f2 c.f3 c.ob c.bb q
def zkx (a C:Addr):HO:=.ext fun h=>∃ o,h.get? a=some o∧o.cls = .ref C
theorem zaa {X:Cx}:zbB X (.builtin "isinstance") (fun xs H Q=>∃ a C y b,xs = [.ref a,y]∧H a=some (zkx a C)∧Xc X.K C∧((∃ D,y = .ref D∧a8 X.K (.ref C) (.ref D)=some b)∨∃ n,y = .ty n∧a8 X.K (.ref C) (.type n)=some b)∧Q (.bl b) H):=by
 intro lM s σ H xs us Q I r h;obtain⟨a,C,y,b,rfl,ha,c,hy,q⟩:=h;obtain⟨u,u',rfl,rx,r2⟩:=vals2 r;cases rx;obtain⟨he,_,_⟩:=(show zab X.prog X.w H s.heap a (zkx a C) from I.hok a _ ha);rcases hy with ⟨D,rfl,hk⟩ | ⟨n,rfl,hk⟩
 ·cases r2;exact bP (zgj c) I.kIn he hk (fun z=>nomatch z) fun tk=>⟨.bl b,H,I.tok tk,rfl,q⟩
 ·cases r2;exact bP (zgj c) I.kIn he hk (fun z=>nomatch z) fun tk=>⟨.bl b,H,I.tok tk,rfl,q⟩
abbrev zky:List Value:=[.type "ValueError",.type "Exception",.type "BaseException",.type "object"]
structure XcAt (C:Addr) (h:Heap) (bmB:List Value) (newId:String):Prop where
 ex:∃ nm q N bs bm hdct sn sub ab col dd k0 k1 k2 k3 k5,∃ mN:Str→Option Value,h.get? C=some (excClassObj nm q C N bs bm hdct sn sub ab col dd k0 k1 k2 k3 k5 newId)∧h.Ns N mN∧mN "__init__" = none∧OwnTail h bmB bm
theorem zi7 {K:ag} {h:Heap} {C:Addr} {bmB:List Value} {newId:String} (X:K.In h) (e:fG K C bmB newId=true):XcAt C h bmB newId:=by
 unfold fG at e;split at e
 ·rename_i dict cd sl hl
  split at e
  ·rename_i C' bm a0 a1 a2 a3 n a5 hm hs
   simp only [dQ,beq_iff_eq] at e;obtain⟨⟨⟨⟨⟨rfl,rfl⟩,xQ⟩,ht⟩,hn⟩,hi⟩:=e;obtain⟨sll⟩:=sl;have hs:sll = [a0,a1,a2,a3,some (lB n),a5]:=hs;subst hs;have ho:=X _ _ hl;cases cd;dsimp only at hm hn hi xQ;subst hm;simp only [kb] at xQ;subst xQ;exact⟨_,_,_,_,_,_,_,_,_,_,_,_,_,_,_,_,_,ho,Heap.Ns.of_isNs (PySem.W.isNs_of_in X hn),PySem.W.nsMap_none_of_in X hn hi,PySem.W.tail_of_in X ht⟩
  ·cases e
 ·cases e
theorem zdu {h h' base B:Heap} (k:∀ b o,h.get? b=some o→h'.get? b=some o):∀ {l:List Env},h.FunFrames base l→(∀ b∈frs l,B.get? b=none)→h'.FunFrames B l
 | [],_,_=>trivial
 | env :: r,hl,hb=>by
  obtain⟨hk,⟨L,o,hf,hn,ho,hd⟩,hr⟩:=hl;have e:frs (env :: r)=L :: frs r:=by unfold frs; rw [dt,hf]
  rw [e] at hb;exact⟨hk,⟨L,o,hf,hb L #[M],k _ _ ho,hd⟩,zdu k hr fun b z=>hb b (aj _ z)⟩
structure Xl (P:Program) (w:World) (outer:List Env) (H:Hp) (h:Heap) (H':Hp) (h' B:Heap) (e C:Addr):Prop where
 new:h.get? e=none
 hok:HOk P w H' B
 fly:∃ t,B.FlyingW outer e (.ref C) t h'
 keep:∀ b o,h.get? b=some o→H b=none→b∉frs outer→B.get? b=some o
 slot:∀ b o,h.get? b=some o→H b=none→b∈frs outer→∃ sl,h'.get? b=some { o with slots:=sl }
 free:∀ b o,h.get? b=some o→H b=none→H' b=none
 there:∀ b o,h.get? b=some o→b∉frs outer→∃ o',B.get? b=some o'
 tups:∀ b xs,H b=some (.tup xs)→H' b=some (.tup xs)
 frzs:∀ b o u,H b=some (.frz o u)→H' b=some (.frz o u)
 tbls:∀ b ps,H b=some (.tbl ps)→∃ more,H' b=some (.tbl (ps++more))
def CX1 (P:Program) (w:World):CXT:=fun outer H s E ev s'=>∃ (e C:Addr) (H':Hp) (B:Heap),ev = .ref e∧s'.os=s.os∧AllBare s'.gens∧Xl P w outer H s.heap H' s'.heap B e C∧E (.ref C) none H'
section
variable {P:Program} {w:World} {outer:List Env} {H H':Hp} {h h' B:Heap} {e C:Addr}
theorem zkz {o:HO} {a:Addr} (x:zab P w H h a o):∃ ob,h.get? a=some ob:=by
 cases o with
 | lst xs=>obtain⟨_,_,_,_,e⟩:=x; exact⟨_,e⟩
 | tup xs=>obtain⟨_,_,_,o,e,_⟩:=x; exact⟨_,e⟩
 | dK lV=>obtain⟨_,_,_,_,o,_,_,e,_⟩:=x; exact⟨_,e⟩
 | dT lV=>obtain⟨_,_,_,_,o,_,_,e,_⟩:=x; exact⟨_,e⟩
 | set S n=>obtain⟨o,_,_,_,e,_⟩:=x; exact⟨_,e⟩
 | ins C dx fs=>obtain⟨_,_,_,e,_⟩:=x; exact⟨_,e⟩
 | own y=>obtain⟨_,e⟩:=x; exact⟨_,e⟩
 | xd fs=>obtain⟨_,⟨_,_,_,e,_⟩,_⟩:=x; exact⟨_,e⟩
 | rng lo hi=>obtain⟨_,_,_,e⟩:=x; exact⟨_,e⟩
 | frz ob u=>obtain⟨e,_⟩:=x; exact⟨_,e⟩
 | tbl ps=>exact⟨_,(show h.get? a=some _ from x)⟩
 | met f y=>exact⟨_,(show h.get? a=some _ from x)⟩
 | ext φ=>obtain⟨_,⟨_,e⟩,_⟩:=x; exact⟨_,e⟩
theorem Xl.fresh (x:Xl P w outer H h H' h' B e C):H' e=none:=by
 obtain⟨t,_,hb,_⟩:=x.fly;cases q:H' e with
 | none=>rfl
 | some u =>
  obtain⟨ob,z⟩:=zkz (x.hok e u q);rw [hb] at z;cases z
theorem Xl.un (x:Xl P w outer H h H' h' B e C) (hf:∀ b∈frs outer,H b=none):Un (frs outer) [] H H' h h' where
 keep:=fun b o q n hb _=>by
  obtain⟨t,st,_⟩:=x.fly;exact st _ _ (x.keep b o q n hb)
 slot:=fun b o q n hb _=>x.slot b o q n hb
 free:=fun b o q n _=>x.free b o q n
 there:=fun b o q _=>by
  by_cases hb:b∈frs outer
  ·obtain⟨sl,z⟩:=x.slot b o q (hf b hb) hb;exact⟨_,z⟩
  ·obtain⟨o',z⟩:=x.there b o q hb;obtain⟨t,st,_⟩:=x.fly;exact⟨o',st _ _ z⟩
 tups:=x.tups
 frzs:=x.frzs
 tbls:=x.tbls
end
section
variable {X:Cx} {σ:St} {H:Hp} {s:Shared} {lM:List (Addr×Obj)}
theorem Inv.hid (I:Inv X lM σ H s):HOk X.prog X.w H (dA s.heap (frs X.stack)):=fun a o q =>
 (I.hok a o q).stay (fun b u hb z=>eR _ z fun m=>by
  have n:=I.stkFree b m;rcases hb with rfl | hb
  ·rw [q] at n; cases n
  ·rw [hb] at n; cases n) (fun _ z=>z) fun _ _ z=>z
theorem zgk {env:Env} {outer:List Env} {L:Addr} (hf:env.frame=some L):frs (env :: outer)=L :: frs outer:=by unfold frs; rw [dt,hf]
theorem Inv.notHere (I:Inv X lM σ H s) {b:Addr} {o:Obj} (q:X.s₀.heap.get? b=some o):b≠X.env.locals:=aZ (aU (aD q) I.ok.above)
end
section
variable {P:Program} {w:World} {K:ag} {mg:Str→Option Value} {base:Heap} {N:List Str} {qual:Str} {scope:Scope} {f:Addr} {cd:Value} {A:Around} {outer:List Env} {s₀:Shared} {H₀:Hp} {E:XK}
abbrev cxX (P:Program) (w:World) (K:ag) (mg:Str→Option Value) (base:Heap) (N:List Str) (qual:Str) (scope:Scope) (f:Addr) (cd:Value) (A:Around) (outer:List Env) (s:Shared) (H:Hp) (E:XK):Cx:=zbA (CX1 P w) P w K mg base N qual scope f cd A outer s H E
theorem zhj {lM:List (Addr×Obj)} {σ:St} {H:Hp} {s:Shared} {h1:Heap} {e C:Addr} {vs:List Value} (I:Inv (cxX P w K mg base N qual scope f cd A outer s₀ H₀ E) lM σ H s) (m:s.heap.MadeExcOf h1 e (.ref C) vs) (q:E (.ref C) none H) :
  (cxX P w K mg base N qual scope f cd A outer s₀ H₀ E).xe (.ref e) { s with heap:=h1 }:=by
 have yC:frs (cxX P w K mg base N qual scope f cd A outer s₀ H₀ E).stack=s₀.heap.objs.size :: frs outer:=zgk rfl;obtain⟨t,he,_,_⟩:=m.there;have stays:(dA s.heap (frs (cxX P w K mg base N qual scope f cd A outer s₀ H₀ E).stack)).StaysIn h1:=fun b o z=>m.keeps _ _ (gv _ z)
 have qK:(dA s.heap (frs (cxX P w K mg base N qual scope f cd A outer s₀ H₀ E).stack)).get? e=none:=by
  cases z:(dA s.heap (frs (cxX P w K mg base N qual scope f cd A outer s₀ H₀ E).stack)).get? e with
  | none=>rfl
  | some o=>have:=gv _ z; rw [m.new] at this; cases this
 refine wpAny_leaving_firstW (base:=dA s.heap (frs (cxX P w K mg base N qual scope f cd A outer s₀ H₀ E).stack)) (outer:=outer) I.ok.frames (zdu m.keeps I.stack fun b z=>iZ _ z) rfl he stays qK rfl rfl rfl fun h2 left=>?_
 obtain⟨mG,ff2,tr2,sN⟩:=left;refine⟨e,C,H,dA s.heap (frs (cxX P w K mg base N qual scope f cd A outer s₀ H₀ E).stack),rfl,I.os,I.bare,⟨?_,I.hid,⟨_,mG,qK,ff2.2.2,tr2⟩,fun b o z n hb=>?_,fun b o z n hb=>?_,fun b o z n=>I.base.free b o z n (by simp [cxX,zbA]),fun b o z hb=>?_,I.base.tups,I.base.frzs,I.base.tbls⟩,q⟩
 ·cases z:s₀.heap.get? e with
  | none=>rfl
  | some o =>
   obtain⟨o',z'⟩:=I.base.there e o z (by simp [cxX,zbA]);rw [m.new] at z'; cases z'
 ·refine eR _ (I.base.keep b o z n hb (by simp [cxX,zbA])) fun hm=>?_
  rw [yC] at hm;rcases au.mp hm with z' | z'
  ·exact I.notHere z z'
  ·exact hb z'
 ·obtain⟨sl,z1⟩:=I.base.slot b o z n hb (by simp [cxX,zbA]);obtain⟨_,ob,zo,nd⟩:=I.ok.funs.mem hb;have eo:ob=o:=by
   have z3:s₀.heap.get? b=some ob:=zo;rw [z] at z3; exact (aG z3).symm
  subst eo;obtain⟨Bz,z2⟩:=sN b _ (m.keeps _ _ z1) nd;exact⟨Bz,z2⟩
 ·obtain⟨o',z1⟩:=I.base.there b o z (by simp [cxX,zbA]);refine⟨o',eR _ z1 fun hm=>?_⟩;rw [yC] at hm;rcases au.mp hm with z' | z'
  ·exact I.notHere z z'
  ·exact hb z'
theorem zhk:zd3 (CX1 P w) (cxX P w K mg base N qual scope f cd A outer s₀ H₀ E) E:=by
 intro lM σ H s ev s' I hq;obtain⟨e,C,H',B,rfl,os,bare,L,q⟩:=hq;have yC:frs (cxX P w K mg base N qual scope f cd A outer s₀ H₀ E).stack=s₀.heap.objs.size :: frs outer:=zgk rfl;obtain⟨t,fl⟩:=L.fly;show wpAny _ _ (leaving _ _) _ _ _;unfold leaving;refine aa (wpAny_looks_onW (base:=B) (outer:=outer) I.ok.frames rfl fl fun h2 held u2=>?_);refine wpAny_landsW held fun h3 Ao u3=>?_
 obtain⟨vP,qK,ff3,tr3⟩:=Ao;refine⟨e,C,H',B,rfl,os.trans I.os,bare,⟨?_,L.hok,⟨_,vP,qK,ff3.2.2,tr3⟩,fun b o z n hb=>?_,fun b o z n hb=>?_,fun b o z n=>?_,fun b o z hb=>?_,fun b xs z=>L.tups b xs (I.base.tups b xs z),fun b o u z=>L.frzs b o u (I.base.frzs b o u z),fun b ps z=>?_⟩,q⟩
 ·cases z:s₀.heap.get? e with
  | none=>rfl
  | some o =>
   obtain⟨o',z'⟩:=I.base.there e o z (by simp [cxX,zbA]);rw [L.new] at z'; cases z'
 ·refine L.keep b o (I.base.keep b o z n hb (by simp [cxX,zbA])) (I.base.free b o z n (by simp [cxX,zbA])) fun hm=>?_
  rw [yC] at hm;rcases au.mp hm with z' | z'
  ·exact I.notHere z z'
  ·exact hb z'
 ·obtain⟨sl,z1⟩:=I.base.slot b o z n hb (by simp [cxX,zbA]);obtain⟨_,ob,zo,nd⟩:=I.ok.funs.mem hb;have eo:ob=o:=by
   have z3:s₀.heap.get? b=some ob:=zo;rw [z] at z3; exact (aG z3).symm
  subst eo;obtain⟨sN,z2⟩:=L.slot b _ z1 (I.base.free b _ z n (by simp [cxX,zbA])) (by rw [yC]; exact aj _ hb);obtain⟨sl3,z3⟩:=u2 b _ z2 nd;obtain⟨sl4,z4⟩:=u3 b _ z3 nd;exact⟨sl4,z4⟩
 ·obtain⟨o',z'⟩:=I.base.there b o z (by simp [cxX,zbA]);exact L.free b o' z' (I.base.free b o z n (by simp [cxX,zbA]))
 ·obtain⟨o',z'⟩:=I.base.there b o z (by simp [cxX,zbA]);refine L.there b o' z' fun hm=>?_
  rw [yC] at hm;rcases au.mp hm with z' | z'
  ·exact I.notHere z z'
  ·exact hb z'
 ·obtain⟨m1,e1⟩:=I.base.tbls b ps z;obtain⟨m2,e2⟩:=L.tbls b _ e1;exact⟨m1++m2,by rw [e2,jH]⟩
theorem Fun.okX {x:Str} {st:Stmt} {fd:FuncData} {ps:List Str} {k:Nat} {sp:Sp} (F:Fun K x qual st f fd) (S:FnScope N ps (zj st)) (len:∀ vs H Q E,sp vs H Q E→vs.length=ps.length)
  (n9:∀ (l8:Value) (A:Around) (outer:List Env) (s:Shared) (H:Hp) (vs:List V) (Q:VK) (E:XK),Room k (A.deeper (envOfC qual (zj st) s.heap.objs.size f l8))→sp vs H Q E →
   ∃ t,PSs (cxX P w K mg base N qual (zj st) f l8 A outer s H E) (za2 st) t∧t { nx:=fun _ H'=>Q .non H',rt:=Q } (start N vs) H):FnOk P w K mg base (CX1 P w) (k+1) f fd ps sp:=by
 obtain⟨oc,od,kV,doc,pm,an,l8,ct,ui,rfl,lk,qF⟩:=F.ex;exact zmx lk qF S len fun A outer s H vs Q E hr qG=>n9 l8 A outer s H vs Q E hr qG
end
section
variable {X:Cx} {x:Str} {C:Addr} {e:Expr} {te:TE} {np nu pos:Pos} {E:XK}
def zkA (X:Cx) (E:XK):Prop:=∀ (lM:List (Addr×Obj)) (σ:St) (H:Hp) (s:Shared) (h1:Heap) (e C:Addr) (vs:List Value),Inv X lM σ H s→s.heap.MadeExcOf h1 e (.ref C) vs→E (.ref C) none H→X.xe (.ref e) { s with heap:=h1 }
def zno (C:Addr) (E:XK) (te:TE):TS:=fun _ σ H=>zhQ te zm0 σ H fun vs H1=>vs.length=1∧E (.ref C) none H1
theorem zkB (hx:zkA X E) (hc:X.calm=true) (hg:Gl X x) (hm:X.mg x=some (.ref C)) (xc:fG X.K C zky "ValueError.__new__" = true) (he:PE X e te) (hd:(x == ("__debug__" : Str))=false:=by decide)
  (mT:((backTo nu (starEach [e] X.env)).any fun x=>x.fst)=false:=by rfl) (oE:starEach [e] X.env=(false,eval e X.env) :: starEach [] X.env:=by rfl) :
  PS X (.Raise (some (.Call (.Name x np) [e] [] nu)) none pos) (zno C E te):=by
 intro lM s σ H D I h;obtain⟨nm,q,N,bs,bm,hdct,sn,sub,ab,col,dd,k0,k1,k2,k3,k5,mN,Ap,BC,qt,sf⟩:=(zi7 I.mod.kin xc).ex;refine wpAny_Raise_call_subU (nm:=nm) (q:=q) (N:=N) (bs:=bs) (hdct:=hdct) (sn:=sn) (sub:=sub) (ab:=ab) (col:=col) (dd:=dd) (k0:=k0) (k1:=k1) (k2:=k2) (k3:=k3) (k5:=k5) (bm:=bm) (bmB:=zky) (bmN:=zky) jj rfl jj (OwnTail.hasType sf rfl) (I.ok.hd hc) mT qt (zcp I hg hm ⟨rfl,?_⟩ hd);have pa:PA X [e] (zhQ te zm0):=zd he zh oE;have go:=pa nu lM s σ H (fun vs H1=>vs.length=1∧E (.ref C) none H1) I h;rw [oE] at go ⊢;refine jc (thn go fun us s2 ⟨vs,H2,I2,r2,ql,q2⟩=>⟨rfl,?_,I2.bk _ _ Ap,BC.keeps I2.bk,sf.keeps I2.bk,fun h1 ea m=>hx lM σ H2 s2 h1 ea C _ I2 m q2⟩);have:=r2.length;have qu:1≤sizeLine:=by decide
 show us.length≤sizeLine;lia
end
def zn7 (X:Cx) (lM:List (Addr×Obj)) (σ:St) (e:Expr) (t:TE):Prop:=∀ (s:Shared) (H:Hp) (Q:VK),Inv X lM σ H s→t σ H Q→wpAny (model X.prog X.w) X.A (eval e X.env) (EP X lM σ Q) X.xe s
def zn8 (X:Cx) (lM:List (Addr×Obj)) (σ:St) (st:Stmt) (t:TS):Prop:=∀ (s:Shared) (H:Hp) (D:Ends),Inv X lM σ H s→t D σ H→wpAny (model X.prog X.w) X.A (exec st X.env) (SP X lM D) X.xe s
def zmD (X:Cx) (lM:List (Addr×Obj)) (σ:St) (st:List Stmt) (t:TS):Prop:=∀ (s:Shared) (H:Hp) (D:Ends),Inv X lM σ H s→t D σ H→wpAny (model X.prog X.w) X.A (execs st X.env) (SP X lM D) X.xe s
def zej (CX:CXT) (X:Cx) (lM:List (Addr×Obj)) (σ:St) (E:XK):Prop:=∀ (H:Hp) (s:Shared) (e:Value) (s':Shared),Inv X lM σ H s→CX X.stack H s E e s'→X.xe e s'
section
variable {X:Cx} {lM:List (Addr×Obj)} {σ:St} {CX:CXT} {k:Nat} {f C:Addr} {fd:FuncData} {ps:List Str} {sp:Sp} {rV:List V} {ds:List Value} {E:XK} {x m:Str} {p pos apos:Pos} {e o:Expr} {es:List Expr} {ta te:TE} {t:TA}
theorem zi8 {H:Hp} {s:Shared} {Q:VK} {us:List Value} {vs:List V} (F:FnOk X.prog X.w X.K X.mg X.base CX k f fd ps sp) (hr:Room k X.A) (hb:Binds X.K fd ps ds) (hd:zG rV ds) (hx:zej CX X lM σ E)
  (I:Inv X lM σ H s) (r:zG vs us) (h:sp (vs++rV) H Q E):wpAny (model X.prog X.w) X.A (call (.ref f) us) (EP X lM σ Q) X.xe s:=by
 have r2:zG (vs++rV) (us++ds):=r.append hd;have hl:(us++ds).length=ps.length:=by rw [← r2.length]; exact F.len _ _ _ _ h
 refine gZ (fS (F.run X.A X.stack s H ⟨us,[]⟩ (us++ds) (vs++rV) Q E hr I.env0 (hb s us I.kIn hl) r2 h) fun r s' hq=>?_);cases r with
 | error e=>exact hx H s e s' I hq
 | ok fl =>
  cases fl with
  | ret u=>exact I.after hq
  | next=>exact bT hq
  | brk=>exact bT hq
  | cont=>exact bT hq
theorem zhl (F:FnOk X.prog X.w X.K X.mg X.base CX k f fd ps sp) (hr:Room k X.A) (hg:Gl X x) (hm:X.mg x=some (.ref f)) (hk:dN X.K (.ref f)=true) (hb:Binds X.K fd ps ds) (hd:zG rV ds) (hx:zej CX X lM σ E)
  (ha:PA X (e :: es) t) (uB:(x == ("__debug__" : Str))=false:=by decide) (he:starEach (e :: es) X.env=(false,eval e X.env) :: starEach es X.env:=by rfl) (mT:(backTo pos (starEach es X.env)).any (·.1)=false:=by rfl) :
  zn7 X lM σ (.Call (.Name x p) (e :: es) [] pos) (zjZ sp rV E t):=by
 intro s H Q I h;refine ed (zcp I hg hm ?_ uB);refine gw (h₀:=X.base) I.ok.mod.kin hk (thn (ha pos lM s σ H _ I h) fun us s1 ⟨vs,H1,I1,r,q⟩=>⟨I1.kIn,?_⟩) he mT;exact zi8 F hr hb hd hx I1 r q
theorem zi9 {i:Nat} {pos':Pos} (hN:X.N.Nodup) (hi:X.N[i]? = some x) (hx:Loc X.env.scope x) (he:zn7 X lM σ e te) (hs:swapsWith e (some (.Name x pos')) pos.line X.env=pure false:=by rfl) (hf:X.fn x=true∨X.env.scope.names.lookup x=some .local:=by first | exact .inl rfl | exact .inr rfl | assumption) :
  zn8 X lM σ (.Assign [.Name x pos'] e pos) (zex te (zaQ i)):=by
 intro s H D I h;refine wpAny_Assign_Name (thn (he s H _ I h) fun v s1 ⟨y,H1,I1,r1,q1⟩=>?_) hs;exact zbO I1 hN hi hx r1 (fun s2 I2=>⟨_,H1,I2,q1⟩) hf
theorem zhm {st:Stmt} {ts:TS} (h:zn8 X lM σ st ts):zmD X lM σ [st] ts:=by
 intro s H D I h1;refine hV (thn (h s H D I h1) fun f s1 q=>?_);cases f with
 | next=>exact d8 q
 | ret v=>exact q
 | brk=>exact q
 | cont=>exact q
end
section
variable {X:Cx} {σ:St} {H:Hp} {s:Shared} {lM:List (Addr×Obj)}
theorem zja {M:Model} {A:Around} {E:Value→Shared→Prop} {i:Nat} {x:Str} {v:V} {Q:Unit→Shared→Prop} (I:Inv X lM σ H s) (hN:X.N.Nodup) (hi:X.N[i]? = some x) (hk:X.env.scope.names.lookup x=some .local) (hv:σ[i]? = some (some v))
  (h:∀ s',Inv X lM (σ.set i none) H s'→Q () s'):wpAny M A (unbindName X.env x) Q E s:=by
 obtain⟨m,hn,hl⟩:=id I.loc;have uA:(X.env.scope.kind == .class || (X.env.scope.kind == .module && X.env.locals != X.env.globals))=false:=by rw [I.ok.kind]; rfl
 have hiσ:i < σ.length:=by rw [I.len]; exact (ak.mp hi).1
 have cne:=I.cne;obtain⟨u,r,lk⟩:=hl i x v hi hv (.inl hk);have hm:m x=some u:=by
  rcases lk with ⟨_,z⟩ | ⟨z,_⟩
  ·exact z
  ·have z:X.env.scope.names.lookup x=some .cell∨X.env.scope.names.lookup x=some .free:=z;rw [hk] at z;rcases z with z | z <;> cases z
 refine wpAny_unbindName_local hk hn hm uA fun h' u' xt hs=>?_
 obtain⟨oL,_,_,vv,_⟩:=id hn;refine h _ ⟨I.ok,I.os,I.bare,⟨fun b o e n hb hx=>?_,fun b o e n hb hx=>?_,I.base.free,fun b o e hx=>?_,I.base.tups,I.base.frzs,I.base.tbls⟩,⟨_,xt,fun j y v' e1 e2 e3=>?_⟩,fun y c e=>?_,I.free,I.freeC,fun p hp=>?_,fun b ob e=>?_,by simpa using I.len⟩
 ·exact (hs.2 b (aZ (aU (aD e) I.ok.above))).trans (I.base.keep b o e n hb hx)
 ·obtain⟨sl,e1⟩:=I.base.slot b o e n hb hx;exact⟨sl,(hs.2 b (aZ (aU (aD e) I.ok.above))).trans e1⟩
 ·obtain⟨o',e1⟩:=I.base.there b o e hx;exact⟨o',(hs.2 b (aZ (aU (aD e) I.ok.above))).trans e1⟩
 ·by_cases hj:j=i
  ·subst hj;rw [dz hiσ] at e2;cases e2
  ·rw [cN (dk hj)] at e2;obtain⟨u',r',q⟩:=hl j y v' e1 e2 e3;refine⟨u',r',?_⟩;rcases q with ⟨k,e⟩ | ⟨k,c,e,z⟩
   ·refine .inl ⟨k,?_⟩;have:y≠x:=fun e=>hj (zd1 hN e1 (e ▸ hi))
    simp [this,e]
   ·exact .inr ⟨k,c,e,z.sameBut hs (cne y c e)⟩
 ·obtain⟨w',z⟩:=I.cell y c e;exact⟨w',z.sameBut hs (cne y c e)⟩
 ·obtain⟨e,n,ne,nf,d⟩:=I.pin p hp;exact⟨(hs.2 p.1 ne).trans e,n,ne,nf,d⟩
 ·refine (I.hok b ob e).stay (fun c w' hc q=>(hs.2 c ?_).trans q) (fun _ q=>q) fun _ _ q=>q
  rintro rfl;rcases hc with rfl | hc
  ·rw [I.free] at e; cases e
  ·rw [I.free] at hc; cases hc
theorem Inv.trackX {a:Addr} {o:HO} (I:Inv X lM σ H s) (hn:H a=none) (h0:X.s₀.heap.get? a=none) (hL:a≠X.env.locals) (hc:∀ x c,X.env.cells.lookup x=some c→c≠a) (hp:∀ p∈X.pn++lM,p.1≠a) (new:zab X.prog X.w (lP H a o) s.heap a o) :
  Inv X lM σ (lP H a o) s:=by
 have hok:HOk X.prog X.w (lP H a o) s.heap:=fun b u e=>by
  by_cases hb:b=a
  ·subst hb;rw [ze] at e;cases e;exact new
  ·rw [zp hb] at e;exact (I.hok b u e).stay (fun c v _ q=>q) (fun c q=>by rw [zp (zw q hn)]; exact q) fun c xs q=>by rw [zp (zw q hn)]; exact q
 refine⟨I.ok,I.os,I.bare,⟨I.base.keep,I.base.slot,fun b u e n hx=>?_,I.base.there,fun b xs e=>?_,fun b u xs e=>?_,fun b ps e=>?_⟩,I.loc,I.cell,?_,fun x c e=>?_,fun p BM=>?_,hok,I.len⟩
 ·rw [zp (fun z=>by rw [z,h0] at e; cases e)];exact I.base.free b u e n hx
 ·have:=I.base.tups b xs e;rw [zp (zw this hn)]; exact this
 ·have:=I.base.frzs b u xs e;rw [zp (zw this hn)]; exact this
 ·obtain⟨m1,this⟩:=I.base.tbls b ps e;exact⟨m1,by rw [zp (zw this hn)]; exact this⟩
 ·rw [zp (dk hL)]; exact I.free
 ·rw [zp (hc x c e)]; exact I.freeC x c e
 ·obtain⟨e,n,ne,nf,d⟩:=I.pin p BM;exact⟨e,by rw [zp (hp p BM)]; exact n,ne,nf,d⟩
end
abbrev Cx.inExc (X:Cx) (e:Addr):Cx:={ X with A:=X.A.mark (some (.ref e)),calm:=false,xe:=fun _ _=>False }
section
variable {X:Cx} {lM:List (Addr×Obj)} {σ:St} {H:Hp} {s:Shared} {e:Addr}
theorem Cx.Ok.inExc (ok:X.Ok) (e:Addr):(X.inExc e).Ok :=
 ⟨ok.mod,ok.kind,ok.glob,ok.blt,ok.above,ok.inj,ok.has,ok.cab,fun z=>(by cases z),ok.frames,ok.stk,ok.exf,ok.bs,ok.bsz,ok.noex,ok.exfs,ok.funs,ok.frf⟩
theorem Inv.inExc (I:Inv X lM σ H s) (e:Addr):Inv (X.inExc e) lM σ H s:=⟨I.ok.inExc e,I.os,I.bare,I.base,I.loc,I.cell,I.free,I.freeC,I.pin,I.hok,I.len⟩
theorem Inv.outExc (I:Inv (X.inExc e) lM σ H s) (ok:X.Ok):Inv X lM σ H s:=⟨ok,I.os,I.bare,I.base,I.loc,I.cell,I.free,I.freeC,I.pin,I.hok,I.len⟩
theorem zgl {M:Model} {A:Around} {E:Value→Shared→Prop} {h:Heap} {g:Array GenState} {d:Drawn} {tk:Nat} {os:OsState} {K:ag} {C S:Addr} {Q:Bool→Shared→Prop} (X:K.In h) (he:∃ o,h.get? e=some o∧o.cls = .ref C) (hk:eF K (.ref C) (.ref S)=some true)
  (hs:bO K S (.type "BaseException")=some true) (q:Q true ⟨h,g,d,tk,os⟩):wpAny M A (excMatches (.ref e) (.ref S)) Q E ⟨h,g,d,tk,os⟩:=by
 obtain⟨l1,l2,l3⟩:=kQ (M:=M) X hk;unfold excMatches isInstance;refine aa (aa (l1.at ?_));rw [tc_notTuple];refine ai (cR rfl (aa (ai ?_)));dsimp only
 (simp only [dD,fj])
 refine aa (aa (aa ?_));unfold isExcClass;refine aa (l2.at (gk rfl ((ge X hs).at ?_)));refine cR rfl (ai (ai ?_));refine aa ((zei he M).at ?_);refine aa (aa (aa (l3.at (gk rfl (ai (ai ?_))))));exact ai q
end
def Ends.but (D:Ends) (i:Nat):Ends:={ nx:=fun σ H=>D.nx (σ.set i none) H,rt:=D.rt,bk:=fun σ H=>D.bk (σ.set i none) H,ct:=fun σ H=>D.ct (σ.set i none) H }
def zoD (K:ag) (S:Addr) (i:Nat) (tb:XK→TS) (th:TS):TS:=fun D σ H =>
 tb (fun cls _ H'=>∃ C,cls = .ref C∧eF K (.ref C) (.ref S)=some true∧∀ e,H' e=none→th (D.but i) (σ.set i (some (.ref e))) (lP H' e (zkx e C))) D σ H
section
variable {X:Cx} {x n:Str} {S:Addr} {i:Nat} {body uL:List Stmt} {b₀:Stmt} {tb:XK→TS} {th:TS} {np tw pos:Pos}
theorem znp (hex:X.ex = []) (Aq:X.stack=X.env :: X.outer) (xF:X.env.frame=some X.env.locals) (hg:Gl X x) (hm:X.mg x=some (.ref S)) (hS:bO X.K S (.type "BaseException")=some true)
  (hN:X.N.Nodup) (hi:X.N[i]? = some n) (hk:X.env.scope.names.lookup n=some .local)
  (hb:∀ (xe:Value→Shared→Prop) (lM:List (Addr×Obj)) (σ:St) (E:XK),zej (CX1 X.prog X.w) (X.wish xe) lM σ E→zmD (X.wish xe) lM σ body (tb E))
  (hh:∀ e:Addr,PSs (X.inExc e) (b₀ :: uL) th) (hd:(x == ("__debug__" : Str))=false:=by decide) :
  PS X (.Try body [.ExceptHandler (some (.Name x np)) (some n) (b₀ :: uL) tw] [] [] pos) (zoD X.K S i tb th):=by
 intro lM s σ H D I h;refine wpAny_Try_except ?_;refine bZ (hb (fun ev s1=>wpAny (model X.prog X.w) X.A (noteFrame ev X.env) (fun _ s₂=>wpAny (model X.prog X.w) X.A (setFlight ev none) (fun _ s₃=>wpAny (model X.prog X.w) X.A (handleBy ev X.env [ExceptHandler.ExceptHandler (some (Expr.Name x np)) (some n) (b₀ :: uL) tw]) (SP X lM D) X.xe s₃) X.xe s₂) X.xe s1) lM σ _ ?_ s H D (I.wish _) h) (fun f s1 q=>?_) fun ev s1 z=>z
 ·
  intro H1 s1 ev s2 I1 hq;have I1:=I1.unwish;obtain⟨e,C,H',B,rfl,os,bare,L,C',hC,uk,q⟩:=hq;cases hC;obtain⟨t,fl⟩:=L.fly;have rn:∀ b∈frs X.stack,H1 b=none:=I1.stkFree;show wpAny _ _ (noteFrame _ _) _ _ _;have fl0:B.FlyingW (X.env :: X.outer) e (.ref C) t s2.heap:=by rw [← Aq]; exact fl
  refine wpAny_looks_onW (base:=B) (outer:=X.outer) (by rw [← Aq]; exact I1.ok.frames) xF fl0 fun h2 held u2=>?_
  refine wpAny_landsW held fun h3 Ao u3=>?_
  have vP:∀ (h4:Heap),B.FlyingW (X.env :: X.outer) e (.ref C) t h4→s2.heap.UpToSlots h4→∀ (tk:Nat),Inv X lM σ H' ⟨h4,s2.gens,s2.drawn,tk,s2.os⟩:=by
   intro h4 yD u4 tk;refine I1.call' (s':=⟨h4,s2.gens,s2.drawn,tk,s2.os⟩) (ch:=[]) os ?_ (L.hok.kept yD.1) bare (fun b z=>absurd z #[M]);have U:=L.un rn;refine⟨fun b o z nn hb _=>yD.1 _ _ (L.keep b o z nn hb),fun b o z nn hb _=>?_,U.free,fun b o z _=>?_,L.tups,L.frzs,L.tbls⟩
   ·obtain⟨sl,z1⟩:=L.slot b o z nn hb;obtain⟨_,ob,zo,nd⟩:=I1.stack.mem hb;rw [z] at zo;cases zo;obtain⟨sN,z2⟩:=u4 b _ z1 nd;exact⟨sN,z2⟩
   ·by_cases hb:b∈frs X.stack
    ·obtain⟨sl,z1⟩:=L.slot b o z (rn b hb) hb;obtain⟨_,ob,zo,nd⟩:=I1.stack.mem hb;rw [z] at zo;cases zo;obtain⟨sN,z2⟩:=u4 b _ z1 nd;exact⟨_,z2⟩
    ·obtain⟨o',z1⟩:=L.there b o z hb;exact⟨o',yD.1 _ _ z1⟩
  have I3:=vP h3 Ao (u2.trans u3) s2.toks;refine wpAny_handleBy_cons (codeAny_handlers_test ?_) (by intro z; cases z);refine zcp (X:=X.inExc e) (I3.inExc e) hg hm ?_ hd;refine zgl I3.kIn Ao.there uk hS ?_;rw [if_pos rfl]
  (refine codeAny_handlers_suite_as ?_)
  refine PyProof.Rows.lands_againW Ao fun h4 yD u4=>?_
  have I4:=vP h4 yD ((u2.trans u3).trans u4) s2.toks;have ne:H' e=none:=L.fresh;have e0:X.s₀.heap.get? e=none:=by
   cases z:X.s₀.heap.get? e with
   | none=>rfl
   | some o =>
    obtain⟨o',z'⟩:=I1.base.there e o z (by rw [hex]; simp);rw [L.new] at z'; cases z'
  have I5:Inv X lM σ (lP H' e (zkx e C)) ⟨h4,s2.gens,s2.drawn,s2.toks,s2.os⟩:=by
   refine I4.trackX ne e0 (fun z=>?_) (fun y c hc z=>?_) (fun p hp z=>?_) ?_
   ·obtain⟨m,⟨o,_,_,ho,_⟩,_⟩:=I1.loc;rw [← z,L.new] at ho;cases ho
   ·obtain⟨v,o,ho,_⟩:=I1.cell y c hc;rw [z,L.new] at ho;cases ho
   ·have:=(I1.pin p hp).1;rw [z,L.new] at this;cases this
   ·obtain⟨ob,ho,uA⟩:=yD.there;exact⟨⟨ob,ho,uA⟩,⟨ob,ho⟩,fun h1 h2 ⟨o,z,c⟩ k=>⟨o,k o z,c⟩⟩
  refine zbO (X:=X.inExc e) (v:=.ref e) (I5.inExc e) hN hi (.inl hk) rfl (fun s6 I6=>?_) (.inr hk);refine bZ (hh e lM s6 _ _ (D.but i) I6 (q e ne)) (fun f s7 q7=>?_) fun _ _ z=>z.elim
  have fin:∀ {σ':St} {H7:Hp} {R:Shared→Prop},Inv (X.inExc e) lM σ' H7 s7→(∀ s8,Inv X lM (σ'.set i none) H7 s8→R s8)→wpAny (model X.prog X.w) X.A (do bindName X.env n cw; unbindBehindTheSuite X.env n tw) (fun _ s8=>R s8) X.xe s7:=by
   intro σ' H7 R I7 hR;have I7:=I7.outExc I.ok;refine aa (wpAny_bindName (zbO (v:=.non) I7 hN hi (.inl hk) rfl (fun s8 I8=>?_) (.inr hk)));unfold unbindBehindTheSuite;refine fE ?_;have v7:i < σ'.length:=by rw [I7.len]; exact (ak.mp hi).1
   refine zja (v:=.non) I8 hN hi hk (by rw [dz v7]) fun s9 I9=>hR s9 ?_
   rw [List.set_set] at I9;exact I9
  cases f with
  | next =>
   obtain⟨σ',H7,I7,q8⟩:=q7;exact fin I7 fun s8 I8=>⟨_,_,I8,q8⟩
  | brk =>
   obtain⟨σ',H7,I7,q8⟩:=q7;exact fin I7 fun s8 I8=>⟨_,_,I8,q8⟩
  | cont =>
   obtain⟨σ',H7,I7,q8⟩:=q7;exact fin I7 fun s8 I8=>⟨_,_,I8,q8⟩
  | ret v =>
   obtain⟨u,σ',H7,I7,r,q8⟩:=q7;exact fin I7 fun s8 I8=>⟨u,_,_,I8,r,q8⟩
 ·cases f with
  | next=>exact d8 (SP.unwish q)
  | ret v=>exact SP.unwish q
  | brk=>exact SP.unwish q
  | cont=>exact SP.unwish q
end
structure RoomH (k:Nat) (A:Around):Prop where
 dp:A.depth+3*k+5 < recursionLimit
 un:A.units+16*k+200 < cLine
theorem RoomH.of {k:Nat} {A:Around} {e:Addr} (r:Room k A):RoomH k (A.mark (some (.ref e))):=⟨r.dp,r.un⟩
theorem RoomH.deeper {k:Nat} {A:Around} (r:RoomH (k+1) A) (env:Env):RoomH k (A.deeper env) :=
 ⟨by have:=r.dp; show A.depth+1+3*k+5 < _; lia,by have:=r.un; show A.units+3+16*k+200 < _; lia⟩
structure FnOkH (P:Program) (w:World) (K:ag) (mg:Str→Option Value) (base:Heap) (k:Nat) (f:Addr) (fd:FuncData) (ps:List Str) (sp:Sp):Prop where
 len:∀ vs H Q E,sp vs H Q E→vs.length=ps.length
 run:∀ (A:Around) (outer:List Env) (s:Shared) (H:Hp) (args:Args) (us:List Value) (vs:List V) (Q:VK) (E:XK),RoomH k A→Env0 P w K mg base A outer s H→BindsTo s fd args (ps.zip us)→zG vs us→sp vs H Q E →
  codeAny (model P w) A (.call (.ref f) args) (CR CX0 outer P w H s Q E) s
abbrev cxH (P:Program) (w:World) (K:ag) (mg:Str→Option Value) (base:Heap) (N:List Str) (qual:Str) (scope:Scope) (f:Addr) (cd:Value) (A:Around) (outer:List Env) (s:Shared) (H:Hp) (E:XK):Cx :=
 { zbA CX0 P w K mg base N qual scope f cd A outer s H E with calm:=false,xe:=fun _ _=>False }
section
variable {P:Program} {w:World} {K:ag} {mg:Str→Option Value} {base:Heap}
theorem znq {k:Nat} {f:Addr} {name qual:Str} {params:Arguments} {body:List Stmt} {scope:Scope} {dV kV doc pm l8 ct oc:Value} {an od:Option Addr}
  {ui:Array (Option Value)} {N ps:List Str} {sp:Sp} (lk:K.lookup f=some ⟨oc,od,.func (cF name qual params body scope dV kV doc pm an l8 ct),ui⟩) (qF:eA K l8 qual=true) (S:FnScope N ps scope)
  (len:∀ vs H Q E,sp vs H Q E→vs.length=ps.length)
  (n9:∀ (A:Around) (outer:List Env) (s:Shared) (H:Hp) (vs:List V) (Q:VK) (E:XK),RoomH k (A.deeper (envOfC qual scope s.heap.objs.size f l8))→sp vs H Q E →
   ∃ t,PSs (cxH P w K mg base N qual scope f l8 A outer s H E) body t∧t { nx:=fun _ H'=>Q .non H',rt:=Q } (start N vs) H) :
  FnOkH P w K mg base (k+1) f (cF name qual params body scope dV kV doc pm an l8 ct) ps sp:=by
 refine⟨len,fun A outer s H args us vs Q E hr e0 hb r qG=>?_⟩;have hl:=len _ _ _ _ qG;have KX:K.In s.heap:=e0.mod.kin.keeps fun b o e=>(e0.bs b o e).1
 have lim:s.heap.NoLimit:=e0.mod.nolimit.keeps fun b o e=>(e0.bs b o e).1
 have og:∀ y∈ps.zip us,scope.names.lookup y.1=some .local∨(scope.names.lookup y.1=some .cell∧((cellsFrom (s.heap.objs.size+1) scope.names []).lookup y.1).isSome=true):=fun ⟨n,v⟩ hy=>by
  rcases S.par n (fT hy).1 with q | q
  ·exact .inl q
  ·exact .inr ⟨q,fz _ _ _ (.inl q)⟩
 refine iR (by have:=hr.dp; lia) (KX _ _ lk) rfl S.co S.gen rfl (jK KX qF) (hb _ _ _ _ ?_);refine gH S.kind og fun env he s1 x=>?_
 subst he;refine⟨lim.keeps x.toInCall.keep,codeAny_func ?_⟩;obtain⟨t,ht,hq⟩:=n9 A outer s H vs Q E (hr.deeper _) qG;have e1:Env0 P w K mg base { A with handled:=none } outer s H:=⟨e0.frames,e0.mod,e0.bs,e0.bsz,e0.funs,e0.frf,e0.hok,e0.bare⟩;have I0:Inv (zbA CX0 P w K mg base N qual scope f l8 { A with handled:=none } outer s H E) [] (start N vs) H s1:=zeV S rfl e1 hl r x;have I:Inv (cxH P w K mg base N qual scope f l8 A outer s H E) [] (start N vs) H s1 :=
  ⟨⟨I0.ok.mod,I0.ok.kind,I0.ok.glob,I0.ok.blt,I0.ok.above,I0.ok.inj,I0.ok.has,I0.ok.cab,fun z=>(by cases z),I0.ok.frames,I0.ok.stk,I0.ok.exf,I0.ok.bs,I0.ok.bsz,I0.ok.noex,I0.ok.exfs,I0.ok.funs,I0.ok.frf⟩,I0.os,I0.bare,I0.base,I0.loc,I0.cell,I0.free,I0.freeC,I0.pin,I0.hok,I0.len⟩
 refine bZ (ht [] s1 (start N vs) H _ I hq) (fun fl s' hs=>?_) fun e s' hs=>hs.elim
 have fin:∀ {σ':St} {H':Hp} {v:V} {u:Value},Inv (cxH P w K mg base N qual scope f l8 A outer s H E) [] σ' H' s'→RelV v u→Q v H'→CE outer P w H s Q u s' :=
  fun {σ' H' v u} J rv q=>⟨v,H',J.os,J.bare,J.base,J.hok,rv,q⟩
 cases fl with
 | ret u =>
  obtain⟨v,σ',H',J,rv,q⟩:=hs;exact fin J rv q
 | next =>
  obtain⟨σ',H',J,q⟩:=hs;exact fin (v:=V.non) (u:=cw) J rfl q
 | brk =>
  obtain⟨_,_,_,q⟩:=hs;exact bT q
 | cont =>
  obtain⟨_,_,_,q⟩:=hs;exact bT q
theorem Fun.okH {x qual:Str} {st:Stmt} {f:Addr} {fd:FuncData} {N ps:List Str} {k:Nat} {sp:Sp} (F:Fun K x qual st f fd) (S:FnScope N ps (zj st)) (len:∀ vs H Q E,sp vs H Q E→vs.length=ps.length)
  (n9:∀ (l8:Value) (A:Around) (outer:List Env) (s:Shared) (H:Hp) (vs:List V) (Q:VK) (E:XK),RoomH k (A.deeper (envOfC qual (zj st) s.heap.objs.size f l8))→sp vs H Q E →
   ∃ t,PSs (cxH P w K mg base N qual (zj st) f l8 A outer s H E) (za2 st) t∧t { nx:=fun _ H'=>Q .non H',rt:=Q } (start N vs) H):FnOkH P w K mg base (k+1) f fd ps sp:=by
 obtain⟨oc,od,kV,doc,pm,an,l8,ct,ui,rfl,lk,qF⟩:=F.ex;exact znq lk qF S len fun A outer s H vs Q E hr qG=>n9 l8 A outer s H vs Q E hr qG
end
section
variable {X:Cx} {k:Nat} {f:Addr} {fd:FuncData} {ps:List Str} {sp:Sp} {x:Str} {p pos:Pos} {e:Expr} {es:List Expr} {t:TA}
theorem zkC (F:FnOkH X.prog X.w X.K X.mg X.base k f fd ps sp) (hr:RoomH k X.A) (hg:Gl X x) (hm:X.mg x=some (.ref f)) (hk:dN X.K (.ref f)=true) (hb:Binds X.K fd ps [])
  (ha:PA X (e :: es) t) (uB:(x == ("__debug__" : Str))=false:=by decide) (he:starEach (e :: es) X.env=(false,eval e X.env) :: starEach es X.env:=by rfl) (mT:(backTo pos (starEach es X.env)).any (·.1)=false:=by rfl) :
  PE X (.Call (.Name x p) (e :: es) [] pos) (zjZ sp [] E0 t):=by
 intro lM s σ H Q I h;refine ed (zcp I hg hm ?_ uB);refine gw (h₀:=X.base) I.ok.mod.kin hk (thn (ha pos lM s σ H _ I h) fun us s1 ⟨vs,H1,I1,r,q⟩=>⟨I1.kIn,?_⟩) he mT;have r2:zG (vs++[]) (us++[]):=r.append .nil;have hl:(us++[]).length=ps.length:=by rw [← r2.length]; exact F.len _ _ _ _ q
 refine gZ (fS (F.run X.A X.stack s1 H1 ⟨us,[]⟩ (us++[]) (vs++[]) Q E0 hr I1.env0 (hb s1 us I1.kIn hl) r2 q) fun r s' hq=>?_);cases r with
 | error e=>exact hq.elim
 | ok fl =>
  cases fl with
  | ret u=>exact I1.after hq
  | next=>exact bT hq
  | brk=>exact bT hq
  | cont=>exact bT hq
end
theorem zcK:∀ {bs:List Bool} {us:List Value},zG (bs.map V.bl) us→us=bs.map d7
 | [],_,r=>by cases r; rfl
 | b :: bs,_,r=>by
  cases r with
  | cons r1 r2 =>
   rw [zcK r2];cases r1;rfl
theorem zdv {h:Heap}:∀ (bs:List Bool),∃ as,ReadsAll h (bs.map d7) (bs.map lL) as
 | []=>⟨_,.nil⟩
 | b :: bs=>by
  obtain⟨as,r⟩:=zdv (h:=h) bs;exact⟨_,.cons (by constructor) r⟩
theorem zdw:∀ (bs:List Bool),(bs.map lL).all Spec.Shape.bool.has=true
 | []=>rfl
 | _ :: bs=>by
  rw [aR,gI,zdw bs];rfl
theorem zgm {bs:List Bool} (k:Bool) (y:Value) (hy:y∈bs.map d7) (A:Around) (s:Shared):g6 A s y (.bool k) (isBoolOf k y):=by
 obtain⟨as,r⟩:=zdv (h:=s.heap) bs;exact eq_isBoolOf k r (zdw bs) y hy A s
theorem zcZ (k:Bool):∀ bs:List Bool,List.countP (isBoolOf k) (bs.map d7)=bs.count k
 | []=>rfl
 | b :: bs=>by
  rw [aR,List.countP_cons,List.count_cons,zcZ k bs];rfl
section
variable {X:Cx}
def zlQ:V→List V→Hp→VK→Prop:=fun x vs H Q=>∃ (l:Addr) (bs:List Bool) (k:Bool),x = .ref l∧vs = [.bl k]∧H l=some (.lst (bs.map V.bl))∧Q (.int ((bs.count k:Nat):Int)) H
theorem zjb:MtM X "list.count" zlQ:=by
 intro lM s σ H x vs v us Q I rx rv h;obtain⟨l,bs,k,rfl,rfl,hH,q⟩:=h;cases rx;obtain⟨u,rfl,ru⟩:=rv.one;cases ru;obtain⟨z,lO,n,r,hl,e⟩:=I.lstM hH;have hi:=zcK r;subst hi;refine eJ F.slot_list_count ⟨_,e,rfl⟩ F.entry_list_count (F.args_list_count_2 _ _) (SeqAt.list_countAt l _ n _ _ (.bool k) (isBoolOf k)) ⟨e,fun y hy=>zgm (bs:=bs) k y (by simpa using hy) _ _,?_⟩;rw [List.toList_toArray,zcZ];exact⟨.int ((bs.count k:Nat):Int),H,I.tok _,⟨_,rfl⟩,q⟩
def zlR:V→List V→Hp→VK→Prop:=fun x vs H Q=>∃ (l:Addr) (bs:List Bool) (k:Bool) (j:Nat),x = .ref l∧vs = [.bl k]∧H l=some (.lst (bs.map V.bl))∧bs[j]? = some k∧(∀ m,m < j→bs[m]? = some (!k))∧j < 1000∧Q (.int (j:Int)) H
theorem zjc:MtM X "list.index" zlR:=by
 intro lM s σ H x vs v us Q I rx rv h;obtain⟨l,bs,k,j,rfl,rfl,hH,hj,hm,h1000,q⟩:=h;cases rx;obtain⟨u,rfl,ru⟩:=rv.one;cases ru;obtain⟨z,lO,n,r,hl,e⟩:=I.lstM hH;have hi:=zcK r;subst hi;obtain⟨vA,hje⟩:=ak.mp hj;refine eJ F.slot_list_index ⟨_,e,rfl⟩ F.entry_list_index (F.args_list_index_2 _ _) (SeqAt.list_indexAt l _ n _ _ (.bool k) (isBoolOf k) j (by simpa using vA) #[O] ?_ ?_) ⟨e,fun y hy=>zgm (bs:=bs) k y (by simpa using hy) _ _,?_⟩
 ·simp [isBoolOf,hje]
 ·intro m h1 h2;have:=hm m h2;obtain⟨_,hme⟩:=ak.mp this;simp [isBoolOf,hme]
 ·exact⟨.int (j:Int),H,I.tok _,⟨_,rfl⟩,q⟩
end
def strsOf:List Expr→Option (List Str)
 | []=>some []
 | .Constant (.str i) _ _ :: r=>(strsOf r).map (i :: ·)
 | _=>none
def zgn (ns:List Str):TA:=fun _ H Q=>Q (ns.map V.str) H
theorem zlS {X:Cx}:∀ (es:List Expr) (ns:List Str),strsOf es=some ns→PA X es (zgn ns):=by
 intro es;induction es with
 | nil =>
  intro ns h;have e:ns = []:=(aG h).symm;subst e;exact zh
 | cons e r ih =>
  intro ns h;unfold strsOf at h;split at h
  ·rename_i heq
   cases heq
  ·rename_i i j p r' heq
   injection heq with e1 e2
   subst e1 e2;cases hr:strsOf r with
   | none=>rw [hr] at h; cases h
   | some ms =>
    rw [hr] at h;have e:i :: ms=ns:=aG h;subst e;exact zd zfg (ih ms hr)
  ·cases h
theorem zkD {X:Cx} {i:Nat} {x:Str} {pos' nQ oj:Pos} {rest:List Stmt} {u:TS} {es:List Expr} {ns:List Str} (h:strsOf es=some ns) (hN:X.N.Nodup) (hi:X.N[i]? = some x) (hx:Loc X.env.scope x)
  (hf:X.fn x=true∨X.env.scope.names.lookup x=some .local) (hr:PSs X rest u):PSs X (.Assign [.Name x pos'] (.List es nQ) oj :: rest) (zbk (zex (zgY (zgn ns)) (zaQ i)) u):=by
 have h1:PE X (.List es nQ) (zgY (zgn ns)):=@zY X es (zgn ns) nQ (@zlS X es ns h);have h2:PS X (.Assign [.Name x pos'] (.List es nQ) oj) (zex (zgY (zgn ns)) (zaQ i)):=zr hN hi hx h1 (by rfl) hf;exact zg h2 hr
section
variable {κ:Type} [DecidableEq κ]
def zhn (lV:List (κ×V)) (k:κ):Option V:=(lV.find? fun kv=>decide (kv.1=k)).map (·.2)
def putK (lV:List (κ×V)) (k:κ) (v:V):List (κ×V) :=
 if (lV.any fun kv=>decide (kv.1=k))=true then lV.map (fun kv=>if kv.1=k then (kv.1,v) else kv) else lV++[(k,v)]
theorem zgo {p:κ×V} {r:List (κ×V)} {k:κ} (e:p.1=k):zhn (p :: r) k=some p.2:=by simp [zhn,fW,e]
theorem zgp {p:κ×V} {r:List (κ×V)} {k:κ} (e:¬ p.1=k):zhn (p :: r) k=zhn r k:=by simp [zhn,fW,e]
theorem zgq (k:κ):∀ lV:List (κ×V),(lV.any fun kv=>decide (kv.1=k))=(zhn lV k).isSome
 | []=>rfl
 | p :: r=>by
  rw [fC];by_cases e:p.1=k
  ·simp only [zgo e,decide_eq_true e,Bool.true_or,jQ]
  ·rw [zgp e,decide_eq_false e,Bool.false_or]; exact zgq k r
theorem zdx (lV:List (κ×V)) (k:κ) (v:V):(putK lV k v).length≤lV.length+1:=by
 unfold putK;split
 ·rw [ae]; lia
 ·rw [aB,bG,ee]; lia
theorem ziB.isSome_eq {o:Option V} {u:Option Value} (r:ziB o u):o.isSome=u.isSome:=by
 cases o with
 | none=>cases u with
  | none=>rfl
  | some _=>exact (show False from r).elim
 | some _=>cases u with
  | none=>exact (show False from r).elim
  | some _=>rfl
theorem KV.any {lV:List (κ×V)} {vs:List (κ×Value)} (r:KV lV vs) (k:κ):(lV.any fun kv=>decide (kv.1=k))=vs.any fun kv=>decide (kv.1=k):=by
 unfold KV at r;induction r with
 | nil=>rfl
 | cons h t ih=>rw [fC,fC,ih,h.1]
theorem KV.repl {lV:List (κ×V)} {vs:List (κ×Value)} (r:KV lV vs) (k:κ) {y:V} {u:Value} (ry:RelV y u) :
  KV (lV.map fun kv=>if kv.1=k then (kv.1,y) else kv) (vs.map fun kv=>if kv.1=k then (kv.1,u) else kv):=by
 unfold KV at r ⊢;induction r with
 | nil=>exact .nil
 | @cons p q ps qs h t ih =>
  rw [aR,aR];refine .cons ?_ ih;obtain⟨h1,h2⟩:=h;by_cases e:p.1=k
  ·rw [if_pos e,if_pos (h1.symm.trans e)]; exact⟨h1,ry⟩
  ·rw [if_neg e,if_neg (fun z=>e (h1.trans z))]; exact⟨h1,h2⟩
theorem KV.put {lV:List (κ×V)} {vs:List (κ×Value)} (r:KV lV vs) (k:κ) {y:V} {u:Value} (ry:RelV y u):KV (putK lV k y) (stored vs k u):=by
 unfold putK stored;rw [r.any k];by_cases e:(vs.any fun kv=>decide (kv.1=k))=true
 ·rw [if_pos e,if_pos e]; exact r.repl k ry
 ·rw [if_neg e,if_neg e]; exact bR r ⟨rfl,ry⟩
theorem KV.length {lV:List (κ×V)} {vs:List (κ×Value)} (r:KV lV vs):lV.length=vs.length:=jm r
end
theorem zmE {P:Program} {w:World} {k:Key} {u:Value} (r:RelV (kV k) u):(zaO P w).is k u=true:=by
 cases k with
 | inl i=>obtain⟨t,e⟩:=(show ∃ t,u=iz i t from r); subst e; exact zfV P w i t
 | inr x=>obtain⟨t,e⟩:=(show ∃ t,u=jE x t from r); subst e; exact zfW P w x t
theorem ze8 {P:Program} {w:World}:∀ {ks:List Key} {us:List Value},zG (ks.map kV) us→ItemsAre (zaO P w) ks us
 | [],_,r=>by rw [hX] at r; cases r; exact .nil
 | k :: ks,_,r=>by
  rw [aR] at r;cases r with
  | cons h t=>exact .cons (zmE h) (ze8 t)
abbrev KT (H:Hp):List (List Key×V)→List (List Key×Addr×Value)→Prop:=Paired fun p q=>p.1=q.1∧H q.2.1=some (.tup (p.1.map kV))∧RelV p.2 q.2.2
theorem KT.val {H:Hp} {lV:List (List Key×V)} {xs:List (List Key×Addr×Value)} (r:KT H lV xs) (k:List Key):ziB (zhn lV k) ((atKey xs k).map (·.2)):=by
 induction r with
 | nil=>exact d9
 | @cons p q ps qs h t ih =>
  obtain⟨h1,_,h2⟩:=h;by_cases e:p.1=k
  ·have e':q.1=k:=h1.symm.trans e;have b:atKey (q :: qs) k=some q.2:=by simp [atKey,fW,e']
   rw [zgo e,b]; exact h2
  ·have e':¬ q.1=k:=fun z=>e (h1.trans z)
   have b:atKey (q :: qs) k=atKey qs k:=by simp [atKey,fW,e']
   rw [zgp e,b]; exact ih
theorem KT.repl {H:Hp} {lV:List (List Key×V)} {xs:List (List Key×Addr×Value)} (r:KT H lV xs) (k:List Key) {y:V} {u:Value} (ry:RelV y u) :
  KT H (lV.map fun kv=>if kv.1=k then (kv.1,y) else kv) (xs.map (putAt k u)):=by
 induction r with
 | nil=>exact .nil
 | @cons p q ps qs h t ih =>
  rw [aR,aR];refine .cons ?_ ih;obtain⟨h1,h2,h3⟩:=h;unfold putAt;by_cases e:p.1=k
  ·rw [if_pos e,if_pos (h1.symm.trans e)]; exact⟨h1,h2,ry⟩
  ·rw [if_neg e,if_neg (fun z=>e (h1.trans z))]; exact⟨h1,h2,h3⟩
theorem KT.put {H:Hp} {lV:List (List Key×V)} {xs:List (List Key×Addr×Value)} (r:KT H lV xs) (k:List Key) {b:Addr} {y:V} {u:Value} (hb:H b=some (.tup (k.map kV))) (ry:RelV y u) :
  KT H (putK lV k y) (storedH xs k b u):=by
 have e:(lV.any fun kv=>decide (kv.1=k))=(atKey xs k).isSome:=by
  rw [zgq,(r.val k).isSome_eq,gU]
 unfold putK storedH;rw [e];by_cases q:(atKey xs k).isSome=true
 ·rw [if_pos q,if_pos q]; exact r.repl k ry
 ·rw [if_neg q,if_neg q]; exact bR r ⟨rfl,hb,ry⟩
theorem KT.keeps {H H':Hp} {lV:List (List Key×V)} {xs:List (List Key×Addr×Value)} (r:KT H lV xs) (ht:∀ b ys,H b=some (.tup ys)→H' b=some (.tup ys)):KT H' lV xs :=
 Paired.mapP r fun _ _ z=>⟨z.1,ht _ _ z.2.1,z.2.2⟩
section
variable {P:Program} {w:World} {H:Hp} {h:Heap} {a:Addr}
theorem zmF {u:HO} (ok:HOk P w H h) (e:Rd H a u):zab P w H h a u:=e.ok ok
theorem zn9 {lV:List (Key×V)} (ok:HOk P w H h) (e:Rd H a (.dK lV)):lV.length≤sizeLine∧(a == sysModules)=false∧∃ vs,KV lV vs∧h.DictOf (zaO P w) a vs :=
 show zab P w H h a (.dK lV) from zmF ok e
theorem zoa {lV:List (Key×V)} (ok:HOk P w H h) (e:H a=some (.dK lV)):lV.length≤sizeLine∧(a == sysModules)=false∧∃ vs,KV lV vs∧h.DictOf (zaO P w) a vs:=zn9 ok (.inl e)
theorem zkE {ks:List Key} (ok:HOk P w H h) (e:H a=some (.tup (ks.map kV))):(tupleKind (zaO P w)).is h ks a:=by
 obtain⟨_,lO,r,o,h1,h2,n,h3⟩:=(show zab P w H h a (.tup (ks.map kV)) from ok a _ e);exact⟨o,lO.toArray,n,h1,h2,h3,by simpa using ze8 r⟩
theorem zob {lV:List (List Key×V)} (ok:HOk P w H h) (e:Rd H a (.dT lV)):lV.length≤sizeLine∧(a == sysModules)=false ∧
  ∃ xs,KT H lV xs∧h.DictOfH (tupleKind (zaO P w)) a xs:=by
 obtain⟨z,y,xs,r,o,es,ep,h1,h2,h3,h4,h5⟩:=(show zab P w H h a (.dT lV) from zmF ok e);refine⟨z,y,xs,r,o,es,ep,h1,h2,h3,h4,fun x hx=>?_,h5⟩;have all:∀ {l:List (List Key×V)} {m:List (List Key×Addr×Value)},KT H l m→∀ x∈m,(tupleKind (zaO P w)).is h x.1 x.2.1:=by
  intro l m q;induction q with
  | nil=>intro x hx; exact nomatch hx
  | @cons p q ps qs hq t ih =>
   intro x hx;rcases au.mp hx with e | hx
   ·subst e;exact zkE ok (by rw [← hq.1]; exact hq.2.1)
   ·exact ih x hx
 exact all r x hx
theorem zoc {lV:List (List Key×V)} (ok:HOk P w H h) (e:H a=some (.dT lV)):lV.length≤sizeLine∧(a == sysModules)=false ∧
  ∃ xs,KT H lV xs∧h.DictOfH (tupleKind (zaO P w)) a xs:=zob ok (.inl e)
end
def zkF (H:Hp) (a:Addr) (y v:V) (H':Hp):Prop :=
 (∃ lV k,H a=some (.dK lV)∧y=kV k∧lV.length < sizeLine∧H'=lP H a (.dK (putK lV k v))) ∨
 ∃ lV k b,H a=some (.dT lV)∧y = .ref b∧H b=some (.tup (k.map kV))∧lV.length < sizeLine∧H'=lP H a (.dT (putK lV k v))
theorem zkF.t {H:Hp} {a b:Addr} {lV:List (List Key×V)} {k:List Key} {v:V} (e:H a=some (.dT lV)) (eb:H b=some (.tup (k.map kV))) (hl:lV.length < sizeLine) :
  zkF H a (.ref b) v (lP H a (.dT (putK lV k v))):=.inr ⟨lV,k,b,e,rfl,eb,hl,rfl⟩
section
variable {X:Cx} {lM:List (Addr×Obj)} {σ:St} {H:Hp} {s:Shared} {a:Addr} {y v:V} {u r:Value} {o:Option V} {A:Around} {E:Value→Shared→Prop}
theorem Inv.big (I:Inv X lM σ H s):sysModules < s.heap.objs.size:=by
 have h:mainGlobals < s.heap.objs.size:=(I.mod.glob.keeps I.bk).lt;exact Nat.lt_trans #[D] h
theorem zfA {h':Heap} {t':Nat} {ob:HO} (I:Inv X lM σ H s) (mu:Mut (H a)) (hs:be a s.heap h') (he:∃ q,h'.get? a=some q) (new:zab X.prog X.w (lP H a ob) h' a ob) :
  Inv X lM σ (lP H a ob) { s with heap:=h',toks:=t' } :=
 I.write (x:=a) (e:=a) mu (.inl rfl) (fun b q hb z=>(hs.2 b hb).trans z) he new
theorem znr {P:Program} {w:World} {H':Hp} {h':Heap} {lV:List (Key×V)} {vs:List (Key×Value)} (z:lV.length≤sizeLine) (hd:(a == sysModules)=false) (rel:KV lV vs) (dd:h'.DictOf (zaO P w) a vs) :
  zab P w H' h' a (.dK lV):=⟨z,hd,vs,rel,dd⟩
theorem zjd {H':Hp} {Q:Unit→Shared→Prop} (hu:A.units+1 < cLine) (I:Inv X lM σ H s) (g:zkF H a y v H') (ry:RelV y u) (rv:RelV v r) (h:∀ s',Inv X lM σ H' s'→Q () s') :
  wpAny (model X.prog X.w) A (setItem (.ref a) u r) Q E s:=by
 rcases g with ⟨lV,k,e,ey,l,eH⟩ | ⟨lV,k,b,e,ey,eb,l,eH⟩
 ·subst ey eH;obtain⟨z,hd,vs,rel,dd⟩:=zoa I.hok e;have hz:vs.length≤sizeLine:=by rw [← rel.length]; exact z
  have hl:(putK lV k v).length≤sizeLine:=by have:=zdx lV k v; lia
  refine wpAny_setItem_pairs (hsz:=hz) (zmE ry) dd fun h' wZ hs=>h _ ?_
  have he:∃ q,h'.get? a=some q:=let ⟨q,_,_,hq,_⟩:=wZ; ⟨q,hq⟩
  exact zfA I (by rw [e]; exact d9) hs he (znr hl hd (rel.put k rv) wZ)
 ·subst ey eH;cases (show u=aE b from ry);obtain⟨z,hd,xs,rel,dd⟩:=zoc I.hok e;have hz:xs.length≤sizeLine:=by rw [← jm rel]; exact z
  have hl:(putK lV k v).length≤sizeLine:=by have:=zdx lV k v; lia
  refine jT (hsz:=hz) (tupleKind_room_in1 hu) (zkE I.hok eb) dd fun h' wZ hs=>h _ ?_
  obtain⟨q,es,ep,hq,h2,h3,h4,_,h5⟩:=wZ;refine zfA I (by rw [e]; exact d9) hs ⟨q,hq⟩ ⟨hl,hd,_,(rel.put k eb rv).keeps fun c ys ec=>?_,q,es,ep,hq,h2,h3,h4,h5⟩;rw [zp (znO ec e (fun z=>nomatch z))];exact ec
end
def zod (td ty tv:TE):TS:=fun D σ H=>tv σ H fun v H1=>td σ H1 fun x H2=>ty σ H2 fun y H3=>∃ a H4,x = .ref a∧zkF H3 a y v H4∧D.nx σ H4
section
variable {X:Cx} {o i e value:Expr} {pos pos' nP:Pos} {td ty tv:TE}
theorem zlT (hu:X.A.units+1 < cLine) (ho:PE X o td) (hi:PE X i ty) (hv:PE X value tv) (hs:swapsWith value (some (.Subscript o i pos')) pos.line X.env=pure false) :
  PS X (.Assign [.Subscript o i pos'] value pos) (zod td ty tv):=by
 intro lM s σ H D I h;refine iM (thn (hv lM s σ H _ I h) fun r s1 ⟨v,H1,I1,rv,q1⟩=>thn (ho lM s1 σ H1 _ I1 q1) fun u s2 ⟨x,H2,I2,rx,q2⟩=>thn (hi lM s2 σ H2 _ I2 q2) fun iv s3 ⟨y,H3,I3,ry,a,H4,ex,g,q3⟩=>?_) hs;subst ex;obtain rfl:u=aE a:=rx;exact zjd hu I3 g ry rv fun s4 I4=>⟨σ,H4,I4,q3⟩
end
theorem zkG {P:Program} {w:World} {H:Hp} (h:Heap) (hb:sysModules < h.objs.size):zab P w H (h.push { cls:=.type "dict",data:=.dict #[] }) h.objs.size (.dT []) :=
 ⟨bo _,beq_eq_false_iff_ne.mpr (dk (aZ hb)),[],.nil,_,#[],0,aC _ rfl,⟨rfl,rfl,rfl⟩,rfl,rfl,k8⟩
def zns:TE:=fun _ H Q=>∀ p,H p=none→Q (.ref p) (lP H p (.dT []))
section
variable {X:Cx} {pos:Pos}
theorem zkH:PE X (.Dict [] [] pos) zns:=fun lM s σ H Q I h =>
 wpAny_Dict_empty ⟨.ref s.heap.objs.size,_,I.laid (a:=s.heap.objs.size) (o:=.dT []) (t':=s.toks) (fun _ _ q=>af _ q) (ah _) (zkG s.heap I.big),rfl,h _ (I.hok.fresh (ah _))⟩
end
end L2
namespace PySem
open PyProof.Rows
end PySem
namespace L2
open PySem PySem.Spec PyProof.Rows
end L2
namespace My
open PySem L2 PyProof.Rows
section
variable {K:ag}
structure RowAt (K:ag) (H:Hp) (r:Addr) (n:Nat) (rw:List (Option Int)):Prop where
 at':lN K H r (rw.map mF)
 len:rw.length=n
end
end My
end
section
namespace Srt
open PySem PyProof.Rows
def Vk (val:Keyed→Int) (xs:Array Keyed) (i:Nat):Int:=match xs[i]? with
 | some p=>val p
 | none=>0
theorem zan {val:Keyed→Int} {xs ys:Array Keyed} {i j:Nat} (h:xs[i]? = ys[j]?):Vk val xs i=Vk val ys j:=by unfold Vk; rw [h]
theorem zV {val:Keyed→Int} {xs:Array Keyed} {i:Nat} {p:Keyed} (h:xs[i]? = some p):Vk val xs i=val p:=by unfold Vk; rw [h]
def SIn (val:Keyed→Int) (xs:Array Keyed) (lo hi:Nat):Prop:=∀ i j,lo≤i→i≤j→j < hi→Vk val xs i≤Vk val xs j
def DIn (val:Keyed→Int) (xs:Array Keyed) (lo hi:Nat):Prop:=∀ i j,lo≤i→i≤j→j < hi→Vk val xs j≤Vk val xs i
structure SB (κ:SortKind) (a₀:Array Keyed) (st:SortSt):Prop where
 perm:(arrOf st).Perm a₀
 kind:kindOf st=κ
 failed:failedOf st=none
theorem SB.size {κ:SortKind} {a₀:Array Keyed} {st:SortSt} (h:SB κ a₀ st):(arrOf st).size=a₀.size:=h.perm.size_eq
theorem SB.mem {κ:SortKind} {a₀:Array Keyed} {st:SortSt} (h:SB κ a₀ st) {i:Nat} (hi:i < a₀.size):∃ p,(arrOf st)[i]? = some p∧p∈a₀.toList:=by
 (have qe:i < (arrOf st).size:=by rw [h.size]; exact hi)
 exact⟨(arrOf st)[i],getElem?_pos _ i qe,(eN.mp h.perm).mem_iff.mp #[M]⟩
structure SF (κ:SortKind) (a₀:Array Keyed) (lo:Nat) (st₀ st:SortSt):Prop where
 b:SB κ a₀ st
 low:∀ k,k < lo→(arrOf st)[k]? = (arrOf st₀)[k]?
 pend:pendingOf st=pendingOf st₀
theorem SF.refl {κ:SortKind} {a₀:Array Keyed} {lo:Nat} {st:SortSt} (h:SB κ a₀ st):SF κ a₀ lo st st:=⟨h,fun _ _=>rfl,rfl⟩
theorem SF.setArr {κ:SortKind} {a₀:Array Keyed} {lo:Nat} {st₀ st:SortSt} (h:SF κ a₀ lo st₀ st) {xs:Array Keyed} (hp:xs.Perm (arrOf st)) (hl:∀ k,k < lo→xs[k]? = (arrOf st)[k]?):SF κ a₀ lo st₀ (setArr st xs) :=
 ⟨⟨hp.trans h.b.perm,h.b.kind,h.b.failed⟩,fun k hk=>(hl k hk).trans (h.low k hk),h.pend⟩
section
variable {prog:Program} {w:World} {A:Around} {E:Value→Shared→Prop} {s:Shared} {a₀:Array Keyed} {κ:SortKind} {val:Keyed→Int}
def Cmp (prog:Program) (w:World) (A:Around) (s:Shared) (κ:SortKind) (val:Keyed→Int) (a₀:Array Keyed):Prop :=
 ∀ x y,x∈a₀.toList→y∈a₀.toList→∀ (Q:Bool→Shared→Prop) (E:Value→Shared→Prop),Q (decide (val x < val y)) s→wpAny (model prog w) A (keyLt' κ x.1 y.1) Q E s
theorem zkI {st:SortSt} {x y:Keyed} {Q:Option Bool→SortSt→Prop} (hC:Cmp prog w A s κ val a₀) (hk:kindOf st=κ) (hx:x∈a₀.toList) (hy:y∈a₀.toList) (h:Q (some (decide (val x < val y))) st) :
  wpS (model prog w) A E s (lt' x y) Q st:=by
 rw [lt'_eq];refine aq (fk ?_);rw [hk];refine aq (gm (cn (hC x y hx hy _ _ ⟨rfl,?_⟩)));exact av h
theorem zP {st:SortSt} {arr:Array Keyed} {i:Nat} {p:Keyed} {Q:Keyed→SortSt→Prop} (hi:arr[i]? = some p) (h:Q p st):wpS (model prog w) A E s (elem' arr i) Q st:=by
 rw [elem'_eq,hi];exact av h
theorem zek {st:SortSt} {i j:Nat} {Q:Option Bool→SortSt→Prop} (hC:Cmp prog w A s κ val a₀) (hB:SB κ a₀ st) (hi:i < a₀.size) (hj:j < a₀.size) (h:Q (some (decide (Vk val (arrOf st) i < Vk val (arrOf st) j))) st) :
  (wpS (model prog w) A E s (ltAt' i j) Q st):=by
 obtain⟨x,ex,mx⟩:=hB.mem hi;obtain⟨y,ey,my⟩:=hB.mem hj;rw [ltAt'_eq];refine aq (fk ?_)
 (show wpS _ _ _ _ (do let x ← elem' (arrOf st) i; let y ← elem' (arrOf st) j; lt' x y) Q st)
 refine aq (zP ex (aq (zP ey (zkI hC hB.kind mx my ?_))));rw [zV ex,zV ey] at h;exact h
theorem zh8 {st:SortSt} {i j:Nat} {Q:Unit→SortSt→Prop} (h:Q () (setArr st (mirror (arrOf st) i j ((j - i) / 2)))) :
  (wpS (model prog w) A E s (reverseSlice' i j) Q st):=by
 ((rw [reverseSlice'_eq]; exact eK h))
theorem zel {xs:Array Keyed} {i j:Nat} (hj:j≤xs.size) (k:Nat):Vk val (mirror xs i j ((j - i) / 2)) k=if i≤k∧k < j then Vk val xs (i+j - 1 - k) else Vk val xs k:=by
 (have e:=jz (i:=i) hj k)
 by_cases h1:i≤k∧k < j
 ·rw [if_pos h1] at e ⊢; exact zan e
 ·rw [if_neg h1] at e ⊢; exact zan e
theorem zbe {xs:Array Keyed} {i j:Nat} (hj:j≤xs.size) (heq:∀ k,i≤k→k < j→Vk val xs k=Vk val xs (j - 1)) (k:Nat):Vk val (mirror xs i j ((j - i) / 2)) k=Vk val xs k:=by
 rw [zel hj];split
 ·(rw [heq _ #[O] #[O],heq k #[O] #[O]])
 ·rfl
theorem zb5 {xs:Array Keyed} {lo i j:Nat} (hj:j≤xs.size) (hi:lo≤i):∀ k,k < lo→(mirror xs i j ((j - i) / 2))[k]? = xs[k]?:=fun k hk=>by
 rw [jz hj,if_neg #[O]]
theorem zho {xs:Array Keyed} {lo src d:Nat} (hs:src < xs.size) (hd:d≤src) (hl:lo≤src - d):∀ k,k < lo→(bubble xs src d)[k]? = xs[k]?:=fun k hk=>by
 rw [getElem?_bubble hs d hd,if_neg #[O],if_neg #[O]]
def zkJ (lo a lZ:Nat):StateT SortSt Sem AscSt :=
 forIn [a:lZ] ((none,a):AscSt) fun _ st=>do
  let x ← ltAt' (lo+st.snd) (lo+st.snd - 1)
  match x with
  | some qL=>if qL=true then pure (fm (none,st.snd)) else pure (cA (none,st.snd+1))
  | _=>pure (fm (some none,st.snd))
def zgr (lo n lZ:Nat):StateT SortSt Sem (Option Nat):=do
 reverseSlice' lo (lo+n)
 let st ← zkJ lo n lZ
 match st.fst with
 | some r=>pure r
 | none=>pure (some st.snd)
def zh9 (lo n lZ:Nat):StateT SortSt Sem DescSt :=
 forIn [n:lZ] ((none,n,0):DescSt) fun _ st=>do
  let x ← ltAt' (lo+st.snd.fst) (lo+st.snd.fst - 1)
  match x with
  | some qL =>
   if qL=true then
    if st.snd.snd > 0 then do
     reverseSlice' (lo+st.snd.fst - (st.snd.snd+1)) (lo+st.snd.fst)
     pure (cA (none,st.snd.fst+1,0))
    else pure (cA (none,st.snd.fst+1,0))
   else do
    let x ← ltAt' (lo+st.snd.fst - 1) (lo+st.snd.fst)
    match x with
    | some xR =>
     if xR=true then pure (fm (none,st.snd.fst,st.snd.snd))
     else pure (cA (none,st.snd.fst+1,st.snd.snd+1))
    | _=>pure (fm (some none,st.snd.fst,st.snd.snd))
  | _=>pure (fm (some none,st.snd.fst,st.snd.snd))
def zgs (lo n lZ:Nat):StateT SortSt Sem (Option Nat):=do
 liftM (rule "list.sort.descending-run"); let st ← zh9 lo (n+1) lZ
 match st.fst with
 | some r=>pure r
 | none =>
  if st.snd.snd > 0 then do
   reverseSlice' (lo+st.snd.fst - (st.snd.snd+1)) (lo+st.snd.fst)
   zgr lo st.snd.fst lZ
  else zgr lo st.snd.fst lZ
theorem zfB (lo lZ:Nat):countRun' lo lZ=(do
  let st ← zkJ lo 1 lZ
  match st.fst with
  | some r=>pure r
  | none =>
   if (st.snd == lZ)=true then pure (some st.snd)
   else if st.snd > 1 then do
    let x ← ltAt' lo (lo+st.snd - 1)
    match x with
    | some Ar=>if Ar=true then pure (some st.snd) else do
      reverseSlice' lo (lo+st.snd)
      zgs lo st.snd lZ
    | _=>pure none
   else zgs lo st.snd lZ):=by
 rw [countRun'_eq];unfold zgs zgr zh9 zkJ;dsimp only;refine congrArg (bind _) ?_;funext c;obtain⟨r,n⟩:=c;cases r with
 | some r=>rfl
 | none =>
  dsimp only;split
  ·rfl
  ·split
   ·congr 1;funext x;cases x with
    | none=>rfl
    | some Ar =>
     dsimp only;split
     ·rfl
     ·congr 1;funext _r;congr 1; funext _u; congr 1; congr 1; funext s2; obtain⟨r2,n2,q2⟩:=s2;cases r2 with
      | some r2=>rfl
      | none =>
       dsimp only;split
       ·congr 1; funext _v; congr 1; funext _w; congr 1; funext s3; obtain⟨r3,n3⟩:=s3; cases r3 <;> rfl
       ·congr 1; funext _w; congr 1; funext s3; obtain⟨r3,n3⟩:=s3; cases r3 <;> rfl
   ·congr 1; funext _u; congr 1; congr 1; funext s2; obtain⟨r2,n2,q2⟩:=s2;cases r2 with
    | some r2=>rfl
    | none =>
     dsimp only;split
     ·congr 1; funext _v; congr 1; funext _w; congr 1; funext s3; obtain⟨r3,n3⟩:=s3; cases r3 <;> rfl
     ·congr 1; funext _w; congr 1; funext s3; obtain⟨r3,n3⟩:=s3; cases r3 <;> rfl
theorem zmG {st₀ st:SortSt} {lo a lZ:Nat} {Q:AscSt→SortSt→Prop} (hC:Cmp prog w A s κ val a₀) (hn:lo+lZ≤a₀.size) (ha:1≤a) (han:a≤lZ) (hB:SF κ a₀ lo st₀ st)
  (hs:SIn val (arrOf st) lo (lo+a))
  (h:∀ n,a≤n→n≤lZ→SIn val (arrOf st) lo (lo+n)→(n=lZ∨Vk val (arrOf st) (lo+n) < Vk val (arrOf st) (lo+n - 1))→Q (none,n) st) :
  wpS (model prog w) A E s (zkJ lo a lZ) Q st:=by
 unfold zkJ;refine cI (I:=fun x c lQ=>lQ=st∧c=(none,x)∧SIn val (arrOf st) lo (lo+x)) ?step ?fin ⟨rfl,rfl,hs⟩
 case fin =>
  rintro c lQ ⟨rfl,rfl,nI⟩
  (rw [show max a lZ=lZ by lia] at nI ⊢)
  (exact h lZ han (ah _) nI (.inl rfl))
 case step =>
  (rintro x c lQ C7 wa ⟨rfl,rfl,nI⟩)
  dsimp only;refine aq (zek hC hB.b #[O] #[O] ?_);by_cases m7:Vk val (arrOf lQ) (lo+x) < Vk val (arrOf lQ) (lo+x - 1)
  ·(simp only [m7,decide_true,if_true])
   (exact av (h x C7 #[O] nI (.inr m7)))
  ·(simp only [m7,decide_false,aT,if_false])
   refine av ⟨rfl,rfl,fun i j rz qw hj=>?_⟩;by_cases As:j < lo+x
   ·exact nI i j rz qw As
   ·have qp:j=lo+x:=by lia
    subst qp;by_cases qe:i=lo+x
    ·(subst qe; exact cq _)
    ·exact bW (nI i (lo+x - 1) rz #[O] #[O]) (Int.not_lt.mp m7)
theorem zkK {st₀ st:SortSt} {lo n lZ:Nat} {Q:Option Nat→SortSt→Prop} (hC:Cmp prog w A s κ val a₀) (hn:lo+lZ≤a₀.size) (h1:1≤n) (wc:n≤lZ) (hB:SF κ a₀ lo st₀ st)
  (hs:DIn val (arrOf st) lo (lo+n)) (h:∀ m lQ,SF κ a₀ lo st₀ lQ→1≤m→m≤lZ→SIn val (arrOf lQ) lo (lo+m)→Q (some m) lQ) :
  wpS (model prog w) A E s (zgr lo n lZ) Q st:=by
 unfold zgr;have hsz:lo+n≤(arrOf st).size:=by rw [hB.b.size]; lia
 refine aq (zh8 ?_);have nR:=hB.setArr (iN (arrOf st) lo (lo+n) ((lo+n - lo) / 2)) (zb5 hsz (ah _));refine aq (zmG hC hn h1 wc nR ?_ fun m w6 uq Au _=>av (h m _ nR #[O] uq Au));intro i j rz qw hj;show Vk val (mirror (arrOf st) lo (lo+n) ((lo+n - lo) / 2)) i≤Vk val (mirror (arrOf st) lo (lo+n) ((lo+n - lo) / 2)) j;rw [zel hsz,zel hsz,if_pos #[O],if_pos #[O]];exact hs _ _ #[O] #[O] #[O]
theorem znt {st₀ st:SortSt} {lo n lZ:Nat} {Q:DescSt→SortSt→Prop} (hC:Cmp prog w A s κ val a₀) (hn:lo+lZ≤a₀.size) (h1:1≤n) (wc:n≤lZ) (hB:SF κ a₀ lo st₀ st)
  (hs:DIn val (arrOf st) lo (lo+n))
  (h:∀ m sh lQ,SF κ a₀ lo st₀ lQ→n≤m→m≤lZ→DIn val (arrOf lQ) lo (lo+m)→sh+1≤m→(∀ i,lo+m - (sh+1)≤i→i < lo+m→Vk val (arrOf lQ) i=Vk val (arrOf lQ) (lo+m - 1))→Q (none,m,sh) lQ) :
  wpS (model prog w) A E s (zh9 lo n lZ) Q st:=by
 unfold zh9;refine cI (I:=fun x c lQ=>∃ sh,c=(none,x,sh)∧SF κ a₀ lo st₀ lQ∧DIn val (arrOf lQ) lo (lo+x)∧sh+1≤x ∧
   (∀ i,lo+x - (sh+1)≤i→i < lo+x→Vk val (arrOf lQ) i=Vk val (arrOf lQ) (lo+x - 1))) ?step ?fin ⟨0,rfl,hB,hs,#[O],fun i h1 h2=>by congr 1; lia⟩
 case fin =>
  (rintro c lQ ⟨sh,rfl,nR,nI,hq,he⟩)
  (rw [show max n lZ=lZ by lia] at nI hq he ⊢)
  (exact h lZ sh lQ nR wc (ah _) nI hq he)
 case step =>
  (rintro x c lQ C7 wa ⟨sh,rfl,nR,nI,hq,he⟩)
  dsimp only;have hsz:lo+x≤(arrOf lQ).size:=by rw [nR.b.size]; lia
  refine aq (zek hC nR.b #[O] #[O] ?_);by_cases m7:Vk val (arrOf lQ) (lo+x) < Vk val (arrOf lQ) (lo+x - 1)
  ·(simp only [m7,decide_true,if_true])
   have step1:∀ xs:Array Keyed,(∀ k,Vk val xs k=Vk val (arrOf lQ) k)→DIn val xs lo (lo+(x+1)):=by
    intro xs hk i j rz qw hj;rw [hk,hk];by_cases As:j < lo+x
    ·exact nI i j rz qw As
    ·have qp:j=lo+x:=by lia
     subst qp;by_cases qe:i=lo+x
     ·(subst qe; exact cq _)
     ·exact bW (eG m7) (nI i (lo+x - 1) rz #[O] #[O])
   by_cases uM:sh > 0
   ·rw [if_pos uM];refine aq (zh8 (av ⟨0,rfl,nR.setArr (iN _ _ _ _) (zb5 hsz #[O]),step1 _ (zbe hsz he),#[O],fun i h1 h2=>by congr 1; lia⟩))
   ·rw [if_neg uM]
    (exact av ⟨0,rfl,nR,step1 _ (fun _=>rfl),#[O],fun i h1 h2=>by congr 1; lia⟩)
  ·(simp only [m7,decide_false,aT,if_false])
   refine aq (zek hC nR.b #[O] #[O] ?_);by_cases sR:Vk val (arrOf lQ) (lo+x - 1) < Vk val (arrOf lQ) (lo+x)
   ·(simp only [sR,decide_true,if_true])
    (exact av (h x sh lQ nR C7 #[O] nI hq he))
   ·(simp only [sR,decide_false,aT,if_false])
    have Av:Vk val (arrOf lQ) (lo+x)=Vk val (arrOf lQ) (lo+x - 1):=by lia
    refine av ⟨sh+1,rfl,nR,fun i j rz qw hj=>?_,#[O],fun i h1 h2=>?_⟩
    ·by_cases As:j < lo+x
     ·exact nI i j rz qw As
     ·have qp:j=lo+x:=by lia
      subst qp;by_cases qe:i=lo+x
      ·(subst qe; exact cq _)
      ·rw [Av]; exact nI i (lo+x - 1) rz #[O] #[O]
    ·rw [show lo+(x+1) - 1=lo+x by lia];by_cases hix:i=lo+x
     ·subst hix; rfl
     ·(rw [Av]; exact he i #[O] #[O])
theorem zia {st₀ st:SortSt} {lo n lZ:Nat} {Q:Option Nat→SortSt→Prop} (hC:Cmp prog w A s κ val a₀) (hn:lo+lZ≤a₀.size) (wc:n+1≤lZ) (hB:SF κ a₀ lo st₀ st)
  (hs:DIn val (arrOf st) lo (lo+(n+1))) (h:∀ m lQ,SF κ a₀ lo st₀ lQ→1≤m→m≤lZ→SIn val (arrOf lQ) lo (lo+m)→Q (some m) lQ) :
  wpS (model prog w) A E s (zgs lo n lZ) Q st:=by
 unfold zgs
 (refine aq (gm (cg ⟨rfl,?_⟩)))
 refine aq (znt hC hn #[O] wc hB hs fun m sh lQ nR w6 uq nI hq he=>?_);dsimp only;have hsz:lo+m≤(arrOf lQ).size:=by rw [nR.b.size]; lia
 by_cases uM:sh > 0
 ·rw [if_pos uM];refine aq (zh8 (zkK hC hn #[O] uq (nR.setArr (iN _ _ _ _) (zb5 hsz #[O])) ?_ h));intro i j rz qw hj;show Vk val (mirror (arrOf lQ) _ _ _) j≤Vk val (mirror (arrOf lQ) _ _ _) i;rw [zbe hsz he,zbe hsz he];exact nI i j rz qw hj
 ·rw [if_neg uM];exact zkK hC hn #[O] uq nR nI h
theorem zlU {st₀ st:SortSt} {lo lZ:Nat} {Q:Option Nat→SortSt→Prop} (hC:Cmp prog w A s κ val a₀) (hn:lo+lZ≤a₀.size) (h1:1≤lZ) (hB:SF κ a₀ lo st₀ st)
  (h:∀ m lQ,SF κ a₀ lo st₀ lQ→1≤m→m≤lZ→SIn val (arrOf lQ) lo (lo+m)→Q (some m) lQ) :
  wpS (model prog w) A E s (countRun' lo lZ) Q st:=by
 rw [zfB];refine aq (zmG hC hn (ah 1) h1 hB (fun i j rz qw hj=>(by
   have e:i=j:=by lia
   rw [e];exact cq _)) fun n vB rQ xS hor=>?_)
 dsimp only;by_cases wc:n=lZ
 ·(rw [if_pos (by simpa using wc)])
  (exact av (h n st hB vB rQ xS))
 ·(rw [if_neg (by simpa using wc)])
  have ml:Vk val (arrOf st) (lo+n) < Vk val (arrOf st) (lo+n - 1):=hor.resolve_left wc;by_cases hgt:n > 1
  ·rw [if_pos hgt];refine aq (zek hC hB.b #[O] #[O] ?_);by_cases w8:Vk val (arrOf st) lo < Vk val (arrOf st) (lo+n - 1)
   ·(simp only [w8,decide_true,if_true])
    (exact av (h n st hB vB rQ xS))
   ·(simp only [w8,decide_false,aT,if_false])
    have hsz:lo+n≤(arrOf st).size:=by rw [hB.b.size]; lia
    have oF:∀ k,lo≤k→k < lo+n→Vk val (arrOf st) k=Vk val (arrOf st) (lo+n - 1):=by
     intro k ur hk;have a1:=xS lo k (ah _) ur hk;have a2:=xS k (lo+n - 1) ur #[O] #[O];lia
    refine aq (zh8 (zia hC hn #[O] (hB.setArr (iN _ _ _ _) (zb5 hsz (ah _))) ?_ h));intro i j rz qw hj;show Vk val (mirror (arrOf st) _ _ _) j≤Vk val (mirror (arrOf st) _ _ _) i;rw [zbe hsz oF,zbe hsz oF];by_cases hjn:j < lo+n
    ·(rw [oF i #[O] #[O],oF j #[O] hjn]; exact cq _)
    ·have qp:j=lo+n:=by lia
     subst qp;by_cases qe:i=lo+n
     ·(subst qe; exact cq _)
     ·(rw [oF i #[O] #[O]]; exact eG ml)
  ·rw [if_neg hgt];have C8:n=1:=by lia
   subst C8;refine zia hC hn #[O] hB ?_ h;intro i j rz qw hj;by_cases qe:i=j
   ·(subst qe; exact cq _)
   ·have hi0:i=lo:=by lia
    have xT:j=lo+1:=by lia
    subst hi0; subst xT;exact eG ml
theorem zgt {xs:Array Keyed} {src d:Nat} (hs:src < xs.size) (hd:d≤src) (k:Nat) :
  Vk val (bubble xs src d) k=if k=src - d then Vk val xs src else if src - d < k∧k≤src then Vk val xs (k - 1) else Vk val xs k:=by
 (have e:=getElem?_bubble hs d hd k)
 by_cases h1:k=src - d
 ·rw [if_pos h1] at e ⊢; exact zan e
 ·rw [if_neg h1] at e ⊢
  (by_cases h2:src - d < k∧k≤src)
  ·rw [if_pos h2] at e ⊢; exact zan e
  ·rw [if_neg h2] at e ⊢; exact zan e
theorem zoe {st₀ st:SortSt} {lo n ok:Nat} {Q:Bool→SortSt→Prop} (hC:Cmp prog w A s κ val a₀) (hn:lo+n≤a₀.size) (hok:ok≤n) (hB:SF κ a₀ lo st₀ st) (hs:SIn val (arrOf st) lo (lo+ok))
  (h:∀ lQ,SF κ a₀ lo st₀ lQ→SIn val (arrOf lQ) lo (lo+n)→Q true lQ):wpS (model prog w) A E s (binarySort' lo n ok) Q st:=by
 rw [binarySort'_eq];refine aq (dv (cI (I:=fun k c lQ=>c=(none,())∧SF κ a₀ lo st₀ lQ∧SIn val (arrOf lQ) lo (lo+min k n))
  (Q:=fun c lQ=>c=(none,())∧SF κ a₀ lo st₀ lQ∧SIn val (arrOf lQ) lo (lo+n)) ?step ?fin ?init) ?post)
 case post =>
  rintro c lQ ⟨rfl,nR,nI⟩
  (exact av (h lQ nR nI))
 case init =>
  refine⟨rfl,hB,fun i j rz qw hj=>?_⟩;by_cases h1:ok=0
  ·have e:i=j:=by lia
   rw [e]; exact cq _
  ·exact hs i j rz qw #[O]
 case fin =>
  rintro c lQ ⟨hc,nR,nI⟩;refine⟨hc,nR,?_⟩
  (rwa [show min (max (max ok 1) n) n=n by lia] at nI)
 case step =>
  (rintro k c lQ hak BN ⟨rfl,nR,nI⟩)
  (rw [show min k n=k by lia] at nI)
  have hk:lo+k < a₀.size:=#[O]; refine aq (dv (cI (I:=fun x c nv=>nv=lQ∧∃ l r,c=(none,l,r)∧l≤r∧r≤k∧r - l≤k - x ∧
    (∀ i,i < l→Vk val (arrOf lQ) (lo+i)≤Vk val (arrOf lQ) (lo+k))∧(∀ i,r≤i→i < k→Vk val (arrOf lQ) (lo+k) < Vk val (arrOf lQ) (lo+i)))
   (Q:=fun c nv=>nv=lQ∧∃ l r,c=(none,l,r)∧l≤k∧(∀ i,i < l→Vk val (arrOf lQ) (lo+i)≤Vk val (arrOf lQ) (lo+k))∧(∀ i,l≤i→i < k→Vk val (arrOf lQ) (lo+k) < Vk val (arrOf lQ) (lo+i))) ?istep ?ifin ?iinit) ?ipost)
  case iinit=>(exact⟨rfl,0,k,rfl,#[O],#[O],#[O],fun i hi=>by lia,fun i h1 h2=>by lia⟩)
  case ifin =>
   (rintro c nv ⟨rfl,l,r,rfl,yE,C9,hm,ph,wd⟩)
   have:l=r:=by lia
   subst this
   (exact⟨rfl,l,l,rfl,C9,ph,wd⟩)
  case istep =>
   (rintro x c nv _ hxk ⟨rfl,l,r,rfl,yE,C9,hm,ph,wd⟩)
   dsimp only;by_cases pF:l≥r
   ·rw [if_pos pF];have:l=r:=by lia
    subst this
    (exact av ⟨rfl,l,l,rfl,C9,ph,wd⟩)
   ·rw [if_neg pF];refine aq (zek hC nR.b hk #[O] ?_);by_cases m7:Vk val (arrOf nv) (lo+k) < Vk val (arrOf nv) (lo+(l+r) / 2)
    ·(simp only [m7,decide_true,if_true])
     (refine av ⟨rfl,l,(l+r) / 2,rfl,#[O],#[O],#[O],ph,fun i h1 h2=>?_⟩)
     exact Int.lt_of_lt_of_le m7 (nI _ _ #[O] #[O] #[O])
    ·(simp only [m7,decide_false,aT,if_false])
     (refine av ⟨rfl,(l+r) / 2+1,r,rfl,#[O],#[O],#[O],fun i h1=>?_,wd⟩)
     exact bW (nI (lo+i) (lo+(l+r) / 2) #[O] #[O] #[O]) (Int.not_lt.mp m7)
  case ipost =>
   (rintro c nv ⟨rfl,l,r,rfl,hlk,ph,wd⟩)
   show wpS _ _ _ _ (do moveDown' (lo+k) (lo+l); pure (cA (none,()))) _ _;rw [moveDown'_eq];have xa:lo+k < (arrOf nv).size:=by rw [nR.b.size]; exact hk
   refine aq (eK (av ⟨rfl,nR.setArr (bubble_perm _ _ _) (zho xa #[O] #[O]),?_⟩))
   (rw [show min (k+1) n=k+1 by lia])
   intro i j rz qw hj;show Vk val (bubble (arrOf nv) (lo+k) (lo+k - (lo+l))) i≤Vk val (bubble (arrOf nv) (lo+k) (lo+k - (lo+l))) j;rw [zgt xa #[O],zgt xa #[O],show lo+k - (lo+k - (lo+l))=lo+l by lia];have xU:∀ i,lo≤i→i < lo+l→Vk val (arrOf nv) i≤Vk val (arrOf nv) (lo+k):=fun i h1 h2=>by
    have:=ph (i - lo) #[O]
    rwa [show lo+(i - lo)=i by lia] at this
   have Dd:∀ i,lo+l≤i→i < lo+k→Vk val (arrOf nv) (lo+k) < Vk val (arrOf nv) i:=fun i h1 h2=>by
    have:=wd (i - lo) #[O] #[O]
    rwa [show lo+(i - lo)=i by lia] at this
   repeat' split
   all_goals first
    | (exfalso; lia)
    | exact cq _
    | exact xU _ #[O] #[O]
    | exact eG (Dd _ #[O] #[O])
    | exact nI _ _ #[O] #[O] #[O]
end
end Srt
end
section
namespace Srt
open PySem PyProof.Rows
def zlV:Bool→Keyed→Array Keyed→Nat→Nat→Nat→StateT SortSt Sem (Option Nat):=sortPriv% PySem.Builtin.gallop
def zkL:Array Keyed→Array Keyed→StateT SortSt Sem (Array Keyed):=sortPriv% PySem.Builtin.mergeLo
def zkM:Array Keyed→Array Keyed→StateT SortSt Sem (Array Keyed):=sortPriv% PySem.Builtin.mergeHi
def zcG:Nat→StateT SortSt Sem Unit:=sortPriv% PySem.Builtin.setMinGallop
theorem zfC {M:Model} {A:Around} {E:Value→Shared→Prop} {s:Shared} {α:Type} {m:StateT SortSt Sem α} {Q:α→SortSt→Prop} {st:SortSt} (h:wpAny M A (m st) (fun r s'=>s'=s∧Q r.1 r.2) E s):wpS M A E s m Q st:=h
theorem zfD {M:Model} {A:Around} {E:Value→Shared→Prop} {s:Shared} {α:Type} {m:StateT SortSt Sem α} {Q:α→SortSt→Prop} {st:SortSt} (h:wpS M A E s m Q st):wpAny M A (m st) (fun r s'=>s'=s∧Q r.1 r.2) E s:=h
section
variable {prog:Program} {w:World} {A:Around} {E:Value→Shared→Prop} {s:Shared} {a₀:Array Keyed} {κ:SortKind} {val:Keyed→Int}
def bB (val:Keyed→Int) (left:Bool) (key:Keyed) (arr:Array Keyed) (base i:Nat):Bool:=if left then decide (Vk val arr (base+i) < val key) else !decide (val key < Vk val arr (base+i))
theorem zc0 {left:Bool} {key:Keyed} {arr:Array Keyed} {base n i j:Nat} (hs:SIn val arr base (base+n)) (qw:i≤j) (hj:j < n) (h:bB val left key arr base j=true):bB val left key arr base i=true:=by
 have:=hs (base+i) (base+j) #[O] #[O] #[O];unfold bB at h ⊢;cases left <;> simp at h ⊢ <;> lia
theorem zck {st:SortSt} {left:Bool} {key:Keyed} {arr:Array Keyed} {base i:Nat} {Q:Option Bool→SortSt→Prop} {p:Keyed} (hC:Cmp prog w A s κ val a₀) (hk:kindOf st=κ) (qf:key∈a₀.toList) (he:arr[base+i]? = some p) (hp:p∈a₀.toList)
  (h:Q (some (bB val left key arr base i)) st):wpS (model prog w) A E s (do
   let x ← elem' arr (base+i)
   if left then lt' x key else do
    let r ← lt' key x
    return r.map (!·)) Q st:=by
 refine aq (zP he ?_);unfold bB at h;rw [zV he] at h;cases left with
 | true=>exact zkI hC hk hp qf h
 | false=>exact aq (zkI hC hk qf hp (av h))
abbrev zlW:=Option (Option Nat)×Nat×Nat
theorem zkN {st:SortSt} {left:Bool} {key:Keyed} {arr:Array Keyed} {base n lo hi:Nat} {f:Nat→zlW→StateT SortSt Sem (ForInStep zlW)} (hs:SIn val arr base (base+n)) (hlh:lo≤hi) (De:hi≤n)
  (h1:∀ i,i < lo→bB val left key arr base i=true) (h2:∀ i,hi≤i→i < n→bB val left key arr base i=false)
  (hf:∀ (x l r:Nat) (R:ForInStep zlW→SortSt→Prop),r≤n→(l≥r→R (.done (none,l,r)) st)→(l < r→R (if bB val left key arr base (l+(r - l) / 2)=true then .yield (none,l+(r - l) / 2+1,r) else .yield (none,l,l+(r - l) / 2)) st)→wpS (model prog w) A E s (f x (none,l,r)) R st) :
  wpS (model prog w) A E s (forIn [0:n] ((none,lo,hi):zlW) f) (fun c lQ=>lQ=st∧∃ l,c=(none,l,l)∧l≤n∧(∀ i,i < l→bB val left key arr base i=true)∧(∀ i,l≤i→i < n→bB val left key arr base i=false)) st:=by
 refine cI (I:=fun x c lQ=>lQ=st∧∃ l r,c=(none,l,r)∧l≤r∧r≤n∧r - l≤n - x∧(∀ i,i < l→bB val left key arr base i=true)∧(∀ i,r≤i→i < n→bB val left key arr base i=false)) ?step ?fin ⟨rfl,lo,hi,rfl,hlh,De,#[O],h1,h2⟩
 case fin =>
  rintro c lQ ⟨rfl,l,r,rfl,yE,uu,hm,a1,a2⟩;have:l=r:=by lia
  subst this;exact⟨rfl,l,rfl,uu,a1,a2⟩
 case step =>
  rintro x c lQ _ wa ⟨rfl,l,r,rfl,yE,uu,hm,a1,a2⟩;refine hf x l r _ uu (fun pF=>?_) (fun ml=>?_)
  ·have:l=r:=by lia
   subst this;exact⟨rfl,l,rfl,uu,a1,a2⟩
  ·cases hb:bB val left key arr base (l+(r - l) / 2) with
   | true =>
    rw [if_pos rfl];exact⟨rfl,l+(r - l) / 2+1,r,rfl,#[O],uu,#[O],fun i hi=>zc0 hs #[O] #[O] hb,a2⟩
   | false =>
    rw [if_neg #[D]];refine⟨rfl,l,l+(r - l) / 2,rfl,#[O],#[O],#[O],a1,fun i hi qt=>?_⟩;cases e:bB val left key arr base i with
    | false=>rfl
    | true=>rw [zc0 hs hi qt e] at hb; cases hb
theorem zbf {st:SortSt} {left:Bool} {key:Keyed} {arr:Array Keyed} {base n hint:Nat} {Q:Option Nat→SortSt→Prop} (hC:Cmp prog w A s κ val a₀) (hk:kindOf st=κ) (qf:key∈a₀.toList)
  (ha:∀ i,i < n→∃ p,arr[base+i]? = some p∧p∈a₀.toList) (hs:SIn val arr base (base+n)) (hh:hint < n)
  (h:∀ k,k≤n→(∀ i,i < k→bB val left key arr base i=true)→(∀ i,k≤i→i < n→bB val left key arr base i=false)→Q (some k) st) :
  wpS (model prog w) A E s (zlV left key arr base n hint) Q st:=by
 refine zfC ?_
 wp_delta
 wp_delta
 refine zfD ?_;dsimp only;obtain⟨p,ep,mp⟩:=ha hint hh;refine aq (zck hC hk qf ep mp ?_);dsimp only;have up:∀ {i j:Nat},i≤j→j < n→bB val left key arr base i=false→bB val left key arr base j=false:=fun {i j} qw hj h=>by
  cases e:bB val left key arr base j with
  | false=>rfl
  | true=>rw [zc0 hs qw hj e] at h; cases h
 cases hr:bB val left key arr base hint with
 | true =>
  simp only [if_true];refine aq (dv (cI (I:=fun x c lQ=>lQ=st∧∃ l o,c=(none,l,o)∧l < o∧x+1≤o∧hint+l < n∧bB val left key arr base (hint+l)=true)
   (Q:=fun c lQ=>lQ=st∧∃ l o,c=(none,l,o)∧l < o∧hint+l < n∧bB val left key arr base (hint+l)=true∧(hint+o < n→bB val left key arr base (hint+o)=false)) ?step ?fin ⟨rfl,0,1,rfl,#[O],#[O],hh,hr⟩) ?post)
  case fin =>
   rintro c lQ ⟨rfl,l,o,rfl,ph,hx,hl,hb⟩;exact⟨rfl,l,o,rfl,ph,hl,hb,fun z=>by lia⟩
  case step =>
   rintro x c lQ _ wa ⟨rfl,l,o,rfl,ph,hx,hl,hb⟩;dsimp only;by_cases pF:o≥n - hint
   ·rw [if_pos pF];exact av ⟨rfl,l,o,rfl,ph,hl,hb,fun z=>by lia⟩
   ·rw [if_neg pF];obtain⟨p,ep,mp⟩:=ha (hint+o) #[O];refine aq (zck hC hk qf ep mp ?_);dsimp only;cases we:bB val left key arr base (hint+o) with
    | true =>
     rw [if_neg #[D]];exact av ⟨rfl,o,2*o+1,rfl,#[O],#[O],#[O],we⟩
    | false =>
     rw [if_pos #[D]];exact av ⟨rfl,l,o,rfl,ph,hl,hb,fun _=>we⟩
  case post =>
   rintro c lQ ⟨rfl,l,o,rfl,ph,hl,hb,we⟩;dsimp only;refine aq (dv (zkN (val:=val) (left:=left) (key:=key) (arr:=arr) (base:=base) hs #[O] #[O] (fun i hi=>zc0 hs #[O] hl hb) (fun i hi qt=>(by
    by_cases ho:hint+o < n
    ·exact up #[O] qt (we ho)
    ·lia)) (fun x l' r' R uu k1 k2=>?_)) ?_)
   ·dsimp only;by_cases pF:l'≥r'
    ·rw [if_pos pF];exact av (k1 pF)
    ·rw [if_neg pF];obtain⟨p,ep,mp⟩:=ha (l'+(r' - l') / 2) #[O];refine aq (zck hC hk qf ep mp ?_);have k3:=k2 #[O];dsimp only;cases Aw:bB val left key arr base (l'+(r' - l') / 2) with
     | true=>rw [Aw] at k3; rw [if_pos rfl] at k3 ⊢; exact av k3
     | false=>rw [Aw] at k3; rw [if_neg #[D]] at k3 ⊢; exact av k3
   ·rintro c nv ⟨rfl,l,rfl,hl,b1,b2⟩;exact av (h l hl b1 b2)
 | false =>
  (simp only [aT,if_false])
  refine aq (dv (cI (I:=fun x c lQ=>lQ=st∧∃ l o,c=(none,l,o)∧l < o∧x+1≤o∧l≤hint∧bB val left key arr base (hint - l)=false)
   (Q:=fun c lQ=>lQ=st∧∃ l o,c=(none,l,o)∧l < o∧l≤hint∧bB val left key arr base (hint - l)=false∧(o≤hint→bB val left key arr base (hint - o)=true)) ?step ?fin ⟨rfl,0,1,rfl,#[O],#[O],#[O],hr⟩) ?post)
  case fin =>
   rintro c lQ ⟨rfl,l,o,rfl,ph,hx,hl,hb⟩;exact⟨rfl,l,o,rfl,ph,hl,hb,fun z=>by lia⟩
  case step =>
   rintro x c lQ _ wa ⟨rfl,l,o,rfl,ph,hx,hl,hb⟩;dsimp only;by_cases pF:o≥hint+1
   ·rw [if_pos pF];exact av ⟨rfl,l,o,rfl,ph,hl,hb,fun z=>by lia⟩
   ·rw [if_neg pF];obtain⟨p,ep,mp⟩:=ha (hint - o) #[O];refine aq (zck hC hk qf ep mp ?_);dsimp only;cases we:bB val left key arr base (hint - o) with
    | false =>
     rw [if_neg #[D]];exact av ⟨rfl,o,2*o+1,rfl,#[O],#[O],#[O],we⟩
    | true =>
     rw [if_pos rfl];exact av ⟨rfl,l,o,rfl,ph,hl,hb,fun _=>we⟩
  case post =>
   rintro c lQ ⟨rfl,l,o,rfl,ph,hl,hb,we⟩;dsimp only;refine aq (dv (zkN (val:=val) (left:=left) (key:=key) (arr:=arr) (base:=base) hs #[O] #[O] (fun i hi=>(by
    by_cases ho:o≤hint
    ·exact zc0 hs #[O] #[O] (we ho)
    ·lia)) (fun i hi qt=>up hi qt hb) (fun x l' r' R uu k1 k2=>?_)) ?_)
   ·dsimp only;by_cases pF:l'≥r'
    ·rw [if_pos pF];exact av (k1 pF)
    ·rw [if_neg pF];obtain⟨p,ep,mp⟩:=ha (l'+(r' - l') / 2) #[O];refine aq (zck hC hk qf ep mp ?_);have k3:=k2 #[O];dsimp only;cases Aw:bB val left key arr base (l'+(r' - l') / 2) with
     | true=>rw [Aw] at k3; rw [if_pos rfl] at k3 ⊢; exact av k3
     | false=>rw [Aw] at k3; rw [if_neg #[D]] at k3 ⊢; exact av k3
   ·rintro c nv ⟨rfl,l,rfl,hl,b1,b2⟩;exact av (h l hl b1 b2)
end
end Srt
end
section
namespace Srt
open PySem PyProof.Rows
abbrev zaq (st:SortSt) (g:Nat):SortSt:=kR (kindOf st) (arrOf st) (pendingOf st) g (failedOf st)
theorem zdl (g:Nat):zcG g=modify fun s=>zaq s g:=rfl
def Le (val:Keyed→Int) (xs ys:List Keyed):Prop:=∀ x∈xs,∀ y∈ys,val x≤val y
def Ris (val:Keyed→Int) (xs:List Keyed):Prop:=xs.Pairwise fun x y=>val x≤val y
theorem zay {val:Keyed→Int} {xs ys:List Keyed}:Ris val (xs++ys)↔Ris val xs∧Ris val ys∧Le val xs ys:=jk
structure MI (val:Keyed→Int) (T o l r:List Keyed):Prop where
 perm:(o++l++r).Perm T
 so:Ris val o
 sl:Ris val l
 sr:Ris val r
 ol:Le val o l
 or':Le val o r
def Good (val:Keyed→Int) (T res:List Keyed):Prop:=res.Perm T∧Ris val res
section
variable {val:Keyed→Int} {T o l l1 l2 r r1 r2:List Keyed}
theorem Le.left {xs ys zs:List Keyed} (h:Le val (xs++ys) zs):Le val xs zs:=fun x hx y hy=>h x (aS _ hx) y hy
theorem Le.right {xs ys zs:List Keyed} (h:Le val (xs++ys) zs):Le val ys zs:=fun x hx y hy=>h x (aI _ hx) y hy
theorem Le.app {xs ys zs:List Keyed} (h1:Le val xs zs) (h2:Le val ys zs):Le val (xs++ys) zs:=fun x hx y hy=>by
 rcases aP.mp hx with h | h
 ·exact h1 x h y hy
 ·exact h2 x h y hy
theorem Le.app' {xs ys zs:List Keyed} (h1:Le val xs ys) (h2:Le val xs zs):Le val xs (ys++zs):=fun x hx y hy=>by
 rcases aP.mp hy with h | h
 ·exact h1 x hx y h
 ·exact h2 x hx y h
theorem Le.sub {xs ys zs:List Keyed} (h1:Le val xs (ys++zs)):Le val xs ys∧Le val xs zs:=⟨fun x hx y hy=>h1 x hx y (aS _ hy),fun x hx y hy=>h1 x hx y (aI _ hy)⟩
theorem MI.takeA (h:MI val T o (l1++l2) r) (hle:Le val l1 r):MI val T (o++l1) l2 r:=by
 obtain⟨a1,a2,a3⟩:=zay.mp h.sl;obtain⟨b1,b2⟩:=h.ol.sub;exact⟨by have:=h.perm; simpa [bq] using this,zay.mpr ⟨h.so,a1,b1⟩,a2,h.sr,b2.app a3,h.or'.app hle⟩
theorem MI.takeB (h:MI val T o l (r1++r2)) (hle:Le val r1 l):MI val T (o++r1) l r2:=by
 obtain⟨a1,a2,a3⟩:=zay.mp h.sr;obtain⟨b1,b2⟩:=h.or'.sub;refine⟨?_,zay.mpr ⟨h.so,a1,b1⟩,h.sl,a2,h.ol.app hle,b2.app a3⟩;refine eW ?_ h.perm;have:(r1++l++r2).Perm (l++r1++r2):=List.perm_append_comm.append_right _;simpa [bq] using this.append_left o
theorem MI.doneA (h:MI val T o l []):Good val T (o++l):=⟨by have:=h.perm; simpa using this,zay.mpr ⟨h.so,h.sl,h.ol⟩⟩
theorem MI.doneB (h:MI val T o [] r):Good val T (o++r):=⟨by have:=h.perm; simpa using this,zay.mpr ⟨h.so,h.sr,h.or'⟩⟩
theorem MI.last (h:MI val T o l r) (hle:Le val r l):Good val T (o++r++l):=by
 refine⟨eW ?_ h.perm,?_⟩
 ·rw [bq,bq];exact List.perm_append_comm.append_left o
 ·exact zay.mpr ⟨zay.mpr ⟨h.so,h.sr,h.or'⟩,h.sl,h.ol.app hle⟩
end
section
variable {val:Keyed→Int} {T:List Keyed} {a b out:Array Keyed} {ia ib:Nat}
abbrev MA (val:Keyed→Int) (T:List Keyed) (a b out:Array Keyed) (ia ib:Nat):Prop:=MI val T out.toList (a.toList.drop ia) (b.toList.drop ib)
theorem zdP {xs:Array Keyed} {i:Nat} {p:Keyed} (h:xs[i]? = some p):xs.toList.drop i=p :: xs.toList.drop (i+1):=by
 have hi:i < xs.toList.length:=by
  have:=(cV.mp h).1;simpa using this
 rw [cB hi];congr 1;have:=(cV.mp h).2;simpa using this
theorem zc1 {xs:Array Keyed} (h:SIn val xs 0 xs.size):∀ i,Ris val (xs.toList.drop i):=by
 have all:Ris val xs.toList:=by
  unfold Ris
  (rw [dL])
  intro i j hi hj qw
  (have qe:i < xs.size:=by simpa using hi)
  (have qp:j < xs.size:=by simpa using hj)
  have:=h i j (bo _) #[O] qp;rw [zV (getElem?_pos xs i qe),zV (getElem?_pos xs j qp)] at this;simpa using this
 exact fun i=>iS (List.drop_sublist _ _) all
theorem zdQ {xs:Array Keyed} {i:Nat} {p q:Keyed} (h:SIn val xs 0 xs.size) (hp:xs[i]? = some p) (hq:q∈xs.toList.drop i):val p≤val q:=by
 have:=zc1 h i;rw [zdP hp] at this hq;rcases (au.mp hq) with rfl | hq
 ·exact cq _
 ·exact List.rel_of_pairwise_cons this hq
theorem MA.pushB {y x:Keyed} (h:MA val T a b out ia ib) (sa:SIn val a 0 a.size) (hy:b[ib]? = some y) (hx:a[ia]? = some x) (hle:val y≤val x):MA val T a b (out.push y) ia (ib+1):=by
 unfold MA at h ⊢;rw [zdP hy] at h;have:=MI.takeB (r1:=[y]) h fun p hp q hq=>by
  rw [aY.mp hp];exact bW hle (zdQ sa hx hq)
 simpa using this
theorem MA.pushA {y x:Keyed} (h:MA val T a b out ia ib) (sb:SIn val b 0 b.size) (hy:b[ib]? = some y) (hx:a[ia]? = some x) (hle:val x≤val y):MA val T a b (out.push x) (ia+1) ib:=by
 unfold MA at h ⊢;rw [zdP hx] at h;have:=MI.takeA (l1:=[x]) h fun p hp q hq=>by
  rw [aY.mp hp];exact bW hle (zdQ sb hy hq)
 simpa using this
theorem zkO (xs:Array Keyed) (i k:Nat):xs.toList.drop i=(xs.extract i (i+k)).toList++xs.toList.drop (i+k):=by
 rw [df];have:(xs.toList.extract i (i+k))=(xs.toList.drop i).take k:=by
  simp [cZ] <;> lia
 rw [this,← iT,ci]
theorem zdR {xs:Array Keyed} {i k:Nat} {p:Keyed} (h:p∈(xs.extract i (i+k)).toList):∃ j,j < k∧xs[i+j]? = some p:=by
 have e0:(xs.extract i (i+k)).toList=(xs.toList.drop i).take k:=by
  rw [df];simp [cZ] <;> lia
 rw [e0] at h
 (obtain⟨j,hj,e⟩:=dW h)
 have rS:j < k∧j < (xs.toList.drop i).length:=by
  rw [aL] at hj;lia
 refine⟨j,rS.1,?_⟩;rw [← bd,← gC,ao rS.2,← e,kd]
theorem MA.takeA {y:Keyed} {k:Nat} (h:MA val T a b out ia ib) (sb:SIn val b 0 b.size) (hy:b[ib]? = some y) (hle:∀ i,i < k→Vk val a (ia+i)≤val y):MA val T a b (out++a.extract ia (ia+k)) (ia+k) ib:=by
 unfold MA at h ⊢;rw [zkO a ia k] at h;have:=MI.takeA h fun p hp q hq=>by
  obtain⟨j,hj,e⟩:=zdR hp;have:=hle j hj;rw [zV e] at this;exact bW this (zdQ sb hy hq)
 simpa using this
theorem MA.takeB {x:Keyed} {k:Nat} (h:MA val T a b out ia ib) (sa:SIn val a 0 a.size) (hx:a[ia]? = some x) (hle:∀ i,i < k→Vk val b (ib+i)≤val x):MA val T a b (out++b.extract ib (ib+k)) ia (ib+k):=by
 unfold MA at h ⊢;rw [zkO b ib k] at h;have:=MI.takeB h fun p hp q hq=>by
  obtain⟨j,hj,e⟩:=zdR hp;have:=hle j hj;rw [zV e] at this;exact bW this (zdQ sa hx hq)
 simpa using this
theorem zcs (xs:Array Keyed) (i:Nat):(xs.extract i xs.size).toList=xs.toList.drop i:=by
 rw [df];simp only [cZ]
 (exact aO #[M])
theorem MA.doneB (h:MA val T a b out ia ib) (e:ib=b.size):Good val T (out++a.extract ia a.size++b.extract ib b.size).toList:=by
 unfold MA at h;rw [show b.toList.drop ib = [] from cr (by simp [e])] at h;have:=h.doneA;rw [bE,bE,zcs,zcs,show b.toList.drop ib = [] from cr (by simp [e]),bI];exact this
theorem MA.doneA (h:MA val T a b out ia ib) (e:ia=a.size):Good val T (out++a.extract ia a.size++b.extract ib b.size).toList:=by
 unfold MA at h;rw [show a.toList.drop ia = [] from cr (by simp [e])] at h;have:=h.doneB;rw [bE,bE,zcs,zcs,show a.toList.drop ia = [] from cr (by simp [e]),bI];exact this
theorem MA.last (h:MA val T a b out ia ib) (e:ia+1=a.size) (hl:∀ i,i < b.size→Vk val b i≤Vk val a (a.size - 1)):Good val T (out++b.extract ib b.size++a.extract ia a.size).toList:=by
 unfold MA at h;have hx:a[ia]? = some (a[ia]'#[O]):=getElem?_pos a ia #[O];have:=h.last fun p hp q hq=>by
  rw [zdP hx,show a.toList.drop (ia+1) = [] from cr (by simp [e])] at hq;rw [aY.mp hq];obtain⟨j,hj,ej⟩:=dW (List.mem_of_mem_drop hp);have qp:j < b.size:=by simpa using hj
  have:=hl j qp;rw [zV (getElem?_pos b j qp),show a.size - 1=ia by lia,zV hx] at this;rw [← ej];simpa using this
 rw [bE,bE,zcs,zcs];exact this
end
end Srt
end
section
namespace Srt
open PySem PyProof.Rows
section
variable {prog:Program} {w:World} {A:Around} {E:Value→Shared→Prop} {s:Shared} {a₀:Array Keyed} {κ:SortKind} {val:Keyed→Int}
theorem zc2 {st:SortSt} {g:Nat} {Q:Unit→SortSt→Prop} (h:Q () (zaq st g)):wpS (model prog w) A E s (zcG g) Q st:=by
 rw [zdl];exact eK h
theorem zav {g:Prop} {xs:Array Keyed} {i:Nat} (h:i < xs.size) (k:∀ p,xs[i]? = some p→p∈xs.toList→g):g:=k _ (getElem?_pos xs i h) #[M]
theorem zb6 {key:Keyed} {arr:Array Keyed} {base i:Nat} (h:bB val true key arr base i=true):Vk val arr (base+i) < val key:=by
 unfold bB at h;simpa using h
theorem zc3 {key:Keyed} {arr:Array Keyed} {base i:Nat} (h:bB val false key arr base i=true):Vk val arr (base+i)≤val key:=by
 unfold bB at h;simp at h;lia
theorem zcL {key:Keyed} {arr:Array Keyed} {base i:Nat} (h:bB val true key arr base i=false):val key≤Vk val arr (base+i):=by
 unfold bB at h;simp at h;lia
theorem zdS {key:Keyed} {arr:Array Keyed} {base i:Nat} (h:bB val false key arr base i=false):val key < Vk val arr (base+i):=by
 unfold bB at h;simp at h;exact h
theorem SIn.sub {xs:Array Keyed} {lo hi lo' qe:Nat} (h:SIn val xs lo hi) (h1:lo≤lo') (h2:qe≤hi):SIn val xs lo' qe:=fun i j a b c=>h i j #[O] b #[O]
theorem zB {σ α:Type} {M:Model} {c:Prop} {inst:Decidable c} {x y:StateT σ Sem α} {Q:α→σ→Prop} {st:σ} (h:c) (k:wpS M A E s x Q st):wpS M A E s (@ite _ c inst x y) Q st:=by rw [if_pos h]; exact k
theorem zC {σ α:Type} {M:Model} {c:Prop} {inst:Decidable c} {x y:StateT σ Sem α} {Q:α→σ→Prop} {st:σ} (h:¬ c) (k:wpS M A E s y Q st):wpS M A E s (@ite _ c inst x y) Q st:=by rw [if_neg h]; exact k
theorem dup {P X:Prop} (h:P→P→X) (k:P):X:=h k k
theorem zoE {P X:Prop} (h:(Unit→P)→(Unit→P)→X) (k:P):X:=h (fun _=>k) (fun _=>k)
theorem fr5 {σ β A1 A2 A3 A4 A5:Type} {M:Model} {lo hi:Nat} {f:Nat→β→StateT σ Sem (ForInStep β)} {Q:β→σ→Prop} {c:β} {st:σ} (sS:A1→A2→A3→A4→A5→β) (uN:A1→A2→A3→A4→A5→σ) (J:Nat→A1→A2→A3→A4→A5→Prop) (start:∃ a1 a2 a3 a4 a5,st=uN a1 a2 a3 a4 a5∧c=sS a1 a2 a3 a4 a5∧J lo a1 a2 a3 a4 a5) (fin:∀ a1 a2 a3 a4 a5,J (max lo hi) a1 a2 a3 a4 a5→Q (sS a1 a2 a3 a4 a5) (uN a1 a2 a3 a4 a5))
  (step:∀ x a1 a2 a3 a4 a5,lo≤x→x < hi→J x a1 a2 a3 a4 a5→wpS M A E s (f x (sS a1 a2 a3 a4 a5)) (fun r lQ=>match r with | .done c'=>Q c' lQ | .yield c'=>∃ a1 a2 a3 a4 a5,lQ=uN a1 a2 a3 a4 a5∧c'=sS a1 a2 a3 a4 a5∧J (x+1) a1 a2 a3 a4 a5) (uN a1 a2 a3 a4 a5)):wpS M A E s (forIn [lo:hi] c f) Q st:=by
 refine cI (I:=fun x c lQ=>∃ a1 a2 a3 a4 a5,lQ=uN a1 a2 a3 a4 a5∧c=sS a1 a2 a3 a4 a5∧J x a1 a2 a3 a4 a5) ?_ ?_ start
 ·rintro x c lQ h1 h2 ⟨a1,a2,a3,a4,a5,rfl,rfl,j⟩;exact step x _ _ _ _ _ h1 h2 j
 ·rintro c lQ ⟨a1,a2,a3,a4,a5,rfl,rfl,j⟩;exact fin _ _ _ _ _ j
theorem fr7 {σ β A1 A2 A3 A4 A5 A6 A7:Type} {M:Model} {lo hi:Nat} {f:Nat→β→StateT σ Sem (ForInStep β)} {Q:β→σ→Prop} {c:β} {st:σ} (sS:A1→A2→A3→A4→A5→A6→A7→β) (uN:A1→A2→A3→A4→A5→A6→A7→σ) (J:Nat→A1→A2→A3→A4→A5→A6→A7→Prop) (start:∃ a1 a2 a3 a4 a5 a6 a7,st=uN a1 a2 a3 a4 a5 a6 a7∧c=sS a1 a2 a3 a4 a5 a6 a7∧J lo a1 a2 a3 a4 a5 a6 a7) (fin:∀ a1 a2 a3 a4 a5 a6 a7,J (max lo hi) a1 a2 a3 a4 a5 a6 a7→Q (sS a1 a2 a3 a4 a5 a6 a7) (uN a1 a2 a3 a4 a5 a6 a7))
  (step:∀ x a1 a2 a3 a4 a5 a6 a7,lo≤x→x < hi→J x a1 a2 a3 a4 a5 a6 a7→wpS M A E s (f x (sS a1 a2 a3 a4 a5 a6 a7)) (fun r lQ=>match r with | .done c'=>Q c' lQ | .yield c'=>∃ a1 a2 a3 a4 a5 a6 a7,lQ=uN a1 a2 a3 a4 a5 a6 a7∧c'=sS a1 a2 a3 a4 a5 a6 a7∧J (x+1) a1 a2 a3 a4 a5 a6 a7) (uN a1 a2 a3 a4 a5 a6 a7)):wpS M A E s (forIn [lo:hi] c f) Q st:=by
 refine cI (I:=fun x c lQ=>∃ a1 a2 a3 a4 a5 a6 a7,lQ=uN a1 a2 a3 a4 a5 a6 a7∧c=sS a1 a2 a3 a4 a5 a6 a7∧J x a1 a2 a3 a4 a5 a6 a7) ?_ ?_ start
 ·rintro x c lQ h1 h2 ⟨a1,a2,a3,a4,a5,a6,a7,rfl,rfl,j⟩;exact step x _ _ _ _ _ _ _ h1 h2 j
 ·rintro c lQ ⟨a1,a2,a3,a4,a5,a6,a7,rfl,rfl,j⟩;exact fin _ _ _ _ _ _ _ j
theorem zmH {σ α γ δ A1 A2 A3 A4 A5:Type} {M:Model} {x:StateT σ Sem (Option γ×δ)} {k:Option γ×δ→StateT σ Sem α} {R:α→σ→Prop} {st:σ} (sS:A1→A2→A3→A4→A5→Option γ×δ) (G:γ→Prop) (J:A1→A2→A3→A4→A5→Prop) (Df:σ) (hx:wpS M A E s x (fun c lQ=>lQ=Df∧((∃ r o,c=(some r,o)∧G r)∨∃ a1 a2 a3 a4 a5,c=sS a1 a2 a3 a4 a5∧J a1 a2 a3 a4 a5)) st) (h1:∀ r o,G r→wpS M A E s (k (some r,o)) R Df) (h:∀ a1 a2 a3 a4 a5,J a1 a2 a3 a4 a5→wpS M A E s (k (sS a1 a2 a3 a4 a5)) R Df):wpS M A E s (x >>= k) R st:=by
 refine aq (dv hx ?_);rintro c lQ ⟨rfl,⟨r,o,rfl,g⟩ | ⟨a1,a2,a3,a4,a5,rfl,j⟩⟩
 ·exact h1 _ _ g
 ·exact h _ _ _ _ _ j
theorem zaX {σ α:Type} {M:Model} {c:Prop} {inst:Decidable c} {x y:StateT σ Sem α} {Q:α→σ→Prop} {st:σ} (h:c→wpS M A E s x Q st) (k:¬ c→wpS M A E s y Q st):wpS M A E s (@ite _ c inst x y) Q st:=by
 by_cases hc:c
 ·rw [if_pos hc]; exact h hc
 ·rw [if_neg hc]; exact k hc
theorem zje {st:SortSt} {a b:Array Keyed} {Q:Array Keyed→SortSt→Prop} (hC:Cmp prog w A s κ val a₀) (hk:kindOf st=κ) (ma:∀ p∈a.toList,p∈a₀.toList) (mb:∀ p∈b.toList,p∈a₀.toList)
  (sa:SIn val a 0 a.size) (sb:SIn val b 0 b.size) (h1:1≤a.size) (h2:1≤b.size) (hf:Vk val b 0≤Vk val a 0) (hl:∀ i,i < b.size→Vk val b i≤Vk val a (a.size - 1))
  (h:∀ out g,Good val (a.toList++b.toList) out.toList→Q out (zaq st g)):wpS (model prog w) A E s (zkL a b) Q st:=by
 refine zfC ?_
 wp_delta
 wp_delta
 refine zfD ?_
 (refine aq (gm (cg ⟨rfl,?_⟩)))
 refine zav (xs:=b) (i:=0) #[O] fun y0 vC Dg=>?_
 refine zav (xs:=a) (i:=0) #[O] fun x0 vD Dh=>?_
 refine aq (zP vC ?_);have I0:MA val (a.toList++b.toList) a b #[] 0 0:=⟨#[M],gQ,zc1 sa 0,zc1 sb 0,fun x hx=>by simp at hx,fun x hx=>by simp at hx⟩;have I1:MA val (a.toList++b.toList) a b #[y0] 0 1:=I0.pushB sa vC vD (by rw [zV vC,zV vD] at hf; exact hf);dsimp only;by_cases uO:1=b.size
 ·refine zB (by simpa using uO) ?_;exact av (h _ (gallopOf st) (I1.doneB uO))
 refine zC (by simpa using uO) ?_;by_cases uv:0+1=a.size
 ·refine zB (by simpa using uv) ?_;exact av (h _ (gallopOf st) (I1.last #[O] hl))
 refine zC (by simpa using uv) ?_;refine aq (fk ?_);refine aq (dv (fr5 (fun g out ia ib mg=>(none,out,ia,ib,mg)) (fun g out ia ib mg=>zaq st g) (fun x g out ia ib mg=>MA val (a.toList++b.toList) a b out ia ib∧ia+1 < a.size∧ib < b.size∧x+1≤ia+ib)
  (Q:=fun c lQ=>∃ g r o,lQ=zaq st g∧c=(some r,o)∧Good val (a.toList++b.toList) r.toList) ⟨gallopOf st,#[y0],0,1,gallopOf st,rfl,rfl,I1,#[O],#[O],#[O]⟩ ?fin ?step) ?post)
 case post =>
  rintro c lQ ⟨g,r,o,rfl,rfl,hG⟩;exact av (h _ g hG)
 case fin =>
  rintro g out ia ib mg ⟨hI,b1,b2,b3⟩;lia
 case step =>
  intro x g out ia ib mg hr0 hx J;have hI:=J.1;have b1:=J.2.1;have b2:=J.2.2.1;have b3:=J.2.2.2;dsimp only;refine zmH (fun l7 m8 mX ac bc=>(none,l7,m8,mX,ac,bc)) (fun r=>Good val (a.toList++b.toList) r.toList) (fun l7 m8 mX ac bc=>MA val (a.toList++b.toList) a b l7 m8 mX∧m8+1 < a.size∧mX < b.size∧ia+ib+1≤m8+mX) (zaq st g) (fr5 (fun l7 m8 mX ac bc=>(none,l7,m8,mX,ac,bc)) (fun l7 m8 mX ac bc=>zaq st g) (fun x l7 m8 mX ac bc=>MA val (a.toList++b.toList) a b l7 m8 mX∧m8+1 < a.size∧mX < b.size∧ia+ib+x≤m8+mX) ⟨out,ia,ib,0,0,rfl,rfl,hI,b1,b2,#[O]⟩ ?fin1 ?step1) (fun r o hG=>av ⟨g,r,_,rfl,rfl,hG⟩) ?post1
  case fin1 =>
   rintro l7 m8 mX ac bc ⟨hI,b1,b2,b3⟩;exact⟨rfl,.inr ⟨l7,m8,mX,ac,bc,rfl,hI,b1,b2,#[O]⟩⟩
  case step1 =>
   intro x1 l7 m8 mX ac bc hr1 yF J;have hI:=J.1;have b1:=J.2.1;have b2:=J.2.2.1;have b3:=J.2.2.2;dsimp only;refine zav (xs:=b) (i:=mX) #[O] fun y ey my=>?_
   refine zav (xs:=a) (i:=m8) #[O] fun z ez mz=>?_
   refine aq (zP ey (aq (zP ez (aq (zkI hC hk (mb y my) (ma z mz) ?_)))));dsimp only;by_cases Ax:val y < val z
   ·refine zB (by simpa using Ax) ?_;refine aq (zP ey ?_);have o7:=hI.pushB sa ey ez #[O];by_cases e1:mX+1=b.size
    ·refine zB (by simpa using e1) ?_;exact av ⟨rfl,.inl ⟨_,_,rfl,o7.doneB e1⟩⟩
    refine zC (by simpa using e1) ?_;refine zaX (fun _=>?_) (fun _=>?_)
    ·exact av ⟨rfl,.inr ⟨_,_,_,_,_,rfl,o7,b1,#[O],#[O]⟩⟩
    ·exact av ⟨_,_,_,_,_,rfl,rfl,o7,b1,#[O],#[O]⟩
   ·refine zC (by simpa using Ax) ?_;refine aq (zP ez ?_);have o7:=hI.pushA sb ey ez #[O];by_cases e1:m8+1+1=a.size
    ·refine zB (by simpa using e1) ?_;exact av ⟨rfl,.inl ⟨_,_,rfl,o7.last e1 hl⟩⟩
    refine zC (by simpa using e1) ?_;refine zaX (fun _=>?_) (fun _=>?_)
    ·exact av ⟨rfl,.inr ⟨_,_,_,_,_,rfl,o7,#[O],b2,#[O]⟩⟩
    ·exact av ⟨_,_,_,_,_,rfl,rfl,o7,#[O],b2,#[O]⟩
  case post1 =>
   intro xV Di Dj Dk Dl J;have Dm:=J.1;have c1:=J.2.1;have c2:=J.2.2.1;have c3:=J.2.2.2;dsimp only
   (refine aq (gm (cg ⟨rfl,?_⟩)))
   refine aq (dv (fr7 (fun g l7 m8 mX mg ac bc=>(none,l7,m8,mX,mg,ac,bc)) (fun g l7 m8 mX mg ac bc=>zaq st g) (fun x g l7 m8 mX mg ac bc=>MA val (a.toList++b.toList) a b l7 m8 mX∧m8+1 < a.size∧mX < b.size∧Di+Dj≤m8+mX)
    (Q:=fun c lQ=>∃ g,lQ=zaq st g∧((∃ r o,c=(some r,o)∧Good val (a.toList++b.toList) r.toList)∨∃ l7 m8 mX mg ac bc,c=(none,l7,m8,mX,mg,ac,bc)∧MA val (a.toList++b.toList) a b l7 m8 mX∧m8+1 < a.size∧mX < b.size∧Di+Dj≤m8+mX)) ⟨g,xV,Di,Dj,_,Dk,Dl,rfl,rfl,Dm,c1,c2,ah _⟩ ?fin2 ?step2) ?post2)
   case fin2 =>
    rintro g l7 m8 mX mg ac bc ⟨hI,b1,b2,b3⟩;exact⟨g,rfl,.inr ⟨l7,m8,mX,mg,ac,bc,rfl,hI,b1,b2,b3⟩⟩
   case post2 =>
    rintro c lQ ⟨g,rfl,hc⟩;rcases hc with ⟨r,o,rfl,hG⟩ | ⟨xW,ia2,ib2,mg2,ac2,bc2,rfl,o7,d1,d2,d3⟩
    ·exact av ⟨g,r,_,rfl,rfl,hG⟩
    dsimp only;refine aq (zc2 (av ⟨_,xW,ia2,ib2,_,rfl,rfl,o7,d1,d2,#[O]⟩))
   case step2 =>
    intro x2 g l7 m8 mX xX ac bc vE xb J;have hI:=J.1;have b1:=J.2.1;have b2:=J.2.2.1;have b3:=J.2.2.2;dsimp only;refine zav (xs:=b) (i:=mX) #[O] fun y ey my=>?_
    apply dup
    ·intro k1 k2;by_cases sX:xX > 1
     ·refine zB sX ?_;clear sX;generalize xX - 1=m0
      revert m0
      exact k1
     ·refine zC sX ?_;clear sX;generalize xX=m0
      revert m0
      exact k2
    intro mg0;refine aq (zc2 (aq (zP ey (aq (zbf hC hk (mb y my) (fun i hi=>(by
     refine zav (xs:=a) (i:=m8+i) #[O] fun p ep mp=>?_
     exact⟨p,ep,ma p mp⟩)) (sa.sub #[O] #[O]) #[O] fun k BO rh xf=>?_)))))
    dsimp only;have o7:=hI.takeA (k:=k) sb ey fun i hi=>zc3 (rh i hi)
    by_cases ur:k > 0
    ·refine zB ur ?_;by_cases e1:m8+k+1=a.size
     ·refine zB (by simpa using e1) ?_;exact av ⟨_,rfl,.inl ⟨_,_,rfl,o7.last e1 hl⟩⟩
     refine zC (by simpa using e1) ?_;by_cases e2:m8+k=a.size
     ·refine zB (by simpa using e2) ?_;exact av ⟨_,rfl,.inl ⟨_,_,rfl,o7.doneA e2⟩⟩
     refine zC (by simpa using e2) ?_;refine aq (zP ey ?_);refine zav (xs:=a) (i:=m8+k) #[O] fun z ez mz=>?_
     have si:=o7.pushB sa ey ez (by have:=zdS (xf k (ah _) #[O]); rw [zV ez] at this; lia);by_cases e3:mX+1=b.size
     ·refine zB (by simpa using e3) ?_;exact av ⟨_,rfl,.inl ⟨_,_,rfl,si.doneB e3⟩⟩
     refine zC (by simpa using e3) ?_;refine aq (zP ez (aq (zbf hC hk (ma z mz) (fun i hi=>(by
      refine zav (xs:=b) (i:=mX+1+i) #[O] fun p ep mp=>?_
      exact⟨p,ep,mb p mp⟩)) (sb.sub #[O] #[O]) #[O] fun j xT rS wg=>?_)))
     dsimp only;have tz:=si.takeB (k:=j) sa ez fun i hi=>eG (zb6 (rS i hi))
     by_cases tD:j > 0
     ·refine zB tD ?_;by_cases e4:mX+1+j=b.size
      ·refine zB (by simpa using e4) ?_;exact av ⟨_,rfl,.inl ⟨_,_,rfl,tz.doneB e4⟩⟩
      refine zC (by simpa using e4) ?_;refine zav (xs:=b) (i:=mX+1+j) #[O] fun y2 pG xY=>?_
      refine aq (zP ez ?_);have nS:=tz.pushA sb pG ez (by have:=zcL (wg j (ah _) #[O]); rw [zV pG] at this; exact this);by_cases e9:m8+k+1+1=a.size
      ·refine zB (by simpa using e9) ?_;exact av ⟨_,rfl,.inl ⟨_,_,rfl,nS.last e9 hl⟩⟩
      refine zC (by simpa using e9) ?_;refine zaX (fun _=>?_) (fun _=>?_)
      ·exact av ⟨_,rfl,.inr ⟨_,_,_,_,_,_,rfl,nS,#[O],#[O],#[O]⟩⟩
      ·exact av ⟨_,_,_,_,_,_,_,rfl,rfl,nS,#[O],#[O],#[O]⟩
     ·refine zC tD ?_;have xZ:j=0:=by lia
      subst xZ;refine zav (xs:=b) (i:=mX+1) #[O] fun y2 pG xY=>?_
      refine aq (zP ez ?_);have nS:=si.pushA sb pG ez (by have:=zcL (wg 0 (ah _) #[O]); rw [fh,zV pG] at this; exact this);by_cases e9:m8+k+1+1=a.size
      ·refine zB (by simpa using e9) ?_;exact av ⟨_,rfl,.inl ⟨_,_,rfl,nS.last e9 hl⟩⟩
      refine zC (by simpa using e9) ?_;refine zaX (fun _=>?_) (fun _=>?_)
      ·exact av ⟨_,rfl,.inr ⟨_,_,_,_,_,_,rfl,nS,#[O],#[O],#[O]⟩⟩
      ·exact av ⟨_,_,_,_,_,_,_,rfl,rfl,nS,#[O],#[O],#[O]⟩
    ·refine zC ur ?_;have Dq:k=0:=by lia
     subst Dq;refine aq (zP ey ?_);refine zav (xs:=a) (i:=m8) #[O] fun z ez mz=>?_
     have si:=hI.pushB sa ey ez (by have:=zdS (xf 0 (ah _) #[O]); rw [fh,zV ez] at this; lia);by_cases e3:mX+1=b.size
     ·refine zB (by simpa using e3) ?_;exact av ⟨_,rfl,.inl ⟨_,_,rfl,si.doneB e3⟩⟩
     refine zC (by simpa using e3) ?_;refine aq (zP ez (aq (zbf hC hk (ma z mz) (fun i hi=>(by
      refine zav (xs:=b) (i:=mX+1+i) #[O] fun p ep mp=>?_
      exact⟨p,ep,mb p mp⟩)) (sb.sub #[O] #[O]) #[O] fun j xT rS wg=>?_)))
     dsimp only;have tz:=si.takeB (k:=j) sa ez fun i hi=>eG (zb6 (rS i hi))
     by_cases tD:j > 0
     ·refine zB tD ?_;by_cases e4:mX+1+j=b.size
      ·refine zB (by simpa using e4) ?_;exact av ⟨_,rfl,.inl ⟨_,_,rfl,tz.doneB e4⟩⟩
      refine zC (by simpa using e4) ?_;refine zav (xs:=b) (i:=mX+1+j) #[O] fun y2 pG xY=>?_
      refine aq (zP ez ?_);have nS:=tz.pushA sb pG ez (by have:=zcL (wg j (ah _) #[O]); rw [zV pG] at this; exact this);by_cases e9:m8+1+1=a.size
      ·refine zB (by simpa using e9) ?_;exact av ⟨_,rfl,.inl ⟨_,_,rfl,nS.last e9 hl⟩⟩
      refine zC (by simpa using e9) ?_;refine zaX (fun _=>?_) (fun _=>?_)
      ·exact av ⟨_,rfl,.inr ⟨_,_,_,_,_,_,rfl,nS,#[O],#[O],#[O]⟩⟩
      ·exact av ⟨_,_,_,_,_,_,_,rfl,rfl,nS,#[O],#[O],#[O]⟩
     ·refine zC tD ?_;have xZ:j=0:=by lia
      subst xZ;refine zav (xs:=b) (i:=mX+1) #[O] fun y2 pG xY=>?_
      refine aq (zP ez ?_);have nS:=si.pushA sb pG ez (by have:=zcL (wg 0 (ah _) #[O]); rw [fh,zV pG] at this; exact this);by_cases e9:m8+1+1=a.size
      ·refine zB (by simpa using e9) ?_;exact av ⟨_,rfl,.inl ⟨_,_,rfl,nS.last e9 hl⟩⟩
      refine zC (by simpa using e9) ?_;refine zaX (fun _=>?_) (fun _=>?_)
      ·exact av ⟨_,rfl,.inr ⟨_,_,_,_,_,_,rfl,nS,#[O],#[O],#[O]⟩⟩
      ·exact av ⟨_,_,_,_,_,_,_,rfl,rfl,nS,#[O],#[O],#[O]⟩
end
end Srt
end
section
namespace Srt
open PySem PyProof.Rows
structure MH (val:Keyed→Int) (T l r o:List Keyed):Prop where
 perm:(l++r++o).Perm T
 so:Ris val o
 sl:Ris val l
 sr:Ris val r
 lo:Le val l o
 ro:Le val r o
section
variable {val:Keyed→Int} {T o l l1 l2 r r1 r2:List Keyed}
theorem MH.takeA (h:MH val T (l1++l2) r o) (hle:Le val r l2):MH val T l1 r (l2++o):=by
 obtain⟨a1,a2,a3⟩:=zay.mp h.sl;refine⟨?_,zay.mpr ⟨a2,h.so,h.lo.right⟩,a1,h.sr,a3.app' h.lo.left,hle.app' h.ro⟩;refine eW ?_ h.perm;have:(r++l2).Perm (l2++r):=List.perm_append_comm;have:=(this.append_left l1).append_right o;simpa [bq] using this
theorem MH.takeB (h:MH val T l (r1++r2) o) (hle:Le val l r2):MH val T l r1 (r2++o):=by
 obtain⟨a1,a2,a3⟩:=zay.mp h.sr;exact⟨by have:=h.perm; simpa [bq] using this,zay.mpr ⟨a2,h.so,h.ro.right⟩,h.sl,a1,hle.app' h.lo,a3.app' h.ro.left⟩
theorem MH.doneA (h:MH val T [] r o):Good val T (r++o):=⟨by have:=h.perm; simpa using this,zay.mpr ⟨h.sr,h.so,h.ro⟩⟩
theorem MH.doneB (h:MH val T l [] o):Good val T (l++o):=⟨by have:=h.perm; simpa using this,zay.mpr ⟨h.sl,h.so,h.lo⟩⟩
theorem MH.first (h:MH val T l r o) (hle:Le val r l):Good val T (r++l++o):=by
 refine⟨eW (List.perm_append_comm.append_right _) h.perm,?_⟩;exact zay.mpr ⟨zay.mpr ⟨h.sr,h.sl,hle⟩,h.so,h.ro.app h.lo⟩
end
section
variable {val:Keyed→Int} {T:List Keyed} {a b out:Array Keyed} {na nb:Nat}
abbrev MB (val:Keyed→Int) (T:List Keyed) (a b out:Array Keyed) (na nb:Nat):Prop:=MH val T (a.toList.take na) (b.toList.take nb) out.toList.reverse
theorem zib {xs:Array Keyed} {n:Nat} {p:Keyed} (h:xs[n]? = some p):xs.toList.take (n+1)=xs.toList.take n++[p]:=by
 rw [List.take_succ,bd,h];rfl
theorem zgu {xs:Array Keyed} (h:SIn val xs 0 xs.size) (i:Nat):Ris val (xs.toList.take i):=by
 have:=zc1 h 0;rw [gn] at this;exact iS (cf _ _) this
theorem zem {xs:Array Keyed} {n:Nat} {p:Keyed} (h:p∈xs.toList.take n):∃ j,j < n∧j < xs.size∧xs[j]? = some p:=by
 (obtain⟨j,hj,e⟩:=dW h)
 have rS:j < n∧j < xs.toList.length:=by
  rw [aL] at hj;lia
 refine⟨j,rS.1,by simpa using rS.2,?_⟩;rw [← bd,ao rS.2,← e,kd]
theorem zdT {xs:Array Keyed} {n:Nat} {p q:Keyed} (h:SIn val xs 0 xs.size) (hp:xs[n]? = some p) (hq:q∈xs.toList.take (n+1)):val q≤val p:=by
 obtain⟨j,hj,vV,e⟩:=zem hq;have hn:=(cV.mp hp).1;have:=h j n (bo _) #[O] hn;rw [zV e,zV hp] at this;exact this
theorem MB.pushA {y x:Keyed} (h:MB val T a b out (na+1) nb) (sb:SIn val b 0 b.size) (hn:1≤nb) (hy:b[nb - 1]? = some y) (hx:a[na]? = some x) (hle:val y≤val x):MB val T a b (out.push x) na nb:=by
 unfold MB at h ⊢;rw [zib hx] at h;have:=MH.takeA h fun p hp q hq=>by
  rw [aY.mp hq];exact bW (zdT sb hy (by rw [show nb - 1+1=nb by lia]; exact hp)) hle
 simpa using this
theorem MB.pushB {y x:Keyed} (h:MB val T a b out na (nb+1)) (sa:SIn val a 0 a.size) (hn:1≤na) (hy:b[nb]? = some y) (hx:a[na - 1]? = some x) (hle:val x≤val y):MB val T a b (out.push y) na nb:=by
 unfold MB at h ⊢;rw [zib hy] at h;have:=MH.takeB h fun p hp q hq=>by
  rw [aY.mp hq];exact bW (zdT sa hx (by rw [show na - 1+1=na by lia]; exact hp)) hle
 simpa using this
theorem zic (xs:Array Keyed) {i n:Nat} (h:i≤n):xs.toList.take n=xs.toList.take i++(xs.extract i n).toList:=by
 rw [df];simp only [cZ];rw [← ci i (xs.toList.take n),k9,fX h,List.drop_take]
theorem MB.takeA {y:Keyed} {at':Nat} (h:MB val T a b out na nb) (sb:SIn val b 0 b.size) (nN:at'≤na) (hn:1≤nb) (hy:b[nb - 1]? = some y) (hle:∀ i,at'≤i→i < na→val y≤Vk val a i):MB val T a b (out++(a.extract at' na).reverse) at' nb:=by
 unfold MB at h ⊢;rw [zic a nN] at h;have:=MH.takeA h fun p hp q hq=>by
  have nH:q∈(a.extract at' (at'+(na - at'))).toList:=by rw [show at'+(na - at')=na by lia]; exact hq
  obtain⟨j,hj,e⟩:=zdR nH;have:=hle (at'+j) #[O] #[O];rw [zV e] at this;exact bW (zdT sb hy (by rw [show nb - 1+1=nb by lia]; exact hp)) this
 simpa using this
theorem MB.takeB {x:Keyed} {at':Nat} (h:MB val T a b out na nb) (sa:SIn val a 0 a.size) (nN:at'≤nb) (hn:1≤na) (hx:a[na - 1]? = some x) (hle:∀ i,at'≤i→i < nb→val x≤Vk val b i):MB val T a b (out++(b.extract at' nb).reverse) na at':=by
 unfold MB at h ⊢;rw [zic b nN] at h;have:=MH.takeB h fun p hp q hq=>by
  have nH:q∈(b.extract at' (at'+(nb - at'))).toList:=by rw [show at'+(nb - at')=nb by lia]; exact hq
  obtain⟨j,hj,e⟩:=zdR nH;have:=hle (at'+j) #[O] #[O];rw [zV e] at this;exact bW (zdT sa hx (by rw [show na - 1+1=na by lia]; exact hp)) this
 simpa using this
theorem zbR (xs:Array Keyed) (n:Nat):(xs.extract 0 n).toList=xs.toList.take n:=by
 rw [df];simp [cZ]
theorem MB.doneA (h:MB val T a b out na nb) (e:na=0):Good val T (a.extract 0 na++b.extract 0 nb++out.reverse).toList:=by
 unfold MB at h;subst e;have:=MH.doneA h;rw [bE,bE,zbR,zbR,dP,eV,fY];exact this
theorem MB.doneB (h:MB val T a b out na nb) (e:nb=0):Good val T (a.extract 0 na++b.extract 0 nb++out.reverse).toList:=by
 unfold MB at h;subst e;have:=MH.doneB h;rw [bE,bE,zbR,zbR,dP,bI,fY];exact this
theorem MB.first (h:MB val T a b out na nb) (e:nb=1) (sa:SIn val a 0 a.size) (h2:1≤b.size) (hf:Vk val b 0≤Vk val a 0):Good val T (b.extract 0 nb++a.extract 0 na++out.reverse).toList:=by
 unfold MB at h;subst e;have:=MH.first h fun p hp q hq=>by
  obtain⟨j,hj,vV,ej⟩:=zem hp;have tD:j=0:=by lia
  subst tD;obtain⟨i,hi,his,ei⟩:=zem hq;have:=sa 0 i (bo _) (bo _) his;rw [zV ei] at this;rw [zV ej] at hf;lia
 rw [bE,bE,zbR,zbR,fY];exact this
end
section
variable {prog:Program} {w:World} {A:Around} {E:Value→Shared→Prop} {s:Shared} {a₀:Array Keyed} {κ:SortKind} {val:Keyed→Int}
theorem zjf {st:SortSt} {a b:Array Keyed} {Q:Array Keyed→SortSt→Prop} (hC:Cmp prog w A s κ val a₀) (hk:kindOf st=κ) (ma:∀ p∈a.toList,p∈a₀.toList) (mb:∀ p∈b.toList,p∈a₀.toList)
  (sa:SIn val a 0 a.size) (sb:SIn val b 0 b.size) (h1:1≤a.size) (h2:1≤b.size) (hf:Vk val b 0≤Vk val a 0) (hl:∀ i,i < b.size→Vk val b i≤Vk val a (a.size - 1))
  (h:∀ out g,Good val (a.toList++b.toList) out.toList→Q out (zaq st g)):wpS (model prog w) A E s (zkM a b) Q st:=by
 refine zfC ?_
 wp_delta
 wp_delta
 refine zfD ?_
 (refine aq (gm (cg ⟨rfl,?_⟩)))
 refine zav (xs:=a) (i:=a.size - 1) #[O] fun x0 vD Dh=>?_
 refine zav (xs:=b) (i:=b.size - 1) #[O] fun y0 vC Dg=>?_
 refine aq (zP vD ?_);have I0:MB val (a.toList++b.toList) a b #[] (a.size - 1+1) b.size:=by
  refine⟨?_,gQ,zgu sa _,zgu sb _,fun x _ y hy=>by simp at hy,fun x _ y hy=>by simp at hy⟩;rw [show a.size - 1+1=a.size by lia,aO #[M],aO #[M]];simp
 have I1:MB val (a.toList++b.toList) a b #[x0] (a.size - 1) b.size:=I0.pushA sb h2 vC vD (by have:=hl (b.size - 1) #[O]; rw [zV vC,zV vD] at this; exact this);dsimp only;by_cases uv:a.size - 1=0
 ·refine zB (by simpa using uv) ?_;exact av (h _ (gallopOf st) (I1.doneA uv))
 refine zC (by simpa using uv) ?_;by_cases uO:b.size=1
 ·refine zB (by simpa using uO) ?_;exact av (h _ (gallopOf st) (I1.first uO sa h2 hf))
 refine zC (by simpa using uO) ?_;refine aq (fk ?_);refine aq (dv (fr5 (fun g out na nb mg=>(none,na,nb,out,mg)) (fun g out na nb mg=>zaq st g) (fun x g out na nb mg=>MB val (a.toList++b.toList) a b out na nb∧1≤na∧2≤nb∧na≤a.size∧nb≤b.size∧x+na+nb+1≤a.size+b.size)
  (Q:=fun c lQ=>∃ g r o,lQ=zaq st g∧c=(some r,o)∧Good val (a.toList++b.toList) r.toList) ⟨gallopOf st,#[x0],a.size - 1,b.size,gallopOf st,rfl,rfl,I1,#[O],#[O],#[O],#[O],#[O]⟩ ?fin ?step) ?post)
 case post =>
  rintro c lQ ⟨g,r,o,rfl,rfl,hG⟩;exact av (h _ g hG)
 case fin =>
  rintro g out na nb mg ⟨hI,b1,b2,b3⟩;lia
 case step =>
  intro x g out na nb mg hr0 hx J;have hI:=J.1;have b1:=J.2.1;have b2:=J.2.2.1;have b4:=J.2.2.2.1;have b5:=J.2.2.2.2.1;have b3:=J.2.2.2.2.2;dsimp only;refine zmH (fun l7 nk nr ac bc=>(none,nk,nr,l7,ac,bc)) (fun r=>Good val (a.toList++b.toList) r.toList) (fun l7 nk nr ac bc=>MB val (a.toList++b.toList) a b l7 nk nr∧1≤nk∧2≤nr∧nk≤a.size∧nr≤b.size∧1+nk+nr≤na+nb) (zaq st g) (fr5 (fun l7 nk nr ac bc=>(none,nk,nr,l7,ac,bc)) (fun l7 nk nr ac bc=>zaq st g) (fun x l7 nk nr ac bc=>MB val (a.toList++b.toList) a b l7 nk nr∧1≤nk∧2≤nr∧nk≤a.size∧nr≤b.size∧x+nk+nr≤na+nb) ⟨out,na,nb,0,0,rfl,rfl,hI,b1,b2,b4,b5,#[O]⟩ ?fin1 ?step1) (fun r o hG=>av ⟨g,r,_,rfl,rfl,hG⟩) ?post1
  case fin1 =>
   rintro l7 nk nr ac bc ⟨hI,b1,b2,b4,b5,b3⟩;exact⟨rfl,.inr ⟨l7,nk,nr,ac,bc,rfl,hI,b1,b2,b4,b5,#[O]⟩⟩
  case step1 =>
   intro x1 l7 nk nr ac bc hr1 yF J;have hI:=J.1;have b1:=J.2.1;have b2:=J.2.2.1;have b4:=J.2.2.2.1;have b5:=J.2.2.2.2.1;have b3:=J.2.2.2.2.2;dsimp only;obtain⟨n1,rfl⟩:∃ n1,nk=n1+1:=⟨nk - 1,#[O]⟩;obtain⟨m1,rfl⟩:∃ m1,nr=m1+1:=⟨nr - 1,#[O]⟩;simp only [cJ];refine zav (xs:=b) (i:=m1) #[O] fun y ey my=>?_
   refine zav (xs:=a) (i:=n1) #[O] fun z ez mz=>?_
   refine aq (zP ey (aq (zP ez (aq (zkI hC hk (mb y my) (ma z mz) ?_)))));dsimp only;by_cases Ax:val y < val z
   ·refine zB (by simpa using Ax) ?_;refine aq (zP ez ?_);have o7:=hI.pushA sb #[O] ey ez #[O];by_cases e1:n1=0
    ·refine zB (by simpa using e1) ?_;exact av ⟨rfl,.inl ⟨_,_,rfl,o7.doneA e1⟩⟩
    refine zC (by simpa using e1) ?_;refine zaX (fun _=>?_) (fun _=>?_)
    ·exact av ⟨rfl,.inr ⟨_,_,_,_,_,rfl,o7,#[O],#[O],#[O],#[O],#[O]⟩⟩
    ·exact av ⟨_,_,_,_,_,rfl,rfl,o7,#[O],#[O],#[O],#[O],#[O]⟩
   ·refine zC (by simpa using Ax) ?_;refine aq (zP ey ?_);have o7:=hI.pushB sa #[O] ey ez #[O];by_cases e1:m1=1
    ·refine zB (by simpa using e1) ?_;exact av ⟨rfl,.inl ⟨_,_,rfl,o7.first e1 sa h2 hf⟩⟩
    refine zC (by simpa using e1) ?_;refine zaX (fun _=>?_) (fun _=>?_)
    ·exact av ⟨rfl,.inr ⟨_,_,_,_,_,rfl,o7,#[O],#[O],#[O],#[O],#[O]⟩⟩
    ·exact av ⟨_,_,_,_,_,rfl,rfl,o7,#[O],#[O],#[O],#[O],#[O]⟩
  case post1 =>
   intro xV Dr Ds Dk Dl J;have Dm:=J.1;have c1:=J.2.1;have c2:=J.2.2.1;have c4:=J.2.2.2.1;have c5:=J.2.2.2.2.1;have c3:=J.2.2.2.2.2;dsimp only
   (refine aq (gm (cg ⟨rfl,?_⟩)))
   refine aq (dv (fr7 (fun g l7 nk nr mg ac bc=>(none,nk,nr,l7,mg,ac,bc)) (fun g l7 nk nr mg ac bc=>zaq st g) (fun x g l7 nk nr mg ac bc=>MB val (a.toList++b.toList) a b l7 nk nr∧1≤nk∧2≤nr∧nk≤a.size∧nr≤b.size∧nk+nr≤Dr+Ds)
    (Q:=fun c lQ=>∃ g,lQ=zaq st g∧((∃ r o,c=(some r,o)∧Good val (a.toList++b.toList) r.toList)∨∃ l7 nk nr mg ac bc,c=(none,nk,nr,l7,mg,ac,bc)∧MB val (a.toList++b.toList) a b l7 nk nr∧1≤nk∧2≤nr∧nk≤a.size∧nr≤b.size∧nk+nr≤Dr+Ds)) ⟨g,xV,Dr,Ds,_,Dk,Dl,rfl,rfl,Dm,c1,c2,c4,c5,ah _⟩ ?fin2 ?step2) ?post2)
   case fin2 =>
    rintro g l7 nk nr mg ac bc ⟨hI,b1,b2,b4,b5,b3⟩;exact⟨g,rfl,.inr ⟨l7,nk,nr,mg,ac,bc,rfl,hI,b1,b2,b4,b5,b3⟩⟩
   case post2 =>
    rintro c lQ ⟨g,rfl,hc⟩;rcases hc with ⟨r,o,rfl,hG⟩ | ⟨xW,na2,nb2,mg2,ac2,bc2,rfl,o7,d1,d2,d4,d5,d3⟩
    ·exact av ⟨g,r,_,rfl,rfl,hG⟩
    dsimp only;refine aq (zc2 (av ⟨_,xW,na2,nb2,_,rfl,rfl,o7,d1,d2,d4,d5,#[O]⟩))
   case step2 =>
    intro x2 g l7 nk nr xX ac bc vE xb J;have hI:=J.1;have b1:=J.2.1;have b2:=J.2.2.1;have b4:=J.2.2.2.1;have b5:=J.2.2.2.2.1;have b3:=J.2.2.2.2.2;dsimp only;obtain⟨m1,rfl⟩:∃ m1,nr=m1+1:=⟨nr - 1,#[O]⟩;simp only [cJ];refine zav (xs:=b) (i:=m1) #[O] fun y ey my=>?_
    apply dup
    ·intro k1 k2;by_cases sX:xX > 1
     ·refine zB sX ?_;clear sX;generalize xX - 1=m0
      revert m0
      exact k1
     ·refine zC sX ?_;clear sX;generalize xX=m0
      revert m0
      exact k2
    intro mg0;refine aq (zc2 (aq (zP ey (aq (zbf hC hk (mb y my) (fun i hi=>(by
     refine zav (xs:=a) (i:=0+i) #[O] fun p ep mp=>?_
     exact⟨p,ep,ma p mp⟩)) (sa.sub #[O] #[O]) #[O] fun k BO rh xf=>?_)))))
    dsimp only;have o7:=hI.takeA (at':=k) sb BO #[O] ey fun i h1 h2=>eG (by have:=zdS (xf i h1 h2); rwa [c9] at this)
    by_cases ur:nk - k > 0
    ·refine zB ur ?_;by_cases e1:k=0
     ·refine zB (by simpa using e1) ?_;exact av ⟨_,rfl,.inl ⟨_,_,rfl,o7.doneA e1⟩⟩
     refine zC (by simpa using e1) ?_;obtain⟨n1,rfl⟩:∃ n1,k=n1+1:=⟨k - 1,#[O]⟩;simp only [cJ];refine aq (zP ey ?_);refine zav (xs:=a) (i:=n1) #[O] fun z ez mz=>?_
     have si:=o7.pushB sa #[O] ey (show a[n1+1 - 1]? = some z by rw [cJ]; exact ez) (by have:=zc3 (rh n1 #[O]); rw [c9,zV ez] at this; exact this);by_cases e3:m1=1
     ·refine zB (by simpa using e3) ?_;exact av ⟨_,rfl,.inl ⟨_,_,rfl,si.first e3 sa h2 hf⟩⟩
     refine zC (by simpa using e3) ?_;refine aq (zP ez (aq (zbf hC hk (ma z mz) (fun i hi=>(by
      refine zav (xs:=b) (i:=0+i) #[O] fun p ep mp=>?_
      exact⟨p,ep,mb p mp⟩)) (sb.sub #[O] #[O]) #[O] fun j xT rS wg=>?_)))
     dsimp only;have tz:=si.takeB (at':=j) sa xT #[O] (show a[n1+1 - 1]? = some z by rw [cJ]; exact ez) fun i h1 h2=>(by have:=zcL (wg i h1 h2); rwa [c9] at this)
     by_cases tD:m1 - j > 0
     ·refine zB tD ?_;by_cases e4:j=1
      ·refine zB (by simpa using e4) ?_;exact av ⟨_,rfl,.inl ⟨_,_,rfl,tz.first e4 sa h2 hf⟩⟩
      refine zC (by simpa using e4) ?_;by_cases e5:j=0
      ·refine zB (by simpa using e5) ?_;exact av ⟨_,rfl,.inl ⟨_,_,rfl,tz.doneB e5⟩⟩
      refine zC (by simpa using e5) ?_;refine zav (xs:=b) (i:=j - 1) #[O] fun y2 pG xY=>?_
      refine aq (zP ez ?_);have nS:=tz.pushA sb #[O] pG ez (by have:=zb6 (rS (j - 1) #[O]); rw [c9,zV pG] at this; lia);by_cases e9:n1=0
      ·refine zB (by simpa using e9) ?_;exact av ⟨_,rfl,.inl ⟨_,_,rfl,nS.doneA e9⟩⟩
      refine zC (by simpa using e9) ?_;refine zaX (fun _=>?_) (fun _=>?_)
      ·exact av ⟨_,rfl,.inr ⟨_,_,_,_,_,_,rfl,nS,#[O],#[O],#[O],#[O],#[O]⟩⟩
      ·exact av ⟨_,_,_,_,_,_,_,rfl,rfl,nS,#[O],#[O],#[O],#[O],#[O]⟩
     ·refine zC tD ?_;have Dt:j=m1:=by lia
      subst Dt;refine zav (xs:=b) (i:=j - 1) #[O] fun y2 pG xY=>?_
      refine aq (zP ez ?_);have nS:=si.pushA sb #[O] pG ez (by have:=zb6 (rS (j - 1) #[O]); rw [c9,zV pG] at this; lia);by_cases e9:n1=0
      ·refine zB (by simpa using e9) ?_;exact av ⟨_,rfl,.inl ⟨_,_,rfl,nS.doneA e9⟩⟩
      refine zC (by simpa using e9) ?_;refine zaX (fun _=>?_) (fun _=>?_)
      ·exact av ⟨_,rfl,.inr ⟨_,_,_,_,_,_,rfl,nS,#[O],#[O],#[O],#[O],#[O]⟩⟩
      ·exact av ⟨_,_,_,_,_,_,_,rfl,rfl,nS,#[O],#[O],#[O],#[O],#[O]⟩
    ·refine zC ur ?_;have BN:k=nk:=by lia
     subst BN;obtain⟨n1,rfl⟩:∃ n1,k=n1+1:=⟨k - 1,#[O]⟩;simp only [cJ];refine aq (zP ey ?_);refine zav (xs:=a) (i:=n1) #[O] fun z ez mz=>?_
     have si:=hI.pushB sa #[O] ey (show a[n1+1 - 1]? = some z by rw [cJ]; exact ez) (by have:=zc3 (rh n1 #[O]); rw [c9,zV ez] at this; exact this);by_cases e3:m1=1
     ·refine zB (by simpa using e3) ?_;exact av ⟨_,rfl,.inl ⟨_,_,rfl,si.first e3 sa h2 hf⟩⟩
     refine zC (by simpa using e3) ?_;refine aq (zP ez (aq (zbf hC hk (ma z mz) (fun i hi=>(by
      refine zav (xs:=b) (i:=0+i) #[O] fun p ep mp=>?_
      exact⟨p,ep,mb p mp⟩)) (sb.sub #[O] #[O]) #[O] fun j xT rS wg=>?_)))
     dsimp only;have tz:=si.takeB (at':=j) sa xT #[O] (show a[n1+1 - 1]? = some z by rw [cJ]; exact ez) fun i h1 h2=>(by have:=zcL (wg i h1 h2); rwa [c9] at this)
     by_cases tD:m1 - j > 0
     ·refine zB tD ?_;by_cases e4:j=1
      ·refine zB (by simpa using e4) ?_;exact av ⟨_,rfl,.inl ⟨_,_,rfl,tz.first e4 sa h2 hf⟩⟩
      refine zC (by simpa using e4) ?_;by_cases e5:j=0
      ·refine zB (by simpa using e5) ?_;exact av ⟨_,rfl,.inl ⟨_,_,rfl,tz.doneB e5⟩⟩
      refine zC (by simpa using e5) ?_;refine zav (xs:=b) (i:=j - 1) #[O] fun y2 pG xY=>?_
      refine aq (zP ez ?_);have nS:=tz.pushA sb #[O] pG ez (by have:=zb6 (rS (j - 1) #[O]); rw [c9,zV pG] at this; lia);by_cases e9:n1=0
      ·refine zB (by simpa using e9) ?_;exact av ⟨_,rfl,.inl ⟨_,_,rfl,nS.doneA e9⟩⟩
      refine zC (by simpa using e9) ?_;refine zaX (fun _=>?_) (fun _=>?_)
      ·exact av ⟨_,rfl,.inr ⟨_,_,_,_,_,_,rfl,nS,#[O],#[O],#[O],#[O],#[O]⟩⟩
      ·exact av ⟨_,_,_,_,_,_,_,rfl,rfl,nS,#[O],#[O],#[O],#[O],#[O]⟩
     ·refine zC tD ?_;have Dt:j=m1:=by lia
      subst Dt;refine zav (xs:=b) (i:=j - 1) #[O] fun y2 pG xY=>?_
      refine aq (zP ez ?_);have nS:=si.pushA sb #[O] pG ez (by have:=zb6 (rS (j - 1) #[O]); rw [c9,zV pG] at this; lia);by_cases e9:n1=0
      ·refine zB (by simpa using e9) ?_;exact av ⟨_,rfl,.inl ⟨_,_,rfl,nS.doneA e9⟩⟩
      refine zC (by simpa using e9) ?_;refine zaX (fun _=>?_) (fun _=>?_)
      ·exact av ⟨_,rfl,.inr ⟨_,_,_,_,_,_,rfl,nS,#[O],#[O],#[O],#[O],#[O]⟩⟩
      ·exact av ⟨_,_,_,_,_,_,_,rfl,rfl,nS,#[O],#[O],#[O],#[O],#[O]⟩
end
end Srt
end
section
namespace Srt
open PySem PyProof.Rows
def wb (sa:Nat) (l:List (Keyed×Nat)) (xs:Array Keyed):Array Keyed:=l.foldl (fun a (p,j)=>a.setIfInBounds (sa+j) p) xs
theorem zkP (sa:Nat):∀ (l:List Keyed) (n:Nat) (xs:Array Keyed) (k:Nat),sa+n+l.length≤xs.size→(wb sa (l.zipIdx n) xs)[k]? = if sa+n≤k∧k < sa+n+l.length then l[k - (sa+n)]? else xs[k]?
 | [],n,xs,k,h=>by
  rw [if_neg (by simp only [ee]; lia)];rfl
 | p :: l,n,xs,k,h=>by
  have hl:(p :: l).length=l.length+1:=rfl;rw [hl] at h ⊢;show (wb sa (l.zipIdx (n+1)) (xs.setIfInBounds (sa+n) p))[k]? = _;rw [zkP sa l (n+1) _ k (by rw [Array.size_setIfInBounds]; lia)];by_cases h1:sa+(n+1)≤k∧k < sa+(n+1)+l.length
  ·rw [if_pos h1,if_pos #[O],show k - (sa+n)=k - (sa+(n+1))+1 by lia,dn]
  ·rw [if_neg h1,Array.getElem?_setIfInBounds];by_cases h2:sa+n=k
   ·rw [if_pos h2,if_pos #[O],if_pos #[O],show k - (sa+n)=0 by lia];rfl
   ·rw [if_neg h2,if_neg #[O]]
theorem zlX {sa:Nat} {m xs:Array Keyed} (h:sa+m.size≤xs.size):(wb sa m.toList.zipIdx xs).toList=xs.toList.take sa++m.toList++xs.toList.drop (sa+m.size):=by
 have hm:m.toList.length=m.size:=by simp
 have hx:xs.toList.length=xs.size:=by simp
 refine er fun k=>?_
 rw [bd,zkP sa m.toList 0 xs k (by rw [hm]; lia),hm,fh];by_cases h1:k < sa
 ·rw [if_neg #[O],bq,cY (by rw [aL]; lia),fe h1,bd]
 ·by_cases h2:k < sa+m.size
  ·rw [if_pos #[O],bq,cT (by rw [aL]; lia),aL,hx,show min sa xs.size=sa by lia,cY #[O]]
  ·rw [if_neg #[O],cT (by rw [aB,aL]; lia),aB,aL,hx,show min sa xs.size=sa by lia,hm,gC,show sa+m.size+(k - (sa+m.size))=k by lia,bd]
theorem zjg (xs:List Keyed) {i j k:Nat} (h1:i≤j) (h2:j≤k):xs=xs.take i++((xs.drop i).take (j - i)++(xs.drop j).take (k - j))++xs.drop k:=by
 have e1:xs.drop i=(xs.drop i).take (j - i)++xs.drop j:=by
  have:=(ci (j - i) (xs.drop i)).symm
  rwa [iT,show i+(j - i)=j by lia] at this
 have e2:xs.drop j=(xs.drop j).take (k - j)++xs.drop k:=by
  have:=(ci (k - j) (xs.drop j)).symm
  rwa [iT,show j+(k - j)=k by lia] at this
 have e0:=(ci i xs).symm;rw [e1,e2] at e0;rw [bq,bq];exact e0
theorem zc4 (xs:Array Keyed) (i j:Nat):(xs.extract i j).toList=(xs.toList.drop i).take (j - i):=by
 rw [df]
theorem zlY {sa sb e:Nat} {m xs:Array Keyed} (h1:sa≤sb) (h2:sb≤e) (h3:e≤xs.size) (hp:m.toList.Perm ((xs.extract sa sb).toList++(xs.extract sb e).toList)):(wb sa m.toList.zipIdx xs).Perm xs:=by
 have BP:m.size=e - sa:=by
  have:=hp.length_eq;rw [aB,zc4,zc4,aL,aL,ck,ck] at this;have hx:xs.toList.length=xs.size:=by simp
  have hm:m.toList.length=m.size:=by simp
  lia
 rw [eN,zlX #[O],show sa+m.size=e by lia];refine eW ((hp.append_left _).append_right _) ?_;rw [zc4,zc4,← zjg xs.toList h1 h2]
section
variable {prog:Program} {w:World} {A:Around} {E:Value→Shared→Prop} {s:Shared} {a₀:Array Keyed} {κ:SortKind} {val:Keyed→Int}
theorem zcM {xs:Array Keyed} {i j k:Nat} (h:k < j - i) (hj:j≤xs.size):(xs.extract i j)[k]? = xs[i+k]?:=by
 rw [← bd,zc4,fe h,gC,bd]
theorem zc5 {xs:Array Keyed} {i j:Nat} (hj:j≤xs.size):(xs.extract i j).size=j - i:=by rw [Array.size_extract,fX hj]
theorem zid {xs:Array Keyed} {i j:Nat} (hj:j≤xs.size) (h:SIn val xs i j):SIn val (xs.extract i j) 0 (xs.extract i j).size:=by
 rw [zc5 hj];intro p q _ hpq hq;rw [zan (zcM #[O] hj),zan (zcM hq hj)];exact h _ _ #[O] #[O] #[O]
theorem zdU {xs:Array Keyed} {i j:Nat} (hj:j≤xs.size) {p:Keyed} (h:p∈(xs.extract i j).toList):∃ k,i≤k∧k < j∧xs[k]? = some p:=by
 obtain⟨k,hk,e⟩:=dW h;have vw:k < j - i:=by
  rwa [bw,zc5 hj] at hk
 refine⟨i+k,#[O],#[O],?_⟩;rw [← zcM vw hj,← bd,ao hk,e]
theorem zjh {st:SortSt} {i sa na pw sb nb pw2:Nat} {Q:Bool→SortSt→Prop} (hC:Cmp prog w A s κ val a₀) (hB:SB κ a₀ st) (e1:(pendingOf st)[i]? = some (sa,na,pw)) (e2:(pendingOf st)[i+1]? = some (sb,nb,pw2))
  (mH:sb=sa+na) (hna:1≤na) (hnb:1≤nb) (hsz:sb+nb≤a₀.size) (sA:SIn val (arrOf st) sa (sa+na)) (sB:SIn val (arrOf st) sb (sb+nb))
  (h:∀ lQ,SB κ a₀ lQ→pendingOf lQ=((pendingOf st).setIfInBounds i (sa,na+nb,pw)).eraseIdxIfInBounds (i+1)→(∀ k,(k < sa∨sb+nb≤k)→(arrOf lQ)[k]? = (arrOf st)[k]?)→SIn val (arrOf lQ) sa (sb+nb)→Q true lQ) :
  wpS (model prog w) A E s (mergeAt' i) Q st:=by
 refine zfC ?_
 wp_delta
 wp_delta
 refine zfD ?_;refine aq (fk ?_);rw [e1,e2];dsimp only;have Ay:=hB.size;obtain⟨y0,vC,Dg⟩:=hB.mem (i:=sb) #[O];generalize x3:(sortPriv% PySem.Builtin.SortState.mk) (kindOf st) (arrOf st) (((pendingOf st).setIfInBounds i (sa,na+nb,pw)).eraseIdxIfInBounds (i+1)) (gallopOf st) (failedOf st)=nM;have uP:SB κ a₀ nM:=by subst x3; exact⟨hB.perm,hB.kind,hB.failed⟩
 have se:pendingOf nM=((pendingOf st).setIfInBounds i (sa,na+nb,pw)).eraseIdxIfInBounds (i+1):=by subst x3; rfl
 have uv:arrOf nM=arrOf st:=by subst x3; rfl
 have wj:∀ n,n < a₀.size→∃ p,(arrOf st)[n]? = some p∧p∈a₀.toList:=fun n hn=>hB.mem hn
 refine aq (show wpS _ _ _ _ (set nM) _ st from eK (f:=fun _=>nM) ?_);refine aq (zP vC (aq (zbf (arr:=arrOf st) hC uP.kind Dg (fun j hj=>wj (sa+j) #[O]) sA #[O] fun k BO rh xf=>?_)));dsimp only;have Az:∀ j,sa≤j→j < sa+k→Vk val (arrOf st) j≤Vk val (arrOf st) sb:=fun j h1 h2=>by
  have:=zc3 (rh (j - sa) #[O])
  rwa [show sa+(j - sa)=j by lia,← zV (val:=val) vC] at this
 by_cases ur:na - k=0
 ·rw [if_pos (by simpa using ur)];refine av (h nM uP se (fun _ _=>by rw [uv]) ?_);rw [uv];intro p q h1 h2 h3;by_cases hq:q < sa+na
  ·exact sA p q h1 h2 hq
  ·by_cases hp:p < sa+na
   ·exact bW (Az p h1 #[O]) (sB sb q #[O] #[O] h3)
   ·exact sB p q #[O] h2 h3
 rw [if_neg (by simpa using ur)];have AA:sa+k+(na - k) - 1=sa+na - 1:=by lia
 rw [AA];obtain⟨x0,vD,Dh⟩:=hB.mem (i:=sa+na - 1) #[O];refine aq (zP vD (aq (zbf (arr:=arrOf st) hC uP.kind Dh (fun j hj=>wj (sb+j) #[O]) sB #[O] fun m w6 uq Du=>?_)));dsimp only;have xg:∀ j,sb+m≤j→j < sb+nb→Vk val (arrOf st) (sa+na - 1)≤Vk val (arrOf st) j:=fun j h1 h2=>by
  have:=zcL (Du (j - sb) #[O] #[O])
  rwa [show sb+(j - sb)=j by lia,← zV (val:=val) vD] at this
 have Dv:∀ j,sb≤j→j < sb+m→Vk val (arrOf st) j < Vk val (arrOf st) (sa+na - 1):=fun j h1 h2=>by
  have:=zb6 (uq (j - sb) #[O])
  rwa [show sb+(j - sb)=j by lia,← zV (val:=val) vD] at this
 by_cases hm0:m=0
 ·rw [if_pos (by simpa using hm0)];refine av (h nM uP se (fun _ _=>by rw [uv]) ?_);rw [uv];intro p q h1 h2 h3;by_cases hq:q < sa+na
  ·exact sA p q h1 h2 hq
  ·by_cases hp:p < sa+na
   ·exact bW (sA p (sa+na - 1) h1 #[O] #[O]) (xg q #[O] h3)
   ·exact sB p q #[O] h2 h3
 rw [if_neg (by simpa using hm0)];have zx:(arrOf st).size=a₀.size:=Ay;have z1:=zc5 (xs:=arrOf st) (i:=sa+k) (j:=sb) #[O];have z2:=zc5 (xs:=arrOf st) (i:=sb) (j:=sb+m) #[O];have hf:Vk val ((arrOf st).extract sb (sb+m)) 0≤Vk val ((arrOf st).extract (sa+k) sb) 0:=by
  rw [zan (zcM #[O] #[O]),zan (zcM (xs:=arrOf st) (i:=sa+k) (j:=sb) (k:=0) #[O] #[O])];have:=zdS (xf k (ah _) #[O]);rw [← zV (val:=val) vC] at this;simp only [fh] at this ⊢;lia
 have hl:∀ j,j < ((arrOf st).extract sb (sb+m)).size→Vk val ((arrOf st).extract sb (sb+m)) j≤Vk val ((arrOf st).extract (sa+k) sb) (((arrOf st).extract (sa+k) sb).size - 1):=by
  intro j hj;rw [z2] at hj;rw [z1,zan (zcM #[O] #[O]),zan (zcM (xs:=arrOf st) (i:=sa+k) (j:=sb) #[O] #[O])];have:=Dv (sb+j) #[O] #[O];rw [show sa+k+(sb - (sa+k) - 1)=sa+na - 1 by lia];lia
 have fin:∀ (out:Array Keyed) (g:Nat),Good val (((arrOf st).extract (sa+k) sb).toList++((arrOf st).extract sb (sb+m)).toList) out.toList →
   wpS (model prog w) A E s (do
    modify fun s=>setArr s (out.toList.zipIdx.foldl (fun a (p,j)=>a.setIfInBounds (sa+k+j) p) (arrOf s))
    let s' ← get
    pure (failedOf s').isNone) Q (zaq nM g):=by
  intro out g hG;refine aq (eK (aq (fk ?_)));have BP:out.size=sb+m - (sa+k):=by
   have:=hG.1.length_eq;rw [aB] at this;have e1:out.toList.length=out.size:=by simp
   have e2:((arrOf st).extract (sa+k) sb).toList.length=sb - (sa+k):=by rw [bw,z1]
   have e3:((arrOf st).extract sb (sb+m)).toList.length=sb+m - sb:=by rw [bw,z2]
   lia
  have qz:=zlY (xs:=arrOf st) (sa:=sa+k) (sb:=sb) (e:=sb+m) #[O] #[O] #[O] hG.1;have nN:∀ n,(wb (sa+k) out.toList.zipIdx (arrOf st))[n]? = if sa+k≤n∧n < sb+m then out[n - (sa+k)]? else (arrOf st)[n]?:=fun n=>by
   have:=zkP (sa+k) out.toList 0 (arrOf st) n (by rw [bw]; lia);rw [bw,fh,BP,show sa+k+(sb+m - (sa+k))=sb+m by lia,bd] at this;exact this
  have yW:(failedOf (setArr (zaq nM g) (wb (sa+k) out.toList.zipIdx (arrOf st)))).isNone=true:=by
   show (failedOf nM).isNone=true;rw [uP.failed];rfl
  have Dw:arrOf (zaq nM g)=arrOf st:=uv;show wpS _ _ _ _ (pure (failedOf (setArr (zaq nM g) (wb (sa+k) out.toList.zipIdx (arrOf (zaq nM g))))).isNone) Q (setArr (zaq nM g) (wb (sa+k) out.toList.zipIdx (arrOf (zaq nM g))));rw [Dw,yW];refine av (h _ ⟨qz.trans hB.perm,uP.kind,uP.failed⟩ se (fun n hn=>?_) ?_)
  ·show (wb (sa+k) out.toList.zipIdx (arrOf st))[n]? = _;rw [nN,if_neg #[O]]
  ·show SIn val (wb (sa+k) out.toList.zipIdx (arrOf st)) sa (sb+nb);have qt:∀ n,sa+k≤n→n < sb+m→∃ q,sa+k≤q∧q < sb+m∧Vk val (wb (sa+k) out.toList.zipIdx (arrOf st)) n=Vk val (arrOf st) q:=fun n h1 h2=>by
    have ho:n - (sa+k) < out.size:=by lia
    have rf:out[n - (sa+k)]? = some out[n - (sa+k)]:=getElem?_pos out _ ho;have mB:out[n - (sa+k)]∈((arrOf st).extract (sa+k) sb).toList++((arrOf st).extract sb (sb+m)).toList:=hG.1.mem_iff.mp #[M];have hv:Vk val (wb (sa+k) out.toList.zipIdx (arrOf st)) n=val out[n - (sa+k)]:=zV (by rw [nN,if_pos ⟨h1,h2⟩,rf]);rcases aP.mp mB with mB | mB
    ·obtain⟨q,q1,q2,q3⟩:=zdU #[O] mB;exact⟨q,q1,#[O],by rw [hv,zV q3]⟩
    ·obtain⟨q,q1,q2,q3⟩:=zdU #[O] mB;exact⟨q,#[O],q2,by rw [hv,zV q3]⟩
   have rA:∀ n,¬ (sa+k≤n∧n < sb+m)→Vk val (wb (sa+k) out.toList.zipIdx (arrOf st)) n=Vk val (arrOf st) n:=fun n hn=>zan (by rw [nN,if_neg hn])
   intro p q h1 h2 h3;by_cases hp:p < sa+k
   ·rw [rA p #[O]];by_cases hq:q < sa+k
    ·rw [rA q #[O]];exact sA p q h1 h2 #[O]
    ·have key:∀ q',sa+k≤q'→q' < sb+nb→Vk val (arrOf st) p≤Vk val (arrOf st) q':=fun q' a1 a2=>by
      by_cases sT:q' < sb
      ·exact sA p q' h1 #[O] #[O]
      ·exact bW (Az p h1 hp) (sB sb q' #[O] #[O] a2)
     by_cases nH:q < sb+m
     ·obtain⟨q',q1,q2,q3⟩:=qt q #[O] nH;rw [q3];exact key q' q1 #[O]
     ·rw [rA q #[O]];exact key q #[O] h3
   ·by_cases qg:p < sb+m
    ·by_cases nH:q < sb+m
     ·have AB:p - (sa+k) < out.size:=by lia
      have rf:q - (sa+k) < out.size:=by lia
      rw [zV (p:=out[p - (sa+k)]) (by rw [nN,if_pos #[O]]; exact getElem?_pos out _ AB),zV (p:=out[q - (sa+k)]) (by rw [nN,if_pos #[O]]; exact getElem?_pos out _ rf)];by_cases hpq:p=q
      ·subst hpq;exact cq _
      ·have:=dL.mp hG.2 (p - (sa+k)) (q - (sa+k)) (by simpa using AB) (by simpa using rf) #[O];simpa using this
     ·obtain⟨p',p1,p2,p3⟩:=qt p #[O] qg;rw [p3,rA q #[O]];by_cases pB:p' < sb
      ·exact bW (sA p' (sa+na - 1) #[O] #[O] #[O]) (xg q #[O] h3)
      ·exact sB p' q #[O] #[O] h3
    ·rw [rA p #[O],rA q #[O]];exact sB p q #[O] h2 h3
 have ma:∀ p∈((arrOf st).extract (sa+k) sb).toList,p∈a₀.toList:=fun p hp=>by
  obtain⟨q,q1,q2,q3⟩:=zdU #[O] hp;obtain⟨p',e,m'⟩:=wj q #[O];rw [q3] at e;cases e;exact m'
 have mb:∀ p∈((arrOf st).extract sb (sb+m)).toList,p∈a₀.toList:=fun p hp=>by
  obtain⟨q,q1,q2,q3⟩:=zdU #[O] hp;obtain⟨p',e,m'⟩:=wj q #[O];rw [q3] at e;cases e;exact m'
 have ss1:=zid (val:=val) (xs:=arrOf st) (i:=sa+k) (j:=sb) #[O] (sA.sub #[O] #[O]);have ss2:=zid (val:=val) (xs:=arrOf st) (i:=sb) (j:=sb+m) #[O] (sB.sub #[O] #[O]);by_cases hle:na - k≤m
 ·rw [if_pos hle];exact aq (zje (a:=(arrOf st).extract (sa+k) sb) (b:=(arrOf st).extract sb (sb+m)) hC uP.kind ma mb ss1 ss2 #[O] #[O] hf hl fin)
 ·rw [if_neg hle];exact aq (zjf (a:=(arrOf st).extract (sa+k) sb) (b:=(arrOf st).extract sb (sb+m)) hC uP.kind ma mb ss1 ss2 #[O] #[O] hf hl fin)
end
end Srt
end
section
namespace Srt
open PySem PyProof.Rows
def Runs (val:Keyed→Int) (xs:Array Keyed):List (Nat×Nat×Nat)→Nat→Nat→Prop
 | [],lo,hi=>lo=hi
 | (s,n,_) :: r,lo,hi=>s=lo∧1≤n∧SIn val xs lo (lo+n)∧Runs val xs r (lo+n) hi
section
variable {val:Keyed→Int}
theorem Runs.le {xs:Array Keyed}:∀ {p:List (Nat×Nat×Nat)} {lo hi:Nat},Runs val xs p lo hi→lo+p.length≤hi
 | [],lo,hi,h=>by
  have h:lo=hi:=h;simp only [ee];lia
 | (s,n,w) :: r,lo,hi,h=>by
  obtain⟨_,h1,_,h2⟩:=h;have:=h2.le;simp only [bG];lia
theorem Runs.append {xs:Array Keyed}:∀ {p q:List (Nat×Nat×Nat)} {lo hi:Nat},Runs val xs (p++q) lo hi↔∃ mid,Runs val xs p lo mid∧Runs val xs q mid hi
 | [],q,lo,hi=>⟨fun h=>⟨lo,rfl,h⟩,fun ⟨mid,h1,h2⟩=>by
   have h1:lo=mid:=h1;subst h1;exact h2⟩
 | (s,n,w) :: p,q,lo,hi=>by
  constructor
  ·rintro⟨h1,h2,h3,h4⟩;obtain⟨mid,h5,h6⟩:=Runs.append.mp h4;exact⟨mid,⟨h1,h2,h3,h5⟩,h6⟩
  ·rintro⟨mid,⟨h1,h2,h3,h5⟩,h6⟩;exact⟨h1,h2,h3,Runs.append.mpr ⟨mid,h5,h6⟩⟩
theorem Runs.keep {xs ys:Array Keyed}:∀ {p:List (Nat×Nat×Nat)} {lo hi:Nat},Runs val xs p lo hi→(∀ k,lo≤k→k < hi→ys[k]? = xs[k]?)→Runs val ys p lo hi
 | [],lo,hi,h,_=>h
 | (s,n,w) :: p,lo,hi,h,e=>by
  obtain⟨h1,h2,h3,h4⟩:=h;have:=h4.le;refine⟨h1,h2,fun i j a b c=>?_,h4.keep fun k a b=>e k #[O] b⟩;rw [zan (e i #[O] #[O]),zan (e j #[O] #[O])];exact h3 i j a b c
theorem zkQ {α:Type} (p q:List α) (x y v:α):((p++x :: y :: q).toArray.setIfInBounds p.length v).eraseIdxIfInBounds (p.length+1)=(p++v :: q).toArray:=by
 simp [Array.eraseIdxIfInBounds];rw [List.eraseIdx_append_of_length_le #[O],show p.length+1 - p.length=1 by lia];rfl
theorem zkR {α:Type} (q:List α) (z:α) (f:α→α):(q++[z]).toArray.modify ((q++[z]).toArray.size - 1) f=(q++[f z]).toArray:=by
 apply Array.ext';simp;induction q with
 | nil=>rfl
 | cons a q ih =>
  show (a :: (q++[z])).modify (q.length+1) f=a :: (q++[f z]);rw [List.modify_succ_cons,ih]
theorem zie {xs:Array Keyed} {p:List (Nat×Nat×Nat)} {n:Nat} (hl:p.length≤1) (hn:1≤n) (h:Runs val xs p 0 n):SIn val xs 0 n:=by
 match p,hl,h with
 | [],_,h =>
  have h:0=n:=h;lia
 | [(a,b,c)],_,h =>
  obtain⟨_,_,h3,h4⟩:=h;have h4:0+b=n:=h4;rw [← h4];exact h3
 | _ :: _ :: _,hl,_=>simp at hl
theorem zji {α:Type} {p:List α} {j:Nat} (h:j+2≤p.length):∃ pre x y post,p=pre++x :: y :: post∧pre.length=j:=by
 refine⟨p.take j,p[j],p[j+1],p.drop (j+2),?_,by rw [aL]; lia⟩;have e1:=(ci j p).symm;rw [cB (show j < p.length by lia),cB (show j+1 < p.length by lia)] at e1;exact e1
end
section
variable {prog:Program} {w:World} {A:Around} {E:Value→Shared→Prop} {s:Shared} {a₀:Array Keyed} {κ:SortKind} {val:Keyed→Int}
theorem zgv {st:SortSt} {pre post:List (Nat×Nat×Nat)} {x y:Nat×Nat×Nat} {hi:Nat} {Q:Bool→SortSt→Prop} (hC:Cmp prog w A s κ val a₀) (hB:SB κ a₀ st) (hp:pendingOf st=(pre++x :: y :: post).toArray) (hR:Runs val (arrOf st) (pre++x :: y :: post) 0 hi) (wd:hi≤a₀.size)
  (h:∀ lQ v,SB κ a₀ lQ→pendingOf lQ=(pre++v :: post).toArray→(∀ k,hi≤k→(arrOf lQ)[k]? = (arrOf st)[k]?)→Runs val (arrOf lQ) (pre++v :: post) 0 hi→Q true lQ) :
  wpS (model prog w) A E s (mergeAt' pre.length) Q st:=by
 obtain⟨sa,na,pw⟩:=x;obtain⟨sb,nb,pw2⟩:=y;obtain⟨mid,r1,r2⟩:=Runs.append.mp hR;obtain⟨rfl,q1,q2,rfl,q4,q5,r3⟩:=r2;have hle:=r3.le;refine zjh (i:=pre.length) (sa:=sa) (na:=na) (pw:=pw) (sb:=sa+na) (nb:=nb) (pw2:=pw2) hC hB (by rw [hp]; simp) (by rw [hp]; simp) rfl q1 q4 #[O] q2 q5 fun lQ nR pB hk hs=>?_
 refine h lQ (sa,na+nb,pw) nR (by rw [pB,hp,zkQ]) (fun k vw=>hk k #[O]) ?_;refine Runs.append.mpr ⟨sa,r1.keep fun k _ b=>hk k #[O],rfl,#[O],?_,?_⟩
 ·rw [← eP];exact hs
 ·rw [← eP];exact r3.keep fun k a b=>hk k #[O]
theorem zlZ {n:Nat} {c:Prop} [Decidable c] (h:¬ n≤1):(if c then n - 2 - 1 else n - 2)+2≤n:=by
 by_cases hc:c
 ·rw [if_pos hc];lia
 ·rw [if_neg hc];lia
theorem zkS {st:SortSt} {p:List (Nat×Nat×Nat)} {j hi:Nat} {Q:Bool→SortSt→Prop} (hj:j+2≤p.length) (hC:Cmp prog w A s κ val a₀) (hB:SB κ a₀ st) (hp:pendingOf st=p.toArray) (hR:Runs val (arrOf st) p 0 hi) (wd:hi≤a₀.size)
  (h:∀ lQ p',SB κ a₀ lQ→pendingOf lQ=p'.toArray→Runs val (arrOf lQ) p' 0 hi→p'.length+1=p.length→Q true lQ):wpS (model prog w) A E s (mergeAt' j) Q st:=by
 obtain⟨pre,x,y,post,rfl,rfl⟩:=zji hj;exact zgv hC hB hp hR wd fun lQ v a b _ d=>h lQ _ a b d (by simp only [aB,bG]; lia)
theorem znu {st:SortSt} {Q:Unit→SortSt→Prop} (hC:Cmp prog w A s κ val a₀) (hB:SB κ a₀ st) (hp:pendingOf st = #[]) (h2:1≤a₀.size)
  (h:∀ lQ,SB κ a₀ lQ→SIn val (arrOf lQ) 0 a₀.size→Q () lQ):wpS (model prog w) A E s sortRuns' Q st:=by
 rw [sortRuns'_eq];refine aq (fk ?_);dsimp only;rw [hB.size];generalize minRun' a₀.size a₀.size 0=mr;refine aq (dv (cI (I:=fun x c lQ=>∃ lo p,c=(none,lo)∧SB κ a₀ lQ∧pendingOf lQ=p.toArray∧Runs val (arrOf lQ) p 0 lo∧lo≤a₀.size∧min x a₀.size≤lo)
  (Q:=fun c lQ=>∃ p,c=(none,a₀.size)∧SB κ a₀ lQ∧pendingOf lQ=p.toArray∧Runs val (arrOf lQ) p 0 a₀.size) ?step ?fin ⟨0,[],rfl,hB,hp,rfl,#[O],#[O]⟩) ?post)
 case fin =>
  rintro c lQ ⟨lo,p,rfl,nR,pB,hR,ph,hx⟩;have:lo=a₀.size:=by lia
  subst this;exact⟨p,rfl,nR,pB,hR⟩
 case step =>
  rintro x c lQ _ hx ⟨lo,p,rfl,nR,pB,hR,ph,yG⟩;dsimp only;by_cases pF:lo≥a₀.size
  ·rw [if_pos pF];have:lo=a₀.size:=by lia
   subst this;exact av ⟨p,rfl,nR,pB,hR⟩
  rw [if_neg pF];refine aq (zlU hC #[O] #[O] (SF.refl nR) fun m nM hF1 w6 uq hs1=>?_);dsimp only;apply zoE
  ·intro k1 k2;by_cases Dx:m < mr
   ·rw [if_pos Dx]
    (refine aq (gm (cg ⟨rfl,?_⟩)))
    refine aq (zoe hC #[O] #[O] hF1 hs1 fun mG xh nK=>?_);rw [if_neg #[D]];have vB:1≤min (a₀.size - lo) mr:=by lia
    have rQ:lo+min (a₀.size - lo) mr≤a₀.size:=by lia
    generalize min (a₀.size - lo) mr=n at nK vB rQ ⊢
    revert rQ; revert vB; revert nK; revert xh; revert mG; revert n
    exact k1 ()
   ·rw [if_neg Dx];have rQ:lo+m≤a₀.size:=by lia
    clear uq Dx
    revert rQ; revert w6; revert hs1; revert hF1; revert nM; revert m
    exact k2 ()
  intro n mG xh nK vB rQ;refine aq (fk ?_);have se:pendingOf mG=p.toArray:=xh.pend.trans pB;have yH:Runs val (arrOf mG) p 0 lo:=hR.keep fun k _ b=>xh.low k b
  rcases iU p with rfl | ⟨q,z,rfl⟩
  ·rw [se];show wpS _ _ _ _ (do
    modify fun s=>setPending s ((pendingOf s).push (lo,n,0)); pure (cA (none,lo+n))) _ _
   refine aq (eK (av ⟨lo+n,[(lo,n,0)],rfl,⟨xh.b.perm,xh.b.kind,xh.b.failed⟩,?_,?_,#[O],#[O]⟩))
   ·show (pendingOf mG).push _=_;rw [se];rfl
   ·have h0:0=lo:=yH;subst h0;exact⟨rfl,vB,nK,rfl⟩
  obtain⟨s1,n1,w1⟩:=z;rw [se,fQ,show ((q++[(s1,n1,w1)]).toArray).back? = some (s1,n1,w1) by simp];rw [fQ] at se yH;dsimp only;generalize power' a₀.size (2*s1+n1) (2*s1+n1+n1+n) a₀.size=pw;refine aq (dv (cI (I:=fun _ c lQ=>c=(none,())∧∃ q' z,SB κ a₀ lQ∧pendingOf lQ=(q'++[z]).toArray∧Runs val (arrOf lQ) (q'++[z]) 0 lo∧(∀ k,lo≤k→(arrOf lQ)[k]? = (arrOf mG)[k]?))
   (Q:=fun c lQ=>c=(none,())∧∃ q' z,SB κ a₀ lQ∧pendingOf lQ=(q'++[z]).toArray∧Runs val (arrOf lQ) (q'++[z]) 0 lo∧(∀ k,lo≤k→(arrOf lQ)[k]? = (arrOf mG)[k]?)) ?_ (fun _ _ hh=>hh) ⟨rfl,q,(s1,n1,w1),xh.b,se,yH,fun _ _=>rfl⟩) ?_)
  ·rintro x2 c mG _ xb ⟨rfl,q',z,rB,qg,uQ,rh⟩;refine aq (fk ?_);rcases iU q' with rfl | ⟨q2,y,rfl⟩
   ·rw [qg,if_neg #[M]];exact av ⟨rfl,[],z,rB,qg,uQ,rh⟩
   rw [fQ,bq] at qg uQ;have esz:(pendingOf mG).size - 2=q2.length:=by rw [qg]; simp
   have eel:(if (pendingOf mG).size > 1 then (pendingOf mG)[(pendingOf mG).size - 2]? else none)=some y:=by
    rw [if_pos (by rw [qg]; simp),esz,qg];simp
   rw [eel];obtain⟨y1,y2,y3⟩:=y;dsimp only;by_cases ho:y3≤pw
   ·rw [if_pos ho];exact av ⟨rfl,q2++[(y1,y2,y3)],z,rB,by rw [qg,bq],by rw [bq]; exact uQ,rh⟩
   ·rw [if_neg ho,esz];refine aq (zgv hC rB qg uQ #[O] fun vP v Dy vF xf xi=>?_);rw [if_neg #[D]];exact av ⟨rfl,q2,v,Dy,vF,xi,fun k hk=>(xf k hk).trans (rh k hk)⟩
  ·rintro c mG ⟨rfl,q',z,rB,qg,uQ,rh⟩;obtain⟨z1,z2,z3⟩:=z;dsimp only;refine aq (eK (aq (eK (av ⟨lo+n,q'++[(z1,z2,pw),(lo,n,0)],rfl,⟨rB.perm,rB.kind,rB.failed⟩,?_,?_,#[O],#[O]⟩))))
   ·show ((pendingOf mG).modify ((pendingOf mG).size - 1) fun x=>(x.fst,x.2.fst,pw)).push (lo,n,0)=_;rw [qg,zkR];simp
   ·show Runs val (arrOf mG) _ _ _;obtain⟨mid,r1,r2⟩:=Runs.append.mp uQ;obtain⟨e1,e2,e3,e4⟩:=r2;have e4:mid+z2=lo:=e4;refine Runs.append.mpr ⟨mid,r1,e1,e2,e3,e4.symm,vB,?_,?_⟩
    ·intro i j a1 a2 a3;rw [zan (rh i #[O]),zan (rh j #[O])];exact nK i j #[O] a2 #[O]
    ·show mid+z2+n=lo+n;lia
 case post =>
  rintro c nM ⟨p,rfl,uP,se,yH⟩;dsimp only;have mT:=yH.le;refine aq (dv (cI (I:=fun x c lQ=>c=(none,())∧∃ p,SB κ a₀ lQ∧pendingOf lQ=p.toArray∧Runs val (arrOf lQ) p 0 a₀.size∧p.length≤max 1 (a₀.size - x))
   (Q:=fun c lQ=>c=(none,())∧SB κ a₀ lQ∧SIn val (arrOf lQ) 0 a₀.size) ?_ ?_ ⟨rfl,p,uP,se,yH,#[O]⟩) ?_)
  ·rintro x c mG _ hx ⟨rfl,p2,rB,qg,uQ,n8⟩;refine aq (fk ?_);have hsz:(pendingOf mG).size=p2.length:=by rw [qg]; simp
   rw [hsz];by_cases hle:p2.length≤1
   ·rw [if_pos hle];exact av ⟨rfl,rB,zie hle h2 uQ⟩
   rw [if_neg hle];refine aq (zkS (p:=p2) (zlZ hle) hC rB qg uQ (ah _) fun vP p3 Dy vF xi hl3=>?_);rw [if_neg #[D]];exact av ⟨rfl,p3,Dy,vF,xi,#[O]⟩
  ·rintro c mG ⟨rfl,p2,rB,qg,uQ,n8⟩;exact⟨rfl,rB,zie #[O] h2 uQ⟩
  ·rintro c mG ⟨rfl,rB,hS⟩;exact av (h mG rB hS)
end
end Srt
end
section
namespace Srt
open PySem PyProof.Rows
def num (B:Int):List Int→Int
 | []=>0
 | n :: r=>n*B ^ r.length+num B r
theorem num_rng {B:Int} (hB:1≤B):∀ {ns:List Int},(∀ n∈ns,0≤n∧n < B)→0≤num B ns∧num B ns < B ^ ns.length
 | [],_=>by simp [num]
 | n :: r,h=>by
  obtain⟨h1,h2⟩:=num_rng hB (ns:=r) fun m hm=>h m (aj _ hm)
  obtain⟨a,b⟩:=h n #[M];have hp:0 < B ^ r.length:=Int.pow_pos #[O];have e:B ^ (n :: r).length=B ^ r.length*B:=by rw [bG,il]
  show 0≤n*B ^ r.length+num B r∧n*B ^ r.length+num B r < _;rw [e];have h3:0≤n*B ^ r.length:=Int.mul_nonneg a #[O];have h4:n*B ^ r.length≤(B - 1)*B ^ r.length:=cC #[O] #[O];have h5:(B - 1)*B ^ r.length=B ^ r.length*B - B ^ r.length:=by rw [Int.sub_mul,Int.one_mul,jU]
  lia
def zdE:List Int→List Int→Bool
 | [],[]=>false
 | [],_ :: _=>true
 | _ :: _,[]=>false
 | x :: xs,y :: ys=>if x=y then zdE xs ys else decide (x < y)
theorem zbo (x y:Int) (xs ys:List Int):zdE (x :: xs) (y :: ys)=if x=y then zdE xs ys else decide (x < y):=rfl
theorem zdV {B:Int} (hB:1≤B):∀ {ms ns:List Int},ms.length=ns.length→(∀ n∈ms,0≤n∧n < B)→(∀ n∈ns,0≤n∧n < B)→zdE ms ns=decide (num B ms < num B ns)
 | [],[],_,_,_=>by simp [zdE,num]
 | [],_ :: _,h,_,_=>by simp at h
 | _ :: _,[],h,_,_=>by simp at h
 | m :: ms,n :: ns,hl,h1,h2=>by
  have uz:ms.length=ns.length:=by simpa using hl
  have ih:=zdV hB uz (fun x hx=>h1 x (aj _ hx)) (fun x hx=>h2 x (aj _ hx));obtain⟨a1,a2⟩:=num_rng hB fun x hx=>h1 x (aj m hx)
  obtain⟨b1,b2⟩:=num_rng hB fun x hx=>h2 x (aj n hx)
  rw [zbo];show _=decide (m*B ^ ms.length+num B ms < n*B ^ ns.length+num B ns);rw [uz] at a2 ⊢;have hp:0 < B ^ ns.length:=Int.pow_pos #[O];by_cases e:m=n
  ·rw [if_pos e,ih,e];rw [cQ];simp only [decide_eq_true_eq];lia
  ·rw [if_neg e,cQ];simp only [decide_eq_true_eq];have key:∀ x y:Int,x < y→x*B ^ ns.length+B ^ ns.length≤y*B ^ ns.length:=fun x y Ad=>by
    have:=cC (show x+1≤y by lia) (show 0≤B ^ ns.length by lia);rw [Int.add_mul,Int.one_mul] at this;exact this
   constructor
   ·intro h;have:=key m n h;lia
   ·intro h;rcases kf m n with h3 | h3 | h3
    ·exact h3
    ·exact absurd h3 e
    ·have:=key n m h3;lia
section
variable {prog:Program} {w:World} {A:Around} {E:Value→Shared→Prop} {s:Shared}
theorem zif {Q:Bool→Shared→Prop} {fin:Bool}:∀ {xs ys:List Value} {ms ns:List Int} (i:Nat),IntsAre xs ms→IntsAre ys ns→ms.length=ns.length→Q (if ms=ns then fin else zdE ms ns) s→lh prog w A true fin Q (xs.zip ys) i s
 | [],[],[],[],i,_,_,_,h=>kS (by simpa using h)
 | _ :: _,_,[],_,_,hx,_,_,_=>by cases hx
 | [],_,_ :: _,_,_,hx,_,_,_=>by cases hx
 | _,[],_,_ :: _,_,_,hy,_,_=>by cases hy
 | _,_ :: _,_,[],_,_,hy,_,_=>by cases hy
 | x :: xs,y :: ys,m :: ms,n :: ns,i,hx,hy,hl,h=>by
  cases hx with
  | cons _ t hx =>
   cases hy with
   | cons _ u hy =>
    refine kD (wpAny_eqBool_int ?_);by_cases e:m=n
    ·rw [show (m == n)=true by simpa using e];refine kU (zif (i+1) hx hy (by simpa using hl) ?_);subst e;rw [zbo,if_pos rfl] at h;simpa using h
    ·rw [show (m == n)=false by simpa using e];have m6:¬ (m :: ms=n :: ns):=fun z=>e (d6 z).1
     rw [if_neg m6,zbo,if_neg e] at h;refine li ?_;by_cases hi:i=0
     ·subst hi;exact oneLt_int h
     ·have hb:(true && i == 0)=false:=by simp [hi]
      rw [hb];exact kW _ _ (wpAny_lt_int h)
end
end Srt
end
section
namespace PySem
open PyProof.Rows
def zen (h:Heap) (d:Addr) (es:Array DictEntry) (ep:Nat):Prop:=∃ o,h.get? d=some o∧o.ExactDict∧o.data = .dict es ep
theorem zen.at' {h h':Heap} {d:Addr} {es:Array DictEntry} {ep:Nat} (x:zen h d es ep) (e:∀ o,h.get? d=some o→h'.get? d=some o):zen h' d es ep:=let ⟨o,ho,r⟩:=x; ⟨o,e _ ho,r⟩
theorem zen.typeIs {s:Shared} {d:Addr} {es:Array DictEntry} {ep:Nat} (x:zen s.heap d es ep):s.TypeIs (.ref d) "dict":=let ⟨o,ho,hc,_⟩:=x; ⟨o,ho,hc.1⟩
section
variable {prog:Program} {w:World} {A:Around} {E:Value→Shared→Prop} {s:Shared} {it d:Addr} {i ep:Nat} {es:Array DictEntry}
theorem zkT {Q:Value→Shared→Prop} (hd:(d == sysModules)=false) (hm:zen s.heap d es ep) (hQ:Q (.ref s.heap.objs.size) { s with heap:=s.heap.push { cls:=.type "dict_keyiterator",data:=.fields #[.ref d,.int 0 0,.int es.size 0,.int ep 0] } }):wpAny (model prog w) A (pyIter (.ref d)) Q E s:=by
 have hT:=hm.typeIs;obtain⟨o,ho,hc,AD⟩:=id hm;refine gT hT kE (bj kE hT F.entry_dict_iter ?_ (F.args_dict_iter_1 _)); unfold Builtin.«dict.__iter__» Builtin.Dict.dictSlotNone;refine aa (aa (wpAny_notOrdered_dict hT ?_)); show wpAny _ _ (pure (aE d)) _ _ s;refine ai ?_; show wpAny _ _ (iV d >>= _) _ _ s; unfold iV;rw [if_neg (show ¬ ((d == sysModules)=true) by rw [hd]; decide)];refine aa (ai (aa (gV ho AD (aa (iF ho AD (aa (cu (ai ⟨_,rfl,"dict_keyiterator",_,⟨_,aC _ rfl,rfl⟩,F.slot_dict_keyiterator_next.lookup,?_⟩))))))));simpa [rawInt] using hQ
theorem zkU {e:DictEntry} {Q:Option Value→Shared→Prop} (hit:s.heap.IsKeyIter it d i es.size ep) (hm:zen s.heap d es ep) (he:es[i]? = some e)
  (hQ:∀ h',h'.IsKeyIter it d (i+1) es.size ep→be it s.heap h'→Q (some e.key) { s with heap:=h' }):wpAny (model prog w) A (pyNext (.ref it)) Q E s:=by
 (obtain⟨o,ho,hc,hd⟩:=id hit)
 obtain⟨od,AE,qF,AF⟩:=id hm;have ml:i < es.size:=(cV.mp he).1;have x4:gp "dict_keyiterator" = false:=by decide +kernel
 unfold pyNext; refine aa (cn (br (name:=bU "__next__") hit.typeIs dw (bj dw hit.typeIs gc ?_ (fZ _))));refine aa (ai (aa (aa (aa (dm hit.typeIs (ai (aa (wpAny_fieldsOf ho hd ?_))))))));simp only [x4,aT,if_false]; show wpAny _ _ (if (aE d == cw)=true then _ else _) _ _ s;rw [if_neg (show ¬ ((aE d == cw)=true) from fun z=>aJ z)];refine aa (ai (aa (gV AE AF ?_)));rw [if_neg (show ¬ ((((es.size:Nat):Int) != ((es.size:Nat):Int))=true) by simp)];refine aa (ai (aa (iF AE AF ?_)));rw [if_neg #[M]]; refine ai ?_;simp only [show ¬ ((i:Int) < 0) by lia,if_false,bf,he];refine aa (aa (dm hit.typeIs (ai (aa (iW hit.typeIs ?_)))));show wpAny _ _ (setField (.ref it) 1 (rawInt ((i:Int)+1)) >>= _) _ _ s; refine aa (dO ho hd #[M] ?_);have rZ:(s.heap.update it (gK (·.setIfInBounds 1 (rawInt ((i:Int)+1))))).IsKeyIter it d (i+1) es.size ep:=⟨_,dC _ ho (eD (cX hd _)),(gS ..).trans hc,by rw [cX hd]; simp [rawInt]⟩;refine aa (bK (aa (iW (s:={ s with heap:=s.heap.update it (gK (·.setIfInBounds 1 (rawInt ((i:Int)+1)))) }) rZ.typeIs ?_)));show wpAny _ _ (pure e.key) _ _ _; exact ai (ai ⟨_,rfl,ai (hQ _ rZ (cS ..))⟩)
theorem zl0 {Q:Option Value→Shared→Prop} (hh:A.handled=none) (hit:s.heap.IsKeyIter it d i es.size ep) (hm:zen s.heap d es ep) (he:es.size≤i) (hQ:∀ h',kq it s.heap h'→Q none { s with heap:=h' }):wpAny (model prog w) A (pyNext (.ref it)) Q E s:=by
 (obtain⟨o,ho,hc,hd⟩:=id hit)
 obtain⟨od,AE,qF,AF⟩:=id hm;have x4:gp "dict_keyiterator" = false:=by decide +kernel
 unfold pyNext; refine aa (cn (br (name:=bU "__next__") hit.typeIs dw (bj dw hit.typeIs gc ?_ (fZ _))));refine aa (ai (aa (aa (aa (dm hit.typeIs (ai (aa (wpAny_fieldsOf ho hd ?_))))))));simp only [x4,aT,if_false]; show wpAny _ _ (if (aE d == cw)=true then _ else _) _ _ s;rw [if_neg (show ¬ ((aE d == cw)=true) from fun z=>aJ z)];refine aa (ai (aa (gV AE AF ?_)));rw [if_neg (show ¬ ((((es.size:Nat):Int) != ((es.size:Nat):Int))=true) by simp)];refine aa (ai (aa (iF AE AF ?_)));rw [if_neg #[M]]; refine ai ?_;simp only [show ¬ ((i:Int) < 0) by lia,if_false,bf,Array.getElem?_eq_none he];refine aa (aa (dm hit.typeIs (ai ?_)));show wpAny _ _ (setField (.ref it) 0 .none >>= _) _ _ s; refine aa (dO ho hd #[M] ?_);show wpAny _ _ (newExc (.type "StopIteration") [] >>= _) _ _ _; simp only [newExc,newTuple];refine aa (aa (cu (aa (m:=firstArgMember _ _) (eh (a:=cw) (by first | rfl | (simp only [firstArgMember]; rfl)) (cu ?_ (by size_fits)))) (by size_fits)));simp only [raiseNew]; refine aa (jo ?_); rw [show A.in1.handled=none from hh];refine aa (ai (kr ?_)); refine aa (cW (T:="StopIteration") (b:=true) ⟨_,aC _ rfl,rfl⟩ gh ?_)
 (exact ai (hQ _ (((cS ..).extBut.push _).push _)))
theorem zjj (hh:A.handled=none) (I d:Addr) (m6:d≠I) (es:Array DictEntry) (ep:Nat) :
  Walks prog w A I [I,d] [I] es.size (fun i v=>∃ e,es[i]? = some e∧v=e.key) (fun i h=>h.IsKeyIter I d i es.size ep∧zen h d es ep) where
 sub:=(fun b hb=>by simp at hb; simp [hb])
 frame:=(fun _ _ _ st hk=>⟨st.1.at fun o e=>hk I #[M] o e,st.2.at' fun o e=>hk d #[M] o e⟩)
 item:=fun i s Q E hi st hQ=>zkU st.1 st.2 (getElem?_pos es i hi) fun h' rZ nI=>hQ _ h' s.toks ⟨es[i],getElem?_pos es i hi,rfl⟩ ⟨rZ,st.2.at' fun o e=>nI.extBut d o m6 e⟩ fun b o hb e=>nI.extBut b o (fun h=>hb (by simp [h])) e
 done:=fun s Q E st hQ=>zl0 hh st.1 st.2 (ah _) fun h' Ag=>hQ h' s.toks fun b o hb e=>Ag b o (fun h=>hb (by simp [h])) e
 self:=(fun _ _ _ _ st hQ=>wpAny_pyIter_keyiter st.1 hQ)
theorem zig (lo:(d == sysModules)=false):PySem.W.KdlSrc prog w "dict" d d es.size (fun i v=>∃ e,es[i]? = some e∧v=e.key) (fun h=>zen h d es ep) where
 type:=fun _ hm=>hm.typeIs
 there:=fun _ hm=>let ⟨_,ho,_⟩:=hm; ⟨aD ho,aD ho⟩
 keep:=(fun _ _ hm hk=>hm.at' fun o e=>hk d (.inl rfl) o e)
 notList:=by decide
 notTuple:=by decide
 hint:=fun _ _ _ _ hm hq=>PySem.W.kdl_hint_dict hm.typeIs hq
 iter:=fun _ _ hh hm=>⟨_,_,(fun _ _ hq=>zkT lo hm hq),zjj hh _ d (by obtain⟨_,ho,_⟩:=id hm; exact aZ (aD ho)) es ep,⟨⟨_,aC _ rfl,rfl,rfl⟩,hm.at' fun o e=>af _ e⟩⟩
end
end PySem
end
section
namespace Srt
open PySem PyProof.Rows
section
variable {prog:Program} {w:World} {A:Around} {E:Value→Shared→Prop} {s:Shared} {κ:SortKind} {val:Keyed→Int}
theorem zbS {vs:List Value} {p:Keyed} (h:p∈(pairsOf vs).toList):p.1∈vs∧p.2=p.1:=by
 rw [iX] at h;obtain⟨i,hi,e⟩:=dW h;rw [List.getElem_zip] at e;rw [← e];exact⟨im _,rfl⟩
theorem znv {vs:List Value} {xs:Array Keyed} (hp:xs.Perm (pairsOf vs)) (hs:SIn val xs 0 (pairsOf vs).size):(xs.map (·.2)).toList.Perm vs∧(xs.map (·.2)).toList.Pairwise fun x y=>val (x,x)≤val (y,y):=by
 (have hl:xs.toList.Perm (vs.zip vs):=by rw [← iX]; exact eN.mp hp)
 have hm:∀ p∈xs.toList,p=(p.2,p.2):=fun p pB=>by
  have:=zbS (by rw [iX]; exact hl.mem_iff.mp pB);exact Prod.ext this.2.symm rfl
 constructor
 ·rw [kF];refine (hl.map (·.2)).trans ?_;rw [show (vs.zip vs).map (·.2)=vs from List.map_snd_zip (ah _)]
 ·rw [kF,bQ,dL];intro i j hi hj qw
  (have qe:i < xs.size:=by simpa using hi)
  (have qp:j < xs.size:=by simpa using hj)
  have h1:=hs i j (bo _) #[O] (by rw [← hp.size_eq]; exact qp);rw [zV (getElem?_pos xs i qe),zV (getElem?_pos xs j qp)] at h1;have e1:=hm xs.toList[i] (im _);have e2:=hm xs.toList[j] (im _);rw [← e1,← e2];simpa using h1
theorem ze9 {a:Addr} {vs:List Value} {n:Nat} {P:PySem.Fin→Shared→Prop} (ho:s.heap.get? a=some (seqObj "list" vs.toArray n)) (lT:vs.length≤sizeLine)
  (og:∀ h',(∀ b o,b≠a→s.heap.get? b=some o→h'.get? b=some o)→2≤vs.length→∀ (Q:SortKind→Shared→Prop) (E:Value→Shared→Prop),Q κ { s with heap:=h' }→wpAny (model prog w) A (keyKind' vs.toArray) Q E { s with heap:=h' })
  (uR:∀ h',(∀ b o,b≠a→s.heap.get? b=some o→h'.get? b=some o)→Cmp prog w A { s with heap:=h' } κ val (pairsOf vs))
  (h:∀ out:Array Value,out.toList.Perm vs→(out.toList.Pairwise fun x y=>val (x,x)≤val (y,y))→P (.done (.ret .none)) { s with heap:=sortedHeap s.heap a vs out }):wpAny (model prog w) A (Builtin.«list.sort» ⟨[.ref a],[]⟩) P E s:=by
 rw [list_sort_plain]
 (have ha:a < s.heap.objs.size:=aD ho)
 have hz:vs.toArray.size=vs.length:=am;refine aa (listItems_at ho rfl (aa (jr ho rfl ?_ (hsz:=by rw [hz]; exact lT))))
 (obtain⟨e1,AB⟩:∃ e1,(s.heap.update a (c7 fun _=>#[])).get? a=some (seqObj "list" #[] e1):=⟨_,get?_update_seq ho (fun _=>#[])⟩)
 refine aa (kt AB rfl (aa (gj (aa (jt (bK ?_))) (hsz:=lT))));have BQ:(((s.heap.update a (c7 fun _=>#[])).push (seqObj "tuple" vs.toArray 0)).push (seqObj "list" #[] 0)).get? a=some (seqObj "list" #[] e1):=af _ (af _ AB);have hk6:∀ b o,b≠a→s.heap.get? b=some o→(((s.heap.update a (c7 fun _=>#[])).push (seqObj "tuple" vs.toArray 0)).push (seqObj "list" #[] 0)).get? b=some o:=fun b o hb e=>af _ (af _ ((Heap.get?_update_ne _ _ _ _ hb).trans e))
 (show wpAny (model prog w) A _ P E { s with heap:=((s.heap.update a (c7 fun _=>#[])).push (seqObj "tuple" vs.toArray 0)).push (seqObj "list" #[] 0) })
 dsimp only;have xj:=uR _ hk6;have fin:∀ lQ:SortSt,SB κ (pairsOf vs) lQ∨(arrOf lQ=pairsOf vs∧failedOf lQ=none)→SIn val (arrOf lQ) 0 (pairsOf vs).size →
   P (.done (.ret .none)) { s with heap:=sortedHeap s.heap a vs ((arrOf lQ).map (·.2)) }:=fun lQ hB hs=>by
  have hp:(arrOf lQ).Perm (pairsOf vs):=by
   rcases hB with hB | hB
   ·exact hB.perm
   ·rw [hB.1]
  obtain⟨b1,b2⟩:=znv hp hs;exact h _ b1 b2
 (by_cases h2:vs.toArray.size < 2)
 ·rw [if_pos h2,if_pos h2];refine aa (ai ?_); rw [StateT.run_pure]; refine aa (ai ?_);dsimp only;refine aa (kt BQ rfl (aa (jr BQ rfl ?_ (hsz2:=by rw [lj]; show (pairsOf vs).size≤_; rw [io]; lia))))
  (simp only [bne_self_eq_false,aT,if_false])
  refine ai (fin (kR general' (vs.toArray.zip vs.toArray) #[] 7 none) (.inr ⟨rfl,rfl⟩) fun i j _ qw hj=>?_);have e:i=j:=by rw [io] at hj; lia
  rw [e];exact cq _
 ·rw [if_neg h2,if_neg h2];refine aa (og _ hk6 #[O] _ _ ?_);refine aa (bZ (znu (a₀:=pairsOf vs) (κ:=κ) (val:=val) (st:=kR κ (vs.toArray.zip vs.toArray) #[] 7 none) (Q:=fun _ lQ=>SB κ (pairsOf vs) lQ∧SIn val (arrOf lQ) 0 (pairsOf vs).size)
   xj ⟨Array.Perm.refl _,rfl,rfl⟩ rfl (by rw [io]; lia) fun lQ a1 a2=>⟨a1,a2⟩) ?_ fun _ _ e=>e)
  rintro⟨⟨⟩,lQ⟩ s' ⟨rfl,hB,hs⟩;dsimp only;refine aa (kt BQ rfl (aa (jr BQ rfl ?_ (hsz2:=aV (Nat.le_of_eq ((lj ..).trans (hB.perm.size_eq.trans (io _)))) #[O]))));rw [hB.failed]
  (simp only [bne_self_eq_false,aT,if_false])
  exact ai (fin lQ (.inl hB) hs)
theorem zjk {v:Value} {vs:List Value} {Q:Value→Shared→Prop} (lT:vs.length≤sizeLine)
  (uS:∀ R:List Value→Shared→Prop,(∀ (h':Heap) (tk:Nat),(∀ b o,s.heap.get? b=some o→h'.get? b=some o)→R vs { s with heap:=h',toks:=tk })→wpAny (model prog w) A.in1 (collect v) R E s)
  (og:∀ s',(∀ b o,s.heap.get? b=some o→s'.heap.get? b=some o)→2≤vs.length→∀ (A':Around) (Q:SortKind→Shared→Prop) (E:Value→Shared→Prop),Q κ s'→wpAny (model prog w) A' (keyKind' vs.toArray) Q E s')
  (uR:∀ s' A',(∀ b o,s.heap.get? b=some o→s'.heap.get? b=some o)→Cmp prog w A' s' κ val (pairsOf vs))
  (h:∀ (h':Heap) (tk:Nat) (out:Array Value) (e:Nat) (D:Addr),(∀ b o,s.heap.get? b=some o→h'.get? b=some o)→(∀ b o,s.heap.get? b=some o→b < D)→h'.get? D=some (seqObj "list" out e)→out.toList.Perm vs→(out.toList.Pairwise fun x y=>val (x,x)≤val (y,y))→Q (.ref D) { s with heap:=h',toks:=tk }) :
  wpAny (model prog w) A (call (.builtin "sorted") [v]) Q E s:=by
 refine g7 kind_sorted plain_sorted entry_sorted (args_sorted1 _) ?_; unfold Builtin.«sorted»;refine aa (m:=checkCount "sorted" 1 1 _) (ai (aa (bZ (uS (fun us s'=>us=vs∧∃ (h':Heap) (tk:Nat),s' = { s with heap:=h',toks:=tk }∧∀ b o,s.heap.get? b=some o→h'.get? b=some o) fun h' tk k=>⟨rfl,h',tk,rfl,k⟩) ?_ fun _ _ e=>e)));rintro us s' ⟨rfl,h1,tk,rfl,kk⟩;refine aa (jt ?_ (hsz:=lT));have vv:(h1.push (seqObj "list" us.toArray 0)).get? h1.objs.size=some (seqObj "list" us.toArray 0):=aC _ rfl;have kn:∀ b o,s.heap.get? b=some o→b≠h1.objs.size:=fun b o e=>aZ (aD (kk b o e))
 refine aa (bK (bj slot_list_sort ⟨_,vv,rfl⟩ entry_list_sort (ze9 (κ:=κ) (val:=val) vv lT (fun h' hk h2 Q E hq=>og _ (fun b o e=>hk b o (kn b o e) (af _ (kk b o e))) h2 _ Q E hq) (fun h' hk=>uR _ _ fun b o e=>hk b o (kn b o e) (af _ (kk b o e))) fun out a1 a2=>⟨_,rfl,?_⟩) (args_list_sort _)));obtain⟨e,he⟩:=sortedHeap_at (out:=out) vv;refine ai ⟨_,rfl,h _ tk out e h1.objs.size (fun b o x=>?_) (fun b o x=>aD (kk _ _ x)) he a1 a2⟩;rw [sortedHeap_old (kn b o x) (by rw [bi]; exact dG (aD (kk _ _ x)))];exact af _ (kk _ _ x)
end
end Srt
end
section
namespace L2
open PySem PySem.Spec PyProof.Rows PySem.Builtin.Str
theorem Inv.above {X:Cx} {lM:List (Addr×Obj)} {σ:St} {H:Hp} {s:Shared} {h':Heap} {tk:Nat} {D:Addr} {o:HO} (I:Inv X lM σ H s) (k:∀ b o,s.heap.get? b=some o→h'.get? b=some o) (hD:∀ b o,s.heap.get? b=some o→b < D)
  (new:zab X.prog X.w (lP H D o) h' D o):H D=none∧Inv X lM σ (lP H D o) { s with heap:=h',toks:=tk }:=by
 have hn:H D=none:=by
  cases e:H D with
  | none=>rfl
  | some u =>
   obtain⟨ob,z⟩:=zkz (I.hok D u e);exact absurd (hD D ob z) (cm _)
 have hL:X.env.locals < D:=by
  obtain⟨m,⟨o,es,ep,ho,_⟩,_⟩:=I.loc;exact hD _ _ ho
 have I1:Inv X lM σ H { s with heap:=h',toks:=tk }:=I.kept k;refine⟨hn,I1.track hn (hU (Nat.lt_of_le_of_lt I.ok.above hL)) (aZ hL) (fun x c e z=>?_) (fun p hp z=>?_) new⟩
 ·obtain⟨v,oc,q,_⟩:=I.cell x c e;exact absurd (hD c oc q) (by rw [z]; exact cm _)
 ·exact absurd (hD p.1 _ (I.pin p hp).1) (by rw [z]; exact cm _)
end L2
end
section
namespace L2
open PySem PySem.Spec PyProof.Rows Srt
def zkV (xs:List V):List Int:=xs.filterMap fun x=>match x with
 | .int n=>some n
 | _=>none
theorem zjl (ns:List Int):zkV (ns.map V.int)=ns:=by
 unfold zkV;rw [List.filterMap_map];induction ns with
 | nil=>rfl
 | cons n ns ih =>
  rw [dt];simp only [Function.comp];rw [ih]
def zcl (H:Hp) (v:Value):List Int:=match v with
 | .ref a=>(match H a with
  | some (.tup xs)=>zkV xs
  | _=>[])
 | _=>[]
theorem zc6 {H:Hp} {a:Addr} {ns:List Int} (h:H a=some (.tup (ns.map V.int))):zcl H (.ref a)=ns:=by
 unfold zcl;simp only [h];exact zjl ns
def zl1 (H:Hp) (k:Nat) (B:Int) (ps:List (Addr×List Int)):Prop:=∀ q∈ps,H q.1=some (.tup (q.2.map V.int))∧q.2.length=k∧∀ n∈q.2,0≤n∧n < B
theorem zc7:∀ (ps:List (Addr×List Int)),zG (ps.map fun q=>V.ref q.1) (ps.map fun q=>aE q.1)
 | []=>.nil
 | q :: ps=>.cons rfl (zc7 ps)
section
variable {X:Cx} {lM:List (Addr×Obj)} {σ:St} {H:Hp} {s:Shared} {k:Nat} {B:Int} {ps:List (Addr×List Int)}
theorem zfE (I:Inv X lM σ H s) {q:Addr×List Int} (h:H q.1=some (.tup (q.2.map V.int))):∃ o lO n,s.heap.get? q.1=some o∧o.cls = .type "tuple"∧o.data = .seq lO n∧IntsAre lO.toList q.2:=by
 obtain⟨lO,r,⟨o,ho,hc,n,hd⟩,hz⟩:=I.tuple (lX.of h);exact⟨o,lO.toArray,n,ho,hc,hd,by simpa using intsAre_of r⟩
theorem znw (I:Inv X lM σ H s) (hT:zl1 H k B ps) (hk:1≤k) {s':Shared} (kk:∀ b o,s.heap.get? b=some o→s'.heap.get? b=some o):∃ fs:List Value,kX s'.heap (ps.map fun q=>aE q.1) fs∧fs.length=ps.length∧∀ v∈fs,∃ n t,v=iz n t:=by
 induction ps with
 | nil=>exact⟨[],trivial,rfl,fun v hv=>by cases hv⟩
 | cons q ps ih =>
  obtain⟨fs,h1,h2,h3⟩:=ih fun q' sT=>hT q' (aj _ sT)
  obtain⟨hq,hl,_⟩:=hT q #[M];obtain⟨o,lO,n,ho,hc,hd,hi⟩:=zfE I hq;have lT:=hi.length;obtain⟨m,ms,e⟩:∃ m ms,q.2=m :: ms:=by
   cases e:q.2 with
   | nil=>rw [e] at hl; simp at hl; lia
   | cons m ms=>exact⟨m,ms,rfl⟩
  rw [e] at hi;cases e2:lO.toList with
  | nil=>rw [e2] at hi; cases hi
  | cons f fr =>
   rw [e2] at hi;cases hi with
   | cons _ t hi =>
    refine⟨.int m t :: fs,jl (kk _ _ ho) hc hd ?_ h1,by simp [h2],fun v hv=>?_⟩
    ·rw [← bd,e2];rfl
    ·rcases (au.mp hv) with rfl | hv
     ·exact⟨m,t,rfl⟩
     ·exact h3 v hv
theorem zfa:∀ ms:List Int,zdE ms ms=false
 | []=>rfl
 | m :: ms=>by rw [zbo,if_pos rfl,zfa ms]
theorem znx (I:Inv X lM σ H s) (hT:zl1 H k B ps) (hB:1≤B) {s':Shared} {A':Around} (kk:∀ b o,s.heap.get? b=some o→s'.heap.get? b=some o) :
  Cmp X.prog X.w A' s' (tuples' true) (fun p=>num B (zcl H p.1)) (pairsOf (ps.map fun q=>aE q.1)):=by
 intro x y hx hy Q E hQ;obtain⟨qx,mx,ex⟩:=az.mp (zbS hx).1;obtain⟨qy,my,ey⟩:=az.mp (zbS hy).1;obtain⟨yF,xb,hx3⟩:=hT qx mx;obtain⟨hy1,hy2,hy3⟩:=hT qy my;obtain⟨ox,ix,nx,gx,cx,dx,ax⟩:=zfE I yF;obtain⟨oy,iy,ny,gy,cy,dy,ay⟩:=zfE I hy1;have ev:decide ((fun p:Keyed=>num B (zcl H p.1)) x < (fun p:Keyed=>num B (zcl H p.1)) y)=zdE qx.2 qy.2:=by
  rw [zdV hB (xb.trans hy2.symm) hx3 hy3,← zc6 yF,← zc6 hy1];simp only [ex,ey]
 rw [ev] at hQ;rw [← ex,← ey];refine lp (kk _ _ gx) dx (kk _ _ gy) dy (zif 0 ax ay (xb.trans hy2.symm) ?_);have hsz:decide (ix.size < iy.size)=false:=by
  have e1:=ax.length;have e2:=ay.length;rw [bw] at e1 e2;exact decide_eq_false #[O]
 rw [hsz];by_cases e:qx.2=qy.2
 ·rw [if_pos e];rw [e,zfa] at hQ;exact hQ
 ·rw [if_neg e];exact hQ
theorem zkW (hT:zl1 H k B ps) {out:Array Value} (hp:out.toList.Perm (ps.map fun q=>aE q.1)) (hs:out.toList.Pairwise fun x y=>num B (zcl H x)≤num B (zcl H y)) :
  ∃ qY:List (Addr×List Int),qY.Perm ps∧(qY.Pairwise fun a b=>num B a.2≤num B b.2)∧out.toList=qY.map fun q=>aE q.1:=by
 let g:Value→Addr×List Int:=fun v=>match v with
  | .ref a=>(a,zcl H (.ref a))
  | _=>(0,[])
 have hg:∀ q∈ps,g (.ref q.1)=q:=fun q hq=>Prod.ext rfl (zc6 (hT q hq).1)
 have hv:∀ v∈out.toList,∃ q∈ps,v = .ref q.1:=fun v hv=>by
  obtain⟨q,hq,e⟩:=az.mp (hp.mem_iff.mp hv);exact⟨q,hq,e.symm⟩
 refine⟨out.toList.map g,?_,?_,?_⟩
 ·refine (hp.map g).trans ?_;rw [bh];have:ps.map (g ∘ fun q=>aE q.1)=ps:=by
   conv=>rhs; rw [← gu ps]
   exact bY fun q hq=>hg q hq
  rw [this]
 ·rw [bQ];refine cK (fun {x y} hx hy h=>?_) hs;obtain⟨q,hq,rfl⟩:=hv x hx;obtain⟨q',sT,rfl⟩:=hv y hy;exact h
 ·rw [bh]
  conv=>lhs; rw [← gu out.toList]
  refine bY fun v AG=>?_
  obtain⟨q,hq,rfl⟩:=hv v AG;rfl
end
theorem zjm {M:Model} {h:Heap} {n:Int} {t:Tok}:fF M h (typeOf (.int n t)) (.type "int"):=PySem.W.Looks.of_pure rfl
theorem zl2 {X:Cx} {lM:List (Addr×Obj)} {σ:St} {H:Hp} {s:Shared} {d:Addr} {lV:List (List Key×V)} {mo:List (List Int)} (I:Inv X lM σ H s) (hd:H d=some (.dT lV)) (hk:lV.map (·.1)=mo.map (·.map dh)) :
  (d == sysModules)=false∧lV.length≤sizeLine∧∃ (ps:List (Addr×List Int)) (es:Array DictEntry) (ep:Nat),zen s.heap d es ep∧es.toList.map (·.key)=(ps.map fun q=>aE q.1)∧ps.map (·.2)=mo∧∀ q∈ps,H q.1=some (.tup (q.2.map V.int)):=by
 obtain⟨hz,hs,xs,hp,o,es,ep,ho,hx,he,vy,o8⟩:=I.hok d _ hd;refine⟨hs,hz,?_⟩;have key:∀ {lV:List (List Key×V)} {xs:List (List Key×Addr×Value)} {mo:List (List Int)},Paired (fun (p:List Key×V) (q:List Key×Addr×Value)=>p.1=q.1∧H q.2.1=some (.tup (p.1.map kV))∧RelV p.2 q.2.2) lV xs→lV.map (·.1)=mo.map (·.map dh) →
   ∃ ps:List (Addr×List Int),xs.map (fun x=>aE x.2.1)=(ps.map fun q=>aE q.1)∧ps.map (·.2)=mo∧∀ q∈ps,H q.1=some (.tup (q.2.map V.int)):=by
  intro lV xs mo hp;induction hp generalizing mo with
  | nil =>
   intro e;cases mo with
   | nil=>exact⟨[],rfl,rfl,fun q hq=>by cases hq⟩
   | cons m mo=>simp at e
  | @cons x y l1 l2 h1 h2 ih =>
   intro e;cases mo with
   | nil=>simp at e
   | cons m mo =>
    rw [aR,aR] at e;obtain⟨e1,e2⟩:=d6 e;obtain⟨ps,a1,a2,a3⟩:=ih e2;obtain⟨_,h12,_⟩:=h1;refine⟨(y.2.1,m) :: ps,by rw [aR,aR,a1],by rw [aR,a2],fun q hq=>?_⟩;rcases (au.mp hq) with rfl | hq
    ·rw [h12,e1,bh];rfl
    ·exact a3 q hq
 obtain⟨ps,a1,a2,a3⟩:=key hp hk;refine⟨ps,es,ep,⟨o,ho,hx,he⟩,?_,a2,a3⟩;rw [vy,bh,← a1];rfl
theorem zfF {X:Cx} (hc:X.calm=true):zbB X (.builtin "sorted") (fun xs H Q=>∃ (d:Addr) (k:Nat) (B:Int) (lV:List (List Key×V)) (mo:List (List Int)),xs = [.ref d]∧H d=some (.dT lV)∧lV.map (·.1)=mo.map (·.map dh)∧(∀ ms∈mo,ms.length=k∧∀ n∈ms,0≤n∧n < B)∧1≤k∧1≤B ∧
  ∀ (l:Addr) (qY:List (Addr×List Int)),H l=none→(qY.map (·.2)).Perm mo→(qY.Pairwise fun a b=>num B a.2≤num B b.2)→(∀ q∈qY,H q.1=some (.tup (q.2.map V.int)))→Q (.ref l) (lP H l (.lst (qY.map fun q=>V.ref q.1)))):=by
 intro lM s σ H xs us Q I r h;obtain⟨d,k,B,lV,mo,rfl,hd,x5,pH,hk,hB,q⟩:=h;obtain⟨u,rfl,rx⟩:=vals1 r;cases rx;obtain⟨hs,hz,ps,es,ep,Dz,BR,mw,hH⟩:=zl2 I hd x5;have hT:zl1 H k B ps:=fun q' sT=>⟨hH q' sT,pH q'.2 (by rw [← mw]; exact du sT)⟩
 have hlp:ps.length=lV.length:=by
  have e1:=congrArg eQ mw;have e2:=congrArg eQ x5;rw [ae] at e1;rw [ae,ae] at e2;lia
 have vy:es.size=ps.length:=by
  have:=congrArg eQ BR;rw [ae,ae,bw] at this;exact this
 refine zjk (vs:=ps.map fun q=>aE q.1) (κ:=tuples' true) (val:=fun p=>num B (zcl H p.1)) (by rw [ae]; lia) (fun R hR=>?_) (fun s' kk h2 A' Q' E' sT=>?_) (fun s' A' kk=>znx I hT hB kk) fun h' tk out e D kk hD x6 hp hs=>?_
 ·refine jA (zig (es:=es) (ep:=ep) hs) (by simp [I.ok.hd hc]) Dz #[O] fun h' tk acc kk qI=>?_
  have:acc.toList=ps.map fun q=>aE q.1:=by
   rw [← BR];refine er fun j=>?_
   by_cases hj:j < es.size
   ·have AH:j < acc.size:=by rw [qI.1]; exact hj
    obtain⟨e',h1,h2⟩:=qI.2 j acc[j] (getElem?_pos acc j AH);rw [bd,getElem?_pos acc j AH,ap,bd,h1,h2];rfl
   ·rw [cE (by rw [bw,qI.1]; lia),cE (by rw [ae,bw]; lia)]
  rw [this];exact hR h' tk kk
 ·obtain⟨fs,k1,k2,k3⟩:=znw I hT hk kk;exact kG (T:=.type "int") k1 (by rw [ae] at h2; lia) (fun v hv=>by obtain⟨n,t,rfl⟩:=k3 v hv; exact zjm) rfl sT
 ·obtain⟨qY,p1,p2,p3⟩:=zkW hT hp hs;have hl:=p1.length_eq;obtain⟨hn,I2⟩:=I.above (tk:=tk) (D:=D) (o:=.lst (qY.map fun q=>V.ref q.1)) kk hD ⟨by rw [ae]; lia,qY.map fun q=>aE q.1,e,zc7 qY,by rw [← p3]; exact x6⟩;exact⟨.ref D,_,I2,rfl,q D qY hn (by rw [← mw]; exact p1.map _) p2 fun q' sT=>(hT q' (p1.mem_iff.mp sT)).1⟩
end L2
end
section
namespace L2
open PySem PySem.Spec PyProof.Rows
section
variable {X:Cx} {elt t1 i1 t2 i2:Expr} {f1 f2:List Expr} {scope:Scope} {pos:Pos} {N':List Str} {ix:List (Option Nat)} {DA yI:List Nat} {g1 g2:TG} {ts1 BS:TT} {te:TE} {wi1 BU:TI}
theorem zny (hc:X.calm=true) (DB:GS yI g2) (DC:∀ s₃ H₃ ex lM,PI (zM X N' scope s₃ H₃ ex lM) t2 i2 BU)
  (An:∀ s₃ H₃ ex lM,PG (zM X N' scope s₃ H₃ ex lM) t2 g2) (DD:∀ s₃ H₃ ex lM,zdC (zM X N' scope s₃ H₃ ex lM) f2 BS) (he:∀ s₃ H₃ ex lM,PE (zM X N' scope s₃ H₃ ex lM) elt te)
  (nK:∀ s₃ H₃ ex lM x,foldedSetIterable i2 (zM X N' scope s₃ H₃ ex lM).env x=pure x) :
  ∀ s₃ H₃ ex lM D,PM (zM X N' scope s₃ H₃ ex lM) D yI ((fun D env=>zhX (.ListComp elt [⟨t1,i1,f1,0⟩,⟨t2,i2,f2,0⟩] scope pos) i2 1 (.ref D) env) D (zM X N' scope s₃ H₃ ex lM).env) (zkb BU g2 BS (zka te)):=by
 intro s₃ H₃ ex lM D;have h:=zna (Y:=zM X N' scope s₃ H₃ ex lM) (D:=D) (js:=yI) (js':=[]) (elt:=elt) (gens:=[⟨t1,i1,f1,0⟩,⟨t2,i2,f2,0⟩]) (scope:=scope) (pos:=pos) (d:=1) (p:=i2.pos) hc rfl DB (fun _ _ z=>by cases z) (DC s₃ H₃ ex lM) (An s₃ H₃ ex lM) (DD s₃ H₃ ex lM) (zg4 rfl (he s₃ H₃ ex lM)) rfl (fun it=>znc it D _) (nK s₃ H₃ ex lM);rw [bI] at h;exact h
theorem zhp {i:Nat} {x:Str} {pos' oj:Pos} (hN:X.N.Nodup) (vx:X.N[i]? = some x) (hx:Loc X.env.scope x) (SC:CompSc X N' ix scope) (hc:X.calm=true) (gs1:GS DA g1) (DB:GS yI g2) (pE:∀ j∈DA,j∉yI) (vV:∀ j∈DA++yI,ix[j]? = some none) (hi1:PI X t1 i1 wi1)
  (x8:∀ s₃ H₃ ex lM,PG (zM X N' scope s₃ H₃ ex lM) t1 g1) (ht1:∀ s₃ H₃ ex lM,zdC (zM X N' scope s₃ H₃ ex lM) f1 ts1) (DC:∀ s₃ H₃ ex lM,PI (zM X N' scope s₃ H₃ ex lM) t2 i2 BU)
  (An:∀ s₃ H₃ ex lM,PG (zM X N' scope s₃ H₃ ex lM) t2 g2) (DD:∀ s₃ H₃ ex lM,zdC (zM X N' scope s₃ H₃ ex lM) f2 BS) (he:∀ s₃ H₃ ex lM,PE (zM X N' scope s₃ H₃ ex lM) elt te)
  (Af:swapsWith (.ListComp elt [⟨t1,i1,f1,0⟩,⟨t2,i2,f2,0⟩] scope pos) (some (.Name x pos')) oj.line X.env=pure true:=by rfl)
  (hs:∀ x,foldedSetIterable i1 X.env x=pure x:=by intro _; rfl) (nK:∀ s₃ H₃ ex lM x,foldedSetIterable i2 (zM X N' scope s₃ H₃ ex lM).env x=pure x:=by intros; rfl) (hf:X.fn x=true∨X.env.scope.names.lookup x=some .local:=by first | exact .inl rfl | exact .inr rfl | assumption) :
  PS X (.Assign [.Name x pos'] (.ListComp elt [⟨t1,i1,f1,0⟩,⟨t2,i2,f2,0⟩] scope pos) oj) (zex (zg3 ix wi1 g1 ts1 (zkb BU g2 BS (zka te))) (zaQ i)) :=
 zdq hN vx hx SC hc gs1 pE vV hi1 x8 ht1 (zny hc DB DC An DD he nK) (fun it D env=>znb it D env) Af hs hf
end
theorem zmI {J:It} {n:Nat} {g:TG} {ts:TT} {tm:TM} {σ0:St} {Q:List V→Hp→Prop} {ys:List V} {H:Hp} (Pv:Nat→List V→Hp→Prop) (h0:Pv 0 ys H) (vT:∀ i ys H,i < n→Pv i ys H→J.go i H) (oE:∀ ys H,Pv n ys H→J.stop n H)
  (hs:∀ i x ys H H',i < n→Pv i ys H→J.yld i H x H'→g x σ0 H' fun σ2 H2=>ts σ2 H2 fun b H3=>if b=true then tm ys σ2 H3 (Pv (i+1)) else Pv (i+1) ys H3)
  (hd:∀ ys H,Pv n ys H→Q ys H):cIn g ts tm σ0 J Q ys H:=by
 refine⟨fun i m ys H=>m=n - i∧i≤n∧Pv i ys H,⟨n,#[M],bo _,h0⟩,?_⟩;rintro i m ys H ⟨rfl,hi,p⟩;by_cases ml:i < n
 ·exact .inr ⟨vT i ys H ml p,Pv (i+1),fun pD H' p'=>⟨n - (i+1),#[O],rfl,ml,p'⟩,fun x H' y=>hs i x ys H H' ml p y⟩
 ·have e:i=n:=by lia
  subst e;exact .inl ⟨oE ys H p,hd ys H p⟩
def znz (sc:Scope) (x:Str):Bool:=match sc.names.lookup x with
 | some .local=>true
 | some .cell=>true
 | some .free=>true
 | _=>false
theorem zl3 {sc:Scope} {x:Str} (h:znz sc x=true):Vis sc x:=by
 unfold znz at h;unfold Vis;cases e:sc.names.lookup x with
 | none=>rw [e] at h; cases h
 | some k=>cases k <;> simp_all
def pvB (N:List Str) (sc:Scope) (i:Nat) (x:Str):Bool:=decide (N[i]? = some x) && znz sc x && !(x == ("__debug__" : Str)) && !(x == ("__classdict__" : Str))
theorem pvx {X:Cx} (i:Nat) {x:Str} {pos:Pos} (h:pvB X.N X.env.scope i x=true):PE X (.Name x pos) (znP i):=by
 unfold pvB at h;simp only [dQ,kb,decide_eq_true_eq] at h;exact zmR h.1.1.1 (zl3 h.1.1.2) h.1.2 h.2
end L2
end
section
namespace My
open PySem L2 PyProof.Rows
def nxt {α:Type} (xs:List α) (c:Nat×List α):List (Nat×List α):=(bg (xs.length - c.1)).map fun j=>(c.1+j+1,c.2++xs[c.1+j]?.toList)
def chs {α:Type} (xs:List α):Nat→List (Nat×List α)
 | 0=>[(0,[])]
 | m+1=>(chs xs m).flatMap (nxt xs)
theorem zfG {α:Type} (xs:List α) (c:Nat×List α):(nxt xs c).length=xs.length - c.1:=by unfold nxt; rw [ae,dI]
theorem zl4 {α:Type} {xs:List α} {c:Nat×List α} {j:Nat} {x:α} (h:xs[c.1+j]? = some x):(nxt xs c)[j]? = some (c.1+j+1,c.2++[x]):=by
 have hj:j < xs.length - c.1:=by
  have:=(ak.mp h).1;lia
 unfold nxt;rw [ap,jB hj];simp [h]
theorem zih:∀ r:Nat,((bg r).map fun j=>2 ^ (r - j - 1)).sum+1=2 ^ r
 | 0=>rfl
 | r+1=>by
  rw [iI,aR,ju,bh];have e:((bg r).map ((fun j=>2 ^ (r+1 - j - 1)) ∘ Nat.succ))=(bg r).map fun j=>2 ^ (r - j - 1):=bY fun j _=>by
   show 2 ^ (r+1 - (j+1) - 1)=2 ^ (r - j - 1);congr 1;lia
  rw [e];have:=zih r;rw [jV];show 2 ^ (r+1 - 0 - 1)+_+1=_;rw [show r+1 - 0 - 1=r from by lia];lia
def pot {α:Type} (n:Nat) (cs:List (Nat×List α)):Nat:=(cs.map fun c=>2 ^ (n - c.1)).sum
theorem zl5 {α:Type} (xs:List α) (c:Nat×List α):pot xs.length (nxt xs c)≤2 ^ (xs.length - c.1):=by
 unfold pot nxt;rw [bh];have e:((bg (xs.length - c.1)).map ((fun c:Nat×List α=>2 ^ (xs.length - c.1)) ∘ fun j=>(c.1+j+1,c.2++xs[c.1+j]?.toList)))=(bg (xs.length - c.1)).map fun j=>2 ^ (xs.length - c.1 - j - 1):=bY fun j _=>by
  show 2 ^ (xs.length - (c.1+j+1))=_;congr 1;lia
 rw [e];have:=zih (xs.length - c.1);lia
theorem zgw {α:Type} (xs:List α):∀ cs:List (Nat×List α),pot xs.length (cs.flatMap (nxt xs))≤pot xs.length cs
 | []=>ah _
 | c :: cs=>by
  have h1:=zl5 xs c;have h2:=zgw xs cs;rw [gW];unfold pot at h1 h2 ⊢;rw [aw,List.sum_append,aR,ju];lia
theorem zii {α:Type} (n:Nat):∀ cs:List (Nat×List α),cs.length≤pot n cs
 | []=>ah _
 | c :: cs=>by
  have h:=zii n cs;have:0 < 2 ^ (n - c.1):=Nat.pos_of_ne_zero #[M];unfold pot at h ⊢;rw [aR,ju,bG];lia
theorem zij {α:Type} (xs:List α):∀ m,pot xs.length (chs xs m)≤2 ^ xs.length
 | 0=>by
  unfold chs pot;simp
 | m+1=>aV (zgw xs (chs xs m)) (zij xs m)
theorem zl6 {α:Type} (xs:List α) (m:Nat):(chs xs m).length≤2 ^ xs.length:=aV (zii _ _) (zij xs m)
theorem zdm {α:Type} {xs:List α} (m:Nat) (h:xs.length≤16):(chs xs m).length≤65536:=aV (zl6 xs m) (aV (eL #[D] h) #[D])
theorem zjn {α β:Type} {f:α→List β} {l:List α} {i j:Nat} {c:α} (hc:l[i]? = some c) (hj:j < (f c).length):((l.take i).flatMap f).length+j < (l.flatMap f).length:=by
 have e:l.flatMap f=(l.take i).flatMap f++(f c++(l.drop (i+1)).flatMap f):=by
  conv=>lhs; rw [zb4 hc]
  rw [jC,gW]
 rw [e,aB,aB];lia
theorem zjo {α β:Type} {f:α→List β} {l:List α} {i:Nat} {c:α} (hc:l[i]? = some c):(l.take (i+1)).flatMap f=(l.take i).flatMap f++f c:=by
 rw [take_snoc hc,jC,gW,List.flatMap_nil,bI]
theorem znA {α:Type} {xs:List α}:∀ {m:Nat} {c:Nat×List α},c∈chs xs m→c.1≤xs.length
 | 0,c,h=>by
  unfold chs at h;rw [aY] at h;subst h;exact bo _
 | m+1,c,h=>by
  unfold chs at h;obtain⟨c',_,hc⟩:=fL.mp h;unfold nxt at hc;obtain⟨j,hj,rfl⟩:=az.mp hc;have:=bF.mp hj;show c'.1+j+1≤xs.length;lia
theorem zgx {α:Type} {xs:List α}:∀ {m:Nat} {c:Nat×List α},c∈chs xs m→c.2.length≤m
 | 0,c,h=>by
  unfold chs at h;rw [aY] at h;subst h;exact ah _
 | m+1,c,h=>by
  unfold chs at h;obtain⟨c',hm,hc⟩:=fL.mp h;have:=zgx hm;unfold nxt at hc;obtain⟨j,hj,rfl⟩:=az.mp hc;show (c'.2++xs[c'.1+j]?.toList).length≤m+1;rw [aB];have:xs[c'.1+j]?.toList.length≤1:=by cases xs[c'.1+j]? <;> simp
  lia
theorem Paired.get {α β:Type} {F:α→β→Prop}:∀ {l₁:List α} {l₂:List β},Paired F l₁ l₂→∀ {i:Nat} {a:α},l₁[i]? = some a→∃ b,l₂[i]? = some b∧F a b
 | _,_,.nil,i,a,h=>by simp at h
 | _,_,.cons r t,0,a,h=>by
  (simp only [iu,kg] at h)
  subst h;exact⟨_,rfl,r⟩
 | _,_,.cons r t,i+1,a,h=>by
  rw [dn] at h;obtain⟨b,hb,f⟩:=Paired.get t h;exact⟨b,by rw [dn]; exact hb,f⟩
def zl7 (H:Hp) (t:Addr) (c:Nat×List V):Prop:=∃ L,H t=some (.tup [.int (c.1:Int),.ref L])∧H L=some (.lst c.2)
theorem zl7.same {H H':Hp} (s:zA H H') {t:Addr} {c:Nat×List V} (h:zl7 H t c):zl7 H' t c:=let ⟨L,h1,h2⟩:=h; ⟨L,s _ _ h1,s _ _ h2⟩
def zeo (H:Hp):List Addr→List (Nat×List V)→Prop:=Paired (zl7 H)
theorem zeo.same {H H':Hp} (s:zA H H') {ts:List Addr} {cs:List (Nat×List V)} (h:zeo H ts cs):zeo H' ts cs:=bp (fun _ _ z=>z.same s) h
def zgy (H:Hp):List Addr→List (List V)→Prop:=Paired fun l pk=>H l=some (.lst pk)
theorem zgy.same {H H':Hp} (s:zA H H') {ts:List Addr} {cs:List (List V)} (h:zgy H ts cs):zgy H' ts cs:=bp (fun _ _ z=>s _ _ z) h
def zhq (K:ag):Sp:=fun vs H Q _=>∃ (a:Addr) (m:Nat) (xs:List V),vs = [.ref a,.int (m:Int)]∧lN K H a xs∧xs.length≤16∧m≤1000 ∧
 ∀ (l:Addr) (ls:List Addr) (H':Hp),H l=none→zA H H'→H' l=some (.lst (ls.map V.ref))→zgy H' ls ((chs xs m).map (·.2))→Q (.ref l) H'
def quo (p r:Int):List Int→List Int
 | []=>[]
 | [_]=>[]
 | _ :: d :: cs=>zu p r (d :: cs) :: quo p r (d :: cs)
theorem zik (p r:Int):∀ (c:Int) (cs:List Int),(quo p r (c :: cs)).length=cs.length
 | _,[]=>rfl
 | _,d :: cs=>by
  show (quo p r (d :: cs)).length+1=cs.length+1;rw [zik p r d cs]
theorem zkX {p r x:Int}:∀ d:List Int,Cg p (zu p x d - zu p r d) ((x - r)*zu p x (quo p r d))
 | []=>Cg.of_eq (by show (0:Int) - 0=(x - r)*0; lia)
 | [c]=>by
  have h1:Cg p (zu p x [c]) (c+x*0):=zal p x c [];have h2:Cg p (zu p r [c]) (c+r*0):=zal p r c [];refine (h1.sub h2).trans (Cg.of_eq ?_);show c+x*0 - (c+r*0)=(x - r)*0;lia
 | c :: d :: cs=>by
  have h1:=zal p x c (d :: cs);have h2:=zal p r c (d :: cs);have ih:=zkX (p:=p) (r:=r) (x:=x) (d :: cs);have h3:Cg p (zu p x (quo p r (c :: d :: cs))) (zu p r (d :: cs)+x*zu p x (quo p r (d :: cs))):=zal p x _ _;have h4:=(Cg.refl p (x - r)).mul h3;have h5:=(Cg.refl p x).mul ih;refine (h1.sub h2).trans (Cg.symm (h4.trans ?_));refine (Cg.of_eq (show _=(x - r)*zu p r (d :: cs)+x*((x - r)*zu p x (quo p r (d :: cs))) by grind)).trans ?_;refine ((Cg.refl p ((x - r)*zu p r (d :: cs))).add h5.symm).trans (Cg.of_eq (by grind))
theorem zgz {p r:Int}:∀ d:List Int,Cg p (zu p r d) 0→(∀ c∈quo p r d,Cg p c 0)→∀ c∈d,Cg p c 0
 | [],_,_,c,hc=>by cases hc
 | [a],h,_,c,hc=>by
  obtain rfl:c=a:=by simpa using hc
  have h1:Cg p (zu p r [c]) (c+r*0):=zal p r c [];exact ((Cg.of_eq #[O]).trans h1.symm).trans h
 | a :: d :: cs,h,hq,c,hc=>by
  have h0:Cg p (zu p r (d :: cs)) 0:=hq _ aF;rcases (au.mp hc) with rfl | hc
  ·have h1:=zal p r c (d :: cs);have h2:=(Cg.refl p r).mul h0;have h3:=(h1.symm.trans h).sub h2;exact (Cg.of_eq #[O]).trans (h3.trans (Cg.of_eq #[O]))
  ·exact zgz (d :: cs) h0 (fun c hc=>hq c (aj _ hc)) c hc
theorem zjp {p a y:Int} (hp:p∈zz) (ha0:a % p≠0) (h:Cg p (a*y) 0):Cg p y 0:=by
 have rp:=zN hp;have g0:=aQ a (show p≠0 by lia);have g1:=aK a (show 0 < p by lia);have hi:=zfs hp (h:=a % p) #[O] g1;have h1:Cg p (inv p (a % p)*(a % p)*y) (1*y):=hi.mul (Cg.refl p y);have h2:Cg p (inv p (a % p)*(a % p)*y) (inv p (a % p)*(a*y)):=by
  have:=((Cg.refl p (inv p (a % p))).mul (Cg.emod p a)).mul (Cg.refl p y);exact this.trans (Cg.of_eq (by grind))
 have h3:=(Cg.refl p (inv p (a % p))).mul h;exact (Cg.of_eq #[O]).trans (h1.symm.trans (h2.trans (h3.trans (Cg.of_eq #[O]))))
theorem zep {p:Int} (hp:p∈zz):∀ (n:Nat) (d xs:List Int),d.length=n→n≤xs.length→xs.Nodup→(∀ x∈xs,0≤x∧x < p)→(∀ x∈xs,Cg p (zu p x d) 0)→∀ c∈d,Cg p c 0
 | 0,d,xs,hd,_,_,_,_,c,hc=>by
  rw [dq] at hd;subst hd;cases hc
 | n+1,d,[],hd,hx,_,_,_,c,hc=>by simp at hx
 | n+1,[],r :: xs,hd,hx,_,_,_,c,hc=>by cases hc
 | n+1,a :: cs,r :: xs,hd,hx,o8,pH,hz,c,hc=>by
  have rp:=zN hp;obtain⟨r0,r1⟩:=pH r aF;have hr:=hz r aF;refine zgz (a :: cs) hr (zep hp n (quo p r (a :: cs)) xs (by rw [zik]; simpa using hd) (by simpa using hx) (c6.mp o8).2 (fun x h=>pH x (aj _ h)) fun x h=>?_) c hc;obtain⟨x0,x1⟩:=pH x (aj _ h);have m6:x≠r:=fun e=>(c6.mp o8).1 (e ▸ h)
  have he:=zkX (p:=p) (r:=r) (x:=x) (a :: cs);have h0:=(hz x (aj _ h)).sub hr;refine zjp hp (a:=x - r) (fun e=>?_) (he.symm.trans (h0.trans (Cg.of_eq #[O])));have:Cg p x r:=by
   have h1:Cg p (x - r) 0:=Cg.of_mod (by rw [e]; simp);have h2:=h1.add (Cg.refl p r);exact (Cg.of_eq #[O]).trans (h2.trans (Cg.of_eq #[O]))
  exact m6 (this.eq x0 x1 r0 r1)
theorem zgA {p x:Int}:∀ {a b:List Int},a.length=b.length→Cg p (zu p x (aW (· - ·) a b)) (zu p x a - zu p x b)
 | [],[],_=>Cg.of_eq rfl
 | c :: a,d :: b,h=>by
  have ih:=zgA (p:=p) (x:=x) (a:=a) (b:=b) (by simpa using h);have h1:=zal p x c a;have h2:=zal p x d b;have h3:Cg p (zu p x (aW (· - ·) (c :: a) (d :: b))) (c - d+x*zu p x (aW (· - ·) a b)):=zal p x (c - d) _;refine h3.trans (((Cg.refl p (c - d)).add ((Cg.refl p x).mul ih)).trans (Cg.symm ((h1.sub h2).trans (Cg.of_eq (by grind)))))
 | [],_ :: _,h=>by simp at h
 | _ :: _,[],h=>by simp at h
theorem zgB {p:Int}:∀ {a b:List Int},a.length=b.length→(∀ c∈a,0≤c∧c < p)→(∀ c∈b,0≤c∧c < p)→(∀ c∈aW (· - ·) a b,Cg p c 0)→a=b
 | [],[],_,_,_,_=>rfl
 | c :: a,d :: b,h,ha,hb,hz=>by
  obtain⟨c0,c1⟩:=ha c aF;obtain⟨d0,d1⟩:=hb d aF;have h1:Cg p (c - d) 0:=hz _ aF;have h2:Cg p c d:=(Cg.of_eq #[O]).trans ((h1.add (Cg.refl p d)).trans (Cg.of_eq #[O]));rw [h2.eq c0 c1 d0 d1,zgB (by simpa using h) (fun c hc=>ha c (aj _ hc)) (fun c hc=>hb c (aj _ hc)) (fun c hc=>hz c (aj _ hc))]
 | [],_ :: _,h,_,_,_=>by simp at h
 | _ :: _,[],h,_,_,_=>by simp at h
theorem zdy {p:Int} (hp:p∈zz) {a b xs:List Int} (hl:a.length=b.length) (hx:a.length≤xs.length) (o8:xs.Nodup) (pH:∀ x∈xs,0≤x∧x < p) (ha:∀ c∈a,0≤c∧c < p) (hb:∀ c∈b,0≤c∧c < p)
  (he:∀ x∈xs,zu p x a=zu p x b):a=b:=by
 refine zgB hl ha hb (zep hp a.length _ xs (by rw [gd]; lia) hx o8 pH fun x h=>?_);refine (zgA hl).trans (Cg.of_eq ?_);rw [he x h];lia
theorem zkY {p:Int} (hp:p∈zz) {pk:List (Int×Int)} (hP:Pts p pk) {q:List Int} (hl:q.length=pk.length) (hq:∀ c∈q,0≤c∧c < p) (hh:∀ a∈pk,zu p a.1 q=a.2):q=thr p pk:=by
 obtain⟨h1,h2,h3⟩:=zg8 hp hP;refine zdy hp (xs:=pk.map (·.1)) #[O] (by rw [ae]; lia) hP.nd (fun x hx=>?_) hq h2 fun x hx=>?_
 ·obtain⟨a,ha,rfl⟩:=az.mp hx;exact⟨(hP.rg a ha).1,(hP.rg a ha).2.1⟩
 ·obtain⟨a,ha,rfl⟩:=az.mp hx;rw [hh a ha,h3 a ha]
theorem Pts.sub {p:Int} {pk lW:List (Int×Int)} (h:Pts p lW) (hs:pk.Sublist lW):Pts p pk:=⟨(hs.map _).nodup h.nd,fun q hq=>h.rg q (hs.subset hq)⟩
theorem zil {α:Type} {xs:List α}:∀ {m:Nat} {c:Nat×List α},c∈chs xs m→c.2.Sublist (xs.take c.1)∧c.2.length=m∧c.1≤xs.length
 | 0,c,h=>by
  unfold chs at h;rw [aY] at h;subst h;exact⟨fM _,rfl,bo _⟩
 | m+1,c,h=>by
  unfold chs at h;obtain⟨c',hm,hc⟩:=fL.mp h;obtain⟨h1,h2,h3⟩:=zil hm;unfold nxt at hc;obtain⟨j,hj,rfl⟩:=az.mp hc
  (have qp:=bF.mp hj)
  have ml:c'.1+j < xs.length:=by lia
  have e:xs[c'.1+j]? = some xs[c'.1+j]:=ao ml;dsimp only;rw [e];refine⟨?_,by rw [aB,h2]; rfl,#[O]⟩;rw [take_snoc e];refine List.Sublist.append (h1.trans ?_) (List.Sublist.refl _);have:xs.take c'.1=(xs.take (c'.1+j)).take c'.1:=by rw [k9]; congr 1; lia
  rw [this];exact cf _ _
theorem sub_one {α:Type} {l:List α} {x:α} (h:l.Sublist [x]):l = []∨l = [x]:=by
 cases h with
 | cons _ h=>exact .inl (fN.mp h)
 | cons_cons _ h=>exact .inr (by rw [fN.mp h])
theorem zdW {α:Type} {xs:List α}:∀ {m n:Nat} {pk:List α},pk.Sublist (xs.take n)→pk.length=m→∃ s,s≤n∧(s,pk)∈chs xs m
 | 0,n,pk,h,hl=>by
  rw [dq] at hl;subst hl;exact⟨0,bo _,by unfold chs; exact aY.mpr rfl⟩
 | m+1,0,pk,h,hl=>by
  rw [dP] at h;rw [fN.mp h] at hl;simp at hl
 | m+1,n+1,pk,h,hl=>by
  cases e:xs[n]? with
  | none =>
   have:xs.take (n+1)=xs.take n:=by
    have:=eX.mp e;rw [aO #[O],aO this]
   rw [this] at h;obtain⟨s,h1,h2⟩:=zdW (m:=m+1) (n:=n) h hl;exact⟨s,#[O],h2⟩
  | some x =>
   rw [take_snoc e] at h;obtain⟨l1,l2,rfl,h1,h2⟩:=List.sublist_append_iff.mp h;rcases (sub_one h2) with rfl | rfl
   ·rw [bI] at hl ⊢;obtain⟨s,a1,a2⟩:=zdW (m:=m+1) (n:=n) h1 hl;exact⟨s,#[O],a2⟩
   ·obtain⟨s,a1,a2⟩:=zdW (m:=m) (n:=n) h1 (by simpa using hl);refine⟨n+1,ah _,?_⟩;unfold chs;refine fL.mpr ⟨(s,l1),a2,?_⟩;have ml:=(ak.mp e).1;unfold nxt;refine az.mpr ⟨n - s,bF.mpr (by show n - s < xs.length - s; lia),?_⟩;have es:s+(n - s)=n:=by lia
    dsimp only;rw [es,e];rfl
theorem zfH {α:Type} {xs pk:List α} {m:Nat}:pk∈(chs xs m).map (·.2)↔pk.Sublist xs∧pk.length=m:=by
 constructor
 ·intro h;obtain⟨c,hc,rfl⟩:=az.mp h;obtain⟨h1,h2,h3⟩:=zil hc;exact⟨h1.trans (cf _ _),h2⟩
 ·rintro⟨h1,h2⟩;obtain⟨s,_,hs⟩:=zdW (xs:=xs) (n:=xs.length) (by rw [aX]; exact h1) h2;exact az.mpr ⟨_,hs,rfl⟩
def hit (p:Int) (q:List Int) (a:Int×Int):Bool:=decide (zu p a.1 q=a.2)
def hits (p:Int) (q:List Int) (lW:List (Int×Int)):Nat:=(lW.filter (hit p q)).length
def IsP (p:Int) (k:Nat) (q:List Int):Prop:=q.length=k∧∀ c∈q,0≤c∧c < p
theorem zhr {p:Int} (hp:p∈zz) {lW:List (Int×Int)} (hP:Pts p lW) {q:List Int} {k t n:Nat} (hq:IsP p k q) (hk:k≤t) (hn:lW.length≤n+(t - k)) (ht:t≤hits p q lW) :
  ∃ pk,pk∈(chs (lW.take n) k).map (·.2)∧q=thr p pk:=by
 have DE:hits p q lW=((lW.take n).filter (hit p q)).length+((lW.drop n).filter (hit p q)).length:=by
  unfold hits
  conv=>lhs; rw [← ci n lW]
  rw [bV,aB]
 have hd:=cj (hit p q) (lW.drop n);rw [ck] at hd;have vw:k≤((lW.take n).filter (hit p q)).length:=by lia
 have hs:(((lW.take n).filter (hit p q)).take k).Sublist (lW.take n):=(cf _ _).trans (gf);have hl:(((lW.take n).filter (hit p q)).take k).length=k:=by rw [aL]; lia
 refine⟨_,zfH.mpr ⟨hs,hl⟩,zkY hp (hP.sub (hs.trans (cf _ _))) (by rw [hl]; exact hq.1) hq.2 fun a ha=>?_⟩;have:=(bN.mp ((cf _ _).subset ha)).2;simpa [hit] using this
theorem zim {p:Int} (hp:p∈zz) {lW pk:List (Int×Int)} (hP:Pts p lW) {k:Nat} (h:pk∈(chs lW k).map (·.2)):IsP p k (thr p pk):=by
 obtain⟨h1,h2⟩:=zfH.mp h;obtain⟨a,b,_⟩:=zg8 hp (hP.sub h1);exact⟨a.trans h2,b⟩
def mw:List Int→List (Option Int)→List (Int×Int)
 | x :: pl,some y :: rw=>(x,y) :: mw pl rw
 | _ :: pl,none :: rw=>mw pl rw
 | _,_=>[]
theorem zc8:∀ {pl:List Int} {rw:List (Option Int)} {i:Nat} {x:Int} {o:Option Int},pl[i]? = some x→rw[i]? = some o→mw (pl.take (i+1)) (rw.take (i+1))=mw (pl.take i) (rw.take i)++(match o with | some y=>[(x,y)] | none=>[])
 | [],_,i,x,o,h,_=>by simp at h
 | _ :: _,[],i,x,o,_,h=>by simp at h
 | a :: pl,b :: rw,0,x,o,h1,h2=>by
  simp only [iu,kg] at h1 h2;subst h1 h2;cases b <;> rfl
 | a :: pl,b :: rw,i+1,x,o,h1,h2=>by
  rw [dn] at h1 h2;have ih:=zc8 h1 h2;cases b with
  | none=>exact ih
  | some y =>
   show (a,y) :: mw (pl.take (i+1)) (rw.take (i+1))=(a,y) :: mw (pl.take i) (rw.take i)++_;rw [ih];rfl
theorem zdX:∀ (pl:List Int) (rw:List (Option Int)),(mw pl rw).length≤pl.length
 | [],rw=>by unfold mw; simp
 | a :: pl,[]=>by unfold mw; simp
 | a :: pl,none :: rw=>by
  have:=zdX pl rw;show (mw pl rw).length≤pl.length+1;lia
 | a :: pl,some y :: rw=>by
  have:=zdX pl rw;show (mw pl rw).length+1≤pl.length+1;lia
theorem zct:∀ {pl:List Int} {rw:List (Option Int)} {a:Int×Int},a∈mw pl rw→a.1∈pl∧some a.2∈rw
 | [],_,a,h=>by unfold mw at h; cases h
 | _ :: _,[],a,h=>by unfold mw at h; cases h
 | x :: pl,none :: rw,a,h=>by
  obtain⟨h1,h2⟩:=zct (pl:=pl) (rw:=rw) h;exact⟨aj _ h1,aj _ h2⟩
 | x :: pl,some y :: rw,a,h=>by
  rcases (au.mp h) with rfl | h
  ·exact⟨aF,aF⟩
  ·obtain⟨h1,h2⟩:=zct (pl:=pl) (rw:=rw) h;exact⟨aj _ h1,aj _ h2⟩
theorem zfI:∀ (pl:List Int) (rw:List (Option Int)),((mw pl rw).map (·.1)).Sublist pl
 | [],_=>by unfold mw; exact fM _
 | _ :: _,[]=>by unfold mw; exact fM _
 | x :: pl,none :: rw=>(zfI pl rw).cons _
 | x :: pl,some y :: rw=>(zfI pl rw).cons_cons _
theorem zin {p:Int} {pl:List Int} {rw:List (Option Int)} (h1:pl.Nodup) (h2:∀ x∈pl,0≤x∧x < p) (h3:∀ z,some z∈rw→0≤z∧z < p):Pts p (mw pl rw) :=
 ⟨(zfI pl rw).nodup h1,fun q hq=>⟨(h2 _ (zct hq).1).1,(h2 _ (zct hq).1).2,(h3 _ (zct hq).2).1,(h3 _ (zct hq).2).2⟩⟩
theorem zgC {p:Int} {pl:List Int} {rw:List (Option Int)} {q:List Int} (hl:rw.length=pl.length):∀ n,n≤pl.length→(zaK p pl rw q n).length=hits p q (mw (pl.take n) (rw.take n))
 | 0,_=>by simp [zaK,hits,mw]
 | n+1,hn=>by
  have ih:=zgC (p:=p) (q:=q) hl n #[O];have e1:pl[n]? = some pl[n]:=ao #[O];have e2:rw[n]? = some rw[n]:=ao #[O];rw [ze7,aB,ih,zc8 e1 e2];unfold hits;rw [bV,aB];congr 1;unfold zaz;rw [e1,e2];cases rw[n] with
  | none=>rfl
  | some y =>
   show (if decide (y=zu p pl[n] q)=true then [(n:Int)] else []).length=([(pl[n],y)].filter (hit p q)).length;by_cases e:y=zu p pl[n] q
   ·rw [dX (by simp [hit,e])];simp [e]
   ·rw [dY (by simp [hit]; exact fun z=>e z.symm)];simp [e]
theorem zdY {p:Int} {pl:List Int} {rw:List (Option Int)} {q:List Int} (hl:rw.length=pl.length):(zaK p pl rw q pl.length).length=hits p q (mw pl rw):=by
 have:=zgC (p:=p) (q:=q) hl pl.length (ah _);rw [aX,aO #[O]] at this;exact this
def zfJ (p:Int) (k:Nat) (qs:List (List Int)):Prop:=(∀ q∈qs,IsP p k q)∧qs.Pairwise fun a b=>Srt.num p a < Srt.num p b
theorem zc9 {B:Int} (hB:1≤B):∀ {a b:List Int},a.length=b.length→(∀ n∈a,0≤n∧n < B)→(∀ n∈b,0≤n∧n < B)→Srt.num B a=Srt.num B b→a=b
 | [],[],_,_,_,_=>rfl
 | c :: a,d :: b,h,ha,hb,e=>by
  have h':a.length=b.length:=by simpa using h
  have ra:=Srt.num_rng hB (ns:=a) fun n hn=>ha n (aj _ hn)
  have rb:=Srt.num_rng hB (ns:=b) fun n hn=>hb n (aj _ hn)
  have e':c*B ^ a.length+Srt.num B a=d*B ^ b.length+Srt.num B b:=e;rw [← h'] at e' rb;generalize B ^ a.length=M at e' ra rb;have hM:0 < M:=by lia
  have qF:c=d:=by
   have e2:(c - d)*M=Srt.num B b - Srt.num B a:=by
    rw [Int.sub_mul];lia
   rcases (kf c d) with ml | heq | hgt
   ·have:(c - d)*M≤(-1)*M:=cC #[O] #[O];lia
   ·exact heq
   ·have:1*M≤(c - d)*M:=cC #[O] #[O];lia
  subst qF;rw [zc9 hB h' (fun n hn=>ha n (aj _ hn)) (fun n hn=>hb n (aj _ hn)) #[O]]
 | [],_ :: _,h,_,_,_=>by simp at h
 | _ :: _,[],h,_,_,_=>by simp at h
theorem zl8 {p:Int} (hp:1≤p) {k:Nat} {qs:List (List Int)} (h1:∀ q∈qs,IsP p k q) (h2:qs.Nodup) (h3:qs.Pairwise fun a b=>Srt.num p a≤Srt.num p b):zfJ p k qs:=by
 refine⟨h1,?_⟩;have h4:=h3.and h2;refine cK (fun {a b} ha hb h=>?_) h4;have m6:Srt.num p a≠Srt.num p b:=fun e=>h.2 (zc9 hp ((h1 a ha).1.trans (h1 b hb).1.symm) (h1 a ha).2 (h1 b hb).2 e)
 have:=h.1;lia
theorem zfJ.filter {p:Int} {k:Nat} {qs:List (List Int)} (f:List Int→Bool) (h:zfJ p k qs):zfJ p k (qs.filter f):=⟨fun q hq=>h.1 q (bN.mp hq).1,h.2.filter f⟩
def gl (w:List Int) (y:Nat):Int:=w.getD y 0
theorem zmJ {w:List Int} {y:Nat} {c:Int} (h:w[y]? = some c):gl w y=c:=by
 unfold gl;rw [gM,h];rfl
theorem zhs {w:List Int} {y:Nat} (h:y < w.length):w[y]? = some (gl w y):=by
 rw [ao h,zmJ (ao h)]
theorem zl9 {α β:Type} (f:α→β) (xs:List α) (c:Nat×List α):nxt (xs.map f) (c.1,c.2.map f)=(nxt xs c).map fun d=>(d.1,d.2.map f):=by
 unfold nxt;rw [bh,ae];refine bY fun j _=>?_
 show (c.1+j+1,c.2.map f++(xs.map f)[c.1+j]?.toList)=(c.1+j+1,(c.2++xs[c.1+j]?.toList).map f);rw [ap,aw];cases xs[c.1+j]? <;> rfl
theorem zio {α β:Type} (f:α→β) (xs:List α):∀ m,chs (xs.map f) m=(chs xs m).map fun d=>(d.1,d.2.map f)
 | 0=>rfl
 | m+1=>by
  show (chs (xs.map f) m).flatMap (nxt (xs.map f))=((chs xs m).flatMap (nxt xs)).map _;rw [zio f xs m,List.map_flatMap,List.flatMap_map];congr 1;funext c;exact zl9 f xs c
theorem zfb {α β:Type} (f:α→β) (xs:List α) (m:Nat):(chs (xs.map f) m).map (·.2)=((chs xs m).map (·.2)).map (·.map f):=by
 rw [zio,bh,bh];rfl
def PtB (H:Hp):List Addr→List (Int×Int)→Prop:=Paired fun b q=>H b=some (.tup [.int q.1,.int q.2])
theorem PtB.same {H H':Hp} (s:zA H H') {bs:List Addr} {lW:List (Int×Int)} (h:PtB H bs lW):PtB H' bs lW:=bp (fun _ _ z=>s _ _ z) h
theorem PtB.zs {H:Hp}:∀ {bs:List Addr} {lW:List (Int×Int)},PtB H bs lW→∃ zs:List (Addr×Int×Int),bs=zs.map (·.1)∧lW=zs.map (·.2)∧∀ z∈zs,H z.1=some (.tup [.int z.2.1,.int z.2.2])
 | _,_,.nil=>⟨[],rfl,rfl,#[M]⟩
 | _,_,.cons (a:=b) (b:=q) r t=>by
  obtain⟨zs,h1,h2,h3⟩:=PtB.zs t;refine⟨(b,q) :: zs,by rw [h1]; rfl,by rw [h2]; rfl,fun z hz=>?_⟩;rcases (au.mp hz) with rfl | hz
  ·exact r
  ·exact h3 z hz
theorem PtB.take {H:Hp} {bs:List Addr} {lW:List (Int×Int)} (h:PtB H bs lW) (n:Nat):PtB H (bs.take n) (lW.take n):=by
 induction h generalizing n with
 | nil=>rw [lC,lC]; exact .nil
 | cons r t ih =>
  cases n with
  | zero=>exact .nil
  | succ n=>exact .cons r (ih n)
def zaS (H:Hp):List Addr→List (List Int)→Prop:=Paired fun r q=>H r=some (.tup (q.map V.int))
theorem zaS.same {H H':Hp} (s:zA H H') {rs:List Addr} {qs:List (List Int)} (h:zaS H rs qs):zaS H' rs qs:=bp (fun _ _ z=>s _ _ z) h
theorem zaS.of {H:Hp}:∀ {ps:List (Addr×List Int)},(∀ q∈ps,H q.1=some (.tup (q.2.map V.int)))→zaS H (ps.map (·.1)) (ps.map (·.2))
 | [],_=>.nil
 | a :: ps,h=>.cons (h a aF) (zaS.of fun q hq=>h q (aj _ hq))
theorem zkZ {κ:Type} [DecidableEq κ] (lV:List (κ×V)) (k:κ) (v:V):(putK lV k v).map (·.1)=if k∈lV.map (·.1) then lV.map (·.1) else lV.map (·.1)++[k]:=by
 unfold putK;by_cases h:(lV.any fun kv=>decide (kv.1=k))=true
 ·rw [if_pos h];obtain⟨kv,h1,h2⟩:=ip.mp h;have h2:kv.1=k:=by simpa using h2
  rw [if_pos (by rw [← h2]; exact du h1),bh];refine bY fun a _=>?_
  show (if a.1=k then (a.1,v) else a).1=a.1;split <;> rfl
 ·rw [if_neg h];rw [if_neg (fun hm=>h ?_),aw]
  ·rfl
  ·obtain⟨kv,h1,h2⟩:=az.mp hm;exact ip.mpr ⟨kv,h1,by simpa using h2⟩
theorem zma {a b:List Int} (h:(a.map dh:List Key)=b.map dh):a=b:=by
 induction a generalizing b with
 | nil=>cases b with
  | nil=>rfl
  | cons _ _=>simp at h
 | cons x a ih=>cases b with
  | nil=>simp at h
  | cons y b =>
   rw [aR,aR] at h;obtain⟨h1,h2⟩:=d6 h;rw [lI h1,ih h2]
def KeysAre (lV:List (List Key×V)) (mo:List (List Int)):Prop:=lV.map (·.1)=mo.map (·.map dh)
theorem zk0 {lV:List (List Key×V)} {mo:List (List Int)} (h:KeysAre lV mo) (hn:mo.Nodup) (q:List Int) (v:V):∃ tE,KeysAre (putK lV (q.map dh) v) tE∧tE.Nodup∧tE.length≤mo.length+1∧∀ x,x∈tE↔x∈mo∨x=q:=by
 unfold KeysAre at h ⊢;rw [zkZ,h];have hm:(q.map dh:List Key)∈mo.map (·.map dh)↔q∈mo:=by
  constructor
  ·intro hm;obtain⟨x,hx,e⟩:=az.mp hm;rw [← zma e];exact hx
  ·intro hm;exact du hm
 by_cases hq:q∈mo
 ·refine⟨mo,by rw [if_pos (hm.mpr hq)],hn,#[O],fun x=>⟨.inl,fun z=>z.elim id fun e=>e ▸ hq⟩⟩
 ·refine⟨mo++[q],by rw [if_neg fun z=>hq (hm.mp z),aw]; rfl,?_,by rw [aB]; exact ah _,fun x=>by rw [aP,aY]⟩;rw [fu];exact⟨hn,#[M],fun a ha b hb e=>hq (by rw [← aY.mp hb,← e]; exact ha)⟩
def zmb (K:ag):Sp:=fun vs H Q _=>∃ (c tt r:Addr) (p k:Int) (pl:List Int) (rw:List (Option Int)),vs = [.ref c,.ref r]∧zbh H c tt p k pl∧RowAt K H r pl.length rw∧pl.length≤1000 ∧
 ∀ (l:Addr) (bs:List Addr) (H':Hp),H l=none→zA H H'→H' l=some (.lst (bs.map V.ref))→PtB H' bs (mw pl rw)→Q (.ref l) H'
def zeq (K:ag):Sp:=fun vs H Q _=>∃ (c tt a:Addr) (p:Int) (k:Nat) (pl:List Int) (bs:List Addr) (lW:List (Int×Int)),vs = [.ref c,.ref a]∧zbh H c tt p k pl∧lN K H a (bs.map V.ref)∧PtB H bs lW∧lW.length≤16∧p∈zz∧Pts p lW∧1≤k∧k≤100 ∧
 ∀ (l:Addr) (rs:List Addr) (qs:List (List Int)) (H':Hp),H l=none→zA H H'→H' l=some (.lst (rs.map V.ref))→zaS H' rs qs→qs.length≤65536→zfJ p k qs→(∀ q,q∈qs↔∃ pk∈(chs lW k).map (·.2),q=thr p pk)→Q (.ref l) H'
theorem zcH {α β:Type} {F:α→β→Prop}:∀ {a:List α} {b:List β} {c:List α} {d:List β},Paired F a b→Paired F c d→Paired F (a++c) (b++d)
 | _,_,_,_,.nil,h=>h
 | _,_,_,_,.cons r t,h=>.cons r (zcH t h)
def zeG (H:Hp):List Addr→List (List Int)→Prop:=Paired fun l c=>H l=some (.lst (c.map V.int))
theorem zeG.same {H H':Hp} (s:zA H H') {ls:List Addr} {cs:List (List Int)} (h:zeG H ls cs):zeG H' ls cs:=bp (fun _ _ z=>s _ _ z) h
def zk1 (K:ag):Nat→Sp
 | 0=>fun _ _ _ _=>False
 | m+1=>fun vs H Q _=>∃ (a:Addr) (ns:List Int),vs = [.ref a,.int (m:Int)]∧lN K H a (ns.map V.int)∧ns.length≤16∧m≤100 ∧
  ∀ (l:Addr) (ls:List Addr) (cs:List (List Int)) (H':Hp),H l=none→zA H H'→H' l=some (.lst (ls.map V.ref))→zeG H' ls cs→cs.length≤2 ^ ns.length→(∀ c,c∈cs↔c.Sublist ns∧c.length=m)→Q (.ref l) H'
theorem zjq {α:Type} {xs:List α} {m:Nat} {c:List α}:(c.Sublist xs∧c.length=m+1)↔∃ (j:Nat) (x:α) (c':List α),j < xs.length∧xs[j]? = some x∧c=x :: c'∧c'.Sublist (xs.drop (j+1))∧c'.length=m:=by
 constructor
 ·rintro⟨h,hl⟩;cases c with
  | nil=>simp at hl
  | cons x c' =>
   have go:∀ {xs:List α},(x :: c').Sublist xs→∃ j,j < xs.length∧xs[j]? = some x∧c'.Sublist (xs.drop (j+1)):=by
    intro xs h;induction xs with
    | nil=>exact absurd (fN.mp h) #[M]
    | cons y ys ih =>
     cases h with
     | cons _ h =>
      obtain⟨j,h1,h2,h3⟩:=ih h;exact⟨j+1,by rw [bG]; lia,by rw [dn]; exact h2,by rw [List.drop_succ_cons]; exact h3⟩
     | cons_cons _ h=>exact⟨0,by rw [bG]; lia,rfl,h⟩
   obtain⟨j,h1,h2,h3⟩:=go h;exact⟨j,x,c',h1,h2,rfl,h3,by simpa using hl⟩
 ·rintro⟨j,x,c',h1,h2,rfl,h3,h4⟩;refine⟨?_,by rw [bG,h4]⟩;have e:=zb4 h2;rw [e];exact (h3.cons_cons x).trans (List.sublist_append_right _ _)
end My
end
section
namespace L2
open PySem PySem.Spec PyProof.Rows
def znB (K:ag):R2:=fun x y H Q=>∃ a b xs ys,x = .ref a∧y = .ref b∧lX K H a xs∧lX K H b ys∧ys≠[]∧xs.length+ys.length≤sizeLine ∧
 (xs = []→Q (.ref b) H)∧(xs≠[]→∀ p,H p=none→Q (.ref p) (lP H p (.tup (xs++ys))))
theorem zjr {X:Cx} {K:ag} (hK:X.K=K):OpR X (binaryOp .Add) (znB K):=by
 subst hK;intro lM s σ H x y v u Q I rx ry h;obtain⟨a,b,xs,ys,rfl,rfl,ha,hb,hy,hz,q1,q2⟩:=h;by_cases hx:xs = []
 ·cases rx;cases ry;obtain⟨lO,r1,p1,_⟩:=I.tuple ha;obtain⟨l9,r2,p2,_⟩:=I.tuple hb;obtain⟨⟨cls,dd,data,sl⟩,ho,hc,n,hd⟩:=id p1;obtain⟨⟨y4,wL,data2,sN⟩,rf,uC,n2,hd2⟩:=id p2;simp only at hc hd uC hd2;subst hc hd uC hd2;exact jM ⟨_,ho,rfl⟩ ⟨_,rf,rfl⟩ hW jn fA fq (fg _ _)
   (tuple_addW0 a b lO.toArray l9.toArray n n2 dd wL sl sN (by simp [r1.nil_iff.mpr hx])) ⟨ho,rf,⟨.ref b,H,I,rfl,q1 hx⟩⟩
 ·exact zlz lM s σ H _ _ v u Q I rx ry ⟨a,b,xs,ys,rfl,rfl,ha,hb,hx,hz,fun z=>absurd z hy,fun _=>q2 hx⟩
end L2
end
section
namespace My
open PySem L2 PyProof.Rows
theorem zk2 {X:Cx} {st:Stmt} {ts:TS} (h:PS X st ts):PS X st (fun D σ H=>∃ Pv:L2.St→Hp→Prop,ts { D with nx:=Pv } σ H∧∀ σ' H',Pv σ' H'→D.nx σ' H'):=by
 intro lM s σ H D I hq;obtain⟨Pv,h1,h2⟩:=hq;refine thn (h lM s σ H _ I h1) fun f s1 q=>?_
 cases f with
 | next =>
  obtain⟨σ',H',I',p⟩:=q;exact⟨σ',H',I',h2 _ _ p⟩
 | ret v=>exact q
 | brk=>exact q
 | cont=>exact q
theorem PtB.pts {K:ag} {H:Hp} {a:Addr} {bs:List Addr} {lW:List (Int×Int)} (ha:H a=some (.lst (bs.map V.ref))) (h:PtB H bs lW):zh4 K H a lW:=by
 refine⟨bs,lN.of ha,h.length,fun i b q h1 h2=>?_⟩;obtain⟨q',h3,h4⟩:=Paired.get h h1;rw [h2] at h3;cases h3;exact h4
def zfK (pl:List Int) (rw:List (Option Int)) (j:Int):Int×Int:=(pl[j.toNat]?.getD 0,(rw[j.toNat]?.getD none).getD 0)
theorem zgD {pl:List Int} {rw:List (Option Int)} (hl:rw.length=pl.length):∀ n,n≤pl.length→mw (pl.take n) (rw.take n)=(zaH rw n).map (zfK pl rw)
 | 0,_=>by simp [zaH,mw]
 | n+1,hn=>by
  have ih:=zgD hl n #[O];have e1:pl[n]? = some pl[n]:=ao #[O];have e2:rw[n]? = some rw[n]:=ao #[O];rw [zc8 e1 e2,ih,zeh,aw];congr 1;rw [e2,ie];cases ho:rw[n] with
  | none=>rfl
  | some y =>
   show [(pl[n],y)] = [zfK pl rw ((n:Nat):Int)];unfold zfK;rw [bf,e1,e2,ho];rfl
theorem zmc {pl:List Int} {rw:List (Option Int)} (hl:rw.length=pl.length):mw pl rw=(zaH rw rw.length).map (zfK pl rw):=by
 have:=zgD hl pl.length (ah _);rw [aX,aO #[O]] at this;rw [hl];exact this
theorem zk3 {rw:List (Option Int)} {n:Nat} {z:Int} (h:z∈zaH rw n):∃ (j:Nat) (y:Int),z=j∧j < n∧rw[j]? = some (some y):=by
 unfold zaH at h;obtain⟨j,hj,rfl⟩:=az.mp h;obtain⟨h1,h2⟩:=bN.mp hj;refine⟨j,?_⟩;cases e:rw[j]? with
 | none=>rw [e] at h2; simp at h2
 | some o =>
  cases o with
  | none=>rw [e] at h2; simp at h2
  | some y=>exact⟨y,rfl,bF.mp h1,rfl⟩
theorem zcN {p:Int} {pl:List Int} {rw:List (Option Int)} (hl:rw.length=pl.length) (hP:Pts p (mw pl rw)) {c:List Int} (h:c.Sublist (zaH rw rw.length)):Pts p (c.map (zfK pl rw)):=by
 refine hP.sub ?_;rw [zmc hl];exact h.map _
end My
end
section
namespace L2
open PySem PySem.Spec PyProof.Rows
end L2
end
section
namespace HT
open PySem PySem.Spec PyProof.Rows
end HT
namespace L2
open PySem PySem.Spec PyProof.Rows
theorem zgE {X:Cx} {K:ag} {tg l:Expr} {tl:TE} (hK:X.K=K) (hl:PE X l tl):PI X tg l (zmu K tl):=by subst hK; exact z6 hl
def zof:R2:=fun x y H Q=>∃ a b xs ys,x = .ref a∧y = .ref b∧H a=some (.tup xs)∧H b=some (.tup ys)∧xs.length+ys.length≤sizeLine∧ys≠[]∧∀ p H',zA H H'→H' p=some (.tup (xs++ys))→Q (.ref p) H'
theorem zmd {X:Cx}:OpR X (binaryOp .Add) zof:=by
 intro lM s σ H x y v u Q I rx ry h;obtain⟨a,b,xs,ys,rfl,rfl,ha,hb,hz,hy,q⟩:=h;refine zjr rfl lM s σ H _ _ v u Q I rx ry ⟨a,b,xs,ys,rfl,rfl,lX.of ha,lX.of hb,hy,hz,fun e=>?_,fun _ p hp=>q p _ (fun b o z=>by rw [zp (fun e=>by rw [e,hp] at z; cases z)]; exact z) ze⟩;subst e;exact q b H (fun _ _ e=>e) hb
end L2
end
section
namespace My
open PySem L2 PyProof.Rows
def md (p:Int) (q:Int×Int):Int×Int:=(q.1,q.2 % p)
theorem zgF (p:Int) (s:List Int×List Int) (q:Int×Int):zbF p s (md p q)=zbF p s q:=by
 unfold zbF md;have:(q.2 % p - zu p q.1 s.1)*inv p (zu p q.1 s.2) % p=(q.2 - zu p q.1 s.1)*inv p (zu p q.1 s.2) % p:=(((Cg.emod p q.2).sub (Cg.refl p _)).mul (Cg.refl p _)).mod_eq;dsimp only;rw [this]
theorem ziq (p:Int):∀ (lW:List (Int×Int)) (s:List Int×List Int),(lW.map (md p)).foldl (zbF p) s=lW.foldl (zbF p) s
 | [],s=>rfl
 | q :: lW,s=>by
  rw [aR,iB,iB,zgF,ziq p lW]
theorem znC (p:Int) (lW:List (Int×Int)):thr p (lW.map (md p))=thr p lW:=by
 unfold thr zn5;rw [ziq,ae]
def zgG (K:ag):Sp:=fun vs H Q _=>∃ (p:Int) (a:Addr) (lW:List (Int×Int)),vs = [.int p,.ref a]∧zh4 K H a lW∧lW.length≤100∧p∈zz∧Pts p (lW.map (md p))∧(∀ q∈lW,0≤q.2∧q.2 < 10000) ∧
 ∀ (l:Addr) (H':Hp),H l=none→zA H H'→H' l=some (.tup ((thr p (lW.map (md p))).map V.int))→Q (.ref l) H'
theorem zaS.put {H:Hp} {rs:List Addr} {qs:List (List Int)} {f:Addr} {xs:List V} {o:HO} (h:zaS H rs qs) (hf:H f=some (.lst xs)):zaS (lP H f o) rs qs:=bp (fun a q z=>by
 have:a≠f:=fun e=>by rw [e,hf] at z; cases z
 show lP H f o a=_;rw [zp this];exact z) h
def zer (n:Nat) (H:Hp):List Addr→List (List (Option Int))→Prop:=Paired fun b rw=>H b=some (.lst (rw.map mF))∧rw.length=n
theorem zer.same {n:Nat} {H H':Hp} (s:zA H H') {bs:List Addr} {rws:List (List (Option Int))} (h:zer n H bs rws):zer n H' bs rws:=bp (fun _ _ ⟨z,z'⟩=>⟨s _ _ z,z'⟩) h
theorem zht {S:List Nat}:∀ {l:List Nat},l.Nodup→l.length≤(l.filter fun i=>decide (i∉S)).length+S.length:=by
 induction S with
 | nil =>
  intro l _;rw [List.filter_eq_self.mpr #[M]];exact ah _
 | cons a S ih =>
  intro l hl;have h1:=ih hl;have h2:l.filter (fun i=>decide (i∉a :: S))=(l.filter fun i=>decide (i∉S)).filter (fun i=>i != a):=by
   rw [gB];refine fw fun i _=>?_
   by_cases e:i=a <;> by_cases e2:i∈S <;> simp [e,e2]
  have h3:=List.Nodup.erase_eq_filter (hl.filter fun i=>decide (i∉S)) a;have h4:(l.filter fun i=>decide (i∉S)).length≤((l.filter fun i=>decide (i∉S)).erase a).length+1:=by
   rw [List.length_erase];split <;> lia
  rw [h2,← h3,bG];lia
def top (i:Nat):Stmt:=PySem.Challenge.pw_slipcurve_k25_rows_together.main.body.getD i (.Pass ⟨0,0,0,0⟩)
abbrev zb7:Stmt:=top 1
abbrev zcu:Stmt:=top 2
abbrev za4:Stmt:=top 3
abbrev zes:Stmt:=top 4
abbrev zcv:Stmt:=top 5
abbrev zaL:Stmt:=top 19
abbrev zet:Stmt:=top 20
abbrev zbp:Stmt:=top 22
abbrev zaT:Stmt:=top 23
abbrev zbv:Stmt:=top 24
abbrev zbw:Stmt:=top 26
abbrev za5:Stmt:=top 27
abbrev zda:Stmt:=top 29
abbrev zcw:Stmt:=top 30
abbrev zcm:Stmt:=top 31
abbrev zcx:Stmt:=top 32
abbrev zaM:Stmt:=top 33
abbrev zcn:Stmt:=top 34
abbrev zdb:Stmt:=top 35
abbrev zbT:Stmt:=top 36
abbrev za1:Stmt:=top 37
abbrev zaN:Stmt:=top 38
abbrev zaP:Stmt:=top 39
abbrev zdc:Stmt:=top 40
abbrev zca:Stmt:=top 41
structure Adr where
 SlipError:Addr
 TooFew:Addr
 NoCurve:Addr
 NoPaper:Addr
 NoPlace:Addr
 NoNumber:Addr
 Heard:Addr
 NotHeard:Addr
 NothingLeft:Addr
 NoText:Addr
 NoRow:Addr
 value_at:Addr
 inverse:Addr
 times_root:Addr
 bent:Addr
 through:Addr
 heard_points:Addr
 fits:Addr
 choices:Addr
 all_through:Addr
 all_near:Addr
 heard_at:Addr
 joint_near:Addr
 l_cell:Addr
 l_draws:Addr
 l_code:Addr
 l_value:Addr
 l_through:Addr
 l_rows:Addr
 l_word:Addr
 l_fits:Addr
 l_choices:Addr
 l_polynomial:Addr
 l_joint:Addr
 l_told:Addr
 law:Addr
structure KW (K:ag) (t:Adr) (C:Addr) (b0 b1 b2 b3 b4 b5 b6 b7 b8 b9:Bool):Prop where
 i0:a8 K (.ref C) (.ref t.TooFew)=some b0
 i1:a8 K (.ref C) (.ref t.NoCurve)=some b1
 i2:a8 K (.ref C) (.ref t.NoPaper)=some b2
 i3:a8 K (.ref C) (.ref t.NoPlace)=some b3
 i4:a8 K (.ref C) (.ref t.NoNumber)=some b4
 i5:a8 K (.ref C) (.ref t.Heard)=some b5
 i6:a8 K (.ref C) (.ref t.NotHeard)=some b6
 i7:a8 K (.ref C) (.ref t.NothingLeft)=some b7
 i8:a8 K (.ref C) (.ref t.NoText)=some b8
 i9:a8 K (.ref C) (.ref t.NoRow)=some b9
 iv:a8 K (.ref C) (.type "ValueError")=some true
 xc:Xc K C
 sl:eF K (.ref C) (.ref t.SlipError)=some true
structure Txt (K:ag) (mg:Str→Option Value) (t:Adr):Prop where
 len_:mg "len" = none
 range_:mg "range" = none
 list_:mg "list" = none
 tuple_:mg "tuple" = none
 min_:mg "min" = none
 isinstance_:mg "isinstance" = none
 zip_:mg "zip" = none
 enumerate_:mg "enumerate" = none
 reversed_:mg "reversed" = none
 sorted_:mg "sorted" = none
 ValueError_:mg "ValueError" = none
 x_SlipError:mg "SlipError" = some (.ref t.SlipError)
 x_TooFew:mg "TooFew" = some (.ref t.TooFew)
 x_NoCurve:mg "NoCurve" = some (.ref t.NoCurve)
 x_NoPaper:mg "NoPaper" = some (.ref t.NoPaper)
 x_NoPlace:mg "NoPlace" = some (.ref t.NoPlace)
 x_NoNumber:mg "NoNumber" = some (.ref t.NoNumber)
 x_Heard:mg "Heard" = some (.ref t.Heard)
 x_NotHeard:mg "NotHeard" = some (.ref t.NotHeard)
 x_NothingLeft:mg "NothingLeft" = some (.ref t.NothingLeft)
 x_NoText:mg "NoText" = some (.ref t.NoText)
 x_NoRow:mg "NoRow" = some (.ref t.NoRow)
 xi_TooFew:fG K t.TooFew zky "ValueError.__new__" = true
 kw_TooFew:KW K t t.TooFew true false false false false false false false false false
 sb:bO K t.SlipError (.type "BaseException")=some true
 m_value_at:mg "value_at" = some (.ref t.value_at)
 m_inverse:mg "inverse" = some (.ref t.inverse)
 m_times_root:mg "times_root" = some (.ref t.times_root)
 m_bent:mg "bent" = some (.ref t.bent)
 m_through:mg "through" = some (.ref t.through)
 m_heard_points:mg "heard_points" = some (.ref t.heard_points)
 m_fits:mg "fits" = some (.ref t.fits)
 m_choices:mg "choices" = some (.ref t.choices)
 m_all_through:mg "all_through" = some (.ref t.all_through)
 m_all_near:mg "all_near" = some (.ref t.all_near)
 m_heard_at:mg "heard_at" = some (.ref t.heard_at)
 m_joint_near:mg "joint_near" = some (.ref t.joint_near)
 m_l_cell:mg "_law_cell" = some (.ref t.l_cell)
 m_l_draws:mg "_law_draws" = some (.ref t.l_draws)
 m_l_code:mg "_law_code" = some (.ref t.l_code)
 m_l_value:mg "_law_value" = some (.ref t.l_value)
 m_l_through:mg "_law_through" = some (.ref t.l_through)
 m_l_rows:mg "_law_rows" = some (.ref t.l_rows)
 m_l_word:mg "_law_word" = some (.ref t.l_word)
 m_l_fits:mg "_law_fits" = some (.ref t.l_fits)
 m_l_choices:mg "_law_choices" = some (.ref t.l_choices)
 m_l_polynomial:mg "_law_polynomial" = some (.ref t.l_polynomial)
 m_l_joint:mg "_law_joint" = some (.ref t.l_joint)
 m_l_told:mg "_law_told" = some (.ref t.l_told)
 f_value_at:∃ fd,Fun K "value_at" "value_at" zb7 t.value_at fd∧Binds K fd ["p","polynomial","x"] []
 f_inverse:∃ fd,Fun K "inverse" "inverse" zcu t.inverse fd∧Binds K fd ["p","number"] []
 f_times_root:∃ fd,Fun K "times_root" "times_root" za4 t.times_root fd∧Binds K fd ["p","polynomial","root"] []
 f_bent:∃ fd,Fun K "bent" "bent" zes t.bent fd∧Binds K fd ["p","polynomial","vanishing","point"] []
 f_through:∃ fd,Fun K "through" "through" zcv t.through fd∧Binds K fd ["p","points"] []
 f_heard_points:∃ fd,Fun K "heard_points" "heard_points" zaL t.heard_points fd∧Binds K fd ["code","row"] []
 f_fits:∃ fd,Fun K "fits" "fits" zet t.fits fd∧Binds K fd ["code","row","polynomial"] []
 f_choices:∃ fd,Fun K "choices" "choices" zbp t.choices fd∧Binds K fd ["things","many"] []
 f_all_through:∃ fd,Fun K "all_through" "all_through" zaT t.all_through fd∧Binds K fd ["code","points"] []
 f_all_near:∃ fd,Fun K "all_near" "all_near" zbv t.all_near fd∧Binds K fd ["code","row","t"] []
 f_heard_at:∃ fd,Fun K "heard_at" "heard_at" zbw t.heard_at fd∧Binds K fd ["row","numbers"] []
 f_joint_near:∃ fd,Fun K "joint_near" "joint_near" za5 t.joint_near fd∧Binds K fd ["code","rows","t"] []
 f_l_cell:∃ fd,Fun K "_law_cell" "_law_cell" zda t.l_cell fd∧Binds K fd ["script","k"] []
 f_l_draws:∃ fd,Fun K "_law_draws" "_law_draws" zcw t.l_draws fd∧Binds K fd ["script","k","many","base"] []
 f_l_code:∃ fd,Fun K "_law_code" "_law_code" zcm t.l_code fd∧Binds K fd ["script","at","most_k","most_n"] []
 f_l_value:∃ fd,Fun K "_law_value" "_law_value" zcx t.l_value fd∧Binds K fd ["p","polynomial","x"] []
 f_l_through:∃ fd,Fun K "_law_through" "_law_through" zaM t.l_through fd∧Binds K fd ["p","points"] []
 f_l_rows:∃ fd,Fun K "_law_rows" "_law_rows" zcn t.l_rows fd∧Binds K fd ["script","at","code","many"] []
 f_l_word:∃ fd,Fun K "_law_word" "_law_word" zdb t.l_word fd∧Binds K fd ["e"] []
 f_l_fits:∃ fd,Fun K "_law_fits" "_law_fits" zbT t.l_fits fd∧Binds K fd ["code","row","polynomial"] []
 f_l_choices:∃ fd,Fun K "_law_choices" "_law_choices" za1 t.l_choices fd∧Binds K fd ["some","many"] []
 f_l_polynomial:∃ fd,Fun K "_law_polynomial" "_law_polynomial" zaN t.l_polynomial fd∧Binds K fd ["draws","p","k"] []
 f_l_joint:∃ fd,Fun K "_law_joint" "_law_joint" zaP t.l_joint fd∧Binds K fd ["code","rows","t"] []
 f_l_told:∃ fd,Fun K "_law_told" "_law_told" zdc t.l_told fd∧Binds K fd ["code","rows","t"] []
section
variable {P:Program} {w:World} {K:ag} {mg:Str→Option Value} {base:Heap} {t:Adr}
theorem zjs:FnScope ["script","k"] ["script","k"] (zj zda):=#[S]
theorem zjt {fd:FuncData} (T:Txt K mg t) (F:Fun K "_law_cell" "_law_cell" zda t.l_cell fd):FnOk P w K mg base CX0 1 t.l_cell fd ["script","k"] (ziU K):=by
 refine F.ok zjs (fun vs H Q E h=>?_) (fun l8 A outer s H vs Q E hr h=>?_)
 ·obtain⟨a,ns,k,rfl,_⟩:=h; rfl
 ·obtain⟨a,ns,k,rfl,hS,lT,k0,k1,q⟩:=h;refine zbl ?_; intro zX;refine⟨_,#[zg,#[zbi,#[zJ,#[zmw],#[pvx,1],#[zy,#[zF],T.len_,cv,#[ya,#[pvx,0]]],(zad _)],#[zn,#[zO,#[zL,#[zQ],#[pvx,0],#[pvx,1]]]],#[zaw]],#[zg,#[zbi,#[zJ,#[zcf],#[zy,#[zF],T.len_,cv,#[ya,#[pvx,0]]],#[zi],(zad _)],#[zn,#[zO,#[zm,#[zR],#[zm,#[zaj],#[zi],#[pvx,1]],#[zi]]]],#[zaw]],#[zn,#[zO,#[zm,#[zR],#[zm,#[zI],#[zL,#[zQ],#[pvx,0],#[zm,#[zI],#[pvx,1],#[zy,#[zF],T.len_,cv,#[ya,#[pvx,0]]]]],#[zi]],#[zm,#[zaj],#[zi],#[pvx,1]]]]]]],?_⟩;refine zg1 ?_; intro qZ qh;refine⟨_,rfl,_,rfl,a,_,rfl,.inl hS,_,_,rfl,rfl,_,rfl,?_⟩; rw [ae];refine zbc (fun h=>?_) (fun h=>?_)
  ·have h:k < (ns.length:Int):=by simpa using h
   obtain⟨c,hc⟩:=zb3 k0 h;exact⟨_,rfl,_,rfl,a,_,k,_,rfl,rfl,hS,hc,q c⟩
  ·have h:¬ k < (ns.length:Int):=by simpa using h
   refine⟨_,rfl,a,_,rfl,.inl hS,rfl,_,rfl,?_⟩;rw [ae];refine zbc (fun h2=>?_) (fun h2=>?_)
   ·exact⟨_,rfl,_,_,rfl,rfl,.inl ⟨#[D],#[D]⟩,_,_,rfl,rfl,q _⟩
   ·have h2:¬ V.int (ns.length:Int)=V.int 0:=by simpa using h2
    have tw:0 < (ns.length:Int):=by
     have:(ns.length:Int)≠0:=fun z=>h2 (by rw [z])
     lia
    have m0:=aQ k (show (ns.length:Int)≠0 by lia);have m1:=aK k tw;obtain⟨c,hc⟩:=zb3 m0 m1;refine⟨_,rfl,_,rfl,_,rfl,a,_,rfl,.inl hS,_,_,rfl,rfl,by rw [ae]; exact tw,a,_,_,_,rfl,rfl,hS,by rw [ae]; exact hc,_,_,rfl,rfl,(by show (0:Int) < 1000003; decide),?_⟩;exact⟨_,rfl,_,_,rfl,rfl,.inl ⟨#[D],#[D]⟩,_,_,rfl,rfl,q _⟩
theorem zaf:FnScope ["script","k","many","base","primes","cell","rest","row","j","mash"] ["script","k","many","base"] (zj zcw):=#[S]
theorem zcO {fd:FuncData} (T:Txt K mg t) (F:Fun K "_law_draws" "_law_draws" zcw t.l_draws fd):FnOk P w K mg base CX0 2 t.l_draws fd ["script","k","many","base"] (zha K):=by
 obtain⟨tF,rC,pI⟩:=T.f_l_cell;have uT:=zjt (P:=P) (w:=w) (base:=base) T rC;refine F.ok zaf (fun vs H Q E h=>?_) (fun l8 A outer s H vs Q E hr h=>?_)
 ·obtain⟨a,ns,k,many,base,rfl,_⟩:=h;rfl
 ·obtain⟨a,ns,k,many,bs,rfl,hS,lT,k0,k1,m0,m1,b0,b1,q⟩:=h;refine zbl ?_; intro zX;refine⟨_,#[zg,#[zr,4,zaf.nd,#[A],#[zbr,#[zf8,#[zf8,#[zf8,#[zf8,#[zf8,#[zd,#[zi],#[zd,#[zi],#[ya,#[zi]]]]]]]]]]],#[zg,#[zr,5,zaf.nd,#[A],#[zH,uT,(hr.mono #[D]),T.m_l_cell,rC.kp,pI,#[zap],#[zd,#[pvx,0],#[ya,#[pvx,1]]]]],#[zg,#[zr,6,zaf.nd,#[A],#[zi]],#[zg,#[zbi,#[zJ,#[zjY],#[pvx,5],#[zm,(@zmY _),#[zi],#[zi]],(zad _)],#[zn,#[zr,6,zaf.nd,#[A],#[pvx,5]]],#[zaw]],#[zg,#[zr,7,zaf.nd,#[A],#[zY,#[zh]]],#[zg,#[zaD,bA,#[zaF,T.range_,#[ya,#[pvx,2]]],#[zl,8,zaf.nd,#[A]],#[zg,#[zr,9,zaf.nd,#[A],#[zm,#[zaj],#[zm,#[zI],#[pvx,5],#[zL,#[zbs],#[pvx,4],#[zm,#[zI],#[pvx,8],#[zi]]]],#[zm,#[zR],#[zi],#[zm,#[zaj],#[zm,#[zaj],#[zi],#[pvx,8]],#[pvx,8]]]]],#[zg,#[zr,9,zaf.nd,#[A],#[zm,#[zR],#[zm,#[zR],#[pvx,9],#[zm,#[zaj],#[zm,#[zaj],#[zi],#[zm,#[zR],#[pvx,8],#[zi]]],#[zm,#[zR],#[pvx,8],#[zi]]]],#[zm,#[zaj],#[zi],#[pvx,1]]]],#[zg,#[zr,9,zaf.nd,#[A],#[zm,#[zI],#[pvx,9],#[zL,#[zbs],#[pvx,4],#[zm,#[zI],#[zm,#[zR],#[zm,#[zaj],#[zi],#[pvx,8]],#[pvx,1]],#[zi]]]]],#[zg,#[zr,9,zaf.nd,#[A],#[zm,#[zI],#[zm,#[zaj],#[zm,#[zaj],#[pvx,9],#[pvx,9]],#[pvx,9]],#[zL,#[zbs],#[pvx,4],#[zm,#[zI],#[zm,#[zR],#[pvx,8],#[zi]],#[zi]]]]],#[zg,#[zbi,#[zJ,#[zhO],#[pvx,6],#[zi],(zad _)],#[zn,#[zr,9,zaf.nd,#[A],#[pvx,6]]],#[zaw]],#[zg,#[zbW,#[zcB,bD,cL,cM,#[zbn],#[pvx,7],#[ya,#[zm,#[zI],#[pvx,9],#[pvx,3]]]]],#[zn,#[zr,6,zaf.nd,#[A],#[zm,#[zfi],#[pvx,6],#[pvx,3]]]]]]]]]]],#[zn,#[zO,#[pvx,7]]]]]]]]],?_⟩;refine zm7 ?_; intro zN7 BV x9 uU qZ qh;refine⟨by show 8≤sizeLine; rw [bt]; decide,fun tp ht=>?_⟩;have s1:zA H (lP H tp (.tup zlJ)):=zf ht;refine⟨_,rfl,_,rfl,a,ns,k,rfl,s1.seq hS,lT,k0,k1,fun c=>?_⟩;refine⟨_,rfl,_,_,rfl,rfl,⟨#[D],#[D],#[D]⟩,_,_,rfl,rfl,_,rfl,?_⟩;refine zbc (fun _=>⟨_,rfl,?_⟩) (fun _=>?_)
  all_goals
   refine⟨bo _,fun l hl=>?_⟩;have DF:H l=none:=zA.free s1 hl;have sf:tp≠l:=zw ze hl;refine⟨_,rfl,many,rfl,#[O],#[O],za7 (lo:=0) (n:=many.toNat) (fun i σ H'=>∃ (r:Int) (v8 v9:Option V) (ds:List Int),σ = [some (.ref a),some (.int k),some (.int many),some (.int bs),some (.ref tp),some (.int c),some (.int r),some (.ref l),v8,v9]∧zh2 i bs ds∧zA H H'∧H' tp=some (.tup zlJ)∧H' l=some (.lst (ds.map V.int)))
    ⟨_,none,none,[],rfl,⟨rfl,#[M]⟩,zae s1 DF,by rw [zp sf]; exact ze,ze⟩ ?_ ?_⟩
   ·rintro zD zT i σ H2 hi ⟨r,v8,v9,ds,rfl,hd,s2,AI,wm⟩;obtain⟨q1,e1,q1p,q1l⟩:=zec (0+(i:Int));obtain⟨q2,e2,q2p,q2l⟩:=zec (3*(0+(i:Int))+k);obtain⟨q3,e3,q3p,q3l⟩:=zec (0+(i:Int)+5);have c1:=aQ c (show q1≠0 by lia);have c2:=aK c q1p;have qe:(i:Int) < 1000:=by lia
    refine⟨_,rfl,_,rfl,_,rfl,_,_,rfl,rfl,(by show (0:Int) < 8; decide),tp,_,_,_,rfl,rfl,lX.of AI,e1,_,_,rfl,rfl,q1p,_,rfl,_,_,rfl,rfl,.inl ⟨#[D],#[D]⟩,_,rfl,_,_,rfl,rfl,.inl ⟨#[O],#[O]⟩,_,_,rfl,rfl,_,_,rfl,rfl,.inl ⟨#[O],#[O]⟩,?_⟩;refine⟨_,rfl,_,rfl,_,_,rfl,rfl,_,_,rfl,rfl,.inl ⟨#[D],#[D]⟩,_,rfl,_,_,rfl,rfl,_,_,rfl,rfl,.inl ⟨#[O],#[O]⟩,_,_,rfl,rfl,_,rfl,_,_,rfl,rfl,.inl ⟨#[D],#[D]⟩,_,_,rfl,rfl,?_⟩;refine⟨_,rfl,_,rfl,_,rfl,_,_,rfl,rfl,.inl ⟨#[D],#[D]⟩,_,rfl,_,_,rfl,rfl,_,_,rfl,rfl,(by show (0:Int) < 8; decide),tp,_,_,_,rfl,rfl,lX.of AI,e2,_,_,rfl,rfl,q2p,?_⟩;generalize c % q1*(48271+2*(0+(i:Int))*(0+(i:Int)))+7919*(0+(i:Int)+1)*(0+(i:Int)+1)+104729*k=ms;have d1:=aQ ms (show q2≠0 by lia);have d2:=aK ms q2p;refine⟨_,rfl,_,rfl,_,_,rfl,rfl,.inl ⟨#[O],#[O]⟩,_,rfl,_,_,rfl,rfl,.inr ⟨#[O],#[O]⟩,_,rfl,_,rfl,_,_,rfl,rfl,_,_,rfl,rfl,(by show (0:Int) < 8; decide),tp,_,_,_,rfl,rfl,lX.of AI,e3,_,_,rfl,rfl,q3p,?_⟩;refine⟨_,rfl,_,_,rfl,rfl,_,rfl,?_⟩;have DG:=hd.1;refine zbc (fun _=>⟨_,rfl,?_⟩) (fun _=>?_)
    all_goals
     refine⟨_,rfl,.inl ⟨rfl,_,lN.of wm⟩,_,rfl,_,rfl,_,_,rfl,rfl,b0,l,_,_,rfl,rfl,wm,zau (by rw [ae]; lia),?_⟩;refine⟨_,rfl,_,rfl,_,_,rfl,rfl,⟨b0,b1⟩,?_⟩;refine⟨_,_,_,ds++[_],rfl,⟨by rw [aB,DG]; rfl,fun d hm=>?_⟩,zae s2 DF,by rw [zp sf]; exact AI,by rw [ze,aw]; rfl⟩; rcases aP.mp hm with hm | hm
     ·exact hd.2 d hm
     ·have e:=aY.mp hm;rw [e];exact⟨aQ _ #[O],aK _ b0⟩
   ·rintro σ H2 ⟨r,v8,v9,ds,rfl,hd,s2,AI,wm⟩;exact⟨_,rfl,q l ds H2 DF s2 hd wm⟩
theorem za9:FnScope ["script","at","most_k","most_n","plan","primes","p","k","many","left"] ["script","at","most_k","most_n"] (zj zcm):=#[S]
theorem zju {fd:FuncData} (T:Txt K mg t) (F:Fun K "_law_code" "_law_code" zcm t.l_code fd):FnOk P w K mg base CX0 3 t.l_code fd ["script","at","most_k","most_n"] (ziV K):=by
 obtain⟨nT,me,mh⟩:=T.f_l_draws;have mK:=zcO (P:=P) (w:=w) (base:=base) T me;refine F.ok za9 (fun vs H Q E h=>?_) (fun l8 A outer s H vs Q E hr h=>?_)
 ·obtain⟨a,ns,at',mk,mn,rfl,_⟩:=h;rfl
 ·obtain⟨a,ns,at',mk,mn,rfl,hS,lT,a0,a1,k1,k5,kn,yJ,q⟩:=h;refine zbl ?_; intro zX;refine⟨_,#[zg,#[zr,4,za9.nd,(dJ rfl),#[zH,mK,(hr.mono #[D]),T.m_l_draws,me.kp,mh,#[zap],#[zd,#[pvx,0],by exact #[zd,#[pvx,1],#[zd,#[zi],#[ya,#[zi]]]]]]],(by exact (@zkg _ 5 _ _ _ _ _ _ _ [5,7,11,13,17,19,23,29,31,37,41,43,47,53,59,61,67,71,73,79,83,89,97] #[N] za9.nd rfl #[A] (by first | exact .inl rfl | exact .inr rfl) (by exact #[zg,#[zr,6,za9.nd,#[A],#[zL,#[zQ],#[zY,#[zd,#[zL,#[zQ],#[pvx,5],#[zm,#[zI],#[zL,#[zQ],#[pvx,4],#[zi]],#[zi]]],#[ya,#[zL,#[zQ],#[pvx,5],#[zm,#[zI],#[zL,#[zQ],#[pvx,4],#[zi]],#[zi]]]]]],#[zm,#[zI],#[zL,#[zQ],#[pvx,4],#[zi]],#[zi]]]],#[zg,#[zr,7,za9.nd,#[A],#[zm,#[zR],#[zi],#[zm,#[zI],#[zL,#[zQ],#[pvx,4],#[zi]],#[zy,#[zeQ],T.min_,boot_min,#[zd,#[pvx,2],#[ya,#[pvx,6]]]]]]],#[zg,#[zr,8,za9.nd,#[A],#[zm,#[zR],#[pvx,7],#[zm,#[zI],#[zL,#[zQ],#[pvx,4],#[zi]],#[zm,#[zR],#[zm,#[zbq],#[zy,#[zeQ],T.min_,boot_min,#[zd,#[pvx,3],#[ya,#[pvx,6]]]],#[pvx,7]],#[zi]]]]],#[zg,#[zr,9,za9.nd,(dJ rfl),#[zaG,#[zcE],T.list_,jW,#[ya,#[zaG,#[zdr],T.range_,jb,#[ya,#[pvx,6]]]]]],#[zn,#[zO,#[zbr,#[zd,#[pvx,6],#[zd,#[pvx,7],#[ya,#[zaG,#[zaR],T.tuple_,g8,#[ya,#[zas,(CompSc.of (N':=["j","left","plan"]) (ix:=[none,some 9,some 4]) (zj zcm) ["script","at","most_k","most_n","plan","primes","p","k","many","left"] rfl rfl #[N]),#[zaE],#[zaF,T.range_,#[ya,#[pvx,8]]],(fun _ _ _ _=>#[zl,0,(show (["j","left","plan"]:List Str).Nodup from #[N]),#[A]]),(fun _ _ _ _=>#[z8]),(fun _ _ _ _=>(@zng _ (K) _ _ _ _ _ _ _ _ _ _ _ rfl bD PySem.F.slot_list_pop PySem.F.type_list_pop (@zj4 _) #[pvx,1] #[ya,#[zm,#[zI],#[zL,#[zbu,(K)],#[pvx,2],#[zm,#[zR],#[zi],#[pvx,0]]],#[zy,#[zbK,(K)],T.len_,cv,#[ya,#[pvx,1]]]]] (by rfl) (by rfl) (by rfl) (by rfl) (by rfl)))]]]]]]]]]]]]])))],?_⟩;refine zm7 ?_; intro zN7 BV x9 uU qZ qh;refine⟨_,rfl,_,rfl,a,ns,at',20,27720,rfl,hS,lT,a0,a1,#[D],#[D],#[D],#[D],fun l ds H1 hl s1 hd mT=>?_⟩;have DG:ds.length=20:=hd.1;have dat:∀ m:Int,0≤m→m < 20→∃ c:Int,atI (ds.map V.int) m=some (.int c):=fun m h0 h1=>zb3 h0 #[O]
  refine⟨by show 23≤sizeLine; rw [bt]; decide,fun pr AJ=>?_⟩;have DH:l≠pr:=zw mT AJ;obtain⟨d0,BW⟩:=dat 0 #[D] #[D];obtain⟨d1,DI⟩:=dat 1 #[D] #[D];obtain⟨d2,DJ⟩:=dat 2 #[D] #[D];obtain⟨d3,DK⟩:=dat 3 #[D] #[D];have qg:(lP H1 pr (.lst (zz.map V.int))) l=some (.lst (ds.map V.int)):=by rw [zp DH]; exact mT
  obtain⟨p1,mp1,ep1⟩:=zkk (ns:=zz) (k:=d0 % 23) (aQ _ #[D]) (aK _ #[D]);obtain⟨p2,mp2,ep2⟩:=zkk (ns:=zz) (k:=d0 % 3) (aQ _ #[D]) (by have:=aK d0 (show (0:Int) < 3 by decide); have e:(zz.length:Int)=23:=rfl; lia);obtain⟨p,ep,BM⟩:=zni (x:=p1) (y:=p2) (m:=d1 % 2) (aQ _ #[D]) (aK _ #[D]);have mp:p∈zz:=by rcases BM with e | e <;> rw [e] <;> assumption
  have rp:=zN mp;refine⟨_,rfl,_,rfl,l,_,_,_,rfl,rfl,lN.of qg,BW,_,_,rfl,rfl,(by show (0:Int) < 23; decide),pr,_,_,_,rfl,rfl,lN.of ze,ep1,
   _,rfl,_,rfl,l,_,_,_,rfl,rfl,lN.of qg,BW,_,_,rfl,rfl,(by show (0:Int) < 3; decide),pr,_,_,_,rfl,rfl,lN.of ze,ep2,zaC,fun l2 n8=>?_⟩
  have DL:l≠l2:=zw qg n8;have vF:(lP (lP H1 pr (.lst (zz.map V.int))) l2 (.lst [.int p1,.int p2])) l=some (.lst (ds.map V.int)):=by rw [zp DL]; exact qg
  refine⟨_,rfl,l,_,_,_,rfl,rfl,lN.of vF,DI,_,_,rfl,rfl,(by show (0:Int) < 2; decide),l2,_,_,_,rfl,rfl,lN.of ze,ep,?_⟩;have w6:(0:Int) < (if p < mk then p else mk):=by split <;> lia
  have uq:(if p < mk then p else mk)≤mk:=by split <;> lia
  have Du:(if p < mk then p else mk)≤p:=by split <;> lia
  refine⟨_,rfl,l,_,_,_,rfl,rfl,lN.of vF,DJ,_,rfl,_,rfl,_,_,rfl,_,_,rfl,rfl,w6,_,_,rfl,rfl,?_⟩;generalize (if p < mk then p else mk)=mm at w6 uq Du ⊢;have ur:=aQ d2 (show mm≠0 by lia);have BO:=aK d2 w6;have vB:(if p < mn then p else mn)≤mn:=by split <;> lia
  have rQ:(if p < mn then p else mn)≤p:=by split <;> lia
  have hn3:mm≤(if p < mn then p else mn):=by split <;> lia
  refine⟨_,rfl,_,rfl,l,_,_,_,rfl,rfl,lN.of vF,DK,_,rfl,_,rfl,_,_,rfl,_,rfl,_,_,rfl,rfl,_,_,rfl,rfl,_,_,rfl,rfl,#[O],_,_,rfl,rfl,?_⟩;generalize (if p < mn then p else mn)=nn at vB rQ hn3 ⊢;have hq0:=aQ d3 (show nn - (1+d2 % mm)+1≠0 by lia);have oB:=aK d3 (show 0 < nn - (1+d2 % mm)+1 by lia);refine⟨_,rfl,p,rfl,fun r vE=>⟨r,p,rfl,ze,#[O],#[O],fun lf DM=>?_⟩⟩;have yE:l≠r:=zw vF vE;have AK:l≠lf:=by
   refine zw (H:=lP (lP (lP H1 pr (.lst (zz.map V.int))) l2 (.lst [.int p1,.int p2])) r (.rng 0 p)) (o:=.lst (ds.map V.int)) ?_ DM;rw [zp yE]; exact vF
  have sA:zA H (lP (lP H1 pr (.lst (zz.map V.int))) l2 (.lst [.int p1,.int p2])):=(s1.trans (zf AJ)).trans (zf n8);have sB:=(sA.trans (zf (o:=.rng 0 p) vE)).trans (zf (o:=.lst ((zat 0 p.toNat).map V.int)) DM);have DO:H lf=none:=(sA.trans (zf (o:=.rng 0 p) vE)).free DM;obtain⟨nd0,rg0⟩:=ziW p;refine⟨_,rfl,_,rfl,_,rfl,_,rfl,#[O],#[O],z9 (n:=(1+d2 % mm+d3 % (nn - (1+d2 % mm)+1)).toNat) (fun i ys H'=>∃ xs ls:List Int,ys=xs.map V.int∧xs.length=i∧zA H H'∧H' l=some (.lst (ds.map V.int))∧H' lf=some (.lst (ls.map V.int))∧ls.length+i=p.toNat∧(xs++ls).Nodup∧∀ y∈xs++ls,0≤y∧y < p)
   ⟨[],zat 0 p.toNat,rfl,rfl,sB,by rw [zp AK,zp yE]; exact vF,ze,by rw [zcD]; rfl,by simpa using nd0,by simpa using rg0⟩ (fun i ys H' hi _=>hi) (fun ys H' _=>ah _) ?_ ?_⟩
  ·rintro zS zT zE i x ys H4 H5 hi ⟨xs,ls,rfl,yG,s4,yb,wo,yK,nd,rg⟩ ⟨rfl,rfl⟩;refine gY ?_;obtain⟨c,ec⟩:=dat (4+(0+(i:Int))) #[O] #[O];have lpos:0 < ls.length:=by lia
   have lm:((ls.map V.int).length:Int)=(ls.length:Int):=by rw [ae]
   have c0:=aQ c (show (ls.length:Int)≠0 by lia);have c1:=aK c (show (0:Int) < ls.length by lia);have qu:=bt;obtain⟨y,ey⟩:∃ y,ls[(c % (ls.length:Int)).toNat]? = some y:=⟨ls[(c % (ls.length:Int)).toNat]'#[O],#[M]⟩;refine⟨_,rfl,.inl ⟨rfl,_,lN.of wo⟩,_,rfl,_,rfl,_,_,rfl,rfl,l,_,_,_,rfl,rfl,lN.of yb,ec,_,rfl,lf,_,rfl,.inl (lN.of wo),_,_,rfl,rfl,(by rw [lm]; lia),lf,_,_,(c % (ls.length:Int)).toNat,.int y,rfl,rfl,wo,?_⟩;rw [lm];refine⟨#[O],#[O],by rw [ae]; exact gq c0 c1,by rw [ap,ey]; rfl,zau (by rw [ae]; lia),xs++[y],ls.eraseIdx (c % (ls.length:Int)).toNat,by rw [aw]; rfl,by rw [aB,yG]; rfl,zae s4 DO,by rw [zp AK]; exact yb,by rw [ze,ze5],?_,zlL ey nd rg⟩;rw [List.length_eraseIdx];split <;> lia
  ·rintro ys H4 D ⟨xs,ls,rfl,yG,s4,yb,wo,yK,nd,rg⟩ hD;refine⟨D,_,rfl,.inl ⟨lN.of ze,fun tt AL=>⟨by show 3≤sizeLine; rw [bt]; decide,fun c hc=>?_⟩⟩⟩;have s5:=(s4.trans (zf (o:=.lst (xs.map V.int)) hD)).trans (zf (o:=.tup (xs.map V.int)) AL);refine q c tt p _ xs _ (s5.free hc) (s5.trans (zf hc)) ⟨mp,#[O],#[O],#[O],#[O],(fu.mp nd).1,fun y hy=>rg y (aS _ hy)⟩ ze ?_;rw [zp (zw ze hc)];exact ze
theorem zba:FnScope ["p","polynomial","x","total","power","number"] ["p","polynomial","x"] (zj zcx):=#[S]
theorem zcP {fd:FuncData} (T:Txt K mg t) (F:Fun K "_law_value" "_law_value" zcx t.l_value fd):FnOk P w K mg base CX0 1 t.l_value fd ["p","polynomial","x"] (zhb K):=by
 refine F.ok zba (fun vs H Q E h=>?_) (fun l8 A outer s H vs Q E hr h=>?_)
 ·obtain⟨p,x,a,cs,rfl,_⟩:=h;rfl
 ·obtain⟨p,x,a,cs,rfl,hS,p0,p1,x0,x1,q⟩:=h;refine zbl ?_; intro zX;refine⟨_,#[zg,#[zr,3,zba.nd,#[A],#[zi]],#[zg,#[zr,4,zba.nd,#[A],#[zi]],#[zg,#[zaD,bA,(@znf _ _ _ _ #[pvx,1]),#[zl,5,zba.nd,#[A]],#[zg,#[zr,3,zba.nd,#[A],#[zm,#[zI],#[zm,#[zR],#[pvx,3],#[zm,#[zaj],#[pvx,5],#[pvx,4]]],#[pvx,0]]],#[zn,#[zr,4,zba.nd,#[A],#[zm,#[zI],#[zm,#[zaj],#[pvx,4],#[pvx,2]],#[pvx,0]]]]]],#[zn,#[zO,#[pvx,3]]]]]],?_⟩;refine zlE ?_; intro uU qZ qh;refine⟨_,rfl,a,rfl,?_⟩;rcases hS with hS | hS
  ·refine .inl ⟨⟨_,hS⟩,zak (K:=K) (a:=a) (xs:=cs.map V.int) (fun i σ H'=>H'=H∧∃ (lY power:Int) (nb:Option V),σ = [some (.int p),some (.ref a),some (.int x),some (.int lY),some (.int power),nb]∧0≤power∧power≤97∧lv p x lY power (cs.drop i)=lv p x 0 1 cs)
    ⟨rfl,0,1,none,rfl,#[D],#[D],rfl⟩ (fun i σ H' _ ⟨e,_⟩=>by rw [e]; exact hS) ?_ ?_⟩
   ·rintro zD zT i y σ H1 hy ⟨rfl,lY,power,nb,rfl,w0,w1,hl⟩;obtain⟨c,rfl,hc⟩:=zax hy;have m0:=aQ (power*x) (show p≠0 by lia);have m1:=aK (power*x) p0;refine⟨_,rfl,_,rfl,_,rfl,_,_,rfl,rfl,.inr ⟨#[O],#[O]⟩,_,_,rfl,rfl,_,rfl,_,_,rfl,rfl,p0,?_⟩;refine⟨_,rfl,_,rfl,_,_,rfl,rfl,.inl ⟨#[O],#[O]⟩,_,rfl,_,_,rfl,rfl,p0,?_⟩;exact⟨rfl,_,_,_,rfl,m0,#[O],(zh3 hc).symm.trans hl⟩
   ·rintro σ H1 ⟨rfl,lY,power,nb,rfl,w0,w1,hl⟩;rw [ae,fO] at hl;have hl:lY=lv p x 0 1 cs:=hl;rw [zhZ p0] at hl;rw [← hl] at q;exact⟨_,rfl,q⟩
  ·refine .inr ⟨⟨_,hS⟩,zj8 (K:=K) (a:=a) (xs:=cs.map V.int) (fun i σ H'=>H'=H∧∃ (lY power:Int) (nb:Option V),σ = [some (.int p),some (.ref a),some (.int x),some (.int lY),some (.int power),nb]∧0≤power∧power≤97∧lv p x lY power (cs.drop i)=lv p x 0 1 cs)
    ⟨rfl,0,1,none,rfl,#[D],#[D],rfl⟩ (fun i σ H' _ ⟨e,_⟩=>by rw [e]; exact hS) ?_ ?_⟩
   ·rintro zD zT i y σ H1 hy ⟨rfl,lY,power,nb,rfl,w0,w1,hl⟩;obtain⟨c,rfl,hc⟩:=zax hy;have m0:=aQ (power*x) (show p≠0 by lia);have m1:=aK (power*x) p0;refine⟨_,rfl,_,rfl,_,rfl,_,_,rfl,rfl,.inr ⟨#[O],#[O]⟩,_,_,rfl,rfl,_,rfl,_,_,rfl,rfl,p0,?_⟩;refine⟨_,rfl,_,rfl,_,_,rfl,rfl,.inl ⟨#[O],#[O]⟩,_,rfl,_,_,rfl,rfl,p0,?_⟩;exact⟨rfl,_,_,_,rfl,m0,#[O],(zh3 hc).symm.trans hl⟩
   ·rintro σ H1 ⟨rfl,lY,power,nb,rfl,w0,w1,hl⟩;rw [ae,fO] at hl;have hl:lY=lv p x 0 1 cs:=hl;rw [zhZ p0] at hl;rw [← hl] at q;exact⟨_,rfl,q⟩
theorem zk4 (xs:List V) (j:Nat):zdh xs none (some (j:Int))=xs.take j:=by
 unfold zdh;rw [HT.sIx_nat,HT.sIx_none,jX,gn];by_cases h:j≤xs.length
 ·rw [fX h]
 ·rw [show min j xs.length=xs.length by lia,aO (ah _),aO (show xs.length≤j by lia)]
def zjv (K:ag):Sp:=fun vs H Q _=>∃ (a:Addr) (ds:List Int) (p k:Int),vs = [.ref a,.int p,.int k]∧lN K H a (ds.map V.int)∧ds.length≤1000∧0 < p ∧
 ∀ (l:Addr) (l6:List Int) (H':Hp),H l=none→zA H H'→(l6.length≤ds.length∧∀ x∈l6,0≤x∧x < p)→H' l=some (.tup (l6.map V.int))→(∀ n:Nat,k=(n:Int)→n≤ds.length→l6.length=n)→Q (.ref l) H'
theorem zdF:FnScope ["draws","p","k"] ["draws","p","k"] (zj zaN):=#[S]
theorem zdG {fd:FuncData} (T:Txt K mg t) (F:Fun K "_law_polynomial" "_law_polynomial" zaN t.l_polynomial fd):FnOk P w K mg base CX0 1 t.l_polynomial fd ["draws","p","k"] (zjv K):=by
 refine F.ok zdF (fun vs H Q E h=>?_) (fun l8 A outer s H vs Q E hr h=>?_)
 ·obtain⟨a,ds,p,k,rfl,_⟩:=h;rfl
 ·obtain⟨a,ds,p,k,rfl,ha,hn,p0,q⟩:=h;refine zbl ?_; intro zX;refine⟨_,#[zn,#[zO,#[zaG,#[zaR],T.tuple_,g8,#[ya,#[zas,(CompSc.of (N':=["draw","p"]) (ix:=[none,some 1]) (zj zaN) ["draws","p","k"] rfl rfl #[N]),#[zaE],#[z6,#[zcT,zdK,#[pvx,0],#[zdI],#[zdJ,#[pvx,2]]]],(fun _ _ _ _=>#[zl,0,(show (["draw","p"]:List Str).Nodup from #[N]),#[A]]),(fun _ _ _ _=>#[z8]),(fun _ _ _ _=>#[zm,#[zI],#[pvx,0],#[pvx,1]])]]]]],?_⟩;obtain⟨ms,ems,lms⟩:=zkm ds none (some k);refine⟨_,rfl,_,rfl,_,rfl,a,_,rfl,ha,fun z hz=>?_⟩;rw [ems];have s4:=zf (o:=.lst (ms.map V.int)) hz;refine⟨z,rfl,⟨_,lN.of ze⟩,ziX (K:=K) (xs:=ms.map V.int) (fs:=ms.map fun d=>V.int (d % p)) (lN.of ze) (by rw [ae,ae]) (by rw [ae]; lia) ?_ ?_⟩
  ·intro j x y R B hx hy hR;obtain⟨c,_,rfl,rfl⟩:=zgf hx hy;refine gY ?_;exact⟨_,rfl,_,rfl,_,_,rfl,rfl,p0,hR⟩
  intro D hD;have DP:(ms.map fun d=>V.int (d % p))=(ms.map (· % p)).map V.int:=by rw [bh]; rfl
  rw [DP];refine⟨D,_,rfl,.inl ⟨lN.of ze,fun po yc=>?_⟩⟩;have s5:=s4.trans (zf (o:=.lst ((ms.map (· % p)).map V.int)) hD);refine q po _ _ (s5.free yc) (s5.trans (zf yc)) ⟨by rw [ae]; exact lms,fun x hx=>?_⟩ ze (fun n BN hle=>?_)
  ·obtain⟨d,_,rfl⟩:=az.mp hx;exact⟨aQ _ #[O],aK _ p0⟩
  ·have h1:=congrArg eQ ems;rw [BN,zk4,aL,ae,ae] at h1;rw [ae];lia
theorem zbG:FnScope ["p","polynomial","x","value","number"] ["p","polynomial","x"] (zj zb7):=#[S]
theorem zdz {fd:FuncData} (T:Txt K mg t) (F:Fun K "value_at" "value_at" zb7 t.value_at fd):FnOk P w K mg base CX0 1 t.value_at fd ["p","polynomial","x"] (zds K):=by
 refine F.ok zbG (fun vs H Q E h=>?_) (fun l8 A outer s H vs Q E hr h=>?_)
 ·obtain⟨p,x,a,cs,rfl,_⟩:=h;rfl
 ·obtain⟨p,x,a,cs,rfl,hS,p0,p1,x0,x1,q⟩:=h;refine zbl ?_; intro zX;refine⟨_,#[zg,#[zr,3,zbG.nd,#[A],#[zi]],#[zg,#[zaD,bA,(@zne _ _ _ _ _ _ rfl T.reversed_ #[ya,#[pvx,1]] (by rfl)),#[zl,4,zbG.nd,#[A]],#[zn,#[zr,3,zbG.nd,#[A],#[zm,#[zI],#[zm,#[zR],#[zm,#[zaj],#[pvx,3],#[pvx,2]],#[pvx,4]],#[pvx,0]]]]],#[zn,#[zO,#[pvx,3]]]]],?_⟩;refine zg1 ?_; intro qZ qh;refine⟨_,rfl,a,cs.map V.int,rfl,?_⟩;rcases hS with hS | hS
  ·refine .inl ⟨hS,?_⟩;rw [ae];refine zhU (n:=cs.length) (fun i σ H'=>H'=H∧∃ nb,σ = [some (.int p),some (.ref a),some (.int x),some (.int (zu p x (cs.drop (cs.length - i)))),nb]) ⟨rfl,none,by rw [jX,fO]; rfl⟩
    (fun i σ H' hi ⟨e,_⟩=>⟨hi,cs.map V.int,by rw [e]; exact hS,by rw [ae]⟩) (fun σ H' _=>ah _) ?_ ?_
   ·rintro zD zT i y σ H1 H2 hi ⟨rfl,nb,rfl⟩ ⟨rfl,hy⟩;obtain⟨c,rfl,hc⟩:=zax (hy _ hS);have v0:=zbD (x:=x) p0 (cs.drop (cs.length - i));have v1:=zbE (x:=x) p0 (cs.drop (cs.length - i));refine⟨_,rfl,_,rfl,_,_,rfl,rfl,.inl ⟨#[O],#[O]⟩,_,rfl,_,_,rfl,rfl,_,rfl,_,_,rfl,rfl,p0,?_⟩;refine⟨rfl,some (.int c),?_⟩;rw [ze6 hi hc];show _ = [some (V.int p),_,_,some (V.int ((c+x*zu p x (cs.drop (cs.length - i))) % p)),_];rw [Int.add_comm c,jU x];rfl
   ·rintro σ H1 ⟨rfl,nb,rfl⟩;rw [iq,gn];exact⟨_,rfl,q⟩
  ·refine .inr ⟨hS,?_⟩;rw [ae];refine zhU (n:=cs.length) (fun i σ H'=>H'=H∧∃ nb,σ = [some (.int p),some (.ref a),some (.int x),some (.int (zu p x (cs.drop (cs.length - i)))),nb]) ⟨rfl,none,by rw [jX,fO]; rfl⟩
    (fun i σ H' hi ⟨e,_⟩=>⟨hi,cs.map V.int,by rw [e]; exact hS,by rw [ae]⟩) (fun σ H' _=>ah _) ?_ ?_
   ·rintro zD zT i y σ H1 H2 hi ⟨rfl,nb,rfl⟩ ⟨rfl,hy⟩;obtain⟨c,rfl,hc⟩:=zax (hy _ hS);have v0:=zbD (x:=x) p0 (cs.drop (cs.length - i));have v1:=zbE (x:=x) p0 (cs.drop (cs.length - i));refine⟨_,rfl,_,rfl,_,_,rfl,rfl,.inl ⟨#[O],#[O]⟩,_,rfl,_,_,rfl,rfl,_,rfl,_,_,rfl,rfl,p0,?_⟩;refine⟨rfl,some (.int c),?_⟩;rw [ze6 hi hc];show _ = [some (V.int p),_,_,some (V.int ((c+x*zu p x (cs.drop (cs.length - i))) % p)),_];rw [Int.add_comm c,jU x];rfl
   ·rintro σ H1 ⟨rfl,nb,rfl⟩;rw [iq,gn];exact⟨_,rfl,q⟩
theorem zaZ:FnScope ["p","number","product","square","left"] ["p","number"] (zj zcu):=#[S]
theorem zhu {fd:FuncData} (T:Txt K mg t) (F:Fun K "inverse" "inverse" zcu t.inverse fd):FnOk P w K mg base CX0 1 t.inverse fd ["p","number"] (zhc K):=by
 refine F.ok zaZ (fun vs H Q E h=>?_) (fun l8 A outer s H vs Q E hr h=>?_)
 ·obtain⟨p,h,rfl,_⟩:=h;rfl
 ·obtain⟨p,hh,rfl,mp,h0,h1,q⟩:=h;refine zbl ?_; intro zX;refine⟨_,#[zg,#[zr,2,zaZ.nd,#[A],#[zi]],#[zg,#[zr,3,zaZ.nd,#[A],#[zm,#[zI],#[pvx,1],#[pvx,0]]],#[zg,#[zr,4,zaZ.nd,#[A],#[zm,#[zbq],#[pvx,0],#[zi]]],#[zg,(@zjT _ _ _ _ _ _ bA #[zJ,#[zhO],#[pvx,4],#[zi],(zad _)] #[zg,#[zbi,#[zJ,#[zcf],#[zm,#[zI],#[pvx,4],#[zi]],#[zi],(zad _)],#[zn,#[zr,2,zaZ.nd,#[A],#[zm,#[zI],#[zm,#[zaj],#[pvx,2],#[pvx,3]],#[pvx,0]]]],#[zaw]],#[zg,#[zr,3,zaZ.nd,#[A],#[zm,#[zI],#[zm,#[zaj],#[pvx,3],#[pvx,3]],#[pvx,0]]],#[zn,(@zmT _ _ (4) _ _ _ _ _ _ zaZ.nd rfl #[A] #[zi] zjW (by trivial))]]]),#[zn,#[zO,#[pvx,2]]]]]]],?_⟩;refine zlF ?_; intro x9 uU qZ qh;have rp:=zN mp;have e0:=aQ hh (show p≠0 by lia);have e1:=aK hh (show 0 < p by lia);refine⟨_,rfl,_,rfl,_,_,rfl,rfl,(by show 0 < p; lia),_,rfl,_,_,rfl,rfl,?_⟩;refine zjV (fun σ H'=>H'=H∧∃ (prod sq left:Int) (n:Nat),σ = [some (.int p),some (.int hh),some (.int prod),some (.int sq),some (.int left)]∧0≤prod∧prod < p∧0≤sq∧sq < p∧0≤left∧left < 2 ^ n∧zcq p n prod sq left=inv p hh) (fun σ _=>znj σ)
   ⟨rfl,1,hh % p,p - 2,7,rfl,#[O],#[O],e0,e1,#[O],#[O],rfl⟩ ?_ ?_
  ·rintro σ H1 ⟨rfl,prod,sq,left,n,rfl,b0,b1,s0,s1,l0,l1,hi⟩;refine⟨_,rfl,_,_,rfl,rfl,_,rfl,?_⟩;refine zbc (fun hl=>?_) (fun hl=>?_)
   ·have hl:0 < left:=by simpa using hl
    obtain⟨m,rfl⟩:∃ m,n=m+1:=by
     cases n with
     | zero=>lia
     | succ m=>exact⟨m,rfl⟩
    rw [zfw hl l1] at hi;have l2:left / 2 < 2 ^ m:=by
     have:(2:Int) ^ (m+1)=2 ^ m*2:=il ..;lia
    have m0:=aQ (prod*sq) (show p≠0 by lia);have m1:=aK (prod*sq) (show 0 < p by lia);have n0:=aQ (sq*sq) (show p≠0 by lia);have n1:=aK (sq*sq) (show 0 < p by lia);refine⟨_,rfl,_,_,rfl,rfl,(by show (0:Int) < 2; decide),rfl,_,rfl,?_⟩; refine zbc (fun ho=>?_) (fun ho=>?_)
    ·have ho:left % 2=1:=by simpa using ho
     rw [if_pos ho] at hi;refine⟨_,rfl,_,rfl,_,_,rfl,rfl,.inl ⟨#[O],#[O]⟩,_,rfl,_,_,rfl,rfl,(by show 0 < p; lia),?_⟩;refine⟨_,rfl,_,rfl,_,_,rfl,rfl,.inl ⟨#[O],#[O]⟩,_,rfl,_,_,rfl,rfl,(by show 0 < p; lia),?_⟩;refine⟨_,rfl,_,_,rfl,rfl,⟨#[D],#[D]⟩,⟨rfl,_,_,_,m,rfl,m0,m1,n0,n1,#[O],l2,hi⟩,?_⟩;show (left / 2).toNat < left.toNat;lia
    ·have ho:¬ left % 2=1:=by simpa using ho
     rw [if_neg ho] at hi;refine⟨_,rfl,_,rfl,_,_,rfl,rfl,.inl ⟨#[O],#[O]⟩,_,rfl,_,_,rfl,rfl,(by show 0 < p; lia),?_⟩;refine⟨_,rfl,_,_,rfl,rfl,⟨#[D],#[D]⟩,⟨rfl,_,_,_,m,rfl,b0,b1,n0,n1,#[O],l2,hi⟩,?_⟩;show (left / 2).toNat < left.toNat;lia
   ·have hl:¬ 0 < left:=by simpa using hl
    have el:left=0:=by lia
    subst el;rw [zgd] at hi;rw [← hi] at q;exact⟨_,rfl,q⟩
  ·rintro σ H1 Q1 Q2 hq ⟨v,e,i,j,e1,e2,k,e3,q⟩;exact⟨v,e,i,j,e1,e2,k,e3,hq _ _ q⟩
theorem zbL:FnScope ["p","polynomial","root","raised","kept"] ["p","polynomial","root"] (zj za4):=#[S]
theorem zeH {fd:FuncData} (T:Txt K mg t) (F:Fun K "times_root" "times_root" za4 t.times_root fd):FnOk P w K mg base CX0 1 t.times_root fd ["p","polynomial","root"] (zeF K):=by
 refine F.ok zbL (fun vs H Q E h=>?_) (fun l8 A outer s H vs Q E hr h=>?_)
 ·obtain⟨p,r,a,cs,rfl,_⟩:=h;rfl
 ·obtain⟨p,r,a,cs,rfl,ha,lT,p0,r0,r1,q⟩:=h;refine zbl ?_; intro zX;refine⟨_,#[zg,#[zr,3,zbL.nd,#[A],#[zm,#[zbZ],#[zY,#[ya,#[zi]]],#[pvx,1]]],#[zg,#[zr,4,zbL.nd,#[A],#[zm,#[zbZ],#[pvx,1],#[zY,#[ya,#[zi]]]]],#[zn,#[zO,#[zas,(CompSc.of (N':=["high","low","root","p"]) (ix:=[none,none,some 2,some 0]) (zj za4) ["p","polynomial","root","raised","kept"] rfl rfl #[N]),#[zbt,#[zU,#[zU,#[za3]]]],#[zdL,T.zip_,#[zd,#[pvx,3],#[ya,#[pvx,4]]]],(fun _ _ _ _=>#[zaW,(K),2,#[zq,#[zl,0,(show (["high","low","root","p"]:List Str).Nodup from #[N]),#[A]],#[zq,#[zl,1,(show (["high","low","root","p"]:List Str).Nodup from #[N]),#[A]],#[zag]]]]),(fun _ _ _ _=>#[z8]),(fun _ _ _ _=>#[zm,#[zI],#[zm,#[zbq],#[pvx,0],#[zm,#[zaj],#[pvx,2],#[pvx,1]]],#[pvx,3]])]]]]],?_⟩;refine zg1 ?_; intro qZ qh;have qu:=bt;refine⟨by show 1≤sizeLine; lia,fun z hz=>⟨_,rfl,z,a,[.int 0],cs.map V.int,rfl,rfl,ze,by rw [zp (zw ha hz)]; exact ha,by rw [ae]; show 1+cs.length≤sizeLine; lia,fun ra nL=>?_⟩⟩;have s1:zA H (lP (lP H z (.lst [.int 0])) ra (.lst ([.int 0]++cs.map V.int))):=(zf hz).trans (zf nL);refine⟨_,rfl,by show 1≤sizeLine; lia,fun z2 sP=>⟨a,z2,cs.map V.int,[.int 0],rfl,rfl,by rw [zp (zw (s1 _ _ ha) sP)]; exact s1 _ _ ha,ze,by rw [ae]; show cs.length+1≤sizeLine; lia,fun ke hke=>?_⟩⟩;have s2:=s1.trans ((zf (o:=.lst [.int 0]) sP).trans (zf (o:=.lst (cs.map V.int++[.int 0])) hke));have uV:lP (lP (lP (lP H z (.lst [.int 0])) ra (.lst ([.int 0]++cs.map V.int))) z2 (.lst [.int 0])) ke (.lst (cs.map V.int++[.int 0])) ra=some (.lst ((0 :: cs).map V.int)) :=
   ((zf (o:=.lst [.int 0]) sP).trans (zf (o:=.lst (cs.map V.int++[.int 0])) hke)) _ _ ze
  have uW:lP (lP (lP (lP H z (.lst [.int 0])) ra (.lst ([.int 0]++cs.map V.int))) z2 (.lst [.int 0])) ke (.lst (cs.map V.int++[.int 0])) ke=some (.lst ((cs++[0]).map V.int)):=by rw [ze,aw]; rfl
  generalize lP (lP (lP (lP H z (.lst [.int 0])) ra (.lst ([.int 0]++cs.map V.int))) z2 (.lst [.int 0])) ke (.lst (cs.map V.int++[.int 0]))=H2 at s2 uV uW ⊢;refine⟨_,rfl,_,rfl,ra,ke,_,_,rfl,lN.of uV,lN.of uW,z9 (n:=cs.length+1) (fun i ys H'=>ys=((zcF p r cs).take i).map V.int∧zA H2 H') ⟨#[M],fun _ _ e=>e⟩ ?_ ?_ ?_ ?_⟩
  ·rintro i ys H3 hi ⟨_,s3⟩;obtain⟨x,hx⟩:∃ x,(0 :: cs)[i]? = some x:=⟨(0 :: cs)[i]'(by simpa using hi),#[M]⟩;obtain⟨y,hy⟩:∃ y,(cs++[0])[i]? = some y:=⟨(cs++[0])[i]'(by simpa using hi),#[M]⟩;exact⟨_,_,.int x,.int y,lN.of (s3 _ _ uV),lN.of (s3 _ _ uW),by rw [ap,hx]; rfl,by rw [ap,hy]; rfl⟩
  ·rintro ys H3 ⟨_,s3⟩;exact⟨_,_,lN.of (s3 _ _ uV),lN.of (s3 _ _ uW),.inl #[M]⟩
  ·rintro zS zT zE i x ys H3 H4 hi ⟨rfl,s3⟩ ⟨T,u,v,hT,rfl,rfl,hu,hv⟩;obtain⟨x,rfl,hx⟩:=zax (hu _ (lN.of (s3 _ _ uV)));obtain⟨y,rfl,hy⟩:=zax (hv _ (lN.of (s3 _ _ uW)));refine gY2 (lX.of ze) ?_;refine⟨_,rfl,_,rfl,_,rfl,_,_,rfl,rfl,.inl ⟨#[O],#[O]⟩,_,_,rfl,rfl,_,rfl,_,_,rfl,rfl,p0,zau ?_,?_,s3.trans (zf hT)⟩
   ·rw [ae];exact aV (dU _ _) #[O]
   ·show _=(List.take (i+1) (aW (trF p r) (0 :: cs) (cs++[0]))).map V.int;rw [zge hx hy,aw];rfl
  ·rintro ys H3 D ⟨rfl,s3⟩ hD;refine q D _ ((s2.trans s3).free hD) ((s2.trans s3).trans (zf hD)) ?_;rw [ze,aO (by rw [ze1]; exact ah _)]
theorem zk5 {p f:Int}:∀ (cs vs:List Int),vs.length≤cs.length→ad p f cs vs=aW (fun number other=>(number+f*other) % p) cs vs++cs.drop vs.length
 | [],[],_=>rfl
 | _ :: _,[],_=>rfl
 | [],_ :: _,h=>by simp at h
 | c :: cs,v :: vs,h=>by
  show (c+f*v) % p :: ad p f cs vs=(c+f*v) % p :: (aW _ cs vs++cs.drop vs.length);rw [zk5 cs vs (by simpa using h)]
theorem zk6 {xs:List V} {k:Nat} (h:k≤xs.length):zdh xs (some (k:Int)) none=xs.drop k:=by
 have e1:HT.sIx xs.length 0 (some (k:Int))=k:=by
  unfold HT.sIx;simp;split <;> lia
 have e2:HT.sIx xs.length xs.length none=xs.length:=rfl;unfold zdh;rw [e1,e2];exact aO (by rw [ck]; exact ah _)
def zme (K:ag):Sp:=fun vs H Q _=>∃ (p x y:Int) (c v b:Addr) (cs ws:List Int),vs = [.int p,.ref c,.ref v,.ref b]∧H c=some (.lst (cs.map V.int))∧H v=some (.lst (ws.map V.int))∧H b=some (.tup [.int x,.int y])∧p∈zz∧0≤x∧x < p∧0≤y∧y < 10000∧0 < zu p x ws∧zu p x ws < p∧ws.length≤cs.length∧cs.length≤1000 ∧
 ∀ (l:Addr) (H':Hp),H l=none→zA H H'→H' l=some (.lst ((ad p ((y - zu p x cs)*inv p (zu p x ws) % p) cs ws).map V.int))→Q (.ref l) H'
theorem zcy:FnScope ["p","polynomial","vanishing","point","x","y","missing","factor","added"] ["p","polynomial","vanishing","point"] (zj zes):=#[S]
theorem zmf {fd:FuncData} (T:Txt K mg t) (F:Fun K "bent" "bent" zes t.bent fd):FnOk P w K mg base CX0 2 t.bent fd ["p","polynomial","vanishing","point"] (zme K):=by
 obtain⟨o9,mq,mv⟩:=T.f_value_at;have nc:=zdz (P:=P) (w:=w) (base:=base) T mq;obtain⟨sj,qA,oJ⟩:=T.f_inverse;have tG:=zhu (P:=P) (w:=w) (base:=base) T qA;refine F.ok zcy (fun vs H Q E h=>?_) (fun l8 A outer s H vs Q E hr h=>?_)
 ·obtain⟨p,x,y,c,v,b,cs,ws,rfl,_⟩:=h;rfl
 ·obtain⟨p,x,y,c,v,b,cs,ws,rfl,hc,hv,hb,mp,x0,x1,y0,y1,g0,g1,hle,lT,q⟩:=h;refine zbl ?_; intro zX;refine⟨_,#[zg,#[zbX,#[pvx,3],#[zbI,#[zq,#[zl,4,zcy.nd,#[A]],#[zq,#[zl,5,zcy.nd,#[A]],#[zag]]]]],#[zg,#[zr,6,zcy.nd,#[A],#[zm,#[zbq],#[pvx,5],#[zH,nc,(hr.mono #[D]),T.m_value_at,mq.kp,mv,#[zap],#[zd,#[pvx,0],#[zd,#[pvx,1],#[ya,#[pvx,4]]]]]]],#[zg,#[zr,7,zcy.nd,(dJ rfl),#[zm,#[zI],#[zm,#[zaj],#[pvx,6],#[zH,tG,(hr.mono #[D]),T.m_inverse,qA.kp,oJ,#[zap],#[zd,#[pvx,0],#[ya,#[zH,nc,(hr.mono #[D]),T.m_value_at,mq.kp,mv,#[zap],#[zd,#[pvx,0],#[zd,#[pvx,2],#[ya,#[pvx,4]]]]]]]]],#[pvx,0]]],#[zg,#[zaJ,8,zcy.nd,#[A],(CompSc.of (N':=["number","other","factor","p"]) (ix:=[none,none,some 7,some 0]) (zj zes) ["p","polynomial","vanishing","point","x","y","missing","factor","added"] rfl rfl #[N]),#[zbt,#[zU,#[zU,#[za3]]]],#[zdL,T.zip_,#[zd,#[pvx,1],#[ya,#[pvx,2]]]],(fun _ _ _ _=>#[zaW,(K),2,#[zq,#[zl,0,(show (["number","other","factor","p"]:List Str).Nodup from #[N]),#[A]],#[zq,#[zl,1,(show (["number","other","factor","p"]:List Str).Nodup from #[N]),#[A]],#[zag]]]]),(fun _ _ _ _=>#[z8]),(fun _ _ _ _=>#[zm,#[zI],#[zm,#[zR],#[pvx,0],#[zm,#[zaj],#[pvx,2],#[pvx,1]]],#[pvx,3]])],#[zn,#[zO,#[zm,#[zbZ],#[pvx,8],#[zcT,zdK,#[pvx,1],#[zdJ,#[zy,#[zF],T.len_,cv,#[ya,#[pvx,8]]]],#[zdI]]]]]]]]],?_⟩;refine zlF ?_; intro x9 uU qZ qh;have qu:=bt;have rp:=zN mp;have p0:0 < p:=by lia
  have v0:=zbD (x:=x) p0 cs;have v1:=zbE (x:=x) p0 cs;refine⟨_,rfl,b,_,rfl,lX.of hb,rfl,_,_,rfl,_,_,rfl,rfl,?_⟩;refine⟨_,rfl,_,rfl,_,rfl,_,rfl,p,x,c,cs,rfl,.inl (lN.of hc),p0,#[O],x0,x1,_,_,rfl,rfl,?_⟩;refine⟨_,rfl,_,rfl,_,rfl,_,rfl,_,rfl,p,x,v,ws,rfl,.inl (lN.of hv),p0,#[O],x0,x1,p,_,rfl,mp,#[O],#[O],_,_,rfl,rfl,.inl ⟨#[O],#[O]⟩,_,rfl,_,_,rfl,rfl,p0,?_⟩;have f0:=aQ ((y - zu p x cs)*inv p (zu p x ws)) (show p≠0 by lia);have f1:=aK ((y - zu p x cs)*inv p (zu p x ws)) p0;refine⟨_,rfl,_,rfl,c,v,_,_,rfl,lN.of hc,lN.of hv,zdj (n:=ws.length) (f:=fun number other=>(number+((y - zu p x cs)*inv p (zu p x ws) % p)*other) % p) hc hv hle (ah _) (.inr (ah _)) #[O] ?_ ?_⟩
  ·intro j u w H6 T R B hu hv s6 hT hR;refine gY2 (lX.of ze) ?_;exact⟨_,rfl,_,rfl,_,rfl,_,_,rfl,rfl,.inl ⟨#[O],#[O]⟩,_,_,rfl,rfl,_,rfl,_,_,rfl,rfl,p0,hR⟩
  ·intro D H6 s6 hD;obtain⟨f,hf⟩:∃ f,(y - zu p x cs)*inv p (zu p x ws) % p=f:=⟨_,rfl⟩;rw [hf] at q ⊢;have lz:(aW (fun number other=>(number+f*other) % p) cs ws).length=ws.length:=by rw [gd]; lia
   have s7:=s6.trans (zf (o:=.lst ((aW (fun number other=>(number+f*other) % p) cs ws).map V.int)) hD);have DQ:lP H6 D (.lst ((aW (fun number other=>(number+f*other) % p) cs ws).map V.int)) D=some (.lst ((aW (fun number other=>(number+f*other) % p) cs ws).map V.int)):=ze;generalize lP H6 D (.lst ((aW (fun number other=>(number+f*other) % p) cs ws).map V.int))=H7 at s7 DQ ⊢;have BX:=s7 _ _ hc;refine⟨_,rfl,_,rfl,_,rfl,D,_,rfl,.inl (lN.of DQ),?_⟩;refine⟨_,rfl,c,_,rfl,lN.of BX,fun z hz=>?_⟩;have ec:zdh (cs.map V.int) (some ((((aW (fun number other=>(number+f*other) % p) cs ws).map V.int).length:Nat):Int)) none=(cs.drop ws.length).map V.int:=by
    rw [ae,lz,zk6 (by rw [ae]; exact hle),jq]
   rw [ec];have s8:=zf (o:=.lst ((cs.drop ws.length).map V.int)) hz;refine⟨D,z,_,_,rfl,rfl,s8 _ _ DQ,ze,by rw [ae,ae,lz,ck]; lia,fun l hl=>q l _ (((s7.trans s8).free hl)) ((s7.trans s8).trans (zf hl)) ?_⟩;rw [ze,zk5 cs ws hle,aw]
theorem za0:FnScope ["p","points","polynomial","vanishing","x","y"] ["p","points"] (zj zcv):=#[S]
theorem zhv {fd:FuncData} (T:Txt K mg t) (F:Fun K "through" "through" zcv t.through fd):FnOk P w K mg base CX0 3 t.through fd ["p","points"] (zgG K):=by
 obtain⟨wq,uX,sk⟩:=T.f_bent;have yd:=zmf (P:=P) (w:=w) (base:=base) T uX;obtain⟨qi,om,ng⟩:=T.f_times_root;have qM:=zeH (P:=P) (w:=w) (base:=base) T om;refine F.ok za0 (fun vs H Q E h=>?_) (fun l8 A outer s H vs Q E hr h=>?_)
 ·obtain⟨p,a,lW,rfl,_⟩:=h;rfl
 ·obtain⟨p,a,lW,rfl,hP,lT,mp,hp,hyr,q⟩:=h;refine zbl ?_; intro zX;refine⟨_,#[zg,#[zr,2,za0.nd,#[A],#[zm,#[zg0],#[zY,#[ya,#[zi]]],#[zy,#[zF],T.len_,cv,#[ya,#[pvx,1]]]]],#[zg,#[zr,3,za0.nd,#[A],#[zY,#[ya,#[zi]]]],#[zg,#[zaD,bA,#[z6,#[pvx,1]],#[zbI,#[zq,#[zl,4,za0.nd,#[A]],#[zq,#[zl,5,za0.nd,#[A]],#[zag]]]],#[zg,#[zr,2,za0.nd,#[A],#[zH,yd,(hr.mono #[D]),T.m_bent,uX.kp,sk,#[zap],#[zd,#[pvx,0],by exact #[zd,#[pvx,2],#[zd,#[pvx,3],#[ya,#[zbr,#[zd,#[pvx,4],#[ya,#[pvx,5]]]]]]]]]],#[zn,#[zr,3,za0.nd,#[A],#[zH,qM,(hr.mono #[D]),T.m_times_root,om.kp,ng,#[zap],#[zd,#[pvx,0],#[zd,#[pvx,3],#[ya,#[pvx,4]]]]]]]]],#[zn,#[zO,#[zaG,#[zaR],T.tuple_,g8,#[ya,#[pvx,2]]]]]]]],?_⟩;refine zlE ?_; intro uU qZ qh;have qu:=bt;have rp:=zN mp;have p0:0 < p:=by lia
  obtain⟨bs,hS,rD,hb⟩:=id hP;refine⟨by show 1≤sizeLine; lia,fun z hz=>⟨_,rfl,a,_,rfl,.inl ((zf hz).seq hS),z,_,[.int 0],rfl,rfl,ze,by rw [ae]; lia,by rw [ae]; lia,by rw [ae]; show 1*_≤sizeLine; lia,fun c hc=>?_⟩⟩;have s0:=zf (o:=.lst [.int 0]) hz;have hcH:H c=none:=s0.free hc;refine⟨by show 1≤sizeLine; lia,fun v hv=>?_⟩;have hcv:c≠v:=zw ze hv;rw [ae,zee,rD,bf] at hv ⊢;have s2:zA H (lP (lP (lP H z (.lst [.int 0])) c (.lst ((aA lW.length 0).map V.int))) v (.lst [.int 1])):=(s0.trans (zf hc)).trans (zf hv);refine⟨_,rfl,a,rfl,⟨_,s2.seq hS⟩,zak (K:=K) (a:=a) (xs:=bs.map V.ref) (fun i σ H'=>∃ (c v:Addr) (s:List Int×List Int) (e4 e5:Option V),σ = [some (.int p),some (.ref a),some (.ref c),some (.ref v),e4,e5] ∧
   s=(lW.take i).foldl (zbF p) (aA lW.length 0,[1])∧Nw p lW.length ((lW.take i).map (md p)) s∧zA H H'∧H' c=some (.lst (s.1.map V.int))∧H' v=some (.lst (s.2.map V.int)))
   ⟨c,v,_,none,none,rfl,rfl,by rw [dP]; exact zeb mp _,s2,by rw [zp hcv]; exact ze,ze⟩ (fun i σ H' _ ⟨_,_,_,_,_,_,_,_,s3,_⟩=>s3.seq hS) ?_ ?_⟩
  ·rintro zD zT i y σ H1 hy ⟨c,v,s,e4,e5,rfl,hs,nw,s1,qB,DR⟩;obtain⟨b,rfl,wt⟩:=zK hy;obtain⟨hi,_⟩:=ak.mp wt;obtain⟨⟨x,y⟩,hq⟩:∃ q,lW[i]? = some q:=⟨lW[i]'#[O],#[M]⟩;have yL:=s1 _ _ (hb i b _ wt hq);have qG:=zb4 hq;have pB:=hp;rw [qG,aw,aR] at pB;have wu:=pB.apart;obtain⟨x0,x1,m0,m1⟩:=hp.rg _ (az.mpr ⟨_,aH hq,rfl⟩);obtain⟨y0,y1⟩:=hyr _ (aH hq);dsimp only [md] at x0 x1 m0 m1 y0 y1;have v7:i < lW.length:=by lia
   have sf:(lW.take i).length=i:=by rw [aL]; lia
   have yM:=zfu mp nw (q:=md p (x,y)) (by rw [ae,sf]; exact v7) x0 x1 m0 m1 wu;rw [zgF] at yM;obtain⟨AM,x8⟩:=zft mp nw (q:=(x,y)) x0 x1 (fun a ha=>⟨(wu a ha).1,(wu a ha).2.1,(wu a ha).2.2.1⟩);dsimp only at AM x8;have oE:zbF p s (x,y)=(ad p ((y - zu p x s.1)*inv p (zu p x s.2) % p) s.1 s.2,zcF p x s.2):=rfl;rw [oE] at yM;have l1:=nw.lc;have l2:=nw.lv;rw [ae,sf] at l2;refine⟨b,_,rfl,lX.of yL,rfl,_,_,rfl,_,_,rfl,rfl,?_⟩;refine⟨_,rfl,_,rfl,_,rfl,_,rfl,_,rfl,by show 2≤sizeLine; lia,fun tt ht=>?_⟩;have t1:=zf (o:=.tup [.int x,.int y]) ht;refine⟨p,x,y,c,v,tt,s.1,s.2,rfl,t1 _ _ qB,t1 _ _ DR,ze,mp,x0,x1,y0,y1,AM,x8,#[O],#[O],fun l H3 hl s3 uY=>?_⟩;have s4:=t1.trans s3;refine⟨_,rfl,_,rfl,_,rfl,p,x,v,s.2,rfl,s4 _ _ DR,#[O],p0,#[O],#[O],fun l2 H4 n8 s5 h4l=>?_⟩;refine⟨l,l2,zbF p s (x,y),_,_,rfl,?_,?_,(s1.trans s4).trans s5,?_,?_⟩
   ·rw [take_snoc hq,kh,← hs];rfl
   ·rw [take_snoc hq,oE,aw];exact yM
   ·rw [oE];exact s5 _ _ uY
   ·rw [oE];exact h4l
  ·rintro σ H1 ⟨c,v,s,e4,e5,rfl,hs,nw,s1,qB,DR⟩;rw [ae,rD,aX] at hs;refine⟨_,rfl,c,_,rfl,.inl ⟨lN.of qB,fun l hl=>q l _ (s1.free hl) (s1.trans (zf hl)) ?_⟩⟩;rw [ze,hs,znC];rfl
theorem zaY:FnScope ["code","row","p","k","places"] ["code","row"] (zj zaL):=#[S]
theorem zdH {fd:FuncData} (T:Txt K mg t) (F:Fun K "heard_points" "heard_points" zaL t.heard_points fd):FnOk P w K mg base CX0 1 t.heard_points fd ["code","row"] (zmb K):=by
 refine F.ok zaY (fun vs H Q E h=>?_) (fun l8 A outer s H vs Q E hr h=>?_)
 ·obtain⟨c,tt,r,p,k,pl,rw,rfl,_⟩:=h;rfl
 ·obtain⟨c,tt,r,p,k,pl,rw,rfl,hc,sU,hn,q⟩:=h;refine zbl ?_; intro zX;refine⟨_,#[zg,#[zbX,#[pvx,0],#[zbI,#[zq,#[zl,2,zaY.nd,#[A]],#[zq,#[zl,3,zaY.nd,#[A]],#[zq,#[zl,4,zaY.nd,#[A]],#[zag]]]]]],#[zn,#[zO,#[zas,(CompSc.of (N':=["place","entry"]) (ix:=[none,none]) (zj zaL) ["code","row","p","k","places"] rfl rfl #[N]),#[zbt,#[zU,#[zU,#[za3]]]],(@zkw _ _ _ _ _ _ _ _ _ rfl T.zip_ #[zd,#[pvx,4],#[ya,#[pvx,1]]] (by rfl) (by rfl)),(fun _ _ _ _=>#[zaW,(K),2,#[zq,#[zl,0,(show (["place","entry"]:List Str).Nodup from #[N]),#[A]],#[zq,#[zl,1,(show (["place","entry"]:List Str).Nodup from #[N]),#[A]],#[zag]]]]),(fun _ _ _ _=>#[zbd,#[zJ,#[zhP],#[pvx,1],#[zdg],(zad _)]]),(fun _ _ _ _=>#[zbr,#[zd,#[pvx,0],#[ya,#[pvx,1]]]])]]]],?_⟩;refine zm5 ?_; intro qh;have qu:=bt;have hl:=sU.len;refine⟨_,rfl,c,_,rfl,lX.of hc.1,rfl,_,_,rfl,_,_,rfl,_,_,rfl,rfl,?_⟩;refine⟨_,rfl,_,rfl,tt,r,_,_,rfl,lX.of hc.2,sU.at',z9 (n:=pl.length) (fun i ys H'=>zA H H'∧∃ us:List Addr,ys=us.map V.ref∧PtB H' us (mw (pl.take i) (rw.take i))) ⟨fun _ _ e=>e,[],rfl,.nil⟩ ?_ ?_ ?_ ?_⟩
  ·rintro i ys H3 hi ⟨s3,_⟩;obtain⟨o,ho⟩:∃ o,rw[i]? = some o:=⟨rw[i]'#[O],#[M]⟩;exact⟨_,_,.int pl[i],mF o,lX.of (s3 _ _ hc.2),s3.seq sU.at',by rw [ap,ao hi]; rfl,by rw [ap,ho]; rfl⟩
  ·rintro ys H3 ⟨s3,_⟩;exact⟨_,_,lX.of (s3 _ _ hc.2),s3.seq sU.at',.inl (by rw [ae])⟩
  ·rintro zS zT zE i xx ys H3 H4 hi ⟨s3,us,rfl,mJ⟩ ⟨T,u,v,hT,rfl,rfl,hu,hv⟩;obtain⟨x,rfl,hx⟩:=zax (hu _ (lX.of (s3 _ _ hc.2)));obtain⟨o,rfl,ho⟩:=zdN (hv _ (s3.seq sU.at'));have v4:=zf (o:=.tup [.int x,mF o]) hT;have s4:=s3.trans v4;have hs:=zc8 hx ho;have pC:=mJ.length;have hb:=zdX (pl.take i) (rw.take i);rw [aL] at hb;refine⟨T,_,rfl,lX.of ze,rfl,_,_,rfl,_,_,rfl,rfl,?_⟩;refine⟨_,rfl,rfl,_,rfl,?_⟩;cases o with
   | none =>
    refine zeB ⟨s4,us,rfl,?_⟩;rw [hs,bI];exact mJ.same v4
   | some z =>
    refine zoz ⟨_,rfl,_,rfl,by show 2≤sizeLine; lia,fun T2 tH=>⟨by rw [ae]; lia,s4.trans (zf tH),us++[T2],by rw [aw]; rfl,?_⟩⟩;rw [hs];exact bR (mJ.same (v4.trans (zf tH))) ze
  ·rintro ys H3 D ⟨s3,us,rfl,mJ⟩ hD;rw [aX,aO #[O]] at mJ;exact q D us _ (s3.free hD) (s3.trans (zf hD)) ze (mJ.same (zf hD))
theorem zah:FnScope ["p","points","found","wall","x","y","step","high","by"] ["p","points"] (zj zaM):=#[S]
theorem zfL {fd:FuncData} (T:Txt K mg t) (F:Fun K "_law_through" "_law_through" zaM t.l_through fd):FnOk P w K mg base CX0 2 t.l_through fd ["p","points"] (zfy K):=by
 obtain⟨nU,mf,mi⟩:=T.f_l_value;have mL:=zcP (P:=P) (w:=w) (base:=base) T mf;refine F.ok zah (fun vs H Q E h=>?_) (fun l8 A outer s H vs Q E hr h=>?_)
 ·obtain⟨p,a,lW,rfl,_⟩:=h;rfl
 ·obtain⟨p,a,lW,rfl,hP,lT,mp,hp,q⟩:=h;refine zbl ?_; intro zX;refine⟨_,#[zg,#[zr,2,zah.nd,#[A],#[zm,#[zg0],#[zY,#[ya,#[zi]]],#[zy,#[zF],T.len_,cv,#[ya,#[pvx,1]]]]],#[zg,#[zr,3,zah.nd,#[A],#[zm,#[zbZ],#[zY,#[ya,#[zi]]],#[zm,#[zg0],#[zY,#[ya,#[zi]]],#[zy,#[zF],T.len_,cv,#[ya,#[pvx,1]]]]]],#[zg,#[zaD,bA,#[z6,#[pvx,1]],#[zbI,#[zq,#[zl,4,zah.nd,(dJ rfl)],#[zq,#[zl,5,zah.nd,#[A]],#[zag]]]],#[zg,#[zr,6,zah.nd,(dJ rfl),#[zm,#[zI],#[zm,#[zbq],#[pvx,5],#[zH,mL,(hr.mono #[D]),T.m_l_value,mf.kp,mi,#[zap],#[zd,#[pvx,0],#[zd,#[pvx,2],#[ya,#[pvx,4]]]]]],#[pvx,0]]],#[zg,#[zr,7,zah.nd,(dJ rfl),#[zH,mL,(hr.mono #[D]),T.m_l_value,mf.kp,mi,#[zap],#[zd,#[pvx,0],#[zd,#[pvx,3],#[ya,#[pvx,4]]]]]],#[zg,#[zr,8,zah.nd,(dJ rfl),#[zL,#[zQ],#[zas,(CompSc.of (N':=["number","high","p","step"]) (ix:=[none,some 7,some 0,some 6]) (zj zaM) ["p","points","found","wall","x","y","step","high","by"] rfl rfl #[N]),#[zaE],#[zaF,T.range_,#[ya,#[pvx,0]]],(fun _ _ _ _=>#[zl,0,(show (["number","high","p","step"]:List Str).Nodup from #[N]),#[A]]),(fun _ _ _ _=>#[zbd,#[zJ,#[zcf],#[zm,#[zI],#[zm,#[zaj],#[pvx,0],#[pvx,1]],#[pvx,2]],#[pvx,3],(zad _)]]),(fun _ _ _ _=>#[pvx,0])],#[zi]]],#[zg,#[zaJ,2,zah.nd,#[A],(CompSc.of (N':=["one","other","by","p"]) (ix:=[none,none,some 8,some 0]) (zj zaM) ["p","points","found","wall","x","y","step","high","by"] rfl rfl #[N]),#[zbt,#[zU,#[zU,#[za3]]]],#[zdL,T.zip_,#[zd,#[pvx,2],#[ya,#[pvx,3]]]],(fun _ _ _ _=>#[zaW,(K),2,#[zq,#[zl,0,(show (["one","other","by","p"]:List Str).Nodup from #[N]),#[A]],#[zq,#[zl,1,(show (["one","other","by","p"]:List Str).Nodup from #[N]),#[A]],#[zag]]]]),(fun _ _ _ _=>#[z8]),(fun _ _ _ _=>#[zm,#[zI],#[zm,#[zR],#[pvx,0],#[zm,#[zaj],#[pvx,2],#[pvx,1]]],#[pvx,3]])],#[zn,#[zaJ,3,zah.nd,#[A],(CompSc.of (N':=["below","one","x","p"]) (ix:=[none,none,some 4,some 0]) (zj zaM) ["p","points","found","wall","x","y","step","high","by"] rfl rfl #[N]),#[zbt,#[zU,#[zU,#[za3]]]],#[zdL,T.zip_,#[zd,#[zm,#[zbZ],#[zY,#[ya,#[zi]]],#[pvx,3]],#[ya,#[pvx,3]]]],(fun _ _ _ _=>#[zaW,(K),2,#[zq,#[zl,0,(show (["below","one","x","p"]:List Str).Nodup from #[N]),#[A]],#[zq,#[zl,1,(show (["below","one","x","p"]:List Str).Nodup from #[N]),#[A]],#[zag]]]]),(fun _ _ _ _=>#[z8]),(fun _ _ _ _=>#[zm,#[zI],#[zm,#[zbq],#[pvx,0],#[zm,#[zaj],#[pvx,2],#[pvx,1]]],#[pvx,3]])]]]]]]],#[zn,#[zO,#[zaG,#[zaR],T.tuple_,g8,#[ya,#[pvx,2]]]]]]]],?_⟩;refine zlE ?_; intro uU qZ qh;have qu:=bt;have rp:=zN mp;have p0:0 < p:=by lia
  obtain⟨bs,hS,rD,hb⟩:=id hP;refine⟨by show 1≤sizeLine; lia,fun z hz=>⟨_,rfl,a,_,rfl,.inl ((zf hz).seq hS),z,_,[.int 0],rfl,rfl,ze,by rw [ae]; lia,by rw [ae]; lia,by rw [ae]; show 1*_≤sizeLine; lia,fun c hc=>?_⟩⟩;have s0:=zf (o:=.lst [.int 0]) hz;rw [ae,zee,rD,bf];have s1:zA H (lP (lP H z (.lst [.int 0])) c (.lst ((aA lW.length 0).map V.int))):=s0.trans (zf hc);refine⟨by show 1≤sizeLine; lia,fun z1 rj=>⟨by show 1≤sizeLine; lia,fun z2 sP=>?_⟩⟩;have t1:=zf (o:=.lst [.int 1]) rj;have t2:=zf (o:=.lst [.int 0]) sP;refine⟨_,rfl,a,_,rfl,.inl (((s1.trans t1).trans t2).seq hS),z2,_,[.int 0],rfl,rfl,ze,by rw [ae]; lia,by rw [ae]; lia,by rw [ae]; show 1*_≤sizeLine; lia,fun z3 hz3=>?_⟩;rw [ae,zee,rD,bf];have t3:=zf (o:=.lst ((aA lW.length 0).map V.int)) hz3;refine⟨z1,z3,[.int 1],(aA lW.length 0).map V.int,rfl,rfl,(t2.trans t3) _ _ ze,ze,by rw [ae,et]; show 1+_≤sizeLine; lia,fun wl vS=>?_⟩;have t4:=zf (o:=.lst ([.int 1]++(aA lW.length 0).map V.int)) vS;have sA:=s1.trans (t1.trans (t2.trans (t3.trans t4)));have hcA:=(t1.trans (t2.trans (t3.trans t4))) _ _ (ze (H:=lP H z (.lst [.int 0])) (a:=c) (o:=.lst ((aA lW.length 0).map V.int)));refine⟨_,rfl,a,rfl,⟨_,sA.seq hS⟩,zak (K:=K) (a:=a) (xs:=bs.map V.ref) (fun i σ H'=>∃ (c wl:Addr) (s:List Int×List Int) (e4 e5 e6 e7 e8:Option V),σ = [some (.int p),some (.ref a),some (.ref c),some (.ref wl),e4,e5,e6,e7,e8] ∧
   s=(lW.take i).foldl (zbF p) (aA lW.length 0,[1])∧Nw p lW.length (lW.take i) s∧zA H H'∧H' c=some (.lst (s.1.map V.int))∧H' wl=some (.lst ((s.2++aA (lW.length - i) 0).map V.int)))
   ⟨c,wl,_,none,none,none,none,none,rfl,rfl,by rw [dP]; exact zeb mp _,sA,hcA,by rw [ze]; rfl⟩ (fun i σ H' _ ⟨_,_,_,_,_,_,_,_,_,_,_,s3,_⟩=>s3.seq hS) ?_ ?_⟩
  ·rintro zD zT i y σ H1 hy ⟨c,wl,s,e4,e5,e6,e7,e8,rfl,hs,nw,s1,qB,BY⟩;obtain⟨b,rfl,wt⟩:=zK hy;obtain⟨hi,_⟩:=ak.mp wt;obtain⟨⟨x,y⟩,hq⟩:∃ q,lW[i]? = some q:=⟨lW[i]'#[O],#[M]⟩;have yL:=s1 _ _ (hb i b _ wt hq);have qG:=zb4 hq;have pB:=hp;rw [qG] at pB;have wu:=pB.apart;have AN:∀ a∈lW.take i,0≤a.1∧a.1 < p∧a.1≠x:=fun a ha=>⟨(wu a ha).1,(wu a ha).2.1,(wu a ha).2.2.1⟩
   obtain⟨x0,x1,y0,y1⟩:=hp.rg _ (aH hq);dsimp only at x0 x1 y0 y1;have v7:i < lW.length:=by lia
   have sf:(lW.take i).length=i:=by rw [aL]; lia
   have yM:=zfu mp nw (q:=(x,y)) (by rw [sf]; exact v7) x0 x1 y0 y1 wu;obtain⟨AM,x8⟩:=zft mp nw (q:=(x,y)) x0 x1 AN;have wx:=ze3 mp nw (q:=(x,y)) x0 x1 AN;dsimp only at AM x8 wx;have l1:=nw.lc;have l2:=nw.lv;rw [sf] at l2;have f0:=aQ ((y - zu p x s.1)*inv p (zu p x s.2)) (show p≠0 by lia);have f1:=aK ((y - zu p x s.1)*inv p (zu p x s.2)) p0;have oE:zbF p s (x,y)=(ad p ((y - zu p x s.1)*inv p (zu p x s.2) % p) s.1 s.2,zcF p x s.2):=rfl;obtain⟨f,hf⟩:∃ f,(y - zu p x s.1)*inv p (zu p x s.2) % p=f:=⟨_,rfl⟩;rw [hf] at f0 f1 oE wx;rw [oE] at yM;refine⟨b,_,rfl,lX.of yL,rfl,_,_,rfl,_,_,rfl,rfl,?_⟩;refine⟨_,rfl,_,rfl,_,rfl,_,rfl,p,x,c,s.1,rfl,.inl (lN.of qB),p0,#[O],x0,x1,_,_,rfl,rfl,_,rfl,_,_,rfl,rfl,p0,?_⟩;refine⟨_,rfl,_,rfl,_,rfl,p,x,wl,_,rfl,.inl (lN.of BY),p0,#[O],x0,x1,?_⟩;rw [zf9];refine⟨_,rfl,p,rfl,#[O],#[O],z9 (n:=p.toNat) (fun i ys H'=>zA H1 H'∧ys=if f < (i:Int) then [V.int f] else []) ⟨fun _ _ e=>e,by rw [if_neg #[O]]⟩ (fun i ys H' hi _=>hi) (fun ys H' _=>ah _) ?_ ?_⟩
   ·rintro zS zT zE m xx ys H4 H5 hm ⟨s4,yN⟩ ⟨rfl,rfl⟩;refine⟨_,rfl,_,rfl,_,_,rfl,rfl,.inl ⟨#[O],#[O]⟩,_,rfl,_,_,rfl,rfl,p0,_,rfl,rfl,_,rfl,?_⟩;refine zbc (fun ho=>?_) (fun ho=>?_)
    ·have ho:(0+(m:Int))*zu p x s.2 % p=(y - zu p x s.1) % p:=by simpa using ho
     have e:f=0+(m:Int):=ziT mp AM x8 wx (Cg.of_mod ho) f0 f1 #[O] #[O];rw [if_neg #[O]] at yN;subst yN;refine⟨_,rfl,zau (by show 0≤10000; decide),s4,?_⟩;rw [if_pos #[O],e];rfl
    ·have ho:¬ (0+(m:Int))*zu p x s.2 % p=(y - zu p x s.1) % p:=by simpa using ho
     have e:f≠(m:Int):=fun e=>ho (by rw [dg,← e]; exact wx.mod_eq)
     refine⟨s4,?_⟩;rw [yN];by_cases hfm:f < (m:Int)
     ·rw [if_pos hfm,if_pos #[O]]
     ·rw [if_neg hfm,if_neg #[O]]
   ·rintro ys H4 D ⟨s4,yN⟩ hD;rw [if_pos #[O]] at yN;subst yN;refine⟨D,_,_,_,rfl,rfl,lN.of ze,rfl,?_⟩;have s5:=s4.trans (zf (o:=.lst [.int f]) hD);generalize lP H4 D (.lst [.int f])=H5 at s5 ⊢;have h5c:=s5 _ _ qB;have h5w:=s5 _ _ BY;refine⟨_,rfl,_,rfl,c,wl,_,_,rfl,lN.of h5c,lN.of h5w,zdj (n:=lW.length) (f:=fun one other=>(one+f*other) % p) h5c h5w #[O] (by rw [aB,et]; lia) (.inl #[O]) #[O] ?_ ?_⟩
    ·intro j u v H6 T R B hu hv s6 hT hR;refine gY2 (lX.of ze) ?_;exact⟨_,rfl,_,rfl,_,rfl,_,_,rfl,rfl,.inl ⟨#[O],#[O]⟩,_,_,rfl,rfl,_,rfl,_,_,rfl,rfl,p0,hR⟩
    ·intro D2 H6 s6 xk;rw [zfv p0 s.1 s.2 _ nw.rc #[O] #[O]];have s7:=(s5.trans s6).trans (zf (o:=.lst ((ad p f s.1 s.2).map V.int)) xk);have BX:lP H6 D2 (.lst ((ad p f s.1 s.2).map V.int)) D2=some (.lst ((ad p f s.1 s.2).map V.int)):=ze;generalize lP H6 D2 (.lst ((ad p f s.1 s.2).map V.int))=H7 at s7 BX ⊢;have h7w:=s7 _ _ BY;have lw:(s.2++aA (lW.length - i) 0).length=lW.length+1:=by rw [aB,et]; lia
     refine⟨by show 1≤sizeLine; lia,fun z hz=>⟨_,rfl,z,wl,[.int 0],_,rfl,rfl,ze,(zf hz) _ _ h7w,by rw [ae,lw]; show 1+_≤sizeLine; lia,fun zc hzc=>?_⟩⟩;have u1:=zf (o:=.lst [.int 0]) hz;have u2:=zf (o:=.lst ([.int 0]++(s.2++aA (lW.length - i) 0).map V.int)) hzc;have DS:lP (lP H7 z (.lst [.int 0])) zc (.lst ([.int 0]++(s.2++aA (lW.length - i) 0).map V.int)) zc=some (.lst ((0 :: (s.2++aA (lW.length - i) 0)).map V.int)):=by rw [ze]; rfl
     have s8:=s7.trans (u1.trans u2);have DT:=(u1.trans u2) _ _ h7w;have h8c:=(u1.trans u2) _ _ BX;generalize lP (lP H7 z (.lst [.int 0])) zc (.lst ([.int 0]++(s.2++aA (lW.length - i) 0).map V.int))=H8 at DS s8 DT h8c ⊢;refine⟨_,rfl,zc,wl,_,_,rfl,lN.of DS,lN.of DT,zdj (n:=lW.length+1) (f:=trF p x) DS DT (by rw [bG,lw]; lia) (by rw [lw]; exact ah _) (.inr (by rw [lw]; exact ah _)) #[O] ?_ ?_⟩
     ·intro j u v H9 T R B hu hv s9 hT hR;refine gY2 (lX.of ze) ?_;exact⟨_,rfl,_,rfl,_,rfl,_,_,rfl,rfl,.inl ⟨#[O],#[O]⟩,_,_,rfl,rfl,_,rfl,_,_,rfl,rfl,p0,hR⟩
     ·intro D3 H9 s9 yz;have em:lW.length - i=lW.length - (i+1)+1:=by lia
      rw [em,zh1 (lW.length - (i+1)) s.2 0];refine⟨D2,D3,zbF p s (x,y),_,_,_,_,_,rfl,?_,?_,((s1.trans s8).trans s9).trans (zf yz),?_,?_⟩
      ·rw [take_snoc hq,kh,← hs];rfl
      ·rw [take_snoc hq,oE];exact yM
      ·rw [oE];exact (s9.trans (zf yz)) _ _ h8c
      ·rw [oE];exact ze
  ·rintro σ H1 ⟨c,wl,s,e4,e5,e6,e7,e8,rfl,hs,nw,s1,qB,BY⟩;rw [ae,rD,aX] at hs;refine⟨_,rfl,c,_,rfl,.inl ⟨lN.of qB,fun l hl=>q l _ (s1.free hl) (s1.trans (zf hl)) ?_⟩⟩;rw [ze,hs];rfl
end
section
variable {P:Program} {w:World} {K:ag} {mg:Str→Option Value} {base:Heap} {t:Adr}
theorem zb8:FnScope ["things","many","chosen","step"] ["things","many"] (zj zbp):=#[S]
theorem zhw {fd:FuncData} (T:Txt K mg t) (F:Fun K "choices" "choices" zbp t.choices fd):FnOk P w K mg base CX0 1 t.choices fd ["things","many"] (zhq K):=by
 refine F.ok zb8 (fun vs H Q E h=>?_) (fun l8 A outer s H vs Q E hr h=>?_)
 ·obtain⟨a,m,xs,rfl,_⟩:=h;rfl
 ·obtain⟨a,m,xs,rfl,hS,hx,hm,q⟩:=h;refine zbl ?_; intro zX;refine⟨_,#[zg,#[zr,2,zb8.nd,#[A],#[zY,#[ya,#[zbr,#[zd,#[zi],#[ya,#[zY,#[zh]]]]]]]],#[zg,#[zaD,bA,#[zaF,T.range_,#[ya,#[pvx,1]]],#[zl,3,zb8.nd,#[A]],#[zn,(@zhp _ _ _ _ _ _ _ _ _ _ _ _ _ _ _ _ _ _ _ _ _ (2) _ _ _ zb8.nd rfl #[A] (CompSc.of (N':=["start","picked","at","things"]) (ix:=[none,none,none,some 0]) (zj zbp) ["things","many","chosen","step"] rfl rfl #[N]) rfl (zj9 (js:=[0,1]) (zd6 (js:=[0,1]) (i:=0) #[D] (zd6 (js:=[0,1]) (i:=1) #[D] (zhW (js:=[0,1]))))) (zhV (js:=[2]) (i:=2) #[D]) #[D] #[D] #[z6,#[pvx,2]] (fun _ _ _ _=>#[zaW,(K),2,#[zq,#[zl,0,(show (["start","picked","at","things"]:List Str).Nodup from #[N]),#[A]],#[zq,#[zl,1,(show (["start","picked","at","things"]:List Str).Nodup from #[N]),#[A]],#[zag]]]]) (fun _ _ _ _=>#[z8]) (fun _ _ _ _=>(@ziE _ _ _ _ _ _ _ rfl T.range_ #[zd,#[pvx,0],#[ya,#[zy,#[zbK,(K)],T.len_,cv,#[ya,#[pvx,3]]]]] (by rfl) (by rfl))) (fun _ _ _ _=>#[zl,2,(show (["start","picked","at","things"]:List Str).Nodup from #[N]),#[A]]) (fun _ _ _ _=>#[z8]) (fun _ _ _ _=>#[zbr,#[zd,#[zm,#[zR],#[pvx,2],#[zi]],#[ya,#[zm,#[zbZ],#[pvx,1],#[zY,#[ya,#[zL,#[zbu,(K)],#[pvx,3],#[pvx,2]]]]]]]]) (by rfl) (by intro _; rfl) (by intros; rfl) (by trivial))]],#[zn,#[zO,#[zas,(CompSc.of (N':=["start","picked"]) (ix:=[none,none]) (zj zbp) ["things","many","chosen","step"] rfl rfl #[N]),#[zbt,#[zU,#[zU,#[za3]]]],#[z6,#[pvx,2]],(fun _ _ _ _=>#[zaW,(K),2,#[zq,#[zl,0,(show (["start","picked"]:List Str).Nodup from #[N]),#[A]],#[zq,#[zl,1,(show (["start","picked"]:List Str).Nodup from #[N]),#[A]],#[zag]]]]),(fun _ _ _ _=>#[z8]),(fun _ _ _ _=>#[pvx,1])]]]]],?_⟩;refine zg1 ?_; intro qZ qh;have qu:=bt;refine⟨bo _,fun L0 DU=>⟨by show 2≤sizeLine; lia,fun T0 hT0=>⟨by show 1≤sizeLine; lia,fun c hc=>?_⟩⟩⟩;have u0:=zf (o:=.lst []) DU;have u1:=zf (o:=.tup [.int 0,.ref L0]) hT0;have u2:=zf (o:=.lst [.ref T0]) hc;have AO:zeo (lP (lP (lP H L0 (.lst [])) T0 (.tup [.int 0,.ref L0])) c (.lst [.ref T0])) [T0] (chs xs 0):=.cons ⟨L0,u2 _ _ ze,(u1.trans u2) _ _ ze⟩ .nil;have hc0:lP (lP (lP H L0 (.lst [])) T0 (.tup [.int 0,.ref L0])) c (.lst [.ref T0]) c=some (.lst ([T0].map V.ref)):=ze;have s0:=(u0.trans u1).trans u2;generalize lP (lP (lP H L0 (.lst [])) T0 (.tup [.int 0,.ref L0])) c (.lst [.ref T0])=H0 at AO hc0 s0 ⊢;refine⟨_,rfl,_,rfl,#[O],#[O],?_⟩;rw [bf];refine za7 (lo:=0) (n:=m) (fun i σ H'=>∃ (c:Addr) (ts:List Addr) (e3:Option V),σ = [some (.ref a),some (.int m),some (.ref c),e3]∧zA H H'∧H' c=some (.lst (ts.map V.ref))∧zeo H' ts (chs xs i)) ⟨c,[T0],none,rfl,s0,hc0,AO⟩ ?_ ?_
  ·rintro zD zT i σ H1 hi ⟨c,ts,e3,rfl,s1,qB,oD⟩;have uk:=oD.length;have Au:=zdm (xs:=xs) (i+1) hx;have xl:((chs xs i).flatMap (nxt xs)).length≤65536:=Au;refine⟨_,rfl,c,rfl,⟨_,lN.of qB⟩,zmI (n:=ts.length) (fun i' ys H'=>∃ us:List Addr,ys=us.map V.ref∧zA H1 H'∧zeo H' us (((chs xs i).take i').flatMap (nxt xs))) ⟨[],rfl,fun _ _ e=>e,.nil⟩ ?_ ?_ ?_ ?_⟩
   ·rintro i' ys H2 qe ⟨us,_,s2,_⟩;exact⟨_,.ref ts[i'],lN.of (s2 _ _ qB),by rw [ap,ao qe]; rfl⟩
   ·rintro ys H2 ⟨us,_,s2,_⟩;exact⟨_,lN.of (s2 _ _ qB),by rw [ae]; exact ah _⟩
   ·rintro i' y ys H2 H3 qe ⟨us,rfl,s2,mJ⟩ ⟨rfl,hy⟩;obtain⟨tt,rfl,AL⟩:=zK (hy _ (lN.of (s2 _ _ qB)));obtain⟨cc,mU,nN⟩:=Paired.get oD AL;obtain⟨L,wW,wX⟩:=nN.same s2;have hle:=znA (aH mU);have mT:=zgx (aH mU);obtain⟨st,pk⟩:=cc;dsimp only at wW wX hle mT;refine gY2 (lX.of wW) ?_;refine⟨_,rfl,_,rfl,a,xs,rfl,.inl ((s1.trans s2).seq hS),_,_,rfl,⟨#[O],#[O],#[O],#[O]⟩,?_⟩;have en:((xs.length:Int) - (st:Int)).toNat=xs.length - st:=by lia
    rw [en];refine zmI (n:=xs.length - st) (fun j ys H'=>∃ us:List Addr,ys=us.map V.ref∧zA H3 H'∧zeo H' us (((chs xs i).take i').flatMap (nxt xs)++(nxt xs (st,pk)).take j)) ⟨us,rfl,fun _ _ e=>e,by rw [dP,bI]; exact mJ⟩ (fun j ys H' hj _=>hj) (fun ys H' _=>ah _) ?_ ?_
    ·rintro j z ys H4 H5 hj ⟨us,rfl,s4,mJ⟩ ⟨rfl,rfl⟩;obtain⟨x,rY⟩:∃ x,xs[st+j]? = some x:=⟨xs[st+j]'#[O],#[M]⟩;have nN:atI xs ((st:Int)+(j:Int))=some x:=by
      have e:((st+j:Nat):Int)=(st:Int)+j:=by lia
      rw [← e];exact zaV rY
     have hng:=zl4 (c:=(st,pk)) rY;have pC:=mJ.length;have hpart:=zjn (f:=nxt xs) mU (show j < (nxt xs (st,pk)).length by rw [zfG]; exact hj);have BZ:=zfG xs (st,pk);refine gY ?_;refine⟨_,rfl,_,_,rfl,rfl,_,rfl,_,rfl,_,rfl,a,xs,_,x,rfl,rfl,((s1.trans s2).trans s4).seq hS,nN,by show 1≤sizeLine; lia,fun b hb=>?_⟩;have v1:=zf (o:=.lst [x]) hb;refine⟨L,b,pk,[x],rfl,rfl,(s4.trans v1) _ _ wX,ze,by show pk.length+1≤sizeLine; lia,fun L2 AQ=>⟨by show 2≤sizeLine; lia,fun T2 tH=>⟨?_,us++[T2],by rw [aw]; rfl,?_,?_⟩⟩⟩
     ·rw [ae,pC,aB,aL];lia
     ·exact s4.trans (v1.trans ((zf AQ).trans (zf tH)))
     ·rw [take_snoc hng,← bq];refine bR (mJ.same (v1.trans ((zf AQ).trans (zf tH)))) ⟨L2,?_,(zf tH) _ _ ze⟩;rw [ze];show some (HO.tup [.int ((st:Int)+(j:Int)+1),.ref L2])=some (HO.tup [.int ((st+j+1:Nat):Int),.ref L2]);have e:((st+j+1:Nat):Int)=(st:Int)+j+1:=by lia
      rw [e]
    ·rintro ys H4 ⟨us,rfl,s4,mJ⟩;rw [aO (l:=nxt xs (st,pk)) (by rw [zfG]; exact ah _)] at mJ;exact⟨us,rfl,s2.trans s4,by rw [zjo mU]; exact mJ⟩
   ·rintro ys H2 ⟨us,rfl,s2,mJ⟩ D hD;rw [uk,aO (ah _)] at mJ;exact⟨D,us,_,rfl,s1.trans (s2.trans (zf hD)),ze,mJ.same (zf hD)⟩
  ·rintro σ H1 ⟨c,ts,e3,rfl,s1,qB,oD⟩;have uk:=oD.length;have Au:=zdm (xs:=xs) m hx;refine⟨_,rfl,c,rfl,⟨_,lN.of qB⟩,z9 (n:=ts.length) (fun i ys H'=>H'=H1∧∃ us:List Addr,ys=us.map V.ref∧zgy H1 us (((chs xs m).map (·.2)).take i)) ⟨rfl,[],rfl,.nil⟩ ?_ ?_ ?_ ?_⟩
   ·rintro i ys H2 hi ⟨rfl,_⟩;exact⟨_,.ref ts[i],lN.of qB,by rw [ap,ao hi]; rfl⟩
   ·rintro ys H2 ⟨rfl,_⟩;exact⟨_,lN.of qB,by rw [ae]; exact ah _⟩
   ·rintro zS zT zE i y ys H2 H3 hi ⟨rfl,us,rfl,mJ⟩ ⟨rfl,hy⟩;obtain⟨tt,rfl,AL⟩:=zK (hy _ (lN.of qB));obtain⟨cc,mU,L,wW,wX⟩:=Paired.get oD AL;have pC:=mJ.length;refine gY2 (lX.of wW) ⟨_,rfl,?_,rfl,us++[L],by rw [aw]; rfl,?_⟩
    ·rw [ae,pC,aL,ae];lia
    ·have DV:((chs xs m).map (·.2))[i]? = some cc.2:=by rw [ap,mU]; rfl
     rw [take_snoc DV];exact bR mJ wX
   ·rintro ys H2 D ⟨rfl,us,rfl,mJ⟩ hD;rw [aO (by rw [ae,uk]; exact ah _)] at mJ;exact q D us _ (s1.free hD) (s1.trans (zf hD)) ze (mJ.same (zf hD))
theorem zdZ:FnScope ["code","row","polynomial","p","k","places"] ["code","row","polynomial"] (zj zet):=#[S]
theorem zir {fd:FuncData} (T:Txt K mg t) (F:Fun K "fits" "fits" zet t.fits fd):FnOk P w K mg base CX0 2 t.fits fd ["code","row","polynomial"] (zh6 K):=by
 obtain⟨o9,mq,mv⟩:=T.f_value_at;have nc:=zdz (P:=P) (w:=w) (base:=base) T mq;refine F.ok zdZ (fun vs H Q E h=>?_) (fun l8 A outer s H vs Q E hr h=>?_)
 ·obtain⟨c,tt,ra,po,p,k,pl,l6,rw,rfl,_⟩:=h;rfl
 ·obtain⟨c,tt,ra,po,p,k,pl,l6,rw,rfl,hc,nL,oK,yc,p0,p1,mT,hn,q⟩:=h;refine zbl ?_; intro zX;refine⟨_,#[zg,#[zbX,#[pvx,0],#[zbI,#[zq,#[zl,3,zdZ.nd,(dJ rfl)],#[zq,#[zl,4,zdZ.nd,#[A]],#[zq,#[zl,5,zdZ.nd,#[A]],#[zag]]]]]],#[zn,#[zO,#[zas,(CompSc.of (N':=["at","place","entry","p","polynomial"]) (ix:=[none,none,none,some 3,some 2]) (zj zet) ["code","row","polynomial","p","k","places"] rfl rfl #[N]),#[zbt,#[zU,(@ziN _ _ _ #[zbt,#[zU,#[zU,#[za3]]]] #[za3] zhh)]],(@zhg _ _ _ _ _ _ _ _ _ _ _ rfl T.enumerate_ rfl T.zip_ #[zd,#[pvx,5],#[ya,#[pvx,1]]] (by rfl) (by rfl) (by rfl)),(fun _ _ _ _=>#[zaW,(K),2,#[zq,#[zl,0,(show (["at","place","entry","p","polynomial"]:List Str).Nodup from #[N]),#[A]],#[zq,#[zaW,(K),2,#[zq,#[zl,1,(show (["at","place","entry","p","polynomial"]:List Str).Nodup from #[N]),#[A]],#[zq,#[zl,2,(show (["at","place","entry","p","polynomial"]:List Str).Nodup from #[N]),#[A]],#[zag]]]],#[zag]]]]),(fun _ _ _ _=>#[zbd,#[zJ,#[zcf],#[pvx,2],#[zH,nc,(hr.mono #[D]),T.m_value_at,mq.kp,mv,#[zap],#[zd,#[pvx,3],#[zd,#[pvx,4],#[ya,#[pvx,1]]]]],(zad _)]]),(fun _ _ _ _=>#[pvx,0])]]]],?_⟩;refine zm5 ?_; intro qh;refine⟨_,rfl,c,_,rfl,lX.of hc.1,rfl,_,_,rfl,_,_,rfl,_,_,rfl,rfl,?_⟩;refine⟨_,rfl,_,rfl,tt,ra,_,_,rfl,lX.of hc.2,lN.of nL,z9 (n:=pl.length) (fun i ys H'=>ys=(zaK p pl rw l6 i).map V.int∧zA H H') ⟨rfl,fun _ _ e=>e⟩ ?_ ?_ ?_ ?_⟩
  ·rintro i ys H3 hi ⟨_,s3⟩;obtain⟨o,ho⟩:∃ o,rw[i]? = some o:=⟨rw[i]'#[O],#[M]⟩;exact⟨_,_,.int pl[i],mF o,lX.of (s3 _ _ hc.2),lN.of (s3 _ _ nL),by rw [ap,ao hi]; rfl,by rw [ap,ho]; rfl⟩
  ·rintro ys H3 ⟨_,s3⟩;exact⟨_,_,lX.of (s3 _ _ hc.2),lN.of (s3 _ _ nL),by rw [ae]⟩
  ·rintro zS zT zE i xx ys H3 H4 hi ⟨rfl,s3⟩ ⟨T1,T2,u,v,hT1,tH,m6,rfl,rfl,hu,hv⟩;obtain⟨x,rfl,hx⟩:=zax (hu _ (lX.of (s3 _ _ hc.2)));obtain⟨o,rfl,ho⟩:=zdN (hv _ (lN.of (s3 _ _ nL)));obtain⟨x0,x1⟩:=mT x (aH hx);have s4:zA H3 (lP (lP H3 T1 (.tup [.int x,mF o])) T2 (.tup [.int i,.ref T1])):=zae (zf hT1) tH;refine⟨T2,_,rfl,lX.of ze,rfl,_,_,rfl,_,_,rfl,T1,_,rfl,lX.of (by rw [zp m6]; exact ze),rfl,_,_,rfl,_,_,rfl,rfl,rfl,?_⟩;refine⟨_,rfl,_,rfl,_,rfl,_,rfl,p,x,po,l6,rfl,.inr (lX.of ((s3.trans s4) _ _ yc)),p0,p1,x0,x1,zkq o _,_,rfl,?_⟩;rw [ze7,zgi hx ho,aw];have lT:=zdt p pl rw l6 i;refine zbc (fun h1=>⟨_,rfl,zau (by rw [ae]; lia),?_,s3.trans s4⟩) (fun h1=>⟨?_,s3.trans s4⟩)
   ·rw [if_pos h1];rfl
   ·rw [if_neg h1];simp
  ·rintro ys H3 D ⟨rfl,s3⟩ hD;exact q D _ (s3.free hD) (s3.trans (zf hD)) ze
theorem zdn:FnScope ["code","row","polynomial","places","some"] ["code","row","polynomial"] (zj zbT):=#[S]
theorem zjw {fd:FuncData} (T:Txt K mg t) (F:Fun K "_law_fits" "_law_fits" zbT t.l_fits fd):FnOk P w K mg base CX0 2 t.l_fits fd ["code","row","polynomial"] (zi1 K):=by
 obtain⟨nU,mf,mi⟩:=T.f_l_value;have mL:=zcP (P:=P) (w:=w) (base:=base) T mf;refine F.ok zdn (fun vs H Q E h=>?_) (fun l8 A outer s H vs Q E hr h=>?_)
 ·obtain⟨c,tt,ra,po,p,k,pl,l6,rw,rfl,_⟩:=h;rfl
 ·obtain⟨c,tt,ra,po,p,k,pl,l6,rw,rfl,hc,nL,oK,yc,p0,p1,mT,hn,q⟩:=h;refine zbl ?_; intro zX;refine⟨_,#[zg,#[zr,3,zdn.nd,(dJ rfl),#[zL,#[zbs],#[pvx,0],#[zi]]],#[zg,#[zaJ,4,zdn.nd,#[A],(CompSc.of (N':=["number","row"]) (ix:=[none,some 1]) (zj zbT) ["code","row","polynomial","places","some"] rfl rfl #[N]),#[zaE],#[zaF,T.range_,#[ya,#[zy,#[zF],T.len_,cv,#[ya,#[pvx,1]]]]],(fun _ _ _ _=>#[zl,0,(show (["number","row"]:List Str).Nodup from #[N]),#[A]]),(fun _ _ _ _=>#[zbd,#[zJ,#[zhP],#[zL,#[zbu,(K)],#[pvx,1],#[pvx,0]],#[zdg],(zad _)]]),(fun _ _ _ _=>#[pvx,0])],#[zn,#[zO,#[zas,(CompSc.of (N':=["number","code","polynomial","places","row"]) (ix:=[none,some 0,some 2,some 3,some 1]) (zj zbT) ["code","row","polynomial","places","some"] rfl rfl #[N]),#[zaE],#[z6,#[pvx,4]],(fun _ _ _ _=>#[zl,0,(show (["number","code","polynomial","places","row"]:List Str).Nodup from #[N]),#[A]]),(fun _ _ _ _=>#[zbd,#[zJ,#[zcf],#[zH,mL,(hr.mono #[D]),T.m_l_value,mf.kp,mi,#[zap],#[zd,#[zL,#[zdM,(K)],#[pvx,1],#[zi]],#[zd,#[pvx,2],#[ya,#[zL,#[zdM,(K)],#[pvx,3],#[pvx,0]]]]]],#[zL,#[zbu,(K)],#[pvx,4],#[pvx,0]],(zad _)]]),(fun _ _ _ _=>#[pvx,0])]]]]],?_⟩;refine zg1 ?_; intro qZ qh;refine⟨_,rfl,c,_,_,_,rfl,rfl,lX.of hc.1,rfl,?_⟩;refine⟨_,rfl,ra,_,rfl,.inl (lN.of nL),_,rfl,by rw [ae]; lia,by rw [ae]; lia,?_⟩;rw [ae,bf];refine z9 (n:=rw.length) (fun i ys H'=>ys=(zaH rw i).map V.int∧H'=H) ⟨rfl,rfl⟩ (fun i ys H' hi _=>hi) (fun ys H' _=>ah _) ?_ ?_
  ·rintro zS zT zE i xx ys H4 H5 hi ⟨rfl,rfl⟩ ⟨rfl,rfl⟩;obtain⟨o,ho⟩:∃ o,rw[i]? = some o:=⟨rw[i]'#[O],#[M]⟩;have nN:atI (rw.map mF) (0+(i:Int))=some (mF o):=by
    rw [dg];exact zaV (by rw [ap,ho]; rfl)
   refine⟨_,rfl,_,rfl,ra,_,_,_,rfl,rfl,lN.of nL,nN,rfl,_,rfl,?_⟩;have hl:=zcY rw i;rw [zeh,ho,aw];refine zbc (fun h1=>⟨_,rfl,zau (by rw [ae]; lia),?_,rfl⟩) (fun h1=>⟨?_,rfl⟩)
   ·cases o with
    | none=>exact absurd h1 (by simp [mF])
    | some z=>rw [dg]; rfl
   ·cases o with
    | none=>simp
    | some z=>exact absurd (by simp [mF]) h1
  ·rintro ys H4 D ⟨rfl,rfl⟩ hD;have sD:=zf (o:=.lst ((zaH rw rw.length).map V.int)) hD;have xm:lP H4 D (.lst ((zaH rw rw.length).map V.int)) D=some (.lst ((zaH rw rw.length).map V.int)):=ze;generalize lP H4 D (.lst ((zaH rw rw.length).map V.int))=H5 at sD xm ⊢;have qu:=zcY rw rw.length;refine⟨_,rfl,D,rfl,⟨_,lN.of xm⟩,zi0 (K:=K) (xs:=(zaH rw rw.length).map V.int) (kp:=znm p pl rw l6) (f:=id) (lN.of xm) (by rw [ae]; lia) ?_ ?_⟩
   ·intro j xx R B hx hR;obtain⟨z,rfl,hz⟩:=zax hx;obtain⟨m,rfl,hm⟩:=zi4 (aH hz);obtain⟨o,ho⟩:∃ o,rw[m]? = some o:=⟨rw[m]'#[O],#[M]⟩;obtain⟨x,hx⟩:∃ x,pl[m]? = some x:=⟨pl[m]'#[O],#[M]⟩;obtain⟨x0,x1⟩:=mT x (aH hx);refine⟨_,rfl,c,_,_,_,rfl,rfl,lX.of (sD _ _ hc.1),rfl,_,rfl,_,rfl,_,rfl,tt,_,_,.int x,rfl,rfl,lX.of (sD _ _ hc.2),zaV (by rw [ap,hx]; rfl),p,x,po,l6,rfl,.inr (lX.of (sD _ _ yc)),p0,p1,x0,x1,_,rfl,_,rfl,ra,_,_,mF o,rfl,rfl,lN.of (sD _ _ nL),zaV (by rw [ap,ho]; rfl),zi2 o _,_,rfl,?_⟩;have e:znm p pl rw l6 (.int (m:Int))=decide (V.int (zu p x l6)=mF o):=by
     show zaz p pl rw l6 ((m:Int)).toNat=_;rw [bf,zgi hx ho];exact decide_eq_decide.mpr ⟨fun e=>e.symm,fun e=>e.symm⟩
    rw [e] at hR;refine zbc (fun h1=>⟨_,rfl,?_⟩) (fun h1=>?_)
    ·rw [if_pos h1] at hR;exact hR
    ·rw [if_neg h1] at hR;exact hR
   ·intro D2 xk;refine q D2 _ (sD.free xk) (sD.trans (zf xk)) ?_;rw [ze,zi3,oK]
theorem zmK {p:Int} {lW:List (Int×Int)} (hP:Pts p lW):lW.map (md p)=lW:=by
 refine (bY fun q hq=>?_).trans (gu _);obtain⟨_,_,h1,h2⟩:=hP.rg q hq;show (q.1,q.2 % p)=q;rw [dH h1 h2]
theorem zaA:FnScope ["code","points","p","k","places","found","picked"] ["code","points"] (zj zaT):=#[S]
theorem zeu {fd:FuncData} (T:Txt K mg t) (F:Fun K "all_through" "all_through" zaT t.all_through fd):FnOk P w K mg base CX0 4 t.all_through fd ["code","points"] (zeq K):=by
 obtain⟨sm,qC,oM⟩:=T.f_choices;have tI:=zhw (P:=P) (w:=w) (base:=base) T qC;obtain⟨su,qD,oO⟩:=T.f_through;have tJ:=zhv (P:=P) (w:=w) (base:=base) T qD;refine F.ok zaA (fun vs H Q E h=>?_) (fun l8 A outer s H vs Q E hr h=>?_)
 ·obtain⟨c,tt,a,p,k,pl,bs,lW,rfl,_⟩:=h;rfl
 ·obtain⟨c,tt,a,p,k,pl,bs,lW,rfl,hc,hS,hB,hn,hp,hP,k0,k1,q⟩:=h;have hu:(A.deeper (envOfC (bU "all_through") (zj zaT) s.heap.objs.size t.all_through l8)).units+1 < cLine:=by have:=hr.units; lia
  refine zbl ?_; intro zX;refine⟨_,#[zg,#[zbX,#[pvx,0],#[zbI,#[zq,#[zl,2,zaA.nd,#[A]],#[zq,#[zl,3,zaA.nd,#[A]],#[zq,#[zl,4,zaA.nd,#[A]],#[zag]]]]]],#[zg,#[zr,5,zaA.nd,#[A],(@zkH _ _)],#[zg,#[zaD,bA,#[z6,#[zH,tI,(hr.mono #[D]),T.m_choices,qC.kp,oM,#[zap],#[zd,#[pvx,1],#[ya,#[pvx,3]]]]],#[zl,6,zaA.nd,#[A]],#[zn,(@zlT _ _ _ _ _ _ _ _ _ hu #[pvx,5] #[zH,tJ,(hr.mono #[D]),T.m_through,qD.kp,oO,#[zap],#[zd,#[pvx,2],#[ya,#[pvx,6]]]] #[zcS] rfl)]],#[zn,#[zO,#[zy,(@zfF _ rfl),T.sorted_,boot_sorted,#[ya,#[pvx,5]]]]]]]],?_⟩;refine zlE ?_; intro uU qZ qh;have qu:=bt;have rp:=zN hp;obtain⟨zs,rfl,rfl,hz⟩:=hB.zs;rw [ae] at hn;refine⟨_,rfl,c,_,rfl,lX.of hc.1,rfl,_,_,rfl,_,_,rfl,_,_,rfl,rfl,fun D hD=>?_⟩;have s0:=zf (o:=.dT []) hD;have DW:lP H D (.dT []) D=some (.dT []):=ze;generalize lP H D (.dT [])=H0 at s0 DW ⊢;refine⟨_,rfl,_,rfl,a,k,_,rfl,s0.seq hS,by rw [ae,ae]; lia,#[O],fun l ls H1 hl s1 vG B0=>?_⟩;have hlD:l≠D:=fun e=>by rw [e,DW] at hl; cases hl
  rw [bh,zfb (V.ref ∘ fun z:Addr×Int×Int=>z.1) zs k] at B0;have mT:=B0.length;rw [ae,ae] at mT;have Au:=zdm (xs:=zs) k hn;obtain⟨yO,wy⟩:∃ yO,(chs zs k).map (·.2)=yO:=⟨_,rfl⟩;rw [wy] at B0;have hzl:ls.length=yO.length:=by rw [mT,← wy,ae]
  have AR:H1 D=some (.dT []):=s1 _ _ DW;have hid:=zcj H1 D;refine⟨l,rfl,⟨_,lN.of vG⟩,zak (K:=K) (a:=l) (xs:=ls.map V.ref) (fun i σ H'=>∃ (lV:List (List Key×V)) (mo:List (List Int)) (e6:Option V),σ = [some (.ref c),some (.ref a),some (.int p),some (.int k),some (.ref tt),some (.ref D),e6] ∧
   zA (hide H1 D) H'∧H' D=some (.dT lV)∧KeysAre lV mo∧mo.Nodup∧mo.length≤i∧∀ x,x∈mo↔∃ zk∈yO.take i,x=thr p (zk.map (·.2)))
   ⟨[],[],none,rfl,hid,AR,rfl,#[M],ah _,fun x=>by simp⟩ (fun i σ H' _ ⟨_,_,_,_,s3,_⟩=>lN.of (s3 _ _ (zac vG hlD))) ?_ ?_⟩
  ·rintro zD zT i y σ H2 hy ⟨lV,mo,e6,rfl,s2,DX,x5,o8,yP,mB⟩;obtain⟨b,rfl,wt⟩:=zK hy;obtain⟨hi,_⟩:=ak.mp wt;obtain⟨vk,AS,uO⟩:=Paired.get B0 wt;obtain⟨zk,hzk,rfl⟩:∃ zk,yO[i]? = some zk∧vk=zk.map (V.ref ∘ fun z:Addr×Int×Int=>z.1):=by
    rw [ap] at AS;cases e:yO[i]? with
    | none=>rw [e] at AS; cases AS
    | some zk=>rw [e] at AS; exact⟨zk,rfl,(aG AS).symm⟩
   have hbD:b≠D:=fun e=>by rw [e,AR] at uO; cases uO
   obtain⟨qJ,lT⟩:=zfH.mp (by rw [wy]; exact aH hzk:zk∈(chs zs k).map (·.2));have B1:Pts p (zk.map (·.2)):=hP.sub (qJ.map _);have DY:zh4 K H2 b (zk.map (·.2)):=by
    refine⟨zk.map (·.1),?_,by rw [ae,ae],fun j b' q' h1 h2=>?_⟩
    ·have:=s2 _ _ (zac uO hbD);rw [bh];exact lN.of this
    ·rw [ap] at h1 h2;cases e:zk[j]? with
     | none=>rw [e] at h1; cases h1
     | some z =>
      rw [e] at h1 h2;cases h1;cases h2;have rj:=hz z (qJ.subset (aH e));have hzD:z.1≠D:=zw rj hD;exact s2 _ _ (zac ((s0.trans s1) _ _ rj) hzD)
   have hmf:lV.length=mo.length:=by
    have:=congrArg eQ x5;rw [ae,ae] at this;exact this
   refine⟨_,rfl,_,rfl,_,rfl,p,b,_,rfl,DY,by rw [ae]; lia,hp,(by rw [zmK B1]; exact B1),(fun q hq=>by have:=B1.rg q hq; lia),fun tl H3 sf s3 h3=>?_⟩;rw [zmK B1] at h3;have B2:=s3 _ _ DX;refine⟨D,_,rfl,zkF.t (k:=(thr p (zk.map (·.2))).map dh) B2 (by rw [h3,bh]; rfl) #[O],?_⟩;obtain⟨tE,m1,m2,m3,m4⟩:=zk0 x5 o8 (thr p (zk.map (·.2))) (.bl true);refine⟨_,tE,_,rfl,?_,ze,m1,m2,#[O],fun x=>?_⟩
   ·refine zae (s2.trans s3) ?_;unfold hide;rw [if_pos rfl]
   ·rw [m4 x,mB x,take_snoc hzk];constructor
    ·rintro (⟨DZ,h1,h2⟩ | e)
     ·exact⟨DZ,aS _ h1,h2⟩
     ·exact⟨zk,aI _ (aY.mpr rfl),e⟩
    ·rintro⟨DZ,h1,h2⟩;rcases (aP.mp h1) with h1 | h1
     ·exact .inl ⟨DZ,h1,h2⟩
     ·rw [aY.mp h1] at h2;exact .inr h2
  ·rintro σ H2 ⟨lV,mo,e6,rfl,s2,DX,x5,o8,yP,mB⟩;rw [ae,hzl] at mB yP;rw [aX] at mB;rw [← hzl,mT] at yP;have oF:∀ x,x∈mo↔∃ pk∈(chs (zs.map (·.2)) k).map (·.2),x=thr p pk:=fun x=>by
    rw [mB x,zfb,wy];constructor
    ·rintro⟨zk,h1,h2⟩;exact⟨_,du h1,h2⟩
    ·rintro⟨pk,h1,h2⟩;obtain⟨zk,h3,rfl⟩:=az.mp h1;exact⟨zk,h3,h2⟩
   have AU:∀ x∈mo,IsP p k x:=fun x hx=>by
    obtain⟨pk,h1,rfl⟩:=(oF x).mp hx;exact zim hp hP h1
   refine⟨_,rfl,D,k,p,lV,mo,rfl,DX,x5,fun ms hm=>AU ms hm,k0,#[O],fun r qY sU qz AV hH=>?_⟩;have hHs:zA H H2:=fun x u e=>s2 _ _ (zac ((s0.trans s1) _ _ e) (zw e hD))
   have e1:qY.map (fun q=>V.ref q.1)=(qY.map (·.1)).map V.ref:=by rw [bh]; rfl
   rw [e1];refine q r (qY.map (·.1)) (qY.map (·.2)) _ (hHs.free sU) (hHs.trans (zf sU)) ze ((zaS.of hH).same (zf sU)) (by rw [qz.length_eq]; lia) (zl8 #[O] (fun x hx=>AU x (qz.mem_iff.mp hx)) (qz.nodup_iff.mpr o8) ?_) fun x=>?_
   ·rw [bQ];exact AV
   ·rw [qz.mem_iff];exact oF x
end
section
variable {P:Program} {w:World} {K:ag} {mg:Str→Option Value} {base:Heap} {t:Adr}
def zgH (t:Adr) (K:ag):Sp:=fun vs H Q E=>∃ (c tt r:Addr) (p:Int) (k:Nat) (T:Int) (pl:List Int) (rw:List (Option Int)),vs = [.ref c,.ref r,.int T]∧zbh H c tt p k pl∧H r=some (.lst (rw.map mF))∧rw.length=pl.length∧pl.length≤16∧p∈zz∧pl.Nodup∧(∀ x∈pl,0≤x∧x < p)∧(∀ z,some z∈rw→0≤z∧z < p)∧1≤k∧k≤100 ∧
 ((T < k∧∀ H',zA H H'→E (.ref t.TooFew) none H')∨(k≤T∧∀ (l:Addr) (rs:List Addr) (qs:List (List Int)) (H':Hp),H l=none→zA H H'→H' l=some (.lst (rs.map V.ref))→zaS H' rs qs→qs.length≤65536→zfJ p k qs→(∀ q,q∈qs↔IsP p k q∧T≤(hits p q (mw pl rw):Int))→Q (.ref l) H'))
theorem zbH:FnScope ["code","row","t","k","points","first"] ["code","row","t"] (zj zbv):=#[S]
theorem zdA {fd:FuncData} (T:Txt K mg t) (F:Fun K "all_near" "all_near" zbv t.all_near fd):FnOk P w K mg base (CX1 P w) 5 t.all_near fd ["code","row","t"] (zgH t K):=by
 obtain⟨pq,nA,mM⟩:=T.f_heard_points;have pJ:=zdH (P:=P) (w:=w) (base:=base) T nA;obtain⟨sV,pK,pL⟩:=T.f_fits;have sv:=zir (P:=P) (w:=w) (base:=base) T pK;obtain⟨pM,nO,mY⟩:=T.f_all_through;have qj:=zeu (P:=P) (w:=w) (base:=base) T nO;refine F.okX zbH (fun vs H Q E h=>?_) (fun l8 A outer s H vs Q E hr h=>?_)
 ·obtain⟨c,tt,r,p,k,T',pl,rw,rfl,_⟩:=h;rfl
 ·obtain⟨c,tt,r,p,k,T',pl,rw,rfl,hc,nL,oK,hn,hp,o8,mT,oo,k0,k1,q⟩:=h;refine zbl ?_; intro zX;refine⟨_,#[zg,#[zr,3,zbH.nd,#[A],#[zL,#[zbs],#[pvx,0],#[zi]]],#[zg,#[zbi,#[zJ,#[zmw],#[pvx,2],#[pvx,3],(zad _)],#[zn,(@zkB _ _ _ _ _ _ _ _ _ (fun _ _ _ _ _ _ _ _ I m q=>zhj I m q) rfl rfl T.x_TooFew T.xi_TooFew #[zfg] #[D] (by rfl) (by rfl))],#[zaw]],#[zg,#[zr,4,zbH.nd,#[A],#[zH,pJ,(hr.mono #[D]),T.m_heard_points,nA.kp,mM,#[zap],#[zd,#[pvx,0],#[ya,#[pvx,1]]]]],#[zg,#[zbi,#[zJ,#[zhO],#[pvx,2],#[zy,#[zF],T.len_,cv,#[ya,#[pvx,4]]],(zad _)],#[zn,#[zO,#[zY,#[zh]]]],#[zaw]],#[zg,#[zr,5,zbH.nd,#[A],#[zcT,zdK,#[pvx,4],#[zdI],#[zdJ,#[zm,#[zR],#[zm,#[zbq],#[zy,#[zF],T.len_,cv,#[ya,#[pvx,4]]],#[pvx,2]],#[pvx,3]]]]],#[zn,#[zO,#[zas,(CompSc.of (N':=["polynomial","code","row","t"]) (ix:=[none,some 0,some 1,some 2]) (zj zbv) ["code","row","t","k","points","first"] rfl rfl #[N]),#[zaE],#[z6,#[zH,qj,(hr.mono #[D]),T.m_all_through,nO.kp,mY,#[zap],#[zd,#[pvx,0],#[ya,#[pvx,5]]]]],(fun _ _ _ _=>#[zl,0,(show (["polynomial","code","row","t"]:List Str).Nodup from #[N]),#[A]]),(fun _ _ _ _=>#[zbd,#[zJ,#[zjY],#[zy,#[zbK,(K)],T.len_,cv,#[ya,#[zH,sv,(hr.mono #[D]),T.m_fits,pK.kp,pL,#[zap],#[zd,#[pvx,1],#[zd,#[pvx,2],#[ya,#[pvx,0]]]]]]],#[pvx,3],(zad _)]]),(fun _ _ _ _=>#[pvx,0])]]]]]]]],?_⟩;refine zm6 ?_; intro BV x9 uU qZ qh;have qu:=bt;have rp:=zN hp;have hR:RowAt K H r pl.length rw:=⟨lN.of nL,oK⟩;have hP:=zin o8 mT oo;have D0:=zdX pl rw;refine⟨_,rfl,c,_,_,_,rfl,rfl,lX.of hc.1,rfl,?_⟩;refine⟨_,rfl,_,rfl,_,_,rfl,rfl,_,rfl,?_⟩;rcases q with ⟨h1,q⟩ | ⟨h1,q⟩
  ·refine zbc (fun _=>?_) (fun h=>absurd (decide_eq_true h1) h);exact⟨rfl,q H (fun _ _ e=>e)⟩
  ·refine zbc (fun h=>absurd (of_decide_eq_true h) #[O]) (fun _=>?_);refine⟨_,rfl,_,rfl,c,tt,r,p,k,pl,rw,rfl,hc,hR,#[O],fun l bs H1 rR s1 vG hB=>?_⟩;have rD:bs.length=(mw pl rw).length:=hB.length;refine⟨_,rfl,_,rfl,l,_,rfl,.inl (lN.of vG),_,_,rfl,rfl,_,rfl,?_⟩;rw [ae];refine zbc (fun ml=>?_) (fun pF=>?_)
   ·have ml:=of_decide_eq_true ml;refine⟨bo _,fun z hz=>q z [] [] _ (s1.free hz) (s1.trans (zf hz)) ze .nil #[M] ⟨#[M],.nil⟩ fun x=>?_⟩;have:=cj (hit p x) (mw pl rw);constructor
    ·intro h; cases h
    ·rintro⟨_,h⟩;unfold hits at h;lia
   ·have pF:¬ T' > (bs.length:Int):=fun h=>pF (decide_eq_true h)
    obtain⟨tn,rfl⟩:∃ tn:Nat,T'=tn:=⟨T'.toNat,#[O]⟩;refine⟨_,rfl,_,rfl,l,_,rfl,.inl (lN.of vG),_,rfl,_,_,rfl,rfl,_,rfl,_,_,rfl,rfl,_,rfl,l,_,rfl,lN.of vG,fun z hz=>?_⟩;have D4:((bs.map V.ref).length:Int) - (tn:Int)+(k:Int)=((bs.length - tn+k:Nat):Int):=by rw [ae]; lia
    rw [D4,zk4,← jp];have v1:=zf (o:=.lst ((bs.take (bs.length - tn+k)).map V.ref)) hz;have hzz:lP H1 z (.lst ((bs.take (bs.length - tn+k)).map V.ref)) z=some (.lst ((bs.take (bs.length - tn+k)).map V.ref)):=ze;have s2:=s1.trans v1;have rB:=(hB.same v1).take (bs.length - tn+k);generalize lP H1 z (.lst ((bs.take (bs.length - tn+k)).map V.ref))=H2 at v1 hzz s2 rB ⊢;have hPt:Pts p ((mw pl rw).take (bs.length - tn+k)):=hP.sub (cf _ _);refine⟨_,rfl,_,rfl,c,tt,z,p,k,pl,_,_,rfl,hc.same s2,lN.of hzz,rB,by rw [aL]; lia,hp,hPt,k0,k1,fun l2 rs qs H3 n8 s3 uY hT yQ AW mB=>?_⟩;have D5:=hT.length;have vH:=s2.trans s3;refine⟨l2,rfl,⟨_,lN.of uY⟩,z9 (n:=rs.length) (fun i ys H'=>zA H3 H'∧∃ us:List Addr,ys=us.map V.ref∧us.length≤i∧zaS H' us ((qs.take i).filter fun x=>decide ((tn:Int)≤(hits p x (mw pl rw):Int)))) ⟨fun _ _ e=>e,[],rfl,ah _,.nil⟩ ?_ ?_ ?_ ?_⟩
    ·rintro i ys H4 hi ⟨s4,_⟩;exact⟨_,.ref rs[i],lN.of (s4 _ _ uY),by rw [ap,ao hi]; rfl⟩
    ·rintro ys H4 ⟨s4,_⟩;exact⟨_,lN.of (s4 _ _ uY),by rw [ae]; exact ah _⟩
    ·rintro zS zT zE i y ys H4 H5 hi ⟨s4,us,rfl,pC,mJ⟩ ⟨rfl,hy⟩;obtain⟨rb,rfl,vI⟩:=zK (hy _ (lN.of (s4 _ _ uY)));obtain⟨qq,AX,nN⟩:=Paired.get hT vI;have AY:=vH.trans s4;refine⟨_,rfl,_,rfl,_,rfl,c,tt,r,rb,p,k,pl,qq,rw,rfl,hc.same AY,AY _ _ nL,oK,s4 _ _ nN,#[O],#[O],mT,#[O],fun fl H6 xl s6 h6=>?_⟩;refine⟨fl,_,rfl,.inl (lN.of h6),_,rfl,_,_,rfl,rfl,_,rfl,?_⟩;have ef:((zaK p pl rw qq pl.length).map V.int).length=hits p qq (mw pl rw):=by rw [ae]; exact zdY oK
     rw [ef];have xS:(qs.take (i+1)).filter (fun x=>decide ((tn:Int)≤(hits p x (mw pl rw):Int)))=(qs.take i).filter (fun x=>decide ((tn:Int)≤(hits p x (mw pl rw):Int)))++[qq].filter (fun x=>decide ((tn:Int)≤(hits p x (mw pl rw):Int))):=by rw [take_snoc AX,bV]
     refine zbc (fun h=>⟨_,rfl,?_,s4.trans s6,us++[rb],by rw [aw]; rfl,by rw [aB]; exact ic pC,?_⟩) (fun h=>⟨s4.trans s6,us,rfl,#[O],?_⟩)
     ·rw [ae]; lia
     ·rw [xS,dX (p:=fun x=>decide ((tn:Int)≤(hits p x (mw pl rw):Int))) h];exact bR (mJ.same s6) ((s4.trans s6) _ _ nN)
     ·rw [xS,dY (p:=fun x=>decide ((tn:Int)≤(hits p x (mw pl rw):Int))) h,kY,bI];exact mJ.same s6
    ·rintro ys H4 D ⟨s4,us,rfl,pC,mJ⟩ hD;rw [D5,aX] at mJ;have AY:=vH.trans s4;refine q D us _ _ (AY.free hD) (AY.trans (zf hD)) ze (mJ.same (zf hD)) (aV (cj _ _) yQ) (AW.filter _) fun x=>?_
     rw [bN,mB x,decide_eq_true_iff];constructor
     ·rintro⟨⟨pk,h1,rfl⟩,h2⟩;exact⟨zim hp hPt h1,h2⟩
     ·rintro⟨h1',h2⟩;exact⟨zhr hp hP h1' (t:=tn) #[O] #[O] #[O],h2⟩
def zhx:List Str:=["few","curve","paper","place","number","heard","not heard","nothing","text","row"]
def zjx (t:Adr) (K:ag):Sp:=fun vs H Q _=>∃ (e C:Addr) (b0 b1 b2 b3 b4 b5 b6 b7 b8 b9:Bool) (j:Nat) (x:Str),vs = [.ref e]∧H e=some (zkx e C)∧KW K t C b0 b1 b2 b3 b4 b5 b6 b7 b8 b9∧[b0,b1,b2,b3,b4,b5,b6,b7,b8,b9].count true=1∧[b0,b1,b2,b3,b4,b5,b6,b7,b8,b9][j]? = some true∧(∀ m,m < j→[b0,b1,b2,b3,b4,b5,b6,b7,b8,b9][m]? = some false)∧j < 10∧zhx[j]? = some x∧∀ H',zA H H'→Q (.str x) H'
theorem zbU:FnScope ["e","kinds","words"] ["e"] (zj zdb):=#[S]
theorem zjy {fd:FuncData} (T:Txt K mg t) (F:Fun K "_law_word" "_law_word" zdb t.l_word fd):FnOkH P w K mg base 1 t.l_word fd ["e"] (zjx t K):=by
 refine F.okH zbU (fun vs H Q E h=>?_) (fun l8 A outer s H vs Q E hr h=>?_)
 ·obtain⟨e,C,b0,b1,b2,b3,b4,b5,b6,b7,b8,b9,j,x,rfl,_⟩:=h;rfl
 ·obtain⟨e,C,b0,b1,b2,b3,b4,b5,b6,b7,b8,b9,j,x,rfl,he,kw,hc,hj,hm,hj10,hx,q⟩:=h;refine zbl ?_; intro zX;refine⟨_,#[zg,#[zr,1,zbU.nd,#[A],#[zY,#[zd,#[zy,#[zaa],T.isinstance_,bX,#[zd,#[pvx,0],#[ya,#[zbb,(.ref t.TooFew),T.x_TooFew]]]],by exact #[zd,#[zy,#[zaa],T.isinstance_,bX,#[zd,#[pvx,0],#[ya,#[zbb,(.ref t.NoCurve),T.x_NoCurve]]]],#[zd,#[zy,#[zaa],T.isinstance_,bX,#[zd,#[pvx,0],#[ya,#[zbb,(.ref t.NoPaper),T.x_NoPaper]]]],#[ya,#[zy,#[zaa],T.isinstance_,bX,#[zd,#[pvx,0],#[ya,#[zbb,(.ref t.NoPlace),T.x_NoPlace]]]]]]]]]],#[zg,#[zr,1,zbU.nd,#[A],#[zm,#[zbZ],#[pvx,1],#[zY,#[zd,#[zy,#[zaa],T.isinstance_,bX,#[zd,#[pvx,0],#[ya,#[zbb,(.ref t.NoNumber),T.x_NoNumber]]]],#[zd,#[zy,#[zaa],T.isinstance_,bX,#[zd,#[pvx,0],#[ya,#[zbb,(.ref t.Heard),T.x_Heard]]]],#[ya,#[zy,#[zaa],T.isinstance_,bX,#[zd,#[pvx,0],#[ya,#[zbb,(.ref t.NotHeard),T.x_NotHeard]]]]]]]]]],#[zg,#[zr,1,zbU.nd,#[A],#[zm,#[zbZ],#[pvx,1],#[zY,#[zd,#[zy,#[zaa],T.isinstance_,bX,#[zd,#[pvx,0],#[ya,#[zbb,(.ref t.NothingLeft),T.x_NothingLeft]]]],#[zd,#[zy,#[zaa],T.isinstance_,bX,#[zd,#[pvx,0],#[ya,#[zbb,(.ref t.NoText),T.x_NoText]]]],#[ya,#[zy,#[zaa],T.isinstance_,bX,#[zd,#[pvx,0],#[ya,#[zbb,(.ref t.NoRow),T.x_NoRow]]]]]]]]]],#[zg,#[zbi,(@PW.pt _ _ _ #[zjP,#[zJ,#[zmv],#[zcB,bD,PySem.F.slot_list_count,PySem.F.type_list_count,(@zjb _),#[pvx,1],#[ya,#[zcS]]],#[zi],(zad _)],#[zjO,#[zjQ,#[zjN,#[zy,#[zaa],T.isinstance_,bX,#[zd,#[pvx,0],#[ya,#[zhK,(.ty "ValueError"),T.ValueError_,lq]]]]]]]]),#[zn,#[zO,#[zfg]]],#[zaw]],(by exact (@zkD _ 2 _ _ _ _ _ _ _ ["few","curve","paper","place","number","heard","not heard","nothing","text","row"] #[N] zbU.nd rfl #[A] (by first | exact .inl rfl | exact .inr rfl) (by exact #[zn,#[zO,#[zL,#[zQ],#[pvx,2],#[zcB,bD,PySem.F.slot_list_index,PySem.F.type_list_index,(@zjc _),#[pvx,1],#[ya,#[zcS]]]]]])))]]]],?_⟩;refine zm6 ?_; intro BV x9 uU qZ qh;have qu:=bt;have xc:=kw.xc;refine⟨_,rfl,e,C,_,_,rfl,he,xc,.inl ⟨_,rfl,kw.i0⟩,_,rfl,e,C,_,_,rfl,he,xc,.inl ⟨_,rfl,kw.i1⟩,_,rfl,e,C,_,_,rfl,he,xc,.inl ⟨_,rfl,kw.i2⟩,_,rfl,e,C,_,_,rfl,he,xc,.inl ⟨_,rfl,kw.i3⟩,by show 4≤sizeLine; lia,fun l1 rR=>?_⟩;have s1:=zf (o:=.lst [.bl b0,.bl b1,.bl b2,.bl b3]) rR;have wU:=s1 _ _ he;refine⟨_,rfl,_,rfl,e,C,_,_,rfl,wU,xc,.inl ⟨_,rfl,kw.i4⟩,_,rfl,e,C,_,_,rfl,wU,xc,.inl ⟨_,rfl,kw.i5⟩,_,rfl,e,C,_,_,rfl,wU,xc,.inl ⟨_,rfl,kw.i6⟩,by show 3≤sizeLine; lia,fun l2 n8=>?_⟩;have s2:=zf (o:=.lst [.bl b4,.bl b5,.bl b6]) n8;refine⟨l1,l2,_,_,rfl,rfl,s2 _ _ ze,ze,by show 7≤sizeLine; lia,fun l3 hl3=>?_⟩;have s3:=zf (o:=.lst ([V.bl b0,.bl b1,.bl b2,.bl b3]++[.bl b4,.bl b5,.bl b6])) hl3;have wV:=s3 _ _ (s2 _ _ wU);refine⟨_,rfl,_,rfl,e,C,_,_,rfl,wV,xc,.inl ⟨_,rfl,kw.i7⟩,_,rfl,e,C,_,_,rfl,wV,xc,.inl ⟨_,rfl,kw.i8⟩,_,rfl,e,C,_,_,rfl,wV,xc,.inl ⟨_,rfl,kw.i9⟩,by show 3≤sizeLine; lia,fun l4 hl4=>?_⟩;have s4:=zf (o:=.lst [.bl b7,.bl b8,.bl b9]) hl4;refine⟨l3,l4,_,_,rfl,rfl,s4 _ _ ze,ze,by show 10≤sizeLine; lia,fun l5 hl5=>?_⟩;have s5:=zf (o:=.lst ([V.bl b0,.bl b1,.bl b2,.bl b3]++[.bl b4,.bl b5,.bl b6]++[.bl b7,.bl b8,.bl b9])) hl5;have yA:=s5 _ _ (s4 _ _ wV);have sA:=s1.trans (s2.trans (s3.trans (s4.trans s5)));have h5:lP (lP (lP (lP (lP H l1 (.lst [.bl b0,.bl b1,.bl b2,.bl b3])) l2 (.lst [.bl b4,.bl b5,.bl b6])) l3 (.lst ([V.bl b0,.bl b1,.bl b2,.bl b3]++[.bl b4,.bl b5,.bl b6]))) l4 (.lst [.bl b7,.bl b8,.bl b9])) l5 (.lst ([V.bl b0,.bl b1,.bl b2,.bl b3]++[.bl b4,.bl b5,.bl b6]++[.bl b7,.bl b8,.bl b9])) l5=some (.lst ([b0,b1,b2,b3,b4,b5,b6,b7,b8,b9].map V.bl)):=ze;generalize lP (lP (lP (lP (lP H l1 (.lst [.bl b0,.bl b1,.bl b2,.bl b3])) l2 (.lst [.bl b4,.bl b5,.bl b6])) l3 (.lst ([V.bl b0,.bl b1,.bl b2,.bl b3]++[.bl b4,.bl b5,.bl b6]))) l4 (.lst [.bl b7,.bl b8,.bl b9])) l5 (.lst ([V.bl b0,.bl b1,.bl b2,.bl b3]++[.bl b4,.bl b5,.bl b6]++[.bl b7,.bl b8,.bl b9]))=H5 at yA sA h5 ⊢;refine⟨_,rfl,.inl ⟨rfl,_,lN.of h5⟩,l5,_,true,rfl,rfl,h5,?_⟩;rw [hc];refine⟨rfl,_,rfl,?_⟩;refine zeB ?_;refine⟨_,rfl,e,C,_,_,rfl,yA,xc,.inr ⟨_,rfl,kw.iv⟩,_,rfl,?_⟩;refine zeB ?_;refine⟨by show 10≤sizeLine; lia,fun lw hlw=>?_⟩;have s6:=zf (o:=.lst (zhx.map V.str)) hlw;refine⟨_,rfl,_,rfl,.inl ⟨rfl,_,lN.of (s6 _ _ h5)⟩,l5,_,true,j,rfl,rfl,s6 _ _ h5,hj,hm,#[O],?_⟩;refine⟨lw,_,_,.str x,rfl,rfl,lN.of ze,?_,q _ (sA.trans s6)⟩;exact zaV (xs:=zhx.map V.str) (by rw [ap,hx]; rfl)
end
theorem zk7 {l:List Nat} {d:Nat} (h:l.Nodup) (hl:∀ x∈l,x < d):l.length≤d:=by
 have h1:=zht (S:=bg d) h;rw [List.filter_eq_nil_iff.mpr (fun x hx=>by have:=hl x hx; simpa using this),dI] at h1;simpa using h1
def zZ (ms:List Int) (rw:List (Option Int)):List (Option Int):=(bg rw.length).map fun i:Nat=>if (i:Int)∈ms then rw.getD i none else none
theorem zbx (ms:List Int) (rw:List (Option Int)):(zZ ms rw).length=rw.length:=by unfold zZ; rw [ae,dI]
theorem zfM {ms:List Int} {rw:List (Option Int)} {i:Nat} {o:Option Int} (h:rw[i]? = some o):(zZ ms rw)[i]? = some (if (i:Int)∈ms then o else none):=by
 have hi:=(ak.mp h).1;unfold zZ;rw [ap,jB hi];show some (if (i:Int)∈ms then rw.getD i none else none)=_;rw [gM,h];rfl
theorem zis {p:Int} {ms:List Int} {rw:List (Option Int)} (h:∀ z,some z∈rw→0≤z∧z < p):∀ z,some z∈zZ ms rw→0≤z∧z < p:=by
 intro z hz;obtain⟨i,hi⟩:=dM hz;cases ho:rw[i]? with
 | none =>
  have h1:=(ak.mp hi).1;rw [zbx] at h1;rw [ao h1] at ho;cases ho
 | some o =>
  rw [zfM ho] at hi;have hi:=aG hi;by_cases hm:(i:Int)∈ms
  ·rw [if_pos hm] at hi;subst hi;exact h z (aH ho)
  ·rw [if_neg hm] at hi;cases hi
theorem zfc {p:Int} {pl:List Int} {ms:List Int} {rw:List (Option Int)} {q:List Int} (hl:rw.length=pl.length) (i:Nat):zaz p pl (zZ ms rw) q i=true↔(i:Int)∈ms∧zaz p pl rw q i=true:=by
 unfold zaz;cases hp:pl[i]? with
 | none=>simp
 | some x =>
  have hi:=(ak.mp hp).1;have ho:rw[i]? = some rw[i]:=ao #[O];rw [zfM ho,ho];by_cases hm:(i:Int)∈ms
  ·rw [if_pos hm];simp [hm]
  ·rw [if_neg hm];simp [hm]
theorem zdd {p:Int} {pl:List Int} {rw:List (Option Int)} {q:List Int} {n:Nat} {z:Int}:z∈zaK p pl rw q n↔∃ j:Nat,z=j∧j < n∧zaz p pl rw q j=true:=by
 unfold zaK;constructor
 ·intro h;obtain⟨j,hj,rfl⟩:=az.mp h;obtain⟨h1,h2⟩:=bN.mp hj;exact⟨j,rfl,bF.mp h1,h2⟩
 ·rintro⟨j,rfl,h1,h2⟩;exact az.mpr ⟨j,bN.mpr ⟨bF.mpr h1,h2⟩,rfl⟩
theorem zhy {p:Int} {pl:List Int} {rw:List (Option Int)} {q:List Int} {n:Nat}:(zaK p pl rw q n).Nodup:=by
 unfold zaK;exact ki _ (fun a b oC e=>oC #[O]) (fI.filter _)
structure JS (p:Int) (k:Nat) (pl:List Int) (T:Nat) (rows:List (List (Option Int))) (s:List (List Int)×List Int):Prop where
 len:s.1.length=rows.length
 isp:∀ q∈s.1,IsP p k q
 mem:∀ i:Nat,i < pl.length→((i:Int)∈s.2↔∀ (l:Nat) row q,rows[l]? = some row→s.1[l]? = some q→zaz p pl row q i=true)
 rg:∀ z∈s.2,∃ i:Nat,z=i∧i < pl.length
 nd:s.2.Nodup
 many:rows≠[]→T≤s.2.length
variable {p:Int} {k T:Nat} {pl:List Int} {rows:List (List (Option Int))}
theorem zmg:JS p k pl T [] ([],zat 0 pl.length):=by
 have hm:∀ z,z∈zat 0 pl.length↔∃ i:Nat,z=i∧i < pl.length:=fun z=>by
  unfold zat;constructor
  ·intro h
   (obtain⟨i,hi,rfl⟩:=az.mp h)
   exact⟨i,#[O],bF.mp hi⟩
  ·rintro⟨i,rfl,hi⟩;exact az.mpr ⟨i,bF.mpr hi,#[O]⟩
 refine⟨rfl,fun q h=>(by cases h),fun i hi=>⟨fun _ l row q h=>(by simp at h),fun _=>(hm _).mpr ⟨i,rfl,hi⟩⟩,fun z hz=>(hm z).mp hz,?_,fun h=>absurd rfl h⟩;unfold zat;exact ki _ (fun a b oC e=>oC #[O]) fI
theorem zmh {qs:List (List Int)} {ms q:List Int} {row:List (Option Int)} (J:JS p k pl T rows (qs,ms)) (hl:row.length=pl.length) (hq:IsP p k q) (ht:T≤hits p q (mw pl (zZ ms row))) :
  JS p k pl T (rows++[row]) (qs++[q],zaK p pl (zZ ms row) q pl.length):=by
 have lT:qs.length=rows.length:=J.len;refine⟨by show (qs++[q]).length=_; rw [aB,aB,lT]; rfl,fun x hx=>?_,fun i hi=>?_,fun z hz=>?_,zhy,fun _=>?_⟩
 ·rcases aP.mp hx with h | h
  ·exact J.isp x h
  ·rw [aY.mp h]; exact hq
 ·have e:(i:Int)∈zaK p pl (zZ ms row) q pl.length↔(i:Int)∈ms∧zaz p pl row q i=true:=by
   rw [zdd,← zfc hl];constructor
   ·rintro⟨j,hj,_,h⟩;have:i=j:=by lia
    subst this;exact h
   ·exact fun h=>⟨i,rfl,hi,h⟩
  show (i:Int)∈zaK p pl (zZ ms row) q pl.length↔_;rw [e,J.mem i hi];constructor
  ·rintro⟨h1,h2⟩ l r x hr hx;rw [List.getElem?_append] at hr hx;rw [lT] at hx;by_cases yK:l < rows.length
   ·rw [if_pos yK] at hr hx;exact h1 l r x hr hx
   ·rw [if_neg yK] at hr hx;cases hd:l - rows.length with
    | zero =>
     rw [hd] at hr hx;cases hr;cases hx;exact h2
    | succ m =>
     rw [hd] at hr;simp at hr
  ·intro h;refine⟨fun l r x hr hx=>h l r x ?_ ?_,h rows.length row q ?_ ?_⟩
   ·rw [cY (ak.mp hr).1]; exact hr
   ·rw [cY (ak.mp hx).1]; exact hx
   ·rw [cT (ah _),iq]; rfl
   ·rw [← lT,cT (ah _),iq]; rfl
 ·obtain⟨j,rfl,h,_⟩:=zdd.mp hz;exact⟨j,rfl,h⟩
 ·show T≤(zaK p pl (zZ ms row) q pl.length).length;rw [zdY (by rw [zbx]; exact hl)];exact ht
theorem zk8 {s:List (List Int)×List Int} (J:JS p k pl T rows s) {l i:Nat} {row:List (Option Int)} {q:List Int} (hr:rows[l]? = some row) (hq:s.1[l]? = some q) (hi:(i:Int)∈s.2):∃ x y,pl[i]? = some x∧row[i]? = some (some y)∧zu p x q=y:=by
 obtain⟨j,hj,vA⟩:=J.rg _ hi;have:i=j:=by lia
 subst this;have h:=(J.mem i vA).mp hi l row q hr hq;unfold zaz at h;split at h
 ·next x y h1 h2=>exact⟨x,y,h1,h2,(of_decide_eq_true h).symm⟩
 ·cases h
theorem zog (o8:pl.Nodup) {s:List (List Int)×List Int} (J:JS p k pl T rows s):(s.2.map fun z=>gl pl z.toNat).Nodup:=by
 have h:∀ a∈s.2,∀ b∈s.2,a≠b→gl pl a.toNat≠gl pl b.toNat:=fun a ha b hb oC e=>by
  obtain⟨i,rfl,hi⟩:=J.rg a ha;obtain⟨j,rfl,hj⟩:=J.rg b hb;simp only [bf] at e;have h1:=zhs hi;have h2:=zhs hj;rw [e,← h2] at h1;have:=(List.getElem?_inj hi o8).mp h1;exact oC (by rw [this])
 have nd:=J.nd;generalize s.2=l at h nd;induction l with
 | nil=>exact k8
 | cons a l ih =>
  obtain⟨h1,h2⟩:=c6.mp nd;refine c6.mpr ⟨fun hm=>?_,ih (fun x hx y hy=>h x (aj _ hx) y (aj _ hy)) h2⟩
  (obtain⟨b,hb,e⟩:=az.mp hm)
  exact h a aF b (aj _ hb) (fun z=>h1 (z ▸ hb)) e.symm
theorem znD (hp:p∈zz) (o8:pl.Nodup) (mT:∀ x∈pl,0≤x∧x < p) (hk:k≤T) (m6:rows≠[]) {s s':List (List Int)×List Int} (J:JS p k pl T rows s) (J':JS p k pl T rows s') (h:∀ i:Nat,i < pl.length→((i:Int)∈s.2↔(i:Int)∈s'.2)):s.1=s'.1:=by
 refine er fun l=>?_
 cases hr:rows[l]? with
 | none =>
  have hl:=eX.mp hr;rw [cE (by rw [J.len]; exact hl),cE (by rw [J'.len]; exact hl)]
 | some row =>
  have hl:=(ak.mp hr).1;have h1:s.1[l]? = some (s.1[l]'(by rw [J.len]; exact hl)):=ao _;have h2:s'.1[l]? = some (s'.1[l]'(by rw [J'.len]; exact hl)):=ao _;rw [h1,h2];congr 1;generalize s.1[l]'(by rw [J.len]; exact hl)=q at h1;generalize s'.1[l]'(by rw [J'.len]; exact hl)=q' at h2;have i1:=J.isp q (aH h1);have i2:=J'.isp q' (aH h2);have hm:=J.many m6;refine zdy hp (xs:=s.2.map fun z=>gl pl z.toNat) (by rw [i1.1,i2.1]) (by rw [i1.1,ae]; lia) (zog o8 J) (fun x hx=>?_) i1.2 i2.2 (fun x hx=>?_)
  ·obtain⟨z,hz,rfl⟩:=az.mp hx;obtain⟨i,rfl,hi⟩:=J.rg z hz;exact mT _ (aH (zhs hi))
  ·obtain⟨z,hz,rfl⟩:=az.mp hx;obtain⟨i,rfl,hi⟩:=J.rg z hz;obtain⟨x1,y1,a1,a2,a3⟩:=zk8 J hr h1 hz;obtain⟨x2,y2,b1,b2,b3⟩:=zk8 J' hr h2 ((h i hi).mp hz);rw [a1] at b1;cases b1;rw [a2] at b2;cases b2;show zu p (gl pl i) q=zu p (gl pl i) q';rw [zmJ a1,a3,b3]
def cod (ms:List Int):Nat→Nat
 | 0=>0
 | n+1=>cod ms n+if (n:Int)∈ms then 2 ^ n else 0
theorem zfN (ms:List Int):∀ n,cod ms n < 2 ^ n
 | 0=>by show 0 < 2 ^ 0; decide
 | n+1=>by
  have:=zfN ms n;show cod ms n+(if (n:Int)∈ms then 2 ^ n else 0) < 2 ^ (n+1);rw [jV];split <;> lia
theorem zit {ms rW:List Int}:∀ n,cod ms n=cod rW n→∀ i,i < n→((i:Int)∈ms↔(i:Int)∈rW)
 | 0,_,i,hi=>by lia
 | n+1,h,i,hi=>by
  have h1:=zfN ms n;have h2:=zfN rW n;have h:cod ms n+(if (n:Int)∈ms then 2 ^ n else 0)=cod rW n+(if (n:Int)∈rW then 2 ^ n else 0):=h;have key:((n:Int)∈ms↔(n:Int)∈rW)∧cod ms n=cod rW n:=by
   by_cases a:(n:Int)∈ms <;> by_cases b:(n:Int)∈rW
   ·rw [if_pos a,if_pos b] at h;exact⟨⟨fun _=>b,fun _=>a⟩,#[O]⟩
   ·rw [if_pos a,if_neg b] at h;lia
   ·rw [if_neg a,if_pos b] at h;lia
   ·rw [if_neg a,if_neg b] at h;exact⟨⟨fun z=>absurd z a,fun z=>absurd z b⟩,#[O]⟩
  by_cases qt:i=n
  ·subst qt;exact key.1
  ·exact zit n key.2 i #[O]
theorem zgI (hp:p∈zz) (o8:pl.Nodup) (mT:∀ x∈pl,0≤x∧x < p) (hk:k≤T) (m6:rows≠[]) {out:List (List (List Int)×List Int)} (h:∀ s∈out,JS p k pl T rows s) (nd:(out.map (·.1)).Nodup):out.length≤2 ^ pl.length:=by
 have h1:(out.map fun s=>cod s.2 pl.length).Nodup:=by
  refine bQ.mpr ?_;refine cK (fun ha hb oC e=>?_) (bQ.mp nd);exact oC (znD hp o8 mT hk m6 (h _ ha) (h _ hb) (zit _ e))
 have h2:=zk7 h1 (d:=2 ^ pl.length) fun x hx=>by
  obtain⟨s,_,rfl⟩:=az.mp hx;exact zfN _ _
 rwa [ae] at h2
end My
end
section
namespace Srt
open PySem PyProof.Rows L2
section
variable {prog:Program} {w:World} {A:Around} {E:Value→Shared→Prop} {s:Shared} {κ:SortKind} {val:Keyed→Int}
theorem zhz {v:Value} {vs:List Value} {Q:Value→Shared→Prop} (lT:vs.length≤sizeLine)
  (uS:∀ R:List Value→Shared→Prop,(∀ (h':Heap) (tk:Nat),(∀ b o,s.heap.get? b=some o→h'.get? b=some o)→R vs { s with heap:=h',toks:=tk })→wpAny (model prog w) A.in1 (collect v) R E s)
  (og:∀ s',(∀ b o,s.heap.get? b=some o→s'.heap.get? b=some o)→2≤vs.length→∀ (A':Around) (Q:SortKind→Shared→Prop) (E:Value→Shared→Prop),Q κ s'→wpAny (model prog w) A' (keyKind' vs.toArray) Q E s')
  (uR:∀ s',(∀ b o,s.heap.get? b=some o→s'.heap.get? b=some o)→Cmp prog w A.in1.in1 s' κ val (pairsOf vs))
  (h:∀ (h':Heap) (tk:Nat) (out:Array Value) (e:Nat) (D:Addr),(∀ b o,s.heap.get? b=some o→h'.get? b=some o)→(∀ b o,s.heap.get? b=some o→b < D)→h'.get? D=some (seqObj "list" out e)→out.toList.Perm vs→(out.toList.Pairwise fun x y=>val (x,x)≤val (y,y))→Q (.ref D) { s with heap:=h',toks:=tk }) :
  wpAny (model prog w) A (call (.builtin "sorted") [v]) Q E s:=by
 refine g7 kind_sorted plain_sorted entry_sorted (args_sorted1 _) ?_; unfold Builtin.«sorted»;refine aa (m:=checkCount "sorted" 1 1 _) (ai (aa (bZ (uS (fun us s'=>us=vs∧∃ (h':Heap) (tk:Nat),s' = { s with heap:=h',toks:=tk }∧∀ b o,s.heap.get? b=some o→h'.get? b=some o) fun h' tk k=>⟨rfl,h',tk,rfl,k⟩) ?_ fun _ _ e=>e)));rintro us s' ⟨rfl,h1,tk,rfl,kk⟩;refine aa (jt ?_ (hsz:=lT));have vv:(h1.push (seqObj "list" us.toArray 0)).get? h1.objs.size=some (seqObj "list" us.toArray 0):=aC _ rfl;have kn:∀ b o,s.heap.get? b=some o→b≠h1.objs.size:=fun b o e=>aZ (aD (kk b o e))
 refine aa (bK (bj slot_list_sort ⟨_,vv,rfl⟩ entry_list_sort (ze9 (κ:=κ) (val:=val) vv lT (fun h' hk h2 Q E hq=>og _ (fun b o e=>hk b o (kn b o e) (af _ (kk b o e))) h2 _ Q E hq) (fun h' hk=>uR _ fun b o e=>hk b o (kn b o e) (af _ (kk b o e))) fun out a1 a2=>⟨_,rfl,?_⟩) (args_list_sort _)));obtain⟨e,he⟩:=sortedHeap_at (out:=out) vv;refine ai ⟨_,rfl,h _ tk out e h1.objs.size (fun b o x=>?_) (fun b o x=>aD (kk _ _ x)) he a1 a2⟩;rw [sortedHeap_old (kn b o x) (by rw [bi]; exact dG (aD (kk _ _ x)))];exact af _ (kk _ _ x)
def zjz:List (List Int)→List (List Int)→Bool
 | x :: xs,y :: ys=>if x=y then zjz xs ys else zdE x y
 | _,_=>false
theorem zgJ:∀ xs ys:List Int,HT.lexLt xs ys=zdE xs ys
 | [],[]=>rfl
 | [],_ :: _=>rfl
 | _ :: _,[]=>rfl
 | x :: xs,y :: ys=>by rw [HT.lexLt_cons,zbo,zgJ xs ys]
def TkV (h:Heap) (ms:List Int) (a:Addr):Prop:=∃ lO:List Value,zG (ms.map V.int) lO∧IsTup h a lO.toArray
theorem zhA {P:Program} {w:World}:∀ {ns:List Int} {us:List Value},zG (ns.map V.int) us→ItemsAre (intKind P w) ns us
 | [],us,r=>by cases r; exact .nil
 | n :: ns,us,r=>by
  cases r with
  | cons h t =>
   obtain⟨tk,rfl⟩:=h;exact .cons (intKind_is _ _ _ _) (zhA t)
theorem TkV.key {h:Heap} {ms:List Int} {a:Addr} (x:TkV h ms a):IsTupleKey (intKind prog w) h ms a:=by
 obtain⟨lO,r,o,ho,hc,n,hd⟩:=x;exact⟨o,_,n,ho,hc,hd,by simpa using zhA r⟩
theorem zgK {Q:Bool→Shared→Prop} {fin:Bool} (hu:A.units < cLine):∀ {xs ys:List Addr} {ms ns:List (List Int)} (i:Nat),Paired (fun a m=>TkV s.heap m a) xs ms→Paired (fun a m=>TkV s.heap m a) ys ns→ms.length=ns.length→Q (if ms=ns then fin else zjz ms ns) s→lh prog w A false fin Q ((xs.map aE).zip (ys.map aE)) i s
 | [],[],[],[],i,_,_,_,h=>kS (by simpa using h)
 | _ :: _,_,[],_,_,hx,_,_,_=>by cases hx
 | [],_,_ :: _,_,_,hx,_,_,_=>by cases hx
 | _,[],_,_ :: _,_,_,hy,_,_=>by cases hy
 | _,_ :: _,_,[],_,_,hy,_,_=>by cases hy
 | x :: xs,y :: ys,m :: ms,n :: ns,i,hx,hy,hl,h=>by
  cases hx with
  | cons tx hx =>
   cases hy with
   | cons ty hy =>
    refine kD (jY hu tx.key ty.key ?_);by_cases e:m=n
    ·rw [decide_eq_true e];refine kU (zgK hu (i+1) hx hy (by simpa using hl) ?_);subst e;simpa [zjz] using h
    ·rw [decide_eq_false e];have m6:¬ (m :: ms=n :: ns):=fun z=>e (d6 z).1
     rw [if_neg m6] at h;have h:Q (zdE m n) s:=by simpa [zjz,e] using h
     refine li (kW _ _ ?_);obtain⟨i1,r1,p1⟩:=tx;obtain⟨i2,r2,p2⟩:=ty;refine HT.lt_tupInts p1 p2 (intsAre_of r1) (intsAre_of r2) hu ?_;rw [zgJ];exact h
end
end Srt
namespace My
open PySem PySem.Spec L2 PyProof.Rows Srt
def nn (p:Int) (k:Nat) (qs:List (List Int)):Int:=num (p ^ k) (qs.map (num p))
theorem zgL (B:Int):∀ (xs:List Int) (x:Int),num B (xs++[x])=num B xs*B+x
 | [],x=>by simp [num]
 | y :: xs,x=>by
  show y*B ^ (xs++[x]).length+num B (xs++[x])=(y*B ^ xs.length+num B xs)*B+x;rw [zgL B xs x,aB,eB,il];grind
theorem zd0 {p:Int} {k:Nat} (qs:List (List Int)) (q:List Int):nn p k (qs++[q])=nn p k qs*p ^ k+num p q:=by
 unfold nn;rw [aw];exact zgL _ _ _
theorem zk9 {p:Int} (hp:1≤p) (k:Nat):1≤p ^ k:=by
 induction k with
 | zero=>simp
 | succ k ih =>
  rw [il];exact Int.mul_pos (show 0 < p ^ k by lia) (show 0 < p by lia)
theorem zfO {p:Int} (hp:1≤p) {k:Nat} {q:List Int} (h:IsP p k q):0≤num p q∧num p q < p ^ k:=by
 have:=num_rng hp h.2;rw [h.1] at this;exact this
theorem zde {p:Int} (hp:1≤p) {k:Nat} {qs:List (List Int)} (h:∀ q∈qs,IsP p k q):∀ n∈qs.map (num p),0≤n∧n < p ^ k:=fun n hn=>by
 obtain⟨q,hq,rfl⟩:=az.mp hn;exact zfO hp (h q hq)
theorem znE {p:Int} (hp:1≤p) {k:Nat} {as bs:List (List Int)} (hl:as.length=bs.length) (ha:∀ q∈as,IsP p k q) (hb:∀ q∈bs,IsP p k q) (e:nn p k as=nn p k bs):as=bs:=by
 have h:=zc9 (zk9 hp k) (by simpa using hl) (zde hp ha) (zde hp hb) e;clear e;induction as generalizing bs with
 | nil=>cases bs with
  | nil=>rfl
  | cons=>simp at hl
 | cons a as ih=>cases bs with
  | nil=>simp at hl
  | cons b bs =>
   rw [aR,aR] at h;obtain⟨h1,h2⟩:=d6 h;have pa:=ha a aF;have pb:=hb b aF;rw [zc9 hp (pa.1.trans pb.1.symm) pa.2 pb.2 h1,ih (by simpa using hl) (fun q hq=>ha q (aj _ hq)) (fun q hq=>hb q (aj _ hq)) h2]
theorem zgM {p:Int} (hp:1≤p) {k:Nat}:∀ {as bs:List (List Int)},as.length=bs.length→(∀ q∈as,IsP p k q)→(∀ q∈bs,IsP p k q)→zjz as bs=decide (nn p k as < nn p k bs):=by
 intro as bs hl ha hb;unfold nn;rw [← zdV (zk9 hp k) (by simpa using hl) (zde hp ha) (zde hp hb)];induction as generalizing bs with
 | nil=>cases bs with
  | nil=>rfl
  | cons=>simp at hl
 | cons a as ih=>cases bs with
  | nil=>simp at hl
  | cons b bs =>
   have pa:=ha a aF;have pb:=hb b aF;show (if a=b then zjz as bs else zdE a b)=_;rw [aR,aR,zbo,ih (by simpa using hl) (fun q hq=>ha q (aj _ hq)) (fun q hq=>hb q (aj _ hq))];by_cases e:a=b
   ·rw [if_pos e,if_pos (by rw [e])]
   ·rw [if_neg e,if_neg (fun z=>e (zc9 hp (pa.1.trans pb.1.symm) pa.2 pb.2 z))];exact zdV hp (pa.1.trans pb.1.symm) pa.2 pb.2
def zby (H:Hp):List Addr→List (List (List Int))→Prop:=Paired fun a qs=>∃ rs:List Addr,H a=some (.tup (rs.map V.ref))∧zaS H rs qs
theorem zby.same {H H':Hp} (s:zA H H') {as:List Addr} {mI:List (List (List Int))} (h:zby H as mI):zby H' as mI:=bp (fun _ _ ⟨rs,z1,z2⟩=>⟨rs,s _ _ z1,z2.same s⟩) h
end My
end
section
namespace My
open PySem L2 PyProof.Rows Srt
section
variable {p:Int} {k T:Nat} {pl:List Int} {rows:List (List (Option Int))}
def cmn (p:Int) (pl:List Int) (rows:List (List (Option Int))) (qs:List (List Int)):List Nat:=(bg pl.length).filter fun i=>(rows.zip qs).all fun z=>zaz p pl z.1 z.2 i
structure JN (p:Int) (k:Nat) (pl:List Int) (T:Nat) (rows:List (List (Option Int))) (qs:List (List Int)):Prop where
 len:qs.length=rows.length
 isp:∀ q∈qs,IsP p k q
 many:T≤(cmn p pl rows qs).length
theorem zdf {qs:List (List Int)} {i:Nat}:i∈cmn p pl rows qs↔i < pl.length∧∀ z∈rows.zip qs,zaz p pl z.1 z.2 i=true:=by
 unfold cmn;rw [bN,bF,bH]
theorem zla (qs:List (List Int)):(cmn p pl rows qs).Nodup:=fI.filter _
theorem zip_get {α β:Type} {as:List α} {bs:List β} {l:Nat} {a:α} {b:β} (ha:as[l]? = some a) (hb:bs[l]? = some b):(a,b)∈as.zip bs:=by
 refine aH (i:=l) ?_;rw [eY];exact⟨ha,hb⟩
theorem zmL {qs:List (List Int)} {ms:List Int} (J:JS p k pl T rows (qs,ms)) (i:Nat):(i:Int)∈ms↔i∈cmn p pl rows qs:=by
 rw [zdf];constructor
 ·intro h;obtain⟨j,hj,hl⟩:=J.rg _ h;have:i=j:=by lia
  subst this;refine⟨hl,fun z hz=>?_⟩;obtain⟨l,uz⟩:=dM hz;rw [eY] at uz;exact (J.mem i hl).mp h l z.1 z.2 uz.1 uz.2
 ·rintro⟨hl,h⟩;exact (J.mem i hl).mpr fun l row q h1 h2=>h (row,q) (zip_get h1 h2)
theorem zoh {qs:List (List Int)} {ms:List Int} (J:JS p k pl T rows (qs,ms)) (m6:rows≠[]):JN p k pl T rows qs:=by
 refine⟨J.len,J.isp,?_⟩;have h1:=J.many m6;have h2:(ms.map Int.toNat).Nodup:=bQ.mpr (cK (fun {a b} ha hb oC e=>by
  obtain⟨i,rfl,_⟩:=J.rg a ha;obtain⟨j,rfl,_⟩:=J.rg b hb;exact oC #[O]) J.nd)
 have h3:=eg h2 (l₂:=cmn p pl rows qs) fun i hi=>by
  obtain⟨z,hz,rfl⟩:=az.mp hi;obtain⟨j,rfl,_⟩:=J.rg z hz;exact (zmL J j).mp hz
 rw [ae] at h3;exact aV h1 h3
theorem zgN {rows:List (List (Option Int))} {row:List (Option Int)} {qs:List (List Int)} {q:List Int} (h:qs.length=rows.length):(rows++[row]).zip (qs++[q])=rows.zip qs++[(row,q)]:=by
 rw [List.zip_append h.symm];rfl
theorem zmi {row:List (Option Int)} {qs:List (List Int)} {q:List Int} (h:JN p k pl T (rows++[row]) (qs++[q])):JN p k pl T rows qs:=by
 have hl:qs.length=rows.length:=by simpa using h.len
 refine⟨hl,fun x hx=>h.isp x (aP.mpr (.inl hx)),aV h.many ?_⟩;refine eg (zla _) fun i hi=>?_
 rw [zdf] at hi ⊢;refine⟨hi.1,fun z hz=>hi.2 z ?_⟩;rw [zgN hl];exact aP.mpr (.inl hz)
theorem zmj {row:List (Option Int)} {qs:List (List Int)} {ms q:List Int} (J:JS p k pl T rows (qs,ms)) (hr:row.length=pl.length) (h:JN p k pl T (rows++[row]) (qs++[q])):IsP p k q∧T≤hits p q (mw pl (zZ ms row)):=by
 refine⟨h.isp q #[M],aV h.many ?_⟩;rw [← zdY (by rw [zbx]; exact hr)];have hn:((cmn p pl (rows++[row]) (qs++[q])).map fun i:Nat=>(i:Int)).Nodup:=bQ.mpr (kj (fun {a b} oC e=>oC #[O]) (zla _));have:=eg hn (l₂:=zaK p pl (zZ ms row) q pl.length) fun z hz=>by
  obtain⟨i,hi,rfl⟩:=az.mp hz;rw [zdf,zgN J.len] at hi;refine zdd.mpr ⟨i,rfl,hi.1,(zfc hr i).mpr ⟨(zmL J i).mpr (zdf.mpr ⟨hi.1,fun z hz=>hi.2 z (aP.mpr (.inl hz))⟩),hi.2 (row,q) #[M]⟩⟩
 rwa [ae] at this
theorem zmk (hp:1≤p) {as bs:List (List Int)} {a b:List Int} (ha:IsP p k a) (hb:IsP p k b) (h:nn p k as < nn p k bs):nn p k (as++[a]) < nn p k (bs++[b]):=by
 rw [zd0,zd0];have h1:=zfO hp ha;have h2:=zfO hp hb;have h3:(nn p k as+1)*p ^ k≤nn p k bs*p ^ k:=cC #[O] #[O];rw [Int.add_mul] at h3;lia
theorem zml (hp:1≤p) {out:List (List (List Int)×List Int)} {done:List (List (List Int))} {qs:List (List Int)} {L:List (List Int)} (f:List Int→List Int) (nd:(out.map (·.1)).Pairwise fun a b=>nn p k a < nn p k b) (hi:∀ o∈out,∀ q∈o.1,IsP p k q) (hd:∀ o∈out,∃ a x,o.1=a++[x]∧a∈done) (hq:∀ a∈done,nn p k a < nn p k qs) (hL:zfJ p k L) :
  ((out++L.map fun q=>(qs++[q],f q)).map (·.1)).Pairwise (fun a b=>nn p k a < nn p k b)∧∀ o∈out++L.map (fun q=>(qs++[q],f q)),∃ a x,o.1=a++[x]∧a∈done++[qs]:=by
 constructor
 ·rw [aw,bh];refine jk.mpr ⟨nd,bQ.mpr (kj (fun {a b} oC=>?_) hL.2),fun a ha b hb=>?_⟩
  ·show nn p k (qs++[a]) < nn p k (qs++[b]);rw [zd0,zd0];lia
  ·obtain⟨o,ho,rfl⟩:=az.mp ha;obtain⟨q,sT,rfl⟩:=az.mp hb;obtain⟨c,x,e,hc⟩:=hd o ho;have hx:=hi o ho x (by rw [e]; simp);show nn p k o.1 < nn p k (qs++[q]);rw [e];exact zmk hp hx (hL.1 q sT) (hq c hc)
 ·intro o ho;rcases aP.mp ho with h | h
  ·obtain⟨a,x,e,ha⟩:=hd o h;exact⟨a,x,e,aP.mpr (.inl ha)⟩
  ·obtain⟨q,_,rfl⟩:=az.mp h;exact⟨qs,q,rfl,#[M]⟩
theorem zmm {α:Type} {R:α→α→Prop} {l:List α} {i:Nat} {x:α} (h:l.Pairwise R) (hx:l[i]? = some x):∀ a∈l.take i,R a x:=fun a ha=>by
 obtain⟨j,hj⟩:=dM ha;rw [List.getElem?_take] at hj;split at hj
 ·next ml =>
  obtain⟨h1,e1⟩:=ak.mp hj;obtain⟨h2,e2⟩:=ak.mp hx;rw [← e1,← e2];exact dL.mp h j i h1 h2 ml
 ·cases hj
theorem znF {row:List (Option Int)} {ss out:List (List (List Int)×List Int)} (hr:row.length=pl.length) (hJ:∀ s∈ss,JS p k pl T rows s) (hc:∀ qs,JN p k pl T rows qs→qs∈ss.map (·.1)) (ho:∀ s∈ss,∀ q,IsP p k q→T≤hits p q (mw pl (zZ s.2 row))→s.1++[q]∈out.map (·.1)):∀ qs,JN p k pl T (rows++[row]) qs→qs∈out.map (·.1):=fun qs h=>by
 obtain⟨as,a,rfl⟩:∃ as a,qs=as++[a]:=by
  by_cases hq:qs = []
  ·have:=h.len;rw [hq] at this;simp at this
  ·exact⟨_,_,(List.dropLast_concat_getLast hq).symm⟩
 obtain⟨⟨qs,ms⟩,hs,e⟩:=az.mp (hc as (zmi h));have e:qs=as:=e;subst e;obtain⟨h1,h2⟩:=zmj (hJ _ hs) hr h;exact ho _ hs a h1 h2
theorem zgO {mI:List (List (List Int))} (h:mI.Pairwise fun a b=>nn p k a < nn p k b):mI.Nodup:=h.imp (fun {a b} oC e=>by rw [e] at oC; lia)
theorem zew {α:Type} {f:α→Int}:∀ {as bs:List α},(as.Pairwise fun a b=>f a < f b)→(bs.Pairwise fun a b=>f a < f b)→(∀ q,q∈as↔q∈bs)→as=bs
 | [],[],_,_,_=>rfl
 | [],b :: bs,_,_,h=>by
  have:=(h b).mpr aF;cases this
 | a :: as,[],_,_,h=>by
  have:=(h a).mp aF;cases this
 | a :: as,b :: bs,ha,hb,h=>by
  obtain⟨pa,ta⟩:=jZ.mp ha;obtain⟨pb,tb⟩:=jZ.mp hb;have e:a=b:=by
   rcases (au.mp ((h a).mp aF)) with e | ma
   ·exact e
   ·rcases (au.mp ((h b).mpr aF)) with e | mb
    ·exact e.symm
    ·have:=pb a ma;have:=pa b mb;lia
  subst e;rw [zew ta tb fun q=>?_];constructor
  ·intro hq;rcases au.mp ((h q).mp (aj _ hq)) with e | hm
   ·rw [e] at hq;have:=pa a hq;lia
   ·exact hm
  ·intro hq;rcases au.mp ((h q).mpr (aj _ hq)) with e | hm
   ·rw [e] at hq;have:=pb a hq;lia
   ·exact hm
end
end My
end
section
namespace My
open PySem L2 PyProof.Rows
section
variable {P:Program} {w:World} {K:ag} {mg:Str→Option Value} {base:Heap} {t:Adr}
theorem ziu (i:Int) (ms:List Int):inV (.int i) (ms.map V.int)=decide (i∈ms):=by
 rw [cQ,decide_eq_true_iff];unfold inV;rw [ip];constructor
 ·rintro⟨y,hy,e⟩;obtain⟨m,hm,rfl⟩:=az.mp hy;have:m=i:=by simpa [eqV] using e
  rw [← this];exact hm
 ·intro h;exact⟨.int i,az.mpr ⟨i,h,rfl⟩,by simp [eqV]⟩
def zfP (K:ag):Sp:=fun vs H Q _=>∃ (r a:Addr) (rw:List (Option Int)) (ms:List Int),vs = [.ref r,.ref a]∧H r=some (.lst (rw.map mF))∧H a=some (.lst (ms.map V.int))∧rw.length≤1000 ∧
 ∀ (l:Addr) (H':Hp),H l=none→zA H H'→H' l=some (.lst ((zZ ms rw).map mF))→Q (.ref l) H'
theorem zjA {ms:List Int} {rw:List (Option Int)} {i:Nat} {o:Option Int} (h:rw[i]? = some o):(zZ ms rw).take (i+1)=(zZ ms rw).take i++[if (i:Int)∈ms then o else none]:=take_snoc (zfM h)
theorem zgP:FnScope ["row","numbers"] ["row","numbers"] (zj zbw):=#[S]
theorem zgQ {fd:FuncData} (T:Txt K mg t) (F:Fun K "heard_at" "heard_at" zbw t.heard_at fd):FnOk P w K mg base CX0 1 t.heard_at fd ["row","numbers"] (zfP K):=by
 refine F.ok zgP (fun vs H Q E h=>?_) (fun l8 A outer s H vs Q E hr h=>?_)
 ·obtain⟨r,a,rw,ms,rfl,_⟩:=h;rfl
 ·obtain⟨r,a,rw,ms,rfl,sU,ha,hn,q⟩:=h;refine zbl ?_; intro zX;refine⟨_,#[zn,#[zO,#[zas,(CompSc.of (N':=["at","entry","numbers"]) (ix:=[none,none,some 1]) (zj zbw) ["row","numbers"] rfl rfl #[N]),#[zbt,#[zU,#[zU,#[za3]]]],(@zkd _ _ _ _ _ _ _ _ rfl T.enumerate_ #[ya,#[pvx,0]] (by rfl)),(fun _ _ _ _=>#[zaW,(K),2,#[zq,#[zl,0,(show (["at","entry","numbers"]:List Str).Nodup from #[N]),#[A]],#[zq,#[zl,1,(show (["at","entry","numbers"]:List Str).Nodup from #[N]),#[A]],#[zag]]]]),(fun _ _ _ _=>#[z8]),(fun _ _ _ _=>(@zjR _ _ _ _ _ _ _ _ #[zJ,#[zd8,(K)],#[pvx,0],#[pvx,2],(by with_unfolding_all rfl)] #[pvx,1] #[zdg]))]]],?_⟩;have qu:=bt;refine⟨_,rfl,r,_,rfl,lN.of sU,z9 (n:=rw.length) (fun i ys H'=>ys=((zZ ms rw).take i).map mF∧zA H H') ⟨rfl,fun _ _ e=>e⟩ ?_ ?_ ?_ ?_⟩
  ·rintro i ys H3 hi ⟨_,s3⟩;exact⟨_,mF rw[i],lN.of (s3 _ _ sU),by rw [ap,ao hi]; rfl⟩
  ·rintro ys H3 ⟨_,s3⟩;exact⟨_,lN.of (s3 _ _ sU),by rw [ae]; exact ah _⟩
  ·rintro zS zT zE i xx ys H3 H4 hi ⟨rfl,s3⟩ ⟨T,u,hT,rfl,rfl,hu⟩;obtain⟨o,rfl,ho⟩:=zdN (hu _ (lN.of (s3 _ _ sU)));have s4:=s3.trans (zf (o:=.tup [.int i,mF o]) hT);have hl:(((zZ ms rw).take i).map mF).length < sizeLine:=by rw [ae,aL]; lia
   refine gY2 (lX.of ze) ?_;refine⟨_,rfl,_,rfl,a,_,rfl,.inl (lN.of (s4 _ _ ha)),rfl,?_,_,rfl,?_⟩
   ·rw [bH];intro y hy;obtain⟨m,_,rfl⟩:=az.mp hy;rfl
   rw [zjA ho,aw,ziu];refine zbc (fun h=>⟨_,rfl,hl,?_,s4⟩) (fun h=>⟨hl,?_,s4⟩)
   ·rw [if_pos (of_decide_eq_true h)]; rfl
   ·rw [if_neg (fun z=>h (decide_eq_true z))]; rfl
  ·rintro ys H3 D ⟨rfl,s3⟩ hD;rw [aO (by rw [zbx]; exact ah _)];exact q D _ (s3.free hD) (s3.trans (zf hD)) ze
def SA0 (H:Hp):List Addr→List (List (List Int)×List Int)→Prop:=Paired fun b s=>∃ ka na rs,H b=some (.tup [.ref ka,.ref na])∧H ka=some (.tup (rs.map V.ref))∧zaS H rs s.1∧H na=some (.lst (s.2.map V.int))
theorem SA0.same {H H':Hp} (s:zA H H') {bs:List Addr} {ss:List (List (List Int)×List Int)} (h:SA0 H bs ss):SA0 H' bs ss:=bp (fun _ _ ⟨ka,na,rs,z1,z2,z3,z4⟩=>⟨ka,na,rs,s _ _ z1,s _ _ z2,z3.same s,s _ _ z4⟩) h
def SAt (lg:Addr) (H:Hp):List Addr→List (List (List Int)×List Int)→Prop:=Paired fun b s=>∃ ka na rs,H b=some (.tup [.ref ka,.ref na])∧H ka=some (.tup (rs.map V.ref))∧zaS H rs s.1∧H na=some (.lst (s.2.map V.int))∧na≠lg
theorem SAt.same {lg:Addr} {H H':Hp} (s:zA H H') {bs:List Addr} {ss:List (List (List Int)×List Int)} (h:SAt lg H bs ss):SAt lg H' bs ss:=bp (fun _ _ ⟨ka,na,rs,z1,z2,z3,z4,z5⟩=>⟨ka,na,rs,s _ _ z1,s _ _ z2,z3.same s,s _ _ z4,z5⟩) h
theorem SAt.zero {lg:Addr} {H:Hp} {bs:List Addr} {ss:List (List (List Int)×List Int)} (h:SAt lg H bs ss):SA0 H bs ss:=bp (fun _ _ ⟨ka,na,rs,z1,z2,z3,z4,_⟩=>⟨ka,na,rs,z1,z2,z3,z4⟩) h
theorem zbM {H:Hp} {a lg:Addr} {xs ys:List V} (h:H a=some (.tup xs)) (hl:H lg=some (.lst ys)):a≠lg:=fun e=>by rw [e,hl] at h; cases h
theorem SAt.hide {lg:Addr} {H:Hp} {bs:List Addr} {ss:List (List (List Int)×List Int)} {xs:List V} (h:SAt lg H bs ss) (hl:H lg=some (.lst xs)):SAt lg (hide H lg) bs ss:=bp (fun _ _ ⟨ka,na,rs,z1,z2,z3,z4,z5⟩=>⟨ka,na,rs,zac z1 (zbM z1 hl),zac z2 (zbM z2 hl),bp (fun _ _ z=>zac z (zbM z hl)) z3,zac z4 z5,z5⟩) h
theorem SAt.put {lg:Addr} {H:Hp} {bs:List Addr} {ss:List (List (List Int)×List Int)} {xs:List V} {o:HO} (h:SAt lg H bs ss) (hl:H lg=some (.lst xs)):SAt lg (lP H lg o) bs ss:=bp (fun _ _ ⟨ka,na,rs,z1,z2,z3,z4,z5⟩=>⟨ka,na,rs,by rw [zp (zbM z1 hl)]; exact z1,by rw [zp (zbM z2 hl)]; exact z2,z3.put hl,by rw [zp z5]; exact z4,z5⟩) h
def zeI (t:Adr) (K:ag):Sp:=fun vs H Q E=>∃ (c tt ra:Addr) (p:Int) (k:Nat) (T:Int) (pl:List Int) (nJ:List Addr) (rws:List (List (Option Int))),vs = [.ref c,.ref ra,.int T]∧zbh H c tt p k pl∧H ra=some (.lst (nJ.map V.ref))∧zer pl.length H nJ rws∧rws.length≤10∧pl.length≤16∧p∈zz∧pl.Nodup∧(∀ x∈pl,0≤x∧x < p)∧(∀ rw∈rws,∀ z,some z∈rw→0≤z∧z < p)∧1≤k∧k≤100∧rws≠[] ∧
 ((T < k∧∀ H',zA H H'→E (.ref t.TooFew) none H')∨∃ Tn:Nat,T=Tn∧k≤Tn∧∀ (l:Addr) (us:List Addr) (mI:List (List (List Int))) (H':Hp),H l=none→zA H H'→H' l=some (.lst (us.map V.ref))→us.length≤65536→zby H' us mI→(mI.Pairwise fun a b=>nn p k a < nn p k b)→(∀ qs,qs∈mI↔JN p k pl Tn rws qs)→Q (.ref l) H')
theorem zai:FnScope ["code","rows","t","starts","row","longer","known","numbers","heard","polynomial"] ["code","rows","t"] (zj za5):=#[S]
theorem zeJ {fd:FuncData} (T:Txt K mg t) (F:Fun K "joint_near" "joint_near" za5 t.joint_near fd):FnOk P w K mg base (CX1 P w) 6 t.joint_near fd ["code","rows","t"] (zeI t K):=by
 obtain⟨rE,pN,nV⟩:=T.f_heard_at;have sy:=zgQ (P:=P) (w:=w) (base:=base) T pN;obtain⟨pd,mO,mP⟩:=T.f_all_near;have nW:=zdA (P:=P) (w:=w) (base:=base) T mO;obtain⟨sV,pK,pL⟩:=T.f_fits;have sv:=zir (P:=P) (w:=w) (base:=base) T pK;refine F.okX zai (fun vs H Q E h=>?_) (fun l8 A outer s H vs Q E hr h=>?_)
 ·obtain⟨c,tt,ra,p,k,TI,pl,nJ,rws,rfl,_⟩:=h;rfl
 ·obtain⟨c,tt,ra,p,k,TI,pl,nJ,rws,rfl,hc,nL,tK,uu,hn,hp,o8,mT,pH,k0,k1,wz,q⟩:=h;refine zbl ?_; intro zX;refine⟨_,#[zg,#[zr,3,zai.nd,#[A],#[zY,#[ya,#[zbr,#[zd,#[zbr,#[zh]],#[ya,#[zaG,#[zcE],T.list_,jW,#[ya,#[zaG,#[zdr],T.range_,jb,#[ya,#[zy,#[zF],T.len_,cv,#[ya,#[zL,#[zbs],#[pvx,0],#[zi]]]]]]]]]]]]]],#[zg,#[zaD,gX,#[z6,#[pvx,1]],#[zl,4,zai.nd,#[A]],#[zg,#[zr,5,zai.nd,#[A],#[zY,#[zh]]],#[zg,#[zaD,gX,#[z6,#[pvx,3]],#[zbI,#[zq,#[zl,6,zai.nd,#[A]],#[zq,#[zl,7,zai.nd,#[A]],#[zag]]]],#[zg,#[zr,8,zai.nd,#[A],#[zH,sy,(hr.mono #[D]),T.m_heard_at,pN.kp,nV,#[zap],#[zd,#[pvx,4],#[ya,#[pvx,7]]]]],#[zn,#[zaD,gX,#[z6,#[zH,nW,(hr.mono #[D]),T.m_all_near,mO.kp,mP,(@zhk _ _ _ _ _ _ _ _ _ _ _ _ _ _ _),#[zd,#[pvx,0],#[zd,#[pvx,8],#[ya,#[pvx,2]]]]]],#[zl,9,zai.nd,#[A]],#[zn,#[zbW,#[zcB,bD,cL,cM,#[zbn],#[pvx,5],#[ya,#[zbr,#[zd,#[zm,(@zmd _),#[pvx,6],#[zbr,#[ya,#[pvx,9]]]],#[ya,#[zH,sv,(hr.mono #[D]),T.m_fits,pK.kp,pL,#[zap],#[zd,#[pvx,0],#[zd,#[pvx,8],#[ya,#[pvx,9]]]]]]]]]]]]]]]],#[zn,#[zr,3,zai.nd,#[A],#[pvx,5]]]]]],#[zn,#[zO,#[zas,(CompSc.of (N':=["known","numbers"]) (ix:=[none,none]) (zj za5) ["code","rows","t","starts","row","longer","known","numbers","heard","polynomial"] rfl rfl #[N]),#[zbt,#[zU,#[zU,#[za3]]]],#[z6,#[pvx,3]],(fun _ _ _ _=>#[zaW,(K),2,#[zq,#[zl,0,(show (["known","numbers"]:List Str).Nodup from #[N]),#[A]],#[zq,#[zl,1,(show (["known","numbers"]:List Str).Nodup from #[N]),#[A]],#[zag]]]]),(fun _ _ _ _=>#[z8]),(fun _ _ _ _=>#[pvx,0])]]]]],?_⟩;refine zg1 ?_; intro qZ qh;have qu:=bt;have rp:=zN hp;have rD:nJ.length=rws.length:=tK.length;have B3:2 ^ pl.length≤65536:=eL #[D] hn;refine⟨by show 0≤sizeLine; lia,fun ka hka=>?_⟩;have u1:=zf (o:=.tup []) hka;have f1:lP H ka (.tup []) ka=some (.tup []):=ze;generalize lP H ka (.tup [])=H1 at u1 f1 ⊢;have D6:=hc.same u1;refine⟨_,rfl,c,_,_,_,rfl,rfl,lX.of D6.1,rfl,tt,_,rfl,.inr (lX.of D6.2),_,rfl,fun r vE=>⟨r,_,rfl,ze,#[O],by rw [ae]; lia,fun na hna=>?_⟩⟩;have e0:(((pl.map V.int).length:Nat):Int).toNat=pl.length:=by rw [ae]; lia
  rw [e0];have u2:=(zf (o:=.rng 0 (((pl.map V.int).length:Nat):Int)) vE).trans (zf (o:=.lst ((zat 0 pl.length).map V.int)) hna);have f2:lP (lP H1 r (.rng 0 (((pl.map V.int).length:Nat):Int))) na (.lst ((zat 0 pl.length).map V.int)) na=some (.lst ((zat 0 pl.length).map V.int)):=ze;generalize lP (lP H1 r (.rng 0 (((pl.map V.int).length:Nat):Int))) na (.lst ((zat 0 pl.length).map V.int))=H2 at u2 f2 ⊢;refine⟨by show 2≤sizeLine; lia,fun b hb=>?_⟩;have u3:=zf (o:=.tup [.ref ka,.ref na]) hb;have f3:lP H2 b (.tup [.ref ka,.ref na]) b=some (.tup [.ref ka,.ref na]):=ze;generalize lP H2 b (.tup [.ref ka,.ref na])=H3 at u3 f3 ⊢;refine⟨by show 1≤sizeLine; lia,fun sa rm=>?_⟩;have u4:=zf (o:=.lst [.ref b]) rm;have f4:lP H3 sa (.lst [.ref b]) sa=some (.lst ([b].map V.ref)):=ze;generalize lP H3 sa (.lst [.ref b])=H4 at u4 f4 ⊢;have s4:=u1.trans (u2.trans (u3.trans u4));rcases q with ⟨ml,q⟩ | ⟨T',rfl,kT,q⟩
  ·refine⟨_,rfl,ra,rfl,⟨_,lN.of (s4 _ _ nL)⟩,zak (K:=K) (a:=ra) (xs:=nJ.map V.ref) (fun j σ H'=>j=0∧σ = [some (.ref c),some (.ref ra),some (.int TI),some (.ref sa),none,none,none,none,none,none]∧H'=H4) ⟨rfl,rfl,rfl⟩ (fun j σ H' _ ⟨_,_,e⟩=>by rw [e]; exact lN.of (s4 _ _ nL)) ?_ ?_⟩
   ·rintro zD zT j x σ H5 hx ⟨rfl,rfl,rfl⟩;obtain⟨rb,rfl,vI⟩:=zK hx;obtain⟨rw,oo,nN,oK⟩:=Paired.get tK vI;refine⟨by show 0≤sizeLine; lia,fun lg B4=>?_⟩;have u6:=zf (o:=.lst []) B4;generalize lP H5 lg (.lst [])=H6 at u6 ⊢;have f46:=u6 _ _ f4;refine⟨_,rfl,sa,rfl,⟨_,lN.of f46⟩,zak (K:=K) (a:=sa) (xs:=[b].map V.ref) (fun i σ H'=>i=0∧σ = [some (.ref c),some (.ref ra),some (.int TI),some (.ref sa),some (.ref rb),some (.ref lg),none,none,none,none]∧H'=H6) ⟨rfl,rfl,rfl⟩ (fun j σ H' _ ⟨_,_,e⟩=>by rw [e]; exact lN.of f46) ?_ ?_⟩
    ·rintro zD zT i x σ H7 hx ⟨rfl,rfl,rfl⟩;obtain⟨sb,rfl,mH⟩:=zK hx;have mH:sb=b:=(aG mH).symm;subst mH;have s7:=s4.trans u6;refine⟨sb,_,rfl,lX.of ((u4.trans u6) _ _ f3),rfl,_,_,rfl,_,_,rfl,rfl,?_⟩;refine⟨_,rfl,_,rfl,rb,na,rw,zat 0 pl.length,rfl,s7 _ _ nN,(u3.trans (u4.trans u6)) _ _ f2,#[O],fun hd H8 D7 s8 h8=>?_⟩;exact⟨_,rfl,_,rfl,_,rfl,c,tt,hd,p,k,TI,pl,zZ _ rw,rfl,hc.same (s7.trans s8),h8,by rw [zbx]; exact oK,hn,hp,o8,mT,zis (pH rw (aH oo)),k0,k1,.inl ⟨ml,fun H9 s9=>q H9 ((s7.trans s8).trans s9)⟩⟩
    ·rintro σ H7 ⟨h,_⟩;cases h
   ·rintro σ H5 ⟨h,_⟩;rw [ae,rD] at h;exact absurd (dq.mp h) wz
  have hS4:SA0 H4 [b] [([],zat 0 pl.length)]:=.cons ⟨ka,na,[],u4 _ _ f3,(u2.trans (u3.trans u4)) _ _ f1,.nil,(u3.trans u4) _ _ f2⟩ .nil;refine⟨_,rfl,ra,rfl,⟨_,lN.of (s4 _ _ nL)⟩,zak (K:=K) (a:=ra) (xs:=nJ.map V.ref) (fun j σ H'=>∃ (sa:Addr) (bs:List Addr) (ss:List (List (List Int)×List Int)) (e4 e5 e6 e7 e8 e9:Option V),σ = [some (.ref c),some (.ref ra),some (.int (T':Int)),some (.ref sa),e4,e5,e6,e7,e8,e9]∧zA H H'∧H' sa=some (.lst (bs.map V.ref))∧SA0 H' bs ss∧(∀ s∈ss,JS p k pl T' (rws.take j) s)∧((ss.map (·.1)).Pairwise fun a b=>nn p k a < nn p k b)∧(∀ qs,JN p k pl T' (rws.take j) qs→qs∈ss.map (·.1))∧ss.length≤65536)
   ⟨sa,[b],[([],zat 0 pl.length)],none,none,none,none,none,none,rfl,s4,f4,hS4,fun s hs=>by rw [aY.mp hs]; exact zmg,List.pairwise_singleton _ _,fun qs hq=>(by have h0:=hq.len; simp at h0; simp [h0]),by show 1≤65536; decide⟩ (fun j σ H' _ ⟨_,_,_,_,_,_,_,_,_,_,s',_⟩=>lN.of (s' _ _ nL)) ?_ ?_⟩
  ·rintro zD zT j x σ H5 hx ⟨sa,bs,ss,e4,e5,e6,e7,e8,e9,rfl,s5,ye,AZ,hJ,D8,xj,D9⟩;obtain⟨rb,rfl,vI⟩:=zK hx;obtain⟨rw,oo,nN,oK⟩:=Paired.get tK vI;have D':=pH rw (aH oo);have xw:rws.take (j+1)=rws.take j++[rw]:=take_snoc oo;have m6:rws.take j++[rw]≠[]:=by simp
   refine⟨by show 0≤sizeLine; lia,fun lg B4=>?_⟩;have Ea:=B4;have u6:=zf (o:=.lst []) B4;have f6:lP H5 lg (.lst []) lg=some (.lst []):=ze;generalize lP H5 lg (.lst [])=H6 at u6 f6 ⊢;have yf:=AZ.length;refine⟨_,rfl,sa,rfl,⟨_,lN.of (u6 _ _ ye)⟩,zak (K:=K) (a:=sa) (xs:=bs.map V.ref) (fun i σ H'=>∃ (us:List Addr) (out:List (List (List Int)×List Int)) (e6 e7 e8 e9:Option V),σ = [some (.ref c),some (.ref ra),some (.int (T':Int)),some (.ref sa),some (.ref rb),some (.ref lg),e6,e7,e8,e9]∧zA H5 H'∧H' lg=some (.lst (us.map V.ref))∧SAt lg H' us out∧(∀ s∈out,JS p k pl T' (rws.take j++[rw]) s)∧((out.map (·.1)).Pairwise fun a b=>nn p k a < nn p k b)∧(∀ o∈out,∃ a x,o.1=a++[x]∧a∈(ss.take i).map (·.1))∧∀ s∈ss.take i,∀ q,IsP p k q→T'≤hits p q (mw pl (zZ s.2 rw))→s.1++[q]∈out.map (·.1))
    ⟨[],[],e6,e7,e8,e9,rfl,u6,f6,.nil,fun s hs=>(by cases hs),.nil,fun o ho=>(by cases ho),fun s hs=>(by cases hs)⟩ (fun i σ H' _ ⟨_,_,_,_,_,_,_,s',_⟩=>lN.of (s' _ _ ye)) ?_ ?_⟩
   ·rintro zD zT i x σ H7 hx ⟨us,out,e6,e7,e8,e9,rfl,s7,A0,yg,A8,B5,hdo,B6⟩;obtain⟨sb,rfl,mH⟩:=zK hx;obtain⟨⟨qs,ms⟩,yR,ka,na,rs,z1,z2,z3,z4⟩:=Paired.get (AZ.same s7) mH;have hJi:=hJ _ (aH yR);refine⟨sb,_,rfl,lX.of z1,rfl,_,_,rfl,_,_,rfl,rfl,?_⟩;refine⟨_,rfl,_,rfl,rb,na,rw,ms,rfl,(s5.trans s7) _ _ nN,z4,#[O],fun hd H8 D7 s8 h8=>?_⟩;have s08:=(s5.trans s7).trans s8;refine⟨_,rfl,_,rfl,_,rfl,c,tt,hd,p,k,_,pl,zZ ms rw,rfl,hc.same s08,h8,by rw [zbx]; exact oK,hn,hp,o8,mT,zis D',k0,k1,.inr ⟨#[O],fun nl ns qN H9 BZ s9 h9 B7 _ B8 B9=>?_⟩⟩;have yQ:∀ a∈(ss.take i).map (·.1),nn p k a < nn p k qs:=by
     rw [jp];exact zmm D8 (by rw [ap,yR]; rfl)
    have uZ:∀ r,(∀ s∈out++(qN.take r).map (fun q=>(qs++[q],zaK p pl (zZ ms rw) q pl.length)),JS p k pl T' (rws.take j++[rw]) s)∧((out++(qN.take r).map (fun q=>(qs++[q],zaK p pl (zZ ms rw) q pl.length))).map (·.1)).Pairwise (fun a b=>nn p k a < nn p k b)∧∀ o∈out++(qN.take r).map (fun q=>(qs++[q],zaK p pl (zZ ms rw) q pl.length)),∃ a x,o.1=a++[x]∧a∈(ss.take i).map (·.1)++[qs]:=fun r=>by
     have h1:=zml #[O] (fun q=>zaK p pl (zZ ms rw) q pl.length) B5 (fun o ho=>(A8 o ho).isp) hdo yQ (show zfJ p k (qN.take r) from ⟨fun q hq=>B8.1 q (f' hq),B8.2.sublist (cf r qN)⟩);refine⟨fun s hs=>?_,h1⟩;rcases aP.mp hs with h | h
     ·exact A8 s h
     ·obtain⟨qq,hq,rfl⟩:=az.mp h;have hm:=(B9 qq).mp (f' hq);exact zmh hJi oK hm.1 #[O]
    have Eb:∀ r,(out++(qN.take r).map (fun q=>(qs++[q],zaK p pl (zZ ms rw) q pl.length))).length≤65536:=fun r=>aV (zgI hp o8 mT kT m6 (uZ r).1 (zgO (uZ r).2.1)) B3
    have A9:=s9 _ _ (s8 _ _ A0);have D0:hd≠lg:=fun e=>by rw [e,A0] at D7; cases D7
    have Ec:nl≠lg:=fun e=>by rw [e,s8 _ _ A0] at BZ; cases BZ
    have vJ:zA H5 (hide H9 lg):=fun a o e=>zac ((s7.trans (s8.trans s9)) _ _ e) (fun z=>by rw [z,Ea] at e; cases e)
    have s05:=s5.trans vJ;have hSo9:=(yg.same (s8.trans s9)).hide A9;have h9n:=zac h9 Ec;have h9h:=zac (s9 _ _ h8) D0;have B':zaS (hide H9 lg) ns qN:=bp (fun _ _ z=>zac z (zbM z A9)) B7;have z2':=zac (s9 _ _ (s8 _ _ z2)) (zbM (s9 _ _ (s8 _ _ z2)) A9);have z3':zaS (hide H9 lg) rs qs:=bp (fun _ _ z=>zac z (zbM z A9)) ((z3.same s8).same s9);have Ed:=B7.length;refine⟨nl,rfl,⟨_,lN.of h9⟩,zak (K:=K) (a:=nl) (xs:=ns.map V.ref) (fun r σ H'=>∃ (vs:List Addr) (e9:Option V),σ = [some (.ref c),some (.ref ra),some (.int (T':Int)),some (.ref sa),some (.ref rb),some (.ref lg),some (.ref ka),some (.ref na),some (.ref hd),e9]∧zA (hide H9 lg) H'∧H' lg=some (.lst (vs.map V.ref))∧SAt lg H' vs (out++(qN.take r).map (fun q=>(qs++[q],zaK p pl (zZ ms rw) q pl.length))))
     ⟨us,e9,rfl,zcj _ _,A9,by rw [dP,hX,bI]; exact yg.same (s8.trans s9)⟩ (fun r σ H' _ ⟨_,_,_,s',_⟩=>lN.of (s' _ _ h9n)) ?_ ?_⟩
    ·rintro zD zT r x σ Ha hx ⟨vs,Ee,rfl,wA,yh,xn⟩;obtain⟨rq,rfl,D5⟩:=zK hx;obtain⟨qq,AX,wB⟩:=Paired.get B' D5;have xE:=xn.length;have hcr:=Eb r;have Ef:=z3'.length;have vA:qs.length=(rws.take j).length:=hJi.len;rw [aL] at vA;have hjlt:=(ak.mp vI).1;refine⟨_,rfl,.inl ⟨rfl,_,lN.of yh⟩,_,rfl,_,rfl,by show 1≤sizeLine; lia,fun x1 yF=>?_⟩;have w1:=zf (o:=.tup [.ref rq]) yF;have g1:lP Ha x1 (.tup [.ref rq]) x1=some (.tup ([rq].map V.ref)):=ze;generalize lP Ha x1 (.tup [.ref rq])=Hb at w1 g1 ⊢;refine⟨ka,x1,_,_,rfl,rfl,w1 _ _ (wA _ _ z2'),g1,by rw [ae,Ef]; show _+1≤sizeLine; lia,#[M],fun x2 Hc w2 g2=>?_⟩;have Ba:=w1.trans w2;have sHc:=s05.trans (wA.trans Ba);refine⟨_,rfl,_,rfl,_,rfl,c,tt,hd,rq,p,k,pl,qq,zZ ms rw,rfl,hc.same sHc,(wA.trans Ba) _ _ h9h,by rw [zbx]; exact oK,(wA.trans Ba) _ _ wB,#[O],#[O],mT,#[O],fun fl Hd xl w3 g3=>?_⟩;refine⟨by show 2≤sizeLine; lia,fun pr AJ=>?_⟩;have w4:=zf (o:=.tup [.ref x2,.ref fl]) AJ;have g4:lP Hd pr (.tup [.ref x2,.ref fl]) pr=some (.tup [.ref x2,.ref fl]):=ze;generalize lP Hd pr (.tup [.ref x2,.ref fl])=He at w4 g4 ⊢;have Bb:=Ba.trans (w3.trans w4);have Bc:=Bb _ _ yh;refine⟨lg,_,_,rfl,rfl,Bc,by rw [ae]; lia,?_⟩;have Eg:hide H9 lg lg=none:=by unfold hide; rw [if_pos rfl]
     have Bd:fl≠lg:=fun e=>by
      have:=Ba _ _ yh;rw [← e,xl] at this;cases this
     have hSe:=xn.same Bb;refine⟨vs++[pr],_,rfl,zae (wA.trans Bb) Eg,by rw [ze,aw]; rfl,?_⟩;rw [take_snoc AX,aw,← bq];refine bR (hSe.put Bc) ⟨x2,fl,rs++[rq],?_,?_,?_,?_,Bd⟩
     ·rw [zp (zbM g4 Bc)]; exact g4
     ·have xb:=(w3.trans w4) _ _ g2;rw [zp (zbM xb Bc),xb,aw]
     ·exact zaS.put (bR (z3'.same (wA.trans Bb)) ((wA.trans Bb) _ _ wB)) Bc
     ·rw [zp Bd];exact w4 _ _ g3
    ·rintro σ Ha ⟨vs,Ee,rfl,wA,yh,xn⟩;rw [ae,Ed,aX] at xn;have h3:=uZ qN.length;rw [aX] at h3;refine⟨vs,_,_,_,_,_,rfl,vJ.trans wA,yh,xn,h3.1,h3.2.1,?_,?_⟩
     ·rw [take_snoc yR,aw];exact h3.2.2
     ·rw [take_snoc yR];intro s hs q hq hh;rw [aw,aP];rcases aP.mp hs with hs | hs
      ·exact .inl (B6 s hs q hq hh)
      ·rw [aY.mp hs] at hh ⊢;exact .inr (az.mpr ⟨_,az.mpr ⟨q,(B9 q).mpr ⟨hq,by have:T'≤hits p q (mw pl (zZ ms rw)):=hh; lia⟩,rfl⟩,rfl⟩)
   ·rintro σ H7 ⟨us,out,e6,e7,e8,e9,rfl,s7,A0,yg,A8,B5,hdo,B6⟩;refine⟨_,rfl,?_⟩;refine⟨lg,us,out,_,_,_,_,_,_,rfl,s5.trans s7,A0,yg.zero,by rw [xw]; exact A8,B5,?_,aV (zgI hp o8 mT kT m6 A8 (zgO B5)) B3⟩;rw [xw];rw [ae,yf,aX] at B6;exact znF oK hJ xj B6
  ·rintro σ H5 ⟨sa,bs,ss,e4,e5,e6,e7,e8,e9,rfl,s5,ye,AZ,hJ,D8,xj,D9⟩;rw [ae,rD,aX] at hJ xj;have yf:=AZ.length;refine⟨_,rfl,sa,rfl,⟨_,lN.of ye⟩,z9 (n:=bs.length) (fun i ys H'=>H'=H5∧∃ us:List Addr,ys=us.map V.ref∧us.length=i∧zby H5 us ((ss.take i).map (·.1))) ⟨rfl,[],rfl,rfl,.nil⟩ ?_ ?_ ?_ ?_⟩
   ·rintro i ys H6 hi ⟨rfl,_⟩;exact⟨_,.ref bs[i],lN.of ye,by rw [ap,ao hi]; rfl⟩
   ·rintro ys H6 ⟨rfl,_⟩;exact⟨_,lN.of ye,by rw [ae]; exact ah _⟩
   ·rintro zS zT zE i x ys H6 H7 hi ⟨rfl,us,rfl,pC,Ca⟩ ⟨rfl,hx⟩;obtain⟨sb,rfl,mH⟩:=zK (hx _ (lN.of ye));obtain⟨⟨qs,ms⟩,yR,ka,na,rs,z1,z2,z3,z4⟩:=Paired.get AZ mH;refine gY2 (lX.of z1) ?_;exact⟨_,rfl,by rw [ae]; lia,rfl,us++[ka],by rw [aw]; rfl,by rw [aB,pC]; rfl,by rw [take_snoc yR,aw]; exact bR Ca ⟨rs,z2,z3⟩⟩
   ·rintro ys H6 D ⟨rfl,us,rfl,pC,Ca⟩ hD;rw [yf,aX] at Ca;refine q D us _ _ (s5.free hD) (s5.trans (zf hD)) ze #[O] (Ca.same (zf hD)) D8 fun qs=>⟨fun h=>?_,xj qs⟩
    obtain⟨⟨qs',ms⟩,hs,e⟩:=az.mp h;have e:qs'=qs:=e;subst e;exact zoh (hJ _ hs) wz
end
section
variable {P:Program} {w:World} {K:ag} {mg:Str→Option Value} {base:Heap} {t:Adr}
def zjB (t:Adr) (K:ag):Sp:=fun vs H Q _=>∃ (c tt ra:Addr) (p:Int) (k:Nat) (T:Int) (pl:List Int) (nJ:List Addr) (rws:List (List (Option Int))),vs = [.ref c,.ref ra,.int T]∧zbh H c tt p k pl∧H ra=some (.lst (nJ.map V.ref))∧zer pl.length H nJ rws∧rws.length≤10∧pl.length≤16∧p∈zz∧pl.Nodup∧(∀ x∈pl,0≤x∧x < p)∧(∀ rw∈rws,∀ z,some z∈rw→0≤z∧z < p)∧1≤k∧k≤100∧rws≠[] ∧
 ((T < k∧∀ H',zA H H'→Q (.str "few") H')∨∃ Tn:Nat,T=Tn∧k≤Tn∧∀ (l:Addr) (us:List Addr) (mI:List (List (List Int))) (H':Hp),H l=none→zA H H'→H' l=some (.lst (us.map V.ref))→us.length≤65536→zby H' us mI→(mI.Pairwise fun a b=>nn p k a < nn p k b)→(∀ qs,qs∈mI↔JN p k pl Tn rws qs)→Q (.ref l) H')
theorem zbV:FnScope ["code","rows","t","found","e"] ["code","rows","t"] (zj zdc):=#[S]
theorem zjC {fd:FuncData} (T:Txt K mg t) (F:Fun K "_law_told" "_law_told" zdc t.l_told fd):FnOk P w K mg base CX0 7 t.l_told fd ["code","rows","t"] (zjB t K):=by
 obtain⟨qk,oq,nh⟩:=T.f_joint_near;have qO:=zeJ (P:=P) (w:=w) (base:=base) T oq;obtain⟨tL,rF,pO⟩:=T.f_l_word;have u5:=zjy (P:=P) (w:=w) (base:=base) T rF;refine F.ok zbV (fun vs H Q E h=>?_) (fun l8 A outer s H vs Q E hr h=>?_)
 ·obtain⟨c,tt,r,p,k,T',pl,nJ,rws,rfl,_⟩:=h;rfl
 ·obtain⟨c,tt,r,p,k,T',pl,nJ,rws,rfl,hc,nL,tK,uu,hn,hp,o8,mT,pH,k0,k1,wz,q⟩:=h;refine zbl ?_; intro zX;refine⟨_,#[zg,#[zr,3,zbV.nd,#[A],#[zdg]],#[zg,(@znp _ _ _ _ (4) _ _ _ _ _ _ _ _ rfl rfl rfl rfl T.x_SlipError T.sb zbV.nd rfl rfl (fun xe lM σ E hp=>(@zhm _ _ _ _ _ (@zi9 _ _ _ _ _ _ _ (3) _ zbV.nd rfl #[A] (@zhl _ _ _ _ _ _ _ _ _ _ _ _ _ _ _ _ _ _ qO (hr.mono #[D]) rfl T.m_joint_near oq.kp nh .nil hp #[zd,#[pvx,0],#[zd,#[pvx,1],#[ya,#[pvx,2]]]] #[D] (by rfl) (by rfl)) (by rfl) (by trivial)))) (fun e=>zn #[zr,3,zbV.nd,#[A],(@zkC _ _ _ _ _ _ _ _ _ _ _ _ u5 (RoomH.of (hr.mono #[D])) rfl T.m_l_word rF.kp pO #[ya,#[pvx,4]] #[D] (by rfl) (by rfl))]) #[D]),#[zn,#[zO,#[pvx,3]]]]],?_⟩;refine zg1 ?_; intro qZ qh;refine⟨_,rfl,_,rfl,_,rfl,c,tt,r,p,k,T',pl,nJ,rws,rfl,hc,nL,tK,uu,hn,hp,o8,mT,pH,k0,k1,wz,?_⟩;rcases q with ⟨h1,q⟩ | ⟨Tn,e,h1,q⟩
  ·refine .inl ⟨h1,fun H1 s1=>⟨_,rfl,T.kw_TooFew.sl,fun e he=>?_⟩⟩;refine⟨_,rfl,e,_,_,_,_,_,_,_,_,_,_,_,0,"few",rfl,ze,T.kw_TooFew,rfl,rfl,#[D],#[D],rfl,fun H' s'=>?_⟩;exact⟨_,rfl,q H' (s1.trans ((zf he).trans s'))⟩
  ·exact .inr ⟨Tn,e,h1,fun l us mI H' hl s' h' hz hT hP hm=>⟨_,rfl,q l us mI H' hl s' h' hz hT hP hm⟩⟩
end
section
variable {P:Program} {w:World} {K:ag} {mg:Str→Option Value} {base:Heap} {t:Adr}
theorem zlb (xs:List V) (i:Nat):zdh xs (some (i:Int)) none=xs.drop i:=by
 unfold zdh;rw [HT.sIx_nat,HT.sIx_none];by_cases h:i≤xs.length
 ·rw [fX h];exact aO (by rw [ck]; exact ah _)
 ·rw [Nat.min_eq_right #[O],cr (ah _),cr #[O]];simp
theorem zbm:FnScope ["some","many","found","at"] ["some","many"] (zj za1):=#[S]
theorem zcI:∀ (m:Nat) {fd:FuncData} (T:Txt K mg t) (F:Fun K "_law_choices" "_law_choices" za1 t.l_choices fd),FnOk P w K mg base CX0 (m+1) t.l_choices fd ["some","many"] (zk1 K m):=by
 intro m;induction m with
 | zero=>exact fun {fd} T F=>F.ok zbm (fun vs H Q E h=>h.elim) (fun l8 A outer s H vs Q E hr h=>h.elim)
 | succ m ih =>
  intro fd T F;obtain⟨ou,mC,mE⟩:=T.f_l_choices;have nB:=ih T mC;refine F.ok zbm (fun vs H Q E h=>?_) (fun l8 A outer s H vs Q E hr h=>?_)
  ·obtain⟨a,ns,rfl,_⟩:=h;rfl
  obtain⟨a,ns,rfl,hS,hn,hm,q⟩:=h;refine⟨_,#[zg,#[zbi,#[zJ,#[zcf],#[pvx,1],#[zi],(zad _)],#[zn,#[zO,#[zY,#[ya,#[zY,#[zh]]]]]],#[zaw]],#[zg,#[zr,2,zbm.nd,#[A],#[zY,#[zh]]],#[zg,#[zaD,bA,#[zaF,T.range_,#[ya,#[zy,#[zF],T.len_,cv,#[ya,#[pvx,0]]]]],#[zl,3,zbm.nd,(dJ rfl)],#[zn,#[zbW,#[zcB,bD,PySem.F.slot_list_extend,PySem.F.type_list_extend,(@ziJ _),#[pvx,2],#[ya,#[zas,(CompSc.of (N':=["one","some","at"]) (ix:=[none,some 0,some 3]) (zj za1) ["some","many","found","at"] rfl rfl #[N]),#[zaE],#[z6,#[zH,nB,(hr.mono (ah _)),T.m_l_choices,mC.kp,mE,#[zap],#[zd,#[zcT,zdK,#[pvx,0],#[zdJ,#[zm,#[zR],#[pvx,3],#[zi]]],#[zdI]],#[ya,#[zm,#[zbq],#[pvx,1],#[zi]]]]]],(fun _ _ _ _=>#[zl,0,(show (["one","some","at"]:List Str).Nodup from #[N]),#[A]]),(fun _ _ _ _=>#[z8]),(fun _ _ _ _=>#[zm,#[zbZ],#[zY,#[ya,#[zL,#[zbu,(K)],#[pvx,1],#[pvx,2]]]],#[pvx,0]])]]]]]],#[zn,#[zO,#[pvx,2]]]]]],?_⟩;have qu:=bt;have r0:zA H H:=fun _ _ e=>e
  refine⟨_,rfl,rfl,_,rfl,zbc (fun h0=>?_) (fun h0=>?_)⟩
  ·have h0:(m:Int)=0:=by
    have:=of_decide_eq_true h0;injection this
   have h0:m=0:=by lia
   subst h0;refine⟨bo _,fun L0 DU=>⟨by show 1≤sizeLine; lia,fun l hl=>?_⟩⟩;have u0:=zf (o:=.lst []) DU;refine q l [L0] [[]] _ (u0.free hl) (u0.trans (zf hl)) ze (.cons ((zf hl) _ _ ze) .nil) (Nat.one_le_two_pow) fun c=>?_
   rw [aY,dq];exact⟨fun e=>by subst e; exact⟨fM _,rfl⟩,fun e=>e.2⟩
  ·have h0:m≠0:=fun z=>h0 (decide_eq_true (by rw [z]; rfl))
   cases m with
   | zero=>exact absurd rfl h0
   | succ m =>
   refine⟨bo _,fun D hD=>?_⟩;have s0:=zf (o:=.lst []) hD;have B3:2 ^ ns.length≤65536:=aV (eL #[D] hn) #[D];refine⟨_,rfl,a,_,rfl,.inl (s0.seq hS),_,rfl,by rw [ae]; lia,by rw [ae]; lia,?_⟩;rw [ae,bf];refine za7 (lo:=0) (n:=ns.length) (fun i σ H'=>∃ (e3:Option V) (ls:List Addr) (cs:List (List Int)),σ = [some (.ref a),some (.int ((m+1:Nat):Int)),some (.ref D),e3]∧zA H H'∧H' D=some (.lst (ls.map V.ref))∧zeG (hide H' D) ls cs∧cs.length+2 ^ (ns.length - i)≤2 ^ ns.length ∧
    ∀ c,c∈cs↔∃ (j:Nat) (x:Int) (c':List Int),j < i∧ns[j]? = some x∧c=x :: c'∧c'.Sublist (ns.drop (j+1))∧c'.length=m)
    ⟨none,[],[],rfl,s0,ze,.nil,#[M],fun c=>by simp⟩ ?_ ?_
   ·rintro zD zT i σ H1 hi ⟨e3,ls,cs,rfl,s1,Cb,hI,lT,mB⟩;have v7:=hI.length;obtain⟨x,hx⟩:∃ x,ns[i]? = some x:=⟨ns[i]'hi,#[M]⟩;have Eh:atI (ns.map V.int) (0+(i:Int))=some (.int x):=by rw [dg]; exact zaV (by rw [ap,hx]; rfl)
    have em:((m+1:Nat):Int) - 1=(m:Int):=by lia
    have ec:(0+(i:Int))+1=((i+1:Nat):Int):=by lia
    have xn:=s1.seq hS;refine⟨_,rfl,.inl ⟨rfl,_,lN.of Cb⟩,_,rfl,_,rfl,_,_,rfl,rfl,_,rfl,a,_,rfl,xn,fun z hz=>?_⟩;rw [ec,zlb,← jq];have v1:=zf (o:=.lst ((ns.drop (i+1)).map V.int)) hz;refine⟨_,rfl,_,_,rfl,rfl,z,ns.drop (i+1),by show [V.ref z,V.int (((m+1:Nat):Int) - 1)]=_; rw [em],lN.of ze,by rw [ck]; lia,#[O],fun l ls' cs' H3 hl s3 uY hI' Be u7=>?_⟩;have vH:=v1.trans s3;have B2:=vH _ _ Cb;have Ei:=hI'.length;rw [ck] at Be;have hpow:2 ^ (ns.length - i)=2*2 ^ (ns.length - (i+1)):=by
     have:ns.length - i=ns.length - (i+1)+1:=by lia
     rw [this,jV];lia
    refine⟨l,rfl,⟨_,lN.of uY⟩,z9 (n:=ls'.length) (fun j ys H'=>zA H3 H'∧∃ us:List Addr,ys=us.map V.ref∧zeG (hide H' D) us ((cs'.take j).map (x :: ·))) ⟨fun _ _ e=>e,[],rfl,.nil⟩ ?_ ?_ ?_ ?_⟩
    ·rintro j ys H4 hj ⟨s4,_⟩;exact⟨_,.ref ls'[j],lN.of (s4 _ _ uY),by rw [ap,ao hj]; rfl⟩
    ·rintro ys H4 ⟨s4,_⟩;exact⟨_,lN.of (s4 _ _ uY),by rw [ae]; exact ah _⟩
    ·rintro zS zT zE j y ys H4 H5 hj ⟨s4,us,rfl,mJ⟩ ⟨rfl,hy⟩;obtain⟨lo,rfl,ph⟩:=zK (hy _ (lN.of (s4 _ _ uY)));obtain⟨c',lR,hlc⟩:=Paired.get hI' ph;have xj:=(u7 c').mp (aH lR);have pC:=mJ.length;rw [ae,aL] at pC;refine gY ⟨_,rfl,_,rfl,a,_,_,.int x,rfl,rfl,(vH.trans s4).seq xn,Eh,by show 1≤sizeLine; lia,fun b hb=>?_⟩;have v5:=zf (o:=.lst [.int x]) hb;refine⟨_,rfl,b,lo,[.int x],c'.map V.int,rfl,rfl,ze,v5 _ _ (s4 _ _ hlc),by rw [ae,xj.2]; show 1+m≤sizeLine; lia,fun l2 n8=>⟨by rw [ae]; lia,s4.trans (v5.trans (zf n8)),us++[l2],by rw [aw]; rfl,?_⟩⟩;rw [take_snoc lR,aw];have Ej:l2≠D:=fun e=>by
      rw [e,v5 _ _ (s4 _ _ B2)] at n8;cases n8
     refine bR (mJ.same (zdk (v5.trans (zf n8)))) (zac ?_ Ej);rw [ze];rfl
    ·rintro ys H4 Dc ⟨s4,us,rfl,mJ⟩ hDc;rw [Ei,aX] at mJ;have pC:=mJ.length;rw [ae] at pC;have v6:=zf (o:=.lst (us.map V.ref)) hDc;have h4D:=s4 _ _ B2;have xm:D≠Dc:=zw h4D hDc;refine⟨D,Dc,ls.map V.ref,us.map V.ref,rfl,rfl,v6 _ _ h4D,ze,by rw [ae,ae]; lia,?_⟩;refine⟨_,ls++us,cs++cs'.map (x :: ·),rfl,?_,?_,?_,?_,fun c=>?_⟩
     ·exact zae (s1.trans (vH.trans (s4.trans v6))) hD
     ·rw [ze,aw]
     ·rw [zkp];have t1:zA (hide H1 D) (hide (lP H4 Dc (.lst (us.map V.ref))) D):=zdk (vH.trans (s4.trans v6));have t2:zA (hide H4 D) (hide (lP H4 Dc (.lst (us.map V.ref))) D):=zdk v6;exact zcH (hI.same t1) (mJ.same t2)
     ·rw [aB,ae];lia
     ·rw [aP,mB c,az];constructor
      ·rintro (⟨j,x',c',h1,h2,h3,h4,h5⟩ | ⟨c',h1,rfl⟩)
       ·exact⟨j,x',c',#[O],h2,h3,h4,h5⟩
       ·obtain⟨h2,h3⟩:=(u7 c').mp h1;exact⟨i,x,c',#[O],hx,rfl,h2,h3⟩
      ·rintro⟨j,x',c',h1,h2,h3,h4,h5⟩;by_cases hj:j < i
       ·exact .inl ⟨j,x',c',hj,h2,h3,h4,h5⟩
       ·have:j=i:=by lia
        subst this;rw [hx] at h2;cases h2;exact .inr ⟨c',(u7 c').mpr ⟨h4,h5⟩,h3.symm⟩
   ·rintro σ H1 ⟨e3,ls,cs,rfl,s1,Cb,hI,lT,mB⟩;refine⟨_,rfl,q D ls cs H1 hD s1 Cb (hI.same (zcj H1 D)) (aV (fK _ _) lT) fun c=>?_⟩;rw [mB c,zjq]
end
end My
end
section
namespace My
open PySem L2 PyProof.Rows Srt
section
variable {p:Int} {k T:Nat} {pl:List Int} {rws:List (List (Option Int))}
def zaU (rws:List (List (Option Int))) (i:Nat):Bool:=rws.all fun rw=>(rw[i]?.getD none).isSome
def bL (rws:List (List (Option Int))) (n:Nat):List Int:=((bg n).filter (zaU rws)).map fun (j:Nat)=>(j:Int)
theorem zmn {n:Nat}:bL rws (n+1)=bL rws n++if zaU rws n=true then [(n:Int)] else []:=by
 unfold bL;rw [iD,bV,aw];congr 1;by_cases h:zaU rws n=true
 ·rw [if_pos h]; simp [h]
 ·rw [if_neg h]; simp [h]
theorem zlc (rws:List (List (Option Int))) (n:Nat):(bL rws n).length≤n:=by
 unfold bL;rw [ae];have:=cj (zaU rws) (bg n);rw [dI] at this;exact this
theorem zcQ {α:Type} {f g:α→Bool} {l:List α} (h:∀ x∈l,f x=true→g x=true):l.filter f=(l.filter g).filter f:=by
 rw [gB];refine fw fun x hx=>?_
 by_cases hf:f x=true
 ·rw [hf,h x hx hf]; rfl
 ·have:f x=false:=by simpa using hf
  rw [this]; rfl
theorem zhB {rw:List (Option Int)} (h:rw∈rws) (n:Nat):(bL rws n).Sublist (zaH rw n):=by
 unfold bL zaH;refine List.Sublist.map _ ?_;rw [zcQ (f:=zaU rws) (g:=fun j=>(rw[j]?.getD none).isSome) fun i _ hi=>bH.mp hi rw h];exact gf
def tnL (p:Int) (pl:List Int) (rws:List (List (Option Int))) (ch:List Int):List (List Int):=rws.map fun rw=>thr p (ch.map (zfK pl rw))
theorem ziv {α β:Type} {as:List α} {bs:List β} (h:bs.length=as.length) {a:α} (ha:a∈as):∃ b,(a,b)∈as.zip bs:=by
 obtain⟨i,hi⟩:=dM ha;have hl:=(ak.mp hi).1;exact⟨bs[i]'#[O],zip_get hi (ao _)⟩
theorem zfd {rw:List (Option Int)} {q:List Int} {i:Nat} (h:zaz p pl rw q i=true):(rw[i]?.getD none).isSome=true:=by
 unfold zaz at h;split at h
 ·next x y h1 h2=>rw [h2]; rfl
 ·cases h
theorem zjD (hp:p∈zz) (hl:∀ rw∈rws,rw.length=pl.length) (hP:∀ rw∈rws,Pts p (mw pl rw)) (hk:k≤T) {qs:List (List Int)} (h:JN p k pl T rws qs):∃ ch:List Int,ch.Sublist (bL rws pl.length)∧ch.length=k∧qs=tnL p pl rws ch:=by
 have hm:=h.many;have qJ:(cmn p pl rws qs).Sublist ((bg pl.length).filter (zaU rws)):=by
  unfold cmn;rw [zcQ (g:=zaU rws) fun i _ hi=>?_]
  ·exact gf
  ·refine bH.mpr fun rw oo=>?_
   obtain⟨q,hq⟩:=ziv h.len oo;exact zfd (bH.mp hi _ hq)
 have oD:(((cmn p pl rws qs).take k).map fun (j:Nat)=>(j:Int)).Sublist (bL rws pl.length):=((cf _ _).trans qJ).map _;refine⟨_,oD,by rw [ae,aL]; lia,?_⟩;refine er fun l=>?_
 unfold tnL;rw [ap];cases hr:rws[l]? with
 | none=>rw [cE (by rw [h.len]; exact eX.mp hr)]; rfl
 | some rw =>
  have yK:=(ak.mp hr).1;have yi:=aH hr;have hq:qs[l]? = some (qs[l]'(by rw [h.len]; exact yK)):=ao _;rw [hq];show some _=some _;congr 1;have hi:=h.isp _ (aH hq);refine zkY hp (zcN (hl rw yi) (hP rw yi) (by rw [hl rw yi]; exact oD.trans (zhB yi _))) (by rw [hi.1,ae,ae,aL]; lia) hi.2 fun a ha=>?_
  obtain⟨z,hz,rfl⟩:=az.mp ha;obtain⟨j,hj,rfl⟩:=az.mp hz;have hj:=zdf.mp (f' hj);have hf:=hj.2 _ (zip_get hr hq);unfold zaz at hf;split at hf
  ·next x y h1 h2 =>
   have hf:=of_decide_eq_true hf;have h1:pl[j]? = some x:=h1;have h2:rw[j]? = some (some y):=h2;show zu p (pl[(j:Int).toNat]?.getD 0) _=(rw[(j:Int).toNat]?.getD none).getD 0;rw [bf,h1,h2];exact hf.symm
  ·cases hf
theorem zld (hp:p∈zz) (hl:∀ rw∈rws,rw.length=pl.length) (hP:∀ rw∈rws,Pts p (mw pl rw)) {ch:List Int} (hs:ch.Sublist (bL rws pl.length)) (hc:ch.length=k):(tnL p pl rws ch).length=rws.length∧∀ q∈tnL p pl rws ch,IsP p k q:=by
 refine⟨by unfold tnL; rw [ae],fun q hq=>?_⟩;obtain⟨rw,oo,rfl⟩:=az.mp hq;obtain⟨a1,a2,_⟩:=zg8 hp (zcN (hl rw oo) (hP rw oo) (by rw [hl rw oo]; exact hs.trans (zhB oo _)));exact⟨by rw [a1,ae]; exact hc,a2⟩
theorem zhC {qs:List (List Int)} (h:qs.length=rws.length):((bL rws pl.length).filter fun z=>((rws.zip qs).map fun w=>zaK p pl w.1 w.2 pl.length).all fun ms=>decide (z∈ms)).length=(cmn p pl rws qs).length:=by
 unfold bL cmn;rw [iE,ae];congr 1;have e:(bg pl.length).filter (fun i=>(rws.zip qs).all fun z=>zaz p pl z.1 z.2 i)=((bg pl.length).filter (zaU rws)).filter (fun i=>(rws.zip qs).all fun z=>zaz p pl z.1 z.2 i):=zcQ fun i _ hi=>bH.mpr fun rw oo=>by
  obtain⟨q,hq⟩:=ziv h oo;exact zfd (bH.mp hi _ hq)
 rw [e];refine fw fun i hi=>?_
 have qt:=bF.mp (bN.mp hi).1;show (((rws.zip qs).map fun w=>zaK p pl w.1 w.2 pl.length).all fun ms=>decide (((i:Nat):Int)∈ms))=_;rw [List.all_map];refine iY rfl fun w=>?_
 show decide ((i:Int)∈zaK p pl w.1 w.2 pl.length)=zaz p pl w.1 w.2 i;rw [cQ,decide_eq_true_iff,zdd];constructor
 ·rintro⟨j,hj,_,hf⟩;have:i=j:=by lia
  subst this;exact hf
 ·intro hf;exact⟨i,rfl,qt,hf⟩
end
theorem zfQ {p:Int} {k T:Nat} {pl:List Int} {rw:List (Option Int)} (hr:rw.length=pl.length) {qs:List (List Int)}:JN p k pl T [rw] qs↔∃ q,qs = [q]∧IsP p k q∧T≤hits p q (mw pl rw):=by
 have hc:∀ q,(cmn p pl [rw] [q]).length=hits p q (mw pl rw):=fun q=>by
  rw [← zdY hr];unfold cmn zaK;rw [ae];simp only [ff,j5,gI,List.all_nil,ly]
 constructor
 ·intro h;obtain⟨q,rfl⟩:∃ q,qs = [q]:=by
   have:=h.len
   match qs,this with
   | [q],_=>exact⟨q,rfl⟩
  exact⟨q,rfl,h.isp q #[M],by rw [← hc]; exact h.many⟩
 ·rintro⟨q,rfl,h1,h2⟩;exact⟨rfl,fun x hx=>by rw [aY.mp hx]; exact h1,by rw [hc]; exact h2⟩
theorem zle {p:Int} {k:Nat} (q:List Int):nn p k [q]=num p q:=by simp [nn,num]
theorem zjE {p:Int} {k T:Nat} {pl:List Int} {rw:List (Option Int)} (hr:rw.length=pl.length) {mI:List (List (List Int))} (hp:mI.Pairwise fun a b=>nn p k a < nn p k b) (hm:∀ qs,qs∈mI↔JN p k pl T [rw] qs) {ps:List (List Int)} (hR:zfJ p k ps) (hq:∀ q,q∈ps↔IsP p k q∧(T:Int)≤(hits p q (mw pl rw):Int)):mI.map (fun s=>s.headD [])=ps:=by
 refine zew (f:=num p) (bQ.mpr (cK (fun {a b} ha hb h=>?_) hp)) hR.2 fun q=>?_
 ·obtain⟨x,rfl,_⟩:=(zfQ hr).mp ((hm a).mp ha);obtain⟨y,rfl,_⟩:=(zfQ hr).mp ((hm b).mp hb);rw [zle,zle] at h;exact h
 ·rw [hq,az];constructor
  ·rintro⟨s,hs,rfl⟩;obtain⟨x,rfl,h1,h2⟩:=(zfQ hr).mp ((hm s).mp hs);exact⟨h1,by show (T:Int)≤(hits p x (mw pl rw):Int); lia⟩
  ·rintro⟨h1,h2⟩;exact⟨[q],(hm _).mpr ((zfQ hr).mpr ⟨q,rfl,h1,#[O]⟩),rfl⟩
theorem zlf (rws:List (List (Option Int))) (i:Nat):(!inV V.non (rws.map fun rw=>mF (rw[i]?.getD none)))=zaU rws i:=by
 unfold inV zaU;rw [List.any_map,iw];refine iY rfl fun rw=>?_
 show (!eqV (mF (rw[i]?.getD none)) V.non)=(rw[i]?.getD none).isSome;generalize rw[i]?.getD none=o;cases o <;> rfl
theorem znG (z:Int) (mo:List (List Int)):(!inV (V.bl false) (mo.map fun ms=>V.bl (decide (z∈ms))))=mo.all fun ms=>decide (z∈ms):=by
 unfold inV;rw [List.any_map,iw];refine iY rfl fun ms=>?_
 show (!eqV (V.bl (decide (z∈ms))) (V.bl false))=decide (z∈ms);generalize decide (z∈ms)=b;cases b <;> rfl
theorem zeG.same' {H H':Hp} {us:List Addr} {mo:List (List Int)} (h:zeG H us mo) (s:zA H H'):zeG H' us mo:=bp (fun _ _ z=>s _ _ z) h
def zhD (K:ag):Sp:=fun vs H Q _=>∃ (c tt ra:Addr) (p:Int) (k T:Nat) (pl:List Int) (nJ:List Addr) (rws:List (List (Option Int))),vs = [.ref c,.ref ra,.int (T:Int)]∧zbh H c tt p k pl∧H ra=some (.lst (nJ.map V.ref))∧zer pl.length H nJ rws∧rws.length≤10∧pl.length≤16∧p∈zz∧pl.Nodup∧(∀ x∈pl,0≤x∧x < p)∧(∀ rw∈rws,∀ z,some z∈rw→0≤z∧z < p)∧1≤k∧k≤5∧k≤T∧rws≠[] ∧
 ∀ (l:Addr) (us:List Addr) (mI:List (List (List Int))) (H':Hp),H l=none→zA H H'→H' l=some (.lst (us.map V.ref))→us.length≤65536→zby H' us mI→(mI.Pairwise fun a b=>nn p k a < nn p k b)→(∀ qs,qs∈mI↔JN p k pl T rws qs)→Q (.ref l) H'
end My
end
section
namespace PySem
open PyProof.Rows PyProof
section
variable {w:World} {prog:Program}
abbrev Tk1 (prog:Program) (w:World) (h:Heap) (ks:List Int) (a:Addr):Prop:=IsTupleKey (intKind prog w) h ks a
def zbz (prog:Program) (w:World) (h:Heap) (qs:List (List Int)) (a:Addr):Prop:=∃ o n rs,h.get? a=some o∧o.cls = .type "tuple"∧o.data = .seq (rs.map aE).toArray n∧Paired (fun b q=>Tk1 prog w h q b) rs qs
variable {s:Shared} {A:Around} {E:Value→Shared→Prop}
theorem zbz.typeIs {qs:List (List Int)} {a:Addr} (x:zbz prog w s.heap qs a):s.TypeIs (.ref a) "tuple":=let ⟨o,_,_,ho,hc,_⟩:=x; ⟨o,ho,hc⟩
theorem zlg {as bs:List Addr} (h:(as.map aE).toArray=(bs.map aE).toArray):as=bs:=(List.map_inj_right (f:=aE) fun a b e=>by injection e).mp (by simpa using h)
theorem zmo {h:Heap} {rs:List Addr} {x y:List (List Int)} (gx:Paired (fun b q=>Tk1 prog w h q b) rs x) (hy:Paired (fun b q=>Tk1 prog w h q b) rs y):x=y:=by
 induction gx generalizing y with
 | nil=>cases hy; rfl
 | cons h1 _ ih =>
  cases hy with
  | cons h2 t2=>rw [h1.inj h2,ih t2]
theorem zbz.inj {h:Heap} {a:Addr} {x y:List (List Int)} (hx:zbz prog w h x a) (hy:zbz prog w h y a):x=y:=by
 obtain⟨o,n,rs,ho,_,hd,hp⟩:=hx;obtain⟨o',n',rs',rT,_,sW,pB⟩:=hy
 (obtain rfl:o=o':=aG (ho.symm.trans rT))
 rw [hd] at sW;injection sW with h1 _
 obtain rfl:=zlg h1;exact zmo hp pB
def ziw (prog:Program) (w:World) (qs:List (List Int)):Int:=reduceHash (cD (qs.map (tupleKeyHash (intKind prog w))))
def zfR:List (List Int)→Nat
 | []=>0
 | q :: qs=>q.length+1+zfR qs
theorem zdo:∀ (as:List (List Int)) (q:List Int),zfR (as++[q])=zfR as+(q.length+1)
 | [],q=>by simp [zfR]
 | a :: as,q=>by
  show a.length+1+zfR (as++[q])=a.length+1+zfR as+(q.length+1);rw [zdo as q];lia
theorem zhE {qs:List (List Int)} {a:Addr} {Q:Int→Shared→Prop} (hu:A.units+1 < cLine) (hk:zbz prog w s.heap qs a) (h:Q (ziw prog w qs) { s with toks:=s.toks+(zfR qs+1) }):wpAny (model prog w) A (pyHash (.ref a)) Q E s:=by
 have hT:=hk.typeIs;obtain⟨o,n,rs,ho,_,hd,hi⟩:=hk;unfold pyHash; first | unfold pyHashByItsType | skip
 first | refine aa (wpAny_cRoomFor_or (.inr #[O]) ?_) | skip
 (refine aa (dE hT F.slot_tuple_hash.lookup ?_))
 (show wpAny _ _ (if (some (lB "tuple.__hash__") == some cw)=true then _ else _) Q E s)
 (rw [if_neg (by rw [beq_builtin_none]; exact aJ)])
 (refine aa (dE hT F.slot_tuple_hash.lookup ?_))
 (show wpAny _ _ (callSpecialIfBoundUnlessNone? (.ref a) "__hash__" _ >>= _) Q E s)
 (refine aa (wpAny_callSpecialIfBoundUnlessNone?_slot hT km (bj km hT F.entry_tuple_hash ?_ (F.args_tuple_hash_1 _))))
 (show wpAny _ _ (Builtin.Tuple.tupleItemsOf (.ref a) >>= _) _ _ s)
 (refine aa (gD ho hd ?_))
 refine aa ?_;rw [← gE];refine eI _
  (fun rest (b:Array Int) s'=>∃ done left ls,qs=done++left∧rest=ls.map aE∧Paired (fun b q=>Tk1 prog w s.heap q b) ls left∧b.toList=done.map (tupleKeyHash (intKind prog w))∧s' = { s with toks:=s.toks+zfR done })
  _ ?_ ?_ _ _ ⟨[],qs,rs,rfl,#[M],hi,rfl,rfl⟩
 ·rintro x rest b s' ⟨done,left,ls,rfl,hr,hl,hb,rfl⟩;cases hl with
  | nil=>cases hr
  | @cons c q ls left h1 uz =>
   rw [aR] at hr;obtain⟨rfl,rfl⟩:=d6 hr;refine aa (wpAny_pyHash_tuple (knd:=intKind prog w) (by simp only [cG]; exact hu) (show Tk1 prog w s.heap q c from h1) ?_)
   first
    | exact ai ⟨done++[q],left,ls,#[M],rfl,uz,by simp [hb],by simp [zdo,eP]⟩
    | exact aa (ai (ai ⟨done++[q],left,ls,#[M],rfl,uz,by simp [hb],by simp [zdo,eP]⟩))
 ·rintro b s' ⟨done,left,ls,rfl,hr,hl,hb,rfl⟩;cases hl with
  | cons=>cases hr
  | nil =>
  rw [bI] at h
  (show wpAny _ _ (retInt (cD b.toList)) _ _ _)
  rw [hb];refine wpAny_ret_mkInt ?_;show wpAny _ _ (if (decide (-(2:Int) ^ 63≤cD (done.map (tupleKeyHash (intKind prog w)))) && decide (cD (done.map (tupleKeyHash (intKind prog w))) < 2 ^ 63))=true then _ else _) Q E _;unfold ziw reduceHash at h;by_cases hr:(decide (-(2:Int) ^ 63≤cD (done.map (tupleKeyHash (intKind prog w)))) && decide (cD (done.map (tupleKeyHash (intKind prog w))) < 2 ^ 63))=true
  ·rw [if_pos hr];rw [if_pos hr] at h
   (exact ai (by simpa [eP] using h))
  ·rw [if_neg hr];rw [if_neg hr] at h
   (exact aa (cg (ai (by simpa [eP] using h))))
theorem zgR {x y:List (List Int)} {a b:Addr} {P:Fin→Shared→Prop} (hu:A.units < cLine) (hx:zbz prog w s.heap x a) (hy:zbz prog w s.heap y b) (h:P (.done (.ret (.bool (decide (x=y))))) s):wpAny (model prog w) A (Builtin.«tuple.__eq__» ⟨[.ref a,.ref b],[]⟩) P E s:=by
 have Ek:=hy.typeIs;obtain⟨oa,na,xs,hoa,_,hda,hia⟩:=hx;obtain⟨ob,nb,ys,Ap,_,uB,hib⟩:=hy
 (show wpAny _ _ (isInstance (.ref b) (.type "tuple") >>= _) _ _ s)
 (refine aa (cW Ek fR ?_))
 (simp only [dZ,aT,if_false])
 (refine aa (gD hoa hda ?_))
 (refine aa (gD Ap uB ?_))
 refine aa ?_;refine eI _
  (fun rest r s'=>r.1=none∧s'=s∧∃ x' y' Bf pD,rest=List.zip (Bf.map aE) (pD.map aE)∧Paired (fun b q=>Tk1 prog w s.heap q b) Bf x'∧Paired (fun b q=>Tk1 prog w s.heap q b) pD y'∧decide (x'=y')=decide (x=y)∧(Bf.length == pD.length)=(xs.length == ys.length))
  _ ?_ ?_ _ _ ⟨rfl,rfl,x,y,xs,ys,#[M],hia,hib,rfl,rfl⟩
 ·(rintro⟨u,v⟩ rest r s' ⟨hr,rfl,x',y',Bf,pD,hz,rY,uj,wC,lT⟩)
  cases rY with
  | nil=>simp at hz
  | @cons c1 k1 El x'' h1 Em =>
   cases uj with
   | nil=>simp at hz
   | @cons c2 k2 En y'' h2 Eo =>
    simp only [aR,ff,List.cons.injEq,Prod.mk.injEq] at hz
    (obtain⟨⟨rfl,rfl⟩,rfl⟩:=hz)
    refine aa (jY (knd:=intKind prog w) hu (show Tk1 prog w s'.heap k1 c1 from h1) (show Tk1 prog w s'.heap k2 c2 from h2) ?_);by_cases hk:k1=k2
    ·subst hk;rw [decide_eq_true rfl]
     (simp only [dZ,aT,if_false])
     (refine ai ⟨rfl,rfl,x'',y'',El,En,rfl,Em,Eo,?_,by simpa using lT⟩)
     rw [← wC];by_cases Ad:x''=y''
     ·simp [Ad]
     ·simp [Ad]
    ·rw [decide_eq_false hk]
     (simp only [Bool.not_false,if_true])
     (have hf:decide (x=y)=false:=by rw [← wC]; simp [hk])
     rw [hf] at h
     (exact aa (ai (ai (ai h))))
 ·(rintro⟨r1,r2⟩ s' ⟨hr,rfl,x',y',Bf,pD,hz,rY,uj,wC,lT⟩)
  simp only at hr;subst hr;refine ai ?_;have Ep:(xs.length == ys.length)=decide (x=y):=by
   rw [← wC,← lT];cases rY with
   | nil =>
    cases uj with
    | nil=>simp
    | cons _ _=>simp
   | cons _ _ =>
    cases uj with
    | nil=>simp
    | cons _ _=>simp at hz
  show P (.done (.ret (.bool ((xs.map aE).toArray.size == (ys.map aE).toArray.size)))) s';rw [am,am,ae,ae,Ep]; exact h
theorem zhF {x y:List (List Int)} {a b:Addr} {Q:Bool→Shared→Prop} (hu:A.units+1 < cLine) (hx:zbz prog w s.heap x a) (hy:zbz prog w s.heap y b) (h:Q (decide (x=y)) s):wpAny (model prog w) A (eqBool (.ref a) (.ref b)) Q E s:=by
 unfold eqBool
 try with_reducible refine bK ?_
 (show wpAny _ _ (if (aE a == aE b)=true then _ else _) Q E s)
 (by_cases oC:(aE a == aE b)=true)
 ·rw [if_pos oC]
  (have e:a=b:=by have:=eq_of_beq oC; injection this)
  subst e;obtain rfl:=hx.inj hy
  (exact aa (cg (ai (by simpa using h))))
 ·rw [if_neg oC]; exact aa (wpAny_richCompare_same_room (op:=.Eq) hx.typeIs hy.typeIs F.slot_tuple_eq
   (bj F.slot_tuple_eq hx.typeIs F.entry_tuple_eq (zgR (by simp only [cG]; exact hu) hx hy ⟨_,rfl,(fun e=>nomatch e),gO h⟩) (F.args_tuple_eq_2 _ _)) #[O])
theorem zjF {ks:List Int} {a:Addr} {Q:Bool→Shared→Prop} (hk:Tk1 prog w s.heap ks a) (h:Q true s):wpAny (model prog w) A (eqIsQuiet 7 (.ref a)) Q E s:=by
 have hT:=hk.typeIs
 (obtain⟨o,lS,n,ho,_,hd,hi⟩:=hk)
 unfold eqIsQuiet
 (refine aa (dE hT F.slot_tuple_eq.lookup ?_))
 (show wpAny _ _ (isInstance (.ref a) (.type "tuple") >>= _) _ _ s)
 (refine aa (cW hT fR ?_))
 (simp only [dZ,aT,if_false])
 (refine aa (cP ho hd ?_))
 refine aa ?_
 (show wpAny _ _ (forIn lS _ _) _ _ s)
 rw [← gE]
 (refine eI _ (fun rest r s'=>r.1=none∧s'=s∧∀ v∈rest,carriedByValue v=true) _ ?_ ?_ _ _ ⟨rfl,rfl,hi.byValue⟩)
 ·(rintro v rest r s' ⟨hr,rfl,oF⟩)
  (rw [eqIsQuiet_byValue _ (oF v aF)])
  refine aa (ai ?_)
  (simp only [dZ,aT,if_false])
  (exact ai ⟨rfl,rfl,fun u hu'=>oF u (aj _ hu')⟩)
 ·(rintro⟨r1,r2⟩ s' ⟨hr,rfl,_⟩)
  simp only at hr;subst hr;exact ai h
theorem zjG {qs:List (List Int)} {a:Addr} {Q:Bool→Shared→Prop} (hk:zbz prog w s.heap qs a) (h:Q true s):wpAny (model prog w) A (eqIsQuiet 8 (.ref a)) Q E s:=by
 have hT:=hk.typeIs;obtain⟨o,n,rs,ho,_,hd,hi⟩:=hk;unfold eqIsQuiet
 (refine aa (dE hT F.slot_tuple_eq.lookup ?_))
 (show wpAny _ _ (isInstance (.ref a) (.type "tuple") >>= _) _ _ s)
 (refine aa (cW hT fR ?_))
 (simp only [dZ,aT,if_false])
 (refine aa (cP ho hd ?_))
 refine aa ?_;show wpAny _ _ (forIn (rs.map aE).toArray _ _) _ _ s;rw [← gE];refine eI _ (fun rest r s'=>r.1=none∧s'=s∧∃ ls left,rest=ls.map aE∧Paired (fun b q=>Tk1 prog w s.heap q b) ls left) _ ?_ ?_ _ _ ⟨rfl,rfl,rs,qs,#[M],hi⟩
 ·rintro v rest r s' ⟨hr,rfl,ls,left,Er,hp⟩;cases hp with
  | nil=>cases Er
  | @cons c q ls left h1 pB =>
   rw [aR] at Er;obtain⟨rfl,rfl⟩:=d6 Er;refine aa (zjF (show Tk1 prog w s'.heap q c from h1) ?_)
   (simp only [dZ,aT,if_false])
   exact ai ⟨rfl,rfl,ls,left,rfl,pB⟩
 ·(rintro⟨r1,r2⟩ s' ⟨hr,rfl,_⟩)
  simp only at hr;subst hr;exact ai h
theorem zjH {h h':Heap} {qs:List (List Int)} {a d:Addr} {o:Obj} {es ep} (x:zbz prog w h qs a) (ho:h.get? d=some o) (hd:o.data = .dict es ep) (hs:be d h h'):zbz prog w h' qs a:=by
 obtain⟨o',n,rs,rT,hc,sW,hi⟩:=x;have m6:a≠d:=by
  rintro rfl
  (obtain rfl:o'=o:=aG (rT.symm.trans ho))
  (rw [hd] at sW; exact nomatch sW)
 exact⟨o',n,rs,(hs.2 a m6).trans rT,hc,sW,bp (fun b q z=>IsTupleKey.keeps z ho hd hs) hi⟩
def zmM (prog:Program) (w:World):HeapKind prog w (List (List Int)) where
 is:=zbz prog w
 hash:=ziw prog w
 draws:=fun qs=>zfR qs+1
 room:=fun A=>A.units+1 < cLine
 inj:=fun hx hy=>hx.inj hy
 keeps:=fun x ho hd hs=>zjH x ho hd hs
 pyHash:=fun hu hk h=>zhE hu hk h
 eqBool:=fun hu hx hy h=>zhF hu hx hy h
 quiet:=fun hk h=>zjG hk h
end
end PySem
end
section
namespace My
open PySem PySem.Spec L2 PyProof.Rows Srt
def za6 (H:Hp) (v:Value):List (List Int):=match v with
 | .ref a=>(match H a with
  | some (.tup xs)=>xs.map fun x=>(match x with
   | .ref b=>zcl H (.ref b)
   | _=>[])
  | _=>[])
 | _=>[]
theorem zfe {H:Hp} {a:Addr} {rs:List Addr} {qs:List (List Int)} (h:H a=some (.tup (rs.map V.ref))) (ht:zaS H rs qs):za6 H (.ref a)=qs:=by
 unfold za6;simp only [h];clear h;induction ht with
 | nil=>rfl
 | cons h _ ih =>
  rw [aR,aR,ih];show zcl H (.ref _) :: _=_;rw [zc6 h]
def zlh (v:Value):Addr:=match v with
 | .ref a=>a
 | _=>0
theorem zcR {α β γ:Type} {R:α→β→Prop} {f:γ→α} {g:γ→β}:∀ {l:List γ},(∀ x∈l,R (f x) (g x))→Paired R (l.map f) (l.map g)
 | [],_=>.nil
 | x :: l,h=>.cons (h x aF) (zcR fun y hy=>h y (aj _ hy))
theorem zoi {H:Hp} {as:List Addr} {mI:List (List (List Int))} (h:zby H as mI):(as.map fun a=>za6 H (.ref a))=mI:=by
 induction h with
 | nil=>rfl
 | cons h _ ih =>
  obtain⟨rs,h1,h2⟩:=h;rw [aR,ih,zfe h1 h2]
theorem zli {H:Hp} {as:List Addr} {mI:List (List (List Int))} (h:zby H as mI):∀ a∈as,∃ rs:List Addr,H a=some (.tup (rs.map V.ref))∧zaS H rs (za6 H (.ref a))∧za6 H (.ref a)∈mI:=by
 induction h with
 | nil=>intro a ha; cases ha
 | cons h _ ih =>
  intro a ha;rcases (au.mp ha) with rfl | ha
  ·obtain⟨rs,h1,h2⟩:=h;rw [zfe h1 h2];exact⟨rs,h1,h2,aF⟩
  ·obtain⟨rs,h1,h2,h3⟩:=ih a ha;exact⟨rs,h1,h2,aj _ h3⟩
theorem zfS:∀ {rs:List Addr} {us:List Value},zG (rs.map V.ref) us→us=rs.map aE
 | [],us,r=>by cases r; rfl
 | a :: rs,us,r=>by
  cases r with
  | cons h t =>
   cases h;rw [zfS t];rfl
theorem zix:∀ (rs:List Addr),zG (rs.map V.ref) (rs.map aE)
 | []=>.nil
 | _ :: rs=>.cons rfl (zix rs)
section
variable {X:Cx} {lM:List (Addr×Obj)} {σ:L2.St} {H:Hp} {s s':Shared}
theorem zlj (I:Inv X lM σ H s) (kk:∀ b o,s.heap.get? b=some o→s'.heap.get? b=some o) {rs:List Addr} {qs:List (List Int)} (h:zaS H rs qs):Paired (fun a m=>TkV s'.heap m a) rs qs:=bp (fun a m z=>by
 obtain⟨lO,r,⟨o,ho,q⟩,_⟩:=I.tuple (lX.of z);exact⟨lO,r,o,kk _ _ ho,q⟩) h
theorem zhG (I:Inv X lM σ H s) {a:Addr} {rs:List Addr} (h:H a=some (.tup (rs.map V.ref))):∃ o n,s.heap.get? a=some o∧o.cls = .type "tuple"∧o.data = .seq (rs.map aE).toArray n:=by
 obtain⟨lO,r,⟨o,ho,hc,n,hd⟩,_⟩:=I.tuple (lX.of h);rw [zfS r] at hd;exact⟨o,n,ho,hc,hd⟩
theorem zmp (I:Inv X lM σ H s) (kk:∀ b o,s.heap.get? b=some o→s'.heap.get? b=some o) {m:Nat} (hm:1≤m) {as:List Addr} {mI:List (List (List Int))} (hT:zby H as mI) (hl:∀ qs∈mI,qs.length=m):∃ fs:List Value,kX s'.heap (as.map aE) fs∧fs.length=as.length∧∀ v∈fs,∃ b o,v=aE b∧s'.heap.get? b=some o∧o.cls = .type "tuple":=by
 induction hT with
 | nil=>exact⟨[],trivial,rfl,fun v hv=>by cases hv⟩
 | @cons a qs as mI h _ ih =>
  obtain⟨fs,h1,h2,h3⟩:=ih fun q hq=>hl q (aj _ hq)
  obtain⟨rs,z1,z2⟩:=h;have hq:=hl qs aF;obtain⟨o,n,ho,hc,hd⟩:=zhG I z1;cases z2 with
  | nil=>simp at hq; lia
  | @cons b q rs qs zb zt =>
   obtain⟨lO,r,⟨ob,Ap,hcb,_⟩,_⟩:=I.tuple (lX.of zb);refine⟨.ref b :: fs,jl (kk _ _ ho) hc hd #[M] h1,by simp [h2],fun v hv=>?_⟩;rcases (au.mp hv) with rfl | hv
   ·exact⟨b,ob,rfl,kk _ _ Ap,hcb⟩
   ·exact h3 v hv
theorem zmq (I:Inv X lM σ H s) {A':Around} (hu:A'.units < cLine) (kk:∀ b o,s.heap.get? b=some o→s'.heap.get? b=some o) {p:Int} (hp:1≤p) {k m:Nat} {as:List Addr} {mI:List (List (List Int))} (hT:zby H as mI) (hl:∀ qs∈mI,qs.length=m∧∀ q∈qs,IsP p k q) :
  Cmp X.prog X.w A' s' (tuples' false) (fun x=>nn p k (za6 H x.1)) (pairsOf (as.map aE)):=by
 intro x y hx hy Q E hQ;obtain⟨a,ma,ea⟩:=az.mp (zbS hx).1;obtain⟨b,mb,eb⟩:=az.mp (zbS hy).1;obtain⟨ra,za,ta,qa⟩:=zli hT a ma;obtain⟨rb,zb,tb,qb⟩:=zli hT b mb;obtain⟨la,pa⟩:=hl _ qa;obtain⟨lb,pb⟩:=hl _ qb;obtain⟨oa,na,ga,ca,da⟩:=zhG I za;obtain⟨ob,nb,gb,cb,db⟩:=zhG I zb;have hQ:Q (decide (nn p k (za6 H (.ref a)) < nn p k (za6 H (.ref b)))) s':=by
  rw [ea,eb]; exact hQ
 rw [← zgM hp (la.trans lb.symm) pa pb] at hQ;rw [← ea,← eb];refine lp (kk _ _ ga) da (kk _ _ gb) db ?_;have e1:=ta.length;have e2:=tb.length;have hsz:decide ((ra.map aE).toArray.size < (rb.map aE).toArray.size)=false:=by
  rw [am,am,ae,ae];exact decide_eq_false #[O]
 rw [hsz];refine zgK hu 0 (zlj I kk ta) (zlj I kk tb) (la.trans lb.symm) ?_;by_cases e:za6 H (.ref a)=za6 H (.ref b)
 ·rw [if_pos e];rw [zgM hp (la.trans lb.symm) pa pb,e] at hQ;simpa using hQ
 ·rw [if_neg e];exact hQ
end
theorem zgS {X:Cx} {lM:List (Addr×Obj)} {σ:L2.St} {H:Hp} {s:Shared} (hu:X.A.units+20 < cLine) (I:Inv X lM σ H s) {v:Value} {p:Int} {k m:Nat} {as:List Addr} {mI:List (List (List Int))} {Q:VK} (hz:as.length≤sizeLine)
  (uS:∀ R:List Value→Shared→Prop,(∀ (h':Heap) (tk:Nat),(∀ b o,s.heap.get? b=some o→h'.get? b=some o)→R (as.map aE) { s with heap:=h',toks:=tk })→wpAny (model X.prog X.w) X.A.in1 (collect v) R X.xe s)
  (hT:zby H as mI) (hl:∀ qs∈mI,qs.length=m∧∀ q∈qs,IsP p k q) (hm:1≤m) (hp:1≤p)
  (q:∀ (l':Addr) (bs:List Addr) (pP:List (List (List Int))),H l'=none→pP.Perm mI→(pP.Pairwise fun a b=>nn p k a≤nn p k b)→zby H bs pP→Q (.ref l') (lP H l' (.lst (bs.map V.ref)))) :
  wpAny (model X.prog X.w) X.A (call (.builtin "sorted") [v]) (EP X lM σ Q) X.xe s:=by
 refine zhz (vs:=as.map aE) (κ:=tuples' false) (val:=fun x=>nn p k (za6 H x.1)) (by rw [ae]; exact hz) uS (fun s' kk h2 A' Q' E' sT=>?_) (fun s' kk=>zmq I (by simp only [cG]; lia) kk hp hT hl) fun h' tk out e D kk hD x6 vK hs=>?_
 ·obtain⟨fs,k1,k2,k3⟩:=zmp I kk hm hT fun qs u9=>(hl qs u9).1
  refine kG (T:=.type "tuple") k1 (by rw [ae] at h2; lia) (fun v hv=>?_) rfl sT;obtain⟨b,o,rfl,ho,hc⟩:=k3 v hv;rw [← hc];exact (PySem.W.Looks.ld ho).andThen .now
 ·have hv:∀ v∈out.toList,∃ a∈as,v = .ref a:=fun v hv=>by
   obtain⟨a,ha,e⟩:=az.mp (vK.mem_iff.mp hv);exact⟨a,ha,e.symm⟩
  have rA:out.toList=(out.toList.map zlh).map aE:=by
   rw [bh]
   conv=>lhs; rw [← gu out.toList]
   refine bY fun v AG=>?_
   obtain⟨a,_,rfl⟩:=hv v AG;rfl
  have lT:=vK.length_eq;rw [ae] at lT;obtain⟨hn,I2⟩:=I.above (tk:=tk) (D:=D) (o:=.lst ((out.toList.map zlh).map V.ref)) kk hD ⟨by rw [ae,ae]; lia,(out.toList.map zlh).map aE,e,zix _,by rw [← rA]; exact x6⟩;refine⟨.ref D,_,I2,rfl,q D _ (out.toList.map (za6 H)) hn ?_ (bQ.mpr hs) (zcR fun v AG=>?_)⟩
  ·have:=vK.map (za6 H);rw [bh] at this;have e:as.map (za6 H ∘ aE)=mI:=zoi hT;rw [e] at this;exact this
  ·obtain⟨a,ha,rfl⟩:=hv v AG;obtain⟨rs,z1,z2,_⟩:=zli hT a ha;exact⟨rs,z1,z2⟩
section
variable (P:Program) (w:World)
def znH (x:List (List Int)×Addr):DictEntry:=⟨ziw P w x.1,.ref x.2,.bool true⟩
def DN (a:Addr) (xs:List (List (List Int)×Addr)):HO:=HO.ext fun h=>(xs.length≤sizeLine∧(a == sysModules)=false)∧∃ o es ep,h.get? a=some o∧o.ExactDict∧o.data = .dict es ep∧es.toList=xs.map (znH P w)
end
def zco (H:Hp) (xs:List (List (List Int)×Addr)):Prop:=∀ x∈xs,∃ rs:List Addr,H x.2=some (.tup (rs.map V.ref))∧zaS H rs x.1
theorem zco.same {H H':Hp} (s:zA H H') {xs:List (List (List Int)×Addr)} (h:zco H xs):zco H' xs:=fun x hx=>let ⟨rs,z1,z2⟩:=h x hx; ⟨rs,s _ _ z1,z2.same s⟩
theorem zco.put {P:Program} {w:World} {H:Hp} {d:Addr} {ks xs:List (List (List Int)×Addr)} {o:HO} (hd:H d=some (DN P w d ks)) (h:zco H xs):zco (lP H d o) xs:=fun x hx=>by
 obtain⟨rs,z1,z2⟩:=h x hx;exact⟨rs,by rw [zp (fun e=>by rw [e,hd] at z1; cases z1)]; exact z1,bp (fun a q z=>by rw [zp (fun e=>by rw [e,hd] at z; cases z)]; exact z) z2⟩
def putN (xs:List (List (List Int)×Addr)) (qs:List (List Int)) (b:Addr):List (List (List Int)×Addr):=if qs∈xs.map (·.1) then xs else xs++[(qs,b)]
theorem zjI {xs:List (List (List Int)×Addr)} {qs:List (List Int)} {b:Addr} (hn:(xs.map (·.1)).Nodup):((putN xs qs b).map (·.1)).Nodup∧(putN xs qs b).length≤xs.length+1∧(∀ x,x∈(putN xs qs b).map (·.1)↔x∈xs.map (·.1)∨x=qs)∧∀ x∈putN xs qs b,x∈xs∨x=(qs,b):=by
 unfold putN;by_cases h:qs∈xs.map (·.1)
 ·rw [if_pos h];exact⟨hn,#[O],fun x=>⟨.inl,fun z=>z.elim id fun e=>e ▸ h⟩,fun x hx=>.inl hx⟩
 ·rw [if_neg h,aw];refine⟨fu.mpr ⟨hn,#[M],fun a ha c hc e=>?_⟩,by rw [aB]; exact ah _,fun x=>by rw [aP]; simp,fun x hx=>by simpa using hx⟩;have hc:c=qs:=by simpa using hc
  exact h (by rw [← hc,← e]; exact ha)
section
variable {P:Program} {w:World} {H:Hp} {h h':Heap} {a:Addr} {xs:List (List (List Int)×Addr)}
theorem zlk (hz:xs.length≤sizeLine) (hm:(a == sysModules)=false) (hd:∃ o es ep,h.get? a=some o∧o.ExactDict∧o.data = .dict es ep∧es.toList=xs.map (znH P w)):zab P w H h a (DN P w a xs) :=
 ⟨⟨⟨hz,hm⟩,hd⟩,let ⟨o,_,_,ho,_⟩:=hd; ⟨o,ho⟩,fun h1 h2 ⟨z,o,es,ep,ho,r⟩ k=>⟨z,o,es,ep,k o ho,r⟩⟩
theorem zll (ok:HOk P w H h) (e:H a=some (DN P w a xs)):xs.length≤sizeLine∧(a == sysModules)=false∧∃ o es ep,h.get? a=some o∧o.ExactDict∧o.data = .dict es ep∧es.toList=xs.map (znH P w):=by
 obtain⟨⟨⟨z,m⟩,d⟩,_⟩:=(show zab P w H h a (DN P w a xs) from ok a _ e);exact⟨z,m,d⟩
theorem zlm (ok:HOk P w H h) {b:Addr} {rs:List Addr} {qs:List (List Int)} (e:H b=some (.tup (rs.map V.ref))) (ht:zaS H rs qs):zbz P w h qs b:=by
 obtain⟨_,lO,r,o,h1,h2,n,h3⟩:=(show zab P w H h b (.tup (rs.map V.ref)) from ok b _ e);rw [zfS r] at h3;refine⟨o,n,rs,h1,h2,h3,bp (fun c q z=>?_) ht⟩;obtain⟨_,lO,r,o,g1,g2,n,g3⟩:=(show zab P w H h c (.tup (q.map V.int)) from ok c _ z);exact⟨o,lO.toArray,n,g1,g2,g3,by simpa using zhA r⟩
def ful (x:List (List Int)×Addr):List (List Int)×Addr×Value:=(x.1,x.2,.bool true)
theorem zmr (ok:HOk P w H h) (e:H a=some (DN P w a xs)) (hk:zco H xs) (hn:(xs.map (·.1)).Nodup):h.DictOfH (zmM P w) a (xs.map ful):=by
 obtain⟨z,m,o,es,ep,h1,h2,h3,h4⟩:=zll ok e;refine⟨o,es,ep,h1,h2,h3,by rw [h4,bh]; rfl,fun x hx=>?_,by rw [bh]; exact hn⟩
 (obtain⟨y,hy,rfl⟩:=az.mp hx)
 obtain⟨rs,z1,z2⟩:=hk y hy;exact zlm ok z1 z2
theorem zhH (qs:List (List Int)) (b:Addr):storedH (xs.map ful) qs b (.bool true)=(putN xs qs b).map ful:=by
 have key:(atKey (xs.map ful) qs).isSome=decide (qs∈xs.map (·.1)):=by
  unfold atKey;rw [gU,List.find?_map,gU,cQ,decide_eq_true_iff,List.find?_isSome];constructor
  ·rintro⟨x,hx,e⟩;exact az.mpr ⟨x,hx,of_decide_eq_true e⟩
  ·intro h;obtain⟨x,hx,e⟩:=az.mp h;exact⟨x,hx,decide_eq_true e⟩
 unfold storedH putN;rw [key];by_cases h:qs∈xs.map (·.1)
 ·rw [decide_eq_true h,if_pos rfl,if_pos h,bh]
  (refine bY fun x _=>?_)
  show putAt qs (.bool true) (ful x)=ful x;unfold putAt ful;split <;> rfl
 ·rw [decide_eq_false h,if_neg #[M],if_neg h,aw];rfl
end
def znI (P:Program) (w:World):TE:=fun _ H Q=>∀ p,H p=none→Q (.ref p) (lP H p (DN P w p []))
theorem zln {X:Cx} {pos:Pos} {P:Program} {w:World} (hP:X.prog=P) (hw:X.w=w):PE X (.Dict [] [] pos) (znI P w):=by
 subst hP hw;exact fun lM s σ H Q I h=>wpAny_Dict_empty ⟨.ref s.heap.objs.size,_,I.laid (a:=s.heap.objs.size) (o:=DN X.prog X.w s.heap.objs.size []) (t':=s.toks) (fun _ _ q=>af _ q) (ah _) (zlk (bo _) (beq_eq_false_iff_ne.mpr (dk (aZ I.big))) ⟨_,#[],0,aC _ rfl,⟨rfl,rfl,rfl⟩,rfl,rfl⟩),rfl,h _ (I.hok.fresh (ah _))⟩
def znJ (P:Program) (w:World) (td ty tv:TE):TS:=fun D σ H=>tv σ H fun v H1=>td σ H1 fun x H2=>ty σ H2 fun y H3=>∃ (a b:Addr) (rs:List Addr) (qs:List (List Int)) (xs:List (List (List Int)×Addr)),v = .bl true∧x = .ref a∧y = .ref b∧H3 a=some (DN P w a xs)∧zco H3 xs∧(xs.map (·.1)).Nodup∧xs.length < sizeLine∧H3 b=some (.tup (rs.map V.ref))∧zaS H3 rs qs∧D.nx σ (lP H3 a (DN P w a (putN xs qs b)))
theorem zlo {X:Cx} {P:Program} {w:World} {o i value:Expr} {pos pos':Pos} {td ty tv:TE} (hP:X.prog=P) (hw:X.w=w) (hu:X.A.units+20 < cLine) (ho:PE X o td) (hi:PE X i ty) (hv:PE X value tv) (hs:swapsWith value (some (.Subscript o i pos')) pos.line X.env=pure false) :
  PS X (.Assign [.Subscript o i pos'] value pos) (znJ P w td ty tv):=by
 subst hP hw;intro lM s σ H D I h;refine iM (thn (hv lM s σ H _ I h) fun r s1 ⟨v,H1,I1,rv,q1⟩=>thn (ho lM s1 σ H1 _ I1 q1) fun u s2 ⟨x,H2,I2,rx,q2⟩=>thn (hi lM s2 σ H2 _ I2 q2) fun iv s3 ⟨y,H3,I3,ry,a,b,rs,qs,xs,ev,ex,ey,e,hk,hn,hl,eb,ht,q3⟩=>?_) hs;subst ex ey ev;obtain rfl:u=aE a:=rx;obtain rfl:iv=aE b:=ry;obtain rfl:r=d7 true:=rv;obtain⟨z,m,_⟩:=zll I3.hok e;have hz:(xs.map ful).length≤sizeLine:=by rw [ae]; exact z
 refine jT (hsz:=hz) (knd:=zmM X.prog X.w) (show X.A.in1.units+1 < cLine by simp only [cG]; lia) (zlm I3.hok eb ht) (zmr I3.hok e hk hn) fun h' wZ nI=>?_
 rw [zhH] at wZ;obtain⟨q,es,ep,hq,h2,h3,h4,_,h5⟩:=wZ;have hlp:(putN xs qs b).length≤sizeLine:=by
  unfold putN;split
  ·exact z
  ·rw [aB]; exact hl
 exact⟨σ,_,zfA I3 (by rw [e]; exact d9) nI ⟨q,hq⟩ (zlk hlp m ⟨q,es,ep,hq,h2,h3,by rw [h4,bh]; rfl⟩),q3⟩
def zms (P:Program) (w:World) (xs:List V) (H:Hp) (Q:VK):Prop:=∃ (d:Addr) (p:Int) (k m:Nat) (ks:List (List (List Int)×Addr)),xs = [.ref d]∧H d=some (DN P w d ks)∧zco H ks∧(∀ x∈ks,x.1.length=m∧∀ q∈x.1,IsP p k q)∧1≤m∧1≤p ∧
  ∀ (l':Addr) (bs:List Addr) (pP:List (List (List Int))),H l'=none→pP.Perm (ks.map (·.1))→(pP.Pairwise fun a b=>nn p k a≤nn p k b)→zby H bs pP→Q (.ref l') (lP H l' (.lst (bs.map V.ref)))
theorem zeK {X:Cx} {P:Program} {w:World} (hP:X.prog=P) (hw:X.w=w) (hc:X.calm=true) (hu:X.A.units+20 < cLine):zbB X (.builtin "sorted") (zms P w):=by
 subst hP hw;intro lM s σ H xs us Q I r h;obtain⟨d,p,k,m,ks,rfl,hd,hk,hl,hm,hp,q⟩:=h;obtain⟨u,rfl,rx⟩:=vals1 r;cases rx;obtain⟨hz,hs,o,es,ep,ho,hx,he,vy⟩:=zll I.hok hd;have BR:es.toList.map (·.key)=(ks.map (·.2)).map aE:=by
  rw [vy,bh,bh];rfl
 have hsz:es.size=ks.length:=by
  have:=congrArg eQ vy;rw [ae,bw] at this;exact this
 have hT:zby H (ks.map (·.2)) (ks.map (·.1)):=zcR fun x hx=>hk x hx
 refine zgS hu I (by rw [ae]; exact hz) (fun R hR=>?_) hT (fun qs u9=>by obtain⟨x,hx,rfl⟩:=az.mp u9; exact hl x hx) hm hp q;refine jA (zig (es:=es) (ep:=ep) hs) (by simp [I.ok.hd hc]) ⟨o,ho,hx,he⟩ #[O] fun h' tk acc kk qI=>?_
 have:acc.toList=(ks.map (·.2)).map aE:=by
  rw [← BR];refine er fun j=>?_
  by_cases hj:j < es.size
  ·have AH:j < acc.size:=by rw [qI.1]; exact hj
   obtain⟨e',h1,h2⟩:=qI.2 j acc[j] (getElem?_pos acc j AH);rw [bd,getElem?_pos acc j AH,ap,bd,h1,h2];rfl
  ·rw [cE (by rw [bw,qI.1]; lia),cE (by rw [ae,bw]; lia)]
 rw [this];exact hR h' tk kk
end My
namespace L2
open PySem PySem.Spec PyProof.Rows
theorem zcJ {X:Cx} {K:ag} (hK:X.K=K):OpR X (compareOp .NotIn) (rIn K true):=by subst hK; exact zfl
end L2
end
section
namespace PySem
abbrev zs2 (C1 C:String) (h:Heap) (l1 l2:Addr):Heap:=(h.push (itO C1 l1)).push (itO C l2)
abbrev zs4 (C1 C:String) (h:Heap) (l1 l2:Addr):Heap:=((zs2 C1 C h l1 l2).push (zcc (.ref h.objs.size) (.ref (h.push (itO C1 l1)).objs.size))).push (zcc .none .none)
abbrev zs5 (C1 C:String) (h:Heap) (l1 l2:Addr):Heap:=(zs4 C1 C h l1 l2).push (zlN (zs2 C1 C h l1 l2).objs.size ((zs2 C1 C h l1 l2).push (zcc (.ref h.objs.size) (.ref (h.push (itO C1 l1)).objs.size))).objs.size)
theorem zgT {C1 C:String} {vL Is:Heap→Addr→Array Value→Prop} (S1:SkH C1 vL) (S:SkH C Is) (l1 l2:Addr) (xs ys:Array Value):Meets (Builtin.«zip.__new__» ⟨[.type "zip",.ref l1,.ref l2],[]⟩) (fun _ R s=>vL s.heap l1 xs∧Is s.heap l2 ys∧R (.ok (.ret (.ref (zs4 C1 C s.heap l1 l2).objs.size))) { s with heap:=zs5 C1 C s.heap l1 l2 }) :=
 .of_wp fun prog w A R s h=>by
  obtain⟨hp,g,d,tk,os⟩:=s; obtain⟨rR,n8,h⟩:=h; have qJ:=sub_zip;have wW:vL (gt ⟨hp,g,d,tk,os⟩) l1 xs:=rR;have wX:Is (gt ⟨hp.push (itO C1 l1),g,d,tk,os⟩) l2 ys:=S.pu _ n8
  wp_walk using S1.it wW,S.it wX
  exact⟨_,rfl,h⟩
section
variable {prog:Program} {w:World} {A:Around} {E:Value→Shared→Prop} {s:Shared}
theorem zhI {C1 C:String} {vL Is:Heap→Addr→Array Value→Prop} (S1:SkH C1 vL) (S:SkH C Is) {l1 l2:Addr} {xs ys:Array Value} {Q:Value→Shared→Prop} (rR:vL s.heap l1 xs) (n8:Is s.heap l2 ys)
  (h:∀ h' n,n=s.heap.objs.size→IsZ h' (n+4) (n+2) (n+3) .none (.bool false)→IsPair h' (n+2) (.ref n) (.ref (n+1))→IsPair h' (n+3) .none .none→ItC C1 h' n l1 0→ItC C h' (n+1) l2 0→h'.objs.size=n+5 →
   (∀ c o,s.heap.get? c=some o→h'.get? c=some o)→Q (.ref (n+4)) { s with heap:=h' }):wpAny (model prog w) A (call (.type "zip") [.ref l1,.ref l2]) Q E s:=by
 refine ik F.called_zip #[D] (kC _ _) (F.newCall_zip_2 _ _) (fun obj=>jg obj _ _) F.entry_zip_new (zgT S1 S l1 l2 xs ys) ⟨rR,n8,?_⟩;have z1:(s.heap.push (itO C1 l1)).objs.size=s.heap.objs.size+1:=bi ..;have z2:(zs2 C1 C s.heap l1 l2).objs.size=s.heap.objs.size+2:=by rw [bi,z1]
 have z3:((zs2 C1 C s.heap l1 l2).push (zcc (.ref s.heap.objs.size) (.ref (s.heap.push (itO C1 l1)).objs.size))).objs.size=s.heap.objs.size+3:=by rw [bi,z2]
 have z4:(zs4 C1 C s.heap l1 l2).objs.size=s.heap.objs.size+4:=by rw [bi,z3]
 have g5:=aC (zs4 C1 C s.heap l1 l2) (o:=zlN (zs2 C1 C s.heap l1 l2).objs.size ((zs2 C1 C s.heap l1 l2).push (zcc (.ref s.heap.objs.size) (.ref (s.heap.push (itO C1 l1)).objs.size))).objs.size) rfl;have g4:(zs5 C1 C s.heap l1 l2).get? _=some _:=af _ (aC ((zs2 C1 C s.heap l1 l2).push (zcc (.ref s.heap.objs.size) (.ref (s.heap.push (itO C1 l1)).objs.size))) (o:=zcc .none .none) rfl);have g3:(zs5 C1 C s.heap l1 l2).get? _=some _:=af _ (af _ (aC (zs2 C1 C s.heap l1 l2) (o:=zcc (.ref s.heap.objs.size) (.ref (s.heap.push (itO C1 l1)).objs.size)) rfl));have g2:(zs5 C1 C s.heap l1 l2).get? _=some _:=af _ (af _ (af _ (aC (s.heap.push (itO C1 l1)) (o:=itO C l2) rfl)));have g1:(zs5 C1 C s.heap l1 l2).get? s.heap.objs.size=some (itO C1 l1):=af _ (af _ (af _ (af _ (aC _ rfl))));have z5:(zs5 C1 C s.heap l1 l2).objs.size=s.heap.objs.size+5:=by rw [bi,z4]
 have k5:∀ c o,s.heap.get? c=some o→(zs5 C1 C s.heap l1 l2).get? c=some o:=fun c o x=>af _ (af _ (af _ (af _ (af _ x))))
 show _∧_;rw [z4] at g5 ⊢;rw [z3] at g4;rw [z2] at g3;rw [z1] at g2;refine⟨⟨_,g5,rfl⟩,h _ _ rfl ?_ ?_ g4 ⟨_,g1,rfl,rfl⟩ ⟨_,g2,rfl,rfl⟩ z5 k5⟩
 ·have:IsZ (zs5 C1 C s.heap l1 l2) (s.heap.objs.size+4) (zs2 C1 C s.heap l1 l2).objs.size ((zs2 C1 C s.heap l1 l2).push (zcc (.ref s.heap.objs.size) (.ref (s.heap.push (itO C1 l1)).objs.size))).objs.size .none (.bool false):=g5;rw [z2,z3] at this;exact this
 ·have:IsPair (zs5 C1 C s.heap l1 l2) (s.heap.objs.size+2) (.ref s.heap.objs.size) (.ref (s.heap.push (itO C1 l1)).objs.size):=g3;rw [z1] at this;exact this
end
end PySem
namespace L2
open PySem PySem.Spec PyProof.Rows
abbrev zoj (C1 C:String) (n a b:Nat) (i:Nat) (h:Heap):Prop:=(∃ f0 f1,IsZ h (n+4) (n+2) (n+3) f0 f1∧ZF f0 f1)∧IsPair h (n+2) (.ref n) (.ref (n+1))∧(∃ u v,IsPair h (n+3) u v)∧ItC C1 h n a i∧ItC C h (n+1) b i
theorem zlp {C1 C:String} {vL Is:Heap→Addr→Array Value→Prop} {oG Sq:ag→Hp→Addr→List V→Prop} (S1:Sk C1 vL oG) (S:Sk C Is Sq) {P:Program} {w:World} {K:ag} {es:List Expr} {k:Nat} {pos:Pos} (a b n:Nat) (ha:a < n) (hb:b < n):Turn P w K (.Tuple es k pos) (zkt (oG K) (Sq K) a b) (zbQ n) (n+4) (zoj C1 C n a b) where
 mem:=by simp
 obj:=fun i h st c hc=>by
  obtain⟨⟨f0,f1,h1,_⟩,h2,⟨u,v,h3⟩,⟨o4,e4,_,d4⟩,⟨o5,e5,_,d5⟩⟩:=st;simp only [zbQ,au,aM,or_false] at hc;rcases hc with z | z | z | z | z <;> subst z
  ·exact⟨_,h1,fun v z=>by cases z⟩
  ·exact⟨_,h2,fun v z=>by cases z⟩
  ·exact⟨_,h3,fun v z=>by cases z⟩
  ·exact⟨_,e4,fun v z=>by rw [d4] at z; cases z⟩
  ·exact⟨_,e5,fun v z=>by rw [d5] at z; cases z⟩
 keep:=fun i h h' st kk=>by
  obtain⟨⟨f0,f1,h1,hf⟩,h2,⟨u,v,h3⟩,h4,h5⟩:=st;obtain⟨o5,e5,r5⟩:=h5;exact⟨⟨f0,f1,kk _ #[M] _ h1,hf⟩,kk _ #[M] _ h2,⟨u,v,kk _ #[M] _ h3⟩,⟨h4.choose,kk _ #[M] _ h4.choose_spec.1,h4.choose_spec.2⟩,o5,kk _ #[M] _ e5,r5⟩
 item:=by
  intro X hP hw hK hc i lM s σ H E I hf st hg;subst hP hw hK;obtain⟨xs,ys,x,y,oB,nH,hx,hy⟩:=hg;obtain⟨⟨f0,f1,h1,tq⟩,h2,⟨u0,v0,h3⟩,h4,h5⟩:=st;obtain⟨mj,qH,p1,_⟩:=S1.inv I oB;obtain⟨l9,qX,p2,_⟩:=S.inv I nH;obtain⟨u,hu,ru⟩:=qH.get hx;obtain⟨v,hv,rv⟩:=qX.get hy;have vy:n+4 < s.heap.objs.size:=aD h1;have hh:X.A.in1.handled=none:=by simp [I.ok.hd hc]
  have oH:i < mj.toArray.size:=by have:=(ak.mp hu).1; simpa using this
  have oI:i < l9.toArray.size:=by have:=(ak.mp hv).1; simpa using this
  refine zh7 (S1.h.dr hh n a (nq #[O]) mj.toArray) (S.h.dr hh (n+1) b (nq #[O]) l9.toArray) (zcr ha hb) h1 tq h2 h3 ⟨h4,p1⟩ ⟨h5,p2⟩ oH oI
   fun x' y' h' tk g0 g1 a' b' px py ez Am e2 e3 t4 t5 pp hsz kk=>?_
  have eu:x'=u:=by
   have e1:mj[i]? = some x':=by simpa using px
   rw [hu] at e1; exact (aG e1).symm
  have ev:y'=v:=by
   have e1:l9[i]? = some y':=by simpa using py
   rw [hv] at e1; exact (aG e1).symm
  subst eu ev;have ch:∀ c∈[n+4,n+3,n,n+1],c∈zbQ n:=fun c lR=>by
   simp only [zbQ,au,aM,or_false] at lR ⊢;rcases lR with z | z | z | z <;> subst z <;> simp
  have k1:∀ c o,c∉[n+4,n+3,n,n+1]→s.heap.get? c=some o→h'.get? c=some o:=fun c o lR eo=>by
   simp only [au,aM,or_false,not_or] at lR;exact kk c o lR.1 lR.2.1 lR.2.2.1 lR.2.2.2 eo
  have vW:∀ c∈[n+4,n+3,n,n+1],∃ o,h'.get? c=some o:=fun c lR=>by
   simp only [au,aM,or_false] at lR;rcases lR with z | z | z | z <;> subst z
   ·exact⟨_,ez⟩
   ·exact⟨_,e3⟩
   ·obtain⟨o,e,_⟩:=t4.1; exact⟨o,e⟩
   ·obtain⟨o,e,_⟩:=t5.1; exact⟨o,e⟩
  have I1:Inv X lM σ (lP H s.heap.objs.size (.tup [x,y])) { s with heap:=h',toks:=tk } :=
   I.turnedNew k1 (fun c lR=>hf c (ch c lR)) vW (ah _) ⟨zaC,_,.cons ru (.cons rv .nil),za8 pp⟩
  refine⟨_,rfl,zmC (s:={ s with heap:=h',toks:=tk }) ez Am fun sZ g2 rk uK m9=>?_⟩;have fr:∀ c∈zbQ n,lP H s.heap.objs.size (.tup [x,y]) c=none:=fun c lR=>by
   have ml:c < s.heap.objs.size:=by
    simp only [zbQ,au,aM,or_false] at lR;rcases lR with z | z | z | z | z <;> subst z <;> exact nl #[O]
   rw [zp (aZ ml)];exact (hf c lR).1
  have I2:Inv X lM σ (lP H s.heap.objs.size (.tup [x,y])) { s with heap:=sZ,toks:=tk } :=
   Inv.turnedL (s:={ s with heap:=h',toks:=tk }) (ch:=[n+4]) (t':=tk) I1 (fun c o lR eo=>m9.extBut c o (by simpa using lR) eo) (fun c lR=>by
    have z:c=n+4:=by simpa using lR
    subst z;exact⟨fr _ #[M],(hf _ #[M]).2⟩) (fun c lR=>by
    have z:c=n+4:=by simpa using lR
    subst z;exact⟨_,rk⟩)
  have up:∀ c o,c≠n+4→h'.get? c=some o→sZ.get? c=some o:=fun c o lR e=>m9.extBut c o lR e
  exact⟨.ref s.heap.objs.size,_,I2,rfl,⟨_,x,y,I.fresh,rfl,rfl,fun zs hz=>by rw [S1.inj I hz oB]; exact hx,fun zs hz=>by rw [S.inj I hz nH]; exact hy⟩,
   ⟨⟨g2,g1,rk,uK⟩,up _ _ (nq #[O]) e2,⟨_,_,up _ _ (nq #[O]) e3⟩,⟨t4.1.choose,up _ _ (nq #[O]) t4.1.choose_spec.1,t4.1.choose_spec.2⟩,⟨t5.1.choose,up _ _ (nq #[O]) t5.1.choose_spec.1,t5.1.choose_spec.2⟩⟩,fr⟩
 done:=by
  intro X hP hw hK hc i lM s σ H E I hf st hg;subst hP hw hK;obtain⟨xs,ys,oB,nH,hx⟩:=hg;obtain⟨⟨f0,f1,h1,tq⟩,h2,⟨u0,v0,h3⟩,h4,h5⟩:=st;obtain⟨mj,qH,p1,_⟩:=S1.inv I oB;obtain⟨l9,qX,p2,_⟩:=S.inv I nH;have hh:X.A.in1.handled=none:=by simp [I.ok.hd hc]
  have rR:=qH.length;have n8:=qX.length;refine zkr (S1.h.dr hh n a (nq #[O]) mj.toArray) (S.h.dr hh (n+1) b (nq #[O]) l9.toArray) (zcr ha hb) h1 tq h2 h3 ⟨h4,p1⟩ ⟨h5,p2⟩ (by rw [am,am]; lia) fun h' tk kk=>⟨rfl,?_⟩
  have sub:∀ c∈[n+4,n+3,n,n+1],c∈zbQ n:=fun c lR=>by
   simp only [zbQ,au,aM,or_false] at lR ⊢;rcases lR with z | z | z | z <;> subst z <;> simp
  have k1:∀ c o,c∉[n+4,n+3,n,n+1]→s.heap.get? c=some o→h'.get? c=some o:=fun c o lR e=>by
   simp only [au,aM,or_false,not_or] at lR;exact kk c o lR.1 lR.2.1 lR.2.2.1 lR.2.2.2 e
  have rd:∀ d u',H d=some u'→d∉[n+4,n+3,n,n+1]:=fun d u' e' hd=>by rw [(hf d (sub d hd)).1] at e'; cases e'
  refine I.step (g':=s.gens) (d':=s.drawn) (t':=tk) (ch:=[n+4,n+3,n,n+1]) (fun c lR=>?_) (fun c o _ _ mU e _=>k1 c o mU e) (fun c o _ _ mU e _=>⟨o.slots,k1 c o mU e⟩) (fun _ _ _ _ n=>n)
   (fun c o mU e=>⟨o,k1 c o mU e⟩) (fun _ _ e=>e) (fun _ _ _ e=>e) (fun c ps e=>⟨#[],by rw [e]; simp⟩) (fun m hm=>?_) (fun c u e=>?_) I.bare
  ·obtain⟨_,a1,_,a3,a4,a5⟩:=hf c (sub c lR);exact⟨a3,a1,a4,a5⟩
  ·obtain⟨o,uy,ep,ho,r⟩:=hm;exact⟨o,uy,ep,k1 _ o (fun z=>(hf _ (sub _ z)).2.1 rfl) ho,r⟩
  ·refine (I.hok c u e).stay (fun d v' hd q=>k1 d v' ?_ q) (fun _ q=>q) fun _ _ q=>q
   rcases hd with z | z
   ·rw [z]; exact rd c u e
   ·exact rd d _ z
 self:=fun _ _ _ _ _ st h=>by
  obtain⟨⟨f0,f1,hz,_⟩,_⟩:=st;exact zdO hz h
theorem zlq {C1 C:String} {vL Is:Heap→Addr→Array Value→Prop} {oG Sq:ag→Hp→Addr→List V→Prop} (S1:Sk C1 vL oG) (S:Sk C Is Sq) {X:Cx} {es:List Expr} {k:Nat} {nP p pos:Pos} {a b:Expr} {ta:TA} (hg:Gl X "zip") (hm:X.mg "zip" = none) (ha:PA X [a,b] ta) (hs:starEach [a,b] X.env = [(false,eval a X.env),(false,eval b X.env)]:=by rfl) (nK:starEach [b] X.env = [(false,eval b X.env)]:=by rfl) :
  PI X (.Tuple es k nP) (.Call (.Name "zip" p) [a,b] [] pos) (iZq (oG X.K) (Sq X.K) ta):=by
 intro lM s σ H R I h;refine Call_ (zbg I hg hm kA (bv (thn (ha pos lM s σ H _ I h) fun us s1 ⟨vs,H1,I1,r1,q1⟩=>?_) (by rw [hs,nK]) (by rw [nK]; rfl)));obtain⟨l1,l2,xs,ys,e,oB,nH,q⟩:=q1;subst e;cases r1 with
 | cons r rr =>
  cases rr with
  | cons r' rr =>
   cases rr;cases r;cases r';obtain⟨mj,qH,vz,oH⟩:=S1.inv I1 oB;obtain⟨l9,qX,vX,oI⟩:=S.inv I1 nH;refine zhI S1.h S.h vz vX fun h' n hn b1 b2 b3 b4 b5 b6 kk=>?_
   have I2:Inv X lM σ H1 { s1 with heap:=h' }:=I1.kept (t':=s1.toks) kk;refine zdO b1 ?_;refine⟨_,zbQ n,zoj C1 C n l1 l2,zkt (oG X.K) (Sq X.K) l1 l2,H1,rfl,I2,zlp S1 S l1 l2 n (by rw [hn]; exact oH) (by rw [hn]; exact oI),⟨⟨_,_,b1,.inl rfl,_,rfl⟩,b2,⟨_,_,b3⟩,b4,b5⟩,fun c hc=>?_,q⟩;have hle:s1.heap.objs.size≤c:=by
    simp only [zbQ,au,aM,or_false] at hc;rw [← hn];rcases hc with z | z | z | z | z <;> subst z
    all_goals first | exact fK _ _ | exact ah _
   exact I1.fpOk hle (I1.hok.fresh hle)
theorem zlr {X:Cx} {es:List Expr} {k:Nat} {nP p pos:Pos} {a b:Expr} {ta:TA} (hg:Gl X "zip") (hm:X.mg "zip" = none) (ha:PA X [a,b] ta) (hs:starEach [a,b] X.env = [(false,eval a X.env),(false,eval b X.env)]:=by rfl) (nK:starEach [b] X.env = [(false,eval b X.env)]:=by rfl) :
  PI X (.Tuple es k nP) (.Call (.Name "zip" p) [a,b] [] pos) (iZq (lN X.K) (lX X.K) ta):=zlq sqL sqT hg hm ha hs nK
end L2
end
section
namespace My
open PySem L2 PyProof.Rows Srt
end My
end
section
namespace My
open PySem PySem.Spec L2 PyProof.Rows
noncomputable def isAt (H:Hp) (q:List Int) (u:Value):Bool:=@decide (∃ b,u = .ref b∧H b=some (.tup (q.map V.int))) (Classical.propDecidable _)
end My
end
section
namespace My
open PySem PySem.Spec L2 PyProof.Rows Srt
section
variable {K:ag} {H:Hp}
theorem ziy {d:Nat} {a b:Addr} {q:List Int} (ha:H a=some (.tup (q.map V.int))) (hb:H b=some (.tup (q.map V.int))):EqD K H (d+1) (.ref a) (.ref b) true:=by
 by_cases oC:a=b
 ·subst oC;exact .same
 ·have h:=EqD.tups (K:=K) (d:=d) (e:=fun _=>true) oC (lX.of ha) (lX.of hb) fun j x y hx hy=>by
   rw [hx] at hy;cases hy;obtain⟨z,rfl,_⟩:=zax hx;have h:=EqD.flat (K:=K) (H:=H) (d:=d) (x:=.int z) (y:=.int z) rfl rfl;have e:eqV (.int z) (.int z)=true:=by simp [eqV]
   rw [e] at h;exact h
  have e:((bg (min (q.map V.int).length (q.map V.int).length)).all (fun _=>true) && (q.map V.int).length == (q.map V.int).length)=true:=by simp
  rw [e] at h;exact h
theorem znK {d:Nat} {a b:Addr} {ra rb:List Addr} {qs:List (List Int)} (ha:H a=some (.tup (ra.map V.ref))) (hb:H b=some (.tup (rb.map V.ref))) (h1:zaS H ra qs) (h2:zaS H rb qs):EqD K H (d+2) (.ref a) (.ref b) true:=by
 by_cases oC:a=b
 ·subst oC;exact .same
 ·have h:=EqD.tups (K:=K) (d:=d+1) (e:=fun _=>true) oC (lX.of ha) (lX.of hb) fun j x y hx hy=>by
   obtain⟨x,rfl,rY⟩:=zK hx;obtain⟨y,rfl,uj⟩:=zK hy;obtain⟨q1,z1,z2⟩:=Paired.get h1 rY;obtain⟨q2,w1,w2⟩:=Paired.get h2 uj;rw [z1] at w1;cases w1;exact ziy z2 w2
  have l1:=h1.length;have l2:=h2.length;have e:((bg (min (ra.map V.ref).length (rb.map V.ref).length)).all (fun _=>true) && (ra.map V.ref).length == (rb.map V.ref).length)=true:=by simp; lia
  rw [e] at h;exact h
theorem zoF {Q:VK} {a b:Addr} {as bs:List Addr} {mI:List (List (List Int))} (ha:H a=some (.lst (as.map V.ref))) (hb:H b=some (.lst (bs.map V.ref))) (h1:zby H as mI) (h2:zby H bs mI) (q:Q (.bl false) H):zlG K true (.ref a) (.ref b) H Q:=by
 have l1:=h1.length;have l2:=h2.length;refine⟨a,b,_,_,rfl,rfl,.inl ⟨lN.of ha,lN.of hb⟩,.inr ⟨by rw [ae,ae]; lia,fun _=>true,fun j x y e1 e2=>?_,?_⟩⟩
 ·obtain⟨x,rfl,hx⟩:=zK e1;obtain⟨y,rfl,hy⟩:=zK e2;obtain⟨r1,z1,rs,z2,z3⟩:=Paired.get h1 hx;obtain⟨r2,w1,rs',w2,w3⟩:=Paired.get h2 hy;rw [z1] at w1;cases w1;exact znK (d:=6) z2 w2 z3 w3
 ·have:(bg (as.map V.ref).length).all (fun _=>true)=true:=by simp
  rw [this];exact q
end
theorem zby.put {H:Hp} {as:List Addr} {mI:List (List (List Int))} {f:Addr} {xs:List V} {o:HO} (h:zby H as mI) (hf:H f=some (.lst xs)):zby (lP H f o) as mI:=bp (fun a q ⟨rs,z1,z2⟩=>⟨rs,by rw [zp (fun e=>by rw [e,hf] at z1; cases z1)]; exact z1,z2.put hf⟩) h
end My
end
section
namespace My
open PySem L2 PyProof.Rows
section
variable {P:Program} {w:World} {K:ag} {mg:Str→Option Value} {base:Heap} {t:Adr}
def zfT (K:ag):Sp:=fun vs H Q E=>∃ m,m≤5∧zk1 K (m+1) vs H Q E
theorem zfU {fd:FuncData} (T:Txt K mg t) (F:Fun K "_law_choices" "_law_choices" za1 t.l_choices fd):FnOk P w K mg base CX0 7 t.l_choices fd ["some","many"] (zfT K) :=
 ⟨fun vs H Q E ⟨m,_,h⟩=>(zcI (P:=P) (w:=w) (base:=base) (m+1) T F).len vs H Q E h,fun A outer s H args us vs Q E hr he hb hv ⟨m,hm,h⟩=>(zcI (P:=P) (w:=w) (base:=base) (m+1) T F).run A outer s H args us vs Q E (hr.mono #[O]) he hb hv h⟩
theorem zam:FnScope ["code","rows","t","p","k","places","both","known","choice","some","row","found","fitted"] ["code","rows","t"] (zj zaP):=#[S]
theorem zhJ {fd:FuncData} (T:Txt K mg t) (F:Fun K "_law_joint" "_law_joint" zaP t.l_joint fd):FnOk P w K mg base CX0 8 t.l_joint fd ["code","rows","t"] (zhD K):=by
 obtain⟨ou,mC,mE⟩:=T.f_l_choices;have nB:=zfU (P:=P) (w:=w) (base:=base) T mC;obtain⟨qP,pf,nC⟩:=T.f_l_through;have rG:=zfL (P:=P) (w:=w) (base:=base) T pf;obtain⟨tM,rH,pQ⟩:=T.f_l_fits;have va:=zjw (P:=P) (w:=w) (base:=base) T rH;refine F.ok zam (fun vs H Q E h=>?_) (fun l8 A outer s H vs Q E hr h=>?_)
 ·obtain⟨c,tt,ra,p,k,T',pl,nJ,rws,rfl,_⟩:=h;rfl
 ·obtain⟨c,tt,ra,p,k,T',pl,nJ,rws,rfl,hc,nL,tK,uu,hn,hp,o8,mT,pH,k0,k1,kT,m6,q⟩:=h;have hu:(A.deeper (envOfC (bU "_law_joint") (zj zaP) s.heap.objs.size t.l_joint l8)).units+20 < cLine:=by have:=hr.units; lia
  refine zbl ?_; intro zX;refine⟨_,#[zg,#[zbX,#[pvx,0],#[zbI,#[zq,#[zl,3,zam.nd,#[A]],#[zq,#[zl,4,zam.nd,#[A]],#[zq,#[zl,5,zam.nd,(dJ rfl)],#[zag]]]]]],#[zg,#[zaJ,6,zam.nd,#[A],(CompSc.of (N':=["number","rows"]) (ix:=[none,some 1]) (zj zaP) ["code","rows","t","p","k","places","both","known","choice","some","row","found","fitted"] rfl rfl #[N]),#[zaE],#[zaF,T.range_,#[ya,#[zy,#[zF],T.len_,cv,#[ya,#[pvx,5]]]]],(fun _ _ _ _=>#[zl,0,(show (["number","rows"]:List Str).Nodup from #[N]),(dJ rfl)]),(fun _ _ _ _=>#[zbd,#[zJ,#[zcJ,(K)],#[zdg],#[zas,(CompSc.of (N':=["row","number"]) (ix:=[none,some 0]) ({ kind:=.function,names:=[(".0",.local),("number",.cell),("rows",.cell)],isGenerator:=false,isCoroutine:=false }) ["number","rows"] (by with_unfolding_all rfl) rfl #[N]),#[zaE],#[zgE,(K),#[pvx,1]],(fun _ _ _ _=>#[zl,0,(show (["row","number"]:List Str).Nodup from #[N]),#[A]]),(fun _ _ _ _=>#[z8]),(fun _ _ _ _=>#[zL,#[zbu,(K)],#[pvx,0],#[pvx,1]])],(by with_unfolding_all rfl)]]),(fun _ _ _ _=>#[pvx,0])],#[zg,#[zr,7,zam.nd,#[A],(@zln _ _ (P) (w) rfl rfl)],#[zg,#[zaD,bA,#[z6,#[zH,nB,(hr.mono #[D]),T.m_l_choices,mC.kp,mE,#[zap],#[zd,#[pvx,6],#[ya,#[pvx,4]]]]],#[zl,8,zam.nd,#[A]],#[zg,#[zr,9,zam.nd,#[A],#[zY,#[zh]]],#[zg,#[zaD,bA,#[z6,#[pvx,1]],#[zl,10,zam.nd,(dJ rfl)],#[zn,#[zbW,#[zcB,bD,cL,cM,#[zbn],#[pvx,9],#[ya,#[zH,rG,(hr.mono #[D]),T.m_l_through,pf.kp,nC,#[zap],#[zd,#[pvx,3],#[ya,#[zas,(CompSc.of (N':=["number","places","row"]) (ix:=[none,some 5,some 10]) (zj zaP) ["code","rows","t","p","k","places","both","known","choice","some","row","found","fitted"] rfl rfl #[N]),#[zaE],#[z6,#[pvx,8]],(fun _ _ _ _=>#[zl,0,(show (["number","places","row"]:List Str).Nodup from #[N]),#[A]]),(fun _ _ _ _=>#[z8]),(fun _ _ _ _=>#[zbr,#[zd,#[zL,#[zdM,(K)],#[pvx,1],#[pvx,0]],#[ya,#[zL,#[zbu,(K)],#[pvx,2],#[pvx,0]]]]])]]]]]]]]],#[zn,(@zlo _ (P) (w) _ _ _ _ _ _ _ _ rfl rfl hu #[pvx,7] #[zaG,#[zaR],T.tuple_,g8,#[ya,#[pvx,9]]] #[zcS] rfl)]]]],#[zg,#[zr,11,zam.nd,#[A],#[zY,#[zh]]],#[zg,#[zaD,bA,#[z6,#[zy,(@zeK _ (P) (w) rfl rfl rfl hu),T.sorted_,boot_sorted,#[ya,#[pvx,7]]]],#[zl,9,zam.nd,#[A]],#[zg,#[zr,12,zam.nd,(dJ rfl),#[zas,(CompSc.of (N':=["row","one","code"]) (ix:=[none,none,some 0]) (zj zaP) ["code","rows","t","p","k","places","both","known","choice","some","row","found","fitted"] rfl rfl #[N]),#[zbt,#[zU,#[zU,#[za3]]]],(@zlr _ _ _ _ _ _ _ _ _ rfl T.zip_ #[zd,#[pvx,1],#[ya,#[pvx,9]]] (by rfl) (by rfl)),(fun _ _ _ _=>#[zaW,(K),2,#[zq,#[zl,0,(show (["row","one","code"]:List Str).Nodup from #[N]),#[A]],#[zq,#[zl,1,(show (["row","one","code"]:List Str).Nodup from #[N]),#[A]],#[zag]]]]),(fun _ _ _ _=>#[z8]),(fun _ _ _ _=>#[zH,va,(hr.mono #[D]),T.m_l_fits,rH.kp,pQ,#[zap],#[zd,#[pvx,2],#[zd,#[pvx,0],#[ya,#[pvx,1]]]]])]],#[zn,#[zbi,#[zJ,#[zjY],#[zy,#[zF],T.len_,cv,#[ya,#[zas,(CompSc.of (N':=["number","fitted"]) (ix:=[none,some 12]) (zj zaP) ["code","rows","t","p","k","places","both","known","choice","some","row","found","fitted"] rfl rfl #[N]),#[zaE],#[z6,#[pvx,6]],(fun _ _ _ _=>#[zl,0,(show (["number","fitted"]:List Str).Nodup from #[N]),(dJ rfl)]),(fun _ _ _ _=>#[zbd,#[zJ,#[zcJ,(K)],#[zcS],#[zas,(CompSc.of (N':=["one","number"]) (ix:=[none,some 0]) ({ kind:=.function,names:=[(".0",.local),("number",.cell),("fitted",.cell)],isGenerator:=false,isCoroutine:=false }) ["number","fitted"] (by with_unfolding_all rfl) rfl #[N]),#[zaE],#[zgE,(K),#[pvx,1]],(fun _ _ _ _=>#[zl,0,(show (["one","number"]:List Str).Nodup from #[N]),#[A]]),(fun _ _ _ _=>#[z8]),(fun _ _ _ _=>(@zlw _ _ _ _ _ _ _ _ #[zd8,(K)] #[pvx,1] #[pvx,0] (by with_unfolding_all rfl)))],(by with_unfolding_all rfl)]]),(fun _ _ _ _=>#[pvx,0])]]],#[pvx,2],(zad _)],#[zn,#[zbW,#[zcB,bD,cL,cM,#[zbn],#[pvx,11],#[ya,#[pvx,9]]]]],#[zaw]]]]],#[zn,#[zO,#[pvx,11]]]]]]]]],?_⟩;refine zm7 ?_; intro zN7 BV x9 uU qZ qh;have qu:=bt;have rp:=zN hp;have rD:nJ.length=rws.length:=tK.length;refine⟨_,rfl,c,_,rfl,lX.of hc.1,rfl,_,_,rfl,_,_,rfl,_,_,rfl,rfl,?_⟩;refine⟨_,rfl,tt,_,rfl,.inr (lX.of hc.2),_,rfl,by rw [ae]; lia,by rw [ae]; lia,?_⟩;rw [ae,bf];refine z9 (n:=pl.length) (fun i ys H'=>zA H H'∧ys=(bL rws i).map V.int) ⟨fun _ _ e=>e,rfl⟩ (fun i ys H' hi _=>hi) (fun ys H' _=>ah _) ?_ ?_
  ·rintro zS zT zE i xx ys H4 H5 hi ⟨s4,rfl⟩ ⟨rfl,rfl⟩;have wt:=zlc rws i;have nN:∀ {b:Addr} {rw:List (Option Int)},H5 b=some (.lst (rw.map mF))→rw.length=pl.length→atI (rw.map mF) (0+(i:Int))=some (mF (rw[i]?.getD none)):=fun {b rw} _ hl=>by
    rw [dg];exact zaV (by rw [ap,ao #[O]]; rfl)
   have qQ:=tK.same s4;refine⟨_,rfl,ra,rfl,⟨_,lN.of (s4 _ _ nL)⟩,z9 (n:=nJ.length) (fun j zs H'=>H'=H5∧zs=(rws.take j).map (fun rw=>mF (rw[i]?.getD none))) ⟨rfl,rfl⟩ ?_ ?_ ?_ ?_⟩
   ·rintro j zs H6 hj ⟨rfl,_⟩;exact⟨_,.ref nJ[j],lN.of (s4 _ _ nL),by rw [ap,ao hj]; rfl⟩
   ·rintro zs H6 ⟨rfl,_⟩;exact⟨_,lN.of (s4 _ _ nL),by rw [ae]; exact ah _⟩
   ·rintro zS zT zE j y zs H6 H7 hj ⟨rfl,rfl⟩ ⟨rfl,hy⟩;obtain⟨b,rfl,hb⟩:=zK (hy _ (lN.of (s4 _ _ nL)));obtain⟨rw,oo,Bg,oK⟩:=Paired.get qQ hb;refine gY ⟨_,rfl,_,rfl,b,_,_,_,rfl,rfl,lN.of Bg,nN Bg oK,?_,rfl,?_⟩
    ·rw [ae,aL]; lia
    ·rw [take_snoc oo,aw]; rfl
   rintro zs H6 D2 ⟨rfl,rfl⟩ xk;rw [rD,aX];have t6:=zf (o:=.lst (rws.map fun rw=>mF (rw[i]?.getD none))) xk;refine⟨D2,_,rfl,.inl (lN.of ze),rfl,?_,_,rfl,?_⟩
   ·rw [bH];intro y hy;obtain⟨rw,_,rfl⟩:=az.mp hy;cases (rw[i]?.getD none) <;> rfl
   rw [if_pos rfl,zlf,zmn,aw];refine zbc (fun h=>⟨_,rfl,by rw [ae]; lia,s4.trans t6,?_⟩) (fun h=>⟨s4.trans t6,?_⟩)
   ·rw [if_pos h,dg]; rfl
   ·rw [if_neg h]; simp
  rintro ys H4 D ⟨s4,rfl⟩ hD;have sD:=s4.trans (zf (o:=.lst ((bL rws pl.length).map V.int)) hD);have xm:lP H4 D (.lst ((bL rws pl.length).map V.int)) D=some (.lst ((bL rws pl.length).map V.int)):=ze;generalize lP H4 D (.lst ((bL rws pl.length).map V.int))=H5 at sD xm ⊢;have hbn:=zlc rws pl.length;have qQ:=tK.same sD;have uw:=hc.same sD;have hr5:=sD _ _ nL;have Es:∀ rw∈rws,rw.length=pl.length:=fun rw oo=>by
   obtain⟨j,hj⟩:=dM oo;have vA:=(ak.mp hj).1;obtain⟨r',h1,h2,h3⟩:=Paired.get tK (ao (show j < nJ.length by lia));rw [hj] at h1;cases h1;exact h3
  have Cc:∀ rw∈rws,Pts p (mw pl rw):=fun rw oo=>zin o8 mT (pH rw oo)
  intro Kd hKd;have u0:=zf (o:=DN P w Kd []) hKd;have Et:lP H5 Kd (DN P w Kd []) Kd=some (DN P w Kd []):=ze;generalize lP H5 Kd (DN P w Kd [])=H5a at u0 Et ⊢;refine⟨_,rfl,_,rfl,k,k1,D,bL rws pl.length,rfl,lN.of (u0 _ _ xm),#[O],#[O],fun l ls cs H6 hl s6 Bh hI lT mB=>?_⟩;have hlK:l≠Kd:=fun e=>by rw [e,Et] at hl; cases hl
  have h6K:=s6 _ _ Et;have v7:=hI.length;have B3:cs.length≤65536:=aV lT (aV (eL #[D] (show (bL rws pl.length).length≤16 by lia)) #[D]);have s56:zA H5 (hide H6 Kd):=fun b u e=>zac ((u0.trans s6) _ _ e) (zw e hKd)
  refine⟨l,rfl,⟨_,lN.of Bh⟩,zak (K:=K) (a:=l) (xs:=ls.map V.ref) (fun i σ H'=>∃ (xs:List (List (List Int)×Addr)) (e8 e9 tN:Option V),σ = [some (.ref c),some (.ref ra),some (.int (T':Int)),some (.int p),some (.int (k:Int)),some (.ref tt),some (.ref D),some (.ref Kd),e8,e9,tN,none,none]∧zA (hide H6 Kd) H'∧H' Kd=some (DN P w Kd xs)∧zco H' xs∧(xs.map (·.1)).Nodup∧xs.length≤i∧∀ qs,qs∈xs.map (·.1)↔qs∈(cs.take i).map (tnL p pl rws))
   ⟨[],none,none,none,rfl,zcj H6 Kd,h6K,fun x hx=>(by cases hx),#[M],ah _,fun qs=>by simp⟩ (fun i σ H' _ ⟨_,_,_,_,_,s3,_⟩=>lN.of (s3 _ _ (zac Bh hlK))) ?_ ?_⟩
  ·rintro zD zT i y σ H2 hy ⟨xs,e8,e9,tN,rfl,s2,Eu,xa,wa,yG,Bi⟩;obtain⟨lo,rfl,xU⟩:=zK hy;obtain⟨ch,oD,nN⟩:=Paired.get hI xU;obtain⟨qJ,uk⟩:=(mB ch).mp (aH oD);have ph:lo≠Kd:=fun e=>by rw [e,h6K] at nN; cases nN
   have Ew:=s2 _ _ (zac nN ph);have yj:=s56.trans s2;have Bj:=qQ.same yj;have vE:=yj _ _ hr5;have hil2:i < cs.length:=(ak.mp oD).1;refine⟨bo _,fun so yg=>?_⟩;have v2:=zf (o:=.lst []) yg;have f2:lP H2 so (.lst []) so=some (.lst []):=ze;generalize lP H2 so (.lst [])=H3 at v2 f2 ⊢;have hr3:=v2 _ _ vE;have hlen3:=Bj.length;refine⟨_,rfl,ra,rfl,⟨_,lN.of hr3⟩,zak (K:=K) (a:=ra) (xs:=nJ.map V.ref) (fun j σ H'=>∃ (vs:List Addr) (tN:Option V),σ = [some (.ref c),some (.ref ra),some (.int (T':Int)),some (.int p),some (.int (k:Int)),some (.ref tt),some (.ref D),some (.ref Kd),some (.ref lo),some (.ref so),tN,none,none]∧zA H2 H'∧H' so=some (.lst (vs.map V.ref))∧vs.length=j∧zaS H' vs ((rws.take j).map fun rw=>thr p (ch.map (zfK pl rw))))
    ⟨[],_,rfl,v2,f2,rfl,.nil⟩ (fun j σ H' _ ⟨_,_,_,s',_⟩=>lN.of (s' _ _ vE)) ?_ ?_⟩
   ·rintro zD zT j y σ H7 hy ⟨vs,tN,rfl,s7,Cd,xE,vb⟩;obtain⟨rb,rfl,vI⟩:=zK hy;obtain⟨rw,oo,yk,oK⟩:=Paired.get Bj vI;have yi:=aH oo;have vA:=(ak.mp oo).1;have wD:=s7 _ _ Ew;have ux:=yj.trans s7;have mH:ch.Sublist (zaH rw rw.length):=by rw [oK]; exact qJ.trans (zhB yi _)
    refine⟨_,rfl,.inl ⟨rfl,_,lN.of Cd⟩,_,rfl,_,rfl,lo,rfl,⟨_,lN.of wD⟩,z9 (n:=ch.length) (fun m ys H'=>zA H7 H'∧∃ us:List Addr,ys=us.map V.ref∧PtB H' us ((ch.take m).map (zfK pl rw))) ⟨fun _ _ e=>e,[],rfl,.nil⟩ ?_ ?_ ?_ ?_⟩
    ·rintro m ys H8 hm ⟨s8,_⟩;exact⟨_,.int ch[m],lN.of (s8 _ _ wD),by rw [ap,ao hm]; rfl⟩
    ·rintro ys H8 ⟨s8,_⟩;exact⟨_,lN.of (s8 _ _ wD),by rw [ae]; exact ah _⟩
    ·rintro zS zT zE m y ys H8 H9 hm ⟨s8,us,rfl,mJ⟩ ⟨rfl,hy⟩;obtain⟨z,rfl,hz⟩:=zax (hy _ (lN.of (s8 _ _ wD)));obtain⟨j',y',rfl,qp,hrj⟩:=zk3 (mH.subset (aH hz));obtain⟨x,hx⟩:∃ x,pl[j']? = some x:=⟨pl[j']'#[O],#[M]⟩;have vJ:=ux.trans s8;have pC:=mJ.length;rw [ae,aL] at pC;refine gY ⟨_,rfl,_,rfl,tt,_,_,.int x,rfl,rfl,lX.of (vJ _ _ uw.2),zaV (by rw [ap,hx]; rfl),_,rfl,_,rfl,rb,_,_,mF (some y'),rfl,rfl,lN.of ((s7.trans s8) _ _ yk),zaV (by rw [ap,hrj]; rfl),by show 2≤sizeLine; lia,fun T2 tH=>⟨by rw [ae]; lia,s8.trans (zf tH),us++[T2],by rw [aw]; rfl,?_⟩⟩;rw [take_snoc hz,aw];refine bR (mJ.same (zf tH)) ?_;unfold zfK;rw [bf,hx,hrj];exact ze
    ·rintro ys H8 Dp ⟨s8,us,rfl,mJ⟩ hDp;rw [aX] at mJ;have v8:=zf (o:=.lst (us.map V.ref)) hDp;refine⟨p,Dp,_,rfl,(mJ.same v8).pts ze,by rw [ae]; lia,hp,zcN oK (Cc rw yi) mH,fun tl H9 sf s9 h9=>?_⟩;have vM:=s8.trans (v8.trans s9);have h9s:=vM _ _ Cd;refine⟨so,_,_,rfl,rfl,h9s,by rw [ae]; lia,vs++[tl],_,rfl,zae (s7.trans vM) yg,by rw [ze,aw]; rfl,by rw [aB,xE]; rfl,?_⟩;rw [take_snoc oo,aw];exact zaS.put (bR (vb.same vM) h9) h9s
   ·rintro σ H7 ⟨vs,tN,rfl,s7,Cd,xE,vb⟩;rw [ae,rD,aX] at vb;refine⟨_,rfl,_,rfl,so,_,rfl,.inl ⟨lN.of Cd,fun tk xw=>?_⟩⟩;have t8:=zf (o:=.tup (vs.map V.ref)) xw;have f8:lP H7 tk (.tup (vs.map V.ref)) tk=some (.tup (vs.map V.ref)):=ze;generalize lP H7 tk (.tup (vs.map V.ref))=H8 at t8 f8 ⊢;have Ce:=s7.trans t8;have h8K:=Ce _ _ Eu;obtain⟨n1,n2,n3,n4⟩:=zjI (qs:=tnL p pl rws ch) (b:=tk) wa;refine⟨Kd,tk,vs,tnL p pl rws ch,xs,rfl,rfl,rfl,h8K,xa.same Ce,wa,#[O],f8,vb.same t8,?_⟩;refine⟨putN xs (tnL p pl rws ch) tk,_,_,_,rfl,?_,ze,?_,n1,#[O],fun qs=>?_⟩
    ·exact zae (s2.trans Ce) (by unfold hide; rw [if_pos rfl])
    ·refine zco.put h8K fun x hx=>?_
     rcases n4 x hx with h | rfl
     ·exact xa.same Ce x h
     ·exact⟨vs,f8,vb.same t8⟩
    ·rw [n3 qs,Bi qs,take_snoc oD,aw,aP];simp
  rintro σ H2 ⟨xs,e8,e9,tN,rfl,s2,Eu,xa,wa,yG,Bi⟩;rw [ae,v7,aX] at Bi;rw [ae,v7] at yG;have vx:∀ x∈xs,x.1.length=rws.length∧∀ q∈x.1,IsP p k q:=fun x hx=>by
   obtain⟨ch,oD,e⟩:=az.mp ((Bi x.1).mp (du hx));obtain⟨h1,h2⟩:=(mB ch).mp oD;rw [← e];exact zld hp Es Cc h1 h2
  have Ex:1≤rws.length:=by
   cases rws with
   | nil=>exact absurd rfl m6
   | cons=>simp
  have yj:=s56.trans s2;refine⟨bo _,fun fo Ey=>?_⟩;have u3:=zf (o:=.lst []) Ey;have f3:lP H2 fo (.lst []) fo=some (.lst []):=ze;generalize lP H2 fo (.lst [])=H3 at u3 f3 ⊢;refine⟨_,rfl,Kd,p,k,rws.length,xs,rfl,u3 _ _ Eu,xa.same u3,vx,Ex,#[O],fun sl bs pP yl vK hpw Ek=>?_⟩;have Ez:sl≠fo:=fun e=>by rw [e,f3] at yl; cases yl
  have u4:=zf (o:=.lst (bs.map V.ref)) yl;have f4:lP H3 sl (.lst (bs.map V.ref)) sl=some (.lst (bs.map V.ref)):=ze;have Bk:=Ek.same u4;generalize lP H3 sl (.lst (bs.map V.ref))=H4 at u4 f4 Bk ⊢;have EA:=u4 _ _ f3;have s5h:zA H5 (hide H4 fo):=fun b u e=>zac (((yj.trans u3).trans u4) _ _ e) (zw (yj _ _ e) Ey)
  have hTh:zby (hide H4 fo) bs pP:=bp (fun a q ⟨rs,z1,z2⟩=>⟨rs,zac z1 (fun e=>by rw [e,EA] at z1; cases z1),bp (fun b q z=>zac z (fun e=>by rw [e,EA] at z; cases z)) z2⟩) Bk;have yL:=hTh.length;have yQ:pP.length≤65536:=by
   have:=vK.length_eq;rw [ae] at this;lia
  refine⟨sl,rfl,⟨_,lN.of f4⟩,zak (K:=K) (a:=sl) (xs:=bs.map V.ref) (fun i σ H'=>∃ (ws:List Addr) (e9 tN vN:Option V),σ = [some (.ref c),some (.ref ra),some (.int (T':Int)),some (.int p),some (.int (k:Int)),some (.ref tt),some (.ref D),some (.ref Kd),e8,e9,tN,some (.ref fo),vN]∧zA (hide H4 fo) H'∧H' fo=some (.lst (ws.map V.ref))∧ws.length≤i∧zby H' ws ((pP.take i).filter fun qs=>decide (T'≤(cmn p pl rws qs).length)))
   ⟨[],_,_,_,rfl,zcj H4 fo,EA,ah _,.nil⟩ (fun i σ H' _ ⟨_,_,_,_,_,s',_⟩=>lN.of (s' _ _ (zac f4 Ez))) ?_ ?_⟩
  ·rintro zD zT i y σ H7 hy ⟨ws,Ee,EB,vN,rfl,s7,EC,vS,Bl⟩;obtain⟨sb,rfl,mH⟩:=zK hy;obtain⟨qs,u9,rs,z1,z2⟩:=Paired.get (hTh.same s7) mH;have hqm:=vK.mem_iff.mp (aH u9);obtain⟨x,hx,e⟩:=az.mp hqm;have hqi:=vx x hx;rw [e] at hqi;have hiq:=(ak.mp u9).1;have ux:=s5h.trans s7;have ED:=qQ.same ux;have Cf:=ux _ _ hr5;have hrs:=z2.length;have hfL:∀ w:List (Option Int)×List Int,(zaK p pl w.1 w.2 pl.length).length≤pl.length:=fun w=>zdt p pl w.1 w.2 pl.length
   refine⟨_,rfl,_,rfl,ra,sb,_,_,rfl,lN.of Cf,lX.of z1,z9 (n:=rws.length) (fun j ys H'=>zA H7 H'∧∃ us:List Addr,ys=us.map V.ref∧us.length=j∧zeG H' us (((rws.zip qs).take j).map fun w=>zaK p pl w.1 w.2 pl.length)) ⟨fun _ _ e=>e,[],rfl,rfl,.nil⟩ ?_ ?_ ?_ ?_⟩
   ·rintro j ys H8 hj ⟨s8,_⟩;exact⟨_,_,.ref (nJ[j]'#[O]),.ref (rs[j]'#[O]),lN.of (s8 _ _ Cf),lX.of (s8 _ _ z1),by rw [ap,ao #[O]]; rfl,by rw [ap,ao #[O]]; rfl⟩
   ·rintro ys H8 ⟨s8,_⟩;exact⟨_,_,lN.of (s8 _ _ Cf),lX.of (s8 _ _ z1),by rw [ae,rD]; exact .inl rfl⟩
   ·rintro zS zT zE j y ys H8 H9 hj ⟨s8,us,rfl,pC,mJ⟩ ⟨T2,v1,v2,tH,rfl,rfl,hv1,hv2⟩;obtain⟨rb,rfl,vI⟩:=zK (hv1 _ (lN.of (s8 _ _ Cf)));obtain⟨ro,rfl,hro⟩:=zK (hv2 _ (lX.of (s8 _ _ z1)));obtain⟨rw,oo,yk,oK⟩:=Paired.get (ED.same s8) vI;obtain⟨qq,AX,wB⟩:=Paired.get (z2.same s8) hro;have t9:=zf (o:=.tup [.ref rb,.ref ro]) tH;refine gY2 (lX.of ze) ?_;generalize lP H8 T2 (.tup [.ref rb,.ref ro])=H9 at t9 ⊢;have vJ:=ux.trans (s8.trans t9);refine⟨_,rfl,_,rfl,_,rfl,c,tt,rb,ro,p,k,pl,qq,rw,rfl,uw.same vJ,t9 _ _ yk,oK,t9 _ _ wB,#[O],#[O],mT,#[O],fun fl H10 xl s10 h10=>?_⟩;refine⟨by rw [ae]; lia,s8.trans (t9.trans s10),us++[fl],by rw [aw]; rfl,by rw [aB,pC]; rfl,?_⟩;rw [take_snoc (show (rws.zip qs)[j]? = some (rw,qq) from eY.mpr ⟨oo,AX⟩),aw];exact bR (mJ.same (t9.trans s10)) h10
   rintro ys H8 fi ⟨s8,us,rfl,pC,mJ⟩ hfi;rw [aO (by rw [List.length_zip]; lia)] at mJ;have t9:=zf (o:=.lst (us.map V.ref)) hfi;have f9:lP H8 fi (.lst (us.map V.ref)) fi=some (.lst (us.map V.ref)):=ze;generalize lP H8 fi (.lst (us.map V.ref))=H9 at t9 f9 ⊢;have ym:=mJ.same t9;have vM:=s8.trans t9;have Ci:=(ux.trans vM) _ _ xm;obtain⟨mo,Bm⟩:∃ mo,mo=(rws.zip qs).map fun w=>zaK p pl w.1 w.2 pl.length:=⟨_,rfl⟩
   rw [← Bm] at ym;have yP:=ym.length;have hml2:mo.length≤10:=by rw [← yP,pC]; exact uu
   refine⟨_,rfl,D,rfl,⟨_,lN.of Ci⟩,z9 (n:=(bL rws pl.length).length) (fun j ys H'=>zA H9 H'∧ys=(((bL rws pl.length).take j).filter fun z=>mo.all fun ms=>decide (z∈ms)).map V.int) ⟨fun _ _ e=>e,rfl⟩ ?_ ?_ ?_ ?_⟩
   ·rintro j ys Ha hj ⟨sa,_⟩;exact⟨_,.int (bL rws pl.length)[j],lN.of (sa _ _ Ci),by rw [ap,ao hj]; rfl⟩
   ·rintro ys Ha ⟨sa,_⟩;exact⟨_,lN.of (sa _ _ Ci),by rw [ae]; exact ah _⟩
   ·rintro zS zT zE j y ys Ha Hb hj ⟨sa,rfl⟩ ⟨rfl,hy⟩;obtain⟨z,rfl,hz⟩:=zax (hy _ (lN.of (sa _ _ Ci)));have wF:=sa _ _ f9;have EE:=ym.same' sa;refine⟨_,rfl,fi,rfl,⟨_,lN.of wF⟩,z9 (n:=us.length) (fun m zs H'=>H'=Hb∧zs=(mo.take m).map fun ms=>V.bl (decide (z∈ms))) ⟨rfl,rfl⟩ ?_ ?_ ?_ ?_⟩
    ·rintro m zs H' hm ⟨rfl,_⟩;exact⟨_,.ref us[m],lN.of wF,by rw [ap,ao hm]; rfl⟩
    ·rintro zs H' ⟨rfl,_⟩;exact⟨_,lN.of wF,by rw [ae]; exact ah _⟩
    ·rintro zS zT zE m y zs H' Hc hm ⟨rfl,rfl⟩ ⟨rfl,hy⟩;obtain⟨fl,rfl,xl⟩:=zK (hy _ (lN.of wF));obtain⟨ms,BP,EF⟩:=Paired.get EE xl;refine gY ⟨_,rfl,_,rfl,fl,_,rfl,.inl (lN.of EF),rfl,?_,?_,rfl,?_⟩
     ·rw [bH];intro y hy;obtain⟨m',_,rfl⟩:=az.mp hy;rfl
     ·rw [ae,aL]; lia
     ·rw [take_snoc BP,aw,if_neg #[M],ziu];rfl
    rintro zs H' D2 ⟨rfl,rfl⟩ xk;rw [yP,aX];have tb:=zf (o:=.lst (mo.map fun ms=>V.bl (decide (z∈ms)))) xk;refine⟨D2,_,rfl,.inl (lN.of ze),rfl,?_,_,rfl,?_⟩
    ·rw [bH];intro y hy;obtain⟨m',_,rfl⟩:=az.mp hy;rfl
    rw [if_pos rfl,znG,take_snoc hz,bV,aw];have EG:=cj (fun z=>mo.all fun ms=>decide (z∈ms)) ((bL rws pl.length).take j);rw [aL] at EG;refine zbc (fun h=>⟨_,rfl,by rw [ae]; lia,sa.trans tb,?_⟩) (fun h=>⟨sa.trans tb,?_⟩)
    ·rw [dX (p:=fun z=>mo.all fun ms=>decide (z∈ms)) h]; rfl
    ·rw [dY (p:=fun z=>mo.all fun ms=>decide (z∈ms)) h]; simp
   rintro ys Ha D3 ⟨sa,rfl⟩ yz;rw [aX];have vc:=zhC (p:=p) (pl:=pl) hqi.1;rw [← Bm] at vc;have tb:=zf (o:=.lst (((bL rws pl.length).filter fun z=>mo.all fun ms=>decide (z∈ms)).map V.int)) yz;refine⟨D3,_,rfl,.inl (lN.of ze),_,rfl,_,_,rfl,rfl,_,rfl,?_⟩;rw [ae,vc];generalize lP Ha D3 (.lst (((bL rws pl.length).filter fun z=>mo.all fun ms=>decide (z∈ms)).map V.int))=Hb at tb ⊢;have yn:=vM.trans (sa.trans tb);have wF:=yn _ _ EC;refine zbc (fun h=>?_) (fun h=>?_)
   ·have h:T'≤(cmn p pl rws qs).length:=by have:=of_decide_eq_true h; lia
    refine⟨_,rfl,.inl ⟨rfl,_,lN.of wF⟩,_,rfl,fo,_,_,rfl,rfl,wF,by rw [ae]; lia,ws++[sb],_,_,_,rfl,zae (s7.trans yn) (by unfold hide; rw [if_pos rfl]),by rw [ze,aw]; rfl,by rw [aB]; exact ic vS,?_⟩;rw [take_snoc u9,bV,dX (p:=fun qs=>decide (T'≤(cmn p pl rws qs).length)) (decide_eq_true h)];exact zby.put (bR (Bl.same yn) ⟨rs,yn _ _ z1,z2.same yn⟩) wF
   ·have h:¬ T'≤(cmn p pl rws qs).length:=fun z=>h (decide_eq_true #[O])
    refine⟨ws,_,_,_,rfl,s7.trans yn,wF,#[O],?_⟩;rw [take_snoc u9,bV,dY (p:=fun qs=>decide (T'≤(cmn p pl rws qs).length)) (by simpa using h),kY,bI];exact Bl.same yn
  rintro σ H7 ⟨ws,Ee,EB,vN,rfl,s7,EC,vS,Bl⟩;rw [ae,yL,aX] at Bl;rw [ae,yL] at vS;have s07:=sD.trans (s5h.trans s7);have EH:H fo=none:=(sD.trans yj).free Ey;refine⟨_,rfl,q fo ws _ H7 EH s07 EC #[O] Bl ?_ fun qs=>?_⟩
  ·refine List.Pairwise.filter _ (cK (fun {a b} ha hb h=>?_) (hpw.and (vK.nodup_iff.mpr wa)));have la:=vK.mem_iff.mp ha;have lb:=vK.mem_iff.mp hb;obtain⟨x,hx,rfl⟩:=az.mp la;obtain⟨y,hy,rfl⟩:=az.mp lb;have h1:=vx x hx;have h2:=vx y hy;have:nn p k x.1≠nn p k y.1:=fun e=>h.2 (znE #[O] (h1.1.trans h2.1.symm) h1.2 h2.2 e)
   have:=h.1;lia
  ·rw [bN,vK.mem_iff,Bi,decide_eq_true_iff];constructor
   ·rintro⟨h1,h2⟩;obtain⟨ch,oD,rfl⟩:=az.mp h1;obtain⟨g1,g2⟩:=(mB ch).mp oD;obtain⟨h3,h4⟩:=zld hp Es Cc g1 g2;exact⟨h3,h4,h2⟩
   ·intro h;obtain⟨ch,h1,h2,rfl⟩:=zjD hp Es Cc kT h;exact⟨du ((mB ch).mpr ⟨h1,h2⟩),h.many⟩
end
section
variable {P:Program} {w:World} {K:ag} {mg:Str→Option Value} {base:Heap} {t:Adr}
def RwN (n:Nat) (rl:Addr) (H:Hp):List Addr→List (List (Option Int))→Prop:=Paired fun b rw=>(H b=some (.lst (rw.map mF))∧rw.length=n)∧b≠rl
theorem RwN.same {n:Nat} {rl:Addr} {H H':Hp} (s:zA H H') {bs:List Addr} {rws:List (List (Option Int))} (h:RwN n rl H bs rws):RwN n rl H' bs rws:=bp (fun _ _ ⟨⟨z,z1⟩,z2⟩=>⟨⟨s _ _ z,z1⟩,z2⟩) h
theorem RwN.put {n:Nat} {rl:Addr} {H:Hp} {bs:List Addr} {rws:List (List (Option Int))} {o:HO} (h:RwN n rl H bs rws):RwN n rl (lP H rl o) bs rws:=bp (fun _ _ ⟨⟨z,z1⟩,z2⟩=>⟨⟨by rw [zp z2]; exact z,z1⟩,z2⟩) h
theorem RwN.out {n:Nat} {rl:Addr} {H:Hp} {bs:List Addr} {rws:List (List (Option Int))} (h:RwN n rl H bs rws):zer n H bs rws:=bp (fun _ _ ⟨z,_⟩=>z) h
def zjJ (K:ag):Sp:=fun vs H Q _=>∃ (a c tt:Addr) (ns:List Int) (at' p:Int) (k many:Nat) (pl:List Int),vs = [.ref a,.int at',.ref c,.int (many:Int)]∧lN K H a (ns.map V.int)∧ns.length≤63∧0≤at'∧at'≤900∧zbh H c tt p k pl∧p∈zz∧pl.length≤16∧(∀ x∈pl,0≤x∧x < p)∧many≤4 ∧
 ∀ (l:Addr) (nJ:List Addr) (rws:List (List (Option Int))) (H':Hp),H l=none→zA H H'→H' l=some (.lst (nJ.map V.ref))→zer pl.length H' nJ rws→rws.length=many→(∀ rw∈rws,∀ z,some z∈rw→0≤z∧z < p)→Q (.ref l) H'
structure RwI (p:Int) (n i:Nat) (rw:List (Option Int)):Prop where
 len:rw.length=n
 rg:∀ z,some z∈rw→0≤z∧z < p
 at':∀ j,i≤j→j < n→∃ y,rw[j]? = some (some y)
theorem RwI.set {p:Int} {n i:Nat} {rw:List (Option Int)} (h:RwI p n i rw) {o:Option Int} (ho:∀ z,o=some z→0≤z∧z < p):RwI p n (i+1) (rw.set i o):=by
 refine⟨by rw [eU]; exact h.len,fun z hz=>?_,fun j h1 h2=>?_⟩
 ·rcases eZ hz with h1 | h1
  ·exact h.rg z h1
  ·exact ho z h1.symm
 ·rw [cN #[O]];exact h.at' j #[O] h2
theorem RwI.set' {p:Int} {n i:Nat} {rw:List (Option Int)} (h:RwI p n i rw) {y:Int} (ho:0≤y∧y < p):RwI p n i (rw.set i (some y)):=by
 refine⟨by rw [eU]; exact h.len,fun z hz=>?_,fun j h1 h2=>?_⟩
 ·rcases eZ hz with h1 | h1
  ·exact h.rg z h1
  ·cases h1;exact ho
 ·by_cases e:i=j
  ·subst e;exact⟨y,dz (by rw [h.len]; exact h2)⟩
  ·rw [cN e];exact h.at' j h1 h2
theorem RwI.next {p:Int} {n i:Nat} {rw:List (Option Int)} (h:RwI p n i rw):RwI p n (i+1) rw:=⟨h.len,h.rg,fun j h1 h2=>h.at' j #[O] h2⟩
theorem zaB:FnScope ["script","at","code","many","p","k","places","draws","rows","j","one","row","number","draw"] ["script","at","code","many"] (zj zcn):=#[S]
theorem zjK {fd:FuncData} (T:Txt K mg t) (F:Fun K "_law_rows" "_law_rows" zcn t.l_rows fd):FnOk P w K mg base CX0 3 t.l_rows fd ["script","at","code","many"] (zjJ K):=by
 obtain⟨nT,me,mh⟩:=T.f_l_draws;have mK:=zcO (P:=P) (w:=w) (base:=base) T me;obtain⟨pv,nD,mQ⟩:=T.f_l_polynomial;have pR:=zdG (P:=P) (w:=w) (base:=base) T nD;obtain⟨nU,mf,mi⟩:=T.f_l_value;have mL:=zcP (P:=P) (w:=w) (base:=base) T mf;refine F.ok zaB (fun vs H Q E h=>?_) (fun l8 A outer s H vs Q E hr h=>?_)
 ·obtain⟨a,c,tt,ns,at',p,k,many,pl,rfl,_⟩:=h;rfl
 ·obtain⟨a,c,tt,ns,at',p,k,many,pl,rfl,hS,lT,a0,a1,hc,hp,hn,mT,hm4,q⟩:=h;refine zbl ?_; intro zX;refine⟨_,#[zg,#[zbX,#[pvx,2],#[zbI,#[zq,#[zl,4,zaB.nd,(dJ rfl)],#[zq,#[zl,5,zaB.nd,#[A]],#[zq,#[zl,6,zaB.nd,#[A]],#[zag]]]]]],#[zg,#[zr,7,zaB.nd,#[A],#[zH,mK,(hr.mono #[D]),T.m_l_draws,me.kp,mh,#[zap],#[zd,#[pvx,0],by exact #[zd,#[pvx,1],#[zd,#[zi],#[ya,#[zi]]]]]]],#[zg,#[zr,8,zaB.nd,#[A],#[zY,#[zh]]],#[zg,#[zaD,bA,#[zaF,T.range_,#[ya,#[pvx,3]]],#[zl,9,zaB.nd,#[A]],#[zg,#[zr,10,zaB.nd,(dJ rfl),#[zH,pR,(hr.mono #[D]),T.m_l_polynomial,nD.kp,mQ,#[zap],#[zd,#[zH,mK,(hr.mono #[D]),T.m_l_draws,me.kp,mh,#[zap],#[zd,#[pvx,0],by exact #[zd,#[zm,#[zR],#[zm,#[zR],#[pvx,1],#[zi]],#[pvx,9]],#[zd,#[zi],#[ya,#[zi]]]]]],#[zd,#[pvx,4],#[ya,#[pvx,5]]]]]],#[zg,#[zaJ,11,zaB.nd,#[A],(CompSc.of (N':=["x","p","one"]) (ix:=[none,some 4,some 10]) (zj zcn) ["script","at","code","many","p","k","places","draws","rows","j","one","row","number","draw"] rfl rfl #[N]),#[zaE],(@zmU _ _ _ _ #[pvx,6]),(fun _ _ _ _=>#[zl,0,(show (["x","p","one"]:List Str).Nodup from #[N]),#[A]]),(fun _ _ _ _=>#[z8]),(fun _ _ _ _=>#[zH,mL,(hr.mono #[D]),T.m_l_value,mf.kp,mi,#[zap],#[zd,#[pvx,1],#[zd,#[pvx,2],#[ya,#[pvx,0]]]]])],#[zg,#[zaD,bA,#[zaF,T.range_,#[ya,#[zy,#[zF],T.len_,cv,#[ya,#[pvx,6]]]]],#[zl,12,zaB.nd,#[A]],#[zg,#[zr,13,zaB.nd,#[A],#[zm,#[zfi],#[zL,#[zQ],#[pvx,7],#[pvx,12]],#[zi]]],#[zg,(zk2 #[zbi,(@PW.pt _ _ _ #[zgU,#[zJ,#[zcf],#[zm,#[zI],#[zL,#[zQ],#[pvx,7],#[pvx,12]],#[zi]],#[zi],(zad _)],#[zfh,#[zJ,#[zhO],#[zm,#[zI],#[zL,#[zQ],#[pvx,7],#[zi]],#[zi]],#[zi],(zad _)]]]),#[zn,#[zbX,#[zm,#[zI],#[zm,#[zR],#[zm,#[zR],#[zL,#[zQ],#[pvx,11],#[pvx,12]],#[zi]],#[zm,#[zI],#[zm,#[zR],#[pvx,13],#[zm,#[zaj],#[zi],#[pvx,9]]],#[zm,#[zbq],#[pvx,4],#[zi]]]],#[pvx,4]],#[zgW,#[pvx,11],#[pvx,12],set_list]]],#[zaw]]),#[zg,(zk2 #[zbi,(@PW.pt _ _ _ #[zgU,#[zJ,#[zcf],#[zm,#[zI],#[zL,#[zQ],#[pvx,7],#[zm,#[zR],#[zi],#[pvx,12]]],#[zi]],#[pvx,9],(zad _)],#[zfh,#[zJ,#[zcf],#[zm,#[zI],#[zL,#[zQ],#[pvx,7],#[zi]],#[zi]],#[zi],(zad _)]]]),#[zn,#[zbX,#[zdg],#[zgW,#[pvx,11],#[pvx,12],set_list]]],#[zaw]]),#[zn,#[zbi,#[zJ,#[zcf],#[zm,#[zI],#[zm,#[zfi],#[zL,#[zQ],#[pvx,7],#[zm,#[zR],#[zi],#[pvx,12]]],#[zi]],#[zi]],#[pvx,9],(zad _)],#[zn,#[zbX,#[zm,#[zI],#[pvx,13],#[pvx,4]],#[zgW,#[pvx,11],#[pvx,12],set_list]]],#[zaw]]]]]]],#[zn,#[zbW,#[zcB,bD,cL,cM,#[zbn],#[pvx,8],#[ya,#[pvx,11]]]]]]]]],#[zn,#[zO,#[pvx,8]]]]]]],?_⟩;refine zlF ?_; intro x9 uU qZ qh;have qu:=bt;have rp:=zN hp;refine⟨_,rfl,c,_,rfl,lX.of hc.1,rfl,_,_,rfl,_,_,rfl,_,_,rfl,rfl,?_⟩;refine⟨_,rfl,_,rfl,a,ns,at',40,27720,rfl,hS,lT,a0,#[O],#[D],#[D],#[D],#[D],fun dl ds H1 DG s1 hd vG=>?_⟩;have dat:∀ m:Int,0≤m→m < 40→∃ c:Int,atI (ds.map V.int) m=some (.int c):=fun m h0 h1=>zb3 h0 (by have:ds.length=40:=hd.1; lia)
  obtain⟨d38,e38⟩:=dat 38 #[D] #[D];obtain⟨d39,e39⟩:=dat 39 #[D] #[D];refine⟨bo _,fun rl oK=>?_⟩;have u2:=zf (o:=.lst []) oK;refine⟨_,rfl,_,rfl,#[O],#[O],za7 (lo:=0) (n:=((many:Nat):Int).toNat) (fun j σ H'=>∃ (us:List Addr) (rws:List (List (Option Int))) (e9 tN EI vN yS:Option V),σ = [some (.ref a),some (.int at'),some (.ref c),some (.int (many:Int)),some (.int p),some (.int (k:Int)),some (.ref tt),some (.ref dl),some (.ref rl),e9,tN,EI,vN,yS]∧zA H1 H'∧H' rl=some (.lst (us.map V.ref))∧RwN pl.length rl H' us rws∧rws.length=j∧∀ rw∈rws,∀ z,some z∈rw→0≤z∧z < p)
   ⟨[],[],none,none,none,none,none,rfl,u2,ze,.nil,rfl,fun rw h=>(by cases h)⟩ ?_ ?_⟩
  ·rintro zD zT j σ H3 hj ⟨us,rws,e9,tN,EI,vN,yS,rfl,s3,yT,xi,vA,pH⟩;have hj4:j < 4:=by lia
   have vH:=s1.trans s3;refine⟨_,rfl,_,rfl,_,_,rfl,rfl,_,rfl,_,_,rfl,rfl,a,ns,_,6,27720,rfl,vH.seq hS,lT,#[O],#[O],#[D],#[D],#[D],#[D],fun l4 d4 H4 hl4 s4 hd4 h4=>?_⟩;have hd4l:d4.length=6:=hd4.1;refine⟨_,rfl,_,rfl,l4,d4,p,(k:Int),rfl,lN.of h4,#[O],#[O],fun po l6 H5 yc s5 AJ h5 hplen=>?_⟩;have xo:=s4.trans s5;have uw:=hc.same (vH.trans xo);refine⟨_,rfl,tt,rfl,⟨_,lX.of uw.2⟩,ziY (K:=K) (xs:=pl.map V.int) (fs:=(pl.map fun x=>some (zu p x l6)).map mF) (lX.of uw.2) (by rw [ae,ae,ae]) (by rw [ae]; lia) ?_ ?_⟩
   ·intro i2 x y R B hx hy hR;obtain⟨v,rfl,hv⟩:=zax hx;rw [ap,ap,hv] at hy;obtain rfl:V.int (zu p v l6)=y:=aG hy;obtain⟨x0,x1⟩:=mT v (aH hv);refine gY ?_;exact⟨_,rfl,_,rfl,_,rfl,p,v,po,l6,rfl,.inr (lX.of h5),#[O],#[O],x0,x1,hR⟩
   intro ra nL;have yo:=nL;have Bn:ra≠rl:=fun e=>by rw [e,xo _ _ yT] at nL; cases nL
   have hI0:RwI p pl.length 0 (pl.map fun x=>some (zu p x l6)):=by
    refine⟨by rw [ae],fun z hz=>?_,fun i2 _ h2=>⟨zu p pl[i2] l6,by rw [ap,ao h2]; rfl⟩⟩;obtain⟨x,_,e⟩:=az.mp hz;cases e;exact⟨zbD #[O] _,zbE #[O] _⟩
   refine⟨_,rfl,tt,_,rfl,.inr (lX.of ((zf nL) _ _ uw.2)),_,rfl,by rw [ae]; lia,by rw [ae]; lia,?_⟩;rw [ae,bf];refine za7 (lo:=0) (n:=pl.length) (fun i σ H'=>∃ (rw:List (Option Int)) (vN yS:Option V),σ = [some (.ref a),some (.int at'),some (.ref c),some (.int (many:Int)),some (.int p),some (.int (k:Int)),some (.ref tt),some (.ref dl),some (.ref rl),some (.int (0+(j:Int))),some (.ref po),some (.ref ra),vN,yS]∧zA H5 H'∧H' ra=some (.lst (rw.map mF))∧RwI p pl.length i rw)
    ⟨_,_,_,rfl,zf nL,ze,hI0⟩ ?_ ?_
   ·rintro zD zT i σ H6 hi ⟨rw,vN,yS,rfl,s6,tO,hI⟩;have vO:=s6 _ _ (xo _ _ (s3 _ _ vG));obtain⟨di,ei⟩:=dat (0+(i:Int)) #[O] #[O];obtain⟨dj,ej⟩:=dat (16+(0+(i:Int))) #[O] #[O];refine⟨_,rfl,_,rfl,dl,_,_,_,rfl,rfl,lN.of vO,ei,_,_,rfl,rfl,⟨#[D],#[D]⟩,?_⟩;refine⟨fun σ H'=>∃ (rw:List (Option Int)),σ = [some (.ref a),some (.int at'),some (.ref c),some (.int (many:Int)),some (.int p),some (.int (k:Int)),some (.ref tt),some (.ref dl),some (.ref rl),some (.int (0+(j:Int))),some (.ref po),some (.ref ra),some (.int (0+(i:Int))),some (.int (di / 6))]∧zA H5 H'∧H' ra=some (.lst (rw.map mF))∧RwI p pl.length i rw,?_,?_⟩
    ·obtain⟨y,hy⟩:=hI.at' i (ah _) hi;have EJ:atI (rw.map mF) (0+(i:Int))=some (.int y):=by rw [dg]; exact zaV (by rw [ap,hy]; rfl)
     have keep:(∃ (rw:List (Option Int)),([some (.ref a),some (.int at'),some (.ref c),some (.int (many:Int)),some (.int p),some (.int (k:Int)),some (.ref tt),some (.ref dl),some (.ref rl),some (.int (0+(j:Int))),some (.ref po),some (.ref ra),some (.int (0+(i:Int))),some (.int (di / 6))]:L2.St) = [some (.ref a),some (.int at'),some (.ref c),some (.int (many:Int)),some (.int p),some (.int (k:Int)),some (.ref tt),some (.ref dl),some (.ref rl),some (.int (0+(j:Int))),some (.ref po),some (.ref ra),some (.int (0+(i:Int))),some (.int (di / 6))]∧zA H5 H6∧H6 ra=some (.lst (rw.map mF))∧RwI p pl.length i rw):=⟨rw,rfl,s6,tO,hI⟩;refine⟨_,rfl,_,rfl,dl,_,_,_,rfl,rfl,lN.of vO,ei,_,_,rfl,rfl,(by show (0:Int) < 3; decide),rfl,_,rfl,zbc (fun _=>?_) (fun _=>zeB keep)⟩;refine⟨_,rfl,dl,_,_,_,rfl,rfl,lN.of vO,e38,_,_,rfl,rfl,(by show (0:Int) < 4; decide),_,_,rfl,rfl,_,rfl,zbc (fun _=>?_) (fun _=>keep)⟩;refine⟨_,rfl,_,rfl,ra,_,_,_,rfl,rfl,lN.of tO,EJ,_,_,rfl,rfl,_,rfl,_,rfl,_,_,rfl,rfl,.inl ⟨#[D],#[D]⟩,_,_,rfl,rfl,_,rfl,_,_,rfl,rfl,_,_,rfl,rfl,#[O],_,_,rfl,rfl,_,rfl,_,_,rfl,rfl,#[O],?_⟩;refine⟨_,rfl,_,rfl,ra,_,_,i,rfl,rfl,tO,by rw [dg]; exact zfx (by rw [ae,hI.len]; exact hi),?_⟩;exact⟨rw.set i (some ((y+1+(di / 6+5*(0+(j:Int))) % (p - 1)) % p)),rfl,zae s6 yo,by rw [ze,j0]; rfl,hI.set' ⟨aQ _ #[O],aK _ #[O]⟩⟩
    ·clear hI tO vO s6;rintro σ H6 ⟨rw,rfl,s6,tO,hI⟩;have vO:=s6 _ _ (xo _ _ (s3 _ _ vG));refine⟨fun σ H'=>∃ (rw:List (Option Int)),σ = [some (.ref a),some (.int at'),some (.ref c),some (.int (many:Int)),some (.int p),some (.int (k:Int)),some (.ref tt),some (.ref dl),some (.ref rl),some (.int (0+(j:Int))),some (.ref po),some (.ref ra),some (.int (0+(i:Int))),some (.int (di / 6))]∧zA H5 H'∧H' ra=some (.lst (rw.map mF))∧RwI p pl.length (i+1) rw,?_,?_⟩
     ·have keep:(∃ (rw:List (Option Int)),([some (.ref a),some (.int at'),some (.ref c),some (.int (many:Int)),some (.int p),some (.int (k:Int)),some (.ref tt),some (.ref dl),some (.ref rl),some (.int (0+(j:Int))),some (.ref po),some (.ref ra),some (.int (0+(i:Int))),some (.int (di / 6))]:L2.St) = [some (.ref a),some (.int at'),some (.ref c),some (.int (many:Int)),some (.int p),some (.int (k:Int)),some (.ref tt),some (.ref dl),some (.ref rl),some (.int (0+(j:Int))),some (.ref po),some (.ref ra),some (.int (0+(i:Int))),some (.int (di / 6))]∧zA H5 H6∧H6 ra=some (.lst (rw.map mF))∧RwI p pl.length (i+1) rw):=⟨rw,rfl,s6,tO,hI.next⟩;refine⟨_,rfl,_,rfl,_,_,rfl,rfl,dl,_,_,_,rfl,rfl,lN.of vO,ej,_,_,rfl,rfl,(by show (0:Int) < 11; decide),_,rfl,rfl,_,rfl,zbc (fun _=>?_) (fun _=>zeB keep)⟩;refine⟨_,rfl,dl,_,_,_,rfl,rfl,lN.of vO,e39,_,_,rfl,rfl,(by show (0:Int) < 2; decide),rfl,_,rfl,zbc (fun _=>?_) (fun _=>keep)⟩;refine⟨_,rfl,_,rfl,ra,_,_,i,rfl,rfl,tO,by rw [dg]; exact zfx (by rw [ae,hI.len]; exact hi),?_⟩;exact⟨rw.set i none,rfl,zae s6 yo,by rw [ze,j0]; rfl,hI.set fun z h=>(by cases h)⟩
     ·clear hI tO vO s6;rintro σ H6 ⟨rw,rfl,s6,tO,hI⟩;have vO:=s6 _ _ (xo _ _ (s3 _ _ vG));refine⟨_,rfl,_,rfl,_,_,rfl,rfl,dl,_,_,_,rfl,rfl,lN.of vO,ej,_,_,rfl,rfl,⟨#[D],#[D]⟩,_,_,rfl,rfl,(by show (0:Int) < 9; decide),_,rfl,rfl,_,rfl,zbc (fun _=>?_) (fun _=>⟨rw,_,_,rfl,s6,tO,hI⟩)⟩;refine⟨_,rfl,_,rfl,_,_,rfl,rfl,#[O],_,rfl,_,rfl,ra,_,_,i,rfl,rfl,tO,by rw [dg]; exact zfx (by rw [ae,hI.len]; exact hi),?_⟩;refine⟨rw.set i (some (di / 6 % p)),_,_,rfl,zae s6 yo,by rw [ze,j0]; rfl,by rw [eU]; exact hI.len,fun z hz=>?_,fun j2 h1 h2=>?_⟩
      ·rcases eZ hz with h1 | h1
       ·exact hI.rg z h1
       ·cases h1;exact⟨aQ _ #[O],aK _ #[O]⟩
      ·rw [cN #[O]];exact hI.at' j2 h1 h2
   ·rintro σ H6 ⟨rw,e12',e13',rfl,s6,tO,hI⟩;have Bh:=s6 _ _ (xo _ _ yT);have pC:=xi.length;refine⟨_,rfl,.inl ⟨rfl,_,lN.of Bh⟩,_,rfl,rl,_,_,rfl,rfl,Bh,by rw [ae]; lia,?_⟩;refine⟨us++[ra],rws++[rw],_,_,_,_,_,rfl,zae (s3.trans (xo.trans s6)) oK,by rw [ze,aw]; rfl,bR ((xi.same (xo.trans s6)).put) ⟨⟨by rw [zp Bn]; exact tO,hI.len⟩,Bn⟩,by rw [aB,vA]; rfl,fun wM hw=>?_⟩;rcases aP.mp hw with h | h
    ·exact pH wM h
    ·rw [aY.mp h];exact hI.rg
  ·rintro σ H3 ⟨us,rws,e9,tN,EI,vN,yS,rfl,s3,yT,xi,vA,pH⟩;exact⟨_,rfl,q rl us rws H3 (s1.free oK) (s1.trans s3) yT xi.out #[O] pH⟩
end
section
variable {P:Program} {w:World} {K:ag} {mg:Str→Option Value} {base:Heap} {t:Adr}
theorem znL {P:Program} {w:World} {X:Cx}:zd3 (CX1 P w) X E0:=by
 intro lM σ H s ev s' I hq;obtain⟨e,C,H',B,_,_,_,_,q⟩:=hq;exact q.elim
theorem zeL {X:Cx} (hK:X.K=K):zbB X (.type "list") (fun xs H Q=>∃ p ys,xs = [.ref p]∧(lN K H p ys∨lX K H p ys)∧∀ l,H l=none→Q (.ref l) (lP H l (.lst ys))):=by subst hK; exact zfm
theorem zmt {H:Hp} {a b:Addr} {rw:List (Option Int)} (ha:H a=some (.lst (rw.map mF))) (hb:H b=some (.lst (rw.map mF))):EqD K H 8 (.ref a) (.ref b) true:=by
 by_cases oC:a=b
 ·subst oC;exact .same
 ·have h:=EqD.lists (K:=K) (d:=7) (e:=fun _=>true) oC (lN.of ha) (lN.of hb) rfl fun j x y hx hy=>by
   rw [hx] at hy;cases hy;obtain⟨o,rfl,_⟩:=zdN hx;have h:EqD K H 7 (mF o) (mF o) (eqV (mF o) (mF o)):=EqD.flat (by cases o <;> rfl) (by cases o <;> rfl);have e:eqV (mF o) (mF o)=true:=by cases o <;> simp [mF,eqV]
   rw [e] at h;exact h
  have e:(bg (rw.map mF).length).all (fun _=>true)=true:=by simp
  rw [e] at h;exact h
theorem zjL {n:Nat} {H:Hp} {Q:VK} {a b:Addr} {as bs:List Addr} {rws:List (List (Option Int))} (ha:H a=some (.lst (as.map V.ref))) (hb:H b=some (.lst (bs.map V.ref))) (h1:zer n H as rws) (h2:zer n H bs rws) (q:Q (.bl false) H):zlG K true (.ref a) (.ref b) H Q:=by
 have l1:=h1.length;have l2:=h2.length;refine⟨a,b,_,_,rfl,rfl,.inl ⟨lN.of ha,lN.of hb⟩,.inr ⟨by rw [ae,ae]; lia,fun _=>true,fun j x y e1 e2=>?_,?_⟩⟩
 ·obtain⟨x,rfl,hx⟩:=zK e1;obtain⟨y,rfl,hy⟩:=zK e2;obtain⟨r1,z1,z2,_⟩:=Paired.get h1 hx;obtain⟨r2,w1,w2,_⟩:=Paired.get h2 hy;rw [z1] at w1;cases w1;exact zmt z2 w2
 ·have:(bg (as.map V.ref).length).all (fun _=>true)=true:=by simp
  rw [this];exact q
theorem zoG {H:Hp} {Q:VK} {a b:Addr} {as bs:List Addr} {ps:List (List Int)} (ha:H a=some (.lst (as.map V.ref))) (hb:H b=some (.lst (bs.map V.ref))) (h1:zaS H as ps) (h2:zaS H bs ps) (q:Q (.bl false) H):zlG K true (.ref a) (.ref b) H Q:=by
 have l1:=h1.length;have l2:=h2.length;refine⟨a,b,_,_,rfl,rfl,.inl ⟨lN.of ha,lN.of hb⟩,.inr ⟨by rw [ae,ae]; lia,fun _=>true,fun j x y e1 e2=>?_,?_⟩⟩
 ·obtain⟨x,rfl,hx⟩:=zK e1;obtain⟨y,rfl,hy⟩:=zK e2;obtain⟨r1,z1,z2⟩:=Paired.get h1 hx;obtain⟨r2,w1,w2⟩:=Paired.get h2 hy;rw [z1] at w1;cases w1;exact ziy (d:=7) z2 w2
 ·have:(bg (as.map V.ref).length).all (fun _=>true)=true:=by simp
  rw [this];exact q
theorem zbN:FnScope ["script","at","code","plan","rows","t","handed","found","alone"] ["script"] (zj zca):=#[S]
theorem znM {fd:FuncData} (T:Txt K mg t) (F:Fun K "law" "law" zca t.law fd):FnOk P w K mg base CX0 9 t.law fd ["script"] (zfz K):=by
 obtain⟨tP,rJ,pS⟩:=T.f_l_code;have vd:=zju (P:=P) (w:=w) (base:=base) T rJ;obtain⟨nT,me,mh⟩:=T.f_l_draws;have mK:=zcO (P:=P) (w:=w) (base:=base) T me;obtain⟨tQ,rK,pT⟩:=T.f_l_rows;have ve:=zjK (P:=P) (w:=w) (base:=base) T rK;obtain⟨tR,pU,ow⟩:=T.f_l_told;have rL:=zjC (P:=P) (w:=w) (base:=base) T pU;obtain⟨sC,qE,oP⟩:=T.f_l_joint;have tS:=zhJ (P:=P) (w:=w) (base:=base) T qE;obtain⟨pd,mO,mP⟩:=T.f_all_near;have nW:=zdA (P:=P) (w:=w) (base:=base) T mO;refine F.ok zbN (fun vs H Q E h=>?_) (fun l8 A outer s H vs Q E hr h=>?_)
 ·obtain⟨a,ns,rfl,_⟩:=h;rfl
 ·obtain⟨a,ns,rfl,hS,lT,q⟩:=h;have hu:(A.deeper (envOfC (bU "law") (zj zca) s.heap.objs.size t.law l8)).units+20 < cLine:=by have:=hr.units; lia
  refine zbl ?_; intro zX;refine⟨_,#[zg,#[zaD,bA,#[zaF,T.range_,#[ya,#[zi]]],#[zl,1,zbN.nd,#[A]],#[zg,#[zr,2,zbN.nd,#[A],#[zH,vd,(hr.mono #[D]),T.m_l_code,rJ.kp,pS,#[zap],#[zd,#[pvx,0],by exact #[zd,#[zm,#[zaj],#[zi],#[pvx,1]],#[zd,#[zi],#[ya,#[zL,#[zQ],#[zY,#[zd,#[zi],#[ya,#[zi]]]],#[pvx,1]]]]]]]],#[zg,#[zr,3,zbN.nd,#[A],#[zH,mK,(hr.mono #[D]),T.m_l_draws,me.kp,mh,#[zap],#[zd,#[pvx,0],by exact #[zd,#[zm,#[zR],#[zm,#[zaj],#[zi],#[pvx,1]],#[zi]],#[zd,#[zi],#[ya,#[zi]]]]]]],#[zg,#[zr,4,zbN.nd,#[A],#[zH,ve,(hr.mono #[D]),T.m_l_rows,rK.kp,pT,#[zap],#[zd,#[pvx,0],by exact #[zd,#[zm,#[zR],#[zm,#[zaj],#[zi],#[pvx,1]],#[zi]],#[zd,#[pvx,2],#[ya,#[zm,#[zR],#[zi],#[zm,#[zI],#[zL,#[zQ],#[pvx,3],#[zi]],#[zi]]]]]]]]],#[zg,#[zaD,bA,#[z6,#[zY,#[zd,#[zL,#[zbs],#[pvx,2],#[zi]],#[zd,#[zm,#[zR],#[zL,#[zbs],#[pvx,2],#[zi]],#[zm,#[zI],#[zL,#[zQ],#[pvx,3],#[zi]],#[zi]]],#[ya,#[zm,#[zR],#[zL,#[zbs],#[pvx,2],#[zi]],#[zm,#[zI],#[zL,#[zQ],#[pvx,3],#[zi]],#[zi]]]]]]]],#[zl,5,zbN.nd,#[A]],#[zg,#[zaJ,6,zbN.nd,#[A],(CompSc.of (N':=["row"]) (ix:=[none]) (zj zca) ["script","at","code","plan","rows","t","handed","found","alone"] rfl rfl #[N]),#[zaE],#[z6,#[pvx,4]],(fun _ _ _ _=>#[zl,0,(show (["row"]:List Str).Nodup from #[N]),#[A]]),(fun _ _ _ _=>#[z8]),(fun _ _ _ _=>#[zaG,(zeL (K:=K) rfl),T.list_,jW,#[ya,#[pvx,0]]])],#[zg,#[zr,7,zbN.nd,#[A],#[zH,rL,(hr.mono #[D]),T.m_l_told,pU.kp,ow,#[zap],#[zd,#[pvx,2],#[zd,#[pvx,6],#[ya,#[pvx,5]]]]]],#[zg,#[zbi,(@PW.pt _ _ _ #[zjP,#[zjQ,#[zjN,#[zy,(@zf7 _),T.isinstance_,bX,#[zd,#[pvx,7],#[ya,#[zhK,(.ty "list"),T.list_,jW]]]]]],#[zjP,#[zJ,#[zg6,hu],#[pvx,7],#[zH,tS,(hr.mono #[D]),T.m_l_joint,qE.kp,oP,#[zap],#[zd,#[pvx,2],#[zd,#[pvx,4],#[ya,#[pvx,5]]]]],(zad _)],#[zjO,#[zJ,#[zg6,hu],#[pvx,6],#[pvx,4],(zad _)]]]]),#[zn,#[zO,#[zcS]]],#[zaw]],#[zg,#[zaJ,8,zbN.nd,#[A],(CompSc.of (N':=["some"]) (ix:=[none]) (zj zca) ["script","at","code","plan","rows","t","handed","found","alone"] rfl rfl #[N]),#[zaE],#[z6,#[pvx,7]],(fun _ _ _ _=>#[zl,0,(show (["some"]:List Str).Nodup from #[N]),#[A]]),(fun _ _ _ _=>#[z8]),(fun _ _ _ _=>#[zL,#[zdM,(K)],#[pvx,0],#[zi]])],#[zg,#[zbi,(@PW.pt _ _ _ #[zgU,#[zJ,#[zcf],#[zy,#[zF],T.len_,cv,#[ya,#[pvx,4]]],#[zi],(zad _)],#[zfh,#[zJ,#[zg6,hu],#[pvx,8],#[zH,nW,(hr.mono #[D]),T.m_all_near,mO.kp,mP,(@znL _ _ _),#[zd,#[pvx,2],#[zd,#[zL,#[zQ],#[pvx,4],#[zi]],#[ya,#[pvx,5]]]]],(zad _)]]]),#[zn,#[zO,#[zcS]]],#[zaw]],#[zn,#[zbW,#[zcB,bD,cL,cM,#[zbn],#[pvx,7],#[ya,#[zi]]]]]]]]]]],#[zn,#[zaD,bA,#[z6,#[zY,#[zd,#[zm,#[zbq],#[zL,#[zbs],#[pvx,2],#[zi]],#[zi]],#[zd,#[zi],#[ya,#[zm,#[zbq],(@znV _ _ _ _ _ _ zmZ #[zi]),#[zL,#[zQ],#[pvx,3],#[zi]]]]]]]],#[zl,5,zbN.nd,#[A]],#[zn,#[zbi,#[zJ,#[zmv],#[zH,rL,(hr.mono #[D]),T.m_l_told,pU.kp,ow,#[zap],#[zd,#[pvx,2],#[zd,#[pvx,4],#[ya,#[pvx,5]]]]],#[zfg],(zad _)],#[zn,#[zO,#[zcS]]],#[zaw]]]]]]]]]],#[zn,#[zO,#[zcS]]]],?_⟩;refine zm5 ?_; intro qh;have qu:=bt;refine⟨2,rfl,#[D],#[D],?_⟩;refine za7 (lo:=0) (n:=2) (fun i σ H'=>∃ (e1 e2 e3 e4 e5 e6 e7 e8:Option V),σ = [some (.ref a),e1,e2,e3,e4,e5,e6,e7,e8]∧zA H H') ⟨none,none,none,none,none,none,none,none,rfl,fun _ _ e=>e⟩ ?_ ?_
  ·rintro zD zT i σ H0 hi ⟨e1,e2,e3,e4,e5,e6,e7,e8,rfl,s0⟩;obtain⟨mn,emn,hmn⟩:∃ mn:Int,atI [V.int 10,V.int 8] (0+(i:Int))=some (.int mn)∧5≤mn∧mn≤16:=by
    have:i=0∨i=1:=by lia
    rcases this with e | e <;> subst e
    ·exact⟨10,rfl,#[D],#[D]⟩
    ·exact⟨8,rfl,#[D],#[D]⟩
   show zT (zD i) [some (.ref a),some (.int (0+(i:Int))),e2,e3,e4,e5,e6,e7,e8] H0;refine zlF ?_; intro zP5 zP4 zP3 zP2;refine⟨_,rfl,_,rfl,_,_,rfl,rfl,.inl ⟨#[D],#[D]⟩,zaC,fun l2 n8=>?_⟩;have u0:=s0.trans (zf (o:=.lst [.int 10,.int 8]) n8);refine⟨_,rfl,l2,_,_,_,rfl,rfl,lN.of ze,emn,a,ns,9*(0+(i:Int)),4,mn,rfl,u0.seq hS,lT,#[O],#[O],#[D],#[D],#[O],hmn.2,fun c tt p kI pl H1 D6 s1 co qB h1t=>?_⟩;have rp:=zN co.pr;have k1:=co.k1;have kk:=co.kk;have kn:=co.kl;have ln:=co.ln;have p0:0 < p:=by lia
   have yJ:pl.length≤16:=by lia
   obtain⟨k,rfl⟩:∃ k:Nat,kI=k:=⟨kI.toNat,#[O]⟩;have sA1:=u0.trans s1;have EK:zbh H1 c tt p k pl:=⟨qB,h1t⟩;refine⟨_,rfl,_,rfl,_,_,rfl,rfl,.inl ⟨#[D],#[D]⟩,_,_,rfl,rfl,a,ns,9*(0+(i:Int))+1,4,27720,rfl,sA1.seq hS,lT,#[O],#[O],#[D],#[D],#[D],#[D],fun pa ds H2 hpa s2 hd h2p=>?_⟩;obtain⟨d0,BW⟩:=zb3 (ns:=ds) (k:=0) #[D] (by have:ds.length=4:=hd.1; lia);obtain⟨d1,DI⟩:=zb3 (ns:=ds) (k:=1) #[D] (by have:ds.length=4:=hd.1; lia);obtain⟨d2,DJ⟩:=zb3 (ns:=ds) (k:=2) #[D] (by have:ds.length=4:=hd.1; lia);obtain⟨d3,md3,DK⟩:=zg9 (ns:=ds) (k:=3) #[D] (by have:ds.length=4:=hd.1; lia);have m0:=aQ d0 (show (4:Int)≠0 by decide);have m1:=aK d0 (show (0:Int) < 4 by decide);obtain⟨many,Bo⟩:∃ many:Nat,1+d0 % 4=(many:Int):=⟨(1+d0 % 4).toNat,#[O]⟩;have sA2:=sA1.trans s2;have uC:=EK.same s2;refine⟨_,rfl,_,rfl,_,_,rfl,rfl,.inl ⟨#[D],#[D]⟩,_,_,rfl,rfl,_,rfl,_,rfl,pa,_,_,_,rfl,rfl,lN.of h2p,BW,_,_,rfl,rfl,(by show (0:Int) < 4; decide),_,_,rfl,rfl,a,c,tt,ns,9*(0+(i:Int))+2,p,k,many,pl,?_,sA2.seq hS,lT,#[O],#[O],uC,co.pr,yJ,co.rg,#[O],fun ra nJ rws H3 nL s3 yT tK oK pH=>?_⟩
   ·rw [← Bo];rfl
   have rD:nJ.length=rws.length:=tK.length;have m6:rws≠[]:=fun e0=>by rw [e0] at oK; simp at oK; lia
   have sA3:=sA2.trans s3;have Cj:=uC.same s3;have EL:=s3 _ _ h2p;have hds:ds.length=4:=hd.1;have hd3:0≤d3:=(hd.2 d3 (aH md3)).1;have q1a:=aQ d1 (show (4:Int)≠0 by decide);have q2a:=aQ d2 (show (9:Int)≠0 by decide);have kT9:∀ {T:Nat},k≤T→(k:Int)≤T:=fun h=>by lia
   refine⟨_,rfl,c,_,_,_,rfl,rfl,lX.of Cj.1,rfl,_,rfl,c,_,_,_,rfl,rfl,lX.of Cj.1,rfl,_,rfl,pa,_,_,_,rfl,rfl,lN.of EL,DI,_,_,rfl,rfl,(by show (0:Int) < 4; decide),_,_,rfl,rfl,_,rfl,c,_,_,_,rfl,rfl,lX.of Cj.1,rfl,_,rfl,pa,_,_,_,rfl,rfl,lN.of EL,DJ,_,_,rfl,rfl,(by show (0:Int) < 9; decide),_,_,rfl,rfl,by show 3≤sizeLine; lia,fun tl sf=>?_⟩;have t4:=zf (o:=.lst [.int (k:Int),.int ((k:Int)+d1 % 4),.int ((k:Int)+d2 % 9)]) sf;have f4:lP H3 tl (.lst [.int (k:Int),.int ((k:Int)+d1 % 4),.int ((k:Int)+d2 % 9)]) tl=some (.lst [.int (k:Int),.int ((k:Int)+d1 % 4),.int ((k:Int)+d2 % 9)]):=ze;generalize lP H3 tl (.lst [.int (k:Int),.int ((k:Int)+d1 % 4),.int ((k:Int)+d2 % 9)])=H4 at t4 f4 ⊢;have Bp:=tK.same t4;have EM:=Cj.same t4;have h4r:=t4 _ _ yT;refine⟨tl,rfl,⟨_,lN.of f4⟩,zak (K:=K) (a:=tl) (xs:=[.int (k:Int),.int ((k:Int)+d1 % 4),.int ((k:Int)+d2 % 9)]) (fun j σ H'=>∃ (e5 e6 e7 e8:Option V),σ = [some (.ref a),some (.int (0+(i:Int))),some (.ref c),some (.ref pa),some (.ref ra),e5,e6,e7,e8]∧zA H4 H') ⟨_,_,_,_,rfl,fun _ _ e=>e⟩ (fun j σ H' _ ⟨_,_,_,_,_,s'⟩=>lN.of (s' _ _ f4)) ?_ ?_⟩
   ·rintro zD zT j x σ H5 hx ⟨e5,e6,e7,e8,rfl,s5⟩;obtain⟨T',rfl,kT⟩:∃ T':Nat,x = .int (T':Int)∧k≤T':=by
     match j,hx with
     | 0,hx=>exact⟨k,(aG hx).symm,ah _⟩
     | 1,hx =>
      refine⟨((k:Int)+d1 % 4).toNat,?_,#[O]⟩;rw [← aG hx];congr 1;lia
     | 2,hx =>
      refine⟨((k:Int)+d2 % 9).toNat,?_,#[O]⟩;rw [← aG hx];congr 1;lia
     | j+3,hx=>simp at hx
    show zT (zD j) [some (.ref a),some (.int (0+(i:Int))),some (.ref c),some (.ref pa),some (.ref ra),some (.int (T':Int)),e6,e7,e8] H5;refine zm6 ?_; intro zQ6 zQ5 zQ4 zQ3 zQ2;have qQ:=Bp.same s5;have uw:=EM.same s5;have xp:=s5 _ _ h4r;refine⟨_,rfl,ra,rfl,⟨_,lN.of xp⟩,z9 (n:=nJ.length) (fun m ys H'=>zA H5 H'∧∃ us:List Addr,ys=us.map V.ref∧us.length=m∧zer pl.length H' us (rws.take m)) ⟨fun _ _ e=>e,[],rfl,rfl,.nil⟩ ?_ ?_ ?_ ?_⟩
    ·rintro m ys H6 hm ⟨s6,_⟩;exact⟨_,.ref nJ[m],lN.of (s6 _ _ xp),by rw [ap,ao hm]; rfl⟩
    ·rintro ys H6 ⟨s6,_⟩;exact⟨_,lN.of (s6 _ _ xp),by rw [ae]; exact ah _⟩
    ·rintro zS zT zE m y ys H6 H7 hm ⟨s6,us,rfl,pC,mJ⟩ ⟨rfl,hy⟩;obtain⟨b,rfl,hb⟩:=zK (hy _ (lN.of (s6 _ _ xp)));obtain⟨rw,oo,nN,EN⟩:=Paired.get qQ hb;refine gY ⟨_,rfl,b,_,rfl,.inl (lN.of (s6 _ _ nN)),fun z2 sP=>?_⟩;refine⟨by rw [ae]; lia,s6.trans (zf sP),us++[z2],by rw [aw]; rfl,by rw [aB,pC]; rfl,?_⟩;rw [take_snoc oo];exact bR (mJ.same (zf sP)) ⟨ze,EN⟩
    rintro ys H6 hn ⟨s6,Bq,rfl,D0,hhs⟩ De;rw [rD,aX] at hhs;have t7:=zf (o:=.lst (Bq.map V.ref)) De;have f7:lP H6 hn (.lst (Bq.map V.ref)) hn=some (.lst (Bq.map V.ref)):=ze;have yp:=hhs.same t7;have ux:=s6.trans t7;generalize lP H6 hn (.lst (Bq.map V.ref))=H7 at t7 f7 yp ux ⊢;refine⟨_,rfl,_,rfl,_,rfl,c,tt,hn,p,k,(T':Int),pl,Bq,rws,rfl,uw.same ux,f7,yp,#[O],yJ,co.pr,co.nd,co.rg,pH,#[O],#[O],m6,.inr ⟨T',rfl,kT,fun fl us mI H8 xl s8 h8 pC hTn hPw mB=>?_⟩⟩;have EO:=ux.trans s8;refine⟨_,rfl,_,_,_,_,rfl,.lst h8,rfl,true,rfl,zeB ?_⟩;refine⟨_,rfl,_,rfl,_,rfl,_,rfl,c,tt,ra,p,k,T',pl,nJ,rws,rfl,uw.same EO,EO _ _ xp,qQ.same EO,#[O],yJ,co.pr,co.nd,co.rg,pH,#[O],#[O],kT,m6,fun fl2 us2 ER H9 hfl2 s9 h9 hul2 ES ET Br=>?_⟩;have e1:mI=ER:=zew hPw ET fun x=>by rw [mB,Br]
    subst e1;refine zoF (s9 _ _ h8) h9 (hTn.same s9) ES ⟨_,rfl,zeB ?_⟩;have vM:=s8.trans s9;have vJ:=ux.trans vM;refine⟨_,rfl,_,rfl,zjL (vM _ _ f7) (vJ _ _ xp) (yp.same vM) (qQ.same vJ) ⟨_,rfl,zeB ?_⟩⟩;have Bs:=s9 _ _ h8;have B':=hTn.same s9;have EU:=B'.length;refine⟨_,rfl,fl,rfl,⟨_,lN.of Bs⟩,z9 (n:=us.length) (fun m ys H'=>H'=H9∧∃ vs:List Addr,ys=vs.map V.ref∧vs.length=m∧zaS H9 vs ((mI.take m).map fun s=>s.headD [])) ⟨rfl,[],rfl,rfl,.nil⟩ ?_ ?_ ?_ ?_⟩
    ·rintro m ys H' hm ⟨rfl,_⟩;exact⟨_,.ref us[m],lN.of Bs,by rw [ap,ao hm]; rfl⟩
    ·rintro ys H' ⟨rfl,_⟩;exact⟨_,lN.of Bs,by rw [ae]; exact ah _⟩
    ·rintro zS zT zE m y ys H' Ha hm ⟨rfl,vs,rfl,xE,vb⟩ ⟨rfl,hy⟩;obtain⟨sb,rfl,mH⟩:=zK (hy _ (lN.of Bs));obtain⟨qs,u9,rs,z1,z2⟩:=Paired.get B' mH;have yQ:=((mB qs).mp (aH u9)).len;cases z2 with
     | nil =>
      exact absurd (dq.mp yQ.symm) m6
     | @cons r0 q0 rs qs z0 z2 =>
      refine gY ⟨_,rfl,sb,_,_,_,rfl,rfl,lX.of z1,(show atI (V.ref r0 :: rs.map V.ref) ((0:Nat):Int)=some (V.ref r0) from zaV rfl),by rw [ae]; lia,rfl,vs++[r0],by rw [aw]; rfl,by rw [aB,xE]; rfl,?_⟩;rw [take_snoc u9,aw];exact bR vb z0
    rintro ys H' al ⟨rfl,vs,rfl,xE,vb⟩ yh;rw [EU,aX] at vb;have ta:=zf (o:=.lst (vs.map V.ref)) yh;have fa:lP H' al (.lst (vs.map V.ref)) al=some (.lst (vs.map V.ref)):=ze;generalize lP H' al (.lst (vs.map V.ref))=Ha at ta fa ⊢;have Bt:=vJ.trans ta;have haf:=ta _ _ Bs;have EV:H4 fl=none:=(s5.trans ux).free xl;have xq:∀ Hx,zA Ha Hx→((zD j).n zQ6).nx [some (.ref a),some (.int (0+(i:Int))),some (.ref c),some (.ref pa),some (.ref ra),some (.int (T':Int)),some (.ref hn),some (.ref fl),some (.ref al)] Hx:=fun Hx sx=>⟨_,rfl,.inl ⟨rfl,_,lN.of (sx _ _ haf)⟩,fl,_,_,rfl,rfl,sx _ _ haf,by rw [ae]; lia,_,_,_,_,rfl,zae (s5.trans (Bt.trans sx)) EV⟩
    refine⟨_,rfl,ra,_,rfl,.inl (lN.of (Bt _ _ xp)),rfl,_,rfl,?_⟩;rw [ae,rD];refine zbc (fun h=>?_) (fun _=>zeB (xq Ha (fun _ _ e=>e)));have h1':(rws.length:Int)=1:=by simpa using h
    have h1:rws.length=1:=by lia
    obtain⟨rw,rfl⟩:∃ rw,rws = [rw]:=iO.mp h1;obtain⟨rb,rfl⟩:∃ rb,nJ = [rb]:=iO.mp #[O];obtain⟨wM,e',nN,Bu⟩:=Paired.get qQ (show [rb][0]? = some rb from rfl);cases (aG e');refine⟨_,rfl,_,rfl,_,rfl,ra,_,_,_,rfl,rfl,lN.of (Bt _ _ xp),rfl,_,rfl,c,tt,rb,p,k,(T':Int),pl,rw,rfl,uw.same Bt,Bt _ _ nN,Bu,yJ,co.pr,co.nd,co.rg,pH rw #[M],#[O],#[O],.inr ⟨kT9 kT,fun nl xA qN Hn BZ sn xt B7 _ B8 B9=>?_⟩⟩;have e2:=zjE Bu hPw mB B8 B9;rw [e2] at vb;exact zoG (sn _ _ fa) xt ((vb.same ta).same sn) B7 ⟨_,rfl,zeB (xq Hn sn)⟩
   ·rintro σ H5 ⟨e5,e6,e7,e8,rfl,s5⟩;have uw:=EM.same s5;have h5p:=(t4.trans s5) _ _ EL;refine⟨_,rfl,c,_,_,_,rfl,rfl,lX.of uw.1,rfl,_,_,rfl,rfl,_,rfl,_,rfl,pa,_,_,_,rfl,rfl,lN.of h5p,DK,_,_,rfl,rfl,by show 3≤sizeLine; lia,fun tm htm=>?_⟩;have t6:=zf (o:=.lst [.int ((k:Int) - 1),.int 0,.int (-1 - d3)]) htm;have f6:lP H5 tm (.lst [.int ((k:Int) - 1),.int 0,.int (-1 - d3)]) tm=some (.lst [.int ((k:Int) - 1),.int 0,.int (-1 - d3)]):=ze;generalize lP H5 tm (.lst [.int ((k:Int) - 1),.int 0,.int (-1 - d3)])=H6 at t6 f6 ⊢;have s46:=s5.trans t6;refine⟨tm,rfl,⟨_,lN.of f6⟩,zak (K:=K) (a:=tm) (xs:=[.int ((k:Int) - 1),.int 0,.int (-1 - d3)]) (fun j σ H'=>∃ (e5:Option V),σ = [some (.ref a),some (.int (0+(i:Int))),some (.ref c),some (.ref pa),some (.ref ra),e5,e6,e7,e8]∧zA H6 H') ⟨_,rfl,fun _ _ e=>e⟩ (fun j σ H' _ ⟨_,_,s'⟩=>lN.of (s' _ _ f6)) ?_ ?_⟩
    ·rintro zD zT j x σ H7 hx ⟨e5,rfl,s7⟩;obtain⟨T',rfl,kT⟩:∃ T':Int,x = .int T'∧T' < k:=by
      match j,hx with
      | 0,hx=>exact⟨(k:Int) - 1,(aG hx).symm,#[O]⟩
      | 1,hx=>exact⟨0,(aG hx).symm,#[O]⟩
      | 2,hx=>exact⟨-1 - d3,(aG hx).symm,#[O]⟩
      | j+3,hx=>simp at hx
     have EW:=s46.trans s7;refine⟨_,rfl,_,rfl,_,rfl,c,tt,ra,p,k,T',pl,nJ,rws,rfl,EM.same EW,EW _ _ h4r,Bp.same EW,#[O],yJ,co.pr,co.nd,co.rg,pH,#[O],#[O],m6,.inl ⟨kT,fun H8 s8=>?_⟩⟩;refine⟨rfl,_,rfl,?_⟩;refine zbc (fun h=>absurd h #[M]) (fun _=>?_);exact⟨_,rfl,s7.trans s8⟩
    ·rintro σ H7 ⟨e5,rfl,s7⟩;exact⟨_,_,_,_,_,_,_,_,rfl,sA3.trans (t4.trans (s46.trans s7))⟩
  ·rintro σ H0 ⟨e1,e2,e3,e4,e5,e6,e7,e8,rfl,s0⟩;exact q _
end
structure Dn (K:ag) (x:Str) (st:Stmt) (f:Addr) (fd:FuncData):Prop where
 a:bn K mainGlobals x=some (some (.ref f))
 f:Fun K x x st f fd
theorem zaI {K:ag} {x:Str} {st:Stmt} {f:Addr} {od an:Option Addr} {sl:Array (Option Value)} {oc kV dc pm cd ct:Value} (a:bn K mainGlobals x=some (some (.ref f))) (l:K.lookup f=some ⟨oc,od,.func (cF x x (zbC st) (za2 st) (zj st) .none kV dc pm an cd ct),sl⟩) (c:eA K cd x=true) (k:dN K (.ref f)=true):Dn K x st f (cF x x (zbC st) (za2 st) (zj st) .none kV dc pm an cd ct):=⟨a,zj6 l c k⟩
theorem el0 {n:Nat} {us:List Value} (e:us.length=n+1):∃ a v,us=a :: v∧v.length=n:=by
 cases us with
 | nil=>cases e
 | cons a v=>exact⟨a,v,rfl,Nat.succ.inj e⟩
theorem el1 {us:List Value} (e:us.length=1):∃ a,us = [a]:=by
 obtain⟨a,v,rfl,h⟩:=el0 e;exact⟨a,by rw [List.eq_nil_of_length_eq_zero h]⟩
theorem el2 {us:List Value} (e:us.length=2):∃ a b,us = [a,b]:=by
 obtain⟨a,v,rfl,h⟩:=el0 e;obtain⟨b,rfl⟩:=el1 h;exact⟨a,b,rfl⟩
theorem el3 {us:List Value} (e:us.length=3):∃ a b c,us = [a,b,c]:=by
 obtain⟨a,v,rfl,h⟩:=el0 e;obtain⟨b,c,rfl⟩:=el2 h;exact⟨a,b,c,rfl⟩
theorem el4 {us:List Value} (e:us.length=4):∃ a b c d,us = [a,b,c,d]:=by
 obtain⟨a,v,rfl,h⟩:=el0 e;obtain⟨b,c,d,rfl⟩:=el3 h;exact⟨a,b,c,d,rfl⟩
local macro_rules|`(#[E2])=>`(fun _ _ _ _ _ _ _ h=>by obtain⟨_,_,e⟩:=el2 h;subst e;exact rfl)
local macro_rules|`(#[E3])=>`(fun _ _ _ _ _ _ _ h=>by obtain⟨_,_,_,e⟩:=el3 h;subst e;exact rfl)
local macro_rules|`(#[E4])=>`(fun _ _ _ _ _ _ _ h=>by obtain⟨_,_,_,_,e⟩:=el4 h;subst e;exact rfl)
theorem znN {l:iC} {w:World} {K:ag} {h:Heap} {mg:Str→Option Value} {fa fl mV lU oQ oR oS nX qR nY mZ pV qS:Addr} (X:K.In h) (G:h.Ns mainGlobals mg) (hfa:mg "law" = some (.ref fa))
  {od an:Option Addr} {sl:Array (Option Value)} {oc kV dc pm cd ct:Value} (rM:bn K mainGlobals "SlipError" = some (some (.ref mV))) (vf:bn K mainGlobals "TooFew" = some (some (.ref lU))) (tT:bn K mainGlobals "NoCurve" = some (some (.ref oQ))) (tU:bn K mainGlobals "NoPaper" = some (some (.ref oR))) (tV:bn K mainGlobals "NoPlace" = some (some (.ref oS))) (sE:bn K mainGlobals "NoNumber" = some (some (.ref nX))) (wG:bn K mainGlobals "Heard" = some (some (.ref qR))) (sF:bn K mainGlobals "NotHeard" = some (some (.ref nY))) (qm:bn K mainGlobals "NothingLeft" = some (some (.ref mZ))) (vg:bn K mainGlobals "NoText" = some (some (.ref pV))) (wH:bn K mainGlobals "NoRow" = some (some (.ref qS))) (sG:∃ f fd,Dn K "value_at" zb7 f fd) (tW:∃ f fd,Dn K "inverse" zcu f fd) (qT:∃ f fd,Dn K "times_root" za4 f fd) (yq:∃ f fd,Dn K "bent" zes f fd) (tX:∃ f fd,Dn K "through" zcv f fd) (pW:∃ f fd,Dn K "heard_points" zaL f fd) (yr:∃ f fd,Dn K "fits" zet f fd) (tY:∃ f fd,Dn K "choices" zbp f fd) (qo:∃ f fd,Dn K "all_through" zaT f fd) (sH:∃ f fd,Dn K "all_near" zbv f fd) (sI:∃ f fd,Dn K "heard_at" zbw f fd) (qU:∃ f fd,Dn K "joint_near" za5 f fd) (vh:∃ f fd,Dn K "_law_cell" zda f fd) (tZ:∃ f fd,Dn K "_law_draws" zcw f fd) (vi:∃ f fd,Dn K "_law_code" zcm f fd) (ua:∃ f fd,Dn K "_law_value" zcx f fd) (rN:∃ f fd,Dn K "_law_through" zaM f fd) (vj:∃ f fd,Dn K "_law_rows" zcn f fd) (vm:∃ f fd,Dn K "_law_word" zdb f fd) (vn:∃ f fd,Dn K "_law_fits" zbT f fd) (rO:∃ f fd,Dn K "_law_choices" za1 f fd) (pX:∃ f fd,Dn K "_law_polynomial" zaN f fd) (ub:∃ f fd,Dn K "_law_joint" zaP f fd) (vo:∃ f fd,Dn K "_law_told" zdc f fd)  (xi_TooFew:fG K lU zky "ValueError.__new__" = true) (pz:a8 K (.ref lU) (.ref lU)=some true) (oT:a8 K (.ref lU) (.ref oQ)=some false) (oU:a8 K (.ref lU) (.ref oR)=some false) (oV:a8 K (.ref lU) (.ref oS)=some false) (oz:a8 K (.ref lU) (.ref nX)=some false) (pY:a8 K (.ref lU) (.ref qR)=some false) (oA:a8 K (.ref lU) (.ref nY)=some false) (nE:a8 K (.ref lU) (.ref mZ)=some false) (pA:a8 K (.ref lU) (.ref pV)=some false) (pZ:a8 K (.ref lU) (.ref qS)=some false) (vp:a8 K (.ref lU) (.type "ValueError")=some true) (vq:eF K (.ref lU) (.ref mV)=some true) (uc:cp K (.ref lU) "__getattribute__" = some (some (.builtin "BaseException.__getattribute__"))) (ud:cp K (.ref lU) "__getattr__" = some none) (ue:cp K (.ref lU) "__class__" = some (some (.builtin "object.__class__"))) (uf:bO K lU (.type "object")=some true) (ug:bO K lU (.type "BaseException")=some true) (uh:eF K (.ref lU) (.ref lU)=some true) (sb:bO K mV (.type "BaseException")=some true)
  (al:bn K mainGlobals "law" = some (some (.ref fl))) (ll:K.lookup fl=some ⟨oc,od,.func (cF "law" "law" (zbC zca) (za2 zca) (zj zca) .none kV dc pm an cd ct),sl⟩) (cl:eA K cd "law" = true) (kl:dN K (.ref fl)=true) (Bv:bn K mainGlobals "len" = some none) (wI:bn K mainGlobals "range" = some none) (yt:bn K mainGlobals "list" = some none) (wJ:bn K mainGlobals "tuple" = some none) (Bw:bn K mainGlobals "min" = some none) (qV:bn K mainGlobals "isinstance" = some none) (Bx:bn K mainGlobals "zip" = some none) (rP:bn K mainGlobals "enumerate" = some none) (sJ:bn K mainGlobals "reversed" = some none) (vt:bn K mainGlobals "sorted" = some none) (qW:bn K mainGlobals "ValueError" = some none) :
  ∃ fd:FuncData,(∀ (s:Shared) (v:Value),BindsTo s fd ⟨[v],[]⟩ [("script",v)])∧∀ base:Heap,K.In base→base.Ns mainGlobals mg→FnOk l.prog w K mg base CX0 9 fa fd ["script"] (zfz K):=by
 cases hfa.symm.trans (aN X G al);obtain⟨f_value_at,o9,nZ⟩:=sG;have mv:=nZ.f.binds (ps:=["p","polynomial","x"]) #[E3]
 obtain⟨f_inverse,sj,oW⟩:=tW;have oJ:=oW.f.binds (ps:=["p","number"]) #[E2]
 obtain⟨f_times_root,qi,ni⟩:=qT;have ng:=ni.f.binds (ps:=["p","polynomial","root"]) #[E3]
 obtain⟨f_bent,wq,sL⟩:=yq;have sk:=sL.f.binds (ps:=["p","polynomial","vanishing","point"]) #[E4]
 obtain⟨f_through,su,oX⟩:=tX;have oO:=oX.f.binds (ps:=["p","points"]) #[E2]
 obtain⟨f_heard_points,pq,mR⟩:=pW;have mM:=mR.f.binds (ps:=["code","row"]) #[E2]
 obtain⟨f_fits,sV,sM⟩:=yr;have pL:=sM.f.binds (ps:=["code","row","polynomial"]) #[E3]
 obtain⟨f_choices,sm,oY⟩:=tY;have oM:=oY.f.binds (ps:=["things","many"]) #[E2]
 obtain⟨f_all_through,pM,m5⟩:=qo;have mY:=m5.f.binds (ps:=["code","points"]) #[E2]
 obtain⟨f_all_near,pd,n5⟩:=sH;have mP:=n5.f.binds (ps:=["code","row","t"]) #[E3]
 obtain⟨f_heard_at,rE,n6⟩:=sI;have nV:=n6.f.binds (ps:=["row","numbers"]) #[E2]
 obtain⟨f_joint_near,qk,nj⟩:=qU;have nh:=nj.f.binds (ps:=["code","rows","t"]) #[E3]
 obtain⟨f_l_cell,tF,p4⟩:=vh;have pI:=p4.f.binds (ps:=["script","k"]) #[E2]
 obtain⟨f_l_draws,nT,oZ⟩:=tZ;have mh:=oZ.f.binds (ps:=["script","k","many","base"]) #[E4]
 obtain⟨f_l_code,tP,p5⟩:=vi;have pS:=p5.f.binds (ps:=["script","at","most_k","most_n"]) #[E4]
 obtain⟨f_l_value,nU,o1⟩:=ua;have mi:=o1.f.binds (ps:=["p","polynomial","x"]) #[E3]
 obtain⟨f_l_through,qP,nF⟩:=rN;have nC:=nF.f.binds (ps:=["p","points"]) #[E2]
 obtain⟨f_l_rows,tQ,p6⟩:=vj;have pT:=p6.f.binds (ps:=["script","at","code","many"]) #[E4]
 obtain⟨f_l_word,tL,p7⟩:=vm;have pO:=p7.f.binds (ps:=["e"]) fun _ _ _ _ _ _ _ h=>by obtain⟨_,rfl⟩:=el1 h; exact rfl
 obtain⟨f_l_fits,tM,p8⟩:=vn;have pQ:=p8.f.binds (ps:=["code","row","polynomial"]) #[E3]
 obtain⟨f_l_choices,ou,nG⟩:=rO;have mE:=nG.f.binds (ps:=["some","many"]) #[E2]
 obtain⟨f_l_polynomial,pv,mS⟩:=pX;have mQ:=mS.f.binds (ps:=["draws","p","k"]) #[E3]
 obtain⟨f_l_joint,sC,o2⟩:=ub;have oP:=o2.f.binds (ps:=["code","rows","t"]) #[E3]
 obtain⟨f_l_told,tR,p9⟩:=vo;have ow:=p9.f.binds (ps:=["code","rows","t"]) #[E3]
 let t:Adr:=⟨mV,lU,oQ,oR,oS,nX,qR,nY,mZ,pV,qS,f_value_at,f_inverse,f_times_root,f_bent,f_through,f_heard_points,f_fits,f_choices,f_all_through,f_all_near,f_heard_at,f_joint_near,f_l_cell,f_l_draws,f_l_code,f_l_value,f_l_through,f_l_rows,f_l_word,f_l_fits,f_l_choices,f_l_polynomial,f_l_joint,f_l_told,fa⟩
 have T:Txt K mg t:=⟨bM X G Bv,bM X G wI,bM X G yt,bM X G wJ,bM X G Bw,bM X G qV,bM X G Bx,bM X G rP,bM X G sJ,bM X G vt,bM X G qW,aN X G rM,aN X G vf,aN X G tT,aN X G tU,aN X G tV,aN X G sE,aN X G wG,aN X G sF,aN X G qm,aN X G vg,aN X G wH,xi_TooFew,⟨pz,oT,oU,oV,oz,pY,oA,nE,pA,pZ,vp,⟨uc,ud,ue,uf,ug,uh⟩,vq⟩,sb,aN X G nZ.a,aN X G oW.a,aN X G ni.a,aN X G sL.a,aN X G oX.a,aN X G mR.a,aN X G sM.a,aN X G oY.a,aN X G m5.a,aN X G n5.a,aN X G n6.a,aN X G nj.a,aN X G p4.a,aN X G oZ.a,aN X G p5.a,aN X G o1.a,aN X G nF.a,aN X G p6.a,aN X G p7.a,aN X G p8.a,aN X G nG.a,aN X G mS.a,aN X G o2.a,aN X G p9.a,⟨_,nZ.f,mv⟩,⟨_,oW.f,oJ⟩,⟨_,ni.f,ng⟩,⟨_,sL.f,sk⟩,⟨_,oX.f,oO⟩,⟨_,mR.f,mM⟩,⟨_,sM.f,pL⟩,⟨_,oY.f,oM⟩,⟨_,m5.f,mY⟩,⟨_,n5.f,mP⟩,⟨_,n6.f,nV⟩,⟨_,nj.f,nh⟩,⟨_,p4.f,pI⟩,⟨_,oZ.f,mh⟩,⟨_,p5.f,pS⟩,⟨_,o1.f,mi⟩,⟨_,nF.f,nC⟩,⟨_,p6.f,pT⟩,⟨_,p7.f,pO⟩,⟨_,p8.f,pQ⟩,⟨_,nG.f,mE⟩,⟨_,mS.f,mQ⟩,⟨_,o2.f,oP⟩,⟨_,p9.f,ow⟩⟩;have FL:=zj6 (st:=zca) ll cl kl;exact⟨cF "law" "law" (zbC zca) (za2 zca) (zj zca) .none kV dc pm an cd ct,fun s v=>.of_eq rfl,fun base _ _=>znM (t:=t) T FL⟩
theorem walk {l:iC} {q:Program} {loose:List Str} {XP:(Str→Option Value)→Heap→Prop} {YP:World→Heap→Prop} {d:DefRec} {K:Params→ag} (hn:l.most=some 63) (y6:d.params.defaults = []) (hY:∀ (w:World) (h:Heap),YP w h→(K w.params).In h)
  (F:∀ (w:World) (mg:Str→Option Value) (fa:Addr) (h:Heap),(K w.params).In h→h.Ns mainGlobals mg→mg d.name=some (.ref fa)→∃ fd:FuncData,(∀ (s:Shared) (u:Value),BindsTo s fd ⟨[u],[]⟩ [("script",u)])∧∀ base:Heap,(K w.params).In base→base.Ns mainGlobals mg→FnOk l.prog w (K w.params) mg base CX0 9 fa fd ["script"] (zfz (K w.params))):lx q loose XP YP l.row.toRowW d [] (fun f vs=>kM f vs) :=
 L2.zlD (n:=63) (k:=9) (x:="script") (CX:=fun _=>CX0) (sp:=fun w=>zfz (K w.params)) hn #[D] y6 ⟨rfl,#[D],#[D]⟩ hY F (fun _ _ a ns hl _ hS=>⟨a,ns,rfl,hS,hl,fun _=>rfl⟩) fun _ _ _ _ _ z=>z
end My
namespace PySem.W.Fast
def tw2463181500054330420:Unit:=()
def tw650597875849143510:Unit:=()
def tw14614735397506950009:Unit:=()
def tw9299658117236993584:Unit:=()
def tw1978718431268195085:Unit:=()
def tw7384525993343369220:Unit:=()
def tw16676077933498658430:Unit:=()
def tw12870732939303829555:Unit:=()
def tw14322739493723097205:Unit:=()
def tw15487219140346147050:Unit:=()
def tw2390295355362157487:Unit:=()
def tw8018913351300216368:Unit:=()
def tw5194288376916367273:Unit:=()
def tw11450878060571484728:Unit:=()
def tw16629763542655173133:Unit:=()
def tw434384088560950768:Unit:=()
def tw8607207549840015732:Unit:=()
def tw7680894263398762735:Unit:=()
def tw8966064956364888047:Unit:=()
def tw14448560285917677136:Unit:=()
def tw1733976161254832420:Unit:=()
def tw7995759028488391791:Unit:=()
def tw15932121642202258986:Unit:=()
def tw9478673479027211342:Unit:=()
def tw13015741456875793385:Unit:=()
def tw5576286928766394293:Unit:=()
def tw4469801699252443363:Unit:=()
def tw10839200768339581271:Unit:=()
def tw834937563025487646:Unit:=()
def tw11877346441800967163:Unit:=()
def tw5828594858782778870:Unit:=()
def tw16496888582962341615:Unit:=()
def tw14267113818563383411:Unit:=()
def tw2765033195351813799:Unit:=()
def tw18320262980797811716:Unit:=()
def tw578789361192644833:Unit:=()
def tw16643442764531714619:Unit:=()
def tw4034490112756743188:Unit:=()
def tw3209673673108432559:Unit:=()
def tw16246022164455368036:Unit:=()
def tw11653409536004920856:Unit:=()
def tw14619573811497389427:Unit:=()
def tw9315204539628499670:Unit:=()
def tw4598455004789448614:Unit:=()
def tw7431584882043068725:Unit:=()
def tw14384704206467382332:Unit:=()
def tw1490551609823837973:Unit:=()
def tw14364709688114349880:Unit:=()
def tw8603545242393134651:Unit:=()
def tw8094989813502642133:Unit:=()
def tw15925261435140065026:Unit:=()
def tw12292829419375220354:Unit:=()
def tw12482207710530563254:Unit:=()
def tw10638949767331962725:Unit:=()
def tw12268796265634941741:Unit:=()
def tw7701558169813794954:Unit:=()
def tw12146350689307751690:Unit:=()
def tw12804302254345831185:Unit:=()
def tw8914731614792645314:Unit:=()
def tw9461342720299492527:Unit:=()
def tw11204631850501795596:Unit:=()
def tw143955407695916402:Unit:=()
def tw6257959517841157504:Unit:=()
def tw1891336481694498200:Unit:=()
def tw14541631288804084558:Unit:=()
def tw14873822908081788941:Unit:=()
def tw15088233065387039727:Unit:=()
def tw14715979777661453678:Unit:=()
def tw10503356694169348784:Unit:=()
def tw8192462790323290102:Unit:=()
def tw9909292495925362223:Unit:=()
def tw2831407424093319025:Unit:=()
def tw1070539623873977545:Unit:=()
def tw8940728328242401827:Unit:=()
def tw8329698042909074470:Unit:=()
def tw781490864879597075:Unit:=()
def tw2636377710506983480:Unit:=()
def tw9815523858588977409:Unit:=()
def tw8555582897993423162:Unit:=()
def tw13724459582367424952:Unit:=()
def tw3094835102424059579:Unit:=()
def tw15561099844013167284:Unit:=()
def tw2798819846250029212:Unit:=()
def tw3884052451479187936:Unit:=()
def tw10350582919820414088:Unit:=()
def tw13487572646155562760:Unit:=()
def tw7648801975114545194:Unit:=()
def tw7946366093687131312:Unit:=()
def tw8819630048885238556:Unit:=()
def tw14994646805617758908:Unit:=()
end PySem.W.Fast
open PySem PySem.W
open PyProof.Rows
set_option maxHeartbeats 0 in
theorem PySem.Challenge.cw_slipcurve_k25_rows_together_holds : PySem.Challenge.rw_slipcurve_k25_rows_together.Holds := by
 w_on; o_law; k_head; (case hw=>w_witness2)
 k_fill
 refine My.walk (l:=PySem.Challenge.rw_slipcurve_k25_rows_together) rfl rfl (fun w h Y=>PySem.W.kIn_of Y) ?F
 case F =>
  intro w mg fa h KX G hmg;refine' My.znN KX G hmg ?a_SlipError ?a_TooFew ?a_NoCurve ?a_NoPaper ?a_NoPlace ?a_NoNumber ?a_Heard ?a_NotHeard ?a_NothingLeft ?a_NoText ?a_NoRow ⟨_,_,My.zaI ?da_value_at ?dl_value_at ?dc_value_at ?dk_value_at⟩ ⟨_,_,My.zaI ?da_inverse ?dl_inverse ?dc_inverse ?dk_inverse⟩ ⟨_,_,My.zaI ?da_times_root ?dl_times_root ?dc_times_root ?dk_times_root⟩ ⟨_,_,My.zaI ?da_bent ?dl_bent ?dc_bent ?dk_bent⟩ ⟨_,_,My.zaI ?da_through ?dl_through ?dc_through ?dk_through⟩ ⟨_,_,My.zaI ?da_heard_points ?dl_heard_points ?dc_heard_points ?dk_heard_points⟩ ⟨_,_,My.zaI ?da_fits ?dl_fits ?dc_fits ?dk_fits⟩ ⟨_,_,My.zaI ?da_choices ?dl_choices ?dc_choices ?dk_choices⟩ ⟨_,_,My.zaI ?da_all_through ?dl_all_through ?dc_all_through ?dk_all_through⟩ ⟨_,_,My.zaI ?da_all_near ?dl_all_near ?dc_all_near ?dk_all_near⟩ ⟨_,_,My.zaI ?da_heard_at ?dl_heard_at ?dc_heard_at ?dk_heard_at⟩ ⟨_,_,My.zaI ?da_joint_near ?dl_joint_near ?dc_joint_near ?dk_joint_near⟩ ⟨_,_,My.zaI ?da_l_cell ?dl_l_cell ?dc_l_cell ?dk_l_cell⟩ ⟨_,_,My.zaI ?da_l_draws ?dl_l_draws ?dc_l_draws ?dk_l_draws⟩ ⟨_,_,My.zaI ?da_l_code ?dl_l_code ?dc_l_code ?dk_l_code⟩ ⟨_,_,My.zaI ?da_l_value ?dl_l_value ?dc_l_value ?dk_l_value⟩ ⟨_,_,My.zaI ?da_l_through ?dl_l_through ?dc_l_through ?dk_l_through⟩ ⟨_,_,My.zaI ?da_l_rows ?dl_l_rows ?dc_l_rows ?dk_l_rows⟩ ⟨_,_,My.zaI ?da_l_word ?dl_l_word ?dc_l_word ?dk_l_word⟩ ⟨_,_,My.zaI ?da_l_fits ?dl_l_fits ?dc_l_fits ?dk_l_fits⟩ ⟨_,_,My.zaI ?da_l_choices ?dl_l_choices ?dc_l_choices ?dk_l_choices⟩ ⟨_,_,My.zaI ?da_l_polynomial ?dl_l_polynomial ?dc_l_polynomial ?dk_l_polynomial⟩ ⟨_,_,My.zaI ?da_l_joint ?dl_l_joint ?dc_l_joint ?dk_l_joint⟩ ⟨_,_,My.zaI ?da_l_told ?dl_l_told ?dc_l_told ?dk_l_told⟩ ?xi_TooFew ?k_TooFew_TooFew ?k_TooFew_NoCurve ?k_TooFew_NoPaper ?k_TooFew_NoPlace ?k_TooFew_NoNumber ?k_TooFew_Heard ?k_TooFew_NotHeard ?k_TooFew_NothingLeft ?k_TooFew_NoText ?k_TooFew_NoRow ?v_TooFew ?s_TooFew ?e1_TooFew ?e2_TooFew ?e3_TooFew ?e4_TooFew ?e5_TooFew ?e6_TooFew ?sb ?al ?ll ?cl ?kl ?z_len ?z_range ?z_list ?z_tuple ?z_min ?z_isinstance ?z_zip ?z_enumerate ?z_reversed ?z_sorted ?z_ValueError
  (case a_SlipError=>k_is)
  (case a_TooFew=>k_is)
  (case a_NoCurve=>k_is)
  (case a_NoPaper=>k_is)
  (case a_NoPlace=>k_is)
  (case a_NoNumber=>k_is)
  (case a_Heard=>k_is)
  (case a_NotHeard=>k_is)
  (case a_NothingLeft=>k_is)
  (case a_NoText=>k_is)
  (case a_NoRow=>k_is)
  (case da_value_at=>k_is)
  (case dl_value_at=>k_is)
  (case dc_value_at=>k_is)
  (case dk_value_at=>k_is)
  (case da_inverse=>k_is)
  (case dl_inverse=>k_is)
  (case dc_inverse=>k_is)
  (case dk_inverse=>k_is)
  (case da_times_root=>k_is)
  (case dl_times_root=>k_is)
  (case dc_times_root=>k_is)
  (case dk_times_root=>k_is)
  (case da_bent=>k_is)
  (case dl_bent=>k_is)
  (case dc_bent=>k_is)
  (case dk_bent=>k_is)
  (case da_through=>k_is)
  (case dl_through=>k_is)
  (case dc_through=>k_is)
  (case dk_through=>k_is)
  (case da_heard_points=>k_is)
  (case dl_heard_points=>k_is)
  (case dc_heard_points=>k_is)
  (case dk_heard_points=>k_is)
  (case da_fits=>k_is)
  (case dl_fits=>k_is)
  (case dc_fits=>k_is)
  (case dk_fits=>k_is)
  (case da_choices=>k_is)
  (case dl_choices=>k_is)
  (case dc_choices=>k_is)
  (case dk_choices=>k_is)
  (case da_all_through=>k_is)
  (case dl_all_through=>k_is)
  (case dc_all_through=>k_is)
  (case dk_all_through=>k_is)
  (case da_all_near=>k_is)
  (case dl_all_near=>k_is)
  (case dc_all_near=>k_is)
  (case dk_all_near=>k_is)
  (case da_heard_at=>k_is)
  (case dl_heard_at=>k_is)
  (case dc_heard_at=>k_is)
  (case dk_heard_at=>k_is)
  (case da_joint_near=>k_is)
  (case dl_joint_near=>k_is)
  (case dc_joint_near=>k_is)
  (case dk_joint_near=>k_is)
  (case da_l_cell=>k_is)
  (case dl_l_cell=>k_is)
  (case dc_l_cell=>k_is)
  (case dk_l_cell=>k_is)
  (case da_l_draws=>k_is)
  (case dl_l_draws=>k_is)
  (case dc_l_draws=>k_is)
  (case dk_l_draws=>k_is)
  (case da_l_code=>k_is)
  (case dl_l_code=>k_is)
  (case dc_l_code=>k_is)
  (case dk_l_code=>k_is)
  (case da_l_value=>k_is)
  (case dl_l_value=>k_is)
  (case dc_l_value=>k_is)
  (case dk_l_value=>k_is)
  (case da_l_through=>k_is)
  (case dl_l_through=>k_is)
  (case dc_l_through=>k_is)
  (case dk_l_through=>k_is)
  (case da_l_rows=>k_is)
  (case dl_l_rows=>k_is)
  (case dc_l_rows=>k_is)
  (case dk_l_rows=>k_is)
  (case da_l_word=>k_is)
  (case dl_l_word=>k_is)
  (case dc_l_word=>k_is)
  (case dk_l_word=>k_is)
  (case da_l_fits=>k_is)
  (case dl_l_fits=>k_is)
  (case dc_l_fits=>k_is)
  (case dk_l_fits=>k_is)
  (case da_l_choices=>k_is)
  (case dl_l_choices=>k_is)
  (case dc_l_choices=>k_is)
  (case dk_l_choices=>k_is)
  (case da_l_polynomial=>k_is)
  (case dl_l_polynomial=>k_is)
  (case dc_l_polynomial=>k_is)
  (case dk_l_polynomial=>k_is)
  (case da_l_joint=>k_is)
  (case dl_l_joint=>k_is)
  (case dc_l_joint=>k_is)
  (case dk_l_joint=>k_is)
  (case da_l_told=>k_is)
  (case dl_l_told=>k_is)
  (case dc_l_told=>k_is)
  (case dk_l_told=>k_is)
  (case xi_TooFew=>with_unfolding_all rfl)
  (case k_TooFew_TooFew=>rfl)
  (case k_TooFew_NoCurve=>rfl)
  (case k_TooFew_NoPaper=>rfl)
  (case k_TooFew_NoPlace=>rfl)
  (case k_TooFew_NoNumber=>rfl)
  (case k_TooFew_Heard=>rfl)
  (case k_TooFew_NotHeard=>rfl)
  (case k_TooFew_NothingLeft=>rfl)
  (case k_TooFew_NoText=>rfl)
  (case k_TooFew_NoRow=>rfl)
  (case v_TooFew=>rfl)
  (case s_TooFew=>rfl)
  (case e1_TooFew=>k_is)
  (case e2_TooFew=>k_is)
  (case e3_TooFew=>k_is)
  (case e4_TooFew=>k_is)
  (case e5_TooFew=>k_is)
  (case e6_TooFew=>rfl)
  (case sb=>k_is)
  (case al=>k_is)
  (case ll=>k_is)
  (case cl=>k_is)
  (case kl=>k_is)
  (case z_len=>k_is)
  (case z_range=>k_is)
  (case z_list=>k_is)
  (case z_tuple=>k_is)
  (case z_min=>k_is)
  (case z_isinstance=>k_is)
  (case z_zip=>k_is)
  (case z_enumerate=>k_is)
  (case z_reversed=>k_is)
  (case z_sorted=>k_is)
  (case z_ValueError=>k_is)
#print axioms PySem.Challenge.cw_slipcurve_k25_rows_together_holds
end