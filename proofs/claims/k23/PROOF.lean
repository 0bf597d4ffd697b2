import PyProof.Rows.All
import Wide.All
import OpenK.AllK
import Wide.FinOn
import Lean
import PyProof.EqAt
import PyProof.EqKinds
import PyProof.CollectWalk
import PyProof.SetRoads
import PyProof.IsRules
import PyProof.TupleKey
import PyProof.Rows.SetFrom
import KE.KMinKey
import KE.KSortKey
import KE.KLam
import PyProof.Rows.MinMaxN
import PyProof.ListMulRoad
import KE.KUnpackStar
import KE.KIntText
import PyProof.CallStr
import KE.KDictSum
import KE.KSortTup
import PyProof.Walk
import PyProof.Rows.SortRuns
import PyProof.Rows.ChunkEnd
import PyProof.Rows.Range3
import PyProof.Rows.SeqGen
import PyProof.ConsumeWalk
import PyProof.ListRange
import PyProof.NeKinds
import PyProof.TupleCall
import PySem.Challenge.RW_slipcurve_k23_rows_that_have_many
set_option maxHeartbeats 3999000
open PySem renaming wpAny_bind→aa,wpAny_pure→af,wpAny_holding→bD,wpAny_mono→bE,sizeLine_eq→bL,wpAny_newObj_type→bM,wpAny_call_entry→bW,wpAny_Call_Name_kw→cg,boot_len→cm,codeAny_builtin→cC,wpAny_callSpecial?_slot→cL,wpAny_truthy_bool→cM,wpAny_setState_of→cO,wpAny_ite_false→cR,wpAny_rule→cU,wpAny_attempt→cW,builtinLookup_eq_fast→cX,isSubtype_type→cY,wpAny_typeNameOfWhole_keyiter→dg,wpAny_setField→di,wpAny_of_eq→dn,plainId_quiet→dD,mem_of_lookup→dQ,typeLookup_type→dW,wpAny_specialOf→dX,codeAny_mono→ed,wpAny_tryCatch→eA,wpAny_isInstance→eF,wpAny_execs_nil→eP,wpAny_passesOwn→eQ,wpAny_updateSeq→eU,wpAny_call→fe,call_meets→ff,wpAny_seqItems→fj,wpAny_pyIter_slot→fo,wpAny_dictEntries→fq,wpAny_standAt→fI,wpAny_askSetting→fM,codeAny_call_builtin→f6,wpAny_setEntries_of→gi,wpAny_ite_true→gj,wpAny_fieldsOf→gp,wpAny_field→gt,tupleKind_room_in1→gD,wpAny_newFunctionEnv_cells→gL,wpAny_pyIter_list→gQ,wpAny_Name→g8,wpAny_execs_cons→hV,wpAny_comprehension_free→hX,wpAny_forIn_list→ik,codeAny_of_tree→iz,wpAny_dictEpoch→iD,seqIndex_of→iJ,wpAny_letGo→iO,codeAny_call_function→iS,entryFor_alias→iT,isSubtype_stop→iU,wpAny_notOrdered_dict→iY,wpAny_isOneOf_keyiter→ja,wpAny_eqIsQuiet_tuple→jc,wpAny_loadName_local→jf,wpAny_pyIter_revIter→ji,wpAny_handled→ju,wpAny_newList→jw,wpAny_loadName_free→jy,wpAny_specialOf_val→jC,wpAny_pyIter_tuple→jN,wpAny_getItem_heap→jW,wpAny_typeOf→j5,list_append→kd,wpAny_throw→kz,typeIs_int→kT,call→kX,Within→lL
open List renaming length_map→ae,mem_cons_of_mem→ai,mem_cons_self→ao,replicate→ap,size_toArray→aq,mem_cons→au,mem_append_right→aw,getElem?_map→az,mem_singleton→aA,getElem?_eq_getElem→aE,length_append→aF,mem_map→aG,mem_append_left→aI,map_append→aN,mem_of_getElem?→aO,map_cons→aP,nodup_iff_pairwise_ne→aQ,mem_append→aR,length_take→aS,getElem?_eq_some_iff→aT,take_of_length_le→aW,range→ba,append_assoc→bf,length_eq_zero_iff→bh,dropLast_concat_getLast→bo,lookup_cons→bp,length_cons→bq,map_map→br,take_append_drop→bw,mem_map_of_mem→bx,mem_range→bA,pairwise_map→bF,getElem?_cons_succ→bN,nodup_cons→bR,zipWith→bT,length_dropLast→bV,filterMap_cons→bZ,nodup_append→ca,take_sublist→cv,replicate_succ→cw,map_congr_left→cz,drop_eq_getElem_cons→cB,length_singleton→cD,length_drop→cF,getElem?_of_mem→cK,append_nil→cQ,extract_eq_take_drop→cZ,length_nil→c9,length_range→df,take_length→dj,drop_eq_nil_of_le→dq,length_replicate→dA,getElem?_append_right→dC,getElem?_append_left→dG,pairwise_iff_getElem→dH,not_mem_nil→dM,getElem_of_mem→dR,getElem?_cons_zero→dS,filter_append→dY,find?_cons→dZ,getElem?_set_self→d6,flatten_cons→d9,getElem?_set_ne→eC,all_eq_true→eE,mem_flatMap→eH,sum_cons→eL,mem_filter→eO,foldl_cons→eS,getElem?_take_of_lt→eV,pairwise_cons→eY,drop_zero→fi,flatMap_cons→fu,length→fB,range_succ_eq_map→fC,getElem_mem→fO,nil_sublist→fP,drop_length→fQ,getElem?_zipWith→fR,length_filter_le→fS,concat_eq_append→fU,getElem?_eq_none→fV,of_mem_zip→fX,mem_of_mem_drop→f7,dropLast_concat→f',mem_of_mem_take→gb,replicate_succ'→gd,length_take_le→gf,map_eq_nil_iff→gh,take_zero→gm,map_id→gu,mem_filterMap→gz,mem_replicate→gC,getElem?_drop→gE,filterMap_map→gF,getD_eq_getElem?_getD→gM,take_add_one→gT,filter_congr→gU,getElem_take→gV,ext_getElem?→gW,exists_mem_of_ne_nil→g9,map_nil→hW,sublist_nil→ig,isEmpty_nil→il,filter_cons_of_pos→iq,filter_cons_of_neg→ir,forIn_cons→iw,range_succ→iA,filter_map→iB,pairwise_lt_range→iP,drop_drop→iW,eq_nil_or_concat→iX,pairwise_append→jl,dropLast_subset→jo,mem_iff_getElem→jp,all_cons→jr,any_cons→jt,getElem?_range→jF,flatMap_append→jG,length_zipWith→jH,find?_eq_none→j1,map_filterMap→j3,any_eq_false→j9,drop_sublist→kj,foldl_append→kq,getElem_inj→kC,nodup_range→kJ,map_flatMap→kN,getLast_mem→kO,foldl→kU,nil_append→kW,sum_append→k7,find?_some→k8,take_take→lx
open PySem.W renaming Frag→ag,kitOne→aY,mg_of→aZ,nsIn→bd,mg_none_of→bt,mroIn→bH,kia_one→bI,findIn→cr,fnOf→cE,hideAll→dz,keepIn→dJ,codeIn→ee,kitCls→eg,hideAll_get→eN,cellsFrom_some→fA,Looks→fK,excIn→fL,looks_mroIn→gg,of_hideAll→gw,callWith_K→gA,methodObj→gP,instObj→iu,OpenLaw→iF,lookIn→iR,hideAll_none→je,looks_findIn→jj,codeRec_of→jO,kitx_list→ka,kitx_dict→kb,plainGet→kD,kat_kind→kM,kit_cls→kZ,WalkO→lH
open Nat renaming le_refl→ah,lt_of_lt_of_le→aJ,ne_of_lt→aL,le_trans→bg,zero_le→bi,lt_irrefl→cn,zero_add→cq,add_sub_cancel→cI,lt_succ_of_lt→cN,mod_lt→dr,mul_le_mul_right→dI,ne_of_gt→dL,add_zero→dO,succ_pos→dP,pow_succ→eu,mod_eq_of_lt→eI,pow_add→eM,mul_comm→eX,lt_or_ge→eZ,le_of_lt_succ→fz,lt_succ_self→fN,le_of_lt→fW,mod_two_eq_zero_or_one→gN,le_of_succ_le→gR,sub_zero→ij,min_eq_left→iC,pow_le_pow_right→jm,succ_mul→jQ,lt_trans→jV,lt_of_le_of_lt→jZ,sub_self→j2,le_succ→ku,mod_one→kB,succ_ne_self→kH,le_add_right→kP
open PySem.Heap renaming get?_push_of_some→aj,lt_size→av,get?_push_size→aB,get?_update_self→bK,size_push→bP,SameBut→cS,get?_update_other→d7,get?_update_ne→jE,ExtBut→kx
open PyProof.Rows renaming wpS_bind→ak,wpS_pure→am,boot_isinstance→bv,callWith_type1→cf,wpS_forRange→cH,zipApart_new→c8,wpS_mono→dk,wpS_modify→eG,wpS_get→fg,callWith_builtin1→fY,wpS_lift→gk,pairsOf_size→ie,get?_update_seq→iE,subscriptTail_builtinR→iK,mirror_perm→iN,pairsOf_toList→jb,boot_tuple→jq,listUpdate_at→jv,getElem?_mirror_all→jD,boot_list→j7,seqEpoch_at→kA,boot_range→kQ,Subscript_→kR
open Bool renaming false_eq_true→aC,false_ne_true→aM,or_eq_true→bz,and_eq_true→cG,not_true→cV,eq_iff_iff→c7,not_false→gr,not_eq_true'→ki,false_and→lh,and_false→lq,true_and→lF
open Or renaming inl→aD,inr→fH
open Array renaming length_toList→aH,getElem?_toList→aV,toList_append→bj,getElem?_eq_getElem→bu,getElem?_eq_none→bY,getElem?_eq_some_iff→cp,toList_extract→cJ,mem_toList_iff→dF,perm_iff_toList_perm→eK,toList_reverse→f8,getD→gc,toList_push→gX,size_setIfInBounds→h8,toList_map→ic,append_assoc→jM,size_extract→jX,forIn_toList→j4,size_map→ly,toList→lM
open PySem.Value renaming ref→aK,none→cj,int→du,type→eB,bool→fc,isInt→iH,str→jJ,isStrOf→lD
open Int renaming emod_lt_of_pos→aU,emod_nonneg→a8,toNat_natCast→bC,le_trans→bU,le_refl→bX,mul_le_mul_of_nonneg_right→db,emod_eq_of_lt→dE,le_of_lt→et,fdiv_eq_ediv_of_nonneg→gK,natCast_ediv→ii,natCast_add→iG,mul_zero→jT,mul_comm→jY,zero_add→j8,lt_trichotomy→ko,natCast_pow→k9,natCast_mul→lg
open Option.some renaming inj→aX,injEq→fw
open PySem.Heap.SameBut renaming update→be
open Sum renaming inl→bG,inr→hJ
open PySem.Str renaming ofString→bJ
open PySem.NameKind renaming free→bO,cell→cT
open False renaming elim→bQ
open PySem.Obj renaming mapSeq→bS,data_mapFields→ci,isFreed_of_fields→dB,cls_mapFields→fm,mapFields→fJ,putSet→hE,data_mapDictKeys→jn
open List.Pairwise renaming imp_of_mem→cb,nil→fk,sublist→iV
open PySem.PassesOwn renaming never→ce,leaving→gZ
open PySem.Around renaming under_plainId→ck,in1_units→dN
open PySem.F renaming plain_max_loop→cu,plainAttrs_list→dh,slot_dict_keyiterator_next→dm,entry_max_loop→fG,args_dict_keyiterator_next_1→f9,entry_dict_keyiterator_next→ge,slot_dict_setdefault→gq,slot_list_append→io,type_list_append→ip,plain_set_new→jd,args_list_append_2→jh,excBase_ValueError→jk,entry_list_append→jA,slot_list_append→jP,plain_list_iadd→kr,slot_dict_iter→kK
open ForInStep renaming yield→cA,done→fh
open Classical renaming byContradiction→c6,em→jR
open Ne renaming symm→de
open PySem.Calls renaming spliced_cons→dv,spliced_nil→d8,Name_function_global→eJ,evalArgs_plain→fZ,loadGlobal_builtin→hU,callWith_builtin→iL,call_len_list→jz
open PyProof.Rows.F renaming plain_set_update_loop→dw,entry_set_update_loop→fb
open List.cons renaming inj→dU
open True renaming intro→eD
open List.Perm renaming trans→eT,swap→lu
open PySem.Builtin.List renaming listTooLong→eW,listExtendWith→gH,listSameRef→im
open Option renaming map_eq_some_iff→fE,isSome_some→jS,getD_none→kE,getD_some→kG,toList→lE,none→lT
open PySem.Paired renaming mono→fF,snoc→gv,length→gJ
open PySem.W.KF renaming type_class→fT
open PySem.Builtin.Dict_items renaming ownsTuple→gn
open PySem.SeqAt.EqAt renaming of_refs→gB,int_str→jK,str_int→jL,same→kS
open PySem.Builtin.Builtins renaming bindParams→gG
open PySem.SetTable renaming fits→gO,fill→jx,grown→lz
open PySem.Data renaming fields→iI
open PySem.Builtin.Getset_descriptor renaming descrCheckInstance→iM,descrNameAndClass→iQ,descrGetter→jI,descrGet→kg
open PySem.Builtin.Dict renaming showsAll→iZ
open PySem.SeqAt renaming EqAt→jg
open PySem.SeqAt.RcNeAt renaming tuples→jB
open PySem.Code renaming quiet_builtin→jU
open PySem.pickOrder renaming go→j6
open PySem.Builtin.ObjectAttr renaming dataDescriptor?→kh,takesStores→kY,attrName→lC,bindTo→lK,getOf→lN,find→lQ
open PySem.IsL renaming update→kF
open Prod renaming ext→kL
open PyProof.Rows.SortSt renaming mk'→k6
open PySem.Builtin.SmallTypes renaming newRecord→li
open PySem.Builtin.Frozenset renaming updateFrom→lA,newClass→lI,addrOf→lO,sizeOf→lP,slot0→lR
open PyProof.Rows.Boot renaming ValueError→lB
open Function renaming comp→lG
open PySem.Shared renaming TypeIs→lJ
open Sum.inl renaming inj→lS
open PySem.Manifest.AttrKind renaming slot→lU
open PySem.PyData renaming bool→lV
open PySem.W.KatTups renaming cons→lW
local macro_rules | `(tactic| trivial)=>`(tactic| first | exact .inl rfl | exact .inr rfl | assumption)
local macro_rules|`(#[$xs,*])=>do
 let a:=xs.getElems
 if h:a.size=0 then Lean.Macro.throwUnsupported else
 let s:=a[0].raw.getId.eraseMacroScopes.toString
 if s=="O" then `(by lia) else if s=="D" then `(by decide) else if s=="N" then `(by decide +kernel) else if s=="S" then `(⟨rfl,rfl,rfl,by decide +kernel,rfl,by decide +kernel,by decide +kernel⟩) else if s=="A" then `(Or.inl rfl) else if s=="M" then `(by simp) else
 match [("_____eb","zd"),("________eee","zbi zh"),("________eeee","zZ"),("_","zfp zv zV zal zjg zK zad zW zaC zc zcd zlO zen zeI zbd zbe zaf zaP zbN zeR zaK zg4 zg6 zJ zfo zel"),("_e__f","pvx"),("_________ereeeddrr","zn zaF"),("___er","ya"),("___e","zp zg7 zfw"),("____e","zP z5 zgt zat zcK zjc zcJ"),("_______eeeu","z8"),("____","zf zdk zbH"),("__e____efeert","zr"),("_____e","zdn zgk"),("______b","zfB"),("_____eer","za zy"),("________________eefeeeneedrr","zQ"),("________efeeei","zau"),("______feer","zag"),("__e_efet","zj"),("____er","zc7"),("____________eeeeeerrrrr","zfv"),("_f","zef"),("_____________efeeeeei","zbx"),("__f","zaV"),("_ef","zds zb6 zhi"),("_______ee","zgl zcV"),("__e__feefdd","zbV"),("___fe","zbk"),("_________feerr","zhh"),("_e___e_fferr","zc8"),("______eerrr","zcL"),("______ferr","zcc"),("_______________","zdx"),("__________eeee","zfs"),("_____________e___efeefeeeeerit","za3"),("______ee","zlN"),("__e__fefd","zaJ"),("___ei","zdl"),("___","zja"),("__________________eefeeeneedrr","zdz"),("____________eeeeee","zfq"),("_e","zjw")].find? fun q=>(q.2.splitOn " ").contains s with
 |none=>Lean.Macro.throwUnsupported
 |some (p,_)=>do
  let mut r:=#[]
  let mut i:=1
  for c in p.toList do
   if c=='e' then
    r:=r.push (a[i]!)
    i:=i+1
   else if c=='b' then
    r:=r.push (←`((by exact $(a[i]!))))
    i:=i+1
   else r:=r.push (←match c with|'_'=>`(_)|'r'=>`((by rfl))|'d'=>`((by decide))|'f'=>`(rfl)|'t'=>`((by trivial))|'i'=>`((by intro _; rfl))|'u'=>`((fun _ _=>rfl))|'n'=>`(.nil)|'l'=>`(Or.inl rfl)|'o'=>`(Or.inr rfl)|_=>`(nomark _))
  return Lean.Syntax.mkApp (←`(@$(⟨a[0].raw⟩):ident)) r
set_option Elab.async false
set_option linter.all false
set_option maxRecDepth 100000
namespace L2
open PySem PySem.Spec PyProof.Rows
abbrev Key:=Sum Int Str
def zeb:Key→Value→Bool
 | .inl k,v=>iH k v
 | .inr x,v=>lD x v
def znw (w:World):Key→Int
 | .inl k=>hashInt k
 | .inr x=>hashStr w x
theorem z6:∀ {k:Key} {v:Value},zeb k v=true→(∃ i t,k=bG i∧v=du i t)∨(∃ x t,k=hJ x∧v=jJ x t)
 | .inl i,v,h=>by
  obtain⟨t,e⟩:=Value.isInt_shape (k:=i) (v:=v) h;exact .inl ⟨i,t,rfl,e⟩
 | .inr x,v,h=>by
  obtain⟨t,e⟩:=Value.isStrOf_shape (x:=x) (v:=v) h;exact .inr ⟨x,t,rfl,e⟩
theorem zhW (i:Int) (t:Tok):zeb (.inl i) (.int i t)=true:=by simp [zeb,iH]
theorem zhX (x:Str) (t:Tok):zeb (.inr x) (.str x t)=true:=by simp [zeb,lD]
theorem zl5 (a b:Int):decide ((bG a:Key)=bG b)=(a == b):=by
 by_cases e:a=b
 ·subst e; simp
 ·have h:¬ (bG a:Key)=bG b:=fun q=>e (lS q)
  rw [decide_eq_false h];exact (beq_eq_false_iff_ne.mpr e).symm
theorem zl6 (a b:Str):decide ((hJ a:Key)=hJ b)=decide (a=b):=by
 by_cases e:a=b
 ·subst e; simp
 ·have h:¬ (hJ a:Key)=hJ b:=fun q=>e (Sum.inr.inj q)
  rw [decide_eq_false h,decide_eq_false e]
theorem zl7 (a:Int) (b:Str):decide ((bG a:Key)=hJ b)=false:=decide_eq_false (fun q=>nomatch q)
theorem zl8 (a:Str) (b:Int):decide ((hJ a:Key)=bG b)=false:=decide_eq_false (fun q=>nomatch q)
def zak (prog:Program) (w:World):PySem.KeyKind prog w Key where
 is:=zeb
 hash:=znw w
 inj:=fun v a b ha hb=>by
  rcases z6 ha with ⟨i,t,rfl,rfl⟩ | ⟨x,t,rfl,rfl⟩
  ·rcases z6 hb with ⟨j,u,rfl,e⟩ | ⟨y,u,rfl,e⟩
   ·injection e with e1 _; rw [e1]
   ·exact nomatch e
  ·rcases z6 hb with ⟨j,u,rfl,e⟩ | ⟨y,u,rfl,e⟩
   ·exact nomatch e
   ·injection e with e1 _; rw [e1]
 byValue:=fun k v h=>by
  rcases z6 h with ⟨i,t,rfl,rfl⟩ | ⟨x,t,rfl,rfl⟩ <;> rfl
 pyHash:=fun hv h=>by
  rcases z6 hv with ⟨i,t,rfl,rfl⟩ | ⟨x,t,rfl,rfl⟩
  ·exact wpAny_pyHash_int h
  ·exact wpAny_pyHash_str h
 eqBool:=fun hu hv h=>by
  rcases z6 hu with ⟨i,t,rfl,rfl⟩ | ⟨x,t,rfl,rfl⟩
  ·rcases z6 hv with ⟨j,u,rfl,rfl⟩ | ⟨y,u,rfl,rfl⟩
   ·rw [zl5] at h; exact wpAny_eqBool_int h
   ·rw [zl7] at h; exact jK i t y u _ _ _ _ h
  ·rcases z6 hv with ⟨j,u,rfl,rfl⟩ | ⟨y,u,rfl,rfl⟩
   ·rw [zl8] at h; exact jL x t j u _ _ _ _ h
   ·rw [zl6] at h; exact wpAny_eqBool_str h
 «strs»:=fun k x t v h=>by
  rcases z6 h with ⟨i,u,rfl,e⟩ | ⟨y,u,rfl,e⟩
  ·exact nomatch e
  ·injection e with e1 _
   subst e1;cases v <;> rfl
theorem zfj (prog:Program) (w:World) (i:Int) (t:Tok):(zak prog w).is (.inl i) (.int i t)=true:=zhW i t
theorem zfk (prog:Program) (w:World) (x:Str) (t:Tok):(zak prog w).is (.inr x) (.str x t)=true:=zhX x t
inductive V where
 | non | bl (b:Bool) | int (i:Int) | str (x:Str) | byt (b:Array UInt8) | flt (b:UInt64) | ref (a:Addr) | ty (n:String)
 deriving DecidableEq
def RelV:V→Value→Prop
 | .non,u=>u=cj
 | .bl b,u=>u=fc b
 | .int i,u=>∃ t,u=du i t
 | .str x,u=>∃ t,u=jJ x t
 | .byt b,u=>∃ t,u=Value.bytes b t
 | .flt b,u=>∃ t,u=Value.float b t
 | .ref a,u=>u=aK a
 | .ty n,u=>u=eB n
abbrev zA:List V→List Value→Prop:=Paired RelV
theorem zA.length {xs:List V} {us:List Value} (r:zA xs us):xs.length=us.length:=gJ r
theorem zA.get:∀ {xs:List V} {us:List Value} {i:Nat} {x:V},zA xs us→xs[i]? = some x→∃ u,us[i]? = some u∧RelV x u
 | _,_,_,_,.nil,e=>by simp at e
 | _,_,0,_,.cons r _,e=>by simp at e; subst e; exact⟨_,rfl,r⟩
 | _,_,i+1,x,.cons _ t,e=>by
  obtain⟨u,h1,h2⟩:=zA.get (i:=i) (x:=x) t (by simpa using e);exact⟨u,by simpa using h1,h2⟩
theorem zA.append:∀ {xs ys:List V} {us ws:List Value},zA xs us→zA ys ws→zA (xs++ys) (us++ws)
 | _,_,_,_,.nil,s=>s
 | _,_,_,_,.cons r t,s=>.cons r (zA.append t s)
theorem zA.take:∀ {xs:List V} {us:List Value} (n:Nat),zA xs us→zA (xs.take n) (us.take n)
 | _,_,0,_=>.nil
 | _,_,_+1,.nil=>.nil
 | _,_,n+1,.cons r t=>.cons r (zA.take n t)
theorem zA.drop:∀ {xs:List V} {us:List Value} (n:Nat),zA xs us→zA (xs.drop n) (us.drop n)
 | _,_,0,r=>r
 | _,_,_+1,.nil=>.nil
 | _,_,n+1,.cons _ t=>zA.drop n t
def zdi:Option V→Option Value→Prop
 | some v,some u=>RelV v u
 | none,none=>True
 | _,_=>False
def KV {κ:Type}:List (κ×V)→List (κ×Value)→Prop:=Paired fun (p:κ×V) (q:κ×Value)=>p.1=q.1∧RelV p.2 q.2
def kV:Key→V
 | .inl i=>.int i
 | .inr x=>.str x
inductive HO where
 | lst (xs:List V)
 | tup (xs:List V)
 | dK (l6:List (Key×V)) | dT (l6:List (List Key×V))
 | set (S:Int→Bool) (n:Nat)
 | ins (C dx:Addr) (fs:List (Str×V))
 | own (x:Addr)
 | xd (fs:List (Str×V))
 | met (f x:Addr)
 | rng (lo hi:Int)
 | frz (o:Obj) (u:HO)
 | tbl (ps:Array Value)
 | ext (φ:Heap→Prop)
abbrev Hp:=Addr→Option HO
def l7 (H:Hp) (a:Addr) (o:HO):Hp:=fun b=>if b=a then some o else H b
theorem zb {H:Hp} {a:Addr} {o:HO}:l7 H a o a=some o:=by unfold l7; rw [if_pos rfl]
theorem zi {H:Hp} {a b:Addr} {o:HO} (h:b≠a):l7 H a o b=H b:=by unfold l7; rw [if_neg h]
theorem zm1 {H:Hp} {a b:Addr} {o u:HO} (h:H a=some o) (h':H b=some u) (d:o≠u):a≠b:=by
 intro e; subst e; rw [h] at h'; exact d (aX h')
theorem zq {H:Hp} {a b:Addr} {o:HO} (h:H a=some o) (h':H b=none):a≠b:=by
 intro e; subst e; rw [h] at h'; cases h'
section
variable (P:Program) (w:World)
def zO (H:Hp) (h:Heap) (a:Addr):HO→Prop
 | .lst xs=>xs.length≤sizeLine∧∃ (lY:List Value) (n:Nat),zA xs lY∧h.get? a=some { cls:=.type "list",data:=.seq lY.toArray n }
 | .tup xs=>xs.length≤sizeLine∧∃ lY:List Value,zA xs lY∧IsTup h a lY.toArray
 | .dK l6=>l6.length≤sizeLine∧(a == sysModules)=false∧∃ vs,KV l6 vs∧h.DictOf (zak P w) a vs
 | .dT l6=>l6.length≤sizeLine∧(a == sysModules)=false∧∃ xs:List (List Key×Addr×Value),
   Paired (fun (p:List Key×V) (q:List Key×Addr×Value)=>p.1=q.1∧H q.2.1=some (.tup (p.1.map kV))∧RelV p.2 q.2.2) l6 xs ∧
   ∃ o es ep,h.get? a=some o∧o.ExactDict∧o.data = .dict es ep∧es.toList=xs.map (entryOfKey (tupleKind (zak P w)))∧(xs.map (·.1)).Nodup
 | .set S n=>h.SetOf (intKind P w) a S n
 | .ins C dx fs=>H dx=some (.own a)∧fs.length≤1000∧dx≠a∧h.get? a=some (iu C dx) ∧
   ∃ mA,h.Ns1 dx mA∧(∀ f,zdi (fs.lookup f) (mA f))∧lL mA (fs.map (·.1))
 | .own _=>∃ o,h.get? a=some o
 | .xd fs=>∃ mA,h.Ns1 a mA∧∀ f,zdi (fs.lookup f) (mA f)
 | .rng lo hi=>∃ t u v,h.get? a=some { cls:=.type "range",data:=.fields #[.int lo t,.int hi u,.int 1 v] }
 | .frz o u=>h.get? a=some o∧zO H h a u
 | .tbl ps=>h.get? a=some { cls:=.none,data:=.fields ps }
 | .met f x=>h.get? a=some (gP (.ref f) (.ref x))
 | .ext φ=>φ h∧(∃ o,h.get? a=some o)∧∀ h1 h2:Heap,φ h1→(∀ o,h1.get? a=some o→h2.get? a=some o)→φ h2
def HOk (H:Hp) (h:Heap):Prop:=∀ a o,H a=some o→zO P w H h a o
end
section
variable {P:Program} {w:World} {H H':Hp} {h h':Heap} {a:Addr} {o:HO}
theorem zO.lt (x:zO P w H h a o):a < h.objs.size:=by
 cases o with
 | lst xs=>obtain⟨_,_,_,_,e⟩:=x; exact av e
 | tup xs=>obtain⟨_,_,_,p⟩:=x; exact p.lt
 | dK l6=>obtain⟨_,_,_,_,o,_,_,e,_⟩:=x; exact av e
 | dT l6=>obtain⟨_,_,_,_,o,_,_,e,_⟩:=x; exact av e
 | set S n=>obtain⟨o,_,_,_,e,_⟩:=x; exact av e
 | ins C dx fs=>obtain⟨_,_,_,e,_⟩:=x; exact av e
 | own y=>obtain⟨_,e⟩:=x; exact av e
 | xd fs=>obtain⟨_,⟨_,_,_,e,_⟩,_⟩:=x; exact av e
 | rng lo hi=>obtain⟨_,_,_,e⟩:=x; exact av e
 | frz ob u=>obtain⟨e,_⟩:=x; exact av e
 | tbl ps=>exact av (show h.get? a=some _ from x)
 | met f y=>exact av (show h.get? a=some _ from x)
 | ext φ=>obtain⟨_,⟨_,e⟩,_⟩:=x; exact av e
theorem Paired.mapP {α β:Type} {F G:α→β→Prop}:∀ {l₁:List α} {l₂:List β},Paired F l₁ l₂→(∀ a b,F a b→G a b)→Paired G l₁ l₂
 | _,_,.nil,_=>.nil
 | _,_,.cons r t,f=>.cons (f _ _ r) (Paired.mapP t f)
theorem zO.stay (x:zO P w H h a o) (k:∀ b u,(b=a∨H b=some (.own a))→h.get? b=some u→h'.get? b=some u)
  (ho:∀ b,H b=some (.own a)→H' b=some (.own a)) (ht:∀ b xs,H b=some (.tup xs)→H' b=some (.tup xs)):zO P w H' h' a o:=by
 induction o with
 | lst xs=>obtain⟨z,lY,n,r,e⟩:=x; exact⟨z,lY,n,r,k _ _ (.inl rfl) e⟩
 | tup xs=>obtain⟨z,lY,r,ob,e,c⟩:=x; exact⟨z,lY,r,ob,k _ _ (.inl rfl) e,c⟩
 | dK l6=>obtain⟨z,y,vs,r,ob,es,ep,e,c⟩:=x; exact⟨z,y,vs,r,ob,es,ep,k _ _ (.inl rfl) e,c⟩
 | dT l6 =>
  obtain⟨z,y,xs,r,ob,es,ep,e,c⟩:=x;exact⟨z,y,xs,Paired.mapP r fun p q z=>⟨z.1,ht _ _ z.2.1,z.2.2⟩,ob,es,ep,k _ _ (.inl rfl) e,c⟩
 | set S n=>obtain⟨ob,es,ep,t,e,c⟩:=x; exact⟨ob,es,ep,t,k _ _ (.inl rfl) e,c⟩
 | ins C dx fs =>
  obtain⟨d,z,ne,e,mA,⟨od,es,ep,e2,c⟩,r⟩:=x;exact⟨ho _ d,z,ne,k _ _ (.inl rfl) e,mA,⟨od,es,ep,k _ _ (.inr d) e2,c⟩,r⟩
 | own y=>obtain⟨ob,e⟩:=x; exact⟨ob,k _ _ (.inl rfl) e⟩
 | xd fs=>obtain⟨mA,⟨od,es,ep,e,c⟩,r⟩:=x; exact⟨mA,⟨od,es,ep,k _ _ (.inl rfl) e,c⟩,r⟩
 | rng lo hi=>obtain⟨t,u,v,e⟩:=x; exact⟨t,u,v,k _ _ (.inl rfl) e⟩
 | frz ob u ih=>obtain⟨e,q⟩:=x; exact⟨k _ _ (.inl rfl) e,ih q⟩
 | tbl ps =>
  have e:h.get? a=some { cls:=.none,data:=.fields ps }:=x;show h'.get? a=some { cls:=.none,data:=.fields ps };exact k a _ (.inl rfl) e
 | met f y =>
  have e:h.get? a=some (gP (.ref f) (.ref y)):=x;show h'.get? a=some (gP (.ref f) (.ref y));exact k a _ (.inl rfl) e
 | ext φ=>obtain⟨p,⟨o,e⟩,st⟩:=x; exact⟨st _ _ p fun o q=>k _ _ (.inl rfl) q,⟨o,k _ _ (.inl rfl) e⟩,st⟩
theorem HOk.lt (x:HOk P w H h) (e:H a=some o):a < h.objs.size:=(x a o e).lt
theorem HOk.fresh (x:HOk P w H h) (e:h.objs.size≤a):H a=none:=by
 cases q:H a with
 | none=>rfl
 | some u=>exact absurd (aJ (x.lt q) e) (cn _)
theorem HOk.kept (x:HOk P w H h) (k:∀ b u,h.get? b=some u→h'.get? b=some u):HOk P w H h':=fun a o e =>
 (x a o e).stay (fun b u _ q=>k b u q) (fun _ q=>q) fun _ _ q=>q
theorem HOk.laid (x:HOk P w H h) (k:∀ b u,h.get? b=some u→h'.get? b=some u) (hp:h.objs.size≤a) (new:zO P w (l7 H a o) h' a o):HOk P w (l7 H a o) h':=fun b u e=>by
 have hn:=x.fresh hp;by_cases hb:b=a
 ·subst hb; rw [zb] at e; cases e; exact new
 ·rw [zi hb] at e;exact (x b u e).stay (fun c v _ q=>k c v q) (fun c q=>by rw [zi (zq q hn)]; exact q) fun c xs q=>by rw [zi (zq q hn)]; exact q
end
def Rd (H:Hp) (a:Addr) (u:HO):Prop:=H a=some u∨∃ o,H a=some (.frz o u)
theorem Rd.ok {P:Program} {w:World} {H:Hp} {h:Heap} {a:Addr} {u:HO} (r:Rd H a u) (x:HOk P w H h):zO P w H h a u:=by
 rcases r with r | ⟨o,r⟩
 ·exact x a u r
 ·obtain⟨_,q⟩:=x a _ r;exact q
def Mut:Option HO→Prop
 | some (.lst _)=>True
 | some (.dK _)=>True
 | some (.dT _)=>True
 | some (.set _ _)=>True
 | some (.ins _ _ _)=>True
 | some (.ext _)=>True
 | _=>False
section
variable {P:Program} {w:World} {H:Hp} {h h':Heap} {x e:Addr} {o':HO}
theorem HOk.write (ok:HOk P w H h) (mu:Mut (H x)) (he:e=x∨H e=some (.own x)) (k:∀ b u,b≠e→h.get? b=some u→h'.get? b=some u) (wd:∃ u,h'.get? e=some u)
  (new:zO P w (l7 H x o') h' x o'):HOk P w (l7 H x o') h':=fun b u q=>by
 have wW:∀ c y,H c=some (.own y)→c≠x:=fun c y r z=>by subst z; rw [r] at mu; exact mu
 have Al:∀ c xs,H c=some (.tup xs)→c≠x:=fun c xs r z=>by subst z; rw [r] at mu; exact mu
 by_cases hb:b=x
 ·subst hb; rw [zb] at q; cases q; exact new
 ·rw [zi hb] at q;by_cases uZ:b=e
  ·have q':H b=some (.own x):=by
    rcases he with z | z
    ·exact absurd (uZ.trans z) hb
    ·rw [uZ]; exact z
   rw [q] at q'; cases q';obtain⟨v,hv⟩:=wd;exact⟨v,by rw [uZ]; exact hv⟩
  ·refine (ok b u q).stay (fun c v hc r=>k c v ?_ r) (fun c r=>by rw [zi (wW c b r)]; exact r) fun c xs r=>by rw [zi (Al c xs r)]; exact r
   rcases hc with rfl | hc
   ·exact uZ
   ·rintro rfl;rcases he with z | z
    ·exact wW c b hc z
    ·rw [hc] at z; cases z; exact hb rfl
end
structure Un (fs ex:List Addr) (H H':Hp) (h h':Heap):Prop where
 keep:∀ b o,h.get? b=some o→H b=none→b∉fs→b∉ex→h'.get? b=some o
 slot:∀ b o,h.get? b=some o→H b=none→b∈fs→b∉ex→∃ sl,h'.get? b=some { o with slots:=sl }
 free:∀ b o,h.get? b=some o→H b=none→b∉ex→H' b=none
 there:∀ b o,h.get? b=some o→b∉ex→∃ o',h'.get? b=some o'
 tups:∀ b xs,H b=some (.tup xs)→H' b=some (.tup xs)
 frzs:∀ b o u,H b=some (.frz o u)→H' b=some (.frz o u)
 tbls:∀ b ps,H b=some (.tbl ps)→∃ more,H' b=some (.tbl (ps++more))
section
variable {fs fs' ex ex':List Addr} {H H1 H2:Hp} {h h1 h2 h':Heap} {a x e:Addr} {o:HO}
theorem Un.any (u:Un fs ex H H1 h h1) {b:Addr} {ob:Obj} (q:h.get? b=some ob) (n:H b=none) (hx:b∉ex):∃ sl,h1.get? b=some { ob with slots:=sl }:=by
 by_cases hb:b∈fs
 ·exact u.slot b ob q n hb hx
 ·exact⟨ob.slots,u.keep b ob q n hb hx⟩
theorem Un.kept (k:∀ b u,h.get? b=some u→h'.get? b=some u):Un fs ex H H h h' :=
 ⟨fun b ob q _ _ _=>k b ob q,fun b ob q _ _ _=>⟨ob.slots,k b ob q⟩,fun _ _ _ n _=>n,fun b ob q _=>⟨ob,k b ob q⟩,fun _ _ q=>q,fun _ _ _ q=>q,fun _ ps q=>⟨#[],by rw [q]; simp⟩⟩
theorem Un.refl:Un fs ex H H h h:=Un.kept fun _ _ q=>q
theorem Un.laid (k:∀ b u,h.get? b=some u→h'.get? b=some u) (hp:h.objs.size≤a) (hn:H a=none):Un fs ex H (l7 H a o) h h' where
 keep:=fun b u q _ _ _=>k b u q
 slot:=fun b u q _ _ _=>⟨u.slots,k b u q⟩
 free:=fun b u q n _=>by rw [zi (aL (aJ (av q) hp))]; exact n
 there:=fun b u q _=>⟨u,k b u q⟩
 tups:=fun b xs q=>by rw [zi (zq q hn)]; exact q
 frzs:=fun b u xs q=>by rw [zi (zq q hn)]; exact q
 tbls:=fun b ps q=>⟨#[],by rw [zi (zq q hn),q]; simp⟩
theorem Un.write (mu:Mut (H x)) (he:e=x∨H e=some (.own x)) (k:∀ b u,b≠e→h.get? b=some u→h'.get? b=some u) (wd:∃ u,h'.get? e=some u):Un fs ex H (l7 H x o) h h':=by
 have hx:∀ b,H b=none→b≠x:=fun b n z=>by subst z; rw [n] at mu; exact mu
 have hb:∀ b,H b=none→b≠e:=fun b n z=>by
  subst z;rcases he with r | r
  ·exact hx b n r
  ·rw [n] at r; cases r
 have hm:∀ b u,H b=some u→¬ Mut (some u)→b≠x:=fun b u q nm z=>by subst z; rw [q] at mu; exact nm mu
 refine⟨fun b u q n _ _=>k b u (hb b n) q,fun b u q n _ _=>⟨u.slots,k b u (hb b n) q⟩,fun b u q n _=>by rw [zi (hx b n)]; exact n,fun b u q _=>?_,
  fun b xs q=>by rw [zi (hm b _ q fun z=>z)]; exact q,fun b u xs q=>by rw [zi (hm b _ q fun z=>z)]; exact q,fun b ps q=>⟨#[],by rw [zi (hm b _ q fun z=>z),q]; simp⟩⟩
 by_cases uZ:b=e
 ·subst uZ; exact wd
 ·exact⟨u,k b u uZ q⟩
end
def trk (h:Heap) (H:Hp):List Addr:=(ba h.objs.size).filter fun a=>(H a).isSome
def zdX (h:Heap) (H:Hp):Heap:=dz h (trk h H)
theorem zhY (h:Heap) (H:Hp):(zdX h H).objs.size=h.objs.size:=PySem.W.hideAll_size _ _
theorem zi9 {h:Heap} {H:Hp} {b:Addr} {o:Obj} (e:h.get? b=some o) (n:H b=none):(zdX h H).get? b=some o :=
 eN _ e fun hm=>by
  have q:(H b).isSome=true:=(eO.mp hm).2;rw [n] at q; simp at q
theorem zkM {h:Heap} {H:Hp} {b:Addr} {o:Obj} (e:(zdX h H).get? b=some o):h.get? b=some o∧H b=none:=by
 have e':h.get? b=some o:=gw (trk h H) e;refine⟨e',?_⟩;cases q:H b with
 | none=>rfl
 | some x =>
  have hm:b∈trk h H:=eO.mpr ⟨bA.mpr (av e'),by simp [q]⟩;have z:(zdX h H).get? b=none:=je (trk h H) hm;rw [z] at e; cases e
structure Mod (K:ag) (mg:Str→Option Value) (base:Heap):Prop where
 kin:K.In base
 glob:base.Ns mainGlobals mg
 blt:∃ mb,base.Ns builtinsNs mb∧∀ x:Str,x≠"__name__"→mb x=bootBuiltins x
 nolimit:base.NoLimit
structure Cx where
 prog:Program
 w:World
 K:ag
 mg:Str→Option Value
 base:Heap
 A:Around
 N:List Str
 s₀:Shared
 H₀:Hp
 env:Env
 outer:List Env
 stack:List Env
 ex:List Addr
 fn:Str→Bool
 calm:Bool
 pn:List (Addr×Obj)
 xe:Value→Shared→Prop
def frs (l:List Env):List Addr:=l.filterMap (·.frame)
abbrev Cx.fs (X:Cx):List Addr:=frs X.outer
def Vis (sc:Scope) (x:Str):Prop:=sc.names.lookup x=some .local∨sc.names.lookup x=some .cell∨sc.names.lookup x=some .free
def Loc (sc:Scope) (x:Str):Prop:=sc.names.lookup x=some .local∨sc.names.lookup x=some .cell
def Look (env:Env) (h:Heap) (m:Str→Option Value) (x:Str) (u:Value):Prop :=
 (env.kindOf x=some .local∧m x=some u)∨((env.kindOf x=some .cell∨env.kindOf x=some .free)∧∃ c,env.cells.lookup x=some c∧h.IsCell c (some u))
structure Cx.Ok (X:Cx):Prop where
 mod:Mod X.K X.mg X.base
 kind:X.env.scope.kind = .function
 glob:X.env.globals=mainGlobals
 blt:X.env.builtins=builtinsNs
 above:X.s₀.heap.objs.size≤X.env.locals
 inj:∀ x y c,X.env.cells.lookup x=some c→X.env.cells.lookup y=some c→x=y
 has:∀ x,(X.env.kindOf x=some .cell∨X.env.kindOf x=some .free)→∃ c,X.env.cells.lookup x=some c
 cab:∀ x c,X.fn x=true→X.env.cells.lookup x=some c→X.s₀.heap.objs.size≤c
 hd:X.calm=true→X.A.handled=none
 frames:X.A.frames=some X.stack
 stk:X.stack=X.outer∨(X.stack=X.env :: X.outer∧X.env.frame=some X.env.locals)
 exf:∀ b∈X.ex,b≠X.env.locals∧∀ x c,X.env.cells.lookup x=some c→c≠b
 bs:∀ b o,X.base.get? b=some o→X.s₀.heap.get? b=some o∧X.H₀ b=none
 bsz:X.base.objs.size≤X.s₀.heap.objs.size
 noex:∀ b o,X.base.get? b=some o→b∉X.ex
 exfs:∀ b∈X.ex,b∉X.fs
 funs:X.s₀.heap.FunFrames X.base X.outer
 frf:∀ b∈X.fs,X.H₀ b=none
structure Inv (X:Cx) (lX:List (Addr×Obj)) (σ:List (Option V)) (H:Hp) (s:Shared):Prop where
 ok:X.Ok
 os:s.os=X.s₀.os
 bare:AllBare s.gens
 base:Un X.fs X.ex X.H₀ H X.s₀.heap s.heap
 loc:∃ m,s.heap.Ns X.env.locals m∧∀ (i:Nat) (x:Str) (v:V),X.N[i]? = some x→σ[i]? = some (some v)→Vis X.env.scope x→∃ u,RelV v u∧Look X.env s.heap m x u
 cell:∀ x c,X.env.cells.lookup x=some c→∃ v,s.heap.IsCell c v
 free:H X.env.locals=none
 freeC:∀ x c,X.env.cells.lookup x=some c→H c=none
 pin:∀ p∈X.pn++lX,s.heap.get? p.1=some p.2∧H p.1=none∧p.1≠X.env.locals∧p.1∉X.fs∧∀ v,p.2.data≠.cell v
 hok:HOk X.prog X.w H s.heap
 len:σ.length=X.N.length
section
variable {X:Cx} {lX:List (Addr×Obj)} {σ:List (Option V)} {H H':Hp} {s:Shared} {h':Heap}
theorem Cx.Ok.nofr (ok:X.Ok) {b:Addr} {o:Obj} (e:X.base.get? b=some o):b∉X.fs:=fun hb=>by
 have:=(ok.funs.mem hb).1;rw [e] at this; cases this
theorem Inv.bs (I:Inv X lX σ H s):∀ b o,X.base.get? b=some o→s.heap.get? b=some o∧H b=none:=fun b o e =>
 ⟨I.base.keep b o (I.ok.bs b o e).1 (I.ok.bs b o e).2 (I.ok.nofr e) (I.ok.noex b o e),I.base.free b o (I.ok.bs b o e).1 (I.ok.bs b o e).2 (I.ok.noex b o e)⟩
theorem Inv.bk (I:Inv X lX σ H s):∀ b o,X.base.get? b=some o→s.heap.get? b=some o:=fun b o e=>(I.bs b o e).1
theorem Inv.mod (I:Inv X lX σ H s):Mod X.K X.mg X.base:=I.ok.mod
theorem Inv.kIn (I:Inv X lX σ H s):X.K.In s.heap:=I.ok.mod.kin.keeps I.bk
theorem Inv.nolimit (I:Inv X lX σ H s):s.heap.NoLimit:=I.ok.mod.nolimit.keeps I.bk
theorem Inv.lt (I:Inv X lX σ H s):X.env.locals < s.heap.objs.size:=let ⟨_,hn,_⟩:=I.loc; hn.lt
theorem Inv.sz (I:Inv X lX σ H s):X.s₀.heap.objs.size≤s.heap.objs.size:=bg I.ok.above (fW I.lt)
theorem Inv.nofs (I:Inv X lX σ H s) {a:Addr} (h:s.heap.objs.size≤a):a∉X.fs:=fun hb=>by
 obtain⟨_,o,ho,_⟩:=I.ok.funs.mem hb;exact absurd (aJ (av ho) (bg I.sz h)) (cn _)
theorem Inv.cne (I:Inv X lX σ H s):∀ x c,X.env.cells.lookup x=some c→c≠X.env.locals:=fun x c e z=>by
 obtain⟨v,o,ho,hd⟩:=I.cell x c e;obtain⟨m,⟨o',es,ep,pJ,pK,_⟩,_⟩:=I.loc;rw [z,pJ] at ho; cases ho; rw [pK] at hd; cases hd
theorem Inv.funs (I:Inv X lX σ H s):s.heap.FunFrames X.base X.outer:=by
 have all:∀ (l:List Env),(∀ b∈frs l,b∈X.fs)→X.s₀.heap.FunFrames X.base l→s.heap.FunFrames X.base l:=by
  intro l;induction l with
  | nil=>intro _ _; trivial
  | cons env r ih =>
   intro hs hl;obtain⟨hk,⟨L,o,hf,hn,ho,hd⟩,hr⟩:=hl;have hL:L∈X.fs:=hs L (by unfold frs; rw [bZ,hf]; exact ao);obtain⟨sl,e⟩:=I.base.slot L o ho (I.ok.frf L hL) hL fun z=>I.ok.exfs L z hL
   exact⟨hk,⟨L,_,hf,hn,e,hd⟩,ih (fun b hb=>hs b (by unfold frs; rw [bZ,hf]; exact ai _ hb)) hr⟩
 exact all X.outer (fun _ hb=>hb) I.ok.funs
theorem Inv.stack (I:Inv X lX σ H s):s.heap.FunFrames X.base X.stack:=by
 rcases I.ok.stk with e | ⟨e,hf⟩
 ·rw [e]; exact I.funs
 ·rw [e];obtain⟨m,hn,_⟩:=I.loc;refine .cons (by rw [I.ok.kind]; decide) hf hn ?_ I.funs;exact Heap.get?_none_of_le (bg I.ok.bsz I.ok.above)
theorem Inv.stkSub (I:Inv X lX σ H s):∀ b∈frs X.stack,b∈X.env.locals :: X.fs:=fun b hb=>by
 rcases I.ok.stk with e | ⟨e,hf⟩
 ·rw [e] at hb; exact ai _ hb
 ·rw [e] at hb;unfold frs at hb;rw [bZ,hf] at hb;exact hb
theorem Inv.stkFree (I:Inv X lX σ H s):∀ b∈frs X.stack,H b=none:=fun b hb=>by
 rcases au.mp (I.stkSub b hb) with e | hb
 ·rw [e]; exact I.free
 ·obtain⟨_,o,ho,_⟩:=I.ok.funs.mem hb;exact I.base.free b o ho (I.ok.frf b hb) fun z=>I.ok.exfs b z hb
theorem Inv.step {g':Array GenState} {t':Nat} {d':Drawn} {ch:List Addr} (I:Inv X lX σ H s)
  (qj:∀ b∈ch,(b∈X.ex∨X.s₀.heap.objs.size≤b)∧b≠X.env.locals∧(∀ x c,X.env.cells.lookup x=some c→c≠b)∧∀ p∈X.pn++lX,p.1≠b)
  (keep:∀ b o,b≠X.env.locals→b∉X.fs→b∉ch→s.heap.get? b=some o→H b=none→h'.get? b=some o)
  (slot:∀ b o,b≠X.env.locals→b∈X.fs→b∉ch→s.heap.get? b=some o→H b=none→∃ sl,h'.get? b=some { o with slots:=sl }) (free:∀ b o,b∉ch→s.heap.get? b=some o→H b=none→H' b=none)
  (there:∀ b o,b∉ch→s.heap.get? b=some o→∃ o',h'.get? b=some o')
  (tups:∀ b xs,H b=some (.tup xs)→H' b=some (.tup xs)) (frzs:∀ b o u,H b=some (.frz o u)→H' b=some (.frz o u)) (tbls:∀ b ps,H b=some (.tbl ps)→∃ more,H' b=some (.tbl (ps++more)))
  (ns:∀ m,s.heap.Ns X.env.locals m→h'.Ns X.env.locals m) (hok:HOk X.prog X.w H' h') (hg:AllBare g') :
  Inv X lX σ H' { s with heap:=h',gens:=g',drawn:=d',toks:=t' }:=by
 have neL:∀ b o,X.s₀.heap.get? b=some o→b≠X.env.locals:=fun b o e=>aL (aJ (av e) I.ok.above)
 have yG:∀ b o,X.s₀.heap.get? b=some o→b∉X.ex→b∉ch:=fun b o e hx hb=>by
  rcases (qj b hb).1 with z | z
  ·exact hx z
  ·exact absurd (aJ (av e) z) (cn _)
 have cellK:∀ x c,X.env.cells.lookup x=some c→∀ v,s.heap.IsCell c v→h'.IsCell c v:=fun x c e v ⟨o,ho,hd⟩=>by
  have wX:c∉ch:=fun z=>(qj c z).2.2.1 x c e rfl
  by_cases hc:c∈X.fs
  ·obtain⟨sl,q⟩:=slot c o (I.cne x c e) hc wX ho (I.freeC x c e);exact⟨_,q,hd⟩
  ·exact⟨o,keep c o (I.cne x c e) hc wX ho (I.freeC x c e),hd⟩
 refine⟨I.ok,I.os,hg,⟨fun b o e n hb hx=>?_,fun b o e n hb hx=>?_,fun b o e n hx=>?_,fun b o e hx=>?_,fun b xs e=>tups b xs (I.base.tups b xs e),fun b o xs e=>frzs b o xs (I.base.frzs b o xs e),fun b ps e=>?_⟩,?_,fun x c e=>?_,?_,fun x c e=>?_,fun p hp=>?_,hok,I.len⟩
 ·exact keep b o (neL b o e) hb (yG b o e hx) (I.base.keep b o e n hb hx) (I.base.free b o e n hx)
 ·obtain⟨sl,e1⟩:=I.base.slot b o e n hb hx;obtain⟨yH,e2⟩:=slot b _ (neL b o e) hb (yG b o e hx) e1 (I.base.free b o e n hx);exact⟨yH,e2⟩
 ·obtain⟨o',e1⟩:=I.base.there b o e hx;exact free b o' (yG b o e hx) e1 (I.base.free b o e n hx)
 ·obtain⟨o',e1⟩:=I.base.there b o e hx;exact there b o' (yG b o e hx) e1
 ·obtain⟨m1,e1⟩:=I.base.tbls b ps e;obtain⟨m2,e2⟩:=tbls b _ e1;exact⟨m1++m2,by rw [e2,jM]⟩
 ·obtain⟨m,hn,hl⟩:=I.loc;refine⟨m,ns m hn,fun i x v e1 e2 e3=>?_⟩;obtain⟨u,r,l⟩:=hl i x v e1 e2 e3;refine⟨u,r,?_⟩;rcases l with l | ⟨k,c,e,z⟩
  ·exact .inl l
  ·exact .inr ⟨k,c,e,cellK x c e _ z⟩
 ·obtain⟨v,z⟩:=I.cell x c e;exact⟨v,cellK x c e v z⟩
 ·obtain⟨m,⟨o,_,_,ho,_⟩,_⟩:=I.loc;exact free _ o (fun z=>(qj _ z).2.1 rfl) ho I.free
 ·obtain⟨v,o,ho,hd⟩:=I.cell x c e;exact free c o (fun z=>(qj c z).2.2.1 x c e rfl) ho (I.freeC x c e)
 ·obtain⟨e,n,ne,nf,d⟩:=I.pin p hp;have wX:p.1∉ch:=fun z=>(qj p.1 z).2.2.2 p hp rfl
  exact⟨keep p.1 p.2 ne nf wX e n,free p.1 p.2 wX e n,ne,nf,d⟩
theorem Inv.un {t':Nat} (I:Inv X lX σ H s) (u:Un X.fs [] H H' s.heap h') (hok:HOk X.prog X.w H' h'):Inv X lX σ H' { s with heap:=h',toks:=t' }:=by
 obtain⟨m,⟨o,es,ep,ho,r⟩,_⟩:=id I.loc;obtain⟨sl,hL⟩:=u.any ho I.free #[M];exact I.step (g':=s.gens) (d':=s.drawn) (ch:=[]) (fun _ z=>nomatch z) (fun b o _ hb _ e n=>u.keep b o e n hb #[M]) (fun b o _ hb _ e n=>u.slot b o e n hb #[M]) (fun b o _ e n=>u.free b o e n #[M]) (fun b o _ e=>u.there b o e #[M]) u.tups u.frzs u.tbls (fun m' hm=>by
  obtain⟨o',es',yI,pJ,r'⟩:=hm;rw [ho] at pJ; cases pJ;exact⟨_,es',yI,hL,r'⟩) hok I.bare
theorem Inv.call {g':Array GenState} {t':Nat} {d':Drawn} {ch:List Addr} (I:Inv X lX σ H s) (u:Un (frs X.stack) ch H H' s.heap h') (hok:HOk X.prog X.w H' h') (hg:AllBare g')
  (qj:∀ b∈ch,(b∈X.ex∨X.s₀.heap.objs.size≤b)∧b≠X.env.locals∧(∀ x c,X.env.cells.lookup x=some c→c≠b)∧∀ p∈X.pn++lX,p.1≠b) :
  Inv X lX σ H' { s with heap:=h',gens:=g',drawn:=d',toks:=t' }:=by
 obtain⟨m,⟨o,es,ep,ho,r⟩,_⟩:=id I.loc;obtain⟨sl,hL⟩:=u.any ho I.free fun z=>(qj _ z).2.1 rfl
 exact I.step (ch:=ch) qj (fun b o hL hb hc e n=>u.keep b o e n (fun z=>(au.mp (I.stkSub b z)).elim hL hb) hc) (fun b o _ _ hc e n=>u.any e n hc) (fun b o hc e n=>u.free b o e n hc) (fun b o hc e=>u.there b o e hc) u.tups u.frzs u.tbls (fun m' hm=>by
  obtain⟨o',es',yI,pJ,r'⟩:=hm;rw [ho] at pJ; cases pJ;exact⟨_,es',yI,hL,r'⟩) hok hg
theorem Inv.turned {t':Nat} {it:Addr} (I:Inv X lX σ H s) (k:∀ b o,b≠it→s.heap.get? b=some o→h'.get? b=some o) (hn:H it=none) (hL:it≠X.env.locals)
  (h1:it∈X.ex∨X.s₀.heap.objs.size≤it) (h2:∀ x c,X.env.cells.lookup x=some c→c≠it) (h3:∀ p∈X.pn++lX,p.1≠it):Inv X lX σ H { s with heap:=h',toks:=t' }:=by
 have uG:∀ b u,H b=some u→b≠it:=fun b u e z=>by rw [z,hn] at e; cases e
 refine I.step (g':=s.gens) (d':=s.drawn) (ch:=[it]) (fun b hb=>?_) (fun b o _ _ hc e _=>k b o (fun z=>hc (by simp [z])) e) (fun b o _ _ hc e _=>⟨o.slots,k b o (fun z=>hc (by simp [z])) e⟩) (fun _ _ _ _ n=>n)
  (fun b o hc e=>⟨o,k b o (fun z=>hc (by simp [z])) e⟩) (fun _ _ e=>e) (fun _ _ _ e=>e) (fun b ps e=>⟨#[],by rw [e]; simp⟩) (fun m hm=>?_) (fun b u e=>?_) I.bare
 ·have e:b=it:=by simpa using hb
  subst e;exact⟨h1,hL,h2,h3⟩
 ·obtain⟨o,es,ep,ho,r⟩:=hm;exact⟨o,es,ep,k _ o (de hL) ho,r⟩
 ·refine (I.hok b u e).stay (fun c v hc q=>k c v ?_ q) (fun _ q=>q) fun _ _ q=>q
  rcases hc with z | z
  ·rw [z]; exact uG b u e
  ·exact uG c _ z
theorem Inv.tok (I:Inv X lX σ H s) (t:Nat):Inv X lX σ H { s with toks:=t }:=I.un (h':=s.heap) (t':=t) Un.refl I.hok
theorem Inv.kept {t':Nat} (I:Inv X lX σ H s) (k:∀ b u,s.heap.get? b=some u→h'.get? b=some u):Inv X lX σ H { s with heap:=h',toks:=t' }:=I.un (Un.kept k) (I.hok.kept k)
theorem Inv.laid {a:Addr} {o:HO} {t':Nat} (I:Inv X lX σ H s) (k:∀ b u,s.heap.get? b=some u→h'.get? b=some u) (hp:s.heap.objs.size≤a) (new:zO X.prog X.w (l7 H a o) h' a o) :
  Inv X lX σ (l7 H a o) { s with heap:=h',toks:=t' }:=I.un (Un.laid k hp (I.hok.fresh hp)) (I.hok.laid k hp new)
theorem Inv.write {x e:Addr} {o:HO} {t':Nat} (I:Inv X lX σ H s) (mu:Mut (H x)) (he:e=x∨H e=some (.own x)) (k:∀ b u,b≠e→s.heap.get? b=some u→h'.get? b=some u) (wd:∃ u,h'.get? e=some u)
  (new:zO X.prog X.w (l7 H x o) h' x o):Inv X lX σ (l7 H x o) { s with heap:=h',toks:=t' }:=I.un (Un.write mu he k wd) (I.hok.write mu he k wd new)
theorem Inv.weak {σ':List (Option V)} (I:Inv X lX σ H s) (hl:σ'.length=σ.length) (w:∀ (i:Nat) v,σ'[i]? = some (some v)→σ[i]? = some (some v)):Inv X lX σ' H s :=
 ⟨I.ok,I.os,I.bare,I.base,let ⟨m,hn,t5⟩:=I.loc; ⟨m,hn,fun i x v e1 e2 e3=>t5 i x v e1 (w i v e2) e3⟩,I.cell,I.free,I.freeC,I.pin,I.hok,hl.trans I.len⟩
theorem Inv.pins_of {n8:List (Addr×Obj)} (I:Inv X lX σ H s) (h:∀ p∈n8,s.heap.get? p.1=some p.2∧H p.1=none∧p.1≠X.env.locals∧p.1∉X.fs∧∀ v,p.2.data≠.cell v):Inv X n8 σ H s :=
 ⟨I.ok,I.os,I.bare,I.base,I.loc,I.cell,I.free,I.freeC,fun p hp=>(aR.mp hp).elim (fun z=>I.pin p (aI _ z)) (h p),I.hok,I.len⟩
theorem zdj {N:List Str} (hN:N.Nodup) {i j:Nat} {x:Str} (a:N[i]? = some x) (b:N[j]? = some x):i=j:=by
 obtain⟨h1,e1⟩:=aT.mp a;obtain⟨h2,e2⟩:=aT.mp b;exact (kC hN).mp (e1.trans e2.symm)
theorem zec {M:Model} {A:Around} {E:Value→Shared→Prop} {i:Nat} {x:Str} {v:V} {u:Value} {Q:Unit→Shared→Prop} (I:Inv X lX σ H s) (hN:X.N.Nodup) (hi:X.N[i]? = some x) (hx:Loc X.env.scope x) (r:RelV v u)
  (h:∀ s',Inv X lX (σ.set i (some v)) H s'→(∃ a,cS a s.heap s'.heap∧(a=X.env.locals∨X.env.cells.lookup x=some a))→Q () s') (hf:X.fn x=true∨X.env.scope.names.lookup x=some .local:=by first | exact .inl rfl | exact .inr rfl | assumption):wpAny M A (storeName X.env x u) Q E s:=by
 obtain⟨m,hn,hl⟩:=id I.loc;have sG:(X.env.scope.kind == .class || (X.env.scope.kind == .module && X.env.locals != X.env.globals))=false:=by rw [I.ok.kind]; rfl
 have hiσ:i < σ.length:=by rw [I.len]; exact (aT.mp hi).1
 have cne:=I.cne;have tracked:∀ {a:Addr} {h':Heap},(∃ o,s.heap.get? a=some o∧H a=none)→cS a s.heap h'→HOk X.prog X.w H h':=fun {a h'} ha hs b ob e=>by
  obtain⟨_,_,pQ⟩:=ha;refine (I.hok b ob e).stay (fun c w' hc q=>(hs.2 c ?_).trans q) (fun _ q=>q) fun _ _ q=>q
  rintro rfl;rcases hc with rfl | hc
  ·rw [pQ] at e; cases e
  ·rw [pQ] at hc; cases hc
 rcases hx with hk | hk
 ·refine wpAny_storeName_local hk hn (fun h' uH hs=>?_) sG;obtain⟨oL,_,_,we,_⟩:=id hn;refine h _ ⟨I.ok,I.os,I.bare,⟨fun b o e n hb hx=>?_,fun b o e n hb hx=>?_,I.base.free,fun b o e hx=>?_,I.base.tups,I.base.frzs,I.base.tbls⟩,⟨_,uH,fun j y v' e1 e2 e3=>?_⟩,fun y c e=>?_,I.free,I.freeC,fun p hp=>?_,tracked ⟨oL,we,I.free⟩ hs,by simpa using I.len⟩ ⟨_,hs,.inl rfl⟩
  ·exact (hs.2 b (aL (aJ (av e) I.ok.above))).trans (I.base.keep b o e n hb hx)
  ·obtain⟨sl,e1⟩:=I.base.slot b o e n hb hx;exact⟨sl,(hs.2 b (aL (aJ (av e) I.ok.above))).trans e1⟩
  ·obtain⟨o',e1⟩:=I.base.there b o e hx;exact⟨o',(hs.2 b (aL (aJ (av e) I.ok.above))).trans e1⟩
  ·by_cases hj:j=i
   ·subst hj;rw [hi] at e1; cases e1;rw [d6 hiσ] at e2;cases e2;exact⟨u,r,.inl ⟨hk,#[M]⟩⟩
   ·rw [eC (de hj)] at e2;obtain⟨u',r',q⟩:=hl j y v' e1 e2 e3;refine⟨u',r',?_⟩;rcases q with ⟨k,e⟩ | ⟨k,c,e,z⟩
    ·refine .inl ⟨k,?_⟩;have:y≠x:=fun e=>hj (zdj hN e1 (e ▸ hi))
     simp [this,e]
    ·exact .inr ⟨k,c,e,z.sameBut hs (cne y c e)⟩
  ·obtain⟨w',z⟩:=I.cell y c e;exact⟨w',z.sameBut hs (cne y c e)⟩
  ·obtain⟨e,n,ne,nf,d⟩:=I.pin p hp;exact⟨(hs.2 p.1 ne).trans e,n,ne,nf,d⟩
 ·have wg:X.fn x=true:=by
   rcases hf with z | z
   ·exact z
   ·rw [z] at hk; cases hk
  obtain⟨c,hc⟩:=I.ok.has x (.inl hk);obtain⟨w',z⟩:=I.cell x c hc;refine wpAny_storeName_cell I.ok.kind hk hc z (fun h' mG hs=>?_);obtain⟨oc,wY,Am⟩:=id z;refine h { s with heap:=h' } ⟨I.ok,I.os,I.bare,⟨fun b o e n hb hx=>?_,fun b o e n hb hx=>?_,I.base.free,fun b o e hx=>?_,I.base.tups,I.base.frzs,I.base.tbls⟩,⟨m,hn.sameBut hs (de (cne x c hc)),fun j y v' e1 e2 e3=>?_⟩,fun y c' e=>?_,I.free,I.freeC,fun p hp=>?_,tracked ⟨oc,wY,I.freeC x c hc⟩ hs,by simpa using I.len⟩ ⟨c,hs,.inr hc⟩
  ·exact (hs.2 b (aL (aJ (av e) (I.ok.cab x c wg hc)))).trans (I.base.keep b o e n hb hx)
  ·obtain⟨sl,e1⟩:=I.base.slot b o e n hb hx;exact⟨sl,(hs.2 b (aL (aJ (av e) (I.ok.cab x c wg hc)))).trans e1⟩
  ·obtain⟨o',e1⟩:=I.base.there b o e hx;exact⟨o',(hs.2 b (aL (aJ (av e) (I.ok.cab x c wg hc)))).trans e1⟩
  ·by_cases hj:j=i
   ·subst hj;rw [hi] at e1; cases e1;rw [d6 hiσ] at e2;cases e2;exact⟨u,r,.inr ⟨.inl hk,c,hc,mG⟩⟩
   ·rw [eC (de hj)] at e2;obtain⟨u',r',q⟩:=hl j y v' e1 e2 e3;refine⟨u',r',?_⟩;rcases q with q | ⟨k,c',e,z'⟩
    ·exact .inl q
    ·refine .inr ⟨k,c',e,z'.sameBut hs ?_⟩;rintro rfl;exact hj (zdj hN e1 (I.ok.inj _ _ _ e hc ▸ hi))
  ·by_cases nG:c'=c
   ·subst nG; exact⟨_,mG⟩
   ·obtain⟨w2,z2⟩:=I.cell y c' e;exact⟨w2,z2.sameBut hs nG⟩
  ·obtain⟨e,n,ne,nf,d⟩:=I.pin p hp;refine⟨(hs.2 p.1 ?_).trans e,n,ne,nf,d⟩;intro q;rw [q,wY] at e;have q':oc=p.2:=aX e;exact d w' (by rw [← q']; exact Am)
theorem zbK {M:Model} {A:Around} {E:Value→Shared→Prop} {i:Nat} {x:Str} {v:V} {u:Value} {Q:Unit→Shared→Prop} (I:Inv X lX σ H s) (hN:X.N.Nodup) (hi:X.N[i]? = some x) (hx:Loc X.env.scope x) (r:RelV v u)
  (h:∀ s',Inv X lX (σ.set i (some v)) H s'→Q () s') (hf:X.fn x=true∨X.env.scope.names.lookup x=some .local:=by first | exact .inl rfl | exact .inr rfl | assumption):wpAny M A (storeName X.env x u) Q E s :=
 zec I hN hi hx r (fun s' I' _=>h s' I') hf
theorem Inv.call' {s':Shared} {ch:List Addr} (I:Inv X lX σ H s) (ho:s'.os=s.os) (u:Un (frs X.stack) ch H H' s.heap s'.heap) (hok:HOk X.prog X.w H' s'.heap) (hg:AllBare s'.gens)
  (qj:∀ b∈ch,(b∈X.ex∨X.s₀.heap.objs.size≤b)∧b≠X.env.locals∧(∀ x c,X.env.cells.lookup x=some c→c≠b)∧∀ p∈X.pn++lX,p.1≠b):Inv X lX σ H' s':=by
 obtain⟨h',g',d',t',o'⟩:=s';have e:o'=s.os:=ho;subst e;exact I.call (g':=g') (t':=t') (d':=d') u hok hg qj
end
abbrev XK:=Value→Option Addr→Hp→Prop
abbrev St:=List (Option V)
abbrev VK:=V→Hp→Prop
abbrev TE:=St→Hp→VK→Prop
abbrev TT:=St→Hp→(Bool→Hp→Prop)→Prop
abbrev TA:=St→Hp→(List V→Hp→Prop)→Prop
structure Ends where
 nx:St→Hp→Prop
 rt:VK
 bk:St→Hp→Prop:=fun _ _=>False
 ct:St→Hp→Prop:=fun _ _=>False
abbrev TS:=Ends→St→Hp→Prop
def EP (X:Cx) (lX:List (Addr×Obj)) (σ:St) (Q:VK) (u:Value) (s':Shared):Prop:=∃ v H',Inv X lX σ H' s'∧RelV v u∧Q v H'
def TP (X:Cx) (lX:List (Addr×Obj)) (σ:St) (Q:Bool→Hp→Prop) (b:Bool) (s':Shared):Prop:=∃ H',Inv X lX σ H' s'∧Q b H'
def AP (X:Cx) (lX:List (Addr×Obj)) (σ:St) (Q:List V→Hp→Prop) (us:List Value) (s':Shared):Prop:=∃ vs H',Inv X lX σ H' s'∧zA vs us∧Q vs H'
def SP (X:Cx) (lX:List (Addr×Obj)) (D:Ends) (f:Flow) (s':Shared):Prop :=
 match f with
 | .next=>∃ σ' H',Inv X lX σ' H' s'∧D.nx σ' H'
 | .brk=>∃ σ' H',Inv X lX σ' H' s'∧D.bk σ' H'
 | .cont=>∃ σ' H',Inv X lX σ' H' s'∧D.ct σ' H'
 | .ret u=>∃ v σ' H',Inv X lX σ' H' s'∧RelV v u∧D.rt v H'
def PE (X:Cx) (e:Expr) (t:TE):Prop :=
 ∀ (lX:List (Addr×Obj)) (s:Shared) (σ:St) (H:Hp) (Q:VK),Inv X lX σ H s→t σ H Q→wpAny (model X.prog X.w) X.A (eval e X.env) (EP X lX σ Q) X.xe s
def PT (X:Cx) (e:Expr) (t:TT):Prop :=
 ∀ (lX:List (Addr×Obj)) (s:Shared) (σ:St) (H:Hp) (Q:Bool→Hp→Prop),Inv X lX σ H s→t σ H Q→wpAny (model X.prog X.w) X.A (isTrue e X.env (eval e X.env)) (TP X lX σ Q) X.xe s
def PW (X:Cx) (e:Expr) (t:TT):Prop :=
 ∀ (whole:Sem Value) (lX:List (Addr×Obj)) (s:Shared) (σ:St) (H:Hp) (Q:Bool→Hp→Prop),Inv X lX σ H s→t σ H Q→wpAny (model X.prog X.w) X.A (isTrue e X.env whole) (TP X lX σ Q) X.xe s
theorem PW.pt {X:Cx} {e:Expr} {t:TT} (h:PW X e t):PT X e t:=h _
def PA (X:Cx) (es:List Expr) (t:TA):Prop :=
 ∀ (pos:Pos) (lX:List (Addr×Obj)) (s:Shared) (σ:St) (H:Hp) (Q:List V→Hp→Prop),Inv X lX σ H s→t σ H Q→wpAny (model X.prog X.w) X.A (spliced (backTo pos (starEach es X.env))) (AP X lX σ Q) X.xe s
def PS (X:Cx) (st:Stmt) (t:TS):Prop :=
 ∀ (lX:List (Addr×Obj)) (s:Shared) (σ:St) (H:Hp) (D:Ends),Inv X lX σ H s→t D σ H→wpAny (model X.prog X.w) X.A (exec st X.env) (SP X lX D) X.xe s
def PSs (X:Cx) (st:List Stmt) (t:TS):Prop :=
 ∀ (lX:List (Addr×Obj)) (s:Shared) (σ:St) (H:Hp) (D:Ends),Inv X lX σ H s→t D σ H→wpAny (model X.prog X.w) X.A (execs st X.env) (SP X lX D) X.xe s
theorem thn {α:Type} {t:Sem α} {Q Q':α→Shared→Prop} {M:Model} {A:Around} {E:Value→Shared→Prop} {s:Shared} (h:wpAny M A t Q E s) (hQ:∀ a s,Q a s→Q' a s):wpAny M A t Q' E s:=bE h hQ fun _ _ x=>x
section
variable {X:Cx}
def zm2 (i:Nat):TE:=fun σ H Q=>∃ v,σ[i]? = some (some v)∧Q v H
def tC (v:V):TE:=fun _ H Q=>Q v H
theorem zl9 {i:Nat} {x:Str} {pos:Pos} (hN:X.N[i]? = some x) (hv:Vis X.env.scope x) (hd:(x == ("__debug__" : Str))=false:=by decide) (oq:(x == ("__classdict__" : Str))=false:=by decide):PE X (.Name x pos) (zm2 i):=by
 intro lX s σ H Q I h;obtain⟨v,e,h⟩:=h;obtain⟨m,hn,hl⟩:=I.loc;obtain⟨u,r,l⟩:=hl i x v hN e hv;have fin:EP X lX σ Q u s:=⟨v,H,I,r,h⟩;rcases l with ⟨hk,hm⟩ | ⟨hk,c,hc,nv⟩
 ·exact g8 (jf I.ok.kind hk hn hm fin) hd
 ·rcases hk with hk | hk
  ·exact g8 (wpAny_loadName_cell I.ok.kind hk hc nv fin) hd
  ·exact g8 (jy I.ok.kind hk hc nv fin oq) hd
theorem zf {i j pos}:PE X (.Constant (.int i) j pos) (tC (.int i)):=fun _ _ _ H _ I h=>wpAny_Constant_int ⟨.int i,H,I.tok _,⟨_,rfl⟩,h⟩
theorem zbH {b j pos}:PE X (.Constant (.bool b) j pos) (tC (.bl b)):=fun _ _ _ H _ I h=>Constant_bool ⟨.bl b,H,I,rfl,h⟩
theorem zja {j pos}:PE X (.Constant .none j pos) (tC .non):=fun _ _ _ H _ I h=>Constant_none ⟨.non,H,I,rfl,h⟩
theorem zdk {x j pos}:PE X (.Constant (.str x) j pos) (tC (.str x)):=fun _ _ _ H _ I h=>Calls.Constant_str ⟨.str x,H,I.tok _,⟨_,rfl⟩,h⟩
def Gl (X:Cx) (x:Str):Prop:=X.env.kindOf x=some .globalImplicit
theorem zbU {E:Value→Shared→Prop} {lX:List (Addr×Obj)} {s:Shared} {σ:St} {H:Hp} {x:Str} {u:Value} {pos:Pos} {Q:Value→Shared→Prop} (I:Inv X lX σ H s) (hg:Gl X x) (hm:X.mg x=some u) (h:Q u s)
  (hd:(x == ("__debug__" : Str))=false:=by decide):wpAny (model X.prog X.w) X.A (eval (.Name x pos) X.env) Q E s :=
 eJ I.ok.kind hg (Calls.loadGlobal_global (by rw [I.ok.glob]; exact I.mod.glob.keeps I.bk) hm h) hd
theorem zbc {E:Value→Shared→Prop} {lX:List (Addr×Obj)} {s:Shared} {σ:St} {H:Hp} {x:Str} {u:Value} {pos:Pos} {Q:Value→Shared→Prop} (I:Inv X lX σ H s) (hg:Gl X x) (hm:X.mg x=none) (hv:bootBuiltins x=some u) (h:Q u s)
  (hn:x≠"__name__":=by decide) (hd:(x == ("__debug__" : Str))=false:=by decide):wpAny (model X.prog X.w) X.A (eval (.Name x pos) X.env) Q E s:=by
 obtain⟨mb,h1,h2⟩:=I.mod.blt;exact eJ I.ok.kind hg (hU (by rw [I.ok.glob]; exact I.mod.glob.keeps I.bk) hm (by rw [I.ok.blt]; exact h1.keeps I.bk) ((h2 x hn).trans hv) h) hd
theorem zaJ {x:Str} {v:V} {u:Value} {pos:Pos} (hg:Gl X x) (hm:X.mg x=some u) (r:RelV v u) (hd:(x == ("__debug__" : Str))=false:=by decide):PE X (.Name x pos) (tC v) :=
 fun _ _ _ H _ I h=>zbU I hg hm ⟨v,H,I,r,h⟩ hd
theorem zbV {x:Str} {v:V} {u:Value} {pos:Pos} (hg:Gl X x) (hm:X.mg x=none) (hv:bootBuiltins x=some u) (r:RelV v u) (hn:x≠"__name__":=by decide) (hd:(x == ("__debug__" : Str))=false:=by decide):PE X (.Name x pos) (tC v) :=
 fun _ _ _ H _ I h=>zbc I hg hm hv ⟨v,H,I,r,h⟩ hn hd
variable {a b:Expr} {ta tb:TE} {pos:Pos}
def tB (t:TE):TT:=fun σ H Q=>t σ H fun x H1=>∃ c,x = .bl c∧Q c H1
theorem zdl {e:Expr} {t:TE} (h:PE X e t) (he:∀ whole,isTrue e X.env whole=(do let v ← whole; standAt e.pos; holding [v] (truthy v)):=by intro _; rfl):PT X e (tB t):=by
 intro lX s σ H Q I hw;refine isTrue_plain (thn (h lX s σ H _ I hw) fun v s1 ⟨x,H1,I1,r1,q1⟩=>?_) (he _);obtain⟨d,rfl,q⟩:=q1;cases r1;exact cM ⟨H1,I1,q⟩
variable {tA tB':TT} {rest:List Expr}
def tOr (t u:TT):TT:=fun σ H Q=>t σ H fun c H1=>if c=true then Q true H1 else u σ H1 Q
def znx (t:TT):TT:=fun σ H Q=>t σ H fun c H1=>Q (!c) H1
theorem zcJ (ha:PT X a tA):PW X (.BoolOp .Or [a] pos) tA:=by
 intro wh lX s σ H Q I h;refine isTrue_or (thn (ha lX s σ H Q I h) fun c s1 e=>?_);cases c with
 | false=>exact isTrue_or_nil e
 | true=>exact e
theorem zcV (ha:PT X a tA) (hb:PW X (.BoolOp .Or (b :: rest) pos) tB'):PW X (.BoolOp .Or (a :: b :: rest) pos) (tOr tA tB'):=by
 intro wh lX s σ H Q I h;refine isTrue_or (thn (ha lX s σ H _ I h) fun c s1 ⟨H1,I1,q1⟩=>?_);cases c with
 | true=>exact⟨H1,I1,q1⟩
 | false=>exact hb wh lX s1 σ H1 Q I1 q1
theorem zcK (ha:PT X a tA):PT X (.UnaryOp .Not a pos) (znx tA):=by
 intro lX s σ H Q I h;exact isTrue_not (ha lX s σ H (fun c H1=>Q (!c) H1) I h)
def zm3 (ta tb:TE):TE:=fun σ H Q=>ta σ H fun x H1=>∃ c,x = .bl c∧if c=true then tb σ H1 Q else Q (.bl false) H1
def zm4 (ta:TE):TE:=fun σ H Q=>ta σ H fun x H1=>∃ c,x = .bl c∧Q (.bl (!c)) H1
theorem zgk {op} {t:TE} (h:PE X a t):PE X (.BoolOp op [a] pos) t:=fun lX s σ H Q I hw=>BoolOp_one (h lX s σ H Q I hw)
theorem zgl (ha:PE X a ta) (hb:PE X (.BoolOp .And (b :: rest) pos) tb):PE X (.BoolOp .And (a :: b :: rest) pos) (zm3 ta tb):=by
 intro lX s σ H Q I h;refine BoolOp_and (thn (ha lX s σ H _ I h) fun v s1 ⟨x,H1,I1,r1,q1⟩=>?_);obtain⟨c,rfl,q1⟩:=q1;cases r1;refine cM ?_;cases c with
 | true=>exact hb lX s1 σ H1 Q I1 q1
 | false=>exact⟨.bl false,H1,I1,rfl,q1⟩
theorem zma (ha:PE X a ta):PE X (.UnaryOp .Not a pos) (zm4 ta):=by
 intro lX s σ H Q I h;refine UnaryOp_ (thn (ha lX s σ H _ I h) fun v s1 ⟨x,H1,I1,r1,q1⟩=>?_);obtain⟨c,rfl,q1⟩:=q1;cases r1;exact not_of (cM ⟨.bl (!c),H1,I1,rfl,q1⟩)
def tIf (t:TT) (ta tb:TE):TE:=fun σ H Q=>t σ H fun c H1=>if c=true then ta σ H1 Q else tb σ H1 Q
end
def l8 (K:ag) (H:Hp) (a:Addr) (xs:List V):Prop :=
 Rd H a (.lst xs) ∨
  ∃ (o:Obj) (lY:Array Value) (n:Nat),K.lookup a=some o∧o.cls = .type "list"∧o.dict=none∧o.data = .seq lY n∧lY.size≤sizeLine∧zA xs lY.toList
def mj (K:ag) (H:Hp) (a:Addr) (xs:List V):Prop :=
 Rd H a (.tup xs) ∨
  ∃ (o:Obj) (lY:Array Value) (n:Nat),K.lookup a=some o∧o.cls = .type "tuple"∧o.data = .seq lY n∧lY.size≤sizeLine∧zA xs lY.toList
def zny:Value→Option V
 | .none=>some .non
 | .bool b=>some (.bl b)
 | .int i _=>some (.int i)
 | .str x _=>some (.str x)
 | .bytes b _=>some (.byt b)
 | .float b _=>some (.flt b)
 | .ref a=>some (.ref a)
 | .type n=>some (.ty n)
 | _=>none
theorem RelV.abs {x:V} {u:Value} (r:RelV x u):zny u=some x:=by
 cases x with
 | non=>cases r; rfl
 | bl _=>cases r; rfl
 | int _=>obtain⟨t,rfl⟩:=r; rfl
 | str _=>obtain⟨t,rfl⟩:=r; rfl
 | byt _=>obtain⟨t,rfl⟩:=r; rfl
 | flt _=>obtain⟨t,rfl⟩:=r; rfl
 | ref _=>cases r; rfl
 | ty _=>cases r; rfl
theorem RelV.inj {x y:V} {u:Value} (r:RelV x u) (q:RelV y u):x=y:=aX (r.abs.symm.trans q.abs)
theorem zA.inj:∀ {xs ys:List V} {us:List Value},zA xs us→zA ys us→xs=ys
 | _,_,_,.nil,.nil=>rfl
 | _,_,_,.cons r t,.cons r' t'=>by rw [r.inj r',zA.inj t t']
section
variable {X:Cx} {lX:List (Addr×Obj)} {σ:St} {H:Hp} {s:Shared} {a:Addr} {xs ys:List V}
theorem l8.of {K:ag} (h:H a=some (.lst xs)):l8 K H a xs:=.inl (.inl h)
theorem mj.of {K:ag} (h:H a=some (.tup xs)):mj K H a xs:=.inl (.inl h)
theorem Inv.list (I:Inv X lX σ H s) (h:l8 X.K H a xs):∃ lY:List Value,zA xs lY∧PlainL s.heap a lY.toArray∧xs.length≤sizeLine:=by
 rcases h with h | ⟨o,lY,n,hk,hc,hd,hs,hz,r⟩
 ·obtain⟨z,lY,n,r,e⟩:=h.ok I.hok;exact⟨lY,r,⟨_,n,e,rfl,rfl,rfl⟩,z⟩
 ·refine⟨lY.toList,r,⟨o,n,I.kIn a o hk,hc,hd,by simpa using hs⟩,?_⟩;have e:=r.length;simp only [aH] at e;lia
theorem Inv.tuple (I:Inv X lX σ H s) (h:mj X.K H a xs):∃ lY:List Value,zA xs lY∧IsTup s.heap a lY.toArray∧xs.length≤sizeLine:=by
 rcases h with h | ⟨o,lY,n,hk,hc,hs,hz,r⟩
 ·obtain⟨z,lY,r,p⟩:=h.ok I.hok;exact⟨lY,r,p,z⟩
 ·refine⟨lY.toList,r,⟨o,I.kIn a o hk,hc,n,by simpa using hs⟩,?_⟩;have e:=r.length;simp only [aH] at e;lia
theorem Inv.list_inj (I:Inv X lX σ H s) (h:l8 X.K H a xs) (h':l8 X.K H a ys):xs=ys:=by
 obtain⟨lY,r,⟨o,n,e,_,_,d⟩,_⟩:=I.list h;obtain⟨its',r',⟨o',n',e',_,_,d'⟩,_⟩:=I.list h';rw [e] at e'; cases e';rw [d] at d';injection d' with d1 _
 have:lY=its':=by simpa using congrArg lM d1
 subst this;exact r.inj r'
theorem Inv.tuple_inj (I:Inv X lX σ H s) (h:mj X.K H a xs) (h':mj X.K H a ys):xs=ys:=by
 obtain⟨lY,r,⟨o,e,_,n,d⟩,_⟩:=I.tuple h;obtain⟨its',r',⟨o',e',_,n',d'⟩,_⟩:=I.tuple h';rw [e] at e'; cases e';rw [d] at d';injection d' with d1 _
 have:lY=its':=by simpa using congrArg lM d1
 subst this;exact r.inj r'
end
abbrev Cx.wish (X:Cx) (E:Value→Shared→Prop):Cx:={ X with xe:=E }
abbrev Cx.nox (X:Cx):Cx:=X.wish fun _ _=>False
theorem Cx.Ok.wish {X:Cx} (ok:X.Ok) (E:Value→Shared→Prop):(X.wish E).Ok :=
 ⟨ok.mod,ok.kind,ok.glob,ok.blt,ok.above,ok.inj,ok.has,ok.cab,ok.hd,ok.frames,ok.stk,ok.exf,ok.bs,ok.bsz,ok.noex,ok.exfs,ok.funs,ok.frf⟩
theorem Cx.Ok.unwish {X:Cx} {E:Value→Shared→Prop} (ok:(X.wish E).Ok):X.Ok :=
 ⟨ok.mod,ok.kind,ok.glob,ok.blt,ok.above,ok.inj,ok.has,ok.cab,ok.hd,ok.frames,ok.stk,ok.exf,ok.bs,ok.bsz,ok.noex,ok.exfs,ok.funs,ok.frf⟩
section
variable {X:Cx} {lX:List (Addr×Obj)} {σ:St} {H:Hp} {s:Shared} {E:Value→Shared→Prop}
theorem Inv.wish (I:Inv X lX σ H s) (E:Value→Shared→Prop):Inv (X.wish E) lX σ H s:=⟨I.ok.wish E,I.os,I.bare,I.base,I.loc,I.cell,I.free,I.freeC,I.pin,I.hok,I.len⟩
theorem Inv.unwish (I:Inv (X.wish E) lX σ H s):Inv X lX σ H s:=⟨I.ok.unwish,I.os,I.bare,I.base,I.loc,I.cell,I.free,I.freeC,I.pin,I.hok,I.len⟩
theorem SP.unwish {D:Ends} {f:Flow} {s':Shared} (h:SP (X.wish E) lX D f s'):SP X lX D f s':=by
 cases f with
 | next=>obtain⟨σ',H',I,q⟩:=h; exact⟨σ',H',I.unwish,q⟩
 | brk=>obtain⟨σ',H',I,q⟩:=h; exact⟨σ',H',I.unwish,q⟩
 | cont=>obtain⟨σ',H',I,q⟩:=h; exact⟨σ',H',I.unwish,q⟩
 | ret u=>obtain⟨v,σ',H',I,r,q⟩:=h; exact⟨v,σ',H',I.unwish,r,q⟩
theorem PSs.nox {st:List Stmt} {t:TS} (h:PSs X.nox st t):PSs X st t:=fun lX s σ H D I hw =>
 bE (h lX s σ H D (I.wish _) hw) (fun _ _ q=>q.unwish) fun _ _ z=>bQ z
end
section
variable {X:Cx} {st:Stmt} {rest:List Stmt} {t u:TS} {e:Expr} {te:TE} {pos:Pos}
def zm5:TS:=fun D σ H=>D.nx σ H
def zaE (t u:TS):TS:=fun D σ H=>t { D with nx:=u D } σ H
theorem zal:PSs X [] zm5:=fun _ _ σ H _ I h=>eP ⟨σ,H,I,h⟩
theorem zd (h1:PS X st t) (h2:PSs X rest u):PSs X (st :: rest) (zaE t u):=by
 intro lX s σ H D I h;refine hV (thn (h1 lX s σ H { D with nx:=u D } I h) fun f s1 q=>?_);cases f with
 | next =>
  obtain⟨σ',H',I',q⟩:=q;exact h2 lX s1 σ' H' D I' q
 | ret v=>exact q
 | brk=>exact q
 | cont=>exact q
theorem zp (h1:PS X st t):PSs X [st] t:=by
 intro lX s σ H D I h;refine hV (thn (h1 lX s σ H D I h) fun f s1 q=>?_);cases f with
 | next=>exact eP q
 | ret v=>exact q
 | brk=>exact q
 | cont=>exact q
theorem Inv.quiet {lX:List (Addr×Obj)} {σ:St} {H:Hp} {s:Shared} (I:Inv X lX σ H s):interactive X.env=false:=by simp [interactive,I.ok.kind]
def zm6 (te:TE):TS:=fun D σ H=>te σ H fun _ H1=>D.nx σ H1
theorem zc7 (he:PE X e te) (hs:swapsWith e none pos.line X.env=pure false:=by rfl):PS X (.Expr e pos) (zm6 te):=by
 intro lX s σ H D I h;exact wpAny_Expr_any (thn (he lX s σ H _ I h) fun v s1 ⟨x,H1,I1,r1,q1⟩=>⟨σ,H1,I1,q1⟩) I.quiet hs
def znz (te:TE):TS:=fun D σ H=>te σ H D.rt
theorem zP (he:PE X e te):PS X (.Return (some e) pos) (znz te):=by
 intro lX s σ H D I h;exact wpAny_Return_some (thn (he lX s σ H _ I h) fun v s1 ⟨x,H1,I1,r1,q1⟩=>⟨x,σ,H1,I1,r1,q1⟩)
def znA (c:TT) (t u:TS):TS:=fun D σ H=>c σ H fun b H1=>if b=true then t D σ H1 else u D σ H1
theorem zbi {c:Expr} {a b:List Stmt} {tc:TT} (hc:PT X c tc) (ha:PSs X a t) (hb:PSs X b u):PS X (.If c a b pos) (znA tc t u):=by
 intro lX s σ H D I h;refine wpAny_If (thn (hc lX s σ H _ I h) fun d s1 ⟨H1,I1,q1⟩=>?_);cases d with
 | true=>exact ha lX s1 σ H1 D I1 q1
 | false=>exact hb lX s1 σ H1 D I1 q1
end
abbrev TG:=V→St→Hp→(St→Hp→Prop)→Prop
abbrev TGs:=List V→St→Hp→(St→Hp→Prop)→Prop
def PG (X:Cx) (target:Expr) (t:TG):Prop :=
 ∀ (lX:List (Addr×Obj)) (s:Shared) (σ:St) (H:Hp) (v:V) (u:Value) (Q:St→Hp→Prop),Inv X lX σ H s→RelV v u→t v σ H Q →
  wpAny (model X.prog X.w) X.A (assign target X.env u) (fun _ s'=>∃ σ' H',Inv X lX σ' H' s'∧Q σ' H') X.xe s
def PGs (X:Cx) (ts:List Expr) (t:TGs):Prop :=
 ∀ (lX:List (Addr×Obj)) (s:Shared) (σ:St) (H:Hp) (vs:List V) (us:List Value) (Q:St→Hp→Prop),Inv X lX σ H s→zA vs us→t vs σ H Q →
  wpAny (model X.prog X.w) X.A (assignInOrder ((assignEach ts X.env).map (·.2)) us) (fun _ s'=>∃ σ' H',Inv X lX σ' H' s'∧Q σ' H') X.xe s
section
variable {X:Cx} {pos:Pos}
def zaB (i:Nat):TG:=fun v σ H Q=>Q (σ.set i (some v)) H
theorem zj {i:Nat} {x:Str} (hN:X.N.Nodup) (hi:X.N[i]? = some x) (hx:Loc X.env.scope x) (hf:X.fn x=true∨X.env.scope.names.lookup x=some .local:=by first | exact .inl rfl | exact .inr rfl | assumption):PG X (.Name x pos) (zaB i):=by
 intro lX s σ H v u Q I r h;exact wpAny_assign_Name (zbK I hN hi hx r (fun s' I'=>⟨_,H,I',h⟩) hf)
def zkN:TGs:=fun vs σ H Q=>vs = []∧Q σ H
def zfl (t:TG) (u:TGs):TGs:=fun vs σ H Q=>∃ v r,vs=v :: r∧t v σ H fun σ' H'=>u r σ' H' Q
theorem zaK:PGs X [] zkN:=by
 intro lX s σ H vs us Q I r h;obtain⟨e,h⟩:=h;subst e;cases r;exact assignInOrder_nil ⟨σ,H,I,h⟩
theorem zy {e:Expr} {es:List Expr} {t:TG} {u:TGs} (h1:PG X e t) (h2:PGs X es u)
  (hs:(assignEach (e :: es) X.env).map (·.2)=assign e X.env :: (assignEach es X.env).map (·.2):=by rfl):PGs X (e :: es) (zfl t u):=by
 intro lX s σ H vs us Q I r h;obtain⟨v,vr,e1,h⟩:=h;subst e1;cases r with
 | cons r rr =>
  rw [hs];refine assignInOrder_cons (thn (h1 lX s σ H _ _ _ I r h) fun _ s1 ⟨σ1,H1,I1,q1⟩=>?_);exact h2 lX s1 σ1 H1 _ _ Q I1 rr q1
def zjb (K:ag) (n:Nat) (t:TGs):TG:=fun v σ H Q=>∃ a xs,v = .ref a∧mj K H a xs∧xs.length=n∧t xs σ H Q
theorem zcc {es:List Expr} {k:Nat} {t:TGs} {n:Nat} (hc:X.calm=true) (h:PGs X es t)
  (hn:(assignEach es X.env).length=n:=by rfl) (n9:(assignEach es X.env).findIdx? (·.1)=none:=by rfl):PG X (.Tuple es k pos) (zjb X.K n t):=by
 intro lX s σ H v u Q I r hw;obtain⟨a,xs,e1,hq,hl,hw⟩:=hw;subst e1;cases r;obtain⟨lY,rv,ht,hz⟩:=I.tuple hq;refine assign_Tuple_tuple (I.ok.hd hc) ht (by simp [hn,← hl,rv.length]) n9 fun h' hx=>?_
 have I1:Inv X lX σ H { s with heap:=h' }:=I.kept (t':=s.toks) fun b o e=>hx b o (aL (av e)) e
 exact h lX _ σ H xs _ Q I1 (by simpa using rv) hw
def zdY (te:TE) (g:TG):TS:=fun D σ H=>te σ H fun x H1=>g x σ H1 D.nx
theorem zcL {tg e:Expr} {te:TE} {g:TG} (he:PE X e te) (hg:PG X tg g) (hs:swapsWithSole [tg] e pos.line X.env=pure false:=by rfl) (hw:swappedStores [tg] e X.env=pure none:=by rfl)
  (h1:(assignEach [tg] X.env).map (·.2) = [assign tg X.env]:=by rfl):PS X (.Assign [tg] e pos) (zdY te g):=by
 intro lX s σ H D I h;refine wpAny_Assign_stores (thn (he lX s σ H _ I h) fun v s1 ⟨x,H1,I1,r1,q1⟩=>?_) hs hw;rw [h1];exact thn (hg lX s1 σ H1 x v _ I1 r1 q1) fun _ s2 q=>q
theorem zr {i:Nat} {x:Str} {e:Expr} {te:TE} {pos':Pos} (hN:X.N.Nodup) (hi:X.N[i]? = some x) (hx:Loc X.env.scope x) (he:PE X e te) (hs:swapsWith e (some (.Name x pos')) pos.line X.env=pure false:=by rfl) (hf:X.fn x=true∨X.env.scope.names.lookup x=some .local:=by first | exact .inl rfl | exact .inr rfl | assumption) :
  PS X (.Assign [.Name x pos'] e pos) (zdY te (zaB i)):=by
 intro lX s σ H D I h;refine wpAny_Assign_Name (thn (he lX s σ H _ I h) fun v s1 ⟨y,H1,I1,r1,q1⟩=>?_) hs;exact zbK I1 hN hi hx r1 (fun s2 I2=>⟨_,H1,I2,q1⟩) hf
end
structure It where
 go:Nat→Hp→Prop
 yld:Nat→Hp→V→Hp→Prop
 stop:Nat→Hp→Prop
def zbL (X:Cx) (lX:List (Addr×Obj)) (H:Hp) (b:Addr):Prop :=
 H b=none∧b≠X.env.locals∧b∉X.fs∧(b∈X.ex∨X.s₀.heap.objs.size≤b)∧(∀ x c,X.env.cells.lookup x=some c→c≠b)∧∀ p∈X.pn++lX,p.1≠b
theorem Inv.fpOk {X:Cx} {lX:List (Addr×Obj)} {σ:St} {H H':Hp} {s:Shared} {b:Addr} (I:Inv X lX σ H s) (hb:s.heap.objs.size≤b) (hn:H' b=none):zbL X lX H' b:=by
 refine⟨hn,dL (aJ I.lt hb),I.nofs hb,.inr (bg I.sz hb),fun x c e z=>?_,fun p hp z=>?_⟩
 ·obtain⟨v,q⟩:=I.cell x c e;exact absurd (aJ q.lt (by rw [z]; exact hb)) (cn _)
 ·exact absurd (aJ (av (I.pin p hp).1) (by rw [z]; exact hb)) (cn _)
structure Turn (P:Program) (w:World) (K:ag) (tg:Expr) (J:It) (fp:List Addr) (it:Addr) (tn:Nat→Heap→Prop):Prop where
 mem:it∈fp
 obj:∀ i h,tn i h→∀ b∈fp,∃ o,h.get? b=some o∧∀ v,o.data≠.cell v
 keep:∀ i h h',tn i h→(∀ b∈fp,∀ o,h.get? b=some o→h'.get? b=some o)→tn i h'
 item:∀ (X:Cx),X.prog=P→X.w=w→X.K=K→X.calm=true→∀ (i:Nat) (lX:List (Addr×Obj)) (s:Shared) (σ:St) (H:Hp) (E:Value→Shared→Prop),Inv X lX σ H s→(∀ b∈fp,zbL X lX H b)→tn i s.heap→J.go i H →
  wpAny (model P w) X.A (pyNext (.ref it)) (fun r s1=>∃ u,r=some u ∧
   wpAny (model P w) X.A (letOwnedTupleGo tg (.ref it) u) (fun _ s2=>∃ x H',Inv X lX σ H' s2∧RelV x u∧J.yld i H x H'∧tn (i+1) s2.heap∧∀ b∈fp,H' b=none) E s1) E s
 done:∀ (X:Cx),X.prog=P→X.w=w→X.K=K→X.calm=true→∀ (i:Nat) (lX:List (Addr×Obj)) (s:Shared) (σ:St) (H:Hp) (E:Value→Shared→Prop),Inv X lX σ H s→(∀ b∈fp,zbL X lX H b)→tn i s.heap→J.stop i H →
  wpAny (model P w) X.A (pyNext (.ref it)) (fun r s1=>r=none∧Inv X lX σ H s1) E s
 self:∀ (A:Around) (i:Nat) (s:Shared) (Q:Value→Shared→Prop) (E:Value→Shared→Prop),tn i s.heap→Q (.ref it) s→wpAny (model P w) A (pyIter (.ref it)) Q E s
abbrev TI:=St→Hp→(It→Hp→Prop)→Prop
def PIE (X:Cx) (lX:List (Addr×Obj)) (σ:St) (tg:Expr) (R:It→Hp→Prop) (u6:Value) (s2:Shared):Prop :=
 ∃ (it:Addr) (fp:List Addr) (tn:Nat→Heap→Prop) (J:It) (H':Hp),u6 = .ref it∧Inv X lX σ H' s2∧Turn X.prog X.w X.K tg J fp it tn∧tn 0 s2.heap∧(∀ b∈fp,zbL X lX H' b)∧R J H'
def PI (X:Cx) (tg iter:Expr) (wi:TI):Prop :=
 ∀ (lX:List (Addr×Obj)) (s:Shared) (σ:St) (H:Hp) (R:It→Hp→Prop),Inv X lX σ H s→wi σ H R →
  wpAny (model X.prog X.w) X.A (eval iter X.env) (fun v s1=>wpAny (model X.prog X.w) X.A (pyIter v) (PIE X lX σ tg R) X.xe s1) X.xe s
theorem zfm {M:Model} {A:Around} {E:Value→Shared→Prop} {s:Shared} {tg:Expr} {it:Addr} {u:Value} {o:Obj} {n:String} {vs:Array Value} {Q:Unit→Shared→Prop} (ho:s.heap.get? it=some o) (hc:o.cls = .type n) (hd:o.data = .fields vs)
  (hn:["enumerate","zip","dict_itemiterator","dict_reverseitemiterator","odict_iterator","itertools.zip_longest","itertools.pairwise"].contains n=false) (hQ:Q () s):wpAny M A (letOwnedTupleGo tg (.ref it) u) Q E s:=by
 unfold letOwnedTupleGo;cases tg <;> first
  | exact af hQ
  | (cases u <;> first
    | exact af hQ
    | (refine aa (wpAny_load ho ?_)
       rw [hc,hd];show wpAny M A (if (["enumerate","zip","dict_itemiterator","dict_reverseitemiterator","odict_iterator","itertools.zip_longest","itertools.pairwise"].contains n && vs[0]? == some (rawInt _))=true then _ else _) Q E s;rw [if_neg (by intro h; rw [hn,lh] at h; cases h)];exact af hQ))
def Itl (K:ag) (a:Addr):It :=
 ⟨fun i H=>∃ xs x,l8 K H a xs∧xs[i]? = some x,fun i H x H'=>H'=H∧∀ xs,l8 K H a xs→xs[i]? = some x,fun i H=>∃ xs,l8 K H a xs∧xs.length≤i⟩
def Itt (K:ag) (a:Addr):It :=
 ⟨fun i H=>∃ xs x,mj K H a xs∧xs[i]? = some x,fun i H x H'=>H'=H∧∀ xs,mj K H a xs→xs[i]? = some x,fun i H=>∃ xs,mj K H a xs∧xs.length≤i⟩
def Itr (lo:Int) (n:Nat):It:=⟨fun i _=>i < n,fun i H x H'=>H'=H∧x = .int (lo+i),fun i _=>n≤i⟩
theorem zed {P:Program} {w:World} {K:ag} {tg:Expr} (a it:Addr):Turn P w K tg (Itl K a) [it] it (fun i h=>h.IsListIter it a i) where
 mem:=by simp
 obj:=fun i h st b hb=>by
  have e:b=it:=by simpa using hb
  subst e;obtain⟨o,e,c,d⟩:=st;exact⟨o,e,fun v z=>by rw [d] at z; cases z⟩
 keep:=fun i h h' st k=>st.at fun o e=>k it #[M] o e
 item:=by
  intro X hP hw hK hc i lX s σ H E I hf st hg;subst hP hw hK;obtain⟨xs,x,hq,hx⟩:=hg;obtain⟨lY,rv,p,hz⟩:=I.list hq;obtain⟨u,hu,ru⟩:=rv.get hx;obtain⟨f0,f1,f2,f3,f4,f5⟩:=hf it #[M];refine wpAny_pyNext_list_item st p.isList (x:=u) (by simpa using hu) fun h' lZ sb=>?_
  have I1:Inv X lX σ H { s with heap:=h' }:=I.turned (t':=s.toks) (fun b o hb e=>(sb.2 b hb).trans e) f0 f1 f3 f4 f5;obtain⟨o,e,c,d⟩:=id lZ;exact⟨u,rfl,zfm (s:={ s with heap:=h' }) e c d #[D] ⟨x,H,I1,ru,⟨rfl,fun ys hy=>by rw [I.list_inj hy hq]; exact hx⟩,lZ,fun b hb=>(hf b hb).1⟩⟩
 done:=by
  intro X hP hw hK hc i lX s σ H E I hf st hg;subst hP hw hK;obtain⟨xs,hq,hx⟩:=hg;obtain⟨lY,rv,p,hz⟩:=I.list hq;obtain⟨f0,f1,f2,f3,f4,f5⟩:=hf it #[M];have hl:=rv.length;exact wpAny_pyNext_list_end (I.ok.hd hc) st p.isList (by simp; lia) fun h' eb=>⟨rfl,I.turned (t':=s.toks) (fun b o hb e=>eb b o hb e) f0 f1 f3 f4 f5⟩
 self:=fun _ _ _ _ _ st h=>wpAny_pyIter_listiter st h
theorem zdm {P:Program} {w:World} {K:ag} {tg:Expr} (a it:Addr):Turn P w K tg (Itt K a) [it] it (fun i h=>h.IsTupleIter it a i) where
 mem:=by simp
 obj:=fun i h st b hb=>by
  have e:b=it:=by simpa using hb
  subst e;obtain⟨o,e,c,d⟩:=st;exact⟨o,e,fun v z=>by rw [d] at z; cases z⟩
 keep:=fun i h h' st k=>st.at fun o e=>k it #[M] o e
 item:=by
  intro X hP hw hK hc i lX s σ H E I hf st hg;subst hP hw hK;obtain⟨xs,x,hq,hx⟩:=hg;obtain⟨lY,rv,p,hz⟩:=I.tuple hq;obtain⟨u,hu,ru⟩:=rv.get hx;obtain⟨f0,f1,f2,f3,f4,f5⟩:=hf it #[M];refine wpAny_pyNext_tuple_item st (show s.heap.IsTuple a lY.toArray from p) (x:=u) (by simpa using hu) fun h' lZ sb=>?_
  have I1:Inv X lX σ H { s with heap:=h' }:=I.turned (t':=s.toks) (fun b o hb e=>(sb.2 b hb).trans e) f0 f1 f3 f4 f5;obtain⟨o,e,c,d⟩:=id lZ;exact⟨u,rfl,zfm (s:={ s with heap:=h' }) e c d #[D] ⟨x,H,I1,ru,⟨rfl,fun ys hy=>by rw [I.tuple_inj hy hq]; exact hx⟩,lZ,fun b hb=>(hf b hb).1⟩⟩
 done:=by
  intro X hP hw hK hc i lX s σ H E I hf st hg;subst hP hw hK;obtain⟨xs,hq,hx⟩:=hg;obtain⟨lY,rv,p,hz⟩:=I.tuple hq;obtain⟨f0,f1,f2,f3,f4,f5⟩:=hf it #[M];have hl:=rv.length;exact wpAny_pyNext_tuple_end (I.ok.hd hc) st (show s.heap.IsTuple a lY.toArray from p) (by simp; lia) fun h' eb=>⟨rfl,I.turned (t':=s.toks) (fun b o hb e=>eb b o hb e) f0 f1 f3 f4 f5⟩
 self:=fun _ _ _ _ _ st h=>wpAny_pyIter_tupleiter st h
theorem zgm {P:Program} {w:World} {K:ag} {tg:Expr} (it:Addr) (lo:Int) (n:Nat):Turn P w K tg (Itr lo n) [it] it (fun i h=>IsRangeIter h it (lo+(i:Nat)*1) ((n:Int) - (i:Nat)) 1) where
 mem:=by simp
 obj:=fun i h st b hb=>by
  have e:b=it:=by simpa using hb
  subst e;exact⟨_,st,fun v z=>by
   have z':iI _=Data.cell v:=z;cases z'⟩
 keep:=fun i h h' st k=>k it #[M] _ st
 item:=by
  intro X hP hw hK hc i lX s σ H E I hf st hg;subst hP hw hK;obtain⟨f0,f1,f2,f3,f4,f5⟩:=hf it #[M];have W:=Walks.range (prog:=X.prog) (w:=X.w) (I.ok.hd hc) it lo 1 n;refine W.item i s _ _ hg st fun v h' tk hv lZ kk=>?_
  obtain⟨t,rfl⟩:=hv;have I1:Inv X lX σ H { s with heap:=h',toks:=tk }:=I.turned (fun b o hb e=>kk b o (by simpa using hb) e) f0 f1 f3 f4 f5;refine⟨_,rfl,zfm (s:={ s with heap:=h',toks:=tk }) (n:="range_iterator") lZ rfl rfl #[D] ⟨.int (lo+i),H,I1,⟨t,?_⟩,⟨rfl,rfl⟩,lZ,fun b hb=>(hf b hb).1⟩⟩;rw [Int.mul_one]
 done:=by
  intro X hP hw hK hc i lX s σ H E I hf st hg;subst hP hw hK;obtain⟨f0,f1,f2,f3,f4,f5⟩:=hf it #[M];exact wpAny_pyNext_range_end (I.ok.hd hc) st (by have:n≤i:=hg; lia) fun h' eb=>⟨rfl,I.turned (t':=s.toks) (fun b o hb e=>eb b o hb e) f0 f1 f3 f4 f5⟩
 self:=fun _ _ _ _ _ st h=>wpAny_pyIter_rangeiter st h
section
variable {X:Cx} {tg:Expr}
def zlM (K:ag) (tl:TE):TI:=fun σ H R=>tl σ H fun x H1=>∃ a,x = .ref a∧(∃ xs,l8 K H1 a xs)∧R (Itl K a) H1
def znB (K:ag) (tl:TE):TI:=fun σ H R=>tl σ H fun x H1=>∃ a,x = .ref a∧(∃ xs,mj K H1 a xs)∧R (Itt K a) H1
theorem zat {l:Expr} {tl:TE} (hl:PE X l tl):PI X tg l (zlM X.K tl):=by
 intro lX s σ H R I h;refine thn (hl lX s σ H _ I h) fun v s1 ⟨x,H1,I1,r1,q1⟩=>?_
 obtain⟨a,e,⟨xs,hq⟩,q⟩:=q1;subst e;cases r1;obtain⟨lY,rv,p,hz⟩:=I1.list hq;refine gQ p.isList ?_;refine⟨s1.heap.objs.size,[s1.heap.objs.size],_,_,H1,rfl,I1.kept (t':=s1.toks) fun b o e=>aj _ e,zed a _,⟨_,aB _ rfl,rfl,rfl⟩,fun b hb=>?_,q⟩;have e:b=s1.heap.objs.size:=by simpa using hb
 subst e;exact I1.fpOk (ah _) (I1.hok.fresh (ah _))
theorem zjc {l:Expr} {tl:TE} (hl:PE X l tl):PI X tg l (znB X.K tl):=by
 intro lX s σ H R I h;refine thn (hl lX s σ H _ I h) fun v s1 ⟨x,H1,I1,r1,q1⟩=>?_
 obtain⟨a,e,⟨xs,hq⟩,q⟩:=q1;subst e;cases r1;obtain⟨lY,rv,p,hz⟩:=I1.tuple hq;refine jN (show s1.heap.IsTuple a lY.toArray from p) ?_;refine⟨s1.heap.objs.size,[s1.heap.objs.size],_,_,H1,rfl,I1.kept (t':=s1.toks) fun b o e=>aj _ e,zdm a _,⟨_,aB _ rfl,rfl,rfl⟩,fun b hb=>?_,q⟩;have e:b=s1.heap.objs.size:=by simpa using hb
 subst e;exact I1.fpOk (ah _) (I1.hok.fresh (ah _))
theorem zfn {lX:List (Addr×Obj)} {σ:St} {H:Hp} {s:Shared} {R:It→Hp→Prop} {E:Value→Shared→Prop} {lo hi:Int} {t u v:Tok} {tk:Nat} (I:Inv X lX σ H s) (h1:-(2 ^ 62)≤lo) (h2:lo < 2 ^ 62) (h3:-(2 ^ 62)≤hi) (h4:hi < 2 ^ 62)
  (q:R (Itr lo (hi - lo).toNat) H):wpAny (model X.prog X.w) X.A (pyIter (.ref s.heap.objs.size)) (PIE X lX σ tg R) E { s with heap:=s.heap.push { cls:=.type "range",data:=.fields #[.int lo t,.int hi u,.int 1 v] },toks:=tk }:=by
 refine wpAny_pyIter_range (IsRange.new ..) (small_one h1 h2 h3 h4) ?_;have I1:Inv X lX σ H { s with heap:=s.heap.push { cls:=.type "range",data:=.fields #[.int lo t,.int hi u,.int 1 v] },toks:=tk }:=I.kept fun b o e=>aj _ e
 refine⟨(s.heap.push { cls:=.type "range",data:=.fields #[.int lo t,.int hi u,.int 1 v] }).objs.size,[(s.heap.push { cls:=.type "range",data:=.fields #[.int lo t,.int hi u,.int 1 v] }).objs.size],_,_,H,rfl,
  I1.kept (t':=tk) fun b o e=>aj _ e,zgm _ lo (hi - lo).toNat,?_,fun b hb=>?_,q⟩
 ·have e1:lo+((0:Nat):Int)*1=lo:=by simp
  have e2:(((hi - lo).toNat:Nat):Int) - ((0:Nat):Int)=Builtin.Range.rangeSize lo hi 1:=by rw [rangeSize_one]; split <;> lia
  show IsRangeIter _ _ (lo+((0:Nat):Int)*1) ((((hi - lo).toNat:Nat):Int) - ((0:Nat):Int)) 1;rw [e1,e2];exact aB _ rfl
 ·have e:b=(s.heap.push { cls:=.type "range",data:=.fields #[.int lo t,.int hi u,.int 1 v] }).objs.size:=by simpa using hb
  subst e;exact I1.fpOk (ah _) (I1.hok.fresh (ah _))
def zm7 (ta:TA):TI:=fun σ H R=>ta σ H fun vs H1=>∃ j:Int,vs = [.int j]∧-(2 ^ 62)≤j∧j < 2 ^ 62∧R (Itr 0 j.toNat) H1
def zm8 (ta:TA):TI:=fun σ H R=>ta σ H fun vs H1=>∃ i j:Int,vs = [.int i,.int j]∧(-(2 ^ 62)≤i∧i < 2 ^ 62∧-(2 ^ 62)≤j∧j < 2 ^ 62)∧R (Itr i (j - i).toNat) H1
theorem zag {a:Expr} {ta:TA} {p pos:Pos} (hg:Gl X "range") (hm:X.mg "range" = none) (ha:PA X [a] ta) (hs:starEach [a] X.env = [(false,eval a X.env)]:=by rfl):PI X tg (.Call (.Name "range" p) [a] [] pos) (zm7 ta):=by
 intro lX s σ H R I h;refine Call_ (zbc I hg hm kQ (cf (thn (ha pos lX s σ H _ I h) fun us s1 ⟨vs,H1,I1,r1,q1⟩=>?_) hs rfl));obtain⟨j,e,q1,q2,q⟩:=q1;subst e;cases r1 with
 | cons r rr =>
  cases rr;obtain⟨t,rfl⟩:=r;exact call_range_1 (zfn I1 #[O] #[O] q1 q2 (by simpa using q))
theorem zhZ {a b:Expr} {ta:TA} {p pos:Pos} (hg:Gl X "range") (hm:X.mg "range" = none) (ha:PA X [a,b] ta) (hs:starEach [a,b] X.env = [(false,eval a X.env),(false,eval b X.env)]:=by rfl) (qt:starEach [b] X.env = [(false,eval b X.env)]:=by rfl) :
  PI X tg (.Call (.Name "range" p) [a,b] [] pos) (zm8 ta):=by
 intro lX s σ H R I h;refine Call_ (zbc I hg hm kQ (cf (thn (ha pos lX s σ H _ I h) fun us s1 ⟨vs,H1,I1,r1,q1⟩=>?_) (by rw [hs,qt]) (by rw [qt]; rfl)));obtain⟨i,j,e,⟨q1,q2,q3,q4⟩,q⟩:=q1;subst e;cases r1 with
 | cons r rr =>
  cases rr with
  | cons r' rr =>
   cases rr;obtain⟨t,rfl⟩:=r;obtain⟨t',rfl⟩:=r';exact call_range_2 (zfn I1 q1 q2 q3 q4 q)
def znC (wi:TI) (g:TG) (tb:TS):TS:=fun D σ H=>wi σ H fun J H1=>∃ W:Nat→Nat→St→Hp→Prop,(∃ m,W 0 m σ H1)∧∀ i m σ H,W i m σ H →
 (J.stop i H∧D.nx σ H)∨(J.go i H∧∃ N:St→Hp→Prop,(∀ σ' H',N σ' H'→∃ m',m' < m∧W (i+1) m' σ' H')∧∀ x H',J.yld i H x H'→g x σ H' fun σ2 H2=>tb { D with nx:=N,ct:=N,bk:=D.nx } σ2 H2)
def zbM (fp:List Addr) (h:Heap):List (Addr×Obj):=fp.filterMap fun b=>(h.get? b).map fun o=>(b,o)
theorem zbu {fp:List Addr} {h:Heap} {b:Addr} {o:Obj} (hb:b∈fp) (e:h.get? b=some o):(b,o)∈zbM fp h:=gz.mpr ⟨b,hb,by rw [e]; rfl⟩
theorem zee {fp:List Addr} {h:Heap} {p:Addr×Obj} (hp:p∈zbM fp h):p.1∈fp∧h.get? p.1=some p.2:=by
 obtain⟨b,hb,e⟩:=gz.mp hp;cases q:h.get? b with
 | none=>rw [q] at e; cases e
 | some o =>
  rw [q] at e;have e':(b,o)=p:=aX e;subst e';exact⟨hb,q⟩
theorem Inv.pinned {lX:List (Addr×Obj)} {σ:St} {H:Hp} {s:Shared} {fp:List Addr} (I:Inv X lX σ H s) (hf:∀ b∈fp,zbL X lX H b) (ho:∀ b∈fp,∃ o,s.heap.get? b=some o∧∀ v,o.data≠.cell v):Inv X (lX++zbM fp s.heap) σ H s :=
 I.pins_of fun p hp=>(aR.mp hp).elim (fun z=>I.pin p (aw _ z)) fun z=>by
  obtain⟨hb,e⟩:=zee z;obtain⟨f0,f1,f2,_⟩:=hf p.1 hb;obtain⟨o,e',d⟩:=ho p.1 hb;rw [e] at e'; cases e';exact⟨e,f0,f1,f2,d⟩
theorem Inv.unpinned {lX pl:List (Addr×Obj)} {σ:St} {H:Hp} {s:Shared} (I:Inv X (lX++pl) σ H s):Inv X lX σ H s:=I.pins_of fun p hp=>I.pin p (aw _ (aI _ hp))
theorem zau {iter:Expr} {body:List Stmt} {wi:TI} {g:TG} {tb:TS} {pos:Pos} (hp:PassesOwn (model X.prog X.w) X.A X.env X.xe) (hc:X.calm=true) (hi:PI X tg iter wi) (hg:PG X tg g) (hb:PSs X body tb)
  (hs:∀ x,foldedSetIterable iter X.env x=pure x:=by intro _; rfl):PS X (.For tg iter body [] pos) (znC wi g tb):=by
 intro lX s σ H D I h;refine wpAny_For (thn (hi lX s σ H _ I h) fun v s1 h1=>thn h1 fun u6 s2 h2=>?_) hs;obtain⟨it,fp,tn,J,H2,e,I2,T,m6,f2,W,⟨m0,w0⟩,turn⟩:=h2;subst e;have u7:∀ {H':Hp},(∀ b∈fp,H' b=none)→∀ b∈fp,zbL X lX H' b:=fun hn b hb=>⟨hn b hb,(f2 b hb).2⟩
 refine codeAny_forLoop_any (fun n s'=>∃ i σ' H',Inv X lX σ' H' s'∧tn i s'.heap∧(∀ b∈fp,H' b=none)∧W i n σ' H') ?_ m0 ⟨0,σ,H2,I2,m6,fun b hb=>(f2 b hb).1,w0⟩;rintro n s3 ⟨i,σ3,H3,I3,t6,fr3,w3⟩;rcases turn i n σ3 H3 w3 with ⟨stop,qn⟩ | ⟨go,N,hN,step⟩
 ·refine eQ hp (thn (T.done X rfl rfl rfl hc i lX s3 σ3 H3 X.xe I3 (u7 fr3) t6 stop) fun r s4 ⟨hr,I4⟩=>?_);subst hr;exact eP ⟨σ3,H3,I4,qn⟩
 ·refine eQ hp (thn (T.item X rfl rfl rfl hc i lX s3 σ3 H3 X.xe I3 (u7 fr3) t6 go) fun r s4 ⟨u,hr,h4⟩=>?_);subst hr;refine eQ hp (thn h4 fun _ s5 ⟨x,H5,I5,r5,y5,wj,fr5⟩=>?_);have I5':=I5.pinned (u7 fr5) (T.obj _ _ wj);refine eQ hp (thn (hg _ s5 σ3 H5 x u _ I5' r5 (step x H5 y5)) fun _ s6 ⟨σ6,H6,I6,q6⟩=>?_);refine eQ hp (thn (hb _ s6 σ6 H6 _ I6 q6) fun f s7 q7=>?_);have again:∀ {σ7:St} {H7:Hp},Inv X (lX++zbM fp s5.heap) σ7 H7 s7→N σ7 H7→∃ m,m < n∧∃ i σ' H',Inv X lX σ' H' s7∧tn i s7.heap∧(∀ b∈fp,H' b=none)∧W i m σ' H':=fun {σ7 H7} I7 n7=>by
   obtain⟨m',hm,w7⟩:=hN σ7 H7 n7;refine⟨m',hm,i+1,σ7,H7,I7.unpinned,T.keep _ _ _ wj fun b hb o e=>(I7.pin (b,o) (aw _ (aw _ (zbu hb e)))).1,fun b hb=>?_,w7⟩;obtain⟨o,e,d⟩:=T.obj _ _ wj b hb;exact (I7.pin (b,o) (aw _ (aw _ (zbu hb e)))).2.1
  cases f with
  | next=>obtain⟨σ7,H7,I7,n7⟩:=q7; exact again I7 n7
  | cont=>obtain⟨σ7,H7,I7,n7⟩:=q7; exact again I7 n7
  | brk=>obtain⟨σ7,H7,I7,q7⟩:=q7; exact⟨σ7,H7,I7.unpinned,q7⟩
  | ret v=>obtain⟨x7,σ7,H7,I7,r7,q7⟩:=q7; exact⟨x7,σ7,H7,I7.unpinned,r7,q7⟩
end
theorem zjd {K:ag} {a:Addr} {xs:List V} {g:TG} {tb:TS} {D:Ends} {σ:St} {H:Hp} (Pv:Nat→St→Hp→Prop) (h0:Pv 0 σ H) (hl:∀ i σ H,i≤xs.length→Pv i σ H→l8 K H a xs)
  (hs:∀ i x σ H,xs[i]? = some x→Pv i σ H→g x σ H fun σ2 H2=>tb { D with nx:=Pv (i+1),ct:=Pv (i+1),bk:=D.nx } σ2 H2) (hd:∀ σ H,Pv xs.length σ H→D.nx σ H) :
  ∃ W:Nat→Nat→St→Hp→Prop,(∃ m,W 0 m σ H)∧∀ i m σ H,W i m σ H →
   ((Itl K a).stop i H∧D.nx σ H)∨((Itl K a).go i H∧∃ N:St→Hp→Prop,(∀ σ' H',N σ' H'→∃ m',m' < m∧W (i+1) m' σ' H')∧∀ x H',(Itl K a).yld i H x H'→g x σ H' fun σ2 H2=>tb { D with nx:=N,ct:=N,bk:=D.nx } σ2 H2):=by
 refine⟨fun i m σ H=>m=xs.length - i∧i≤xs.length∧Pv i σ H,⟨xs.length,#[M],bi _,h0⟩,?_⟩;rintro i m σ H ⟨rfl,hi,p⟩;have q:=hl i σ H hi p;by_cases ml:i < xs.length
 ·refine .inr ⟨⟨xs,xs[i],q,by simp [ml]⟩,Pv (i+1),fun σ' H' p'=>⟨xs.length - (i+1),#[O],rfl,ml,p'⟩,fun x H' y=>?_⟩;obtain⟨e,y⟩:=y;subst e;exact hs i x σ _ (y xs q) p
 ·have e:i=xs.length:=by lia
  subst e;exact .inl ⟨⟨xs,q,ah _⟩,hd σ H p⟩
theorem zkO {K:ag} {a:Addr} {xs:List V} {g:TG} {tb:TS} {D:Ends} {σ:St} {H:Hp} (Pv:Nat→St→Hp→Prop) (h0:Pv 0 σ H) (hl:∀ i σ H,i≤xs.length→Pv i σ H→mj K H a xs)
  (hs:∀ i x σ H,xs[i]? = some x→Pv i σ H→g x σ H fun σ2 H2=>tb { D with nx:=Pv (i+1),ct:=Pv (i+1),bk:=D.nx } σ2 H2) (hd:∀ σ H,Pv xs.length σ H→D.nx σ H) :
  ∃ W:Nat→Nat→St→Hp→Prop,(∃ m,W 0 m σ H)∧∀ i m σ H,W i m σ H →
   ((Itt K a).stop i H∧D.nx σ H)∨((Itt K a).go i H∧∃ N:St→Hp→Prop,(∀ σ' H',N σ' H'→∃ m',m' < m∧W (i+1) m' σ' H')∧∀ x H',(Itt K a).yld i H x H'→g x σ H' fun σ2 H2=>tb { D with nx:=N,ct:=N,bk:=D.nx } σ2 H2):=by
 refine⟨fun i m σ H=>m=xs.length - i∧i≤xs.length∧Pv i σ H,⟨xs.length,#[M],bi _,h0⟩,?_⟩;rintro i m σ H ⟨rfl,hi,p⟩;have q:=hl i σ H hi p;by_cases ml:i < xs.length
 ·refine .inr ⟨⟨xs,xs[i],q,by simp [ml]⟩,Pv (i+1),fun σ' H' p'=>⟨xs.length - (i+1),#[O],rfl,ml,p'⟩,fun x H' y=>?_⟩;obtain⟨e,y⟩:=y;subst e;exact hs i x σ _ (y xs q) p
 ·have e:i=xs.length:=by lia
  subst e;exact .inl ⟨⟨xs,q,ah _⟩,hd σ H p⟩
theorem zh0 {lo:Int} {n:Nat} {g:TG} {tb:TS} {D:Ends} {σ:St} {H:Hp} (Pv:Nat→St→Hp→Prop) (h0:Pv 0 σ H)
  (hs:∀ i σ H,i < n→Pv i σ H→g (.int (lo+i)) σ H fun σ2 H2=>tb { D with nx:=Pv (i+1),ct:=Pv (i+1),bk:=D.nx } σ2 H2) (hd:∀ σ H,Pv n σ H→D.nx σ H) :
  ∃ W:Nat→Nat→St→Hp→Prop,(∃ m,W 0 m σ H)∧∀ i m σ H,W i m σ H →
   ((Itr lo n).stop i H∧D.nx σ H)∨((Itr lo n).go i H∧∃ N:St→Hp→Prop,(∀ σ' H',N σ' H'→∃ m',m' < m∧W (i+1) m' σ' H')∧∀ x H',(Itr lo n).yld i H x H'→g x σ H' fun σ2 H2=>tb { D with nx:=N,ct:=N,bk:=D.nx } σ2 H2):=by
 refine⟨fun i m σ H=>m=n - i∧i≤n∧Pv i σ H,⟨n,#[M],bi _,h0⟩,?_⟩;rintro i m σ H ⟨rfl,hi,p⟩;by_cases ml:i < n
 ·refine .inr ⟨ml,Pv (i+1),fun σ' H' p'=>⟨n - (i+1),#[O],rfl,ml,p'⟩,fun x H' y=>?_⟩;obtain⟨e,y⟩:=y;subst e y;exact hs i σ _ ml p
 ·have e:i=n:=by lia
  subst e;exact .inl ⟨ah _,hd σ H p⟩
abbrev R2:=V→V→Hp→VK→Prop
def OpR (X:Cx) (f:Value→Value→Sem Value) (r:R2):Prop :=
 ∀ (lX:List (Addr×Obj)) (s:Shared) (σ:St) (H:Hp) (x y:V) (v u:Value) (Q:VK),Inv X lX σ H s→RelV x v→RelV y u→r x y H Q →
  wpAny (model X.prog X.w) X.A (f v u) (EP X lX σ Q) X.xe s
def UnR (X:Cx) (f:Value→Sem Value) (r:V→Hp→VK→Prop):Prop :=
 ∀ (lX:List (Addr×Obj)) (s:Shared) (σ:St) (H:Hp) (x:V) (v:Value) (Q:VK),Inv X lX σ H s→RelV x v→r x H Q →
  wpAny (model X.prog X.w) X.A (f v) (EP X lX σ Q) X.xe s
def za1 (X:Cx) (f:Value) (r:List V→Hp→VK→Prop):Prop :=
 ∀ (lX:List (Addr×Obj)) (s:Shared) (σ:St) (H:Hp) (xs:List V) (us:List Value) (Q:VK),Inv X lX σ H s→zA xs us→r xs H Q →
  wpAny (model X.prog X.w) X.A (call f us) (EP X lX σ Q) X.xe s
def tOp (r:R2) (ta tb:TE):TE:=fun σ H Q=>ta σ H fun x H1=>tb σ H1 fun y H2=>r x y H2 Q
def tUn (r:V→Hp→VK→Prop) (ta:TE):TE:=fun σ H Q=>ta σ H fun x H1=>r x H1 Q
def rI (C:Int→Int→Prop) (g:Int→Int→V):R2:=fun x y H Q=>∃ i j,x = .int i∧y = .int j∧C i j∧Q (g i j) H
def rI0 (g:Int→Int→V):R2:=fun x y H Q=>∃ i j,x = .int i∧y = .int j∧Q (g i j) H
def rU (g:Int→V):V→Hp→VK→Prop:=fun x H Q=>∃ i,x = .int i∧Q (g i) H
section
variable {X:Cx} {a b c:Expr} {ta tb tc:TE} {pos:Pos}
theorem zmb (ha:PE X a ta) (hb:PE X b tb) {lX:List (Addr×Obj)} {s:Shared} {σ:St} {H:Hp} {R:V→V→Hp→Prop} (I:Inv X lX σ H s)
  (h:ta σ H fun x H1=>tb σ H1 fun y H2=>R x y H2) {Q:Value→Shared→Prop} {f:Value→Value→Sem Value}
  (hf:∀ v u s2 x y H2,Inv X lX σ H2 s2→RelV x v→RelV y u→R x y H2→wpAny (model X.prog X.w) X.A (f v u) Q X.xe s2) :
  wpAny (model X.prog X.w) X.A (eval a X.env) (fun v s₁=>wpAny (model X.prog X.w) X.A (eval b X.env) (fun u s₂=>wpAny (model X.prog X.w) X.A (f v u) Q X.xe s₂) X.xe s₁) X.xe s:=by
 refine thn (ha lX s σ H _ I h) fun v s1 ⟨x,H1,I1,r1,q1⟩=>?_
 refine thn (hb lX s1 σ H1 _ I1 q1) fun u s2 ⟨y,H2,I2,r2,q2⟩=>?_
 exact hf v u s2 x y H2 I2 r1 r2 q2
theorem zh {op:Operator} {r:R2} (ho:OpR X (binaryOp op) r) (ha:PE X a ta) (hb:PE X b tb):PE X (.BinOp a op b pos) (tOp r ta tb):=by
 intro lX s σ H Q I h;exact wpAny_BinOp (zmb ha hb I h fun v u s2 x y H2 I2 rx ry q=>ho lX s2 σ H2 x y v u Q I2 rx ry q)
theorem zlN {op:UnaryOp} {r:V→Hp→VK→Prop} (ho:UnR X (unaryOp op) r) (ha:PE X a ta):PE X (.UnaryOp op a pos) (tUn r ta):=by
 intro lX s σ H Q I h;exact UnaryOp_ (thn (ha lX s σ H _ I h) fun v s1 ⟨x,H1,I1,r1,q1⟩=>ho lX s1 σ H1 x v Q I1 r1 q1)
theorem opI {f:Value→Value→Sem Value} {C:Int→Int→Prop} {g:Int→Int→Int}
  (rule:∀ (i j:Int) (t u:Tok) (s:Shared) (Q:Value→Shared→Prop) (E:Value→Shared→Prop),C i j→Q (.int (g i j) s.toks) { s with toks:=s.toks+1 }→wpAny (model X.prog X.w) X.A (f (.int i t) (.int j u)) Q E s) :
  OpR X f (rI C fun i j=>.int (g i j)):=by
 intro lX s σ H x y v u Q I rx ry h;obtain⟨i,j,rfl,rfl,hc,q⟩:=h;obtain⟨t,rfl⟩:=rx;obtain⟨t',rfl⟩:=ry;exact rule i j t t' s _ _ hc ⟨.int (g i j),H,I.tok _,⟨_,rfl⟩,q⟩
theorem zm9 {f:Value→Value→Sem Value} {g:Int→Int→Int}
  (rule:∀ (i j:Int) (t u:Tok) (s:Shared) (Q:Value→Shared→Prop) (E:Value→Shared→Prop),Q (.int (g i j) s.toks) { s with toks:=s.toks+1 }→wpAny (model X.prog X.w) X.A (f (.int i t) (.int j u)) Q E s) :
  OpR X f (rI0 fun i j=>.int (g i j)):=by
 intro lX s σ H x y v u Q I rx ry h;obtain⟨i,j,rfl,rfl,q⟩:=h;obtain⟨t,rfl⟩:=rx;obtain⟨t',rfl⟩:=ry;exact rule i j t t' s _ _ ⟨.int (g i j),H,I.tok _,⟨_,rfl⟩,q⟩
theorem zkP {f:Value→Value→Sem Value} {g:Int→Int→Bool}
  (rule:∀ (i j:Int) (t u:Tok) (s:Shared) (Q:Value→Shared→Prop) (E:Value→Shared→Prop),Q (.bool (g i j)) s→wpAny (model X.prog X.w) X.A (f (.int i t) (.int j u)) Q E s) :
  OpR X f (rI0 fun i j=>.bl (g i j)):=by
 intro lX s σ H x y v u Q I rx ry h;obtain⟨i,j,rfl,rfl,q⟩:=h;obtain⟨t,rfl⟩:=rx;obtain⟨t',rfl⟩:=ry;exact rule i j t t' s _ _ ⟨.bl (g i j),H,I,rfl,q⟩
def znD (i j:Int):Prop:=0 < j∧j < 1073741824
def znE (i j:Int):Prop:=0≤j∧j≤1000000∧i.natAbs < 2 ^ 64
def zmc (i j:Int):Prop:=(-(2 ^ 64) < i∧i < 2 ^ 64)∨(-(2 ^ 64) < j∧j < 2 ^ 64)
theorem zmc.ok {i j:Int} (h:zmc i j):IntMulOk i j:=by
 rcases h with ⟨h1,h2⟩ | ⟨h1,h2⟩
 ·exact .of_left (intBits_le_64 h1 h2)
 ·exact .of_right (intBits_le_64 h1 h2)
theorem zK:OpR X (binaryOp .Add) (rI0 fun i j=>.int (i+j)):=zm9 fun _ _ _ _ _ _ _ q=>add_int q
theorem zbd:OpR X (binaryOp .Sub) (rI0 fun i j=>.int (i - j)):=zm9 fun _ _ _ _ _ _ _ q=>sub_int q
theorem zad:OpR X (binaryOp .Mult) (rI zmc fun i j=>.int (i*j)):=opI fun _ _ _ _ _ _ _ hc q=>mul_int q hc.ok
theorem zeI:OpR X (binaryOp .FloorDiv) (rI znD fun i j=>.int (i / j)):=opI fun i j _ _ _ _ _ hc q=>by
 have h1:(0:Int) < j:=hc.1;have h2:j < 1073741824:=hc.2;exact floordiv_int #[O] (by rw [gK i #[O]]; exact q) (.inl (PyProof.noPylong_small #[O]))
theorem zW:OpR X (binaryOp .Mod) (rI (fun _ j=>0 < j) fun i j=>.int (i % j)):=opI fun i j _ _ _ _ _ hc q=>by
 have h1:(0:Int) < j:=hc;exact mod_int' #[O] (by rw [Int.fmod_eq_emod_of_nonneg i #[O]]; exact q)
theorem zmd:OpR X (binaryOp .Pow) (rI znE fun i j=>.int (i ^ j.toNat)):=opI fun _ _ _ _ _ _ _ hc q=>pow_int_small hc.1 hc.2.1 hc.2.2 q
theorem unI {f:Value→Sem Value} {g:Int→Int}
  (rule:∀ (i:Int) (t:Tok) (s:Shared) (Q:Value→Shared→Prop) (E:Value→Shared→Prop),Q (.int (g i) s.toks) { s with toks:=s.toks+1 }→wpAny (model X.prog X.w) X.A (f (.int i t)) Q E s) :
  UnR X f (rU fun i=>.int (g i)):=by
 intro lX s σ H x v Q I rx h;obtain⟨i,rfl,q⟩:=h;obtain⟨t,rfl⟩:=rx;exact rule i t s _ _ ⟨.int (g i),H,I.tok _,⟨_,rfl⟩,q⟩
theorem zje:UnR X (unaryOp .USub) (rU fun i=>.int (-i)):=unI fun _ _ _ _ _ q=>neg_int q
end
def zme:V→V→Bool
 | .non,.non=>true | .non,.int _=>true | .int _,.non=>true | .non,.bl _=>true | .bl _,.non=>true | .non,.str _=>true | .str _,.non=>true
 | .int _,.int _=>true | .bl _,.bl _=>true | .str _,.str _=>true | .byt _,.byt _=>true
 | .int _,.str _=>true | .str _,.int _=>true | .bl _,.str _=>true | .str _,.bl _=>true
 | _,_=>false
def rEq:R2:=fun x y H Q=>zme x y=true∧Q (.bl (decide (x=y))) H
def rNe:R2:=fun x y H Q=>zme x y=true∧Q (.bl (!decide (x=y))) H
theorem zg1 {i j:Int}:decide (V.int i=V.int j)=(i == j):=by
 rw [c7];simp
theorem zjf {i j:Bool}:decide (V.bl i=V.bl j)=(i == j):=by
 rw [c7];simp
theorem zg2 {i j:Str}:decide (V.str i=V.str j)=(i == j):=by
 rw [c7];simp
theorem zg3 {i j:Array UInt8}:decide (V.byt i=V.byt j)=(i.toList == j.toList):=by
 rw [c7];cases i;cases j;simp
section
variable {X:Cx} {a b c:Expr} {ta tb tc:TE} {pos:Pos}
theorem zH {lX:List (Addr×Obj)} {σ:St} {H:Hp} {s:Shared} {Q:VK} {k k':Bool} (I:Inv X lX σ H s) (q:Q (.bl k) H) (e:k=k'):EP X lX σ Q (.bool k') s:=by
 subst e;exact⟨.bl k,H,I,rfl,q⟩
theorem zjg:OpR X (compareOp .Eq) rEq:=by
 intro lX s σ H x y v u Q I rx ry h;obtain⟨hs,q⟩:=h;cases x with
 | non =>
  cases rx;cases y with
  | non=>cases ry; exact PySem.EqNone.eq_none_none (zH I q #[M])
  | bl j=>cases ry; exact PySem.EqNone.eq_none_bool (zH I q #[M])
  | int j=>obtain⟨t',rfl⟩:=ry; exact PySem.EqNone.eq_none_int (zH I q #[M])
  | str j=>obtain⟨t',rfl⟩:=ry; exact PySem.EqNone.eq_none_str (zH I q #[M])
  | _=>exact absurd (show false=true from hs) aM
 | bl i =>
  cases rx;cases y with
  | non=>cases ry; exact PySem.EqNone.eq_bool_none (zH I q #[M])
  | bl j=>cases ry; exact eq_bool (zH I q zjf)
  | str j=>obtain⟨t',rfl⟩:=ry; exact PySem.EqMixed.eq_bool_str (zH I q #[M])
  | _=>exact absurd (show false=true from hs) aM
 | int i =>
  obtain⟨t,rfl⟩:=rx;cases y with
  | non=>cases ry; exact PySem.EqNone.eq_int_none (zH I q #[M])
  | int j=>obtain⟨t',rfl⟩:=ry; exact eq_int (zH I q zg1)
  | str j=>obtain⟨t',rfl⟩:=ry; exact PySem.EqMixed.eq_int_str (zH I q #[M])
  | _=>exact absurd (show false=true from hs) aM
 | str i =>
  obtain⟨t,rfl⟩:=rx;cases y with
  | non=>cases ry; exact PySem.EqNone.eq_str_none (zH I q #[M])
  | bl j=>cases ry; exact PySem.EqMixed.eq_str_bool (zH I q #[M])
  | int j=>obtain⟨t',rfl⟩:=ry; exact PySem.EqMixed.eq_str_int (zH I q #[M])
  | str j=>obtain⟨t',rfl⟩:=ry; exact eq_str (zH I q zg2)
  | _=>exact absurd (show false=true from hs) aM
 | byt i =>
  obtain⟨t,rfl⟩:=rx;cases y with
  | byt j=>obtain⟨t',rfl⟩:=ry; exact PySem.W.eq_bytes (zH I q zg3)
  | _=>exact absurd (show false=true from hs) aM
 | _=>cases y <;> exact absurd (show false=true from hs) aM
theorem zfo:OpR X (compareOp .NotEq) rNe:=by
 intro lX s σ H x y v u Q I rx ry h;obtain⟨hs,q⟩:=h;cases x with
 | non =>
  cases rx;cases y with
  | non=>cases ry; exact PySem.EqNone.ne_none_none (zH I q #[M])
  | bl j=>cases ry; exact PySem.EqNone.ne_none_bool (zH I q #[M])
  | int j=>obtain⟨t',rfl⟩:=ry; exact PySem.EqNone.ne_none_int (zH I q #[M])
  | str j=>obtain⟨t',rfl⟩:=ry; exact PySem.EqNone.ne_none_str (zH I q #[M])
  | _=>exact absurd (show false=true from hs) aM
 | bl i =>
  cases rx;cases y with
  | non=>cases ry; exact PySem.EqNone.ne_bool_none (zH I q #[M])
  | bl j=>cases ry; exact ne_bool (zH I q (congrArg not zjf))
  | str j=>obtain⟨t',rfl⟩:=ry; exact PySem.EqMixed.ne_bool_str (zH I q #[M])
  | _=>exact absurd (show false=true from hs) aM
 | int i =>
  obtain⟨t,rfl⟩:=rx;cases y with
  | non=>cases ry; exact PySem.EqNone.ne_int_none (zH I q #[M])
  | int j=>obtain⟨t',rfl⟩:=ry; exact ne_int (zH I q (congrArg not zg1))
  | str j=>obtain⟨t',rfl⟩:=ry; exact PySem.EqMixed.ne_int_str (zH I q #[M])
  | _=>exact absurd (show false=true from hs) aM
 | str i =>
  obtain⟨t,rfl⟩:=rx;cases y with
  | non=>cases ry; exact PySem.EqNone.ne_str_none (zH I q #[M])
  | bl j=>cases ry; exact PySem.EqMixed.ne_str_bool (zH I q #[M])
  | int j=>obtain⟨t',rfl⟩:=ry; exact PySem.EqMixed.ne_str_int (zH I q #[M])
  | str j=>obtain⟨t',rfl⟩:=ry; exact ne_str (zH I q (congrArg not zg2))
  | _=>exact absurd (show false=true from hs) aM
 | byt i =>
  obtain⟨t,rfl⟩:=rx;cases y with
  | byt j=>obtain⟨t',rfl⟩:=ry; exact PySem.W.ne_bytes (zH I q (congrArg not zg3))
  | _=>exact absurd (show false=true from hs) aM
 | _=>cases y <;> exact absurd (show false=true from hs) aM
theorem zfp:OpR X (compareOp .Lt) (rI0 fun i j=>.bl (decide (i < j))):=zkP fun _ _ _ _ _ _ _ q=>lt_int q
theorem zg4:OpR X (compareOp .LtE) (rI0 fun i j=>.bl (decide (i≤j))):=zkP fun _ _ _ _ _ _ _ q=>le_int q
theorem zlO:OpR X (compareOp .Gt) (rI0 fun i j=>.bl (decide (j < i))):=zkP fun _ _ _ _ _ _ _ q=>gt_int q
theorem zna:OpR X (compareOp .GtE) (rI0 fun i j=>.bl (decide (j≤i))):=zkP fun _ _ _ _ _ _ _ q=>ge_int q
theorem zkQ:OpR X (compareOp .IsNot) (fun x y H Q=>y = .non∧Q (.bl (!decide (x = .non))) H):=by
 intro lX s σ H x y v u Q I rx ry h;obtain⟨rfl,q⟩:=h;cases ry;refine isnot_none_gen (zH I q ?_);cases x <;> first
  | (cases rx; rfl)
  | (obtain⟨t,rfl⟩:=rx; rfl)
theorem zah (b:Expr) {op:CmpOp} (h:op≠.In:=by decide) (h2:op≠.NotIn:=by decide):behindInMarks op b=false:=by
 have e1:(op == CmpOp.In)=false:=by cases op <;> first | rfl | exact absurd rfl h
 have e2:(op == CmpOp.NotIn)=false:=by cases op <;> first | rfl | exact absurd rfl h2
 cases b <;> simp [behindInMarks,e1,e2]
theorem zkR {op:CmpOp} {r:R2} (ho:OpR X (compareOp op) r) (ha:PE X a ta) (hb:PE X b tb) (hm:behindInMarks op b=false):PE X (.Compare a [op] [b] pos) (tOp r ta tb):=by
 intro lX s σ H Q I h;exact wpAny_Compare1 (zmb ha hb I h fun v u s2 x y H2 I2 rx ry q=>ho lX s2 σ H2 x y v u Q I2 rx ry q) hm
def zlP (t:TE):TT:=fun σ H Q=>t σ H fun x H'=>∃ k,x = .bl k∧Q k H'
theorem zZ {op:CmpOp} {r:R2} (ho:OpR X (compareOp op) r) (ha:PE X a ta) (hb:PE X b tb) (hm:behindInMarks op b=false):PT X (.Compare a [op] [b] pos) (zlP (tOp r ta tb)):=by
 intro lX s σ H Q I h;refine wpAny_isTrue_Compare1 (thn (ha lX s σ H _ I h) fun v s1 ⟨x,H1,I1,r1,q1⟩=>thn (hb lX s1 σ H1 _ I1 q1) fun u s2 ⟨y,H2,I2,r2,q2⟩ =>
  thn (ho lX s2 σ H2 x y v u _ I2 r1 r2 q2) fun c s3 ⟨z,H3,I3,r3,k,e,q3⟩=>?_) hm
 subst e;cases r3;exact cM ⟨H3,I3,q3⟩
def zjh (r r':R2) (ta tb tc:TE):TE:=fun σ H Q=>ta σ H fun x H1=>tb σ H1 fun y H2=>r x y H2 fun z H3=>∃ k,z = .bl k ∧
 (if k=true then tc σ H3 fun w' H4=>r' y w' H4 Q else Q (.bl false) H3)
theorem zfq {op va:CmpOp} {r r':R2} (ho:OpR X (compareOp op) r) (pJ:OpR X (compareOp va) r') (ha:PE X a ta) (hb:PE X b tb) (hc:PE X c tc)
  (hm:lastMarks [op,va] [b,c]=false:=by with_unfolding_all rfl):PE X (.Compare a [op,va] [b,c] pos) (zjh r r' ta tb tc):=by
 intro lX s σ H Q I h;refine Compare_chain (thn (ha lX s σ H _ I h) fun v s1 ⟨x,H1,I1,r1,q1⟩=>chain_link (thn (hb lX s1 σ H1 _ I1 q1) fun u s2 ⟨y,H2,I2,r2,q2⟩ =>
  thn (ho lX s2 σ H2 x y v u _ I2 r1 r2 q2) fun d s3 ⟨z,H3,I3,r3,k,e,q3⟩=>?_)) hm
 subst e;cases r3;refine cM ?_;cases k with
 | false=>exact ite_ff ⟨.bl false,H3,I3,rfl,q3⟩
 | true=>exact ite_tt (chain_last (thn (hc lX s3 σ H3 _ I3 q3) fun w' s4 ⟨z',H4,I4,r4,q4⟩=>pJ lX s4 σ H4 y z' u w' Q I4 r2 r4 q4))
theorem zji {op va:CmpOp} {r r':R2} (ho:OpR X (compareOp op) r) (pJ:OpR X (compareOp va) r') (ha:PE X a ta) (hb:PE X b tb) (hc:PE X c tc)
  (hm:lastMarks [op,va] [b,c]=false:=by with_unfolding_all rfl):PT X (.Compare a [op,va] [b,c] pos) (zlP (zjh r r' ta tb tc)):=by
 intro lX s σ H Q I h;refine isTrue_chain (thn (ha lX s σ H _ I h) fun v s1 ⟨x,H1,I1,r1,q1⟩=>test_link (thn (hb lX s1 σ H1 _ I1 q1) fun u s2 ⟨y,H2,I2,r2,q2⟩ =>
  thn (ho lX s2 σ H2 x y v u _ I2 r1 r2 q2) fun d s3 ⟨z,H3,I3,r3,k,e,q3⟩=>?_)) hm
 subst e;cases r3;refine cM ?_;cases k with
 | false =>
  obtain⟨k',e',q'⟩:=q3;cases e';exact ite_ff ⟨H3,I3,q'⟩
 | true =>
  refine ite_tt (test_last (thn (hc lX s3 σ H3 _ I3 q3) fun w' s4 ⟨z',H4,I4,r4,q4⟩=>thn (pJ lX s4 σ H4 y z' u w' _ I4 r2 r4 q4) fun d' s5 ⟨z2,H5,I5,r5,k2,e2,q5⟩=>?_));subst e2;cases r5;exact cM ⟨H5,I5,q5⟩
theorem zeJ:(sizeLine:Nat) < 2 ^ 63:=by rw [bL]; decide
theorem vals1 {x:V} {us:List Value} (r:zA [x] us):∃ u,us = [u]∧RelV x u:=by
 cases r with
 | cons r1 r2=>cases r2; exact⟨_,rfl,r1⟩
theorem vals2 {x y:V} {us:List Value} (r:zA [x,y] us):∃ u w',us = [u,w']∧RelV x u∧RelV y w':=by
 cases r with
 | cons r1 r2 =>
  cases r2 with
  | cons r3 r4=>cases r4; exact⟨_,_,rfl,r1,r3⟩
theorem zef (hc:X.calm=true):za1 X (.builtin "min") (fun xs H Q=>∃ i j,xs = [.int i,.int j]∧Q (.int (if j < i then j else i)) H):=by
 intro lX s σ H xs us Q I r h;obtain⟨i,j,rfl,q⟩:=h;obtain⟨u,w',rfl,⟨t,rfl⟩,⟨t',rfl⟩⟩:=vals2 r;refine min_two_ints (I.ok.hd hc) fun h' tk k=>⟨_,H,I.kept k,?_,q⟩
 by_cases hj:j < i
 ·rw [if_pos hj,if_pos hj]; exact⟨_,rfl⟩
 ·rw [if_neg hj,if_neg hj]; exact⟨_,rfl⟩
theorem zh1:za1 X (.type "int") (fun xs H Q=>(∃ i,xs = [.int i]∧Q (.int i) H)∨∃ k,xs = [.bl k]∧Q (.int (if k then 1 else 0)) H):=by
 intro lX s σ H xs us Q I r h;rcases h with ⟨i,rfl,q⟩ | ⟨k,rfl,q⟩
 ·obtain⟨u,rfl,t,rfl⟩:=vals1 r;exact call_int_int ⟨.int i,H,I,⟨_,rfl⟩,q⟩
 ·obtain⟨u,rfl,r1⟩:=vals1 r;cases r1;exact call_int_bool ⟨.int (if k then 1 else 0),H,I.tok _,⟨_,rfl⟩,q⟩
end
structure ObjM (h:Heap) (x dx C:Addr) (mA:Str→Option Value):Prop where
 obj:h.get? x=some (iu C dx)
 ns:h.Ns1 dx mA
 ne:dx≠x
theorem zh2 {h:Heap} {dx:Addr} {mA:Str→Option Value} (n:h.Ns1 dx mA):∃ od,h.get? dx=some od∧∀ name,iR name od=some (mA name):=by
 obtain⟨o,es,ep,ho,hd,hk,_,hm⟩:=n;refine⟨o,ho,fun name=>?_⟩;have e:=hm name;unfold nsFind findBy at e;rw [← Array.find?_toList] at e;unfold iR;rw [hd];dsimp only;split
 ·rename_i y q
  rw [q] at e;exact congrArg some e
 ·rename_i q
  rw [q] at e;have a:es.toList.any (·.refKey)=false:=by
   rw [j9];intro y hy;obtain⟨z,t,nr⟩:=hk y (dF.mp hy);simp [DictEntry.refKey,nr]
  have a':¬ es.toList.any (·.refKey)=true:=by rw [a]; exact aM
  rw [if_neg a'];exact congrArg some e
theorem ObjM.look {h:Heap} {x dx C:Addr} {mA:Str→Option Value} (I:ObjM h x dx C mA):∃ od,PySem.W.InstAt h x (iu C dx) C (some od)∧∀ name,iR name od=some (mA name) :=
 let ⟨od,ho,hl⟩:=zh2 I.ns
 ⟨od,⟨I.obj,rfl,rfl,ho⟩,hl⟩
theorem zdi.some_of {v:V} {o:Option Value} (r:zdi (some v) o):∃ u,o=some u∧RelV v u:=by
 cases o with
 | none=>exact (show False from r).elim
 | some u=>exact⟨u,rfl,r⟩
section
variable {P:Program} {w:World} {H H':Hp} {h h':Heap} {a C dx:Addr} {fs fs':List (Str×V)}
theorem zkS (hok:HOk P w H h) (e:H a=some (.ins C dx fs)):∃ mA,ObjM h a dx C mA∧(∀ f,zdi (fs.lookup f) (mA f))∧lL mA (fs.map (·.1))∧fs.length≤1000∧H dx=some (.own a):=by
 obtain⟨d,z,ne,ob,mA,n,r,q⟩:=(show zO P w H h a (.ins C dx fs) from hok a _ e);exact⟨mA,⟨ob,n,ne⟩,r,q,z,d⟩
end
structure Cls (K:ag) (C:Addr):Prop where
 pg:kD K C Str.empty=true
 hd:PySem.W.hasDictIn K C=true
 po:PySem.W.plainOver K C=true
 sa:cr K (.ref C) "__setattr__" = some (some (.builtin "object.__setattr__"))
theorem Cls.get {K:ag} {C:Addr} (c:Cls K C) (f:Str):kD K C f=true:=c.pg
section
variable {X:Cx} {lX:List (Addr×Obj)} {σ:St} {H:Hp} {s:Shared} {A:Around} {E:Value→Shared→Prop} {Q:Value→Shared→Prop} {c:Value} {b:Bool}
inductive TyOf (K:ag) (H:Hp):V→Value→Prop where
 | non:TyOf K H .non (.type "NoneType")
 | bl (x:Bool):TyOf K H (.bl x) (.type "bool")
 | int (i:Int):TyOf K H (.int i) (.type "int")
 | str (x:Str):TyOf K H (.str x) (.type "str")
 | flt (x:UInt64):TyOf K H (.flt x) (.type "float")
 | lst {a:Addr} {xs:List V} (e:H a=some (.lst xs)):TyOf K H (.ref a) (.type "list")
 | frz {a:Addr} {o:Obj} {xs:List V} (e:H a=some (.frz o (.lst xs))):TyOf K H (.ref a) (.type "list")
 | tup {a:Addr} {xs:List V} (e:H a=some (.tup xs)):TyOf K H (.ref a) (.type "tuple")
 | dK {a:Addr} {l6:List (Key×V)} (e:H a=some (.dK l6)):TyOf K H (.ref a) (.type "dict")
 | dT {a:Addr} {l6:List (List Key×V)} (e:H a=some (.dT l6)):TyOf K H (.ref a) (.type "dict")
 | ins {a C dx:Addr} {fs:List (Str×V)} (e:H a=some (.ins C dx fs)) (cl:Cls K C) (ha:cr K (.ref C) "__class__" = some (some (.builtin "object.__class__")))
   (hn:PySem.W.specialIn K (.builtin "object.__class__") "__get__" = some (some (.builtin "getset_descriptor.__get__"))) (htk:PySem.W.takesIn K (.builtin "object.__class__")=some true)
   (hm:bH K C (.type "object")=some true):TyOf K H (.ref a) (.ref C)
theorem zh3 {x:V} {u t:Value} (I:Inv X lX σ H s) (rx:RelV x u) (ty:TyOf X.K H x t) (e:aY X.K t c=some b) (h:∀ tk,Q (.bool b) { s with toks:=tk }) :
  wpAny (model X.prog X.w) A (call (.builtin "isinstance") [u,c]) Q E s:=by
 cases ty with
 | non=>cases (show u=cj from rx); exact bI PySem.W.kitx_none I.kIn eD e (fun z=>nomatch z) h
 | bl y=>cases (show u=fc y from rx); exact bI PySem.W.kitx_bool I.kIn eD e (fun z=>nomatch z) h
 | int i=>obtain⟨t,q⟩:=(show ∃ t,u=du i t from rx); cases q; exact bI PySem.W.kitx_int I.kIn eD e (fun z=>nomatch z) h
 | str y=>obtain⟨t,q⟩:=(show ∃ t,u=jJ y t from rx); cases q; exact bI PySem.W.kitx_str I.kIn eD e (fun z=>nomatch z) h
 | flt y=>obtain⟨t,q⟩:=(show ∃ t,u=Value.float y t from rx); cases q; exact bI PySem.W.kitx_float I.kIn eD e (fun z=>nomatch z) h
 | @lst a xs ea =>
  cases (show u=aK a from rx);obtain⟨_,_,n,_,h1⟩:=(show zO X.prog X.w H s.heap a (.lst xs) from I.hok a _ ea);exact bI ka I.kIn ⟨_,h1,rfl⟩ e (fun z=>nomatch z) h
 | @frz a ob xs ea =>
  cases (show u=aK a from rx);obtain⟨_,_,_,n,_,h1⟩:=(show zO X.prog X.w H s.heap a (.frz ob (.lst xs)) from I.hok a _ ea);exact bI ka I.kIn ⟨_,h1,rfl⟩ e (fun z=>nomatch z) h
 | @tup a xs ea =>
  cases (show u=aK a from rx);obtain⟨_,_,_,p⟩:=(show zO X.prog X.w H s.heap a (.tup xs) from I.hok a _ ea);obtain⟨o,h1,h2,_⟩:=p;exact bI PySem.W.kitx_tuple I.kIn ⟨o,h1,h2⟩ e (fun z=>nomatch z) h
 | @dK a l6 ea =>
  cases (show u=aK a from rx);obtain⟨_,_,vs,_,p⟩:=(show zO X.prog X.w H s.heap a (.dK l6) from I.hok a _ ea);obtain⟨o,es,ep,h1,h2,_⟩:=p;exact bI kb I.kIn ⟨o,h1,h2.1⟩ e (fun z=>nomatch z) h
 | @dT a l6 ea =>
  cases (show u=aK a from rx);obtain⟨_,_,xs,_,o,es,ep,h1,h2,_⟩:=(show zO X.prog X.w H s.heap a (.dT l6) from I.hok a _ ea);exact bI kb I.kIn ⟨o,h1,h2.1⟩ e (fun z=>nomatch z) h
 | @ins a C dx fs ea cl ha hn htk hm =>
  cases (show u=aK a from rx);obtain⟨mA,O,_⟩:=zkS I.hok ea;obtain⟨od,J,_⟩:=O.look;exact bI (PySem.W.kitx_own (cl.get _) cl.hd ha hn htk hm) I.kIn J e (fun z=>nomatch z) h
end
structure Room (k:Nat) (A:Around):Prop where
 hd:A.handled=none
 dp:A.depth+3*k+5 < recursionLimit
 un:A.units+16*k+200 < cLine
theorem Room.mono {j k:Nat} {A:Around} (r:Room k A) (h:j≤k):Room j A:=⟨r.hd,by have:=r.dp; lia,by have:=r.un; lia⟩
theorem Room.deeper {k:Nat} {A:Around} (r:Room (k+1) A) (env:Env):Room k (A.deeper env) :=
 ⟨r.hd,by have:=r.dp; show A.depth+1+3*k+5 < _; lia,by have:=r.un; show A.units+3+16*k+200 < _; lia⟩
theorem Room.depth {k:Nat} {A:Around} (r:Room k A):A.depth < recursionLimit:=by have:=r.dp; lia
theorem Room.units {k:Nat} {A:Around} (r:Room k A):A.units+64 < cLine:=by have:=r.un; lia
def zmf:TA:=fun _ H Q=>Q [] H
def zg5 (ta:TE) (tr:TA):TA:=fun σ H Q=>ta σ H fun x H1=>tr σ H1 fun xs H2=>Q (x :: xs) H2
section
variable {X:Cx} {e:Expr} {es:List Expr} {te:TE} {t:TA} {pos:Pos}
theorem zc:PA X [] zmf:=fun _ _ _ _ H Q I h=>d8 ⟨[],H,I,.nil,h⟩
theorem za (ha:PE X e te) (hr:PA X es t) (hs:starEach (e :: es) X.env=(false,eval e X.env) :: starEach es X.env:=by rfl):PA X (e :: es) (zg5 te t):=by
 intro pos lX s σ H Q I h;rw [hs];show wpAny _ _ (spliced ((false,eval e X.env) :: backTo pos (starEach es X.env))) _ _ s;refine dv (thn (ha lX s σ H _ I h) fun u s1 ⟨x,H1,I1,r1,q1⟩=>?_);exact thn (hr pos lX s1 σ H1 _ I1 q1) fun us s2 ⟨xs,H2,I2,r2,q2⟩=>⟨x :: xs,H2,I2,.cons r1 r2,q2⟩
theorem ya {X:Cx} {e:Expr} {te:TE} (a:PE X e te) (b:starEach [e] X.env=(false,eval e X.env) :: starEach [] X.env):PA X [e] (zg5 te zmf):=za a zc b
def znF (t:TA):TE:=fun σ H Q=>t σ H fun xs H1=>xs.length≤sizeLine∧∀ p,H1 p=none→Q (.ref p) (l7 H1 p (.tup xs))
def zgn (t:TA):TE:=fun σ H Q=>t σ H fun xs H1=>xs.length≤sizeLine∧∀ p,H1 p=none→Q (.ref p) (l7 H1 p (.lst xs))
theorem zdn {x1} (h:PA X es t):PE X (.Tuple es x1 pos) (znF t):=by
 intro lX s σ H Q I hq;refine wpAny_Tuple_spliced (thn (h pos lX s σ H _ I hq) fun us s1 ⟨xs,H1,I1,r,z,q⟩=>⟨by rw [← r.length]; exact z,?_⟩);have hf:H1 s1.heap.objs.size=none:=I1.hok.fresh (ah _);refine⟨.ref s1.heap.objs.size,l7 H1 s1.heap.objs.size (.tup xs),I1.laid (t':=s1.toks) (fun b u e=>aj _ e) (ah _) ?_,rfl,q _ hf⟩;exact⟨z,us,r,⟨_,aB _ rfl,rfl,_,rfl⟩⟩
theorem z5 (h:PA X es t):PE X (.List es pos) (zgn t):=by
 intro lX s σ H Q I hq;refine wpAny_List_spliced (thn (h pos lX s σ H _ I hq) fun us s1 ⟨xs,H1,I1,r,z,q⟩=>⟨by rw [← r.length]; exact z,?_⟩);have hf:H1 s1.heap.objs.size=none:=I1.hok.fresh (ah _);refine⟨.ref s1.heap.objs.size,l7 H1 s1.heap.objs.size (.lst xs),I1.laid (t':=s1.toks) (fun b u e=>aj _ e) (ah _) ?_,rfl,q _ hf⟩;exact⟨z,us,0,r,aB _ rfl⟩
end
abbrev Sp:=List V→Hp→VK→XK→Prop
abbrev CXT:=List Env→Hp→Shared→XK→Value→Shared→Prop
structure Env0 (P:Program) (w:World) (K:ag) (mg:Str→Option Value) (base:Heap) (A:Around) (outer:List Env) (s:Shared) (H:Hp):Prop where
 frames:A.frames=some outer
 mod:Mod K mg base
 bs:∀ b o,base.get? b=some o→s.heap.get? b=some o∧H b=none
 bsz:base.objs.size≤s.heap.objs.size
 funs:s.heap.FunFrames base outer
 frf:∀ b∈frs outer,H b=none
 hok:HOk P w H s.heap
 bare:AllBare s.gens
def CE (outer:List Env) (P:Program) (w:World) (H:Hp) (s:Shared) (Q:VK) (u:Value) (s':Shared):Prop :=
 ∃ v H',s'.os=s.os∧AllBare s'.gens∧Un (frs outer) [] H H' s.heap s'.heap∧HOk P w H' s'.heap∧RelV v u∧Q v H'
def CR (CX:CXT) (outer:List Env) (P:Program) (w:World) (H:Hp) (s:Shared) (Q:VK) (E:XK) (r:Result) (s':Shared):Prop :=
 match r with
 | .ok (.ret u)=>CE outer P w H s Q u s'
 | .ok _=>False
 | .error e=>CX outer H s E e s'
structure FnOk (P:Program) (w:World) (K:ag) (mg:Str→Option Value) (base:Heap) (CX:CXT) (k:Nat) (f:Addr) (fd:FuncData) (ps:List Str) (sp:Sp):Prop where
 len:∀ vs H Q E,sp vs H Q E→vs.length=ps.length
 run:∀ (A:Around) (outer:List Env) (s:Shared) (H:Hp) (args:Args) (us:List Value) (vs:List V) (Q:VK) (E:XK),Room k A→Env0 P w K mg base A outer s H→BindsTo s fd args (ps.zip us)→zA vs us→sp vs H Q E →
  codeAny (model P w) A (.call (.ref f) args) (CR CX outer P w H s Q E) s
section
variable {X:Cx} {lX:List (Addr×Obj)} {σ:St} {H:Hp} {s s':Shared}
theorem Inv.env0 (I:Inv X lX σ H s):Env0 X.prog X.w X.K X.mg X.base X.A X.stack s H :=
 ⟨I.ok.frames,I.ok.mod,I.bs,bg I.ok.bsz I.sz,I.stack,I.stkFree,I.hok,I.bare⟩
theorem Inv.after {Q:VK} {u:Value} (I:Inv X lX σ H s) (h:CE X.stack X.prog X.w H s Q u s'):EP X lX σ Q u s':=by
 obtain⟨v,H',os,bare,un,hok,r,q⟩:=h;obtain⟨hh,g,d,t,wZ⟩:=s';obtain rfl:wZ=s.os:=os;exact⟨v,H',I.call (h':=hh) (g':=g) (d':=d) (t':=t) (ch:=[]) un hok bare (fun b z=>absurd z #[M]),r,q⟩
end
def zjj (sp:Sp) (qu:List V) (E:XK) (t:TA):TE:=fun σ H Q=>t σ H fun vs H1=>sp (vs++qu) H1 Q E
def Binds (K:ag) (fd:FuncData) (ps:List Str) (ds:List Value):Prop :=
 ∀ (s:Shared) (us:List Value),K.In s.heap→(us++ds).length=ps.length→BindsTo s fd ⟨us,[]⟩ (ps.zip (us++ds))
theorem Binds.all {K:ag} {fd:FuncData} {ps:List Str} (h:∀ us:List Value,us.length=ps.length→bindArgs fd ⟨us,[]⟩=pure (ps.zip us)):Binds K fd ps []:=fun s us _ hl=>by
 rw [cQ] at hl ⊢;exact .of_eq (h us hl)
def zeK (CX:CXT) (X:Cx) (E:XK):Prop:=∀ (lX:List (Addr×Obj)) (σ:St) (H:Hp) (s:Shared) (e:Value) (s':Shared),Inv X lX σ H s→CX X.stack H s E e s'→X.xe e s'
section
variable {X:Cx} {CX:CXT} {k:Nat} {f C:Addr} {fd:FuncData} {ps:List Str} {sp:Sp} {qu:List V} {ds:List Value} {E:XK} {x m:Str} {p pos apos:Pos} {e o:Expr} {es:List Expr} {ta:TE} {t:TA}
theorem zmg {lX:List (Addr×Obj)} {σ:St} {H:Hp} {s:Shared} {Q:VK} {us:List Value} {vs:List V} (F:FnOk X.prog X.w X.K X.mg X.base CX k f fd ps sp) (hr:Room k X.A) (hb:Binds X.K fd ps ds) (hd:zA qu ds) (hx:zeK CX X E)
  (I:Inv X lX σ H s) (r:zA vs us) (h:sp (vs++qu) H Q E):wpAny (model X.prog X.w) X.A (call (.ref f) us) (EP X lX σ Q) X.xe s:=by
 have r2:zA (vs++qu) (us++ds):=r.append hd;have hl:(us++ds).length=ps.length:=by rw [← r2.length]; exact F.len _ _ _ _ h
 refine fe (ed (F.run X.A X.stack s H ⟨us,[]⟩ (us++ds) (vs++qu) Q E hr I.env0 (hb s us I.kIn hl) r2 h) fun r s' hq=>?_);cases r with
 | error e=>exact hx lX σ H s e s' I hq
 | ok fl =>
  cases fl with
  | ret u=>exact I.after hq
  | next=>exact bQ hq
  | brk=>exact bQ hq
  | cont=>exact bQ hq
theorem zQ (F:FnOk X.prog X.w X.K X.mg X.base CX k f fd ps sp) (hr:Room k X.A) (hg:Gl X x) (hm:X.mg x=some (.ref f)) (hk:dJ X.K (.ref f)=true) (hb:Binds X.K fd ps ds) (hd:zA qu ds) (hx:zeK CX X E)
  (ha:PA X (e :: es) t) (t7:(x == ("__debug__" : Str))=false:=by decide) (he:starEach (e :: es) X.env=(false,eval e X.env) :: starEach es X.env:=by rfl) (nu:(backTo pos (starEach es X.env)).any (·.1)=false:=by rfl) :
  PE X (.Call (.Name x p) (e :: es) [] pos) (zjj sp qu E t):=by
 intro lX s σ H Q I h;refine cg (zbU I hg hm ?_ t7);refine gA (h₀:=X.base) I.ok.mod.kin hk (thn (ha pos lX s σ H _ I h) fun us s1 ⟨vs,H1,I1,r,q⟩=>⟨I1.kIn,?_⟩) he nu;exact zmg F hr hb hd hx I1 r q
end
structure FnScope (N P:List Str) (sc:Scope):Prop where
 kind:sc.kind = .function
 co:sc.isCoroutine=false
 gen:sc.isGenerator=false
 nd:N.Nodup
 pre:N.take P.length=P
 par:∀ x∈P,sc.names.lookup x=some .local∨sc.names.lookup x=some .cell
 nofree:∀ y∈sc.names,y.2≠.free
theorem zeg {kindOf:Str→Option NameKind} {x:Str}:∀ {binds:List (Str×Value)} {m:Str→Option Value},(∀ v,(x,v)∉binds)→bindL kindOf binds m x=m x
 | [],_,_=>rfl
 | (n,v) :: r,m,h=>by
  unfold bindL;rw [zeg fun w hw=>h w (ai _ hw)];split
  ·have:x≠n:=by rintro rfl; exact h v ao
   simp [this]
  ·rfl
theorem zeh {kindOf:Str→Option NameKind} {x:Str}:∀ {binds:List (Str×Value)} {m:Str→Option Value},(∀ v,(x,v)∉binds)→bindC kindOf binds m x=m x
 | [],_,_=>rfl
 | (n,v) :: r,m,h=>by
  unfold bindC;rw [zeh fun w hw=>h w (ai _ hw)];split
  ·rfl
  ·have:x≠n:=by rintro rfl; exact h v ao
   simp [this]
theorem zei {kindOf:Str→Option NameKind} {x:Str} {v:Value}:∀ {P:List Str} {vs:List Value} {i:Nat} {m:Str→Option Value},P.Nodup→P[i]? = some x→vs[i]? = some v→kindOf x=some .local →
  bindL kindOf (P.zip vs) m x=some v
 | [],_,_,_,_,h,_,_=>by simp at h
 | _ :: _,[],_,_,_,_,h,_=>by simp at h
 | p :: P,w :: vs,0,m,nd,h1,h2,hk=>by
  simp at h1 h2; subst h1; subst h2;show bindL kindOf ((p,w) :: P.zip vs) m p=_;unfold bindL;rw [zeg fun v hv=>(bR.mp nd).1 (fX hv).1,if_pos hk];simp
 | p :: P,w :: vs,i+1,m,nd,h1,h2,hk=>by
  show bindL kindOf ((p,w) :: P.zip vs) m x=_;unfold bindL;exact zei (i:=i) (bR.mp nd).2 (by simpa using h1) (by simpa using h2) hk
theorem zej {kindOf:Str→Option NameKind} {x:Str} {v:Value}:∀ {P:List Str} {vs:List Value} {i:Nat} {m:Str→Option Value},P.Nodup→P[i]? = some x→vs[i]? = some v→kindOf x≠some .local →
  bindC kindOf (P.zip vs) m x=some v
 | [],_,_,_,_,h,_,_=>by simp at h
 | _ :: _,[],_,_,_,_,h,_=>by simp at h
 | p :: P,w :: vs,0,m,nd,h1,h2,hk=>by
  simp at h1 h2; subst h1; subst h2;show bindC kindOf ((p,w) :: P.zip vs) m p=_;unfold bindC;rw [zeh fun v hv=>(bR.mp nd).1 (fX hv).1,if_neg hk];simp
 | p :: P,w :: vs,i+1,m,nd,h1,h2,hk=>by
  show bindC kindOf ((p,w) :: P.zip vs) m x=_;unfold bindC;exact zej (i:=i) (bR.mp nd).2 (by simpa using h1) (by simpa using h2) hk
def start (N:List Str) (vs:List V):St:=vs.map some++ap (N.length - vs.length) none
def za7 (CX:CXT) (P:Program) (w:World) (K:ag) (mg:Str→Option Value) (base:Heap) (N:List Str) (qual:Str) (scope:Scope) (f:Addr) (cd:Value) (A:Around) (outer:List Env) (s:Shared) (H:Hp) (E:XK):Cx where
 prog:=P
 w:=w
 K:=K
 mg:=mg
 base:=base
 A:=A.deeper (envOfC qual scope s.heap.objs.size f cd)
 N:=N
 s₀:=s
 H₀:=H
 env:=envOfC qual scope s.heap.objs.size f cd
 outer:=outer
 stack:=envOfC qual scope s.heap.objs.size f cd :: outer
 ex:=[]
 calm:=true
 fn:=fun _=>true
 pn:=[]
 xe:=fun e s'=>wpAny (model P w) (A.deeper (envOfC qual scope s.heap.objs.size f cd)) (leaving (envOfC qual scope s.heap.objs.size f cd) e) (fun _ t8=>CX outer H s E e t8) (fun e' t8=>CX outer H s E e' t8) s'
theorem zfr {sc:Scope} {n:Nat} {x:Str} (h:sc.names.lookup x=some .cell):∃ c,(cellsFrom n sc.names []).lookup x=some c:=by
 have q:=fA sc.names n [] (.inl h);exact Option.isSome_iff_exists.mp q
theorem zek {CX:CXT} {P:Program} {w:World} {K:ag} {mg:Str→Option Value} {base:Heap} {N ps:List Str} {qual:Str} {scope:Scope} {f:Addr} {cd:Value} {A:Around} {outer:List Env} {s s1:Shared} {H:Hp} {E:XK} {us:List Value} {vs:List V}
  (S:FnScope N ps scope) (hd:A.handled=none) (e0:Env0 P w K mg base A outer s H) (hl:vs.length=ps.length) (r:zA vs us)
  (x:InCallC s s.heap.objs.size (bindL (envOfC qual scope s.heap.objs.size f cd).kindOf (ps.zip us) fun _=>none) (cellsFrom (s.heap.objs.size+1) scope.names []) (bindC (envOfC qual scope s.heap.objs.size f cd).kindOf (ps.zip us) fun _=>none) s1) :
  Inv (za7 CX P w K mg base N qual scope f cd A outer s H E) [] (start N vs) H s1:=by
 have nu:ps.length≤N.length:=by have:=congrArg fB S.pre; rw [aS] at this; lia
 obtain⟨h1,tk,rfl,hk⟩:=x.done;have uI:∀ b:Addr,b∉(za7 CX P w K mg base N qual scope f cd A outer s H E).ex:=fun b z=>absurd (show b∈([]:List Addr) from z) #[M]
 refine⟨⟨e0.mod,S.kind,rfl,rfl,ah _,fun y z c h1 h2=>?_,fun y hy=>?_,fun y c _ h=>?_,fun _=>hd,Around.frames_deeper e0.frames,.inr ⟨rfl,rfl⟩,fun b z=>absurd z (uI b),e0.bs,e0.bsz,fun b _ _=>uI b,fun b z=>absurd z (uI b),e0.funs,e0.frf⟩,
  rfl,e0.bare,Un.kept hk,⟨_,x.toInCall.ns,fun i y v h1 h2 h3=>?_⟩,fun y c h=>⟨_,x.cell y c h⟩,e0.hok.fresh (ah _),fun y c h=>?_,fun p hp=>absurd (show p∈([]:List (Addr×Obj)) from hp) #[M],e0.hok.kept hk,?_⟩
 ·exact name_of_addr x.apart (dQ h1) (dQ h2)
 ·have hy:scope.names.lookup y=some .cell∨scope.names.lookup y=some .free:=hy;rcases hy with hy | hy
  ·exact zfr hy
  ·exact absurd rfl (S.nofree _ (dQ hy))
 ·exact fW (x.above y c (dQ h))
 ·have hi:i < vs.length:=by
   unfold start at h2;by_cases hi:i < vs.length
   ·exact hi
   ·rw [dC (by simpa using hi)] at h2;rw [List.getElem?_replicate] at h2;split at h2 <;> cases h2
  have ha:vs[i]? = some v:=by
   unfold start at h2;rw [dG (by simpa using hi),az] at h2;cases e:vs[i]? with
   | none=>rw [e] at h2; cases h2
   | some a=>rw [e] at h2; cases h2; rfl
  obtain⟨u,hu,rv⟩:=r.get ha;have hp:ps[i]? = some y:=by
   rw [← S.pre,eV #[O]]; exact h1
  have ndP:ps.Nodup:=by rw [← S.pre]; exact S.nd.sublist (cv _ _)
  refine⟨u,rv,?_⟩;rcases S.par y (aO hp) with k | k
  ·exact .inl ⟨k,zei ndP hp hu k⟩
  ·obtain⟨c,e⟩:=zfr (n:=s.heap.objs.size+1) k;refine .inr ⟨.inl k,c,e,?_⟩;have q:=x.cell y c e;rw [zej ndP hp hu (by show scope.names.lookup y≠_; rw [k]; decide)] at q;exact q
 ·exact e0.hok.fresh (fW (x.above y c (dQ h)))
 ·unfold start;show _=N.length;rw [aF,ae,dA];lia
theorem zjk {CX:CXT} {P:Program} {w:World} {K:ag} {mg:Str→Option Value} {base:Heap} {k:Nat} {f:Addr} {name qual:Str} {params:Arguments} {body:List Stmt} {scope:Scope} {dV kV doc pm mq ct oc:Value} {an od:Option Addr}
  {rm:Array (Option Value)} {N ps:List Str} {sp:Sp} (lk:K.lookup f=some ⟨oc,od,.func (cE name qual params body scope dV kV doc pm an mq ct),rm⟩) (oq:ee K mq qual=true) (S:FnScope N ps scope)
  (len:∀ vs H Q E,sp vs H Q E→vs.length=ps.length)
  (m9:∀ (A:Around) (outer:List Env) (s:Shared) (H:Hp) (vs:List V) (Q:VK) (E:XK),Room k (A.deeper (envOfC qual scope s.heap.objs.size f mq))→sp vs H Q E →
   ∃ t,PSs (za7 CX P w K mg base N qual scope f mq A outer s H E) body t∧t { nx:=fun _ H'=>Q .non H',rt:=Q } (start N vs) H) :
  FnOk P w K mg base CX (k+1) f (cE name qual params body scope dV kV doc pm an mq ct) ps sp:=by
 refine⟨len,fun A outer s H args us vs Q E hr e0 hb r pR=>?_⟩;have hl:=len _ _ _ _ pR;have KX:K.In s.heap:=e0.mod.kin.keeps fun b o e=>(e0.bs b o e).1
 have lim:s.heap.NoLimit:=e0.mod.nolimit.keeps fun b o e=>(e0.bs b o e).1
 have ot:∀ y∈ps.zip us,scope.names.lookup y.1=some .local∨(scope.names.lookup y.1=some .cell∧((cellsFrom (s.heap.objs.size+1) scope.names []).lookup y.1).isSome=true):=fun ⟨n,v⟩ hy=>by
  rcases S.par n (fX hy).1 with q | q
  ·exact .inl q
  ·exact .inr ⟨q,fA _ _ _ (.inl q)⟩
 refine iS hr.depth (KX _ _ lk) rfl S.co S.gen rfl (jO KX oq) (hb _ _ _ _ ?_);refine gL S.kind ot fun env he s1 x=>?_
 subst he;refine⟨lim.keeps x.toInCall.keep,codeAny_func ?_⟩;obtain⟨t,ht,hq⟩:=m9 A outer s H vs Q E (hr.deeper _) pR;have I:Inv (za7 CX P w K mg base N qual scope f mq A outer s H E) [] (start N vs) H s1:=zek S hr.hd e0 hl r x;refine bE (ht [] s1 (start N vs) H _ I hq) (fun fl s' hs=>?_) fun e s' hs=>hs
 have fin:∀ {σ':St} {H':Hp} {v:V} {u:Value},Inv (za7 CX P w K mg base N qual scope f mq A outer s H E) [] σ' H' s'→RelV v u→Q v H'→CE outer P w H s Q u s' :=
  fun {σ' H' v u} J rv q=>⟨v,H',J.os,J.bare,J.base,J.hok,rv,q⟩
 cases fl with
 | ret u =>
  obtain⟨v,σ',H',J,rv,q⟩:=hs;exact fin J rv q
 | next =>
  obtain⟨σ',H',J,q⟩:=hs;exact fin (v:=V.non) (u:=cj) J rfl q
 | brk =>
  obtain⟨_,_,_,q⟩:=hs;exact bQ q
 | cont =>
  obtain⟨_,_,_,q⟩:=hs;exact bQ q
section
variable {X:Cx} {x:Str} {p pos:Pos} {e:Expr} {es:List Expr} {t:TA} {id T:String} {r:List V→Hp→VK→Prop}
def tCB (r:List V→Hp→VK→Prop) (t:TA):TE:=fun σ H Q=>t σ H fun vs H1=>r vs H1 Q
theorem zn (hc:za1 X (.builtin id) r) (hg:Gl X x) (hm:X.mg x=none) (hv:bootBuiltins x=some (.builtin id)) (ha:PA X (e :: es) t) (hn:x≠"__name__":=by decide) (t7:(x == ("__debug__" : Str))=false:=by decide)
  (he:starEach (e :: es) X.env=(false,eval e X.env) :: starEach es X.env:=by rfl) (nu:(backTo pos (starEach es X.env)).any (·.1)=false:=by rfl):PE X (.Call (.Name x p) (e :: es) [] pos) (tCB r t):=by
 intro lX s σ H Q I h;refine cg (zbc I hg hm hv ?_ hn t7);exact fY (thn (ha pos lX s σ H _ I h) fun us s1 ⟨vs,H1,I1,r1,q1⟩=>hc lX s1 σ H1 vs us Q I1 r1 q1) he nu
theorem zaF (hc:za1 X (.type T) r) (hg:Gl X x) (hm:X.mg x=none) (hv:bootBuiltins x=some (.type T)) (ha:PA X (e :: es) t) (hn:x≠"__name__":=by decide) (t7:(x == ("__debug__" : Str))=false:=by decide)
  (he:starEach (e :: es) X.env=(false,eval e X.env) :: starEach es X.env:=by rfl) (nu:(backTo pos (starEach es X.env)).any (·.1)=false:=by rfl):PE X (.Call (.Name x p) (e :: es) [] pos) (tCB r t):=by
 intro lX s σ H Q I h;refine cg (zbc I hg hm hv ?_ hn t7);exact cf (thn (ha pos lX s σ H _ I h) fun us s1 ⟨vs,H1,I1,r1,q1⟩=>hc lX s1 σ H1 vs us Q I1 r1 q1) he nu
end
end L2
namespace HT
open PySem PyProof.Rows
section
variable {prog:Program} {w:World} {A:Around} {E:Value→Shared→Prop} {s:Shared}
def sIx (n d:Nat):Option Int→Nat
 | none=>d
 | some v=>if v < 0 then (v+(n:Int)).toNat else min v.toNat n
theorem sIx_none (n d:Nat):sIx n d none=d:=rfl
theorem sIx_nat (n d k:Nat):sIx n d (some (k:Int))=min k n:=by
 show (if (k:Int) < 0 then ((k:Int)+(n:Int)).toNat else min (k:Int).toNat n)=min k n;rw [if_neg #[O],bC]
end
end HT
namespace L2
open PySem PySem.Spec PyProof.Rows
abbrev TO:=St→Hp→(Option Int→Hp→Prop)→Prop
def PO (X:Cx) (e:Option Expr) (t:TO):Prop :=
 ∀ (lX:List (Addr×Obj)) (s:Shared) (σ:St) (H:Hp) (Q:Option Int→Hp→Prop),Inv X lX σ H s→t σ H Q →
  wpAny (model X.prog X.w) X.A (evalPart e X.env) (fun u s'=>∃ o H',Inv X lX σ H' s'∧IsPart u o∧Q o H') X.xe s
def zkT:TO:=fun _ H Q=>Q none H
def znb (t:TE):TO:=fun σ H Q=>t σ H fun x H1=>∃ i,x = .int i∧Q (some i) H1
theorem intsAre_of {ns:List Int}:∀ {us:List Value},zA (ns.map V.int) us→IntsAre us ns:=by
 induction ns with
 | nil=>intro us r; rw [hW] at r; cases r; exact .nil
 | cons n ns ih =>
  intro us r;rw [aP] at r;cases r with
  | cons r1 r2 =>
   obtain⟨t,e⟩:=r1;subst e;exact .cons n t (ih r2)
section
variable {X:Cx} {e:Expr} {te:TE} {lo hi:Option Expr} {tl th:TO} {pos p2:Pos}
theorem zg6:PO X none zkT:=by
 intro lX s σ H Q I h;rw [evalPart_none];exact af ⟨none,H,I,.none,h⟩
theorem zg7 (h:PE X e te):PO X (some e) (znb te):=by
 intro lX s σ H Q I hw;rw [evalPart_some];refine thn (h lX s σ H _ I hw) fun u s1 ⟨x,H1,I1,r1,q1⟩=>?_
 obtain⟨i,rfl,q⟩:=q1;obtain⟨t,rfl⟩:=r1;exact⟨some i,H1,I1,.int i t,q⟩
def SlR (X:Cx) (r:V→Option Int→Option Int→Hp→VK→Prop):Prop :=
 ∀ (lX:List (Addr×Obj)) (s:Shared) (σ:St) (H:Hp) (x:V) (v vl vu:Value) (lo hi:Option Int) (sl:Addr) (Q:VK),Inv X lX σ H s→RelV x v→s.heap.IsSliceOf sl vl vu .none→IsPart vl lo→IsPart vu hi→r x lo hi H Q →
  ∃ T id,typeLookup (.type T) "__getitem__" = pure (some (.builtin id))∧s.TypeIs v T∧wpAny (model X.prog X.w) X.A (getItem v (.ref sl)) (EP X lX σ Q) X.xe s
def tSl (r:V→Option Int→Option Int→Hp→VK→Prop) (te:TE) (tl th:TO):TE:=fun σ H Q=>te σ H fun x H1=>tl σ H1 fun l H2=>th σ H2 fun u H3=>r x l u H3 Q
theorem zfs {r:V→Option Int→Option Int→Hp→VK→Prop} (hr:SlR X r) (he:PE X e te) (hl:PO X lo tl) (hu:PO X hi th):PE X (.Subscript e (.Slice lo hi none p2) pos) (tSl r te tl th):=by
 intro lX s σ H Q I h;refine kR (thn (he lX s σ H _ I h) fun v s1 ⟨x,H1,I1,r1,q1⟩=>?_);refine wpAny_Slice (thn (hl lX s1 σ H1 _ I1 q1) fun vl s2 ⟨l,H2,I2,pl,q2⟩=>thn (hu lX s2 σ H2 _ I2 q2) fun vu s3 ⟨u,H3,I3,pu,q3⟩=>?_);rw [evalPart_none];refine af ?_;have I4:Inv X lX σ H3 { s3 with heap:=s3.heap.push { cls:=.type "slice",data:=.fields #[vl,vu,.none] } }:=I3.kept (t':=s3.toks) fun b ob q=>aj _ q
 obtain⟨T,id,hT,ht,hg⟩:=hr lX { s3 with heap:=s3.heap.push { cls:=.type "slice",data:=.fields #[vl,vu,.none] } } σ H3 x v vl vu l u s3.heap.objs.size Q I4 r1 (Heap.IsSliceOf.new ..) pl pu q3;show wpAny (model X.prog X.w) X.A (subscriptTail e (.Slice lo hi none p2) v (.ref s3.heap.objs.size)) (EP X lX σ Q) X.xe { s3 with heap:=s3.heap.push { cls:=.type "slice",data:=.fields #[vl,vu,.none] } };exact tail_any (ops:=[.ref s3.heap.objs.size,v]) ht hT hg (by with_unfolding_all rfl)
def zft (xs:List V) (lo hi:Option Int):List V:=(xs.drop (HT.sIx xs.length 0 lo)).take (HT.sIx xs.length xs.length hi - HT.sIx xs.length 0 lo)
theorem zfu (xs:List V) (lo hi:Option Int):(zft xs lo hi).length≤xs.length:=by
 unfold zft;rw [aS,cF];lia
end
def ixN (n:Nat) (i:Int):Option Nat:=if 0≤i then (if i < n then some i.toNat else none) else if -(n:Int)≤i then some (i+n).toNat else none
def atI {α:Type} (xs:List α) (i:Int):Option α:=(ixN xs.length i).bind fun j=>xs[j]?
theorem zkU {n:Nat} {i:Int} {j:Nat} (h:ixN n i=some j):seqIndex? i n=some j∧j < n∧-(n:Int)≤i∧i < n:=by
 unfold ixN at h;by_cases h0:0≤i
 ·rw [if_pos h0] at h;by_cases h1:i < n
  ·rw [if_pos h1] at h;have e:i.toNat=j:=aX h;exact⟨by rw [iJ h0 h1,e],#[O],#[O],h1⟩
  ·rw [if_neg h1] at h; cases h
 ·rw [if_neg h0] at h;by_cases h1:-(n:Int)≤i
  ·rw [if_pos h1] at h;have e:(i+n).toNat=j:=aX h;exact⟨by rw [seqIndex_neg #[O] h1,e],#[O],h1,#[O]⟩
  ·rw [if_neg h1] at h; cases h
theorem zg8 {α:Type} {xs:List α} {i:Int} {v:α} (h:atI xs i=some v):∃ j,seqIndex? i xs.length=some j∧xs[j]? = some v∧j < xs.length∧-(xs.length:Int)≤i∧i < xs.length:=by
 unfold atI at h;cases e:ixN xs.length i with
 | none=>rw [e] at h; cases h
 | some j =>
  rw [e] at h;obtain⟨h1,h2,h3,h4⟩:=zkU e;exact⟨j,h1,h,h2,h3,h4⟩
theorem za8 {α:Type} {xs:List α} {j:Nat} {v:α} (h:xs[j]? = some v):atI xs (j:Int)=some v:=by
 have hj:j < xs.length:=(aT.mp h).1;have e:ixN xs.length (j:Int)=some j:=by
  unfold ixN;rw [if_pos #[O],if_pos #[O]]; simp
 unfold atI; rw [e]; exact h
def zkV (b:Expr):Prop:=∀ o i,subscripted b false o i=operate [o,i] (getItem o i)
def IxR (X:Cx) (r:R2):Prop :=
 ∀ (value slice:Expr) (lX:List (Addr×Obj)) (s:Shared) (σ:St) (H:Hp) (x y:V) (v u:Value) (Q:VK),Inv X lX σ H s→RelV x v→RelV y u→r x y H Q →
  subscripted slice false v u=operate [v,u] (getItem v u)→wpAny (model X.prog X.w) X.A (subscriptTail value slice v u) (EP X lX σ Q) X.xe s
def MtR (X:Cx) (id:String) (r:V→List V→Hp→VK→Prop):Prop :=
 ∀ (lX:List (Addr×Obj)) (s:Shared) (σ:St) (H:Hp) (x:V) (xs:List V) (v:Value) (us:List Value) (Q:VK),Inv X lX σ H s→RelV x v→zA xs us→r x xs H Q →
  wpAny (model X.prog X.w) X.A (call (.builtin id) (v :: us)) (EP X lX σ Q) X.xe s
section
variable {X:Cx} {a b:Expr} {ta tb:TE} {pos:Pos}
theorem z8 {r:R2} (hr:IxR X r) (ha:PE X a ta) (hb:PE X b tb) (hs:zkV b):PE X (.Subscript a b pos) (tOp r ta tb):=by
 intro lX s σ H Q I h;exact kR (zmb ha hb I h fun v u s2 x y H2 I2 rx ry q=>hr a b lX s2 σ H2 x y v u Q I2 rx ry q (hs _ _))
def znc (K:ag):R2:=fun x y H Q=>∃ p xs i v,x = .ref p∧y = .int i∧l8 K H p xs∧atI xs i=some v∧Q v H
def znd (K:ag):R2:=fun x y H Q=>∃ p xs i v,x = .ref p∧y = .int i∧mj K H p xs∧atI xs i=some v∧Q v H
theorem zV:IxR X (znc X.K):=by
 intro value slice lX s σ H x y v u Q I rx ry h hs;obtain⟨p,xs,i,z,rfl,rfl,hq,he,q⟩:=h;cases rx;obtain⟨t,rfl⟩:=ry;obtain⟨lY,r,pl,hz⟩:=I.list hq;obtain⟨j,h1,h2,h3,h4,h5⟩:=zg8 he;obtain⟨w,ew,sH⟩:=r.get h2;have hl:=r.length;have hn:=zeJ;have fin:EP X lX σ Q w s:=⟨z,H,I,sH,q⟩;by_cases h0:0≤i
 ·have hj:i.toNat=j:=by
   rw [iJ h0 h5] at h1;exact aX h1
  exact item_listR pl.isList h0 #[O] (by rw [hj]; simpa using ew) fin hs
 ·have hj:(i+(lY.toArray.size:Int)).toNat=j:=by
   rw [seqIndex_neg #[O] h4] at h1;rw [aq,← hl];exact aX h1
  exact iK (x:=w) pl.isList.typeIs slot_list_getitem.lookup
   (wpAny_getItem_list_neg (Q:=fun r s'=>r=w∧EP X lX σ Q r s') pl.isList #[O] (by rw [aq] <;> lia) #[O] (by rw [hj]; simpa using ew) ⟨rfl,fin⟩) hs
theorem zcd:IxR X (znd X.K):=by
 intro value slice lX s σ H x y v u Q I rx ry h hs;obtain⟨p,xs,i,z,rfl,rfl,hq,he,q⟩:=h;cases rx;obtain⟨t,rfl⟩:=ry;obtain⟨lY,r,pl,hz⟩:=I.tuple hq;obtain⟨j,h1,h2,h3,h4,h5⟩:=zg8 he;obtain⟨w,ew,sH⟩:=r.get h2;have hl:=r.length;have hn:=zeJ;have fin:EP X lX σ Q w s:=⟨z,H,I,sH,q⟩;exact iK (x:=w) pl.typeIs slot_tuple_getitem.lookup
  (getItem_tuple (j:=j) (Q:=fun r s'=>r=w∧EP X lX σ Q r s') pl #[O] #[O] (by rw [aq,← hl]; exact h1) (by simpa using ew) ⟨rfl,fin⟩) hs
theorem zeL (lo hi:Option Int) (n:Nat):(sliceBounds lo hi none n).1=((HT.sIx n 0 lo:Nat):Int)∧(sliceBounds lo hi none n).2.1=((HT.sIx n n hi:Nat):Int)∧(sliceBounds lo hi none n).2.2=1:=by
 refine⟨?_,?_,rfl⟩
 ·cases lo with
  | none=>simp [sliceBounds,HT.sIx]
  | some i =>
   simp only [sliceBounds,HT.sIx,kE,show (1:Int) > 0 by decide,if_true];by_cases h:i < 0
   ·simp only [h,if_true] <;> lia
   ·simp only [h,if_false] <;> lia
 ·cases hi with
  | none=>simp [sliceBounds,HT.sIx]
  | some i =>
   simp only [sliceBounds,HT.sIx,kE,show (1:Int) > 0 by decide,if_true];by_cases h:i < 0
   ·simp only [h,if_true] <;> lia
   ·simp only [h,if_false] <;> lia
theorem zdZ (lY:List Value) (lo hi:Option Int):slicePick lY.toArray lo hi none=((lY.drop (HT.sIx lY.length 0 lo)).take (HT.sIx lY.length lY.length hi - HT.sIx lY.length 0 lo)).toArray:=by
 obtain⟨h1,h2,h3⟩:=zeL lo hi lY.toArray.size;unfold slicePick;rw [h1,h2,h3];simp only [sliceRange_one,pick_run,aq] <;> rfl
def znG (K:ag):V→Option Int→Option Int→Hp→VK→Prop:=fun x lo hi H Q=>∃ a xs,x = .ref a∧l8 K H a xs∧∀ p,H p=none→Q (.ref p) (l7 H p (.lst (zft xs lo hi)))
theorem zg9:SlR X (znG X.K):=by
 intro lX s σ H x v vl vu lo hi sl Q I rx hs pl pu h;obtain⟨a,xs,rfl,hx,q⟩:=h;cases rx;obtain⟨lY,r,ht,hz⟩:=I.list hx;have mi:=r.length;refine⟨"list",_,slot_list_getitem.lookup,ht.isList.typeIs,?_⟩;refine wpAny_getItem_list_slice ht.isList hs pl pu .none #[M] ?_ (by rw [aq] <;> lia);rw [zdZ,← mi];refine⟨.ref s.heap.objs.size,_,I.laid (t':=s.toks) (o:=.lst (zft xs lo hi)) (fun b ob q=>aj _ q) (ah _) ?_,rfl,q _ (I.hok.fresh (ah _))⟩;exact⟨bg (zfu xs lo hi) hz,_,0,(r.drop (HT.sIx xs.length 0 lo)).take (HT.sIx xs.length xs.length hi - HT.sIx xs.length 0 lo),aB _ rfl⟩
def zbj:V→Bool
 | .non=>true
 | .bl _=>true
 | .int _=>true
 | .str _=>true
 | _=>false
def eqV:V→V→Bool
 | .non,.non=>true
 | .bl a,.bl b=>a == b
 | .bl a,.int b=>(if a then 1 else 0) == b
 | .int a,.bl b=>a == (if b then 1 else 0)
 | .int a,.int b=>a == b
 | .str a,.str b=>a == b
 | _,_=>false
theorem zjl {A:Around} {s:Shared} {y x:V} {u v:Value} (ry:RelV y u) (rx:RelV x v) (fy:zbj y=true) (fx:zbj x=true):jg A s u v (eqV y x):=by
 cases y with
 | non =>
  cases ry;cases x with
  | non=>cases rx; exact kS _
  | bl b=>cases rx; exact SeqAt.EqAt.none_bool b
  | int b=>obtain⟨t,rfl⟩:=rx; exact SeqAt.EqAt.none_int b t
  | str b=>obtain⟨t,rfl⟩:=rx; exact SeqAt.EqAt.none_str b t
  | _=>exact absurd (show false=true from fx) aM
 | bl a =>
  cases ry;cases x with
  | non=>cases rx; exact SeqAt.EqAt.bool_none a
  | bl b=>cases rx; exact SeqAt.EqAt.bool_bool a b
  | int b=>obtain⟨t,rfl⟩:=rx; exact SeqAt.EqAt.bool_int a b t
  | str b=>obtain⟨t,rfl⟩:=rx; exact SeqAt.EqAt.bool_str a b t
  | _=>exact absurd (show false=true from fx) aM
 | int a =>
  obtain⟨t',rfl⟩:=ry;cases x with
  | non=>cases rx; exact SeqAt.EqAt.int_none a t'
  | bl b=>cases rx; exact SeqAt.EqAt.int_bool a t' b
  | int b=>obtain⟨t,rfl⟩:=rx; exact SeqAt.EqAt.int_int a t' b t
  | str b=>obtain⟨t,rfl⟩:=rx; exact jK a t' b t
  | _=>exact absurd (show false=true from fx) aM
 | str a =>
  obtain⟨t',rfl⟩:=ry;cases x with
  | non=>cases rx; exact SeqAt.EqAt.str_none a t'
  | bl b=>cases rx; exact SeqAt.EqAt.str_bool a t' b
  | int b=>obtain⟨t,rfl⟩:=rx; exact jL a t' b t
  | str b=>obtain⟨t,rfl⟩:=rx; exact SeqAt.EqAt.str_str a t' b t
  | _=>exact absurd (show false=true from fx) aM
 | _=>exact absurd (show false=true from fy) aM
def eqU (x:V) (u:Value):Bool:=match u with
 | .none=>eqV .non x
 | .bool b=>eqV (.bl b) x
 | .int i _=>eqV (.int i) x
 | .str z _=>eqV (.str z) x
 | _=>false
theorem zjm {x y:V} {u:Value} (r:RelV y u) (f:zbj y=true):eqU x u=eqV y x:=by
 cases y with
 | non=>cases r; rfl
 | bl b=>cases r; rfl
 | int i=>obtain⟨t,rfl⟩:=r; rfl
 | str z=>obtain⟨t,rfl⟩:=r; rfl
 | _=>exact absurd (show false=true from f) aM
theorem zeM {x:V}:∀ {xs:List V} {us:List Value},zA xs us→xs.all zbj=true→us.any (eqU x)=xs.any fun y=>eqV y x
 | _,_,.nil,_=>rfl
 | y :: xs,u :: us,.cons r t,f=>by
  rw [jr,cG] at f;rw [jt,jt,zjm r f.1,zeM t f.2]
theorem zdo {A:Around} {s:Shared} {x:V} {v:Value} (rx:RelV x v) (fx:zbj x=true):∀ {xs:List V} {us:List Value},zA xs us→xs.all zbj=true→∀ u∈us,jg A s u v (eqU x u)
 | _,_,.nil,_=>fun u hu=>by cases hu
 | y :: xs,u :: us,.cons r t,f=>fun u' hu=>by
  rw [jr,cG] at f;rcases au.mp hu with rfl | hu
  ·rw [zjm r f.1]; exact zjl r rx f.1 fx
  ·exact zdo rx fx t f.2 u' hu
def inV (x:V) (xs:List V):Bool:=xs.any fun y=>eqV y x
def rIn (K:ag) (neg:Bool):R2:=fun x y H Q=>∃ p xs,y = .ref p∧(l8 K H p xs∨mj K H p xs)∧zbj x=true∧xs.all zbj=true∧Q (.bl (if neg then !inV x xs else inV x xs)) H
theorem zel:OpR X (compareOp .In) (rIn X.K false):=by
 intro lX s σ H x y v u Q I rx ry h;obtain⟨p,xs,rfl,hq,fx,fs,q⟩:=h;cases ry;rcases hq with hq | hq
 ·obtain⟨lY,r,pl,hz⟩:=I.list hq;refine SeqAt.in_listAt (eqU x) pl.isList (fun w hw=>zdo rx fx r fs w (by simpa using hw)) ⟨.bl _,H,I,rfl,?_⟩;rw [show lY.toArray.any (eqU x)=lY.any (eqU x) by simp,zeM r fs];exact q
 ·obtain⟨lY,r,pl,hz⟩:=I.tuple hq;refine SeqAt.in_tupleAt (eqU x) pl (fun w hw=>zdo rx fx r fs w (by simpa using hw)) ⟨.bl _,H,I,rfl,?_⟩;rw [show lY.toArray.any (eqU x)=lY.any (eqU x) by simp,zeM r fs];exact q
theorem zv:za1 X (.builtin "len") (fun xs H Q=>∃ p ys,xs = [.ref p]∧(l8 X.K H p ys∨mj X.K H p ys)∧Q (.int ys.length) H):=by
 intro lX s σ H xs us Q I r h;obtain⟨p,ys,rfl,hq,q⟩:=h;obtain⟨u,rfl,rx⟩:=vals1 r;cases rx;have hn:=zeJ;rcases hq with hq | hq
 ·obtain⟨lY,r',pl,hz⟩:=I.list hq;have mi:=r'.length;exact jz pl.isList (by simp only [aq] <;> lia) ⟨.int ys.length,H,I.tok _,⟨s.toks+1,by rw [aq,mi]⟩,q⟩
 ·obtain⟨lY,r',pl,hz⟩:=I.tuple hq;have mi:=r'.length;exact len_tuple pl (by simp only [aq] <;> lia) ⟨.int ys.length,H,I.tok _,⟨s.toks+1,by rw [aq,mi]⟩,q⟩
theorem zeN:za1 X (.type "list") (fun xs H Q=>∃ p ys,xs = [.ref p]∧(l8 X.K H p ys∨mj X.K H p ys)∧∀ l,H l=none→Q (.ref l) (l7 H l (.lst ys))):=by
 intro lX s σ H xs us Q I r h;obtain⟨p,ys,rfl,hq,q⟩:=h;obtain⟨u,rfl,rx⟩:=vals1 r;cases rx;have fin:∀ (lY:List Value),zA ys lY→ys.length≤sizeLine→∀ (h':Heap) (c':Nat),(∀ b o',s.heap.get? b=some o'→h'.get? b=some o') →
   h'.get? s.heap.objs.size=some { cls:=.type "list",dict:=none,data:=.seq lY.toArray c',slots:=#[] }→EP X lX σ Q (.ref s.heap.objs.size) { s with heap:=h' }:=fun lY r' hz h' c' kp e =>
  ⟨.ref s.heap.objs.size,_,I.laid (t':=s.toks) kp (ah _) (show zO X.prog X.w _ h' _ (.lst ys) from ⟨hz,lY,c',r',e⟩),rfl,q _ (I.hok.fresh (ah _))⟩
 rcases hq with hq | hq
 ·obtain⟨lY,r',pl,hz⟩:=I.list hq;have mi:=r'.length;obtain⟨o,ho,hc,n,hd⟩:=pl.isList;exact call_list_seq p (.inl rfl) ho hc hd (fun h' c' kp e=>fin lY r' hz h' c' kp e) (by simp only [aq] <;> lia)
 ·obtain⟨lY,r',pl,hz⟩:=I.tuple hq;have mi:=r'.length;obtain⟨o,ho,hc,n,hd⟩:=pl;exact call_list_seq p (.inr rfl) ho hc hd (fun h' c' kp e=>fin lY r' hz h' c' kp e) (by simp only [aq] <;> lia)
theorem zbe:za1 X (.type "tuple") (fun xs H Q=>∃ p ys,xs = [.ref p]∧((l8 X.K H p ys∧∀ l,H l=none→Q (.ref l) (l7 H l (.tup ys)))∨(mj X.K H p ys∧Q (.ref p) H))):=by
 intro lX s σ H xs us Q I r h;obtain⟨p,ys,rfl,h⟩:=h;obtain⟨u,rfl,rx⟩:=vals1 r;cases rx;rcases h with ⟨hq,q⟩ | ⟨hq,q⟩
 ·obtain⟨lY,r',pl,hz⟩:=I.list hq;have mi:=r'.length;refine call_tuple_list pl.isList (fun h' kp=>?_) (by simp only [aq] <;> lia);have I1:Inv X lX σ H { s with heap:=h' }:=I.kept (t':=s.toks) kp;have I2:Inv X lX σ (l7 H h'.objs.size (.tup ys)) { s with heap:=h'.push { cls:=.type "tuple",data:=.seq lY.toArray } } :=
   I1.laid (t':=s.toks) (fun b o e=>aj _ e) (ah _) (show zO X.prog X.w _ _ _ (.tup ys) from ⟨hz,lY,r',IsTup.new _ _⟩)
  exact⟨.ref h'.objs.size,_,I2,rfl,q _ (I1.hok.fresh (ah _))⟩
 ·obtain⟨lY,r',pl,hz⟩:=I.tuple hq;exact call_tuple_same pl ⟨.ref p,H,I,rfl,q⟩
def tyV (K:ag) (T:String) (x:V) (H:Hp):Prop:=match x with
 | .str _=>T = "str"
 | .int _=>T = "int"
 | .ref p=>(T = "list"∧∃ xs,l8 K H p xs)∨(T = "tuple"∧∃ o,K.lookup p=some o∧o.cls = .type "tuple"∧o.dict=none) ∨
   (T = "dict"∧((∃ l6,H p=some (.dK l6))∨∃ l6,H p=some (.dT l6)))∨(T = "set"∧∃ S n,H p=some (.set S n))
 | _=>False
theorem zmh {lX:List (Addr×Obj)} {σ:St} {H:Hp} {s:Shared} {T:String} {x:V} {v:Value} (I:Inv X lX σ H s) (r:RelV x v) (ty:tyV X.K T x H) :
  s.TypeIs v T∧∀ a,v = .ref a→∃ ob,s.heap.get? a=some ob∧ob.dict=none:=by
 cases x with
 | str z =>
  obtain⟨t,rfl⟩:=r;cases (show T = "str" from ty);exact⟨typeIs_str s z t,fun _ e=>nomatch e⟩
 | int i =>
  obtain⟨t,rfl⟩:=r;cases (show T = "int" from ty);exact⟨kT s i t,fun _ e=>nomatch e⟩
 | ref p =>
  cases r;rcases ty with ⟨rfl,xs,hq⟩ | ⟨rfl,o,hk,hc,hd⟩ | ⟨rfl,hk⟩ | ⟨rfl,S,n,hk⟩
  ·obtain⟨lY,_,pl,_⟩:=I.list hq;refine⟨pl.isList.typeIs,fun a e=>?_⟩;cases e;obtain⟨o,n,e,c,hd,_⟩:=pl;exact⟨o,e,hd⟩
  ·refine⟨⟨o,I.kIn p o hk,hc⟩,fun a e=>?_⟩;cases e;exact⟨o,I.kIn _ o hk,hd⟩
  ·have z:∃ o,s.heap.get? p=some o∧o.ExactDict:=by
    rcases hk with ⟨l6,hk⟩ | ⟨l6,hk⟩
    ·obtain⟨_,_,_,_,o,_,_,e,ex,_⟩:=I.hok p _ hk;exact⟨o,e,ex⟩
    ·obtain⟨_,_,_,_,o,_,_,e,ex,_⟩:=I.hok p _ hk;exact⟨o,e,ex⟩
   obtain⟨o,e,ex⟩:=z;refine⟨⟨o,e,ex.1⟩,fun a e2=>?_⟩;cases e2;exact⟨o,e,ex.2.1⟩
  ·obtain⟨o,_,_,_,e,ex,_⟩:=I.hok p _ hk;refine⟨⟨o,e,ex.1⟩,fun a e2=>?_⟩;cases e2;exact⟨o,e,ex.2.1⟩
 | _=>exact bQ ty
def tBM (K:ag) (T:String) (r:V→List V→Hp→VK→Prop) (to:TE) (t:TA):TE:=fun σ H Q=>to σ H fun x H1=>tyV K T x H1∧t σ H1 fun xs H2=>r x xs H2 Q
variable {o e:Expr} {es:List Expr} {to:TE} {t:TA} {name:Str} {apos mC:Pos} {T id:String} {r:V→List V→Hp→VK→Prop}
theorem zfv (pa:PlainAttrs T) (slot:Slot T name id) (An:typeOf (.builtin id)=pure (.type "method_descriptor")) (hm:MtR X id r) (ho:PE X o to) (ha:PA X (e :: es) t)
  (sI:attributeBase o name X.env (eval o X.env)=eval o X.env:=by rfl)
  (vb:((backTo mC (starEach (e :: es) X.env)).all (fun x=>!x.1) && (backToKw mC (keywordEach [] X.env)).all (fun x=>x.1.isSome)
   && decide ((e :: es).length+([]:List Keyword).length+(if ([]:List Keyword).isEmpty then 0 else 1) < 30))=true:=by rfl)
  (sJ:(apos.endLine == mC.line)=true:=by rfl) (hs:starEach (e :: es) X.env=(false,eval e X.env) :: starEach es X.env:=by rfl) (qw:(backTo mC (starEach es X.env)).any (·.1)=false:=by rfl) :
  PE X (.Call (.Attribute o name apos) (e :: es) [] mC) (tBM X.K T r to t):=by
 intro lX s σ H Q I h;refine wpAny_Call_method_late sI vb sJ rfl (thn (ho lX s σ H _ I h) fun v s1 ⟨x,H1,I1,r1,ty,q1⟩=>?_);obtain⟨h1,h2⟩:=zmh I1 r1 ty;refine⟨T,id,pa,slot,An,h1,h2,?_⟩;have hA:=ha mC lX s1 σ H1 _ I1 q1;rw [hs] at hA ⊢;refine iL (by show (false || (backTo mC (starEach es X.env)).any (·.1))=false; rw [qw] <;> rfl) (fZ ?_);exact thn hA fun us s2 ⟨vs,H2,I2,r2,q2⟩=>hm lX s2 σ H2 x vs v us Q I2 r1 r2 q2
end
def MtM (X:Cx) (id:String) (r:V→List V→Hp→VK→Prop):Prop :=
 ∀ (lX:List (Addr×Obj)) (s:Shared) (σ:St) (H:Hp) (x:V) (xs:List V) (v:Value) (us:List Value) (Q:VK),Inv X lX σ H s→RelV x v→zA xs us→r x xs H Q →
  wpAny (model X.prog X.w) X.A (call (.builtin id) (v :: us)) (EP X lX σ Q) X.xe s
theorem zA.one:∀ {x:V} {us:List Value},zA [x] us→∃ u,us = [u]∧RelV x u
 | _,_,.cons r .nil=>⟨_,rfl,r⟩
theorem zA.eraseIdx:∀ {xs:List V} {us:List Value} (i:Nat),zA xs us→zA (xs.eraseIdx i) (us.eraseIdx i)
 | _,_,_,.nil=>.nil
 | _,_,0,.cons _ t=>t
 | _,_,i+1,.cons r t=>.cons r (zA.eraseIdx i t)
theorem zA.rep {xs:List V} {us:List Value} (h:zA xs us):∀ k:Nat,zA (ap k xs).flatten (ap k us).flatten
 | 0=>.nil
 | k+1=>by
  rw [cw,cw,d9,d9];exact zA.append h (zA.rep h k)
theorem zem {α:Type}:∀ (l:List α) (i:Nat),(l.eraseIdx i).length≤l.length
 | [],_=>ah _
 | _ :: _,0=>ku _
 | _ :: r,i+1=>Nat.succ_le_succ (zem r i)
theorem foldl_rep (lY:List Value):∀ (k:Nat) (acc:List Value),
  kU (fun x1 x2=>x1++x2) acc.toArray (ap k lY.toArray)=(acc++(ap k lY).flatten).toArray
 | 0,acc=>by simp
 | k+1,acc=>by
  have e:acc.toArray++lY.toArray=(acc++lY).toArray:=by simp
  have e2:(acc++lY)++(ap k lY).flatten=acc++(ap (k+1) lY).flatten:=by
   rw [cw,d9,bf]
  rw [← e2,← foldl_rep lY k (acc++lY),← e,cw,eS]
section
variable {X:Cx} {lX:List (Addr×Obj)} {σ:St} {H:Hp} {s:Shared} {l b:Addr} {xs ys zs:List V}
theorem Inv.lset {lY its':List Value} {n:Nat} {f:Array Value→Array Value} {t':Nat} (I:Inv X lX σ H s) (hH:H l=some (.lst xs))
  (e:s.heap.get? l=some { cls:=.type "list",data:=.seq lY.toArray n }) (hf:f lY.toArray=its'.toArray) (hv:zA ys its') (hz:ys.length≤sizeLine) :
  Inv X lX σ (l7 H l (.lst ys)) { s with heap:=s.heap.update l (bS f),toks:=t' }:=by
 have q:=kF e f;rw [hf] at q;refine I.write (x:=l) (e:=l) (by rw [hH]; exact trivial) (.inl rfl) (fun b' u hb hu=>(d7 s.heap (bS f) (de hb)).trans hu) ⟨_,q⟩ ?_;exact⟨hz,its',_,hv,q⟩
theorem Inv.lnew {lY:List Value} {t':Nat} (I:Inv X lX σ H s) (hv:zA ys lY) (hz:ys.length≤sizeLine) :
  Inv X lX σ (l7 H s.heap.objs.size (.lst ys)) { s with heap:=s.heap.push { cls:=.type "list",data:=.seq lY.toArray },toks:=t' } :=
 I.laid (fun _ _ q=>aj _ q) (ah _) ⟨hz,lY,0,hv,aB _ rfl⟩
theorem Inv.fresh (I:Inv X lX σ H s):H s.heap.objs.size=none:=I.hok.fresh (ah _)
theorem Inv.lstM (I:Inv X lX σ H s) (hH:H l=some (.lst xs)):xs.length≤sizeLine∧∃ (lY:List Value) (n:Nat),zA xs lY∧xs.length=lY.length∧s.heap.get? l=some { cls:=.type "list",data:=.seq lY.toArray n }:=by
 obtain⟨z,lY,n,r,e⟩:=I.hok l _ hH;exact⟨z,lY,n,r,r.length,e⟩
theorem zjn {n:Nat} (h:n≤sizeLine):eW n=false:=by
 unfold eW;exact decide_eq_false #[O]
end
section
variable {X:Cx}
def zkW:V→List V→Hp→VK→Prop:=fun x vs H Q=>∃ l xs y,x = .ref l∧vs = [y]∧H l=some (.lst xs)∧xs.length < sizeLine∧Q .non (l7 H l (.lst (xs++[y])))
theorem zen:MtM X "list.append" zkW:=by
 intro lX s σ H x vs v us Q I rx rv h;obtain⟨l,xs,y,rfl,rfl,hH,hz,q⟩:=h;cases rx;obtain⟨u,rfl,ru⟩:=rv.one;obtain⟨z,lY,n,r,hl,e⟩:=I.lstM hH;refine ff jP ⟨_,e,rfl⟩ jA (jh _ _) (kd l lY.toArray n u (by rw [aq]; lia)) ⟨e,?_⟩;refine⟨.non,_,I.lset (its':=lY++[u]) hH e #[M] (r.append (.cons ru .nil)) ?_,rfl,q⟩;rw [aF,cD];lia
def zmi:V→List V→Hp→VK→Prop:=fun x vs H Q=>∃ l xs i k y,x = .ref l∧vs = [.int i]∧H l=some (.lst xs)∧-(2 ^ 63)≤i∧i < 2 ^ 63∧seqIndex? i xs.length=some k∧xs[k]? = some y∧Q y (l7 H l (.lst (xs.eraseIdx k)))
theorem zjo:MtM X "list.pop" zmi:=by
 intro lX s σ H x vs v us Q I rx rv h;obtain⟨l,xs,i,k,y,rfl,rfl,hH,h1,h2,hk,hy,q⟩:=h;cases rx;obtain⟨u,rfl,ru⟩:=rv.one;obtain⟨t,rfl⟩:=ru;obtain⟨z,lY,n,r,hl,e⟩:=I.lstM hH;obtain⟨w,hw,sH⟩:=r.get hy;refine ff F.slot_list_pop ⟨_,e,rfl⟩ F.entry_list_pop (F.args_list_pop_2 _ _)
  (MeetsSeq.list_pop_at l lY.toArray n i t k w (fitsIndex_both h1 h2) (by rw [aq,← hl]; exact hk) (by rw [← aV]; exact hw) (by rw [aq]; lia)) ⟨e,?_⟩
 refine⟨y,_,I.lset (its':=lY.eraseIdx k) hH e ?_ (r.eraseIdx k) ?_,sH,q⟩
 ·show lY.toArray.eraseIdxIfInBounds k=(lY.eraseIdx k).toArray;rw [List.eraseIdxIfInBounds_toArray]
 ·have:=zem xs k;lia
def znH:R2:=fun x y H Q=>∃ l b xs zs,x = .ref l∧y = .ref b∧H l=some (.lst xs)∧H b=some (.lst zs)∧xs.length+zs.length≤sizeLine∧∀ p,H p=none→Q (.ref p) (l7 H p (.lst (xs++zs)))
theorem zbN:OpR X (binaryOp .Add) znH:=by
 intro lX s σ H x y v u Q I rx ry h;obtain⟨l,b,xs,zs,rfl,rfl,hH,hB,hz,q⟩:=h;cases rx;cases ry;obtain⟨z,lY,n,r,hl,e⟩:=I.lstM hH;obtain⟨z2,sL,n2,r2,qT,e2⟩:=I.lstM hB;refine PySem.P.add_list e e2 ?_ (by rw [aq,aq]; lia);have ea:lY.toArray++sL.toArray=(lY++sL).toArray:=by simp
 rw [ea];exact⟨.ref _,_,I.lnew (t':=s.toks) (r.append r2) (by rw [aF]; lia),rfl,q _ I.fresh⟩
def znI:R2:=fun x y H Q=>∃ l k xs,x = .ref l∧y = .int k∧H l=some (.lst xs)∧-(2 ^ 63)≤k∧k < 2 ^ 63∧xs.length*k.toNat≤sizeLine ∧
 ∀ p,H p=none→Q (.ref p) (l7 H p (.lst (ap k.toNat xs).flatten))
theorem len_rep {α:Type} (xs:List α) (k:Nat):(ap k xs).flatten.length=k*xs.length:=by
 induction k with
 | zero=>simp
 | succ k ih=>rw [cw,d9,aF,ih,jQ,Nat.add_comm]
theorem zmj:OpR X (binaryOp .Mult) znI:=by
 intro lX s σ H x y v u Q I rx ry h;obtain⟨l,k,xs,rfl,rfl,hH,h1,h2,hz,q⟩:=h;cases rx;obtain⟨t,rfl⟩:=ry;obtain⟨z,lY,n,r,hl,e⟩:=I.lstM hH;have mi:lY.toArray.size*k.toNat≤sizeLine:=by rw [aq,← hl]; exact hz
 have Ao:¬ lY.toArray.size*k.toNat > (2 ^ 63 - 1) / 8:=by
  have:(sizeLine:Nat)≤(2 ^ 63 - 1) / 8:=by decide
  lia
 have Ap:¬ (!Builtin.List.listFitsIndex k)=true:=by
  rw [fitsIndex_both h1 h2];exact aM
 have w4:¬ eW (lY.toArray.size*k.toNat)=true:=by
  rw [zjn mi];exact aM
 have o3:kU (fun x1 x2=>x1++x2) #[] (ap (if lY.toArray.isEmpty=true then 0 else k.toNat) lY.toArray)=(ap k.toNat lY).flatten.toArray:=by
  have f0:∀ m:Nat,kU (fun x1 x2=>x1++x2) #[] (ap m lY.toArray)=(ap m lY).flatten.toArray:=fun m=>by
   have:=foldl_rep lY m [];rw [kW] at this;exact this
  rw [f0];cases lY with
  | nil=>simp
  | cons a r'=>rw [if_neg #[M]]
 refine wpAny_binaryOp_repeat_ref (T:="list") (U:="int") #[D] ⟨_,e,rfl⟩ (fun s'=>kT s' k t) noFill_list_mul F.fills_int_mul F.slot_int_rmul repeat_list F.slot_int_index.lookup
  (ff F.slot_int_rmul (kT s k t) F.entry_int_rmul (F.args_int_rmul_2 _ _) (int___rmul___int_list k t l lY.toArray n)
   ⟨e,rfl,⟨_,e,rfl⟩,ff F.slot_list_mul ⟨_,e,rfl⟩ F.entry_list_mul (F.args_list_mul_2 _ _) (AutoListH.list___mul___list_int_3 l lY.toArray n k t Ap Ao w4) ⟨e,?_⟩⟩)
 rw [o3];exact⟨.ref _,_,I.lnew (t':=s.toks) (r.rep k.toNat) (by rw [len_rep,eX]; exact hz),rfl,q _ I.fresh⟩
end
end L2
namespace Att
open PySem PySem.W PySem.Calls PyProof.Rows
theorem zc3 {P:Params} {h:Heap}:∀ (ns:List Int) (vs:List Value),WellAll P h vs (ns.map WData.int)→IntsAre vs ns:=by
 intro ns;induction ns with
 | nil =>
  intro vs w;rw [hW] at w;cases w;exact .nil
 | cons n ns ih =>
  intro vs w;rw [aP] at w;cases w with
  | cons a b =>
   cases a;exact .cons _ _ (ih _ b)
theorem zh4 {l:OpenLaw} {n:Nat} (hn:l.most=some n) {P:Params} {h:Heap} {args:List WData} {vals:List Value}
  (t9:l.row.toRowW.claim.pre args=true) (Aq:WellAll P h vals args) :
  ∃ a vs ns,vals = [aK a]∧args = [WData.list (ns.map WData.int)]∧h.get? a=some { cls:=.type "list",data:=.seq vs.toArray }∧IntsAre vs ns∧ns.length≤n:=by
 have hsh:WShape.hasAll [] args [.list .int]=true:=(pre_splitW t9).1;have hc:l.pre.holds [] { args:=args }=true:=(pre_splitW t9).2;obtain⟨d,r,rfl,h1,h2⟩:=hasAllW_cons hsh;obtain rfl:=hasAllW_nil h2;obtain⟨xs,rfl,h3⟩:=hasW_list h1;obtain⟨ns,rfl⟩:=items_int h3;have mi:ns.length≤n:=by
  unfold OpenLaw.pre at hc;have h4:(WTm.not (.lt (.lit (.int (n:Int))) (.len (.arg 0)))).holds [] { args:=[.list (ns.map .int)] }=true:=by
   have h4:=(holds_andW hc).1;rw [hn] at h4;exact h4
  have h5:=condW_of h4 (w_not (w_lt w_lit (w_len_list (w_arg rfl))));rw [ae] at h5;refine Nat.le_of_not_lt fun q=>?_
  have q':(n:Int) < ((ns.length:Nat):Int):=by lia
  first
   | (rw [decide_eq_true q'] at h5; exact absurd h5 #[D])
   | (simp at h5; lia)
 cases Aq with
 | cons w1 w2 =>
  cases w2;cases w1 with
  | list ho m7=>exact⟨_,_,ns,rfl,rfl,ho,zc3 ns _ m7,mi⟩
theorem zh5 (l:OpenLaw) (args:List WData):l.row.toRowW.claim.post args (.bool true) args=true :=
 postW_of (r:=l.row.toRowW) (X:=(true == true))
  (show WShape.has [] (.bool true) .bool=true by first | rfl | decide | simp [WShape.has,WShape.arms,WShape.armsAll])
  (show (WTm.eq .res (.lit (.bool true))).value [] { args:=args,res:=some (.bool true),after:=args }=some (.bool (true == true)) from w_eq_bool (w_res rfl) w_lit) rfl
theorem attach_call {l:OpenLaw} {n:Nat} {q:Program} {loose:List Str} {XP:(Str→Option Value)→Heap→Prop} {YP:World→Heap→Prop} {d:DefRec}
  (hn:l.most=some n) (w6:d.params.defaults = [])
  (call:∀ (w:World) (s₀ s₁:Shared) (mg mb:Str→Option Value) (fa:Addr) (o:Obj) (pm cd doc:Value) (a:Addr) (vs:List Value) (ns:List Int),
   Ground q loose [] XP w s₀ mg mb s₁.heap→YP w s₁.heap →
   s₁.heap.get? fa=some o→o.data = .func (docDef d.name d.params d.body d.scope pm cd doc)→s₁.heap.CodeRec cd d.name→mg d.name=some (.ref fa) →
   s₁.heap.get? a=some { cls:=.type "list",data:=.seq vs.toArray }→IntsAre vs ns→ns.length≤n→s₁.gens = #[] →
   codeAny (model l.prog w) callerA (.call (.ref fa) ⟨[.ref a],[]⟩) (fun r s'=>r = .ok (.ret (.bool true))∧OldK s₁.heap s'.heap∧s'.os=s₁.os∧AllBare s'.gens) s₁) :
  WalkO q loose XP YP l.row.toRowW d [] (fun f vs=>kX f vs):=by
 intro w s₀ s₁ mg mb G Y fa o pm cd doc dV kV ho hd oq hD qz hg args vals as t9 hlay hrd Aq oa;obtain rfl:dV = .none:=Dflts.none hD w6;obtain rfl:kV = .none:=Dflts.noKw hD;obtain⟨a,vs,ns,rfl,rfl,vc,hints,mi⟩:=zh4 hn t9 Aq;refine enter_call (ed (call w s₀ s₁ mg mb fa o pm cd doc a vs ns G Y ho (fd_plain hd) oq qz vc hints mi hg) fun r s' hq=>?_);obtain⟨rfl,h2,h3,h4⟩:=hq;exact⟨.inl ⟨.bool true,.bool true,[],rfl,fun _=>rfl,.bool true,zh5 l _,fun _=>⟨fk,fun _ hm=>(nomatch hm)⟩⟩,h2,h3,h4⟩
end Att
namespace L2
open PySem PySem.Spec PyProof.Rows
theorem zeo:∀ {vs:List Value} {ns:List Int},IntsAre vs ns→zA (ns.map V.int) vs
 | _,_,.nil=>.nil
 | _,_,.cons n t h=>.cons ⟨t,rfl⟩ (zeo h)
def za9 (s:Stmt):Arguments:=match s with
 | .FunctionDef _ a _ _ _ _ _ _ _ _=>a
 | _=>{ posonlyargs:=[],args:=[],vararg:=none,kwonlyargs:=[],kw_defaults:=[],kwarg:=none,defaults:=[] }
def zao (s:Stmt):List Stmt:=match s with
 | .FunctionDef _ _ b _ _ _ _ _ _ _=>b
 | _=>[]
def zg (s:Stmt):Scope:=match s with
 | .FunctionDef _ _ _ _ _ _ sc _ _ _=>sc
 | _=>{ kind:=.function,names:=[],isGenerator:=false,isCoroutine:=false }
abbrev CX0:CXT:=fun _ _ _ _ _ _=>False
abbrev E0:XK:=fun _ _ _=>False
theorem zaC {X:Cx}:zeK CX0 X E0:=fun _ _ _ _ _ _ _ h=>h.elim
structure Fun (K:ag) (x qual:Str) (st:Stmt) (f:Addr) (fd:FuncData):Prop where
 ex:∃ (oc:Value) (od:Option Addr) (kV doc pm:Value) (an:Option Addr) (mq ct:Value) (rm:Array (Option Value)),
  fd=cE x qual (za9 st) (zao st) (zg st) .none kV doc pm an mq ct∧K.lookup f=some ⟨oc,od,.func fd,rm⟩∧ee K mq qual=true
 kp:dJ K (.ref f)=true
section
variable {P:Program} {w:World} {K:ag} {mg:Str→Option Value} {base:Heap}
theorem Fun.ok {x qual:Str} {st:Stmt} {f:Addr} {fd:FuncData} {N ps:List Str} {k:Nat} {sp:Sp} (F:Fun K x qual st f fd) (S:FnScope N ps (zg st)) (len:∀ vs H Q E,sp vs H Q E→vs.length=ps.length)
  (m9:∀ (mq:Value) (A:Around) (outer:List Env) (s:Shared) (H:Hp) (vs:List V) (Q:VK) (E:XK),Room k (A.deeper (envOfC qual (zg st) s.heap.objs.size f mq))→sp vs H Q E →
   ∃ t,PSs (za7 CX0 P w K mg base N qual (zg st) f mq A outer s H E).nox (zao st) t∧t { nx:=fun _ H'=>Q .non H',rt:=Q } (start N vs) H):FnOk P w K mg base CX0 (k+1) f fd ps sp:=by
 obtain⟨oc,od,kV,doc,pm,an,mq,ct,rm,rfl,lk,oq⟩:=F.ex;refine zjk lk oq S len fun A outer s H vs Q E hr pR=>?_
 obtain⟨t,h,q⟩:=m9 mq A outer s H vs Q E hr pR;exact⟨t,h.nox,q⟩
theorem Fun.binds {x qual:Str} {st:Stmt} {f:Addr} {fd:FuncData} {ps:List Str} (F:Fun K x qual st f fd)
  (h:∀ (kV doc pm:Value) (an:Option Addr) (mq ct:Value) (us:List Value),us.length=ps.length→bindArgs (cE x qual (za9 st) (zao st) (zg st) .none kV doc pm an mq ct) ⟨us,[]⟩=pure (ps.zip us)):Binds K fd ps []:=by
 obtain⟨oc,od,kV,doc,pm,an,mq,ct,rm,rfl,lk,oq⟩:=F.ex;exact .all (h kV doc pm an mq ct)
theorem zjp {x qual:Str} {st:Stmt} {f:Addr} {oc:Value} {od an:Option Addr} {rm:Array (Option Value)} {kV doc pm mq ct:Value} (l:K.lookup f=some ⟨oc,od,.func (cE x qual (za9 st) (zao st) (zg st) .none kV doc pm an mq ct),rm⟩)
  (c:ee K mq qual=true) (k:dJ K (.ref f)=true):Fun K x qual st f (cE x qual (za9 st) (zao st) (zg st) .none kV doc pm an mq ct):=⟨⟨oc,od,kV,doc,pm,an,mq,ct,rm,rfl,l,c⟩,k⟩
end
theorem zdp {A B:Prop} (h:B):if false=true then A else B:=by
 rw [if_neg aM];exact h
theorem zgo {A B:Prop} (h:A):if true=true then A else B:=by
 rw [if_pos rfl];exact h
theorem zb4 {c A B:Prop} [Decidable c] (h1:c→A) (h2:¬ c→B):if c then A else B:=by
 by_cases h:c
 ·rw [if_pos h];exact h1 h
 ·rw [if_neg h];exact h2 h
def zI (H H':Hp):Prop:=∀ b o,H b=some o→H' b=some o
theorem zI.trans {H H1 H2:Hp} (a:zI H H1) (b:zI H1 H2):zI H H2:=fun c o h=>b c o (a c o h)
theorem zI.free {H H':Hp} (e:zI H H') {l:Addr} (h:H' l=lT):H l=lT:=by
 cases q:H l with
 | none=>rfl
 | some o =>
  rw [e l o q] at h;cases h
theorem zI.seq {K:ag} {H H':Hp} {a:Addr} {xs:List V} (e:zI H H') (h:l8 K H a xs):l8 K H' a xs:=by
 rcases h with (h | ⟨o,h⟩) | h
 ·exact .inl (.inl (e _ _ h))
 ·exact .inl (.inr ⟨o,e _ _ h⟩)
 ·exact .inr h
end L2
section
namespace L2
open PySem
abbrev Ends.n (D:Ends) (N:St→Hp→Prop):Ends:={ D with nx:=N }
section
variable {r1 r2 r3 r4 r5 r6 r7 r8 r9 r10 r11 r12 r13 r14 r15:TS} {D:Ends} {σ:St} {H:Hp}
theorem zne (h:let N2:=r2 D; r1 (D.n N2) σ H):(zaE r1 r2) D σ H:=h
theorem zgp (h:let N3:=r3 D; let N2:=r2 (D.n N3); r1 (D.n N2) σ H):(zaE r1 (zaE r2 r3)) D σ H:=h
theorem znJ (h:let N4:=r4 D; let N3:=r3 (D.n N4); let N2:=r2 (D.n N3); r1 (D.n N2) σ H):(zaE r1 (zaE r2 (zaE r3 r4))) D σ H:=h
theorem znf (h:let N6:=r6 D; let N5:=r5 (D.n N6); let N4:=r4 (D.n N5); let N3:=r3 (D.n N4); let N2:=r2 (D.n N3); r1 (D.n N2) σ H):(zaE r1 (zaE r2 (zaE r3 (zaE r4 (zaE r5 r6))))) D σ H:=h
theorem zmk (h:let N7:=r7 D; let N6:=r6 (D.n N7); let N5:=r5 (D.n N6); let N4:=r4 (D.n N5); let N3:=r3 (D.n N4); let N2:=r2 (D.n N3); r1 (D.n N2) σ H):(zaE r1 (zaE r2 (zaE r3 (zaE r4 (zaE r5 (zaE r6 r7)))))) D σ H:=h
theorem znK (h:let N8:=r8 D; let N7:=r7 (D.n N8); let N6:=r6 (D.n N7); let N5:=r5 (D.n N6); let N4:=r4 (D.n N5); let N3:=r3 (D.n N4); let N2:=r2 (D.n N3); r1 (D.n N2) σ H):(zaE r1 (zaE r2 (zaE r3 (zaE r4 (zaE r5 (zaE r6 (zaE r7 r8))))))) D σ H:=h
theorem zbO {X0:Cx} {B:List PySem.Stmt} (h:let X:=X0; ∃ t,PSs X B t∧t D σ H):∃ t,PSs X0 B t∧t D σ H:=h
end
end L2
end
section
namespace L2
open PySem PySem.Spec PyProof.Rows
def zR (cs:List (Str×Addr)):List (Str×NameKind)→List (Str×Addr)→List (Str×Addr)
 | [],acc=>acc
 | (n,k) :: r,acc=>if k == .free then zR cs r ((n,(cs.lookup n).getD 0) :: acc) else zR cs r acc
theorem zbf {scope:Scope} {env:Env} (h:∀ y∈scope.names,y.2 = .free→∃ c,env.cells.lookup y.1=some c) :
  closureFor scope env=pure (zR env.cells scope.names []):=by
 have go:∀ (names:List (Str×NameKind)) (acc:List (Str×Addr)),(∀ y∈names,y.2 = .free→∃ c,env.cells.lookup y.1=some c) →
   (forIn names acc (fun (x:Str×NameKind) (cs:List (Str×Addr))=>(if (x.2 == bO)=true then do
    let a ← cellOf env x.1
    pure (cA ((x.1,a) :: cs)) else pure (cA cs):Sem (ForInStep (List (Str×Addr))))))=(pure (zR env.cells names acc):Sem _):=by
  intro names;induction names with
  | nil=>intro acc _; rfl
  | cons y r ih =>
   intro acc hy;obtain⟨n,k⟩:=y;rw [iw];cases hk:(k == bO) with
   | true =>
    obtain⟨c,hc⟩:=hy (n,k) ao (by simpa using hk);have nv:cellOf env n=pure c:=by
     unfold cellOf;have mG:env.cells.lookup n=some c:=hc;rw [mG]
    simp only [hk,if_true,nv];have e:=ih ((n,c) :: acc) fun y vd=>hy y (ai _ vd)
    have mG:env.cells.lookup n=some c:=hc;simp only [zR,hk,if_true,mG,kG];exact e
   | false =>
    simp only [hk,aC,if_false];have e:=ih acc fun y vd=>hy y (ai _ vd)
    simp only [zR,hk,aC,if_false];exact e
 have e:=go scope.names [] h;unfold closureFor;show (forIn scope.names [] _ >>= fun cs=>pure cs)=_
 first
  | (rw [e]; rfl)
  | (simp only []; rw [e]; rfl)
  | (have e':=e; simp at e' ⊢; exact e')
theorem zaL {cs:List (Str×Addr)}:∀ (names:List (Str×NameKind)) (acc:List (Str×Addr)),
  (∀ y∈names,y.2 = .free→∃ c,cs.lookup y.1=some c)→(∀ x c,acc.lookup x=some c→cs.lookup x=some c) →
  ∀ x c,(zR cs names acc).lookup x=some c→cs.lookup x=some c
 | [],acc,_,h,x,c,e=>h x c e
 | (n,k) :: r,acc,hy,h,x,c,e=>by
  have hr:∀ y∈r,y.2 = .free→∃ c,cs.lookup y.1=some c:=fun y vd=>hy y (ai _ vd)
  unfold zR at e;cases hk:(k == bO) with
  | false =>
   rw [hk] at e;exact zaL r acc hr h x c e
  | true =>
   rw [hk] at e;obtain⟨d,hd⟩:=hy (n,k) ao (by simpa using hk);have pK:cs.lookup n=some d:=hd;refine zaL r _ hr (fun x c e'=>?_) x c e;rw [pK,kG,bp] at e';cases hx:(x == n) with
   | true =>
    rw [hx] at e';have:x=n:=by simpa using hx
    subst this;rw [pK];exact e'
   | false =>
    rw [hx] at e';exact h x c e'
theorem za2 {cs:List (Str×Addr)}:∀ (names:List (Str×NameKind)) (acc:List (Str×Addr)) (x:Str),
  ((∃ c,acc.lookup x=some c)∨(x,bO)∈names)→∃ c,(zR cs names acc).lookup x=some c
 | [],acc,x,h=>by
  rcases h with h | h
  ·exact h
  ·cases h
 | (n,k) :: r,acc,x,h=>by
  unfold zR;cases hk:(k == bO) with
  | false =>
   refine za2 r acc x ?_;rcases h with h | h
   ·exact .inl h
   ·rcases au.mp h with h | h
    ·cases h;exact absurd hk #[D]
    ·exact .inr h
  | true =>
   refine za2 r _ x ?_;cases hx:(x == n) with
   | true=>exact .inl ⟨_,by rw [bp,hx]⟩
   | false =>
    rcases h with ⟨c,h⟩ | h
    ·exact .inl ⟨c,by rw [bp,hx]; exact h⟩
    ·rcases au.mp h with h | h
     ·cases h;simp at hx
     ·exact .inr h
theorem lookup_mem {α:Type}:∀ {l:List (Str×α)} {x:Str} {k:α},l.lookup x=some k→(x,k)∈l
 | [],x,k,h=>by simp at h
 | (n,j) :: r,x,k,h=>by
  rw [bp] at h;cases hx:(x == n) with
  | true =>
   rw [hx] at h;have:x=n:=by simpa using hx
   subst this;cases h;exact ao
  | false =>
   rw [hx] at h;exact ai _ (lookup_mem h)
theorem zaS {env:Env}:∀ {names:List (Str×NameKind)} {x:Str},names.lookup x=some .free →
  (names.map fun (n,k)=>if (k == bO && env.scope.kind == .function && env.kindOf n == some .cell) then (n,cT) else (n,k)).lookup x=some .cell ∨
  (names.map fun (n,k)=>if (k == bO && env.scope.kind == .function && env.kindOf n == some .cell) then (n,cT) else (n,k)).lookup x=some .free
 | [],_,h=>by simp at h
 | (n,k) :: r,x,h=>by
  have ih:=@zaS env r x;simp only [aP];cases hx:x == n with
  | true =>
   simp only [bp,hx] at h; cases h;by_cases hc:(bO == bO && env.scope.kind == .function && env.kindOf n == some .cell)=true
   ·rw [if_pos hc]; left; simp only [bp,hx]
   ·rw [if_neg hc]; right; simp only [bp,hx]
  | false =>
   simp only [bp,hx] at h; rcases jR ((k == bO && env.scope.kind == .function && env.kindOf n == some .cell)=true) with hc | hc
   ·exact (by rw [if_pos hc]; simp only [bp,hx]; exact ih h)
   ·exact (by rw [if_neg hc]; simp only [bp,hx]; exact ih h)
theorem zcl {env:Env}:∀ {names:List (Str×NameKind)} {x:Str},
  ((names.map fun (n,k)=>if (k == bO && env.scope.kind == .function && env.kindOf n == some .cell) then (n,cT) else (n,k)).lookup x=some .cell ∨
  (names.map fun (n,k)=>if (k == bO && env.scope.kind == .function && env.kindOf n == some .cell) then (n,cT) else (n,k)).lookup x=some .free) →
  names.lookup x=some .free∨names.lookup x=some .cell
 | [],_,h=>by simp at h
 | (n,k) :: r,x,h=>by
  have ih:=@zcl env r x;simp only [aP] at h;cases hx:x == n with
  | true =>
   rcases jR ((k == bO && env.scope.kind == .function && env.kindOf n == some .cell)=true) with hc | hc
   ·have hk:k = .free:=by
     simp only [cG] at hc; simpa using hc.1.1
    subst hk;exact .inl (by simp only [bp,hx])
   ·rw [if_neg hc] at h;simp only [bp,hx] at h ⊢;rcases h with h | h
    ·exact .inr h
    ·exact .inl h
  | false =>
   rcases jR ((k == bO && env.scope.kind == .function && env.kindOf n == some .cell)=true) with hc | hc
   ·rw [if_pos hc] at h;simp only [bp,hx] at h ⊢;exact ih h
   ·rw [if_neg hc] at h;simp only [bp,hx] at h ⊢;exact ih h
theorem zeO:∀ (names:List (Str×NameKind)) (n:Nat) (acc:List (Str×Addr)) (x:Str),(x,cT)∉names→(cellsFrom n names acc).lookup x=acc.lookup x
 | [],_,_,_,_=>rfl
 | (y,k) :: r,n,acc,x,h=>by
  have hr:(x,cT)∉r:=fun z=>h (ai _ z)
  unfold cellsFrom;split
  ·rename_i hk
   have pL:k = .cell:=by simpa using hk
   rw [zeO r _ _ x hr,bp];cases hx:(x == y) with
   | true =>
    have:x=y:=by simpa using hx
    subst this;subst pL;exact absurd ao h
   | false=>rfl
  ·exact zeO r _ _ x hr
theorem zeP:∀ (names:List (Str×NameKind)) (n:Nat) (acc:List (Str×Addr)) (x:Str),(x,cT)∈names→∃ c,(cellsFrom n names acc).lookup x=some c∧n≤c
 | (y,k) :: r,n,acc,x,h=>by
  by_cases hr:(x,cT)∈r
  ·unfold cellsFrom;split
   ·obtain⟨c,e,l⟩:=zeP r (n+1) ((y,n) :: acc) x hr;exact⟨c,e,#[O]⟩
   ·exact zeP r n acc x hr
  ·rcases au.mp h with e | e
   ·cases e;unfold cellsFrom;rw [if_pos #[D],zeO r _ _ _ hr,bp,beq_self_eq_true];exact⟨n,rfl,ah _⟩
   ·exact absurd e hr
structure CO (h:Heap) (lo:Nat) (old cs:List (Str×Addr)):Prop where
 each:∀ x c,cs.lookup x=some c→(h.IsCell c none∧lo≤c)∨(old.lookup x=some c∧c < lo)
 inj:∀ x y c,cs.lookup x=some c→cs.lookup y=some c→x=y
theorem zjq {lo:Nat} {old:List (Str×Addr)}:∀ (names:List (Str×NameKind)) (h:Heap) (acc:List (Str×Addr)),CO h lo old acc→lo≤h.objs.size→CO (pushCells h names) lo old (cellsFrom h.objs.size names acc)
 | [],_,_,a,_=>a
 | (y,k) :: r,h,acc,a,hl=>by
  unfold pushCells cellsFrom;split
  ·have lt:∀ x c,acc.lookup x=some c→c < h.objs.size:=fun x c e=>(a.each x c e).elim (fun z=>z.1.lt) fun z=>aJ z.2 hl
   have key:∀ x c,List.lookup x ((y,h.objs.size) :: acc)=some c→(x=y∧c=h.objs.size)∨acc.lookup x=some c:=fun x c e=>by
    rw [bp] at e;cases hx:(x == y) with
    | true =>
     rw [hx] at e;exact .inl ⟨by simpa using hx,(aX e).symm⟩
    | false =>
     rw [hx] at e;exact .inr e
   have:=zjq (lo:=lo) (old:=old) r (h.push { cls:=.type "cell",data:=.cell none }) ((y,h.objs.size) :: acc) ⟨fun x c e=>?_,fun x z c e1 e2=>?_⟩ (by rw [bP]; lia)
   ·rw [bP] at this;exact this
   ·rcases key x c e with ⟨_,rfl⟩ | e
    ·exact .inl ⟨⟨_,aB _ rfl,rfl⟩,hl⟩
    ·rcases a.each x c e with z | z
     ·exact .inl ⟨z.1.keeps fun b o e=>aj _ e,z.2⟩
     ·exact .inr z
   ·rcases key x c e1 with ⟨p1,q1⟩ | f1 <;> rcases key z c e2 with ⟨p2,q2⟩ | f2
    ·exact p1.trans p2.symm
    ·exact absurd (lt _ _ f2) (by rw [q1]; exact cn _)
    ·exact absurd (lt _ _ f1) (by rw [q2]; exact cn _)
    ·exact a.inj x z c f1 f2
  ·exact zjq r h acc a hl
theorem zh6 {M:Model} {A:Around} {E:Value→Shared→Prop} {s:Shared} {scope:Scope} {globals:Addr} {closure:List (Str×Addr)} {qual:Str} {env:Env} {Q:Env→Shared→Prop}
  (h:Q (newEnv scope s.heap.objs.size globals (cellsFrom (s.heap.objs.size+1) scope.names closure) qual none .none (some env) builtinsNs) { s with heap:=pushCells (s.heap.push { cls:=.type "dict",data:=.dict #[] }) scope.names }) :
  wpAny M A (newFunctionEnv scope globals closure [] qual none .none (some env)) Q E s:=by
 (simp only [newFunctionEnv,jS,if_true])
 (refine aa (wpAny_alloc ?_))
 (refine aa (wpAny_layCells _ (fun name kind cells=>by cases hkc:kind == cT <;> simp [hkc]) _ _ _ _ ?_))
 rw [show ({ s with heap:=s.heap.push { cls:=.type "dict",data:=.dict #[] } }:Shared).heap.objs.size=s.heap.objs.size+1 from bP ..]
 (exact aa (af (af h)))
abbrev zB (X:Cx) (N':List Str) (scope:Scope) (s₃:Shared) (H₃:Hp) (ex:List Addr) (lX:List (Addr×Obj)):Cx :=
 { X with N:=N',s₀:=s₃,H₀:=H₃,env:=compEnvC scope (cellsFrom (s₃.heap.objs.size+1) scope.names (zR X.env.cells scope.names [])) s₃.heap.objs.size X.env,outer:=X.stack,stack:=X.stack,ex:=ex,fn:=fun x=>scope.names.lookup x == some .cell,pn:=X.pn++lX,xe:=fun _ _=>False }
def zgq (ifs:List Expr) (env:Env):Sem Bool :=
 forIn ifs true fun c r=>if r=true then do let ok ← isTrue c env (eval c env); pure (cA ok) else pure (cA r)
def zc4 (X:Cx) (ifs:List Expr) (t:TT):Prop :=
 ∀ (lX:List (Addr×Obj)) (s:Shared) (σ:St) (H:Hp) (Q:Bool→Hp→Prop),Inv X lX σ H s→t σ H Q→wpAny (model X.prog X.w) X.A (zgq ifs X.env) (TP X lX σ Q) X.xe s
def zml:TT:=fun _ H Q=>Q true H
theorem zaf {X:Cx}:zc4 X [] zml:=fun _ _ _ H _ I h=>af ⟨H,I,h⟩
theorem zfw {X:Cx} {c:Expr} {t:TT} (h:PT X c t):zc4 X [c] t:=by
 intro lX s σ H Q I hw;unfold zgq;rw [iw];simp only [if_true];exact aa (aa (thn (h lX s σ H _ I hw) fun b s1 q=>af (af q)))
structure CompSc (X:Cx) (N':List Str) (ix:List (Option Nat)) (scope:Scope):Prop where
 kind:scope.kind = .function
 cells:∀ y∈scope.names,y.2 = .cell→scope.names.lookup y.1=some .cell
 names:∀ y∈scope.names,y.2 = .local→scope.names.lookup y.1=some .local
 free:∀ y∈scope.names,y.2 = .free→X.env.kindOf y.1=some .cell∨X.env.kindOf y.1=some .free
 len:N'.length=ix.length
 cap:∀ j i:Nat,ix[j]? = some (some i)→∃ x,N'[j]? = some x∧X.N[i]? = some x∧scope.names.lookup x=some .free
def zha (wm:Scope) (oN N':List Str) (ix:List (Option Nat)) (scope:Scope):Bool :=
 (scope.kind == .function) && (scope.names.all fun y=>y.2 != .cell || scope.names.lookup y.1 == some .cell) && (scope.names.all fun y=>y.2 != .local || scope.names.lookup y.1 == some .local) &&
 (scope.names.all fun y=>y.2 != .free || (wm.names.lookup y.1 == some .cell || wm.names.lookup y.1 == some .free)) && (N'.length == ix.length) &&
 ((ba ix.length).all fun j=>match ix[j]? with
  | some (some i)=>(match N'[j]? with
   | some x=>oN[i]? == some x && scope.names.lookup x == some .free
   | none=>false)
  | _=>true)
theorem CompSc.of {X:Cx} {N':List Str} {ix:List (Option Nat)} {scope:Scope} (wm:Scope) (oN:List Str) (h1:X.env.scope=wm) (h2:X.N=oN) (hb:zha wm oN N' ix scope=true):CompSc X N' ix scope:=by
 unfold zha at hb;simp only [cG,eE] at hb;obtain⟨⟨⟨⟨⟨a,b⟩,c⟩,d⟩,e⟩,f⟩:=hb;refine⟨?_,fun y hy hl=>?_,fun y hy hl=>?_,fun y hy hf=>?_,by simpa using e,fun j i hj=>?_⟩
 ·revert a
  cases scope.kind <;> first | (intro _; rfl) | (intro h; exact absurd h #[D])
 ·have:=b y hy;rw [hl] at this;simpa using this
 ·have:=c y hy;rw [hl] at this;simpa using this
 ·have:=d y hy;rw [hf] at this;have e1:X.env.kindOf y.1=wm.names.lookup y.1:=by rw [← h1]; rfl
  rw [e1];simpa using this
 ·have ml:j < ix.length:=(aT.mp hj).1;have:=f j (bA.mpr ml);rw [hj] at this;cases hN:N'[j]? with
  | none =>
   rw [hN] at this;simp at this
  | some x =>
   rw [hN] at this;refine⟨x,rfl,?_⟩;rw [h2];simpa using this
def zcm (ix:List (Option Nat)) (σ:St):St:=ix.map fun o=>match o with
 | none=>none
 | some i=>(σ[i]?).join
theorem Inv.track {X:Cx} {lX:List (Addr×Obj)} {σ:St} {H:Hp} {s:Shared} {D:Addr} {o:HO} (I:Inv X lX σ H s) (hn:H D=none) (hs:X.s₀.heap.objs.size≤D) (hL:X.env.locals≠D)
  (hC:∀ x c,X.env.cells.lookup x=some c→c≠D) (hp:∀ p∈X.pn++lX,p.1≠D) (ok:zO X.prog X.w (l7 H D o) s.heap D o):Inv X lX σ (l7 H D o) s:=by
 have ne:∀ b u,H b=some u→b≠D:=fun b u e=>zq e hn
 refine⟨I.ok,I.os,I.bare,⟨I.base.keep,I.base.slot,fun b u e n hx=>?_,I.base.there,fun b xs e=>?_,fun b u xs e=>?_,fun b ps e=>?_⟩,I.loc,I.cell,?_,fun x c e=>?_,fun p qU=>?_,fun b u e=>?_,I.len⟩
 ·have:b≠D:=aL (aJ (av e) hs);rw [zi this];exact I.base.free b u e n hx
 ·have:=I.base.tups b xs e;rw [zi (ne b _ this)];exact this
 ·have:=I.base.frzs b u xs e;rw [zi (ne b _ this)];exact this
 ·obtain⟨more,q⟩:=I.base.tbls b ps e;exact⟨more,by rw [zi (ne b _ q)]; exact q⟩
 ·rw [zi hL];exact I.free
 ·rw [zi (hC x c e)];exact I.freeC x c e
 ·obtain⟨a1,a2,a3⟩:=I.pin p qU;exact⟨a1,by rw [zi (hp p qU)]; exact a2,a3⟩
 ·by_cases hb:b=D
  ·subst hb;rw [zb] at e;cases e;exact ok
  ·rw [zi hb] at e;exact (I.hok b u e).stay (fun c v _ q=>q) (fun c q=>by rw [zi (ne c _ q)]; exact q) fun c xs q=>by rw [zi (ne c _ q)]; exact q
def cGo (g:TG) (ts:TT) (te:TE) (σ0:St) (J:It) (Q:VK) (H1:Hp):Prop :=
 ∃ W:Nat→Nat→List V→Hp→Prop,(∃ m,W 0 m [] H1)∧∀ i m ys H,W i m ys H →
  (J.stop i H∧∀ D,H D=none→Q (.ref D) (l7 H D (.lst ys))) ∨
  (J.go i H∧∃ N:List V→Hp→Prop,(∀ pS H',N pS H'→∃ m',m' < m∧W (i+1) m' pS H')∧∀ x H',J.yld i H x H'→g x σ0 H' fun σ2 H2=>ts σ2 H2 fun b H3 =>
   if b=true then te σ2 H3 fun y H4=>ys.length < sizeLine∧N (ys++[y]) H4 else N ys H3)
def zlQ (ix:List (Option Nat)) (wi:TI) (g:TG) (ts:TT) (te:TE):TE:=fun σ H Q=>wi σ H fun J H1=>cGo g ts te (zcm ix σ) J Q H1
theorem zhb {J:It} {n:Nat} {g:TG} {ts:TT} {te:TE} {σ0:St} {Q:VK} {H:Hp} (Pv:Nat→List V→Hp→Prop) (h0:Pv 0 [] H) (ua:∀ i ys H,i < n→Pv i ys H→J.go i H) (n9:∀ ys H,Pv n ys H→J.stop n H)
  (hs:∀ i x ys H H',i < n→Pv i ys H→J.yld i H x H'→g x σ0 H' fun σ2 H2=>ts σ2 H2 fun b H3=>if b=true then te σ2 H3 fun y H4=>ys.length < sizeLine∧Pv (i+1) (ys++[y]) H4 else Pv (i+1) ys H3)
  (hd:∀ ys H D,Pv n ys H→H D=none→Q (.ref D) (l7 H D (.lst ys))):cGo g ts te σ0 J Q H:=by
 refine⟨fun i m ys H=>m=n - i∧i≤n∧Pv i ys H,⟨n,#[M],bi _,h0⟩,?_⟩;rintro i m ys H ⟨rfl,hi,p⟩;by_cases ml:i < n
 ·exact .inr ⟨ua i ys H ml p,Pv (i+1),fun pS H' p'=>⟨n - (i+1),#[O],rfl,ml,p'⟩,fun x H' y=>hs i x ys H H' ml p y⟩
 ·have e:i=n:=by lia
  subst e;exact .inl ⟨n9 ys H p,fun D hD=>hd ys H D p hD⟩
theorem zmm {J:It} {n:Nat} {g:TG} {tb:TS} {D:Ends} {σ:St} {H:Hp} (Pv:Nat→St→Hp→Prop) (h0:Pv 0 σ H) (ua:∀ i σ H,i < n→Pv i σ H→J.go i H) (n9:∀ σ H,Pv n σ H→J.stop n H)
  (hs:∀ i x σ H H',i < n→Pv i σ H→J.yld i H x H'→g x σ H' fun σ2 H2=>tb { D with nx:=Pv (i+1),ct:=Pv (i+1),bk:=D.nx } σ2 H2) (hd:∀ σ H,Pv n σ H→D.nx σ H) :
  ∃ W:Nat→Nat→St→Hp→Prop,(∃ m,W 0 m σ H)∧∀ i m σ H,W i m σ H →
   (J.stop i H∧D.nx σ H)∨(J.go i H∧∃ N:St→Hp→Prop,(∀ σ' H',N σ' H'→∃ m',m' < m∧W (i+1) m' σ' H')∧∀ x H',J.yld i H x H'→g x σ H' fun σ2 H2=>tb { D with nx:=N,ct:=N,bk:=D.nx } σ2 H2):=by
 refine⟨fun i m σ H=>m=n - i∧i≤n∧Pv i σ H,⟨n,#[M],bi _,h0⟩,?_⟩;rintro i m σ H ⟨rfl,hi,p⟩;by_cases ml:i < n
 ·exact .inr ⟨ua i σ H ml p,Pv (i+1),fun σ' H' p'=>⟨n - (i+1),#[O],rfl,ml,p'⟩,fun x H' y=>hs i x σ H H' ml p y⟩
 ·have e:i=n:=by lia
  subst e;exact .inl ⟨n9 σ H p,hd σ H p⟩
end L2
end
section
namespace L2
open PySem
abbrev Lp (J:It) (g:TG) (tb:TS) (D:Ends) (σ:St) (H:Hp):Prop:=∃ W:Nat→Nat→St→Hp→Prop,(∃ m,W 0 m σ H)∧∀ i m σ H,W i m σ H→(J.stop i H∧D.nx σ H)∨(J.go i H∧∃ N:St→Hp→Prop,(∀ σ' H',N σ' H'→∃ m',m' < m∧W (i+1) m' σ' H')∧∀ x H',J.yld i H x H'→g x σ H' fun σ2 H2=>tb { D with nx:=N,ct:=N,bk:=D.nx } σ2 H2)
abbrev Ends.l (D:Ends) (Pv:Nat→St→Hp→Prop) (i:Nat):Ends:={ D with nx:=Pv (i+1),ct:=Pv (i+1),bk:=D.nx }
section
variable {g:TG} {tb:TS} {D:Ends} {σ:St} {H:Hp} (Pv:Nat→St→Hp→Prop) {n:Nat} {K:ag} {a:Addr} {xs:List V}
theorem zhc {J:It} (h0:Pv 0 σ H) (ua:∀ i σ H,i < n→Pv i σ H→J.go i H) (n9:∀ σ H,Pv n σ H→J.stop n H) (hs:let N:=D.l Pv; let T:=tb; ∀ i x σ H H',i < n→Pv i σ H→J.yld i H x H'→g x σ H' (T (N i))) (hd:∀ σ H,Pv n σ H→D.nx σ H):Lp J g tb D σ H:=zmm Pv h0 ua n9 hs hd
theorem zaZ (h0:Pv 0 σ H) (hl:∀ i σ H,i≤xs.length→Pv i σ H→l8 K H a xs) (hs:let N:=D.l Pv; let T:=tb; ∀ i x σ H,xs[i]? = some x→Pv i σ H→g x σ H (T (N i))) (hd:∀ σ H,Pv xs.length σ H→D.nx σ H):Lp (Itl K a) g tb D σ H:=zjd Pv h0 hl hs hd
theorem zjr (h0:Pv 0 σ H) (hl:∀ i σ H,i≤xs.length→Pv i σ H→mj K H a xs) (hs:let N:=D.l Pv; let T:=tb; ∀ i x σ H,xs[i]? = some x→Pv i σ H→g x σ H (T (N i))) (hd:∀ σ H,Pv xs.length σ H→D.nx σ H):Lp (Itt K a) g tb D σ H:=zkO Pv h0 hl hs hd
theorem zar {lo:Int} (h0:Pv 0 σ H) (hs:let N:=D.l Pv; let T:=tb; ∀ i σ H,i < n→Pv i σ H→g (.int (lo+i)) σ H (T (N i))) (hd:∀ σ H,Pv n σ H→D.nx σ H):Lp (Itr lo n) g tb D σ H:=zh0 Pv h0 hs hd
end
theorem zai {J:It} {n:Nat} {g:TG} {ts:TT} {te:TE} {σ0:St} {Q:VK} {H:Hp} (Pv:Nat→List V→Hp→Prop) (h0:Pv 0 [] H) (ua:∀ i ys H,i < n→Pv i ys H→J.go i H) (n9:∀ ys H,Pv n ys H→J.stop n H)
  (hs:let S:=σ0; let T:=ts; let E:=te; ∀ i x ys H H',i < n→Pv i ys H→J.yld i H x H'→g x S H' fun σ2 H2=>T σ2 H2 fun b H3=>if b=true then E σ2 H3 fun y H4=>ys.length < sizeLine∧Pv (i+1) (ys++[y]) H4 else Pv (i+1) ys H3)
  (hd:∀ ys H D,Pv n ys H→H D=none→Q (.ref D) (l7 H D (.lst ys))):cGo g ts te σ0 J Q H:=zhb Pv h0 ua n9 hs hd
end L2
end
section
namespace L2
end L2
end
section
namespace L2
open PySem PySem.Spec PyProof.Rows
abbrev TM:=List V→St→Hp→(List V→Hp→Prop)→Prop
abbrev zc5 (lY:List Value) (nn:Nat):Obj:={ cls:=.type "list",data:=.seq lY.toArray nn }
structure AccAt (Y:Cx) (lX:List (Addr×Obj)) (H:Hp) (s:Shared) (D:Addr) (ys:List V) (lY:List Value) (nn:Nat):Prop where
 fp:zbL Y lX H D
 here:s.heap.get? D=some (zc5 lY nn)
 vals:zA ys lY
 len:ys.length≤sizeLine
def zeQ (js:List Nat) (σ:St):Prop:=∀ j∈js,∀ v,σ[j]?≠some (some v)
def Kp (js:List Nat) (σ σ2:St):Prop:=σ2.length=σ.length∧∀ j,j∉js→σ2[j]? = σ[j]?
theorem Kp.refl {js:List Nat} {σ:St}:Kp js σ σ:=⟨rfl,fun _ _=>rfl⟩
theorem Kp.set {js:List Nat} {σ σ2:St} {i:Nat} {v:Option V} (hi:i∈js) (h:Kp js σ σ2):Kp js σ (σ2.set i v):=by
 refine⟨by rw [List.length_set]; exact h.1,fun j hj=>?_⟩;rw [eC (fun z=>hj (by rw [← z]; exact hi))];exact h.2 j hj
def GS (js:List Nat) (g:TG):Prop:=∀ (σ σ1:St) (x:V) (H:Hp) (Q:St→Hp→Prop),Kp js σ σ1→g x σ1 H Q→g x σ1 H fun σ2 H2=>Kp js σ σ2∧Q σ2 H2
def GSs (js:List Nat) (g:TGs):Prop:=∀ (σ σ1:St) (xs:List V) (H:Hp) (Q:St→Hp→Prop),Kp js σ σ1→g xs σ1 H Q→g xs σ1 H fun σ2 H2=>Kp js σ σ2∧Q σ2 H2
theorem zhd {js:List Nat} {i:Nat} (hi:i∈js):GS js (zaB i):=fun σ σ1 x H Q hw h=>⟨hw.set hi,h⟩
theorem zhe {js:List Nat}:GSs js zkN:=fun σ σ1 xs H Q hw h=>⟨h.1,hw,h.2⟩
theorem zdq {js:List Nat} {i:Nat} {u:TGs} (hi:i∈js) (h2:GSs js u):GSs js (zfl (zaB i) u):=fun σ σ1 xs H Q hw h=>by
 obtain⟨v,r,e,h⟩:=h;exact⟨v,r,e,h2 σ _ r H Q (hw.set hi) h⟩
theorem zjs {js:List Nat} {K:ag} {n:Nat} {t:TGs} (h:GSs js t):GS js (zjb K n t):=fun σ σ1 x H Q hw hg=>by
 obtain⟨a,xs,e,hq,hl,hg⟩:=hg;exact⟨a,xs,e,hq,hl,h σ σ1 xs H Q hw hg⟩
theorem Inv.fewer {X:Cx} {lX n8:List (Addr×Obj)} {σ:St} {H:Hp} {s:Shared} (I:Inv X lX σ H s) (h:∀ p∈n8,p∈lX):Inv X n8 σ H s :=
 I.pins_of fun p hp=>I.pin p (aw _ (h p hp))
section
variable {Y:Cx} {lX:List (Addr×Obj)} {σ:St} {H:Hp} {s:Shared} {D:Addr} {ys:List V} {lY:List Value} {nn:Nat}
theorem AccAt.pin (a:AccAt Y lX H s D ys lY nn) (I:Inv Y lX σ H s):Inv Y (lX++[(D,zc5 lY nn)]) σ H s :=
 I.pins_of fun p hp=>by
  rcases (aR.mp hp) with hp | hp
  ·exact I.pin p (aw _ hp)
  ·obtain rfl:p=(D,zc5 lY nn):=by simpa using hp
   obtain⟨a0,a1,a2,_⟩:=a.fp;exact⟨a.here,a0,a1,a2,fun v z=>by cases z⟩
theorem AccAt.back {n8:List (Addr×Obj)} {σ':St} {H':Hp} {s':Shared} (a:AccAt Y lX H s D ys lY nn) (I:Inv Y n8 σ' H' s') (hm:(D,zc5 lY nn)∈n8):AccAt Y lX H' s' D ys lY nn:=by
 have p:=I.pin (D,zc5 lY nn) (aw _ hm);exact⟨⟨p.2.1,a.fp.2⟩,p.1,a.vals,a.len⟩
end
def PM (Y:Cx) (D:Addr) (js:List Nat) (mk:Sem Fin→Sem Fin) (tm:TM):Prop :=
 ∀ (last:Sem Fin) (lX:List (Addr×Obj)) (s:Shared) (σ:St) (H:Hp) (ys:List V) (lY:List Value) (nn:Nat) (Q:List V→Hp→Prop) (Φ:Fin→Shared→Prop),Inv Y lX σ H s→AccAt Y lX H s D ys lY nn→zeQ js σ→tm ys σ H Q →
  (∀ (s':Shared) (pS:List V) (its':List Value) (ve:Nat) (H':Hp),Inv Y lX σ H' s'→AccAt Y lX H' s' D pS its' ve→Q pS H'→wpAny (model Y.prog Y.w) Y.A last Φ (fun _ _=>False) s') →
  wpAny (model Y.prog Y.w) Y.A (mk last) Φ (fun _ _=>False) s
def zep (elt:Expr) (acc:Value) (env:Env) (last:Sem Fin):Sem Fin:=(eval elt env >>= fun x=>call (.builtin "list.append") [acc,x] >>= fun _=>pure ()) >>= fun _=>last
def zhf (e iter:Expr) (d:Nat) (acc:Value) (env:Env) (last:Sem Fin):Sem Fin :=
 eval iter env >>= fun x=>standAt iter.pos >>= fun _=>foldedSetIterable iter env x >>= fun x=>holding [x] (pyIter x) >>= fun u6=>runOwn (.compStart e d u6 acc env) env >>= fun _=>last
def zjt (te:TE):TM:=fun ys σ H Q=>te σ H fun y H4=>ys.length < sizeLine∧Q (ys++[y]) H4
def cIn (g:TG) (ts:TT) (tm:TM) (σ:St) (J:It) (Q:List V→Hp→Prop) (ys:List V) (H1:Hp):Prop :=
 ∃ W:Nat→Nat→List V→Hp→Prop,(∃ m,W 0 m ys H1)∧∀ i m ys H,W i m ys H →
  (J.stop i H∧Q ys H) ∨
  (J.go i H∧∃ N:List V→Hp→Prop,(∀ pS H',N pS H'→∃ m',m' < m∧W (i+1) m' pS H')∧∀ x H',J.yld i H x H'→g x σ H' fun σ2 H2=>ts σ2 H2 fun b H3 =>
   if b=true then tm ys σ2 H3 N else N ys H3)
def zju (wi:TI) (g:TG) (ts:TT) (tm:TM):TM:=fun ys σ H Q=>wi σ H fun J H1=>cIn g ts tm σ J Q ys H1
def zgr (ix:List (Option Nat)) (wi:TI) (g:TG) (ts:TT) (tm:TM):TE:=fun σ H Q=>wi σ H fun J H1=>cIn g ts tm (zcm ix σ) J (fun ys H'=>∀ D,H' D=none→Q (.ref D) (l7 H' D (.lst ys))) [] H1
theorem thx {α:Type} {X:Cx} {m:Sem α} {P Q:α→Shared→Prop} {E:Value→Shared→Prop} {s:Shared} (hx:X.xe=fun _ _=>False) (h:wpAny (model X.prog X.w) X.A m P X.xe s) (k:∀ a s',P a s'→Q a s'):wpAny (model X.prog X.w) X.A m Q E s :=
 bE h k fun _ _ z=>by rw [hx] at z; exact z.elim
theorem zgs {Y:Cx} {D:Addr} {elt:Expr} {te:TE} (hx:Y.xe=fun _ _=>False) (he:PE Y elt te):PM Y D [] (zep elt (.ref D) Y.env) (zjt te):=by
 intro last lX s σ H ys lY nn Q Φ I a no h k;unfold zep;refine aa (aa (thx hx (he (lX++[(D,zc5 lY nn)]) s σ H _ (a.pin I) h) fun yv s1 ⟨y,H1,I1,r1,hz,q1⟩=>aa ?_));have a1:=a.back I1 (aw _ ao);have J1:Inv Y lX σ H1 s1:=I1.fewer fun p hp=>aI _ hp
 have Ar:=a1.vals.length;refine ff jP ⟨_,a1.here,rfl⟩ jA (jh _ _) (kd D lY.toArray nn yv (by rw [aq]; lia)) ⟨a1.here,?_⟩;refine af ?_;have q:=kF a1.here (·.push yv);have k10:∀ b o,b≠D→s1.heap.get? b=some o→(s1.heap.update D (bS (·.push yv))).get? b=some o:=fun b o hb e=>(d7 s1.heap (bS (·.push yv)) (de hb)).trans e
 obtain⟨b0,b1,b2,b3,b4,b5⟩:=a1.fp;have I11:Inv Y lX σ H1 { s1 with heap:=s1.heap.update D (bS (·.push yv)) }:=J1.turned (t':=s1.toks) k10 b0 b1 b3 b4 b5;have e1:lY.toArray.push yv=(lY++[yv]).toArray:=by simp
 rw [e1] at q;refine k _ (ys++[y]) (lY++[yv]) _ H1 I11 ⟨a1.fp,q,a1.vals.append (.cons r1 .nil),?_⟩ q1;rw [aF,cD];lia
section
variable {Y:Cx} {D:Addr} {js js':List Nat} {elt:Expr} {gens:List Comprehension} {scope:Scope} {pos:Pos} {d:Nat} {tg:Expr} {ifs:List Expr} {p:Pos} {mk:Sem Fin→Sem Fin} {g:TG} {ts:TT} {tm:TM}
def zbv (tg:Expr) (ifs:List Expr) (p:Pos) (mk:Sem Fin→Sem Fin) (c:Code) (it:Value) (env:Env):Sem Fin :=
 standAt p >>= fun _=>pyNext it >>= fun r=>match r with
  | none=>pure (.done .next)
  | some v=>letOwnedTupleGo tg it v >>= fun _=>assign tg env v >>= fun _=>zgq ifs env >>= fun ok=>if ok=true then mk (again c) else again c
theorem zhg (hc:Y.calm=true) (hx:Y.xe=fun _ _=>False) (ub:GS js g) (ou:∀ j∈js,j∉js') (hg:PG Y tg g) (ht:zc4 Y ifs ts) (hm:PM Y D js' mk tm)
  (nH:∀ it,compTurn (.ListComp elt gens scope pos) d it (.ref D) Y.env=zbv tg ifs p mk (.compLoop (.ListComp elt gens scope pos) d it (.ref D) Y.env) it Y.env)
  {lX:List (Addr×Obj)} {σ:St} {H2:Hp} {s2:Shared} {it:Addr} {fp:List Addr} {tn:Nat→Heap→Prop} {J:It} {Q:List V→Hp→Prop} {R:Result→Shared→Prop} {ys:List V} {lY:List Value} {nn:Nat}
  (I2:Inv Y lX σ H2 s2) (a2:AccAt Y lX H2 s2 D ys lY nn) (no:zeQ (js++js') σ) (T:Turn Y.prog Y.w Y.K tg J fp it tn) (m6:tn 0 s2.heap) (f2:∀ b∈fp,zbL Y lX H2 b) (fD:∀ b∈fp,b≠D) (q:cIn g ts tm σ J Q ys H2)
  (hR:∀ (s':Shared) (pS:List V) (its':List Value) (ve:Nat) (H':Hp),Inv Y lX σ H' s'→AccAt Y lX H' s' D pS its' ve→Q pS H'→R (.ok .next) s') :
  codeAny (model Y.prog Y.w) Y.A (.compLoop (.ListComp elt gens scope pos) d (.ref it) (.ref D) Y.env) R s2:=by
 obtain⟨W,⟨m0,w0⟩,turn⟩:=q;have wo:∀ {H':Hp} {lY:List Value} {nn:Nat},(∀ b∈fp,H' b=none)→∀ b∈fp,zbL Y (lX++[(D,zc5 lY nn)]) H' b:=fun {H' lY nn} hn b hb=>by
  obtain⟨_,a1,a2,a3,a4,a5⟩:=f2 b hb;refine⟨hn b hb,a1,a2,a3,a4,fun p hp=>?_⟩;rcases (aR.mp hp) with hp | hp
  ·exact a5 p (aI _ hp)
  ·rcases (aR.mp hp) with hp | hp
   ·exact a5 p (aw _ hp)
   ·obtain rfl:p=(D,zc5 lY nn):=by simpa using hp
    exact (fD b hb).symm
 refine codeAny_loop rfl (fun n s'=>∃ i ys H' lY nn,Inv Y lX σ H' s'∧tn i s'.heap∧(∀ b∈fp,H' b=none)∧AccAt Y lX H' s' D ys lY nn∧W i n ys H') ?_ m0
  ⟨0,ys,H2,lY,nn,I2,m6,fun b hb=>(f2 b hb).1,a2,w0⟩
 rintro n s5 ⟨i,ys,H5,lY,nn,I5,wj,fr5,a5,w5⟩;show wpAny _ Y.A ((compTurn (.ListComp elt gens scope pos) d (.ref it) (.ref D) Y.env).onRaise (fun x=>do noteFrame x Y.env; theTreesLotGoes x)) _ _ s5;refine wpAny_noted ?_;rw [nH];unfold zbv;have I5p:=a5.pin I5
 (refine aa (fI (aa ?_)))
 rcases turn i n ys H5 w5 with ⟨stop,qn⟩ | ⟨go,N,hN,step⟩
 ·refine bE (T.done Y rfl rfl rfl hc i _ s5 _ H5 (fun _ _=>False) I5p (wo fr5) wj stop) (fun r s6 ⟨hr,I6⟩=>?_) fun _ _ z=>z.elim
  subst hr;exact af (hR s6 ys lY nn H5 (I6.fewer fun p hp=>aI _ hp) (a5.back I6 (aw _ ao)) qn)
 ·refine bE (T.item Y rfl rfl rfl hc i _ s5 _ H5 (fun _ _=>False) I5p (wo fr5) wj go) (fun r s6 ⟨u,hr,h6⟩=>?_) fun _ _ z=>z.elim
  subst hr;refine aa (bE h6 (fun _ s7 ⟨x,H7,I7,r7,y7,As,fr7⟩=>?_) fun _ _ z=>z.elim);have I7':=I7.pinned (wo fr7) (T.obj _ _ As);refine aa (thx hx (hg _ s7 _ H7 x u _ I7' r7 (ub σ σ x H7 _ Kp.refl (step x H7 y7))) fun _ s8 ⟨σ8,H8,I8,kp,q8⟩=>?_);refine aa (thx hx (ht _ s8 σ8 H8 _ I8 q8) fun ok s9 ⟨H9,I9,q9⟩=>?_);have mD:(D,zc5 lY nn)∈(lX++[(D,zc5 lY nn)])++zbM fp s7.heap:=aI _ (aw _ ao);have a9:=a5.back I9 mD;have K9:Inv Y (lX++zbM fp s7.heap) σ8 H9 s9:=I9.fewer fun p hp=>(aR.mp hp).elim (fun z=>aI _ (aI _ z)) fun z=>aw _ z
  have wk:∀ (j:Nat) v,σ[j]? = some (some v)→σ8[j]? = some (some v):=fun j v e=>by
   have hj:j∉js:=fun z=>no j (aI _ z) v e
   rw [kp.2 j hj];exact e
  have back:∀ {H':Hp} {s':Shared},Inv Y (lX++zbM fp s7.heap) σ8 H' s'→Inv Y lX σ H' s'∧tn (i+1) s'.heap∧∀ b∈fp,H' b=none:=fun {H' s'} I'=>by
   refine⟨(I'.fewer fun p hp=>aI _ hp).weak kp.1.symm wk,T.keep _ _ _ As fun b hb o e=>(I'.pin (b,o) (aw _ (aw _ (zbu hb e)))).1,fun b hb=>?_⟩;obtain⟨o,e,d⟩:=T.obj _ _ As b hb;exact (I'.pin (b,o) (aw _ (aw _ (zbu hb e)))).2.1
  cases ok with
  | false =>
   rw [if_neg aM] at q9 ⊢;obtain⟨m',uc,w9⟩:=hN _ _ q9;obtain⟨b1,b2,b3⟩:=back K9;exact af ⟨rfl,m',uc,i+1,ys,H9,lY,nn,b1,b2,b3,a9,w9⟩
  | true =>
   rw [if_pos rfl] at q9 ⊢;have a9':AccAt Y (lX++zbM fp s7.heap) H9 s9 D ys lY nn:=by
    obtain⟨b0,b1,b2,b3,b4,b5⟩:=a9.fp;refine⟨⟨b0,b1,b2,b3,b4,fun p hp=>?_⟩,a9.here,a9.vals,a9.len⟩;rcases (aR.mp hp) with hp | hp
    ·exact b5 p (aI _ hp)
    ·rcases (aR.mp hp) with hp | hp
     ·exact b5 p (aw _ hp)
     ·exact fD _ (zee hp).1
   have no':zeQ js' σ8:=fun j hj v e=>by
    have nN:j∉js:=fun z=>ou j z hj
    rw [kp.2 j nN] at e;exact no j (aw _ hj) v e
   refine bE (hm (again _) _ s9 σ8 H9 ys lY nn N (fun fin s'=>match fin with | .done f=>R (.ok f) s' | .again c'=>c'=_∧∃ m,m < n∧_) K9 a9' no' q9 fun s' pS its' ve H' I' a' n'=>?_) (fun _ _ z=>z) fun _ _ z=>z.elim
   obtain⟨m',uc,w'⟩:=hN _ _ n';obtain⟨b1,b2,b3⟩:=back I';obtain⟨c0,c1,c2,c3,c4,c5⟩:=a'.fp;refine af ⟨rfl,m',uc,i+1,pS,H',its',ve,b1,b2,b3,⟨⟨c0,c1,c2,c3,c4,fun p hp=>?_⟩,a'.here,a'.vals,a'.len⟩,w'⟩;rcases (aR.mp hp) with hp | hp
   ·exact c5 p (aI _ hp)
   ·exact c5 p (aw _ (aI _ hp))
theorem zfx {prog:Program} {w:World} {A:Around} {R:Result→Shared→Prop} {s:Shared} {iter:Expr} {it acc:Value} {env:Env} (hd:gens[d]? = some ⟨tg,iter,ifs,0⟩)
  (h0:codeAny (model prog w) A (.compLoop (.ListComp elt gens scope pos) d it acc env) R s)
  (h:wpAny (model prog w) A (pyIter it) (fun Au s'=>codeAny (model prog w) A (.compLoop (.ListComp elt gens scope pos) d Au acc env) R s') (fun _ _=>False) s) :
  codeAny (model prog w) A (.compStart (.ListComp elt gens scope pos) d it acc env) R s:=by
 refine iz ?_;show wpAny _ _ ((compStart (.ListComp elt gens scope pos) d it acc env).onRaise (fun x=>do noteFrame x env; standAt theWindowsPlace)) _ _ s;refine wpAny_notedAt ?_;unfold compStart;have e1:(clausesOf (.ListComp elt gens scope pos))[d]? = some ⟨tg,iter,ifs,0⟩:=hd;rw [e1]
 (show wpAny _ _ (ask >>= _) _ _ s)
 (refine aa (fM (wpAny_ite ?_)))
 split
 ·first
   | (exact aa (af (af ⟨rfl,h0⟩)))
   | (exact af ⟨rfl,h0⟩)
 ·first
   | exact aa (cU (aa (fI (aa (bE h (fun Au s' h'=>af (And.intro rfl h')) fun _ _ x=>x.elim)))))
   | (refine aa (cU ?_); show wpAny _ _ (standAt iter.pos >>= _) _ _ s; exact aa (fI (aa (bE h (fun Au s' h'=>af (And.intro rfl h')) fun _ _ x=>x.elim))))
theorem zmn {iter:Expr} {wi:TI} (hc:Y.calm=true) (hx:Y.xe=fun _ _=>False) (ub:GS js g) (ou:∀ j∈js,j∉js') (hi:PI Y tg iter wi) (hg:PG Y tg g) (ht:zc4 Y ifs ts) (hm:PM Y D js' mk tm) (hd:gens[d]? = some ⟨tg,iter,ifs,0⟩)
  (nH:∀ it,compTurn (.ListComp elt gens scope pos) d it (.ref D) Y.env=zbv tg ifs p mk (.compLoop (.ListComp elt gens scope pos) d it (.ref D) Y.env) it Y.env)
  (hs:∀ x,foldedSetIterable iter Y.env x=pure x:=by intro _; rfl) :
  PM Y D (js++js') (zhf (.ListComp elt gens scope pos) iter d (.ref D) Y.env) (zju wi g ts tm):=by
 intro last lX s σ H ys lY nn Q Φ I a no h k;unfold zhf;refine aa (thx hx (hi (lX++[(D,zc5 lY nn)]) s σ H _ (a.pin I) h) fun v s1 h1=>aa (fI (aa ?_)));rw [hs v];refine af (aa (bD (thx hx h1 fun u6 s2 h2=>?_)));obtain⟨it,fp,tn,J,H2,e,I2,T,m6,f2,q⟩:=h2;subst e;have a2:=a.back I2 (aw _ ao);have J2:Inv Y lX σ H2 s2:=I2.fewer fun p hp=>aI _ hp
 have Av:∀ b∈fp,zbL Y lX H2 b:=fun b hb=>by
  obtain⟨c0,c1,c2,c3,c4,c5⟩:=f2 b hb;refine⟨c0,c1,c2,c3,c4,fun p hp=>?_⟩;rcases (aR.mp hp) with hp | hp
  ·exact c5 p (aI _ hp)
  ·exact c5 p (aw _ (aI _ hp))
 have fD:∀ b∈fp,b≠D:=fun b hb=>((f2 b hb).2.2.2.2.2 (D,zc5 lY nn) (aw _ (aw _ ao))).symm
 have loop:codeAny (model Y.prog Y.w) Y.A (.compLoop (.ListComp elt gens scope pos) d (.ref it) (.ref D) Y.env) (fun r s'=>match r with | .ok f=>wpAny (model Y.prog Y.w) Y.A last Φ (fun _ _=>False) s' | .error e=>cameBackBy (model Y.prog Y.w) Y.A Y.env (fun _ _=>False) e s') s2 :=
  zhg hc hx ub ou hg ht hm nH J2 a2 no T m6 Av fD q fun s' pS its' ve H' I' a' q'=>k s' pS its' ve H' I' a' q'
 exact aa (wpAny_runOwn (zfx hd loop (T.self _ 0 _ _ _ m6 loop)))
end
section
variable {X:Cx} {elt tg iter:Expr} {ifs:List Expr} {gs:List Comprehension} {scope:Scope} {pos:Pos} {N':List Str} {ix:List (Option Nat)} {js js':List Nat} {g:TG} {ts:TT} {tm:TM} {mk:Addr→Env→Sem Fin→Sem Fin}
theorem zcW {lX:List (Addr×Obj)} {σ:St} {H2:Hp} {s2:Shared} {it:Addr} {fp:List Addr} {tn:Nat→Heap→Prop} {J:It} {Q:VK} {E:Value→Shared→Prop} {RR:Value→Addr→Result→Shared→Prop}
  (SC:CompSc X N' ix scope) (hc:X.calm=true) (ub:GS js g) (ou:∀ j∈js,j∉js') (ud:∀ j∈js++js',ix[j]? = some none)
  (hg:∀ s₃ H₃ ex lX,PG (zB X N' scope s₃ H₃ ex lX) tg g) (ht:∀ s₃ H₃ ex lX,zc4 (zB X N' scope s₃ H₃ ex lX) ifs ts) (hm:∀ s₃ H₃ ex lX D,PM (zB X N' scope s₃ H₃ ex lX) D js' (mk D (zB X N' scope s₃ H₃ ex lX).env) tm)
  (nH:∀ it D env,compTurn (.ListComp elt (⟨tg,iter,ifs,0⟩ :: gs) scope pos) 0 it (.ref D) env=zbv tg ifs iter.pos (mk D env) (.compLoop (.ListComp elt (⟨tg,iter,ifs,0⟩ :: gs) scope pos) 0 it (.ref D) env) it env)
  (I2:Inv X lX σ H2 s2) (T:Turn X.prog X.w X.K tg J fp it tn) (m6:tn 0 s2.heap) (f2:∀ b∈fp,zbL X lX H2 b) (q:cIn g ts tm (zcm ix σ) J (fun ys H'=>∀ D,H' D=none→Q (.ref D) (l7 H' D (.lst ys))) [] H2)
  (hRR:∀ (D C:Addr) (s':Shared) (ys:List V) (H':Hp) (m:Str→Option Value),Inv X lX σ (l7 H' D (.lst ys)) s'→zbL X lX (l7 H' D (.lst ys)) C→s'.heap.Ns C m→Q (.ref D) (l7 H' D (.lst ys))→RR (.ref D) C (.ok .next) s') :
  wpAny (model X.prog X.w) X.A (newList []) (fun acc s₃=>wpAny (model X.prog X.w) X.A (newFunctionEnv scope X.env.globals (zR X.env.cells scope.names []) [] X.env.qual none .none (some X.env)) (fun xa s₄ =>
   codeAny (model X.prog X.w) X.A (.compStart (.ListComp elt (⟨tg,iter,ifs,0⟩ :: gs) scope pos) 0 (.ref it) acc { xa with scope:=relabel scope X.env }) (RR acc xa.locals) s₄) E s₃) E s2:=by
 have vf:∀ y∈scope.names,y.2 = .free→∃ c,X.env.cells.lookup y.1=some c:=fun y hy hf=>I2.ok.has y.1 (SC.free y hy hf)
 have pd:∀ x c,(zR X.env.cells scope.names []).lookup x=some c→X.env.cells.lookup x=some c:=zaL scope.names [] vf (fun x c e=>by simp at e);refine bM (zh6 ?_);have I3:Inv X lX σ H2 { s2 with heap:=s2.heap.push { cls:=.type "list",dict:=none,data:=.seq ([]:List Value).toArray } }:=I2.kept (t':=s2.toks) fun b o e=>aj _ e
 have hD3:(s2.heap.push { cls:=.type "list",dict:=none,data:=.seq ([]:List Value).toArray }).get? s2.heap.objs.size=some { cls:=.type "list",dict:=none,data:=.seq ([]:List Value).toArray }:=aB _ rfl;have xb:tn 0 (s2.heap.push { cls:=.type "list",dict:=none,data:=.seq ([]:List Value).toArray }):=T.keep _ _ _ m6 fun b hb o e=>aj _ e
 have xf:(s2.heap.push { cls:=.type "list",dict:=none,data:=.seq ([]:List Value).toArray }).objs.size=s2.heap.objs.size+1:=bP _ _;generalize hh3:s2.heap.push { cls:=.type "list",dict:=none,data:=.seq ([]:List Value).toArray }=h3 at *;have Aw:=T.obj _ _ m6;have uJ:∀ b∈fp,b < s2.heap.objs.size:=fun b hb=>by obtain⟨o,e,_⟩:=Aw b hb; exact av e
 have stk:∀ b∈frs X.stack,b=X.env.locals∨b∈X.fs:=fun b hb=>au.mp (I2.stkSub b hb)
 have xg:zbL X lX H2 s2.heap.objs.size:=I2.fpOk (ah _) I2.fresh;have rn:∀ b∈s2.heap.objs.size :: fp,zbL X lX H2 b:=fun b hb=>by
  rcases (au.mp hb) with e | hb
  ·rw [e]; exact xg
  ·exact f2 b hb
 have vg:∀ b∈s2.heap.objs.size :: fp,b < h3.objs.size:=fun b hb=>by
  rw [xf];rcases (au.mp hb) with e | hb; · rw [e]; exact fN _
  ·exact cN (uJ b hb)
 have uK:∀ b∈s2.heap.objs.size :: fp,b∉frs X.stack:=fun b hb z=>by
  obtain⟨_,a1,a2,_⟩:=rn b hb;rcases stk b z with e | e
  ·exact a1 e
  ·exact a2 e
 have hns₁:(pushCells (h3.push { cls:=.type "dict",data:=.dict #[] }) scope.names).Ns h3.objs.size (fun _=>none):=(Heap.Ns.new h3 (.type "dict")).keeps (pushCells_keeps _ _);have old:∀ b o,h3.get? b=some o→(pushCells (h3.push { cls:=.type "dict",data:=.dict #[] }) scope.names).get? b=some o:=fun b o e=>pushCells_keeps _ _ b o (aj _ e)
 have Ax:∀ x c,X.env.cells.lookup x=some c→c < h3.objs.size:=fun x c e=>by
  obtain⟨v,q⟩:=I3.cell x c e;exact q.lt
 have co:CO (pushCells (h3.push { cls:=.type "dict",data:=.dict #[] }) scope.names) (h3.objs.size+1) (zR X.env.cells scope.names []) (cellsFrom (h3.objs.size+1) scope.names (zR X.env.cells scope.names [])):=by
  have:=zjq (lo:=h3.objs.size+1) (old:=zR X.env.cells scope.names []) scope.names (h3.push { cls:=.type "dict",data:=.dict #[] }) (zR X.env.cells scope.names [])
   ⟨fun x c e=>.inr ⟨e,cN (Ax x c (pd x c e))⟩,fun x y c e1 e2=>I2.ok.inj x y c (pd x c e1) (pd y c e2)⟩ (by rw [bP]; exact ah _)
  rw [bP] at this;exact this
 generalize pushCells (h3.push { cls:=.type "dict",data:=.dict #[] }) scope.names=h₁ at hns₁ old co ⊢;have Ay:∀ {x c},(cellsFrom (h3.objs.size+1) scope.names (zR X.env.cells scope.names [])).lookup x=some c→(h₁.IsCell c none∧h3.objs.size+1≤c)∨X.env.cells.lookup x=some c:=fun {x c} e=>(co.each x c e).elim .inl fun z=>.inr (pd x c z.1)
 have cfr:∀ x,scope.names.lookup x=some .free→(cellsFrom (h3.objs.size+1) scope.names (zR X.env.cells scope.names [])).lookup x=(zR X.env.cells scope.names []).lookup x:=fun x hx=>zeO _ _ _ _ fun z=>by
  have:=SC.cells _ z rfl;rw [hx] at this;cases this
 let s3:Shared:={ s2 with heap:=h3 }
 let Y:Cx:=zB X N' scope s3 H2 (s2.heap.objs.size :: fp) lX
 have sy:Inv X lX σ H2 s3:=I3;have okY:Y.Ok:=by
  refine⟨I2.ok.mod,SC.kind,I2.ok.glob,I2.ok.blt,ah _,co.inj,fun x hx=>?_,fun x c z e=>?_,I2.ok.hd,I2.ok.frames,.inl rfl,fun b hb=>?_,fun b o e=>sy.bs b o e,?_,fun b o e hb=>?_,uK,sy.stack,sy.stkFree⟩
  ·have pM:=zcl (env:=X.env) (names:=scope.names) (x:=x) hx;rcases pM with pM | pM
   ·obtain⟨c,e⟩:=za2 (cs:=X.env.cells) scope.names [] x (.inr (lookup_mem pM));exact⟨c,(cfr x pM).trans e⟩
   ·obtain⟨c,e,_⟩:=zeP scope.names (h3.objs.size+1) (zR X.env.cells scope.names []) x (lookup_mem pM);exact⟨c,e⟩
  ·obtain⟨c',e',l'⟩:=zeP scope.names (h3.objs.size+1) (zR X.env.cells scope.names []) x (lookup_mem (by have z':(scope.names.lookup x == some cT)=true:=z; simpa using z'));have e2:(cellsFrom (h3.objs.size+1) scope.names (zR X.env.cells scope.names [])).lookup x=some c:=e;rw [e'] at e2;cases e2;exact gR l'
  ·refine⟨aL (vg b hb),fun x c e=>(Ay e).elim (fun z y=>?_) fun z=>(rn b hb).2.2.2.2.1 x c z⟩;subst y;exact cn _ (aJ (vg _ hb) (gR z.2))
  ·exact bg I2.ok.bsz sy.sz
  ·obtain⟨_,_,_,a3,_⟩:=rn b hb;rcases a3 with z | z
   ·exact I2.ok.noex b o e z
   ·have:=(I2.ok.bs b o e).1;exact absurd (aJ (av this) z) (cn _)
 have Az:Inv Y [] (zcm ix σ) H2 { s3 with heap:=h₁ }:=by
  refine⟨okY,rfl,I2.bare,Un.kept old,⟨_,hns₁,fun j x v e1 e2 e3=>?_⟩,fun x c e=>?_,sy.fresh,fun x c e=>(Ay e).elim (fun z=>sy.hok.fresh (gR z.2)) fun z=>I2.freeC x c z,fun p hp=>?_,sy.hok.kept old,?_⟩
  ·unfold zcm at e2;rw [az] at e2;cases hj:ix[j]? with
   | none=>rw [hj] at e2; simp at e2
   | some oi =>
    rw [hj] at e2;cases oi with
    | none=>simp at e2
    | some i =>
     obtain⟨y,h1,h2,yJ⟩:=SC.cap j i hj;have hxy:y=x:=by
      have e1':N'[j]? = some x:=e1;rw [h1] at e1';exact aX e1'
     subst hxy;have vh:(σ[i]?).join=some v:=by simpa using e2
     have AA:σ[i]? = some (some v):=by
      cases hs:σ[i]? with
      | none=>rw [hs] at vh; simp at vh
      | some w=>rw [hs] at vh; simp at vh; rw [vh]
     obtain⟨m,hn,hl⟩:=sy.loc;have hk:=SC.free (y,.free) (lookup_mem yJ) rfl;have AB:Vis X.env.scope y:=hk.elim (fun z=>.inr (.inl z)) fun z=>.inr (.inr z)
     obtain⟨u,r,l⟩:=hl i y v h2 AA AB;refine⟨u,r,.inr ⟨zaS yJ,?_⟩⟩;obtain⟨c,nG⟩:=za2 (cs:=X.env.cells) scope.names [] y (.inr (lookup_mem yJ));refine⟨c,(cfr y yJ).trans nG,?_⟩;rcases l with ⟨pL,_⟩ | ⟨_,c',mG,nv⟩
     ·rcases hk with hk | hk
      ·have pe:X.env.kindOf y=some .cell:=hk;rw [pe] at pL; cases pL
      ·have pe:X.env.kindOf y=some .free:=hk;rw [pe] at pL; cases pL
     ·have:=pd y c nG;rw [mG] at this;cases this;obtain⟨o,ho,hd⟩:=nv;exact⟨o,old _ _ ho,hd⟩
  ·rcases Ay e with z | z
   ·exact⟨_,z.1⟩
   ·obtain⟨v,o,ho,hd⟩:=sy.cell x c z;exact⟨v,o,old _ _ ho,hd⟩
  ·have qU:p∈X.pn++lX:=by
    have:p∈(X.pn++lX)++([]:List (Addr×Obj)):=hp;simpa using this
   obtain⟨a1,a2,a3,a4,a5⟩:=sy.pin p qU;exact⟨old _ _ a1,a2,aL (av a1),fun z=>(stk _ z).elim a3 a4,a5⟩
  ·unfold zcm;rw [ae];exact SC.len.symm
 have wo:∀ {H':Hp},(∀ b∈s2.heap.objs.size :: fp,H' b=none)→∀ b∈s2.heap.objs.size :: fp,zbL Y [] H' b:=fun {H'} hn b hb=>by
  obtain⟨_,a1,a2,a3,a4,a5⟩:=rn b hb;refine⟨hn b hb,aL (vg b hb),uK b hb,.inl hb,(okY.exf b hb).2,fun p hp=>?_⟩;have:p∈(X.pn++lX)++([]:List (Addr×Obj)):=hp;exact a5 p (by simpa using this)
 have nn2:∀ b∈s2.heap.objs.size :: fp,H2 b=none:=fun b hb=>(rn b hb).1
 have uI:zeQ (js++js') (zcm ix σ):=fun j hj v e=>by
  unfold zcm at e;rw [az,ud j hj] at e;simp at e
 have loop:∀ s₅:Shared,s₅ = { s2 with heap:=h₁ } →
   codeAny (model X.prog X.w) X.A (.compLoop (.ListComp elt (⟨tg,iter,ifs,0⟩ :: gs) scope pos) 0 (.ref it) (.ref s2.heap.objs.size) (compEnvC scope (cellsFrom (h3.objs.size+1) scope.names (zR X.env.cells scope.names [])) h3.objs.size X.env)) (RR (.ref s2.heap.objs.size) h3.objs.size) s₅:=by
  rintro s₅ rfl;refine zhg (Y:=Y) (lX:=[]) (σ:=zcm ix σ) (lY:=[]) (nn:=0) hc rfl ub ou (hg s3 H2 _ lX) (ht s3 H2 _ lX) (hm s3 H2 _ lX s2.heap.objs.size) (fun it=>nH it _ _) Az ⟨wo nn2 _ ao,old _ _ hD3,.nil,bi _⟩ uI T (T.keep _ _ _ xb fun b hb o e=>old b o e)
   (fun b hb=>wo nn2 b (ai _ hb)) (fun b hb=>aL (uJ b hb)) q fun s6 ys lY nn H5 I6 a6 qn=>?_
  have dn5:H5 s2.heap.objs.size=none:=a6.fp.1;have I7:Inv X lX σ H5 s6:=by
   refine sy.call' (s':=s6) (ch:=s2.heap.objs.size :: fp) I6.os I6.base I6.hok I6.bare fun b hb=>?_
   obtain⟨_,a1,a2,a3,a4,a5⟩:=rn b hb;exact⟨a3,a1,a4,a5⟩
  have I8:Inv X lX σ (l7 H5 s2.heap.objs.size (.lst ys)) s6:=by
   obtain⟨_,a1,a2,a3,a4,a5⟩:=xg;exact I7.track dn5 I2.sz (de a1) a4 a5 ⟨a6.len,lY,nn,a6.vals,a6.here⟩
  obtain⟨mm,AD,_⟩:=I6.loc;have dne:h3.objs.size≠s2.heap.objs.size:=by rw [xf]; exact kH _
  refine hRR _ _ s6 ys H5 mm I8 (sy.fpOk (H':=l7 H5 s2.heap.objs.size (.lst ys)) (ah _) ?_) AD (qn _ dn5);show l7 H5 s2.heap.objs.size (.lst ys) h3.objs.size=none;rw [zi dne];exact I6.free
 exact zfx rfl (loop _ rfl) (T.self _ 0 _ _ _ (T.keep _ _ _ xb fun b hb o e=>old b o e) (loop _ rfl))
theorem zjv {wi:TI} (SC:CompSc X N' ix scope) (hc:X.calm=true) (ub:GS js g) (ou:∀ j∈js,j∉js') (ud:∀ j∈js++js',ix[j]? = some none) (hi:PI X tg iter wi)
  (hg:∀ s₃ H₃ ex lX,PG (zB X N' scope s₃ H₃ ex lX) tg g) (ht:∀ s₃ H₃ ex lX,zc4 (zB X N' scope s₃ H₃ ex lX) ifs ts) (hm:∀ s₃ H₃ ex lX D,PM (zB X N' scope s₃ H₃ ex lX) D js' (mk D (zB X N' scope s₃ H₃ ex lX).env) tm)
  (nH:∀ it D env,compTurn (.ListComp elt (⟨tg,iter,ifs,0⟩ :: gs) scope pos) 0 it (.ref D) env=zbv tg ifs iter.pos (mk D env) (.compLoop (.ListComp elt (⟨tg,iter,ifs,0⟩ :: gs) scope pos) 0 it (.ref D) env) it env)
  (hs:∀ x,foldedSetIterable iter X.env x=pure x:=by intro _; rfl):PE X (.ListComp elt (⟨tg,iter,ifs,0⟩ :: gs) scope pos) (zgr ix wi g ts tm):=by
 intro lX s σ H Q I h;rw [eval_ListComp];have vf:∀ y∈scope.names,y.2 = .free→∃ c,X.env.cells.lookup y.1=some c:=fun y hy hf=>I.ok.has y.1 (SC.free y hy hf)
 refine hX (use:=none) rfl hs (zbf vf) SC.kind SC.names (thn (hi lX s σ H _ I h) fun v s1 h1=>thn h1 fun u6 s2 h2=>?_);obtain⟨it,fp,tn,J,H2,e,I2,T,m6,f2,q⟩:=h2;subst e;refine zcW (RR:=fun acc C=>compPost (model X.prog X.w) X.A X.xe none (EP X lX σ Q) acc C) SC hc ub ou ud hg ht hm nH I2 T m6 f2 q ?_;intro D C s' ys H' m I' AE hm q';refine⟨m,hm,fun AF qA=>⟨.ref D,_,?_,rfl,q'⟩⟩;obtain⟨f0,f1,Av,f3,f4,f5⟩:=AE;exact I'.turned (t':=s'.toks) (fun b o hb e=>qA.extBut b o hb e) f0 f1 f3 f4 f5
theorem zcX {wi:TI} {i:Nat} {x:Str} {pos' nI:Pos} (hN:X.N.Nodup) (tQ:X.N[i]? = some x) (hx:Loc X.env.scope x) (SC:CompSc X N' ix scope) (hc:X.calm=true) (ub:GS js g) (ou:∀ j∈js,j∉js') (ud:∀ j∈js++js',ix[j]? = some none) (hi:PI X tg iter wi)
  (hg:∀ s₃ H₃ ex lX,PG (zB X N' scope s₃ H₃ ex lX) tg g) (ht:∀ s₃ H₃ ex lX,zc4 (zB X N' scope s₃ H₃ ex lX) ifs ts) (hm:∀ s₃ H₃ ex lX D,PM (zB X N' scope s₃ H₃ ex lX) D js' (mk D (zB X N' scope s₃ H₃ ex lX).env) tm)
  (nH:∀ it D env,compTurn (.ListComp elt (⟨tg,iter,ifs,0⟩ :: gs) scope pos) 0 it (.ref D) env=zbv tg ifs iter.pos (mk D env) (.compLoop (.ListComp elt (⟨tg,iter,ifs,0⟩ :: gs) scope pos) 0 it (.ref D) env) it env)
  (xh:swapsWith (.ListComp elt (⟨tg,iter,ifs,0⟩ :: gs) scope pos) (some (.Name x pos')) nI.line X.env=pure true:=by rfl)
  (hs:∀ x,foldedSetIterable iter X.env x=pure x:=by intro _; rfl) (hf:X.fn x=true∨X.env.scope.names.lookup x=some .local:=by first | exact .inl rfl | exact .inr rfl | assumption) :
  PS X (.Assign [.Name x pos'] (.ListComp elt (⟨tg,iter,ifs,0⟩ :: gs) scope pos) nI) (zdY (zgr ix wi g ts tm) (zaB i)):=by
 intro lX s σ H D I h;have vf:∀ y∈scope.names,y.2 = .free→∃ c,X.env.cells.lookup y.1=some c:=fun y hy hf=>I.ok.has y.1 (SC.free y hy hf)
 rw [exec_Assign_Name_used _ _ _ _ xh]; refine aa (fI (aa ?_));show wpAny _ X.A (do let _ ← comprehension (.ListComp elt (⟨tg,iter,ifs,0⟩ :: gs) scope pos) scope X.env _ (newList []) false (eval iter X.env) (some (assign (.Name x pos') X.env))) _ _ s;refine aa (bE (hX (use:=some (assign (.Name x pos') X.env)) (Q:=fun _ s'=>SP X lX D .next s') rfl hs (zbf vf) SC.kind SC.names
  (thn (hi lX s σ H _ I h) fun v s1 h1=>thn h1 fun u6 s2 h2=>?_)) (fun _ s' hq=>af (af hq)) fun _ _ e=>e)
 obtain⟨it,fp,tn,J,H2,e,I2,T,m6,f2,q⟩:=h2;subst e;refine zcW (Q:=fun x H1=>zaB i x σ H1 D.nx) (RR:=fun acc C=>compPost (model X.prog X.w) X.A X.xe (some (assign (.Name x pos') X.env)) (fun _ s'=>SP X lX D .next s') acc C) SC hc ub ou ud hg ht hm nH I2 T m6 f2 q ?_;intro Da C s' ys H' m I' AE hm q';show wpAny _ X.A (assign (.Name x pos') X.env (.ref Da)) _ _ _;refine wpAny_assign_Name (zec I' hN tQ hx (show RelV (.ref Da) (.ref Da) from rfl) (fun t8 I'' ⟨a,qV,ha⟩=>?_) hf);obtain⟨f0,f1,Av,f3,f4,f5⟩:=AE;have hCa:C≠a:=by
  rcases ha with e | e
  ·rw [e]; exact f1
  ·exact de (f4 x a e)
 refine⟨m,hm.sameBut qV hCa,fun h₃ hs₃=>⟨_,_,?_,q'⟩⟩;exact I''.turned (t':=t8.toks) (fun b o hb e=>hs₃.extBut b o hb e) f0 f1 f3 f4 f5
end
theorem zmo {elt t1 i1 t2 i2:Expr} {f1 f2:List Expr} {scope:Scope} {pos:Pos} (it:Value) (D:Addr) (env:Env):compTurn (.ListComp elt [⟨t1,i1,f1,0⟩,⟨t2,i2,f2,0⟩] scope pos) 0 it (.ref D) env =
  zbv t1 f1 i1.pos (zhf (.ListComp elt [⟨t1,i1,f1,0⟩,⟨t2,i2,f2,0⟩] scope pos) i2 1 (.ref D) env) (.compLoop (.ListComp elt [⟨t1,i1,f1,0⟩,⟨t2,i2,f2,0⟩] scope pos) 0 it (.ref D) env) it env:=by rfl
theorem zmp {elt t1 i1 t2 i2:Expr} {f1 f2:List Expr} {scope:Scope} {pos:Pos} (it:Value) (D:Addr) (env:Env):compTurn (.ListComp elt [⟨t1,i1,f1,0⟩,⟨t2,i2,f2,0⟩] scope pos) 1 it (.ref D) env =
  zbv t2 f2 i2.pos (zep elt (.ref D) env) (.compLoop (.ListComp elt [⟨t1,i1,f1,0⟩,⟨t2,i2,f2,0⟩] scope pos) 1 it (.ref D) env) it env:=by rfl
def zcM (ix:List (Option Nat)):List Nat:=(ba ix.length).filter fun j=>ix[j]? == some none
theorem zbw {ix:List (Option Nat)} {i:Nat}:i∈zcM ix↔ix[i]? = some none:=by
 unfold zcM;rw [eO,bA,beq_iff_eq];exact⟨fun h=>h.2,fun h=>⟨(aT.mp h).1,h⟩⟩
def GK (ix:List (Option Nat)) (g:TG):Prop:=GS (zcM ix) g
def GKs (ix:List (Option Nat)) (g:TGs):Prop:=GSs (zcM ix) g
theorem zaV {ix:List (Option Nat)} {i:Nat} (hi:ix[i]? = some none):GK ix (zaB i):=zhd (zbw.2 hi)
theorem zeR {ix:List (Option Nat)}:GKs ix zkN:=zhe
theorem zbk {ix:List (Option Nat)} {i:Nat} {u:TGs} (hi:ix[i]? = some none) (h2:GKs ix u):GKs ix (zfl (zaB i) u):=zdq (zbw.2 hi) h2
theorem zgt {ix:List (Option Nat)} {K:ag} {n:Nat} {t:TGs} (h:GKs ix t):GK ix (zjb K n t):=zjs h
theorem zlR {elt t1 i1:Expr} {f1:List Expr} {scope:Scope} {pos:Pos} (it:Value) (D:Addr) (env:Env):compTurn (.ListComp elt [⟨t1,i1,f1,0⟩] scope pos) 0 it (.ref D) env =
  zbv t1 f1 i1.pos (zep elt (.ref D) env) (.compLoop (.ListComp elt [⟨t1,i1,f1,0⟩] scope pos) 0 it (.ref D) env) it env:=by rfl
section
variable {X:Cx} {elt tg iter:Expr} {ifs:List Expr} {scope:Scope} {pos:Pos} {N':List Str} {ix:List (Option Nat)} {g:TG} {ts:TT} {te:TE}
theorem zbx {wi:TI} (SC:CompSc X N' ix scope) (hc:X.calm=true) (hk:GK ix g) (hi:PI X tg iter wi)
  (hg:∀ s₃ H₃ ex lX,PG (zB X N' scope s₃ H₃ ex lX) tg g) (ht:∀ s₃ H₃ ex lX,zc4 (zB X N' scope s₃ H₃ ex lX) ifs ts) (he:∀ s₃ H₃ ex lX,PE (zB X N' scope s₃ H₃ ex lX) elt te)
  (hs:∀ x,foldedSetIterable iter X.env x=pure x:=by intro _; rfl):PE X (.ListComp elt [⟨tg,iter,ifs,0⟩] scope pos) (zlQ ix wi g ts te) :=
 zjv (mk:=fun D env=>zep elt (.ref D) env) (js:=zcM ix) (js':=[]) SC hc hk (fun _ _ h=>nomatch h) (fun j h=>zbw.1 (by simpa using h)) hi hg ht (fun s₃ H₃ ex lX D=>zgs rfl (he s₃ H₃ ex lX)) (fun _ _ _=>zlR _ _ _) hs
theorem za3 {wi:TI} {i:Nat} {x:Str} {pos' nI:Pos} (hN:X.N.Nodup) (tQ:X.N[i]? = some x) (hx:Loc X.env.scope x) (SC:CompSc X N' ix scope) (hc:X.calm=true) (hk:GK ix g) (hi:PI X tg iter wi)
  (hg:∀ s₃ H₃ ex lX,PG (zB X N' scope s₃ H₃ ex lX) tg g) (ht:∀ s₃ H₃ ex lX,zc4 (zB X N' scope s₃ H₃ ex lX) ifs ts) (he:∀ s₃ H₃ ex lX,PE (zB X N' scope s₃ H₃ ex lX) elt te)
  (xh:swapsWith (.ListComp elt [⟨tg,iter,ifs,0⟩] scope pos) (some (.Name x pos')) nI.line X.env=pure true:=by rfl)
  (hs:∀ x,foldedSetIterable iter X.env x=pure x:=by intro _; rfl) (hf:X.fn x=true∨X.env.scope.names.lookup x=some .local:=by first | exact .inl rfl | exact .inr rfl | assumption) :
  PS X (.Assign [.Name x pos'] (.ListComp elt [⟨tg,iter,ifs,0⟩] scope pos) nI) (zdY (zlQ ix wi g ts te) (zaB i)) :=
 zcX (mk:=fun D env=>zep elt (.ref D) env) (js:=zcM ix) (js':=[]) hN tQ hx SC hc hk (fun _ _ h=>nomatch h) (fun j h=>zbw.1 (by simpa using h)) hi hg ht (fun s₃ H₃ ex lX D=>zgs rfl (he s₃ H₃ ex lX)) (fun _ _ _=>zlR _ _ _) xh hs hf
end
section
variable {X:Cx} {lX:List (Addr×Obj)} {σ:St} {H:Hp} {s:Shared} {h':Heap}
theorem Inv.turnedL {t':Nat} {ch:List Addr} (I:Inv X lX σ H s) (k:∀ b o,b∉ch→s.heap.get? b=some o→h'.get? b=some o) (hf:∀ b∈ch,zbL X lX H b)
  (th:∀ b∈ch,∃ o,h'.get? b=some o):Inv X lX σ H { s with heap:=h',toks:=t' }:=by
 have uG:∀ b u,H b=some u→b∉ch:=fun b u e z=>by rw [(hf b z).1] at e; cases e
 refine I.step (g':=s.gens) (d':=s.drawn) (ch:=ch) (fun b hb=>?_) (fun b o _ _ hc e _=>k b o hc e) (fun b o _ _ hc e _=>⟨o.slots,k b o hc e⟩) (fun _ _ _ _ n=>n)
  (fun b o hc e=>⟨o,k b o hc e⟩) (fun _ _ e=>e) (fun _ _ _ e=>e) (fun b ps e=>⟨#[],by rw [e]; simp⟩) (fun m hm=>?_) (fun b u e=>?_) I.bare
 ·obtain⟨_,a1,_,a3,a4,a5⟩:=hf b hb;exact⟨a3,a1,a4,a5⟩
 ·obtain⟨o,es,ep,ho,r⟩:=hm;exact⟨o,es,ep,k _ o (fun z=>(hf _ z).2.1 rfl) ho,r⟩
 ·refine (I.hok b u e).stay (fun c v hc q=>k c v ?_ q) (fun _ q=>q) fun _ _ q=>q
  rcases hc with z | z
  ·rw [z]; exact uG b u e
  ·exact uG c _ z
theorem Inv.turnedNew {t':Nat} {ch:List Addr} {T:Addr} {o:HO} (I:Inv X lX σ H s) (k:∀ b o,b∉ch→s.heap.get? b=some o→h'.get? b=some o) (hf:∀ b∈ch,zbL X lX H b)
  (th:∀ b∈ch,∃ o,h'.get? b=some o) (hT:s.heap.objs.size≤T) (ok:zO X.prog X.w (l7 H T o) h' T o):Inv X lX σ (l7 H T o) { s with heap:=h',toks:=t' }:=by
 have I1:Inv X lX σ H { s with heap:=h',toks:=t' }:=I.turnedL k hf th;have hn:H T=none:=I.hok.fresh hT;obtain⟨_,a1,a2,a3,a4,a5⟩:=I.fpOk (H':=H) hT hn;exact I1.track hn (bg I.sz hT) (de a1) a4 a5 ok
end
theorem zgu {h:Heap} {T:Addr} {a b:Value} (e:h.get? T=some { cls:=.type "tuple",data:=.seq #[a,b] }):IsTup h T ([a,b]:List Value).toArray:=⟨_,e,rfl,_,rfl⟩
theorem zcY:2≤sizeLine:=by rw [bL]; decide
def zmq (wq wt:Hp→Addr→List V→Prop) (a b:Addr):It :=
 ⟨fun i H=>∃ xs ys x y,wq H a xs∧wt H b ys∧xs[i]? = some x∧ys[i]? = some y,
  fun i H x H'=>∃ T u v,H T=none∧x = .ref T∧H'=l7 H T (.tup [u,v])∧(∀ xs,wq H a xs→xs[i]? = some u)∧∀ ys,wt H b ys→ys[i]? = some v,
  fun i H=>∃ xs ys,wq H a xs∧wt H b ys∧(xs.length≤i∨ys.length≤i)⟩
theorem zh7 {P:Program} {w:World} {K:ag} {es:List Expr} {k:Nat} {pos:Pos} (a b:Addr) (n:Nat) (ha:a < n) (hb:b < n):Turn P w K (.Tuple es k pos) (zmq (l8 K) (l8 K) a b) [n+4,n+2,n+3,n,n+1] (n+4)
  (fun i h=>IsZip h (n+4) (n+2) (n+3) .none∧IsPair h (n+2) (.ref n) (.ref (n+1))∧(∃ u v,IsPair h (n+3) u v)∧h.IsListIter n a i∧h.IsListIter (n+1) b i) where
 mem:=by simp
 obj:=fun i h st c hc=>by
  obtain⟨h1,h2,⟨u,v,h3⟩,⟨o4,e4,_,d4⟩,⟨o5,e5,_,d5⟩⟩:=st;simp only [au,dM,or_false] at hc;rcases hc with z | z | z | z | z <;> subst z
  ·exact⟨_,h1,fun v z=>by cases z⟩
  ·exact⟨_,h2,fun v z=>by cases z⟩
  ·exact⟨_,h3,fun v z=>by cases z⟩
  ·exact⟨_,e4,fun v z=>by rw [d4] at z; cases z⟩
  ·exact⟨_,e5,fun v z=>by rw [d5] at z; cases z⟩
 keep:=fun i h h' st kk=>by
  obtain⟨h1,h2,⟨u,v,h3⟩,h4,h5⟩:=st;exact⟨kk _ #[M] _ h1,kk _ #[M] _ h2,⟨u,v,kk _ #[M] _ h3⟩,h4.at fun o eo=>kk _ #[M] o eo,h5.at fun o eo=>kk _ #[M] o eo⟩
 item:=by
  intro X hP hw hK hc i lX s σ H E I hf st hg;subst hP hw hK;obtain⟨xs,ys,x,y,vi,rq,hx,hy⟩:=hg;obtain⟨h1,h2,⟨u0,v0,h3⟩,h4,h5⟩:=st;obtain⟨xi,yK,p1,tR⟩:=I.list vi;obtain⟨sL,yL,p2,sM⟩:=I.list rq;obtain⟨u,hu,ru⟩:=yK.get hx;obtain⟨v,hv,rv⟩:=yL.get hy;have hzs:n+4 < s.heap.objs.size:=av h1;refine wpAny_pyNext_zip_item (c8 ha hb) h1 h2 h3 h4 h5 p1.isList p2.isList (x:=u) (y:=v) (by simpa using hu) (by simpa using hv) fun h' a1 a2 a3 a4 a5 a6 kk=>?_
  have k1:∀ c o,c∉[n+4,n+3,n,n+1]→s.heap.get? c=some o→h'.get? c=some o:=fun c o mG eo =>
   kk c o (fun z=>mG (by simp [z])) (fun z=>mG (by simp [z])) (fun z=>mG (by simp [z])) (fun z=>mG (by simp [z])) eo
  have sub:∀ c∈[n+4,n+3,n,n+1],c∈[n+4,n+2,n+3,n,n+1]:=fun c mG=>by
   simp only [au,dM,or_false] at mG ⊢;rcases mG with z | z | z | z <;> subst z <;> simp
  have th1:∀ c∈[n+4,n+3,n,n+1],∃ o,h'.get? c=some o:=fun c mG=>by
   simp only [au,dM,or_false] at mG;rcases mG with z | z | z | z <;> subst z
   ·exact⟨_,a1⟩
   ·exact⟨_,a2⟩
   ·obtain⟨o,e,_⟩:=a3; exact⟨o,e⟩
   ·obtain⟨o,e,_⟩:=a4; exact⟨o,e⟩
  have I1:Inv X lX σ (l7 H s.heap.objs.size (.tup [x,y])) { s with heap:=h' } :=
   I.turnedNew (t':=s.toks) k1 (fun c mG=>hf c (sub c mG)) th1 (ah _) ⟨zcY,_,.cons ru (.cons rv .nil),zgu a5⟩
  refine⟨_,rfl,wpAny_letOwnedTupleGo_zip a1 fun AF xj qA=>?_⟩;have fr:∀ c∈[n+4,n+2,n+3,n,n+1],l7 H s.heap.objs.size (.tup [x,y]) c=none:=fun c mG=>by
   have ml:c < s.heap.objs.size:=by
    simp only [au,dM,or_false] at mG;rcases mG with z | z | z | z | z <;> subst z <;> lia
   rw [zi (aL ml)];exact (hf c mG).1
  have I2:Inv X lX σ (l7 H s.heap.objs.size (.tup [x,y])) { s with heap:=AF } :=
   Inv.turnedL (s:={ s with heap:=h' }) (ch:=[n+4]) (t':=s.toks) I1 (fun c o mG eo=>qA.extBut c o (by simpa using mG) eo) (fun c mG=>by
    have z:c=n+4:=by simpa using mG
    subst z;exact⟨fr _ #[M],(hf _ #[M]).2⟩) (fun c mG=>by
    have z:c=n+4:=by simpa using mG
    subst z;exact⟨_,xj⟩)
  refine⟨.ref s.heap.objs.size,_,I2,rfl,⟨_,x,y,I.fresh,rfl,rfl,fun zs hz=>by rw [I.list_inj hz vi]; exact hx,fun zs hz=>by rw [I.list_inj hz rq]; exact hy⟩,
   ⟨xj,qA.extBut _ _ (c8 ha hb).TIz (kk _ _ (c8 ha hb).TIz (c8 ha hb).TITO (c8 ha hb).TIi1 (c8 ha hb).TIi2 h2),⟨_,_,qA.extBut _ _ (c8 ha hb).TOz a2⟩,a3.extBut qA.extBut (c8 ha hb).i1z,a4.extBut qA.extBut (c8 ha hb).i2z⟩,fr⟩
 done:=by
  intro X hP hw hK hc i lX s σ H E I hf st hg;subst hP hw hK;obtain⟨xs,ys,vi,rq,hx⟩:=hg;obtain⟨h1,h2,⟨u0,v0,h3⟩,h4,h5⟩:=st;obtain⟨xi,yK,p1,tR⟩:=I.list vi;obtain⟨sL,yL,p2,sM⟩:=I.list rq;have ue:=yK.length;have qT:=yL.length;refine wpAny_pyNext_zip_end (I.ok.hd hc) (c8 ha hb) h1 h2 h3 h4 h5 p1.isList p2.isList ?_ fun h' kk=>⟨rfl,?_⟩
  ·rcases hx with z | z
   ·exact .inl (by simp; lia)
   ·exact .inr (by simp; lia)
  ·have hth:∀ c∈[n+4,n+3,n,n+1],c∈[n+4,n+2,n+3,n,n+1]:=fun c mG=>by
    simp only [au,dM,or_false] at mG ⊢;rcases mG with z | z | z | z <;> subst z <;> simp
   refine I.step (g':=s.gens) (d':=s.drawn) (t':=s.toks) (ch:=[n+4,n+3,n,n+1]) (fun c mG=>?_) (fun c o _ _ nG e _=>kk c o (fun z=>nG (by simp [z])) (fun z=>nG (by simp [z])) (fun z=>nG (by simp [z])) (fun z=>nG (by simp [z])) e)
    (fun c o _ _ nG e _=>⟨o.slots,kk c o (fun z=>nG (by simp [z])) (fun z=>nG (by simp [z])) (fun z=>nG (by simp [z])) (fun z=>nG (by simp [z])) e⟩) (fun _ _ _ _ n=>n)
    (fun c o nG e=>⟨o,kk c o (fun z=>nG (by simp [z])) (fun z=>nG (by simp [z])) (fun z=>nG (by simp [z])) (fun z=>nG (by simp [z])) e⟩) (fun _ _ e=>e) (fun _ _ _ e=>e) (fun c ps e=>⟨#[],by rw [e]; simp⟩) (fun m hm=>?_) (fun c u e=>?_) I.bare
   ·obtain⟨_,a1,_,a3,a4,a5⟩:=hf c (hth c mG);exact⟨a3,a1,a4,a5⟩
   ·obtain⟨o,es',ep,ho,r⟩:=hm;have ne:∀ c∈[n+4,n+2,n+3,n,n+1],X.env.locals≠c:=fun c mG=>de (hf c mG).2.1
    exact⟨o,es',ep,kk _ o (ne _ #[M]) (ne _ #[M]) (ne _ #[M]) (ne _ #[M]) ho,r⟩
   ·have uG:∀ d u',H d=some u'→∀ c∈[n+4,n+2,n+3,n,n+1],d≠c:=fun d u' e' c mG z=>by rw [z,(hf c mG).1] at e'; cases e'
    refine (I.hok c u e).stay (fun d v' hd q=>kk d v' ?_ ?_ ?_ ?_ q) (fun _ q=>q) fun _ _ q=>q
    all_goals
     rcases hd with z | z
     ·rw [z]; exact uG c u e _ #[M]
     ·exact uG d _ z _ #[M]
 self:=fun _ _ _ _ _ st h=>wpAny_pyIter_zip st.1 h
def iZp (wq wt:Hp→Addr→List V→Prop) (ta:TA):TI:=fun σ H R=>ta σ H fun vs H1=>∃ a b xs ys,vs = [.ref a,.ref b]∧wq H1 a xs∧wt H1 b ys∧R (zmq wq wt a b) H1
theorem zhh {X:Cx} {es:List Expr} {k:Nat} {xk p pos:Pos} {a b:Expr} {ta:TA} (hg:Gl X "zip") (hm:X.mg "zip" = none) (ha:PA X [a,b] ta) (hs:starEach [a,b] X.env = [(false,eval a X.env),(false,eval b X.env)]:=by rfl) (qt:starEach [b] X.env = [(false,eval b X.env)]:=by rfl) :
  PI X (.Tuple es k xk) (.Call (.Name "zip" p) [a,b] [] pos) (iZp (l8 X.K) (l8 X.K) ta):=by
 intro lX s σ H R I h;refine Call_ (zbc I hg hm boot_zip (cf (thn (ha pos lX s σ H _ I h) fun us s1 ⟨vs,H1,I1,r1,q1⟩=>?_) (by rw [hs,qt]) (by rw [qt]; rfl)));obtain⟨l1,l2,xs,ys,e,vi,rq,q⟩:=q1;subst e;cases r1 with
 | cons r rr =>
  cases rr with
  | cons r' rr =>
   cases rr;cases r;cases r';obtain⟨xi,yK,pl1,tR⟩:=I1.list vi;obtain⟨sL,yL,pl2,sM⟩:=I1.list rq;have AG:l1 < s1.heap.objs.size:=by obtain⟨_,_,e,_⟩:=pl1; exact av e
   have AH:l2 < s1.heap.objs.size:=by obtain⟨_,_,e,_⟩:=pl2; exact av e
   refine call_zip_2 pl1.isList pl2.isList fun h' b1 b2 b3 b4 b5 b6 kk=>?_
   have I2:Inv X lX σ H1 { s1 with heap:=h' }:=I1.kept (t':=s1.toks) kk;refine wpAny_pyIter_zip b1 ?_;refine⟨_,_,_,zmq (l8 X.K) (l8 X.K) l1 l2,H1,rfl,I2,zh7 l1 l2 s1.heap.objs.size AG AH,⟨b1,b2,⟨_,_,b3⟩,b4,b5⟩,fun c hc=>?_,q⟩;have hle:s1.heap.objs.size≤c:=by
    simp only [au,dM,or_false] at hc;rcases hc with z | z | z | z | z <;> subst z <;> lia
   exact I1.fpOk hle (I1.hok.fresh hle)
def zfy (Sq:Hp→Addr→List V→Prop) (a:Addr) (n:Nat):It :=
 ⟨fun i H=>i < n∧∃ xs,Sq H a xs∧xs.length=n,fun i H x H'=>H'=H∧∀ xs,Sq H a xs→xs[n - 1 - i]? = some x,fun i H=>n≤i⟩
theorem zh8 {P:Program} {w:World} {K:ag} {tg:Expr} (a it:Addr) (n:Nat):Turn P w K tg (zfy (l8 K) a n) [it] it (fun i h=>i≤n∧h.IsRevIter it a ((n:Int) - 1 - (i:Int))) where
 mem:=by simp
 obj:=fun i h st b hb=>by
  have z:b=it:=by simpa using hb
  subst z;obtain⟨_,o,e,c,d⟩:=st;exact⟨o,e,fun v z=>by rw [d] at z; cases z⟩
 keep:=fun i h h' st k=>⟨st.1,st.2.at fun o e=>k it #[M] o e⟩
 item:=by
  intro X hP hw hK hc i lX s σ H E I hf st hg;subst hP hw hK;obtain⟨og,xs,hq,hl⟩:=hg;obtain⟨lY,rv,p,hz⟩:=I.list hq;have mi:=rv.length;obtain⟨x,hx⟩:∃ x,xs[n - 1 - i]? = some x:=⟨xs[n - 1 - i]'#[O],#[M]⟩;obtain⟨u,hu,ru⟩:=rv.get hx;obtain⟨f0,f1,f2,f3,f4,f5⟩:=hf it #[M];have e:(n:Int) - 1 - (i:Int)=((n - 1 - i:Nat):Int):=by lia
  have hit:=st.2;rw [e] at hit;refine wpAny_pyNext_rev_item hit p.isList (x:=u) (by simpa using hu) fun h' lZ sb=>?_
  have I1:Inv X lX σ H { s with heap:=h' }:=I.turned (t':=s.toks) (fun b o hb e=>(sb.2 b hb).trans e) f0 f1 f3 f4 f5;have e2:((n - 1 - i:Nat):Int) - 1=(n:Int) - 1 - ((i+1:Nat):Int):=by lia
  rw [e2] at lZ;obtain⟨o,eo,c,d⟩:=id lZ;exact⟨u,rfl,zfm (s:={ s with heap:=h' }) eo c d #[D] ⟨x,H,I1,ru,⟨rfl,fun ys hy=>by rw [I.list_inj hy hq]; exact hx⟩,⟨og,lZ⟩,fun b hb=>(hf b hb).1⟩⟩
 done:=by
  intro X hP hw hK hc i lX s σ H E I hf st hg;subst hP hw hK;obtain⟨f0,f1,f2,f3,f4,f5⟩:=hf it #[M];have og:n≤i:=hg;have e:(n:Int) - 1 - (i:Int) = -1:=by have:=st.1; lia
  have hit:=st.2;rw [e] at hit;exact wpAny_pyNext_rev_end (I.ok.hd hc) hit fun h' eb=>⟨rfl,I.turned (t':=s.toks) (fun b o hb e=>eb b o hb e) f0 f1 f3 f4 f5⟩
 self:=fun _ _ _ _ _ st h=>ji st.2 h
end L2
end
section
namespace PySem
namespace F
theorem zeq:Manifest.owners.lookup (String.ofList ['d','e','s','r','e','v','e','r'].reverse)=some Manifest.sig_reversed:=by kernel_rfl
theorem slot_rvd_next:Slot "reversed" "__next__" "reversed.__next__" :=
 .of (owner:="reversed") (n:="__next__") (by rw [dW,cX]; kernel_rfl) #[N] #[N] #[N] (by first | exact .inl #[N] | exact .inr #[N]) (by rw [cY]; kernel_rfl)
theorem entry_rvd_next:entryFor table "reversed.__next__" = some Builtin.«reversed.__next__»:=entryFor_of_tree (by kernel_rfl)
theorem args_rvd_next_1 (a:Value):argsOk "reversed.__next__" ⟨[a],[]⟩:=by
 unfold argsOk; rw [signature?_of (id:="reversed.__next__") (n:=['_','_','t','x','e','n','_','_']) (o:=['d','e','s','r','e','v','e','r']) (by kernel_rfl) zeq]; kernel_rfl
theorem slot_rvd_iter:Slot "reversed" "__iter__" "reversed.__iter__" :=
 .of (owner:="reversed") (n:="__iter__") (by rw [dW,cX]; kernel_rfl) #[N] #[N] #[N] (by first | exact .inl #[N] | exact .inr #[N]) (by rw [cY]; kernel_rfl)
theorem args_rvd_iter_1 (a:Value):argsOk "reversed.__iter__" ⟨[a],[]⟩:=by
 unfold argsOk; rw [signature?_of (id:="reversed.__iter__") (n:=['_','_','r','e','t','i','_','_']) (o:=['d','e','s','r','e','v','e','r']) (by kernel_rfl) zeq]; kernel_rfl
theorem entry_rvd_iter:entryFor table "reversed.__iter__" = some Builtin.«dict_keyiterator.__iter__»:=iT (id':="dict_keyiterator.__iter__") (by kernel_rfl) (by first | rfl | decide +kernel | (unfold String.splitOn; simp +decide [String.splitOnAux])) #[N] (by kernel_rfl)
theorem zd0:Slot "reversed" "__init__" "object.__init__":=.of (owner:="object") (n:="__init__") (by rw [dW,cX]; kernel_rfl) #[N] #[N] #[N] (by first | exact .inl #[N] | exact .inr #[N]) (by rw [cY]; kernel_rfl)
theorem called_rvd:TypeCalled "reversed" "reversed.__new__" "object.__init__" :=
 ⟨#[N],#[N],⟨_,_,mro_reversed⟩,made_reversed,#[N],by rw [cY]; kernel_rfl,zd0⟩
theorem noRev_tuple:typeLookup (.type "tuple") "__reversed__" = pure none:=by rw [dW,cX]; kernel_rfl
end F
def zeS (l:Addr) (i:Int):Obj:={ cls:=.type "reversed",data:=.fields #[.ref l,rawInt i] }
def Heap.IsRvd (h:Heap) (a l:Addr) (i:Int):Prop:=∃ o,h.get? a=some o∧o.cls = .type "reversed"∧o.data = .fields #[.ref l,rawInt i]
theorem Heap.IsRvd.typeIs {s:Shared} {a l:Addr} {i:Int} (x:s.heap.IsRvd a l i):s.TypeIs (.ref a) "reversed":=let ⟨o,ho,hc,_⟩:=x; ⟨o,ho,hc⟩
theorem Heap.IsRvd.at {h h':Heap} {a l:Addr} {i:Int} (x:h.IsRvd a l i) (e:∀ o,h.get? a=some o→h'.get? a=some o):h'.IsRvd a l i:=let ⟨o,ho,r⟩:=x; ⟨o,e _ ho,r⟩
open PyProof.Rows in
theorem zd1 (l:Addr) (me:Array Value) :
  Meets (Builtin.«reversed.__new__» ⟨[.type "reversed",.ref l],[]⟩) (fun _ R s=>IsTup s.heap l me∧(me.size:Int) < 2 ^ 63 ∧
   R (.ok (.ret (.ref s.heap.objs.size))) { s with heap:=s.heap.push (zeS l ((me.size:Int) - 1)),toks:=s.toks+1+1 }) :=
 .of_wp fun prog w A R s h=>by
  obtain⟨hl,hsz,h⟩:=h;unfold Builtin.«reversed.__new__»; refine aa (dn (newClass_reversed _) ?_)
  try dsimp only
  iterate 2 refine aa (dn (a:=()) (by first | rfl | kernel_rfl) ?_)
  try dsimp only
  refine aa (dX hl.typeIs F.noRev_tuple ?_)
  try dsimp only
  refine aa (aa (m:=isInstance (.ref l) (.type "dict")) (eF hl.typeIs F.sub_tuple_dict ?_));simp only [aC,if_false]; refine aa (m:=specialOf (.ref l) "__getitem__") (dX hl.typeIs slot_tuple_getitem.lookup ?_);refine af ?_
  try dsimp only
  try simp only [cV,aC,if_false]
  refine aa (len_tuple hl hsz ?_);refine aa (m:=asInt? _) (dn (a:=some (me.size:Int)) rfl ?_)
  try dsimp only
  refine aa (m:=li _ _) ?_;show wpAny _ _ (newObj (.type "reversed") (.fields #[.ref l,rawInt ((me.size:Int) - 1)]) none) _ _ _;refine bM ?_;exact af ⟨_,rfl,h⟩
section
variable {prog:Program} {w:World} {A:Around} {E:Value→Shared→Prop} {s:Shared}
open PyProof.Rows
theorem zdr {l:Addr} {me:Array Value} {Q:Value→Shared→Prop} (hl:IsTup s.heap l me) (hsz:(me.size:Int) < 2 ^ 63)
  (h:Q (.ref s.heap.objs.size) { s with heap:=s.heap.push (zeS l ((me.size:Int) - 1)),toks:=s.toks+1+1 }):wpAny (model prog w) A (call (.type "reversed") [.ref l]) Q E s:=by
 refine callType_new F.called_rvd #[D] (F.typeCall_reversed_1 _) (F.newCall_reversed_1 _) (fun obj=>F.args_object_init_2 obj _) F.entry_reversed_new (zd1 l me) ⟨hl,hsz,?_⟩; exact⟨⟨_,aB _ rfl,rfl⟩,h⟩
theorem zbJ {it l:Addr} {i:Nat} {me:Array Value} {x:Value} {Q:Option Value→Shared→Prop} (hit:s.heap.IsRvd it l (i:Int)) (hl:IsTup s.heap l me) (hx:me[i]? = some x) (hi:(i:Int) < 2 ^ 62)
  (hQ:∀ h',h'.IsRvd it l ((i:Int) - 1)→cS it s.heap h'→Q (some x) { s with heap:=h',toks:=s.toks+1 }):wpAny (model prog w) A (pyNext (.ref it)) Q E s:=by
 obtain⟨o,ho,hc,hd⟩:=id hit; unfold pyNext;refine aa (cW (cL (name:=bJ "__next__") hit.typeIs F.slot_rvd_next
  (bW F.slot_rvd_next hit.typeIs F.entry_rvd_next ?_ (F.args_rvd_next_1 _))))
 unfold Builtin.«reversed.__next__»;refine aa (dn (a:=(aK it,[])) rfl ?_); try dsimp only
 refine aa (gt ho hd (x:=.ref l) rfl ?_); refine aa (gt ho hd (x:=rawInt (i:Int)) rfl ?_);show wpAny _ _ (if (i:Int) < 0 then _ else _) _ _ s; rw [if_neg #[O]];refine aa (dX hl.typeIs slot_tuple_getitem.lookup ?_)
 try simp only [Option.isNone_some,aC,if_false]
 refine aa (wpAny_mkInt ?_); have ml:i < me.size:=by
  obtain⟨h1,_⟩:=cp.mp hx;exact h1
 refine aa (cW (getItem_tuple (j:=i) hl #[O] #[O] (by rw [iJ #[O] #[O]]; simp) hx ?_))
 try dsimp only
 refine aa (gt (s:={ s with toks:=s.toks+1 }) ho hd (x:=rawInt (i:Int)) rfl ?_);show wpAny _ _ (setField (.ref it) 1 (rawInt ((i:Int) - 1)) >>= _) _ _ _;refine aa (di (s:={ s with toks:=s.toks+1 }) ho hd #[M] (af ⟨x,rfl,af (hQ _ ?_ (be ..))⟩));exact⟨_,bK _ ho (dB (ci hd _)),(fm ..).trans hc,by rw [ci hd]; simp⟩
theorem zbP {it l:Addr} {Q:Option Value→Shared→Prop} (hh:A.handled=none) (hit:s.heap.IsRvd it l (-1)) (hQ:∀ h',kx it s.heap h'→Q none { s with heap:=h' }):wpAny (model prog w) A (pyNext (.ref it)) Q E s:=by
 obtain⟨o,ho,hc,hd⟩:=id hit; unfold pyNext;refine aa (cW (cL (name:=bJ "__next__") hit.typeIs F.slot_rvd_next
  (bW F.slot_rvd_next hit.typeIs F.entry_rvd_next ?_ (F.args_rvd_next_1 _))))
 unfold Builtin.«reversed.__next__»;refine aa (dn (a:=(aK it,[])) rfl ?_); try dsimp only
 refine aa (gt ho hd (x:=.ref l) rfl ?_); refine aa (gt ho hd (x:=rawInt (-1)) rfl ?_);show wpAny _ _ (if (-1:Int) < 0 then _ else _) _ _ s; rw [if_pos #[D]];refine aa (cU ?_);refine aa (aa (m:=setField (.ref it) 1 (rawInt (-1))) (di ho hd #[M] ?_));have hd2:=ci hd (·.setIfInBounds 1 (rawInt (-1)));have rA:=bK (fJ (·.setIfInBounds 1 (rawInt (-1)))) ho (dB hd2);refine di rA hd2 #[M] ?_
 try dsimp only
 refine aa ?_; show wpAny _ _ (newExc (.type "StopIteration") [] >>= _) _ _ _;refine aa ?_;simp only [newExc,newTuple];refine aa (bM ?_ (by size_fits)); refine aa (m:=firstArgMember _ _) (dn (a:=cj) (by first | rfl | (simp only [firstArgMember]; rfl)) ?_);refine bM ?_ (by size_fits); simp only [raiseNew];refine aa (ju ?_); first | rw [show A.in1.handled=none from hh] | rw [hh]
 refine aa (af (kz ?_)); refine aa (eF (T:="StopIteration") (b:=true) ⟨_,aB _ rfl,rfl⟩ iU ?_);exact af (hQ _ ((((be ..).extBut.trans (be ..).extBut).push _).push _))
theorem zbl {it l:Addr} {i:Int} {Q:Value→Shared→Prop} (hit:s.heap.IsRvd it l i) (h:Q (.ref it) s):wpAny (model prog w) A (pyIter (.ref it)) Q E s:=by
 refine fo hit.typeIs F.slot_rvd_iter (bW F.slot_rvd_iter hit.typeIs F.entry_rvd_iter ?_ (F.args_rvd_iter_1 _));show wpAny _ _ (ret (.ref it)) _ _ s; exact af ⟨_,rfl,"reversed",_,hit.typeIs,F.slot_rvd_next.lookup,h⟩
end
end PySem
namespace L2
open PySem PySem.Spec PyProof.Rows
theorem zh9 {P:Program} {w:World} {K:ag} {tg:Expr} (a it:Addr) (n:Nat):Turn P w K tg (zfy (mj K) a n) [it] it (fun i h=>i≤n∧h.IsRvd it a ((n:Int) - 1 - (i:Int))) where
 mem:=by simp
 obj:=fun i h st b hb=>by
  have z:b=it:=by simpa using hb
  subst z;obtain⟨_,o,e,c,d⟩:=st;exact⟨o,e,fun v z=>by rw [d] at z; cases z⟩
 keep:=fun i h h' st k=>⟨st.1,st.2.at fun o e=>k it #[M] o e⟩
 item:=by
  intro X hP hw hK hc i lX s σ H E I hf st hg;subst hP hw hK;obtain⟨og,xs,hq,hl⟩:=hg;obtain⟨lY,rv,p,hz⟩:=I.tuple hq;have mi:=rv.length;have qm:=bL;obtain⟨x,hx⟩:∃ x,xs[n - 1 - i]? = some x:=⟨xs[n - 1 - i]'#[O],#[M]⟩;obtain⟨u,hu,ru⟩:=rv.get hx;obtain⟨f0,f1,f2,f3,f4,f5⟩:=hf it #[M];have e:(n:Int) - 1 - (i:Int)=((n - 1 - i:Nat):Int):=by lia
  have hit:=st.2;rw [e] at hit;refine zbJ hit p (x:=u) (by simpa using hu) #[O] fun h' lZ sb=>?_
  have I1:Inv X lX σ H { s with heap:=h',toks:=s.toks+1 }:=I.turned (t':=s.toks+1) (fun b o hb e=>(sb.2 b hb).trans e) f0 f1 f3 f4 f5;have e2:((n - 1 - i:Nat):Int) - 1=(n:Int) - 1 - ((i+1:Nat):Int):=by lia
  rw [e2] at lZ;obtain⟨o,eo,c,d⟩:=id lZ;exact⟨u,rfl,zfm (s:={ s with heap:=h',toks:=s.toks+1 }) eo c d #[D] ⟨x,H,I1,ru,⟨rfl,fun ys hy=>by rw [I.tuple_inj hy hq]; exact hx⟩,⟨og,lZ⟩,fun b hb=>(hf b hb).1⟩⟩
 done:=by
  intro X hP hw hK hc i lX s σ H E I hf st hg;subst hP hw hK;obtain⟨f0,f1,f2,f3,f4,f5⟩:=hf it #[M];have og:n≤i:=hg;have e:(n:Int) - 1 - (i:Int) = -1:=by have:=st.1; lia
  have hit:=st.2;rw [e] at hit;exact zbP (I.ok.hd hc) hit fun h' eb=>⟨rfl,I.turned (t':=s.toks) (fun b o hb e=>eb b o hb e) f0 f1 f3 f4 f5⟩
 self:=fun _ _ _ _ _ st h=>zbl st.2 h
theorem zeT {X:Cx} {tg:Expr} {lX:List (Addr×Obj)} {σ:St} {H1:Hp} {s1:Shared} {R:It→Hp→Prop} {l:Addr} {xs:List V} (I1:Inv X lX σ H1 s1) (hq:mj X.K H1 l xs) (q:R (zfy (mj X.K) l xs.length) H1) :
  wpAny (model X.prog X.w) X.A (call (.type "reversed") [.ref l]) (fun v s2=>wpAny (model X.prog X.w) X.A (pyIter v) (PIE X lX σ tg R) X.xe s2) X.xe s1:=by
 obtain⟨lY,rv,pl,hz⟩:=I1.tuple hq;have mi:=rv.length;have qm:=bL;refine zdr pl (by rw [aq]; lia) ?_;have I2:Inv X lX σ H1 { s1 with heap:=s1.heap.push (zeS l ((lY.toArray.size:Int) - 1)),toks:=s1.toks+1+1 }:=I1.kept fun b o e=>aj _ e
 have hr:(s1.heap.push (zeS l ((lY.toArray.size:Int) - 1))).IsRvd s1.heap.objs.size l ((xs.length:Int) - 1 - ((0:Nat):Int)):=by
  refine⟨_,aB _ rfl,rfl,?_⟩;have e1:(lY.toArray.size:Int) - 1=(xs.length:Int) - 1 - ((0:Nat):Int):=by rw [aq,mi]; lia
  show iI #[.ref l,rawInt ((lY.toArray.size:Int) - 1)]=_;rw [e1]
 refine zbl hr ?_;refine⟨_,[s1.heap.objs.size],_,zfy (mj X.K) l xs.length,H1,rfl,I2,zh9 l s1.heap.objs.size xs.length,⟨bi _,hr⟩,fun b hb=>?_,q⟩;have z:b=s1.heap.objs.size:=by simpa using hb
 subst z;exact I1.fpOk (ah _) (I1.hok.fresh (ah _))
theorem zfz {X:Cx} {tg:Expr} {lX:List (Addr×Obj)} {σ:St} {H1:Hp} {s1:Shared} {R:It→Hp→Prop} {l:Addr} {xs:List V} (I1:Inv X lX σ H1 s1) (hq:l8 X.K H1 l xs) (q:R (zfy (l8 X.K) l xs.length) H1) :
  wpAny (model X.prog X.w) X.A (call (.type "reversed") [.ref l]) (fun v s2=>wpAny (model X.prog X.w) X.A (pyIter v) (PIE X lX σ tg R) X.xe s2) X.xe s1:=by
 obtain⟨lY,rv,pl,hz⟩:=I1.list hq;have mi:=rv.length;refine call_reversed_list pl.isList ?_;have I2:Inv X lX σ H1 { s1 with heap:=s1.heap.push (revObj l ((lY.toArray.size:Int) - 1)) }:=I1.kept (t':=s1.toks) fun b o e=>aj _ e
 have hr:(s1.heap.push (revObj l ((lY.toArray.size:Int) - 1))).IsRevIter s1.heap.objs.size l ((xs.length:Int) - 1 - ((0:Nat):Int)):=by
  refine⟨_,aB _ rfl,rfl,?_⟩;have e1:(lY.toArray.size:Int) - 1=(xs.length:Int) - 1 - ((0:Nat):Int):=by rw [aq,mi]; lia
  show iI #[.ref l,rawInt ((lY.toArray.size:Int) - 1)]=_;rw [e1]
 refine ji hr ?_;refine⟨_,[s1.heap.objs.size],_,zfy (l8 X.K) l xs.length,H1,rfl,I2,zh8 l s1.heap.objs.size xs.length,⟨bi _,hr⟩,fun b hb=>?_,q⟩;have z:b=s1.heap.objs.size:=by simpa using hb
 subst z;exact I1.fpOk (ah _) (I1.hok.fresh (ah _))
def znL (K:ag) (ta:TA):TI:=fun σ H R=>ta σ H fun vs H1=>∃ a xs,vs = [.ref a]∧((l8 K H1 a xs∧R (zfy (l8 K) a xs.length) H1)∨(mj K H1 a xs∧R (zfy (mj K) a xs.length) H1))
theorem zmr {X:Cx} {tg:Expr} {p pos:Pos} {a:Expr} {ta:TA} (hg:Gl X "reversed") (hm:X.mg "reversed" = none) (ha:PA X [a] ta) (hs:starEach [a] X.env = [(false,eval a X.env)]:=by rfl) :
  PI X tg (.Call (.Name "reversed" p) [a] [] pos) (znL X.K ta):=by
 intro lX s σ H R I h;refine Call_ (zbc I hg hm boot_reversed (cf (thn (ha pos lX s σ H _ I h) fun us s1 ⟨vs,H1,I1,r1,q1⟩=>?_) hs rfl));obtain⟨l,xs,e,hq⟩:=q1;subst e;cases r1 with
 | cons r rr =>
  cases rr;cases r;rcases hq with ⟨hq,q⟩ | ⟨hq,q⟩
  ·exact zfz I1 hq q
  ·exact zeT I1 hq q
inductive EqD (K:ag) (H:Hp):Nat→V→V→Bool→Prop where
 | flat {d:Nat} {x y:V} (hx:zbj x=true) (hy:zbj y=true):EqD K H d x y (eqV x y)
 | same {d:Nat} {a:Addr}:EqD K H d (.ref a) (.ref a) true
 | lists {d:Nat} {a b:Addr} {xs ys:List V} {e:Nat→Bool} (mo:a≠b) (ha:l8 K H a xs) (hb:l8 K H b ys) (hl:xs.length=ys.length)
   (he:∀ (j:Nat) x y,xs[j]? = some x→ys[j]? = some y→EqD K H d x y (e j)):EqD K H (d+1) (.ref a) (.ref b) ((ba xs.length).all e)
 | lens {d:Nat} {a b:Addr} {xs ys:List V} (mo:a≠b) (ha:l8 K H a xs) (hb:l8 K H b ys) (hl:xs.length≠ys.length):EqD K H (d+1) (.ref a) (.ref b) false
 | tups {d:Nat} {a b:Addr} {xs ys:List V} {e:Nat→Bool} (mo:a≠b) (ha:mj K H a xs) (hb:mj K H b ys)
   (he:∀ (j:Nat) x y,xs[j]? = some x→ys[j]? = some y→EqD K H d x y (e j)):EqD K H (d+1) (.ref a) (.ref b) ((ba (min xs.length ys.length)).all e && xs.length == ys.length)
theorem zA.getE {xs:List V} {us:List Value} (r:zA xs us) {j:Nat} (h:j < us.toArray.size):∃ x,xs[j]? = some x∧RelV x us.toArray[j]:=by
 have hl:=r.length;have hj:j < xs.length:=by rw [hl]; simpa using h
 obtain⟨u,hu,ru⟩:=r.get (i:=j) (x:=xs[j]) #[M];refine⟨xs[j],#[M],?_⟩;have:us.toArray[j]=u:=by
  have h2:j < us.length:=by simpa using h
  rw [aE h2] at hu;simpa using aX hu
 rw [this];exact ru
theorem EqD.at {X:Cx} {lX:List (Addr×Obj)} {σ:St} {H:Hp} {s:Shared} (I:Inv X lX σ H s) {d:Nat} {x y:V} {b:Bool} (h:EqD X.K H d x y b) :
  ∀ (A:Around) (u v:Value),RelV x u→RelV y v→A.units+d < cLine→jg A s u v b:=by
 induction h with
 | flat hx hy=>exact fun A u v rx ry _=>zjl rx ry hx hy
 | same=>intro A u v rx ry _; cases rx; cases ry; exact kS _
 | lists mo ha hb hl he ih =>
  intro A u v rx ry hu;cases rx; cases ry;obtain⟨vj,r1,p1,_⟩:=I.list ha;obtain⟨vm,r2,p2,_⟩:=I.list hb;have l1:=r1.length;have l2:=r2.length;refine gB mo ?_;have q:=SeqAt.RcAt.lists (A:=A) p1.isList p2.isList (by simp only [aq]; lia) #[O] fun j h1 h2=>by
   obtain⟨x,hx,rx⟩:=r1.getE h1;obtain⟨y,hy,ry⟩:=r2.getE h2;exact ih j x y hx hy A.in1 _ _ rx ry (by simp only [dN]; lia)
  rw [aq,← l1] at q;exact q
 | lens mo ha hb hl =>
  intro A u v rx ry hu;cases rx; cases ry;obtain⟨vj,r1,p1,_⟩:=I.list ha;obtain⟨vm,r2,p2,_⟩:=I.list hb;have l1:=r1.length;have l2:=r2.length;exact gB mo (SeqAt.RcAt.lists_lengths p1.isList p2.isList (by simp only [aq,bne_iff_ne]; lia) #[O])
 | tups mo ha hb he ih =>
  intro A u v rx ry hu;cases rx; cases ry;obtain⟨vj,r1,p1,_⟩:=I.tuple ha;obtain⟨vm,r2,p2,_⟩:=I.tuple hb;have l1:=r1.length;have l2:=r2.length;refine gB mo ?_;have q:=SeqAt.RcAt.tuples (A:=A) (s:=s) p1 p2 #[O] fun j h1 h2=>by
   obtain⟨x,hx,rx⟩:=r1.getE h1;obtain⟨y,hy,ry⟩:=r2.getE h2;exact ih j x y hx hy A.in1 _ _ rx ry (by simp only [dN]; lia)
  rw [aq,aq,← l1,← l2] at q;exact q
def zng (K:ag) (neg:Bool):R2:=fun x y H Q=>∃ a b xs ys,x = .ref a∧y = .ref b∧((l8 K H a xs∧l8 K H b ys)∨(mj K H a xs∧mj K H b ys)) ∧
 ((xs.length≠ys.length∧(∀ (j:Nat) x y,xs[j]? = some x→ys[j]? = some y→∃ c,EqD K H 8 x y c)∧Q (.bl neg) H) ∨
  (xs.length=ys.length∧∃ e:Nat→Bool,(∀ (j:Nat) x y,xs[j]? = some x→ys[j]? = some y→EqD K H 8 x y (e j))∧Q (.bl (if neg then !(ba xs.length).all e else (ba xs.length).all e)) H))
theorem zjw {X:Cx} (hu:X.A.units+20 < cLine):OpR X (compareOp .NotEq) (zng X.K true):=by
 intro lX s σ H x y v u Q I rx ry h;obtain⟨a,b,xs,ys,rfl,rfl,hk,h⟩:=h;cases rx; cases ry;rcases hk with ⟨ha,hb⟩ | ⟨ha,hb⟩
 ·obtain⟨vj,r1,p1,_⟩:=I.list ha;obtain⟨vm,r2,p2,_⟩:=I.list hb;have l1:=r1.length;have l2:=r2.length;rcases h with ⟨hl,_,q⟩ | ⟨hl,e,he,q⟩
  ·exact SeqAt.RcNeAt.lists_lengths p1.isList p2.isList (by simp only [aq,bne_iff_ne]; lia) #[O] _ _ _ _ ⟨.bl true,H,I,rfl,q⟩
  ·refine SeqAt.RcNeAt.lists p1.isList p2.isList (e:=e) (by simp only [aq]; lia) #[O] (fun j h1 h2=>?_) _ _ _ _ ⟨.bl _,H,I,rfl,?_⟩
   ·obtain⟨x,hx,rx⟩:=r1.getE h1;obtain⟨y,hy,ry⟩:=r2.getE h2;exact (he j x y hx hy).at I _ _ _ rx ry (by simp only [dN]; lia)
   ·rw [aq,← l1];exact q
 ·obtain⟨vj,r1,p1,_⟩:=I.tuple ha;obtain⟨vm,r2,p2,_⟩:=I.tuple hb;have l1:=r1.length;have l2:=r2.length;rcases h with ⟨hl,he,q⟩ | ⟨hl,e,he,q⟩
  ·have sN:∀ j:Nat,∃ c:Bool,∀ x y,xs[j]? = some x→ys[j]? = some y→EqD X.K H 8 x y c:=fun j=>by
    cases hx:xs[j]? with
    | none=>exact⟨true,fun x y z=>by cases z⟩
    | some x =>
     cases hy:ys[j]? with
     | none=>exact⟨true,fun x y _ z=>by cases z⟩
     | some y =>
      obtain⟨c,hc⟩:=he j x y hx hy;exact⟨c,fun x' y' z1 z2=>by cases z1; cases z2; exact hc⟩
   obtain⟨e,AI⟩:=Classical.axiomOfChoice sN;refine jB (s:=s) p1 p2 (e:=e) #[O] (fun j h1 h2=>?_) _ _ _ _ ⟨.bl _,H,I,rfl,?_⟩
   ·obtain⟨x,hx,rx⟩:=r1.getE h1;obtain⟨y,hy,ry⟩:=r2.getE h2;exact (AI j x y hx hy).at I _ _ _ rx ry (by simp only [dN]; lia)
   ·have oZ:(vj.toArray.size == vm.toArray.size)=false:=by
     rw [aq,aq]; exact beq_eq_false_iff_ne.mpr #[O]
    rw [oZ,lq];exact q
  ·refine jB (s:=s) p1 p2 (e:=e) #[O] (fun j h1 h2=>?_) _ _ _ _ ⟨.bl _,H,I,rfl,?_⟩
   ·obtain⟨x,hx,rx⟩:=r1.getE h1;obtain⟨y,hy,ry⟩:=r2.getE h2;exact (he j x y hx hy).at I _ _ _ rx ry (by simp only [dN]; lia)
   ·have oZ:(vj.toArray.size == vm.toArray.size)=true:=by
     rw [aq,aq]; exact beq_iff_eq.mpr #[O]
    have AJ:min vj.toArray.size vm.toArray.size=xs.length:=by rw [aq,aq]; lia
    rw [oZ,Bool.and_true,AJ];exact q
theorem zaP {X:Cx}:za1 X (.builtin "isinstance") (fun xs H Q=>∃ x t n b,xs = [x,.ty n]∧TyOf X.K H x t∧aY X.K t (.type n)=some b∧Q (.bl b) H):=by
 intro lX s σ H xs us Q I r h;obtain⟨x,t,n,b,rfl,ty,hk,q⟩:=h;obtain⟨u,u',rfl,rx,r2⟩:=vals2 r;cases r2;exact zh3 I rx ty hk fun tk=>⟨.bl b,H,I.tok tk,rfl,q⟩
theorem zfA {X:Cx}:za1 X (.type "range") (fun xs H Q=>∃ j:Int,xs = [.int j]∧∀ l,H l=none→Q (.ref l) (l7 H l (.rng 0 j))):=by
 intro lX s σ H xs us Q I r h;obtain⟨j,rfl,q⟩:=h;obtain⟨u,rfl,t,rfl⟩:=vals1 r;refine call_range_1 ?_;exact⟨.ref s.heap.objs.size,_,I.laid (o:=.rng 0 j) (fun b o e=>aj _ e) (ah _) ⟨_,_,_,aB _ rfl⟩,rfl,q _ I.fresh⟩
def zbg (lo:Int) (n:Nat):List Int:=(ba n).map fun (i:Nat)=>lo+(i:Int)
theorem zb5 (lo:Int) (n:Nat):(zbg lo n).length=n:=by simp [zbg]
theorem zd2 {acc:Array Value} {lo:Int} {n:Nat} (h:ItemsOf (fun i v=>∃ t,v = .int (lo+(i:Nat)*1) t) acc n):zA ((zbg lo n).map V.int) acc.toList:=by
 obtain⟨hsz,hv⟩:=h;have go:∀ (us:List Value) (k:Nat),(∀ (j:Nat) v,us[j]? = some v→∃ t,v = .int (lo+((k+j:Nat):Int)) t)→zA (((ba us.length).map fun (i:Nat)=>V.int (lo+((k+i:Nat):Int)))) us:=by
  intro us;induction us with
  | nil=>intro k _; exact .nil
  | cons u us ih =>
   intro k hu;rw [bq,fC,aP,br];refine .cons ?_ ?_
   ·obtain⟨t,e⟩:=hu 0 u rfl;exact⟨t,e⟩
   ·have:=ih (k+1) fun j v e=>by
     obtain⟨t,z⟩:=hu (j+1) v (by simpa using e);exact⟨t,by rw [z]; congr 1; lia⟩
    have e2:(fun (i:Nat)=>V.int (lo+((k+1+i:Nat):Int)))=((fun (i:Nat)=>V.int (lo+((k+i:Nat):Int))) ∘ Nat.succ):=by
     funext i;show V.int _=V.int _;congr 2;show ((k+1+i:Nat):Int)=((k+(i+1):Nat):Int);lia
    rw [← e2];exact this
 have h1:=go acc.toList 0 fun j v e=>by
  obtain⟨t,z⟩:=hv j v (by simpa using e);exact⟨t,by rw [z]; simp⟩
 have e1:acc.toList.length=n:=by simpa using hsz
 rw [e1] at h1;unfold zbg;rw [br];have e2:(V.int ∘ fun (i:Nat)=>lo+(i:Int))=fun (i:Nat)=>V.int (lo+((0+i:Nat):Int)):=by
  funext i;show V.int (lo+(i:Int))=V.int (lo+((0+i:Nat):Int));rw [cq]
 rw [e2];exact h1
theorem zd3 {X:Cx} (hc:X.calm=true):za1 X (.type "list") (fun xs H Q=>∃ p hi,xs = [.ref p]∧H p=some (.rng 0 hi)∧0≤hi∧hi≤1000∧∀ l,H l=none→Q (.ref l) (l7 H l (.lst ((zbg 0 hi.toNat).map V.int)))):=by
 intro lX s σ H xs us Q I r h;obtain⟨p,hi,rfl,hp,h0,h1,q⟩:=h;obtain⟨u,rfl,rx⟩:=vals1 r;cases rx;obtain⟨t,u',v,e⟩:=(show zO X.prog X.w H s.heap p (.rng 0 hi) from I.hok p _ hp);have qm:=bL;refine call_list_range (n:=hi.toNat) (I.ok.hd hc) (show IsRange s.heap p 0 hi 1 t u' v from e) (small_one #[O] #[O] #[O] #[O]) (by rw [rangeSize_one]; split <;> lia) #[O] fun h' tk vn c' kk ho vo=>?_
 have hv:=zd2 (lo:=0) (n:=hi.toNat) vo;refine⟨.ref s.heap.objs.size,_,I.laid kk (ah _) ?_,rfl,q _ I.fresh⟩;exact⟨by rw [ae,zb5]; lia,vn.toList,c',hv,by simpa using ho⟩
def znM (K:ag) (tl:TE):TI:=fun σ H R=>tl σ H fun x H1=>∃ a,x = .ref a∧(((∃ xs,l8 K H1 a xs)∧R (Itl K a) H1)∨((∃ xs,mj K H1 a xs)∧R (Itt K a) H1))
theorem zms {X:Cx} {tg l:Expr} {tl:TE} (hl:PE X l tl):PI X tg l (znM X.K tl):=by
 intro lX s σ H R I h;refine thn (hl lX s σ H _ I h) fun v s1 ⟨x,H1,I1,r1,q1⟩=>?_
 obtain⟨a,e,q⟩:=q1;subst e;cases r1;rcases q with ⟨⟨xs,hq⟩,q⟩ | ⟨⟨xs,hq⟩,q⟩
 ·obtain⟨lY,rv,p,hz⟩:=I1.list hq;refine gQ p.isList ?_;refine⟨s1.heap.objs.size,[s1.heap.objs.size],_,_,H1,rfl,I1.kept (t':=s1.toks) fun b o e=>aj _ e,zed a _,⟨_,aB _ rfl,rfl,rfl⟩,fun b hb=>?_,q⟩;have e:b=s1.heap.objs.size:=by simpa using hb
  subst e;exact I1.fpOk (ah _) (I1.hok.fresh (ah _))
 ·obtain⟨lY,rv,p,hz⟩:=I1.tuple hq;refine jN (show s1.heap.IsTuple a lY.toArray from p) ?_;refine⟨s1.heap.objs.size,[s1.heap.objs.size],_,_,H1,rfl,I1.kept (t':=s1.toks) fun b o e=>aj _ e,zdm a _,⟨_,aB _ rfl,rfl,rfl⟩,fun b hb=>?_,q⟩;have e:b=s1.heap.objs.size:=by simpa using hb
  subst e;exact I1.fpOk (ah _) (I1.hok.fresh (ah _))
def intsOf:List Expr→Option (List Int)
 | []=>some []
 | .Constant (.int i) _ _ :: r=>(intsOf r).map (i :: ·)
 | _=>none
def zer (ns:List Int):TA:=fun _ H Q=>Q (ns.map V.int) H
theorem zjx {X:Cx}:∀ (es:List Expr) (ns:List Int),intsOf es=some ns→PA X es (zer ns):=by
 intro es;induction es with
 | nil =>
  intro ns h;have e:ns = []:=(aX h).symm;subst e;exact zc
 | cons e r ih =>
  intro ns h;unfold intsOf at h;split at h
  ·rename_i heq
   cases heq
  ·rename_i i j p r' heq
   injection heq with e1 e2
   subst e1 e2;cases hr:intsOf r with
   | none=>rw [hr] at h; cases h
   | some ms =>
    rw [hr] at h;have e:i :: ms=ns:=aX h;subst e;exact za zf (ih ms hr)
  ·cases h
theorem zkX {X:Cx} {es:List Expr} {ns:List Int} (h:intsOf es=some ns):PA X es (zer ns):=zjx es ns h
theorem zfB {X:Cx} {i:Int} {j:Nat} {p:Pos} {es:List Expr} {t:TA} (hr:PA X es t):PA X (.Constant (.int i) j p :: es) (zg5 (tC (.int i)) t):=za zf hr
theorem zjy {X:Cx} {i:Nat} {x:Str} {pos' pf nI:Pos} {rest:List Stmt} {u:TS} {es:List Expr} {ns:List Int} (h:intsOf es=some ns) (hN:X.N.Nodup) (hi:X.N[i]? = some x) (hx:Loc X.env.scope x)
  (hf:X.fn x=true∨X.env.scope.names.lookup x=some .local) (hr:PSs X rest u):PSs X (.Assign [.Name x pos'] (.List es pf) nI :: rest) (zaE (zdY (zgn (zer ns)) (zaB i)) u):=by
 have h1:PE X (.List es pf) (zgn (zer ns)):=@z5 X es (zer ns) pf (@zkX X es ns h);have h2:PS X (.Assign [.Name x pos'] (.List es pf) nI) (zdY (zgn (zer ns)) (zaB i)):=zr hN hi hx h1 (by rfl) hf;exact zd h2 hr
section
variable {X:Cx} {K:ag}
theorem zds (hK:X.K=K):IxR X (znc K):=by subst hK; exact zV
theorem zhi (hK:X.K=K):IxR X (znd K):=by subst hK; exact zcd
def znh (K:ag):List V→Hp→VK→Prop:=fun xs H Q=>∃ p ys,xs = [.ref p]∧(l8 K H p ys∨mj K H p ys)∧Q (.int ys.length) H
theorem zb6 (hK:X.K=K):za1 X (.builtin "len") (znh K):=by subst hK; exact zv
theorem zc8 {es:List Expr} {k:Nat} {t:TGs} {n:Nat} {pos:Pos} (hK:X.K=K) (hc:X.calm=true) (h:PGs X es t)
  (hn:(assignEach es X.env).length=n:=by rfl) (n9:(assignEach es X.env).findIdx? (·.1)=none:=by rfl):PG X (.Tuple es k pos) (zjb K n t):=by subst hK; exact zcc hc h hn n9
theorem zmt {o e:Expr} {es:List Expr} {to:TE} {t:TA} {name:Str} {apos mC:Pos} {T id:String} {r:V→List V→Hp→VK→Prop} (hK:X.K=K) (pa:PlainAttrs T) (slot:Slot T name id) (An:typeOf (.builtin id)=pure (.type "method_descriptor")) (hm:MtR X id r) (ho:PE X o to) (ha:PA X (e :: es) t)
  (sI:attributeBase o name X.env (eval o X.env)=eval o X.env:=by rfl)
  (vb:((backTo mC (starEach (e :: es) X.env)).all (fun x=>!x.1) && (backToKw mC (keywordEach [] X.env)).all (fun x=>x.1.isSome)
   && decide ((e :: es).length+([]:List Keyword).length+(if ([]:List Keyword).isEmpty then 0 else 1) < 30))=true:=by rfl)
  (sJ:(apos.endLine == mC.line)=true:=by rfl) (hs:starEach (e :: es) X.env=(false,eval e X.env) :: starEach es X.env:=by rfl) (qw:(backTo mC (starEach es X.env)).any (·.1)=false:=by rfl) :
  PE X (.Call (.Attribute o name apos) (e :: es) [] mC) (tBM K T r to t):=by subst hK; exact zfv pa slot An hm ho ha sI vb sJ hs qw
end
end L2
end
section
namespace My
def Cg (p a b:Int):Prop:=∃ k,a=b+p*k
theorem Cg.refl (p a:Int):Cg p a a:=⟨0,by grind⟩
theorem Cg.symm {p a b:Int} (h:Cg p a b):Cg p b a:=by obtain⟨k,e⟩:=h; exact⟨-k,by grind⟩
theorem Cg.trans {p a b c:Int} (h:Cg p a b) (h':Cg p b c):Cg p a c:=by
 obtain⟨k,e⟩:=h; obtain⟨l,e'⟩:=h'; exact⟨k+l,by grind⟩
theorem Cg.add {p a b c d:Int} (h:Cg p a b) (h':Cg p c d):Cg p (a+c) (b+d):=by
 obtain⟨k,e⟩:=h; obtain⟨l,e'⟩:=h'; exact⟨k+l,by grind⟩
theorem Cg.sub {p a b c d:Int} (h:Cg p a b) (h':Cg p c d):Cg p (a - c) (b - d):=by
 obtain⟨k,e⟩:=h; obtain⟨l,e'⟩:=h'; exact⟨k - l,by grind⟩
theorem Cg.mul {p a b c d:Int} (h:Cg p a b) (h':Cg p c d):Cg p (a*c) (b*d):=by
 obtain⟨k,e⟩:=h; obtain⟨l,e'⟩:=h';exact⟨k*d+b*l+p*k*l,by subst e e'; grind⟩
theorem Cg.of_eq {p a b:Int} (h:a=b):Cg p a b:=h ▸ Cg.refl p a
theorem Cg.emod (p a:Int):Cg p (a % p) a:=⟨-(a / p),by have:=Int.emod_add_mul_ediv a p; grind⟩
theorem Cg.mod_eq {p a b:Int} (h:Cg p a b):a % p=b % p:=by
 obtain⟨k,e⟩:=h; rw [e,Int.add_mul_emod_self_left]
theorem Cg.of_mod {p a b:Int} (h:a % p=b % p):Cg p a b:=(Cg.emod p a).symm.trans (h ▸ Cg.emod p b)
theorem Cg.eq {p a b:Int} (h:Cg p a b) (ha:0≤a) (ha':a < p) (hb:0≤b) (oZ:b < p):a=b:=by
 have:=h.mod_eq
 rwa [dE ha ha',dE hb oZ] at this
def zm (p x:Int):List Int→Int
 | []=>0
 | c :: r=>(c+x*zm p x r) % p
theorem zaM {p x:Int} (hp:0 < p):∀ l,0≤zm p x l
 | []=>bX 0
 | _ :: _=>a8 _ #[O]
theorem zaN {p x:Int} (hp:0 < p):∀ l,zm p x l < p
 | []=>hp
 | _ :: _=>aU _ hp
theorem zC (p x c:Int) (r:List Int):Cg p (zm p x (c :: r)) (c+x*zm p x r):=Cg.emod _ _
def lv (p x:Int):Int→Int→List Int→Int
 | md,_,[]=>md
 | md,power,c :: r=>lv p x ((md+c*power) % p) (power*x % p) r
theorem zlS {p x:Int}:∀ (l:List Int) (md power:Int),Cg p (lv p x md power l) (md+power*zm p x l)
 | [],md,power=>Cg.of_eq (by show md=md+power*0; grind)
 | c :: r,md,power=>by
  have h1:=zlS (p:=p) (x:=x) r ((md+c*power) % p) (power*x % p);refine h1.trans ?_;have h2:Cg p ((md+c*power) % p+power*x % p*zm p x r) (md+c*power+power*x*zm p x r):=(Cg.emod p _).add ((Cg.emod p (power*x)).mul (Cg.refl p _));refine h2.trans ?_;have h3:Cg p (md+power*(c+x*zm p x r)) (md+power*zm p x (c :: r)):=(Cg.refl p _).add ((Cg.refl p _).mul (zC p x c r).symm);refine (Cg.of_eq ?_).trans h3;grind
theorem zjz {p x:Int} (hp:0 < p):∀ (l:List Int) (md power:Int),0≤md→md < p→0≤lv p x md power l∧lv p x md power l < p
 | [],md,power,h1,h2=>⟨h1,h2⟩
 | c :: r,md,power,h1,h2=>zjz hp r _ _ (a8 _ #[O]) (aU _ hp)
theorem zhj {p x:Int} (hp:0 < p) (l:List Int):lv p x 0 1 l=zm p x l:=by
 obtain⟨a,b⟩:=zjz (x:=x) hp l 0 1 (bX _) hp;exact ((zlS l 0 1).trans (Cg.of_eq (by grind))).eq a b (zaM hp l) (zaN hp l)
def zw:List Int:=[5,7,11,13,17,19,23,29,31,37,41,43,47,53,59,61,67,71,73,79,83,89,97]
def zhk (p:Int):Nat→Int→Int→Int→Int
 | 0,prod,_,_=>prod
 | n+1,prod,sq,left=>if 0 < left then zhk p n (if left % 2=1 then prod*sq % p else prod) (sq*sq % p) (left / 2) else prod
def inv (p h:Int):Int:=zhk p 7 1 (h % p) (p - 2)
def znN:Bool:=zw.all fun p=>(ba p.toNat).all fun h=>h == 0 || (inv p h*h) % p == 1
theorem zia:znN=true:=by decide +kernel
theorem zL {p:Int} (hp:p∈zw):5≤p∧p≤97:=by
 have:zw.all (fun p=>decide (5≤p∧p≤97))=true:=by decide +kernel
 have:=eE.mp this p hp;simpa using this
theorem zgv {p h:Int} (hp:p∈zw) (h0:0 < h) (h1:h < p):Cg p (inv p h*h) 1:=by
 have e:=eE.mp (eE.mp zia p hp) h.toNat (bA.mpr #[O]);have hh:((h.toNat:Nat):Int)=h:=by lia
 have:h.toNat≠0:=by lia
 simp only [bz,beq_iff_eq,hh,this,false_or] at e;have hr:=zL hp;exact Cg.of_mod (by rw [e,dE #[O] #[O]])
theorem zfC {p a b:Int} (hp:p∈zw) (h:Cg p (a*b) 0):Cg p a 0∨Cg p b 0:=by
 have hr:=zL hp;by_cases ha:a % p=0
 ·exact .inl (Cg.of_mod (by rw [ha]; simp))
 ·right;have h0:0 < a % p:=by have:=a8 a (show p≠0 by lia); lia
  have hi:=zgv hp h0 (aU a #[O]);have h1:Cg p (inv p (a % p)*(a*b)) 0:=((Cg.refl p _).mul h).trans (Cg.of_eq (by grind));have h2:Cg p (inv p (a % p)*(a % p)*b) (1*b):=hi.mul (Cg.refl p b);have h3:Cg p (inv p (a % p)*(a*b)) (inv p (a % p)*(a % p)*b):=by
   have:=((Cg.refl p (inv p (a % p))).mul (Cg.emod p a).symm).mul (Cg.refl p b);exact (Cg.of_eq (by grind)).trans this
  exact ((Cg.of_eq (by grind)).trans (h2.symm.trans (h3.symm.trans h1)))
def trF (p r:Int) (high low:Int):Int:=(high - r*low) % p
def zba (p r:Int) (v:List Int):List Int:=bT (trF p r) (0 :: v) (v++[0])
theorem zjA {p r z:Int}:∀ (v:List Int) (h:Int),Cg p (zm p z (bT (trF p r) (h :: v) (v++[0]))) (h+(z - r)*zm p z v)
 | [],h=>by
  show Cg p ((trF p r h 0+z*0) % p) (h+(z - r)*0);refine (Cg.emod p _).trans ?_;have:Cg p (trF p r h 0) (h - r*0):=Cg.emod p _;exact (this.add (Cg.refl p (z*0))).trans (Cg.of_eq (by grind))
 | c :: w,h=>by
  show Cg p ((trF p r h c+z*zm p z (bT (trF p r) (c :: w) (w++[0]))) % p) (h+(z - r)*zm p z (c :: w));have ih:=zjA (p:=p) (r:=r) (z:=z) w c;have h1:Cg p (trF p r h c) (h - r*c):=Cg.emod p _;refine (Cg.emod p _).trans ((h1.add ((Cg.refl p z).mul ih)).trans ?_);have h2:Cg p (h+(z - r)*(c+z*zm p z w)) (h+(z - r)*zm p z (c :: w)):=(Cg.refl p h).add ((Cg.refl p _).mul (zC p z c w).symm);exact (Cg.of_eq (by grind)).trans h2
theorem zkY {p r z:Int} (v:List Int):Cg p (zm p z (zba p r v)) ((z - r)*zm p z v):=(zjA v 0).trans (Cg.of_eq (by grind))
theorem zcN (p r:Int) (v:List Int):(zba p r v).length=v.length+1:=by simp [zba]
theorem zfD {α β γ:Type} {f:α→β→γ}:∀ {as:List α} {bs:List β} {c:γ},c∈bT f as bs→∃ a b,c=f a b
 | [],_,c,h=>by simp at h
 | _ :: _,[],c,h=>by simp at h
 | a :: as,b :: bs,c,h=>by
  rcases au.mp h with e | e
  ·exact⟨a,b,e⟩
  ·exact zfD e
theorem zjB {p r:Int} (hp:0 < p) (v:List Int):∀ c∈zba p r v,0≤c∧c < p:=by
 intro c hc;obtain⟨a,b,e⟩:=zfD hc;rw [e]; exact⟨a8 _ #[O],aU _ hp⟩
def ad (p f:Int):List Int→List Int→List Int
 | c :: cs,v :: vs=>(c+f*v) % p :: ad p f cs vs
 | cs,[]=>cs
 | [],_ :: _=>[]
theorem zes (p f:Int):∀ (cs vs:List Int),(ad p f cs vs).length=cs.length
 | _ :: cs,_ :: vs=>by show (ad p f cs vs).length+1=_; rw [zes p f cs vs]; rfl
 | [],[]=>rfl
 | _ :: _,[]=>rfl
 | [],_ :: _=>rfl
theorem zjC {p f:Int} (hp:0 < p):∀ (cs vs:List Int),(∀ c∈cs,0≤c∧c < p)→∀ c∈ad p f cs vs,0≤c∧c < p
 | c :: cs,v :: vs,h,d,hd=>by
  rcases au.mp hd with e | e
  ·rw [e]; exact⟨a8 _ #[O],aU _ hp⟩
  ·exact zjC hp cs vs (fun c hc=>h c (ai _ hc)) d e
 | [],[],h,d,hd=>h d hd
 | _ :: _,[],h,d,hd=>h d hd
 | [],_ :: _,h,d,hd=>by cases hd
theorem zhl {p f z:Int}:∀ (cs vs:List Int),vs.length≤cs.length→Cg p (zm p z (ad p f cs vs)) (zm p z cs+f*zm p z vs)
 | c :: cs,v :: vs,h=>by
  have ih:=zhl (p:=p) (f:=f) (z:=z) cs vs (by simpa using h);show Cg p (((c+f*v) % p+z*zm p z (ad p f cs vs)) % p) (zm p z (c :: cs)+f*zm p z (v :: vs));refine (Cg.emod p _).trans (((Cg.emod p (c+f*v)).add ((Cg.refl p z).mul ih)).trans ?_);have h2:Cg p ((c+z*zm p z cs)+f*(v+z*zm p z vs)) (zm p z (c :: cs)+f*zm p z (v :: vs)):=(zC p z c cs).symm.add ((Cg.refl p f).mul (zC p z v vs).symm);exact (Cg.of_eq (by grind)).trans h2
 | [],[],_=>Cg.of_eq (by show (0:Int)=0+f*0; grind)
 | c :: cs,[],_=>Cg.of_eq (by show zm p z (c :: cs)=zm p z (c :: cs)+f*0; grind)
 | [],_ :: _,h=>by simp at h
def zjD (p:Int) (s:List Int×List Int) (q:Int×Int):List Int×List Int :=
 (ad p ((q.2 - zm p q.1 s.1)*inv p (zm p q.1 s.2) % p) s.1 s.2,zba p q.1 s.2)
def znO (p:Int) (n:Nat) (mI:List (Int×Int)):List Int×List Int:=mI.foldl (zjD p) (ap n 0,[1])
def thr (p:Int) (mI:List (Int×Int)):List Int:=(znO p mI.length mI).1
def zbQ (z:Int):List (Int×Int)→Int
 | []=>1
 | q :: r=>(z - q.1)*zbQ z r
theorem zdt (z:Int) (q:Int×Int):∀ l,zbQ z (l++[q])=zbQ z l*(z - q.1)
 | []=>by show (z - q.1)*1=1*(z - q.1); grind
 | a :: l=>by show (z - a.1)*zbQ z (l++[q])=(z - a.1)*zbQ z l*(z - q.1); rw [zdt z q l]; grind
theorem zdu {z:Int}:∀ {l:List (Int×Int)},(∃ q∈l,q.1=z)→zbQ z l=0
 | [],h=>by obtain⟨q,hq,_⟩:=h; cases hq
 | a :: l,h=>by
  show (z - a.1)*zbQ z l=0;obtain⟨q,hq,e⟩:=h;rcases au.mp hq with hq | hq
  ·subst hq; rw [e]; simp
  ·rw [zdu ⟨q,hq,e⟩]; simp
theorem zfE {p z:Int} (hp:p∈zw) (hz:0≤z) (hz':z < p):∀ {l:List (Int×Int)},(∀ q∈l,0≤q.1∧q.1 < p∧q.1≠z)→¬ Cg p (zbQ z l) 0
 | [],_,h=>by
  have hr:=zL hp;have:=h.mod_eq;have e1:(zbQ z []:Int)=1:=rfl;rw [e1,dE #[O] #[O]] at this;simp at this
 | a :: l,hl,h=>by
  rcases zfC hp (show Cg p ((z - a.1)*zbQ z l) 0 from h) with h | h
  ·obtain⟨h1,h2,h3⟩:=hl a ao;have:Cg p z a.1:=by
    have:=h.add (Cg.refl p a.1);exact (Cg.of_eq (by grind)).trans (this.trans (Cg.of_eq (by grind)))
   exact h3 (this.eq hz hz' h1 h2).symm
  ·exact zfE hp hz hz' (fun q hq=>hl q (ai _ hq)) h
structure Nw (p:Int) (n:Nat) (done:List (Int×Int)) (s:List Int×List Int):Prop where
 lc:s.1.length=n
 lv:s.2.length=done.length+1
 rc:∀ c∈s.1,0≤c∧c < p
 rv:∀ c∈s.2,0≤c∧c < p
 van:∀ z,Cg p (zm p z s.2) (zbQ z done)
 hit:∀ q∈done,zm p q.1 s.1=q.2
theorem zjE {p:Int} (hp:p∈zw) (n:Nat):Nw p n [] (ap n 0,[1]):=by
 have hr:=zL hp;refine⟨#[M],rfl,fun c hc=>?_,fun c hc=>?_,fun z=>?_,fun q hq=>by cases hq⟩
 ·obtain⟨_,e⟩:=gC.mp hc;lia
 ·have:c=1:=by simpa using hc
  lia
 ·show Cg p ((1+z*0) % p) 1;exact (Cg.emod p _).trans (Cg.of_eq (by grind))
theorem zkZ {p:Int} {n:Nat} {done:List (Int×Int)} {s:List Int×List Int} (hp:p∈zw) (h:Nw p n done s) {q:Int×Int} (q0:0≤q.1) (q1:q.1 < p) (hd:∀ a∈done,0≤a.1∧a.1 < p∧a.1≠q.1) :
  0 < zm p q.1 s.2∧zm p q.1 s.2 < p:=by
 have hr:=zL hp;refine⟨?_,zaN #[O] _⟩;have h0:=zaM (x:=q.1) (show 0 < p by lia) s.2;by_cases e:zm p q.1 s.2=0
 ·exact absurd ((h.van q.1).symm.trans (Cg.of_eq e)) (zfE hp q0 q1 hd)
 ·lia
theorem zib {p:Int} {n:Nat} {done:List (Int×Int)} {s:List Int×List Int} (hp:p∈zw) (h:Nw p n done s) {q:Int×Int} (q0:0≤q.1) (q1:q.1 < p) (hd:∀ a∈done,0≤a.1∧a.1 < p∧a.1≠q.1) :
  Cg p ((q.2 - zm p q.1 s.1)*inv p (zm p q.1 s.2) % p*zm p q.1 s.2) (q.2 - zm p q.1 s.1):=by
 obtain⟨h0,h1⟩:=zkZ hp h q0 q1 hd;have hi:=zgv hp h0 h1;refine ((Cg.emod p _).mul (Cg.refl p _)).trans ?_;have:=(Cg.refl p (q.2 - zm p q.1 s.1)).mul hi;exact (Cg.of_eq (by grind)).trans (this.trans (Cg.of_eq (by grind)))
theorem zk0 {p:Int} {n:Nat} {done:List (Int×Int)} {s:List Int×List Int} (hp:p∈zw) (h:Nw p n done s) {q:Int×Int} (hn:done.length < n) (q0:0≤q.1) (q1:q.1 < p) (q2:0≤q.2) (q3:q.2 < p)
  (hd:∀ a∈done,0≤a.1∧a.1 < p∧a.1≠q.1∧0≤a.2∧a.2 < p):Nw p n (done++[q]) (zjD p s q):=by
 have hr:=zL hp;have pK:∀ a∈done,0≤a.1∧a.1 < p∧a.1≠q.1:=fun a ha=>⟨(hd a ha).1,(hd a ha).2.1,(hd a ha).2.2.1⟩
 have hlv:=h.lv;have hlc:=h.lc;have hle:s.2.length≤s.1.length:=by lia
 refine⟨by show (ad _ _ _ _).length=n; rw [zes,h.lc],by show (zba _ _ _).length=_; rw [zcN,h.lv,aF,cD],zjC #[O] _ _ h.rc,zjB #[O] _,fun z=>?_,fun a ha=>?_⟩
 ·rw [zdt];exact (zkY s.2).trans (((Cg.refl p _).mul (h.van z)).trans (Cg.of_eq (by grind)))
 ·have hv:=zhl (p:=p) (f:=(q.2 - zm p q.1 s.1)*inv p (zm p q.1 s.2) % p) (z:=a.1) s.1 s.2 hle; rcases aR.mp ha with ha | ha
  ·obtain⟨b0,b1,b2,b3,b4⟩:=hd a ha;have hz:Cg p (zm p a.1 s.2) 0:=(h.van a.1).trans (Cg.of_eq (zdu ⟨a,ha,rfl⟩));have h2:Cg p (zm p a.1 (ad p ((q.2 - zm p q.1 s.1)*inv p (zm p q.1 s.2) % p) s.1 s.2)) (zm p a.1 s.1):=hv.trans (((Cg.refl p (zm p a.1 s.1)).add ((Cg.refl p _).mul hz)).trans (Cg.of_eq (by rw [jT,Int.add_zero])));rw [h.hit a ha] at h2;exact h2.eq (zaM #[O] _) (zaN #[O] _) b3 b4
  ·have e:a=q:=by simpa using ha
   subst e;have h2:Cg p (zm p a.1 (ad p ((a.2 - zm p a.1 s.1)*inv p (zm p a.1 s.2) % p) s.1 s.2)) a.2:=hv.trans (((Cg.refl p (zm p a.1 s.1)).add (zib hp h q0 q1 pK)).trans (Cg.of_eq #[O]));exact h2.eq (zaM #[O] _) (zaN #[O] _) q2 q3
structure Pts (p:Int) (mI:List (Int×Int)):Prop where
 nd:(mI.map (·.1)).Nodup
 rg:∀ q∈mI,0≤q.1∧q.1 < p∧0≤q.2∧q.2 < p
theorem Pts.apart {p:Int} {done rest:List (Int×Int)} {q:Int×Int} (h:Pts p (done++q :: rest)):∀ a∈done,0≤a.1∧a.1 < p∧a.1≠q.1∧0≤a.2∧a.2 < p:=fun a ha=>by
 obtain⟨r1,r2,r3,r4⟩:=h.rg a (aI _ ha);refine⟨r1,r2,fun e=>?_,r3,r4⟩;have nd:=h.nd;rw [aN,ca] at nd;exact nd.2.2 a.1 (aG.mpr ⟨a,ha,rfl⟩) q.1 #[M] e
theorem zjF {p:Int} (hp:p∈zw) {n:Nat}:∀ (rest done:List (Int×Int)) (s:List Int×List Int),Pts p (done++rest)→(done++rest).length=n→Nw p n done s→Nw p n (done++rest) (rest.foldl (zjD p) s)
 | [],done,s,_,_,h=>by rw [cQ]; exact h
 | q :: rest,done,s,hP,hn,h=>by
  have uH:done.length < n:=by rw [← hn]; simp
  obtain⟨a,b,c,d⟩:=hP.rg q #[M];have hs:=zk0 hp h (q:=q) uH a b c d hP.apart;have e:done++q :: rest=(done++[q])++rest:=by simp
  rw [e] at hP hn ⊢;exact zjF hp rest (done++[q]) _ hP hn hs
theorem zmu {p:Int} (hp:p∈zw) {mI:List (Int×Int)} (hP:Pts p mI):(thr p mI).length=mI.length∧(∀ c∈thr p mI,0≤c∧c < p)∧∀ q∈mI,zm p q.1 (thr p mI)=q.2:=by
 have h:=zjF hp (n:=mI.length) mI [] _ (by simpa using hP) #[M] (zjE hp mI.length);exact⟨h.lc,h.rc,h.hit⟩
end My
end
section
namespace My
open PySem L2 PyProof.Rows
section
variable {K:ag}
theorem zjG {ns:List Int} {k:Int} (h0:0≤k) (h1:k < ns.length):∃ c:Int,ns[k.toNat]? = some c∧atI (ns.map V.int) k=some (.int c):=by
 have ml:k.toNat < ns.length:=by lia
 have e:atI (ns.map V.int) ((k.toNat:Nat):Int)=some (.int ns[k.toNat]):=za8 (by simp [az,aE ml]);have hk:((k.toNat:Nat):Int)=k:=by lia
 rw [hk] at e;exact⟨ns[k.toNat],#[M],e⟩
theorem zeU {ns:List Int} {k:Int} (h0:0≤k) (h1:k < ns.length):∃ c:Int,atI (ns.map V.int) k=some (.int c):=let ⟨c,_,e⟩:=zjG h0 h1; ⟨c,e⟩
theorem ze {H:Hp} {a:Addr} {o:HO} (h:H a=none):zI H (l7 H a o):=fun b u e=>by rw [zi (zq e h)]; exact e
theorem zbm {H H':Hp} {a:Addr} {o:HO} (s:zI H H') (h:H a=none):zI H (l7 H' a o):=fun b u e=>by rw [zi (zq e h)]; exact s b u e
theorem zI.sqT {H H':Hp} {a:Addr} {xs:List V} (e:zI H H') (h:mj K H a xs):mj K H' a xs:=by
 rcases h with (h | ⟨o,h⟩) | h
 ·exact .inl (.inl (e _ _ h))
 ·exact .inl (.inr ⟨o,e _ _ h⟩)
 ·exact .inr h
theorem zaG {n:Nat} (h:n≤10000):n < sizeLine:=by rw [bL]; lia
def zic (K:ag):Sp:=fun vs H Q _=>∃ (a:Addr) (ns:List Int) (k:Int),vs = [.ref a,.int k]∧l8 K H a (ns.map V.int)∧ns.length≤63∧0≤k∧k≤1000∧∀ c:Int,Q (.int c) H
def zeV (many:Nat) (base:Int) (ds:List Int):Prop:=ds.length=many∧∀ d∈ds,0≤d∧d < base
def zgw (K:ag):Sp:=fun vs H Q _=>∃ (a:Addr) (ns:List Int) (k many base:Int),vs = [.ref a,.int k,.int many,.int base]∧l8 K H a (ns.map V.int)∧ns.length≤63∧0≤k∧k≤1000∧0≤many∧many≤1000∧0 < base∧base < 1073741824 ∧
 ∀ (l:Addr) (ds:List Int) (H':Hp),H l=none→zI H H'→zeV many.toNat base ds→H' l=some (.lst (ds.map V.int))→Q (.ref l) H'
abbrev zk1:List V:=[.int 2147483647,.int 2147483629,.int 2147483587,.int 2147483579,.int 2147483563,.int 2147483549,.int 2147483543,.int 2147483497]
theorem zk2 {m:Int} (h0:0≤m) (h1:m < 8):∃ q:Int,atI zk1 m=some (.int q)∧0 < q∧q < 2147483648:=by
 have:m=0∨m=1∨m=2∨m=3∨m=4∨m=5∨m=6∨m=7:=by lia
 rcases this with e | e | e | e | e | e | e | e <;> subst e <;> exact⟨_,rfl,#[D],#[D]⟩
theorem zdv (j:Int):∃ q:Int,atI zk1 (j % 8)=some (.int q)∧0 < q∧q < 2147483648:=zk2 (a8 _ #[D]) (aU _ #[D])
theorem gY {i:Nat} {x:V} {σ:L2.St} {H:Hp} {A B:L2.St→Hp→Prop} (h:A (σ.set i (some x)) H):zaB i x σ H (fun σ2 H2=>zml σ2 H2 fun b H3=>if b=true then A σ2 H3 else B σ2 H3):=by
 show (if true=true then A (σ.set i (some x)) H else B (σ.set i (some x)) H);rw [if_pos rfl];exact h
structure CodeOk (mk mn p k:Int) (pl:List Int):Prop where
 pr:p∈zw
 k1:1≤k
 kk:k≤mk
 kl:k≤pl.length
 ln:(pl.length:Int)≤mn
 nd:pl.Nodup
 rg:∀ x∈pl,0≤x∧x < p
def zid (K:ag):Sp:=fun vs H Q _=>∃ (a:Addr) (ns:List Int) (at' mk mn:Int),vs = [.ref a,.int at',.int mk,.int mn]∧l8 K H a (ns.map V.int)∧ns.length≤63∧0≤at'∧at'≤1000∧1≤mk∧mk≤5∧mk≤mn∧mn≤16 ∧
 ∀ (c tt:Addr) (p k:Int) (pl:List Int) (H':Hp),H c=none→zI H H'→CodeOk mk mn p k pl→H' c=some (.tup [.int p,.int k,.ref tt])→H' tt=some (.tup (pl.map V.int))→Q (.ref c) H'
theorem zmv {x y m:Int} (h0:0≤m) (h1:m < 2):∃ z:Int,atI [V.int x,V.int y] m=some (.int z)∧(z=x∨z=y):=by
 have:m=0∨m=1:=by lia
 rcases this with e | e <;> subst e
 ·exact⟨x,rfl,.inl rfl⟩
 ·exact⟨y,rfl,.inr rfl⟩
theorem zjH {ns:List Int} {k:Int} (h0:0≤k) (h1:k < ns.length):∃ c:Int,c∈ns∧atI (ns.map V.int) k=some (.int c):=by
 obtain⟨c,e,h⟩:=zjG h0 h1;exact⟨c,aO e,h⟩
theorem zet {α β:Type} (f:α→β):∀ (l:List α) (k:Nat),(l.map f).eraseIdx k=(l.eraseIdx k).map f
 | [],_=>rfl
 | _ :: _,0=>rfl
 | a :: l,k+1=>by show f a :: (l.map f).eraseIdx k=f a :: (l.eraseIdx k).map f; rw [zet f l k]
theorem erase_perm {α:Type}:∀ {l:List α} {k:Nat} {x:α},l[k]? = some x→(x :: l.eraseIdx k).Perm l
 | [],_,_,h=>by simp at h
 | a :: l,0,x,h=>by
  have e:a=x:=by simpa using h
  subst e;exact List.Perm.refl _
 | a :: l,k+1,x,h=>by
  have ih:=erase_perm (l:=l) (k:=k) (x:=x) (by simpa using h);exact (lu a x _).trans (ih.cons a)
theorem zk3 {p:Int} {xs ls:List Int} {k:Nat} {x:Int} (h:ls[k]? = some x) (nd:(xs++ls).Nodup) (rg:∀ y∈xs++ls,0≤y∧y < p):((xs++[x])++ls.eraseIdx k).Nodup∧∀ y∈(xs++[x])++ls.eraseIdx k,0≤y∧y < p:=by
 have hp:((xs++[x])++ls.eraseIdx k).Perm (xs++ls):=by
  rw [bf];exact (erase_perm h).append_left xs
 exact⟨hp.nodup_iff.mpr nd,fun y hy=>rg y (hp.mem_iff.mp hy)⟩
theorem zie (p:Int):(zbg 0 p.toNat).Nodup∧∀ y∈zbg 0 p.toNat,0≤y∧y < p:=by
 unfold zbg;constructor
 ·rw [aQ,bF];exact (aQ.mp (kJ (n:=p.toNat))).imp fun {a b} pN=>by lia
 ·intro y hy;obtain⟨i,hi,e⟩:=aG.mp hy;have:=bA.mp hi;lia
def zcZ (K:ag):Sp:=fun vs H Q _=>∃ (p x:Int) (a:Addr) (cs:List Int),vs = [.int p,.ref a,.int x]∧(l8 K H a (cs.map V.int)∨mj K H a (cs.map V.int))∧0 < p∧p≤97∧0≤x∧x < p∧Q (.int (zm p x cs)) H
def zgx (K:ag):Sp:=zcZ K
theorem zeu {cs:List Int} {i:Nat} {c:Int} (hi:i < cs.length) (h:cs[cs.length - 1 - i]? = some c):cs.drop (cs.length - (i+1))=c :: cs.drop (cs.length - i):=by
 have e:cs.length - (i+1)=cs.length - 1 - i:=by lia
 have ml:cs.length - 1 - i < cs.length:=by lia
 rw [e,cB ml];have:cs[cs.length - 1 - i]=c:=by
  rw [aE ml] at h;exact aX h
 rw [this];congr 2;lia
theorem zae {cs:List Int} {j:Nat} {x:V} (h:(cs.map V.int)[j]? = some x):∃ c,x = .int c∧cs[j]? = some c:=by
 rw [az] at h;cases e:cs[j]? with
 | none=>rw [e] at h; cases h
 | some c=>rw [e] at h; exact⟨c,(aX h).symm,rfl⟩
def zgy (K:ag):Sp:=fun vs H Q _=>∃ i:Int,vs = [.int i]∧Q (.bl true) H
theorem zhm {p x md power c:Int} {cs:List Int} {i:Nat} (h:cs[i]? = some c):lv p x md power (cs.drop i)=lv p x ((md+c*power) % p) (power*x % p) (cs.drop (i+1)):=by
 obtain⟨ml,e⟩:=aT.mp h;rw [cB ml,e];rfl
theorem gY2 {K:ag} {i j:Nat} {T:Addr} {x y:V} {σ:L2.St} {H:Hp} {A B:L2.St→Hp→Prop} (hT:mj K H T [x,y]) (h:A ((σ.set i (some x)).set j (some y)) H) :
  zjb K 2 (zfl (zaB i) (zfl (zaB j) zkN)) (.ref T) σ H (fun σ2 H2=>zml σ2 H2 fun b H3=>if b=true then A σ2 H3 else B σ2 H3):=by
 refine⟨T,_,rfl,hT,rfl,x,_,rfl,y,_,rfl,rfl,?_⟩;show (if true=true then A ((σ.set i (some x)).set j (some y)) H else B ((σ.set i (some x)).set j (some y)) H);rw [if_pos rfl];exact h
theorem zjI {f:Int→Int→Int} {as bs:List Int} {i:Nat} {x y:Int} (hx:as[i]? = some x) (hy:bs[i]? = some y):(bT f as bs).take (i+1)=(bT f as bs).take i++[f x y]:=by
 have e:(bT f as bs)[i]? = some (f x y):=by rw [fR,hx,hy]
 rw [gT,e,lE]
theorem zjJ (n:Nat):(ap n [V.int 0]).flatten=(ap n (0:Int)).map V.int:=by
 induction n with
 | zero=>rfl
 | succ n ih=>rw [cw,d9,ih,cw]; rfl
theorem zby {bs:List Addr} {i:Nat} {x:V} (h:(bs.map V.ref)[i]? = some x):∃ b,x = .ref b∧bs[i]? = some b:=by
 rw [az] at h;cases e:bs[i]? with
 | none=>rw [e] at h; cases h
 | some b=>rw [e] at h; exact⟨b,(aX h).symm,rfl⟩
theorem take_snoc {α:Type} {l:List α} {i:Nat} {x:α} (h:l[i]? = some x):l.take (i+1)=l.take i++[x]:=by
 rw [gT,h,lE]
theorem zgz {α:Type} {l:List α} {i:Nat} {x:α} (h:l[i]? = some x):l=l.take i++x :: l.drop (i+1):=by
 obtain⟨hi,e⟩:=aT.mp h; have:=bw i l;rw [cB hi,e] at this;exact this.symm
end
end My
end
section
namespace PySem
end PySem
end
section
namespace L2
open PySem PySem.Spec PyProof.Rows
end L2
end
section
namespace My
open PySem L2 PyProof.Rows
section
variable {K:ag}
def znY (H:Hp):V→Option (List V)
 | .ref a=>match H a with
  | some (.lst xs)=>some xs
  | _=>none
 | _=>none
def zav (H:Hp) (c tt:Addr) (p k:Int) (pl:List Int):Prop:=H c=some (.tup [.int p,.int k,.ref tt])∧H tt=some (.tup (pl.map V.int))
theorem zav.same {H H':Hp} {c tt:Addr} {p k:Int} {pl:List Int} (s:zI H H') (h:zav H c tt p k pl):zav H' c tt p k pl:=⟨s _ _ h.1,s _ _ h.2⟩
theorem zif {a:Addr} {xs:List V} {kp:V→Bool} {f:V→V} {g:TG} {ts:TT} {te:TE} {σ0:L2.St} {Q:VK} {H:Hp} (ha:l8 K H a xs) (hn:xs.length≤10000)
  (hs:∀ (i:Nat) (x:V) (R:VK) (B:Hp→Prop),xs[i]? = some x→(if kp x=true then R (f x) H else B H)→g x σ0 H fun σ2 H2=>ts σ2 H2 fun b H3=>if b=true then te σ2 H3 R else B H3)
  (hd:∀ D,H D=none→Q (.ref D) (l7 H D (.lst ((xs.filter kp).map f)))):cGo g ts te σ0 (Itl K a) Q H:=by
 refine zhb (n:=xs.length) (fun i ys H'=>ys=((xs.take i).filter kp).map f∧H'=H) ⟨#[M],rfl⟩ ?_ ?_ ?_ ?_
 ·rintro i ys H3 hi ⟨_,rfl⟩;exact⟨_,xs[i],ha,#[M]⟩
 ·rintro ys H3 ⟨_,rfl⟩;exact⟨_,ha,ah _⟩
 ·rintro i x ys H3 H4 hi ⟨rfl,rfl⟩ ⟨rfl,hx⟩;refine hs i x _ _ (hx _ ha) ?_;rw [take_snoc (hx _ ha),dY,aN];by_cases h:kp x=true
  ·rw [if_pos h];refine⟨zaG ?_,?_,rfl⟩
   ·rw [ae];exact bg (fS _ _) (bg (gf _ _) #[O])
   ·congr 1;simp [h]
  ·rw [if_neg h];refine⟨?_,rfl⟩;simp [h]
 ·rintro ys H3 D ⟨rfl,rfl⟩ hD;rw [dj];exact hd D hD
def sO:Option Int→V
 | none=>.non
 | some i=>.int i
def zbI (p:Int) (pl:List Int) (rw:List (Option Int)) (mv:List Int) (j:Nat):Bool:=match pl[j]?,rw[j]? with
 | some x,some (some i)=>decide (i=zm p x mv)
 | _,_=>false
def zeW (p:Int) (pl:List Int) (rw:List (Option Int)) (mv:List Int) (n:Nat):List Int:=((ba n).filter (zbI p pl rw mv)).map fun (j:Nat)=>(j:Int)
theorem zig {p:Int} {pl:List Int} {rw:List (Option Int)} {mv:List Int} {n:Nat}:zeW p pl rw mv (n+1)=zeW p pl rw mv n++if zbI p pl rw mv n then [(n:Int)] else []:=by
 unfold zeW;rw [iA,dY,aN];congr 1;by_cases h:zbI p pl rw mv n=true
 ·rw [if_pos h]; simp [h]
 ·rw [if_neg h]; simp [h]
def hide (H:Hp) (a:Addr):Hp:=fun b=>if b=a then none else H b
theorem zbn (H:Hp) (a:Addr):zI (hide H a) H:=fun b o e=>by
 unfold hide at e;split at e
 ·cases e
 ·exact e
theorem z7 {H:Hp} {a b:Addr} {o:HO} (h:H b=some o) (mo:b≠a):hide H a b=some o:=by unfold hide; rw [if_neg mo]; exact h
end
section
variable {K:ag}
def zk4 (K:ag):Sp:=fun vs H Q _=>∃ (c tt ra po:Addr) (p k:Int) (pl mv:List Int) (rw:List (Option Int)),vs = [.ref c,.ref ra,.ref po]∧zav H c tt p k pl∧H ra=some (.lst (rw.map sO))∧rw.length=pl.length∧H po=some (.tup (mv.map V.int))∧0 < p∧p≤97∧(∀ x∈pl,0≤x∧x < p)∧pl.length≤100 ∧
 ∀ (l:Addr) (H':Hp),H l=none→zI H H'→H' l=some (.lst ((zeW p pl rw mv pl.length).map V.int))→Q (.ref l) H'
def zih (K:ag):Sp:=zk4 K
theorem zii (o:Option Int) (z:Int):zme (.int z) (sO o)=true:=by cases o <;> rfl
theorem zjK {p:Int} {pl:List Int} {rw:List (Option Int)} {mv:List Int} {j:Nat} {x:Int} {o:Option Int} (hx:pl[j]? = some x) (ho:rw[j]? = some o):zbI p pl rw mv j=decide (sO o = .int (zm p x mv)):=by
 unfold zbI;rw [hx,ho];cases o with
 | none=>rfl
 | some i=>simp [sO]
def za4 (rw:List (Option Int)) (n:Nat):List Int:=((ba n).filter fun j=>(rw[j]?.getD none).isSome).map fun (j:Nat)=>(j:Int)
theorem zgA {rw:List (Option Int)} {n:Nat}:za4 rw (n+1)=za4 rw n++if (rw[n]?.getD none).isSome=true then [(n:Int)] else []:=by
 unfold za4;rw [iA,dY,aN];congr 1;by_cases h:(rw[n]?.getD none).isSome=true
 ·rw [if_pos h]; simp [h]
 ·rw [if_neg h]; simp [h]
theorem zcn (rw:List (Option Int)) (n:Nat):(za4 rw n).length≤n:=by
 unfold za4;rw [ae];exact bg (fS _ _) (by rw [df]; exact ah _)
def zmw (p:Int) (pl:List Int) (rw:List (Option Int)) (mv:List Int):V→Bool
 | .int z=>zbI p pl rw mv z.toNat
 | _=>false
theorem zij {p:Int} {pl:List Int} {rw:List (Option Int)} {mv:List Int} (n:Nat):(((za4 rw n).map V.int).filter (zmw p pl rw mv)).map id=(zeW p pl rw mv n).map V.int:=by
 rw [gu];unfold za4 zeW;rw [iB,iB,List.filter_filter];congr 2;refine gU fun j _=>?_
 show (zbI p pl rw mv ((j:Int)).toNat && (rw[j]?.getD none).isSome)=zbI p pl rw mv j;rw [bC];by_cases h:zbI p pl rw mv j=true
 ·rw [h,lF];unfold zbI at h;split at h
  ·rename_i _ _ e; rw [e]; rfl
  ·cases h
 ·rw [Bool.eq_false_iff.mpr h,lh]
theorem zik {rw:List (Option Int)} {n:Nat} {z:Int} (h:z∈za4 rw n):∃ j:Nat,z=j∧j < n:=by
 unfold za4 at h;obtain⟨j,hj,e⟩:=aG.mp h;exact⟨j,e.symm,bA.mp (eO.mp hj).1⟩
end
end My
end
section
namespace PySem
end PySem
namespace L2
open PySem PySem.Spec PyProof.Rows
section
variable {prog:Program} {w:World} {A:Around} {h:Heap} {g:Array GenState} {d:Drawn} {tk:Nat} {os:OsState} {K:ag} {x C:Addr} {E:Value→Shared→Prop}
theorem zgB {R:Result→Shared→Prop} {tp:Value} (J:∀ M,fK M h (typeOf (.ref x)) (.ref C)) (X:K.In h)
  (hm:bH K C (.type "object")=some true) (q:R (.ok (.ret (.ref C))) ⟨h,g,d,tk,os⟩) :
  codeAny (model prog w) A (Code.call (.builtin "getset_descriptor.__get__") { pos:=[.builtin "object.__class__",.ref x,tp] }) R ⟨h,g,d,tk,os⟩:=by
 refine f6 PySem.W.KF.slot_gs.plain PySem.W.KF.entry_gs (PySem.W.KF.slot_gs.check _ _ _ _ _ _ _ _ ?_ (PySem.W.KF.args_gs _ _ _) ?_)
 ·exact fT
 ·unfold Builtin.«getset_descriptor.__get__» kg;rw [PySem.W.dga_obj];refine aa (af ?_)
  try dsimp only
  unfold jI
  try dsimp only
  refine aa ?_;unfold iM iQ
  try dsimp only
  rw [PySem.W.KF.owner_class];refine aa (af ?_)
  try dsimp only
  unfold isInstance;refine aa (aa ((J _).at ((gg X hm).at ?_)));refine cR rfl (af ?_);unfold again;refine af ⟨jU _ #[N],?_⟩;refine cC PySem.W.KF.entry_class ?_;unfold Builtin.«object.__class__»
  try dsimp only
  unfold shownTypeOf;refine aa (aa ((J _).at ?_));refine cR rfl (af ?_);unfold ret;exact af q
theorem zil {M:Model} {uL:Value} {Q:Unit→Shared→Prop} (J:∀ M,fK M h (typeOf (.ref x)) (.ref C)) (X:K.In h) (hm:bH K C (.type "BaseException")=some true) (q:Q () ⟨h,g,d,tk,os⟩) :
  wpAny M A (checkBuiltinCall "BaseException.__getattribute__" { pos:=[.ref x,uL] }) Q E ⟨h,g,d,tk,os⟩:=by
 have hk:builtinKind "BaseException.__getattribute__" = some lU:=#[N];have hs:splitId "BaseException.__getattribute__" = some ("BaseException","__getattribute__"):=by decide +kernel
 unfold checkBuiltinCall;rw [hk,hs]
 try dsimp only
 unfold isInstance;refine aa (aa ((J _).at ((gg X hm).at ?_)));refine cR rfl ?_;have ok:=F.args_bexc_ga (.ref x) uL;unfold argsOk at ok;generalize Manifest.signature? "BaseException.__getattribute__" = sg at ok ⊢;cases sg with
 | none=>exact af q
 | some sig =>
  dsimp only at ok ⊢;rw [ok];exact af q
theorem zim {Q:Option Value→Shared→Prop} (J:∀ M,fK M h (typeOf (.ref x)) (.ref C)) (X:K.In h)
  (F1:cr K (.ref C) "__getattribute__" = some (some (.builtin "BaseException.__getattribute__"))) (F2:cr K (.ref C) "__getattr__" = some none)
  (F3:cr K (.ref C) "__class__" = some (some (.builtin "object.__class__"))) (hm:bH K C (.type "object")=some true) (hb:bH K C (.type "BaseException")=some true)
  (q:Q (some (.ref C)) ⟨h,g,d,tk+1,os⟩):wpAny (model prog w) A (getAttr? (.ref x) "__class__") Q E ⟨h,g,d,tk,os⟩:=by
 unfold getAttr?
 (refine aa (wpAny_mkText ?_))
 unfold getAttrBy?
 (refine aa (cW ?_))
 unfold getAttrBy;refine bD (aa ((J _).at (aa ((jj X F1).at ?_))))
 try dsimp only
 refine cR rfl ?_;unfold getAttrByItsOwn;refine aa ((PySem.W.looks_hook (mc:=.ref C) X (r:=none) (by rw [show onTheHeap (aK C)=true from rfl,if_pos rfl]; exact F2)).at ?_)
 (refine aa (cW (bD ?_)))
 unfold callGetattribute;refine cR rfl ?_;unfold boundAndCalled;rw [F.attrBase_ValueError.ga.bind];refine aa (af ?_)
 try dsimp only
 refine fe ?_;refine f6 F.attrBase_ValueError.ga.plain F.entry_bexc_ga (zil J X hb ?_)
 (unfold Builtin.«object.__getattribute__»)
 refine aa ?_;unfold slotArgs
 try dsimp only
 refine cR rfl (cR rfl (af ?_))
 try dsimp only
 unfold lC
 try dsimp only
 refine aa (af (aa ((J _).at (aa ?_))));unfold lQ;refine aa ((jj X F3).at ?_);unfold lN
 try dsimp only
 refine aa (jC fT F.slot_gs_get.lookup ?_);unfold kh
 try dsimp only
 refine aa ?_;unfold kY;refine aa (aa (jC fT F.slot_gs_set.lookup ?_));refine gj rfl (af ?_);refine gj rfl (af ?_)
 try dsimp only
 (refine aa (cU (af ?_)))
 try dsimp only
 unfold lK
 try dsimp only
 refine aa (bD (fe (zgB J X hm ?_)))
 try dsimp only
 unfold ret;refine af ?_
 try dsimp only
 unfold handedOut
 try dsimp only
 refine af ?_
 try dsimp only
 exact af q
end
structure Xc (K:ag) (C:Addr):Prop where
 f1:cr K (.ref C) "__getattribute__" = some (some (.builtin "BaseException.__getattribute__"))
 f2:cr K (.ref C) "__getattr__" = some none
 f3:cr K (.ref C) "__class__" = some (some (.builtin "object.__class__"))
 ob:bH K C (.type "object")=some true
 bb:bH K C (.type "BaseException")=some true
 kc:eg K (.ref C) (.ref C)=some true
theorem zdw {h:Heap} {x C:Addr} (e:∃ o,h.get? x=some o∧o.cls = .ref C) (M:Model):fK M h (typeOf (.ref x)) (.ref C):=by
 obtain⟨o,e,c⟩:=e;intro A Q E s k q;obtain⟨h',g,d,t,os⟩:=s;unfold typeOf;refine aa (wpAny_loadPart_at (k _ _ e) (af ?_));rw [c];exact q
theorem zmx {K:ag} {C:Addr} {b:Value} {r:Bool} (m:bH K C b=some r):∃ oc dd cd sl,K.lookup C=some ⟨oc,dd,.cls cd,sl⟩:=by
 unfold bH PySem.W.clsIn at m;cases e:List.lookup C K with
 | none=>rw [e] at m; cases m
 | some o =>
  obtain⟨oc,dd,da,sl⟩:=o;cases da with
  | cls cd=>exact⟨oc,dd,cd,sl,rfl⟩
  | _=>rw [e] at m; cases m
theorem zfF {K:ag} {x C:Addr} (c:Xc K C):PySem.W.KitX K (.ref x) (.ref C) (fun h=>∃ o,h.get? x=some o∧o.cls = .ref C):=by
 refine⟨fun M h _ e=>zdw e M,fun M h X e=>(kZ X c.kc).2.1,fun h tp dd lY n sl X e=>?_,fun {prog w A E Q s} X e q=>?_⟩
 ·obtain⟨oc,dd',cd,yH,l⟩:=zmx c.ob;have e2:=X _ _ l;have ne:C≠tp:=fun z=>by
   rw [z,e] at e2;cases e2
  exact decide_eq_false fun z=>ne (by injection z)
 ·obtain⟨h,g,d,tk,os⟩:=s;exact zim (fun M=>zdw e M) X c.f1 c.f2 c.f3 c.ob c.bb q
def zjL (a C:Addr):HO:=.ext fun h=>∃ o,h.get? a=some o∧o.cls = .ref C
theorem zJ {X:Cx}:za1 X (.builtin "isinstance") (fun xs H Q=>∃ a C y b,xs = [.ref a,y]∧H a=some (zjL a C)∧Xc X.K C∧((∃ D,y = .ref D∧aY X.K (.ref C) (.ref D)=some b)∨∃ n,y = .ty n∧aY X.K (.ref C) (.type n)=some b)∧Q (.bl b) H):=by
 intro lX s σ H xs us Q I r h;obtain⟨a,C,y,b,rfl,ha,c,hy,q⟩:=h;obtain⟨u,u',rfl,rx,r2⟩:=vals2 r;cases rx;obtain⟨he,_,_⟩:=(show zO X.prog X.w H s.heap a (zjL a C) from I.hok a _ ha);rcases hy with ⟨D,rfl,hk⟩ | ⟨n,rfl,hk⟩
 ·cases r2;exact bI (zfF c) I.kIn he hk (fun z=>nomatch z) fun tk=>⟨.bl b,H,I.tok tk,rfl,q⟩
 ·cases r2;exact bI (zfF c) I.kIn he hk (fun z=>nomatch z) fun tk=>⟨.bl b,H,I.tok tk,rfl,q⟩
abbrev zjM:List Value:=[.type "ValueError",.type "Exception",.type "BaseException",.type "object"]
structure XcAt (C:Addr) (h:Heap) (bmB:List Value) (newId:String):Prop where
 ex:∃ nm q N bs bm hdct sn sub ab col dd k0 k1 k2 k3 k5,∃ mN:Str→Option Value,h.get? C=some (excClassObj nm q C N bs bm hdct sn sub ab col dd k0 k1 k2 k3 k5 newId)∧h.Ns N mN∧mN "__init__" = none∧OwnTail h bmB bm
theorem zin {K:ag} {h:Heap} {C:Addr} {bmB:List Value} {newId:String} (X:K.In h) (e:fL K C bmB newId=true):XcAt C h bmB newId:=by
 unfold fL at e;split at e
 ·rename_i dict cd sl hl
  split at e
  ·rename_i C' bm a0 a1 a2 a3 n a5 hm hs
   simp only [cG,beq_iff_eq] at e;obtain⟨⟨⟨⟨⟨rfl,rfl⟩,vp⟩,ht⟩,hn⟩,hi⟩:=e;obtain⟨sll⟩:=sl;have hs:sll = [a0,a1,a2,a3,some (Value.builtin n),a5]:=hs;subst hs;have ho:=X _ _ hl;cases cd;dsimp only at hm hn hi vp;subst hm;simp only [ki] at vp;subst vp;exact⟨_,_,_,_,_,_,_,_,_,_,_,_,_,_,_,_,_,ho,Heap.Ns.of_isNs (PySem.W.isNs_of_in X hn),PySem.W.nsMap_none_of_in X hn hi,PySem.W.tail_of_in X ht⟩
  ·cases e
 ·cases e
theorem zc0 {h h' base B:Heap} (k:∀ b o,h.get? b=some o→h'.get? b=some o):∀ {l:List Env},h.FunFrames base l→(∀ b∈frs l,B.get? b=none)→h'.FunFrames B l
 | [],_,_=>trivial
 | env :: r,hl,hb=>by
  obtain⟨hk,⟨L,o,hf,hn,ho,hd⟩,hr⟩:=hl;have e:frs (env :: r)=L :: frs r:=by unfold frs; rw [bZ,hf]
  rw [e] at hb;exact⟨hk,⟨L,o,hf,hb L #[M],k _ _ ho,hd⟩,zc0 k hr fun b z=>hb b (ai _ z)⟩
structure Xl (P:Program) (w:World) (outer:List Env) (H:Hp) (h:Heap) (H':Hp) (h' B:Heap) (e C:Addr):Prop where
 new:h.get? e=none
 hok:HOk P w H' B
 fly:∃ t,B.FlyingW outer e (.ref C) t h'
 keep:∀ b o,h.get? b=some o→H b=none→b∉frs outer→B.get? b=some o
 slot:∀ b o,h.get? b=some o→H b=none→b∈frs outer→∃ sl,h'.get? b=some { o with slots:=sl }
 free:∀ b o,h.get? b=some o→H b=none→H' b=none
 there:∀ b o,h.get? b=some o→b∉frs outer→∃ o',B.get? b=some o'
 tups:∀ b xs,H b=some (.tup xs)→H' b=some (.tup xs)
 frzs:∀ b o u,H b=some (.frz o u)→H' b=some (.frz o u)
 tbls:∀ b ps,H b=some (.tbl ps)→∃ more,H' b=some (.tbl (ps++more))
def CX1 (P:Program) (w:World):CXT:=fun outer H s E ev s'=>∃ (e C:Addr) (H':Hp) (B:Heap),ev = .ref e∧s'.os=s.os∧AllBare s'.gens∧Xl P w outer H s.heap H' s'.heap B e C∧E (.ref C) none H'
section
variable {P:Program} {w:World} {outer:List Env} {H H':Hp} {h h' B:Heap} {e C:Addr}
theorem zjN {o:HO} {a:Addr} (x:zO P w H h a o):∃ ob,h.get? a=some ob:=by
 cases o with
 | lst xs=>obtain⟨_,_,_,_,e⟩:=x; exact⟨_,e⟩
 | tup xs=>obtain⟨_,_,_,o,e,_⟩:=x; exact⟨_,e⟩
 | dK l6=>obtain⟨_,_,_,_,o,_,_,e,_⟩:=x; exact⟨_,e⟩
 | dT l6=>obtain⟨_,_,_,_,o,_,_,e,_⟩:=x; exact⟨_,e⟩
 | set S n=>obtain⟨o,_,_,_,e,_⟩:=x; exact⟨_,e⟩
 | ins C dx fs=>obtain⟨_,_,_,e,_⟩:=x; exact⟨_,e⟩
 | own y=>obtain⟨_,e⟩:=x; exact⟨_,e⟩
 | xd fs=>obtain⟨_,⟨_,_,_,e,_⟩,_⟩:=x; exact⟨_,e⟩
 | rng lo hi=>obtain⟨_,_,_,e⟩:=x; exact⟨_,e⟩
 | frz ob u=>obtain⟨e,_⟩:=x; exact⟨_,e⟩
 | tbl ps=>exact⟨_,(show h.get? a=some _ from x)⟩
 | met f y=>exact⟨_,(show h.get? a=some _ from x)⟩
 | ext φ=>obtain⟨_,⟨_,e⟩,_⟩:=x; exact⟨_,e⟩
theorem Xl.fresh (x:Xl P w outer H h H' h' B e C):H' e=none:=by
 obtain⟨t,_,hb,_⟩:=x.fly;cases q:H' e with
 | none=>rfl
 | some u =>
  obtain⟨ob,z⟩:=zjN (x.hok e u q);rw [hb] at z;cases z
theorem Xl.un (x:Xl P w outer H h H' h' B e C) (hf:∀ b∈frs outer,H b=none):Un (frs outer) [] H H' h h' where
 keep:=fun b o q n hb _=>by
  obtain⟨t,st,_⟩:=x.fly;exact st _ _ (x.keep b o q n hb)
 slot:=fun b o q n hb _=>x.slot b o q n hb
 free:=fun b o q n _=>x.free b o q n
 there:=fun b o q _=>by
  by_cases hb:b∈frs outer
  ·obtain⟨sl,z⟩:=x.slot b o q (hf b hb) hb;exact⟨_,z⟩
  ·obtain⟨o',z⟩:=x.there b o q hb;obtain⟨t,st,_⟩:=x.fly;exact⟨o',st _ _ z⟩
 tups:=x.tups
 frzs:=x.frzs
 tbls:=x.tbls
end
section
variable {X:Cx} {σ:St} {H:Hp} {s:Shared} {lX:List (Addr×Obj)}
theorem Inv.hid (I:Inv X lX σ H s):HOk X.prog X.w H (dz s.heap (frs X.stack)):=fun a o q =>
 (I.hok a o q).stay (fun b u hb z=>eN _ z fun m=>by
  have n:=I.stkFree b m;rcases hb with rfl | hb
  ·rw [q] at n; cases n
  ·rw [hb] at n; cases n) (fun _ z=>z) fun _ _ z=>z
theorem zfG {env:Env} {outer:List Env} {L:Addr} (hf:env.frame=some L):frs (env :: outer)=L :: frs outer:=by unfold frs; rw [bZ,hf]
theorem Inv.notHere (I:Inv X lX σ H s) {b:Addr} {o:Obj} (q:X.s₀.heap.get? b=some o):b≠X.env.locals:=aL (aJ (av q) I.ok.above)
end
section
variable {P:Program} {w:World} {K:ag} {mg:Str→Option Value} {base:Heap} {N:List Str} {qual:Str} {scope:Scope} {f:Addr} {cd:Value} {A:Around} {outer:List Env} {s₀:Shared} {H₀:Hp} {E:XK}
abbrev cxX (P:Program) (w:World) (K:ag) (mg:Str→Option Value) (base:Heap) (N:List Str) (qual:Str) (scope:Scope) (f:Addr) (cd:Value) (A:Around) (outer:List Env) (s:Shared) (H:Hp) (E:XK):Cx:=za7 (CX1 P w) P w K mg base N qual scope f cd A outer s H E
theorem zgC {lX:List (Addr×Obj)} {σ:St} {H:Hp} {s:Shared} {h1:Heap} {e C:Addr} {vs:List Value} (I:Inv (cxX P w K mg base N qual scope f cd A outer s₀ H₀ E) lX σ H s) (m:s.heap.MadeExcOf h1 e (.ref C) vs) (q:E (.ref C) none H) :
  (cxX P w K mg base N qual scope f cd A outer s₀ H₀ E).xe (.ref e) { s with heap:=h1 }:=by
 have wu:frs (cxX P w K mg base N qual scope f cd A outer s₀ H₀ E).stack=s₀.heap.objs.size :: frs outer:=zfG rfl;obtain⟨t,he,_,_⟩:=m.there;have stays:(dz s.heap (frs (cxX P w K mg base N qual scope f cd A outer s₀ H₀ E).stack)).StaysIn h1:=fun b o z=>m.keeps _ _ (gw _ z)
 have ph:(dz s.heap (frs (cxX P w K mg base N qual scope f cd A outer s₀ H₀ E).stack)).get? e=none:=by
  cases z:(dz s.heap (frs (cxX P w K mg base N qual scope f cd A outer s₀ H₀ E).stack)).get? e with
  | none=>rfl
  | some o=>have:=gw _ z; rw [m.new] at this; cases this
 refine wpAny_leaving_firstW (base:=dz s.heap (frs (cxX P w K mg base N qual scope f cd A outer s₀ H₀ E).stack)) (outer:=outer) I.ok.frames (zc0 m.keeps I.stack fun b z=>je _ z) rfl he stays ph rfl rfl rfl fun h2 left=>?_
 obtain⟨m6,ff2,tr2,xl⟩:=left;refine⟨e,C,H,dz s.heap (frs (cxX P w K mg base N qual scope f cd A outer s₀ H₀ E).stack),rfl,I.os,I.bare,⟨?_,I.hid,⟨_,m6,ph,ff2.2.2,tr2⟩,fun b o z n hb=>?_,fun b o z n hb=>?_,fun b o z n=>I.base.free b o z n (by simp [cxX,za7]),fun b o z hb=>?_,I.base.tups,I.base.frzs,I.base.tbls⟩,q⟩
 ·cases z:s₀.heap.get? e with
  | none=>rfl
  | some o =>
   obtain⟨o',z'⟩:=I.base.there e o z (by simp [cxX,za7]);rw [m.new] at z'; cases z'
 ·refine eN _ (I.base.keep b o z n hb (by simp [cxX,za7])) fun hm=>?_
  rw [wu] at hm;rcases au.mp hm with z' | z'
  ·exact I.notHere z z'
  ·exact hb z'
 ·obtain⟨sl,z1⟩:=I.base.slot b o z n hb (by simp [cxX,za7]);obtain⟨_,ob,zo,nd⟩:=I.ok.funs.mem hb;have eo:ob=o:=by
   have z3:s₀.heap.get? b=some ob:=zo;rw [z] at z3; exact (aX z3).symm
  subst eo;obtain⟨yH,z2⟩:=xl b _ (m.keeps _ _ z1) nd;exact⟨yH,z2⟩
 ·obtain⟨o',z1⟩:=I.base.there b o z (by simp [cxX,za7]);refine⟨o',eN _ z1 fun hm=>?_⟩;rw [wu] at hm;rcases au.mp hm with z' | z'
  ·exact I.notHere z z'
  ·exact hb z'
theorem zdx:zeK (CX1 P w) (cxX P w K mg base N qual scope f cd A outer s₀ H₀ E) E:=by
 intro lX σ H s ev s' I hq;obtain⟨e,C,H',B,rfl,os,bare,L,q⟩:=hq;have wu:frs (cxX P w K mg base N qual scope f cd A outer s₀ H₀ E).stack=s₀.heap.objs.size :: frs outer:=zfG rfl;obtain⟨t,fl⟩:=L.fly;show wpAny _ _ (leaving _ _) _ _ _;unfold leaving;refine aa (wpAny_looks_onW (base:=B) (outer:=outer) I.ok.frames rfl fl fun h2 held u2=>?_);refine wpAny_landsW held fun h3 xm u3=>?_
 obtain⟨t6,ph,ff3,tr3⟩:=xm;refine⟨e,C,H',B,rfl,os.trans I.os,bare,⟨?_,L.hok,⟨_,t6,ph,ff3.2.2,tr3⟩,fun b o z n hb=>?_,fun b o z n hb=>?_,fun b o z n=>?_,fun b o z hb=>?_,fun b xs z=>L.tups b xs (I.base.tups b xs z),fun b o u z=>L.frzs b o u (I.base.frzs b o u z),fun b ps z=>?_⟩,q⟩
 ·cases z:s₀.heap.get? e with
  | none=>rfl
  | some o =>
   obtain⟨o',z'⟩:=I.base.there e o z (by simp [cxX,za7]);rw [L.new] at z'; cases z'
 ·refine L.keep b o (I.base.keep b o z n hb (by simp [cxX,za7])) (I.base.free b o z n (by simp [cxX,za7])) fun hm=>?_
  rw [wu] at hm;rcases au.mp hm with z' | z'
  ·exact I.notHere z z'
  ·exact hb z'
 ·obtain⟨sl,z1⟩:=I.base.slot b o z n hb (by simp [cxX,za7]);obtain⟨_,ob,zo,nd⟩:=I.ok.funs.mem hb;have eo:ob=o:=by
   have z3:s₀.heap.get? b=some ob:=zo;rw [z] at z3; exact (aX z3).symm
  subst eo;obtain⟨xl,z2⟩:=L.slot b _ z1 (I.base.free b _ z n (by simp [cxX,za7])) (by rw [wu]; exact ai _ hb);obtain⟨sl3,z3⟩:=u2 b _ z2 nd;obtain⟨sl4,z4⟩:=u3 b _ z3 nd;exact⟨sl4,z4⟩
 ·obtain⟨o',z'⟩:=I.base.there b o z (by simp [cxX,za7]);exact L.free b o' z' (I.base.free b o z n (by simp [cxX,za7]))
 ·obtain⟨o',z'⟩:=I.base.there b o z (by simp [cxX,za7]);refine L.there b o' z' fun hm=>?_
  rw [wu] at hm;rcases au.mp hm with z' | z'
  ·exact I.notHere z z'
  ·exact hb z'
 ·obtain⟨m1,e1⟩:=I.base.tbls b ps z;obtain⟨m2,e2⟩:=L.tbls b _ e1;exact⟨m1++m2,by rw [e2,jM]⟩
theorem Fun.okX {x:Str} {st:Stmt} {fd:FuncData} {ps:List Str} {k:Nat} {sp:Sp} (F:Fun K x qual st f fd) (S:FnScope N ps (zg st)) (len:∀ vs H Q E,sp vs H Q E→vs.length=ps.length)
  (m9:∀ (mq:Value) (A:Around) (outer:List Env) (s:Shared) (H:Hp) (vs:List V) (Q:VK) (E:XK),Room k (A.deeper (envOfC qual (zg st) s.heap.objs.size f mq))→sp vs H Q E →
   ∃ t,PSs (cxX P w K mg base N qual (zg st) f mq A outer s H E) (zao st) t∧t { nx:=fun _ H'=>Q .non H',rt:=Q } (start N vs) H):FnOk P w K mg base (CX1 P w) (k+1) f fd ps sp:=by
 obtain⟨oc,od,kV,doc,pm,an,mq,ct,rm,rfl,lk,oq⟩:=F.ex;exact zjk lk oq S len fun A outer s H vs Q E hr pR=>m9 mq A outer s H vs Q E hr pR
end
section
variable {X:Cx} {x:Str} {C:Addr} {e:Expr} {te:TE} {np mC pos:Pos} {E:XK}
def zjO (X:Cx) (E:XK):Prop:=∀ (lX:List (Addr×Obj)) (σ:St) (H:Hp) (s:Shared) (h1:Heap) (e C:Addr) (vs:List Value),Inv X lX σ H s→s.heap.MadeExcOf h1 e (.ref C) vs→E (.ref C) none H→X.xe (.ref e) { s with heap:=h1 }
def zmy (C:Addr) (E:XK) (te:TE):TS:=fun _ σ H=>zg5 te zmf σ H fun vs H1=>vs.length=1∧E (.ref C) none H1
theorem zjP (hx:zjO X E) (hc:X.calm=true) (hg:Gl X x) (hm:X.mg x=some (.ref C)) (xc:fL X.K C zjM "ValueError.__new__" = true) (he:PE X e te) (hd:(x == ("__debug__" : Str))=false:=by decide)
  (nu:((backTo mC (starEach [e] X.env)).any fun x=>x.fst)=false:=by rfl) (n9:starEach [e] X.env=(false,eval e X.env) :: starEach [] X.env:=by rfl) :
  PS X (.Raise (some (.Call (.Name x np) [e] [] mC)) none pos) (zmy C E te):=by
 intro lX s σ H D I h;obtain⟨nm,q,N,bs,bm,hdct,sn,sub,ab,col,dd,k0,k1,k2,k3,k5,mN,hob,vq,og,vt⟩:=(zin I.mod.kin xc).ex;refine wpAny_Raise_call_subU (nm:=nm) (q:=q) (N:=N) (bs:=bs) (hdct:=hdct) (sn:=sn) (sub:=sub) (ab:=ab) (col:=col) (dd:=dd) (k0:=k0) (k1:=k1) (k2:=k2) (k3:=k3) (k5:=k5) (bm:=bm) (bmB:=zjM) (bmN:=zjM) jk rfl jk (OwnTail.hasType vt rfl) (I.ok.hd hc) nu og (zbU I hg hm ⟨rfl,?_⟩ hd);have pa:PA X [e] (zg5 te zmf):=za he zc n9;have go:=pa mC lX s σ H (fun vs H1=>vs.length=1∧E (.ref C) none H1) I h;rw [n9] at go ⊢;refine fZ (thn go fun us s2 ⟨vs,H2,I2,r2,ql,q2⟩=>⟨rfl,?_,I2.bk _ _ hob,vq.keeps I2.bk,vt.keeps I2.bk,fun h1 ea m=>hx lX σ H2 s2 h1 ea C _ I2 m q2⟩);have:=r2.length;have qm:1≤sizeLine:=by decide
 show us.length≤sizeLine;lia
end
def zjQ (X:Cx) (lX:List (Addr×Obj)) (σ:St) (e:Expr) (t:TE):Prop:=∀ (s:Shared) (H:Hp) (Q:VK),Inv X lX σ H s→t σ H Q→wpAny (model X.prog X.w) X.A (eval e X.env) (EP X lX σ Q) X.xe s
def zni (X:Cx) (lX:List (Addr×Obj)) (σ:St) (st:Stmt) (t:TS):Prop:=∀ (s:Shared) (H:Hp) (D:Ends),Inv X lX σ H s→t D σ H→wpAny (model X.prog X.w) X.A (exec st X.env) (SP X lX D) X.xe s
def zlT (X:Cx) (lX:List (Addr×Obj)) (σ:St) (st:List Stmt) (t:TS):Prop:=∀ (s:Shared) (H:Hp) (D:Ends),Inv X lX σ H s→t D σ H→wpAny (model X.prog X.w) X.A (execs st X.env) (SP X lX D) X.xe s
def zdy (CX:CXT) (X:Cx) (lX:List (Addr×Obj)) (σ:St) (E:XK):Prop:=∀ (H:Hp) (s:Shared) (e:Value) (s':Shared),Inv X lX σ H s→CX X.stack H s E e s'→X.xe e s'
section
variable {X:Cx} {lX:List (Addr×Obj)} {σ:St} {CX:CXT} {k:Nat} {f C:Addr} {fd:FuncData} {ps:List Str} {sp:Sp} {qu:List V} {ds:List Value} {E:XK} {x m:Str} {p pos apos:Pos} {e o:Expr} {es:List Expr} {ta te:TE} {t:TA}
theorem zio {H:Hp} {s:Shared} {Q:VK} {us:List Value} {vs:List V} (F:FnOk X.prog X.w X.K X.mg X.base CX k f fd ps sp) (hr:Room k X.A) (hb:Binds X.K fd ps ds) (hd:zA qu ds) (hx:zdy CX X lX σ E)
  (I:Inv X lX σ H s) (r:zA vs us) (h:sp (vs++qu) H Q E):wpAny (model X.prog X.w) X.A (call (.ref f) us) (EP X lX σ Q) X.xe s:=by
 have r2:zA (vs++qu) (us++ds):=r.append hd;have hl:(us++ds).length=ps.length:=by rw [← r2.length]; exact F.len _ _ _ _ h
 refine fe (ed (F.run X.A X.stack s H ⟨us,[]⟩ (us++ds) (vs++qu) Q E hr I.env0 (hb s us I.kIn hl) r2 h) fun r s' hq=>?_);cases r with
 | error e=>exact hx H s e s' I hq
 | ok fl =>
  cases fl with
  | ret u=>exact I.after hq
  | next=>exact bQ hq
  | brk=>exact bQ hq
  | cont=>exact bQ hq
theorem zdz (F:FnOk X.prog X.w X.K X.mg X.base CX k f fd ps sp) (hr:Room k X.A) (hg:Gl X x) (hm:X.mg x=some (.ref f)) (hk:dJ X.K (.ref f)=true) (hb:Binds X.K fd ps ds) (hd:zA qu ds) (hx:zdy CX X lX σ E)
  (ha:PA X (e :: es) t) (t7:(x == ("__debug__" : Str))=false:=by decide) (he:starEach (e :: es) X.env=(false,eval e X.env) :: starEach es X.env:=by rfl) (nu:(backTo pos (starEach es X.env)).any (·.1)=false:=by rfl) :
  zjQ X lX σ (.Call (.Name x p) (e :: es) [] pos) (zjj sp qu E t):=by
 intro s H Q I h;refine cg (zbU I hg hm ?_ t7);refine gA (h₀:=X.base) I.ok.mod.kin hk (thn (ha pos lX s σ H _ I h) fun us s1 ⟨vs,H1,I1,r,q⟩=>⟨I1.kIn,?_⟩) he nu;exact zio F hr hb hd hx I1 r q
theorem ziq {i:Nat} {pos':Pos} (hN:X.N.Nodup) (hi:X.N[i]? = some x) (hx:Loc X.env.scope x) (he:zjQ X lX σ e te) (hs:swapsWith e (some (.Name x pos')) pos.line X.env=pure false:=by rfl) (hf:X.fn x=true∨X.env.scope.names.lookup x=some .local:=by first | exact .inl rfl | exact .inr rfl | assumption) :
  zni X lX σ (.Assign [.Name x pos'] e pos) (zdY te (zaB i)):=by
 intro s H D I h;refine wpAny_Assign_Name (thn (he s H _ I h) fun v s1 ⟨y,H1,I1,r1,q1⟩=>?_) hs;exact zbK I1 hN hi hx r1 (fun s2 I2=>⟨_,H1,I2,q1⟩) hf
theorem zgD {st:Stmt} {ts:TS} (h:zni X lX σ st ts):zlT X lX σ [st] ts:=by
 intro s H D I h1;refine hV (thn (h s H D I h1) fun f s1 q=>?_);cases f with
 | next=>exact eP q
 | ret v=>exact q
 | brk=>exact q
 | cont=>exact q
end
section
variable {X:Cx} {σ:St} {H:Hp} {s:Shared} {lX:List (Addr×Obj)}
theorem zir {M:Model} {A:Around} {E:Value→Shared→Prop} {i:Nat} {x:Str} {v:V} {Q:Unit→Shared→Prop} (I:Inv X lX σ H s) (hN:X.N.Nodup) (hi:X.N[i]? = some x) (hk:X.env.scope.names.lookup x=some .local) (hv:σ[i]? = some (some v))
  (h:∀ s',Inv X lX (σ.set i none) H s'→Q () s'):wpAny M A (unbindName X.env x) Q E s:=by
 obtain⟨m,hn,hl⟩:=id I.loc;have sG:(X.env.scope.kind == .class || (X.env.scope.kind == .module && X.env.locals != X.env.globals))=false:=by rw [I.ok.kind]; rfl
 have hiσ:i < σ.length:=by rw [I.len]; exact (aT.mp hi).1
 have cne:=I.cne;obtain⟨u,r,lk⟩:=hl i x v hi hv (.inl hk);have hm:m x=some u:=by
  rcases lk with ⟨_,z⟩ | ⟨z,_⟩
  ·exact z
  ·have z:X.env.scope.names.lookup x=some .cell∨X.env.scope.names.lookup x=some .free:=z;rw [hk] at z;rcases z with z | z <;> cases z
 refine wpAny_unbindName_local hk hn hm sG fun h' u' uH hs=>?_
 obtain⟨oL,_,_,we,_⟩:=id hn;refine h _ ⟨I.ok,I.os,I.bare,⟨fun b o e n hb hx=>?_,fun b o e n hb hx=>?_,I.base.free,fun b o e hx=>?_,I.base.tups,I.base.frzs,I.base.tbls⟩,⟨_,uH,fun j y v' e1 e2 e3=>?_⟩,fun y c e=>?_,I.free,I.freeC,fun p hp=>?_,fun b ob e=>?_,by simpa using I.len⟩
 ·exact (hs.2 b (aL (aJ (av e) I.ok.above))).trans (I.base.keep b o e n hb hx)
 ·obtain⟨sl,e1⟩:=I.base.slot b o e n hb hx;exact⟨sl,(hs.2 b (aL (aJ (av e) I.ok.above))).trans e1⟩
 ·obtain⟨o',e1⟩:=I.base.there b o e hx;exact⟨o',(hs.2 b (aL (aJ (av e) I.ok.above))).trans e1⟩
 ·by_cases hj:j=i
  ·subst hj;rw [d6 hiσ] at e2;cases e2
  ·rw [eC (de hj)] at e2;obtain⟨u',r',q⟩:=hl j y v' e1 e2 e3;refine⟨u',r',?_⟩;rcases q with ⟨k,e⟩ | ⟨k,c,e,z⟩
   ·refine .inl ⟨k,?_⟩;have:y≠x:=fun e=>hj (zdj hN e1 (e ▸ hi))
    simp [this,e]
   ·exact .inr ⟨k,c,e,z.sameBut hs (cne y c e)⟩
 ·obtain⟨w',z⟩:=I.cell y c e;exact⟨w',z.sameBut hs (cne y c e)⟩
 ·obtain⟨e,n,ne,nf,d⟩:=I.pin p hp;exact⟨(hs.2 p.1 ne).trans e,n,ne,nf,d⟩
 ·refine (I.hok b ob e).stay (fun c w' hc q=>(hs.2 c ?_).trans q) (fun _ q=>q) fun _ _ q=>q
  rintro rfl;rcases hc with rfl | hc
  ·rw [I.free] at e; cases e
  ·rw [I.free] at hc; cases hc
theorem Inv.trackX {a:Addr} {o:HO} (I:Inv X lX σ H s) (hn:H a=none) (h0:X.s₀.heap.get? a=none) (hL:a≠X.env.locals) (hc:∀ x c,X.env.cells.lookup x=some c→c≠a) (hp:∀ p∈X.pn++lX,p.1≠a) (new:zO X.prog X.w (l7 H a o) s.heap a o) :
  Inv X lX σ (l7 H a o) s:=by
 have hok:HOk X.prog X.w (l7 H a o) s.heap:=fun b u e=>by
  by_cases hb:b=a
  ·subst hb;rw [zb] at e;cases e;exact new
  ·rw [zi hb] at e;exact (I.hok b u e).stay (fun c v _ q=>q) (fun c q=>by rw [zi (zq q hn)]; exact q) fun c xs q=>by rw [zi (zq q hn)]; exact q
 refine⟨I.ok,I.os,I.bare,⟨I.base.keep,I.base.slot,fun b u e n hx=>?_,I.base.there,fun b xs e=>?_,fun b u xs e=>?_,fun b ps e=>?_⟩,I.loc,I.cell,?_,fun x c e=>?_,fun p yM=>?_,hok,I.len⟩
 ·rw [zi (fun z=>by rw [z,h0] at e; cases e)];exact I.base.free b u e n hx
 ·have:=I.base.tups b xs e;rw [zi (zq this hn)]; exact this
 ·have:=I.base.frzs b u xs e;rw [zi (zq this hn)]; exact this
 ·obtain⟨m1,this⟩:=I.base.tbls b ps e;exact⟨m1,by rw [zi (zq this hn)]; exact this⟩
 ·rw [zi (de hL)]; exact I.free
 ·rw [zi (hc x c e)]; exact I.freeC x c e
 ·obtain⟨e,n,ne,nf,d⟩:=I.pin p yM;exact⟨e,by rw [zi (hp p yM)]; exact n,ne,nf,d⟩
end
abbrev Cx.inExc (X:Cx) (e:Addr):Cx:={ X with A:=X.A.mark (some (.ref e)),calm:=false,xe:=fun _ _=>False }
section
variable {X:Cx} {lX:List (Addr×Obj)} {σ:St} {H:Hp} {s:Shared} {e:Addr}
theorem Cx.Ok.inExc (ok:X.Ok) (e:Addr):(X.inExc e).Ok :=
 ⟨ok.mod,ok.kind,ok.glob,ok.blt,ok.above,ok.inj,ok.has,ok.cab,fun z=>(by cases z),ok.frames,ok.stk,ok.exf,ok.bs,ok.bsz,ok.noex,ok.exfs,ok.funs,ok.frf⟩
theorem Inv.inExc (I:Inv X lX σ H s) (e:Addr):Inv (X.inExc e) lX σ H s:=⟨I.ok.inExc e,I.os,I.bare,I.base,I.loc,I.cell,I.free,I.freeC,I.pin,I.hok,I.len⟩
theorem Inv.outExc (I:Inv (X.inExc e) lX σ H s) (ok:X.Ok):Inv X lX σ H s:=⟨ok,I.os,I.bare,I.base,I.loc,I.cell,I.free,I.freeC,I.pin,I.hok,I.len⟩
theorem zfH {M:Model} {A:Around} {E:Value→Shared→Prop} {h:Heap} {g:Array GenState} {d:Drawn} {tk:Nat} {os:OsState} {K:ag} {C S:Addr} {Q:Bool→Shared→Prop} (X:K.In h) (he:∃ o,h.get? e=some o∧o.cls = .ref C) (hk:eg K (.ref C) (.ref S)=some true)
  (hs:bH K S (.type "BaseException")=some true) (q:Q true ⟨h,g,d,tk,os⟩):wpAny M A (excMatches (.ref e) (.ref S)) Q E ⟨h,g,d,tk,os⟩:=by
 obtain⟨l1,l2,l3⟩:=kZ (M:=M) X hk;unfold excMatches isInstance;refine aa (aa (l1.at ?_));rw [tc_notTuple];refine af (cR rfl (aa (af ?_)));dsimp only
 (simp only [iw,List.forIn_nil])
 refine aa (aa (aa ?_));unfold isExcClass;refine aa (l2.at (gj rfl ((gg X hs).at ?_)));refine cR rfl (af (af ?_));refine aa ((zdw he M).at ?_);refine aa (aa (aa (l3.at (gj rfl (af (af ?_))))));exact af q
end
def Ends.but (D:Ends) (i:Nat):Ends:={ nx:=fun σ H=>D.nx (σ.set i none) H,rt:=D.rt,bk:=fun σ H=>D.bk (σ.set i none) H,ct:=fun σ H=>D.ct (σ.set i none) H }
def znP (K:ag) (S:Addr) (i:Nat) (tb:XK→TS) (th:TS):TS:=fun D σ H =>
 tb (fun cls _ H'=>∃ C,cls = .ref C∧eg K (.ref C) (.ref S)=some true∧∀ e,H' e=none→th (D.but i) (σ.set i (some (.ref e))) (l7 H' e (zjL e C))) D σ H
section
variable {X:Cx} {x n:Str} {S:Addr} {i:Nat} {body sP:List Stmt} {b₀:Stmt} {tb:XK→TS} {th:TS} {np rB pos:Pos}
theorem zmz (hex:X.ex = []) (xn:X.stack=X.env :: X.outer) (vf:X.env.frame=some X.env.locals) (hg:Gl X x) (hm:X.mg x=some (.ref S)) (hS:bH X.K S (.type "BaseException")=some true)
  (hN:X.N.Nodup) (hi:X.N[i]? = some n) (hk:X.env.scope.names.lookup n=some .local)
  (hb:∀ (xe:Value→Shared→Prop) (lX:List (Addr×Obj)) (σ:St) (E:XK),zdy (CX1 X.prog X.w) (X.wish xe) lX σ E→zlT (X.wish xe) lX σ body (tb E))
  (hh:∀ e:Addr,PSs (X.inExc e) (b₀ :: sP) th) (hd:(x == ("__debug__" : Str))=false:=by decide) :
  PS X (.Try body [.ExceptHandler (some (.Name x np)) (some n) (b₀ :: sP) rB] [] [] pos) (znP X.K S i tb th):=by
 intro lX s σ H D I h;refine wpAny_Try_except ?_;refine bE (hb (fun ev s1=>wpAny (model X.prog X.w) X.A (noteFrame ev X.env) (fun _ s₂=>wpAny (model X.prog X.w) X.A (setFlight ev none) (fun _ s₃=>wpAny (model X.prog X.w) X.A (handleBy ev X.env [ExceptHandler.ExceptHandler (some (Expr.Name x np)) (some n) (b₀ :: sP) rB]) (SP X lX D) X.xe s₃) X.xe s₂) X.xe s1) lX σ _ ?_ s H D (I.wish _) h) (fun f s1 q=>?_) fun ev s1 z=>z
 ·
  intro H1 s1 ev s2 I1 hq;have I1:=I1.unwish;obtain⟨e,C,H',B,rfl,os,bare,L,C',hC,pd,q⟩:=hq;cases hC;obtain⟨t,fl⟩:=L.fly;have pT:∀ b∈frs X.stack,H1 b=none:=I1.stkFree;show wpAny _ _ (noteFrame _ _) _ _ _;have fl0:B.FlyingW (X.env :: X.outer) e (.ref C) t s2.heap:=by rw [← xn]; exact fl
  refine wpAny_looks_onW (base:=B) (outer:=X.outer) (by rw [← xn]; exact I1.ok.frames) vf fl0 fun h2 held u2=>?_
  refine wpAny_landsW held fun h3 xm u3=>?_
  have t6:∀ (h4:Heap),B.FlyingW (X.env :: X.outer) e (.ref C) t h4→s2.heap.UpToSlots h4→∀ (tk:Nat),Inv X lX σ H' ⟨h4,s2.gens,s2.drawn,tk,s2.os⟩:=by
   intro h4 wx u4 tk;refine I1.call' (s':=⟨h4,s2.gens,s2.drawn,tk,s2.os⟩) (ch:=[]) os ?_ (L.hok.kept wx.1) bare (fun b z=>absurd z #[M]);have U:=L.un pT;refine⟨fun b o z nn hb _=>wx.1 _ _ (L.keep b o z nn hb),fun b o z nn hb _=>?_,U.free,fun b o z _=>?_,L.tups,L.frzs,L.tbls⟩
   ·obtain⟨sl,z1⟩:=L.slot b o z nn hb;obtain⟨_,ob,zo,nd⟩:=I1.stack.mem hb;rw [z] at zo;cases zo;obtain⟨xl,z2⟩:=u4 b _ z1 nd;exact⟨xl,z2⟩
   ·by_cases hb:b∈frs X.stack
    ·obtain⟨sl,z1⟩:=L.slot b o z (pT b hb) hb;obtain⟨_,ob,zo,nd⟩:=I1.stack.mem hb;rw [z] at zo;cases zo;obtain⟨xl,z2⟩:=u4 b _ z1 nd;exact⟨_,z2⟩
    ·obtain⟨o',z1⟩:=L.there b o z hb;exact⟨o',wx.1 _ _ z1⟩
  have I3:=t6 h3 xm (u2.trans u3) s2.toks;refine wpAny_handleBy_cons (codeAny_handlers_test ?_) (by intro z; cases z);refine zbU (X:=X.inExc e) (I3.inExc e) hg hm ?_ hd;refine zfH I3.kIn xm.there pd hS ?_;rw [if_pos rfl]
  (refine codeAny_handlers_suite_as ?_)
  refine PyProof.Rows.lands_againW xm fun h4 wx u4=>?_
  have I4:=t6 h4 wx ((u2.trans u3).trans u4) s2.toks;have ne:H' e=none:=L.fresh;have e0:X.s₀.heap.get? e=none:=by
   cases z:X.s₀.heap.get? e with
   | none=>rfl
   | some o =>
    obtain⟨o',z'⟩:=I1.base.there e o z (by rw [hex]; simp);rw [L.new] at z'; cases z'
  have I5:Inv X lX σ (l7 H' e (zjL e C)) ⟨h4,s2.gens,s2.drawn,s2.toks,s2.os⟩:=by
   refine I4.trackX ne e0 (fun z=>?_) (fun y c hc z=>?_) (fun p hp z=>?_) ?_
   ·obtain⟨m,⟨o,_,_,ho,_⟩,_⟩:=I1.loc;rw [← z,L.new] at ho;cases ho
   ·obtain⟨v,o,ho,_⟩:=I1.cell y c hc;rw [z,L.new] at ho;cases ho
   ·have:=(I1.pin p hp).1;rw [z,L.new] at this;cases this
   ·obtain⟨ob,ho,sG⟩:=wx.there;exact⟨⟨ob,ho,sG⟩,⟨ob,ho⟩,fun h1 h2 ⟨o,z,c⟩ k=>⟨o,k o z,c⟩⟩
  refine zbK (X:=X.inExc e) (v:=.ref e) (I5.inExc e) hN hi (.inl hk) rfl (fun s6 I6=>?_) (.inr hk);refine bE (hh e lX s6 _ _ (D.but i) I6 (q e ne)) (fun f s7 q7=>?_) fun _ _ z=>z.elim
  have fin:∀ {σ':St} {H7:Hp} {R:Shared→Prop},Inv (X.inExc e) lX σ' H7 s7→(∀ s8,Inv X lX (σ'.set i none) H7 s8→R s8)→wpAny (model X.prog X.w) X.A (do bindName X.env n cj; unbindBehindTheSuite X.env n rB) (fun _ s8=>R s8) X.xe s7:=by
   intro σ' H7 R I7 hR;have I7:=I7.outExc I.ok;refine aa (wpAny_bindName (zbK (v:=.non) I7 hN hi (.inl hk) rfl (fun s8 I8=>?_) (.inr hk)));unfold unbindBehindTheSuite;refine wpAny_onRaise ?_;have AK:i < σ'.length:=by rw [I7.len]; exact (aT.mp hi).1
   refine zir (v:=.non) I8 hN hi hk (by rw [d6 AK]) fun s9 I9=>hR s9 ?_
   rw [List.set_set] at I9;exact I9
  cases f with
  | next =>
   obtain⟨σ',H7,I7,q8⟩:=q7;exact fin I7 fun s8 I8=>⟨_,_,I8,q8⟩
  | brk =>
   obtain⟨σ',H7,I7,q8⟩:=q7;exact fin I7 fun s8 I8=>⟨_,_,I8,q8⟩
  | cont =>
   obtain⟨σ',H7,I7,q8⟩:=q7;exact fin I7 fun s8 I8=>⟨_,_,I8,q8⟩
  | ret v =>
   obtain⟨u,σ',H7,I7,r,q8⟩:=q7;exact fin I7 fun s8 I8=>⟨u,_,_,I8,r,q8⟩
 ·cases f with
  | next=>exact eP (SP.unwish q)
  | ret v=>exact SP.unwish q
  | brk=>exact SP.unwish q
  | cont=>exact SP.unwish q
end
structure RoomH (k:Nat) (A:Around):Prop where
 dp:A.depth+3*k+5 < recursionLimit
 un:A.units+16*k+200 < cLine
theorem RoomH.of {k:Nat} {A:Around} {e:Addr} (r:Room k A):RoomH k (A.mark (some (.ref e))):=⟨r.dp,r.un⟩
theorem RoomH.deeper {k:Nat} {A:Around} (r:RoomH (k+1) A) (env:Env):RoomH k (A.deeper env) :=
 ⟨by have:=r.dp; show A.depth+1+3*k+5 < _; lia,by have:=r.un; show A.units+3+16*k+200 < _; lia⟩
structure FnOkH (P:Program) (w:World) (K:ag) (mg:Str→Option Value) (base:Heap) (k:Nat) (f:Addr) (fd:FuncData) (ps:List Str) (sp:Sp):Prop where
 len:∀ vs H Q E,sp vs H Q E→vs.length=ps.length
 run:∀ (A:Around) (outer:List Env) (s:Shared) (H:Hp) (args:Args) (us:List Value) (vs:List V) (Q:VK) (E:XK),RoomH k A→Env0 P w K mg base A outer s H→BindsTo s fd args (ps.zip us)→zA vs us→sp vs H Q E →
  codeAny (model P w) A (.call (.ref f) args) (CR CX0 outer P w H s Q E) s
abbrev cxH (P:Program) (w:World) (K:ag) (mg:Str→Option Value) (base:Heap) (N:List Str) (qual:Str) (scope:Scope) (f:Addr) (cd:Value) (A:Around) (outer:List Env) (s:Shared) (H:Hp) (E:XK):Cx :=
 { za7 CX0 P w K mg base N qual scope f cd A outer s H E with calm:=false,xe:=fun _ _=>False }
section
variable {P:Program} {w:World} {K:ag} {mg:Str→Option Value} {base:Heap}
theorem zmA {k:Nat} {f:Addr} {name qual:Str} {params:Arguments} {body:List Stmt} {scope:Scope} {dV kV doc pm mq ct oc:Value} {an od:Option Addr}
  {rm:Array (Option Value)} {N ps:List Str} {sp:Sp} (lk:K.lookup f=some ⟨oc,od,.func (cE name qual params body scope dV kV doc pm an mq ct),rm⟩) (oq:ee K mq qual=true) (S:FnScope N ps scope)
  (len:∀ vs H Q E,sp vs H Q E→vs.length=ps.length)
  (m9:∀ (A:Around) (outer:List Env) (s:Shared) (H:Hp) (vs:List V) (Q:VK) (E:XK),RoomH k (A.deeper (envOfC qual scope s.heap.objs.size f mq))→sp vs H Q E →
   ∃ t,PSs (cxH P w K mg base N qual scope f mq A outer s H E) body t∧t { nx:=fun _ H'=>Q .non H',rt:=Q } (start N vs) H) :
  FnOkH P w K mg base (k+1) f (cE name qual params body scope dV kV doc pm an mq ct) ps sp:=by
 refine⟨len,fun A outer s H args us vs Q E hr e0 hb r pR=>?_⟩;have hl:=len _ _ _ _ pR;have KX:K.In s.heap:=e0.mod.kin.keeps fun b o e=>(e0.bs b o e).1
 have lim:s.heap.NoLimit:=e0.mod.nolimit.keeps fun b o e=>(e0.bs b o e).1
 have ot:∀ y∈ps.zip us,scope.names.lookup y.1=some .local∨(scope.names.lookup y.1=some .cell∧((cellsFrom (s.heap.objs.size+1) scope.names []).lookup y.1).isSome=true):=fun ⟨n,v⟩ hy=>by
  rcases S.par n (fX hy).1 with q | q
  ·exact .inl q
  ·exact .inr ⟨q,fA _ _ _ (.inl q)⟩
 refine iS (by have:=hr.dp; lia) (KX _ _ lk) rfl S.co S.gen rfl (jO KX oq) (hb _ _ _ _ ?_);refine gL S.kind ot fun env he s1 x=>?_
 subst he;refine⟨lim.keeps x.toInCall.keep,codeAny_func ?_⟩;obtain⟨t,ht,hq⟩:=m9 A outer s H vs Q E (hr.deeper _) pR;have e1:Env0 P w K mg base { A with handled:=none } outer s H:=⟨e0.frames,e0.mod,e0.bs,e0.bsz,e0.funs,e0.frf,e0.hok,e0.bare⟩;have I0:Inv (za7 CX0 P w K mg base N qual scope f mq { A with handled:=none } outer s H E) [] (start N vs) H s1:=zek S rfl e1 hl r x;have I:Inv (cxH P w K mg base N qual scope f mq A outer s H E) [] (start N vs) H s1 :=
  ⟨⟨I0.ok.mod,I0.ok.kind,I0.ok.glob,I0.ok.blt,I0.ok.above,I0.ok.inj,I0.ok.has,I0.ok.cab,fun z=>(by cases z),I0.ok.frames,I0.ok.stk,I0.ok.exf,I0.ok.bs,I0.ok.bsz,I0.ok.noex,I0.ok.exfs,I0.ok.funs,I0.ok.frf⟩,I0.os,I0.bare,I0.base,I0.loc,I0.cell,I0.free,I0.freeC,I0.pin,I0.hok,I0.len⟩
 refine bE (ht [] s1 (start N vs) H _ I hq) (fun fl s' hs=>?_) fun e s' hs=>hs.elim
 have fin:∀ {σ':St} {H':Hp} {v:V} {u:Value},Inv (cxH P w K mg base N qual scope f mq A outer s H E) [] σ' H' s'→RelV v u→Q v H'→CE outer P w H s Q u s' :=
  fun {σ' H' v u} J rv q=>⟨v,H',J.os,J.bare,J.base,J.hok,rv,q⟩
 cases fl with
 | ret u =>
  obtain⟨v,σ',H',J,rv,q⟩:=hs;exact fin J rv q
 | next =>
  obtain⟨σ',H',J,q⟩:=hs;exact fin (v:=V.non) (u:=cj) J rfl q
 | brk =>
  obtain⟨_,_,_,q⟩:=hs;exact bQ q
 | cont =>
  obtain⟨_,_,_,q⟩:=hs;exact bQ q
theorem Fun.okH {x qual:Str} {st:Stmt} {f:Addr} {fd:FuncData} {N ps:List Str} {k:Nat} {sp:Sp} (F:Fun K x qual st f fd) (S:FnScope N ps (zg st)) (len:∀ vs H Q E,sp vs H Q E→vs.length=ps.length)
  (m9:∀ (mq:Value) (A:Around) (outer:List Env) (s:Shared) (H:Hp) (vs:List V) (Q:VK) (E:XK),RoomH k (A.deeper (envOfC qual (zg st) s.heap.objs.size f mq))→sp vs H Q E →
   ∃ t,PSs (cxH P w K mg base N qual (zg st) f mq A outer s H E) (zao st) t∧t { nx:=fun _ H'=>Q .non H',rt:=Q } (start N vs) H):FnOkH P w K mg base (k+1) f fd ps sp:=by
 obtain⟨oc,od,kV,doc,pm,an,mq,ct,rm,rfl,lk,oq⟩:=F.ex;exact zmA lk oq S len fun A outer s H vs Q E hr pR=>m9 mq A outer s H vs Q E hr pR
end
section
variable {X:Cx} {k:Nat} {f:Addr} {fd:FuncData} {ps:List Str} {sp:Sp} {x:Str} {p pos:Pos} {e:Expr} {es:List Expr} {t:TA}
theorem zjR (F:FnOkH X.prog X.w X.K X.mg X.base k f fd ps sp) (hr:RoomH k X.A) (hg:Gl X x) (hm:X.mg x=some (.ref f)) (hk:dJ X.K (.ref f)=true) (hb:Binds X.K fd ps [])
  (ha:PA X (e :: es) t) (t7:(x == ("__debug__" : Str))=false:=by decide) (he:starEach (e :: es) X.env=(false,eval e X.env) :: starEach es X.env:=by rfl) (nu:(backTo pos (starEach es X.env)).any (·.1)=false:=by rfl) :
  PE X (.Call (.Name x p) (e :: es) [] pos) (zjj sp [] E0 t):=by
 intro lX s σ H Q I h;refine cg (zbU I hg hm ?_ t7);refine gA (h₀:=X.base) I.ok.mod.kin hk (thn (ha pos lX s σ H _ I h) fun us s1 ⟨vs,H1,I1,r,q⟩=>⟨I1.kIn,?_⟩) he nu;have r2:zA (vs++[]) (us++[]):=r.append .nil;have hl:(us++[]).length=ps.length:=by rw [← r2.length]; exact F.len _ _ _ _ q
 refine fe (ed (F.run X.A X.stack s1 H1 ⟨us,[]⟩ (us++[]) (vs++[]) Q E0 hr I1.env0 (hb s1 us I1.kIn hl) r2 q) fun r s' hq=>?_);cases r with
 | error e=>exact hq.elim
 | ok fl =>
  cases fl with
  | ret u=>exact I1.after hq
  | next=>exact bQ hq
  | brk=>exact bQ hq
  | cont=>exact bQ hq
end
theorem zce:∀ {bs:List Bool} {us:List Value},zA (bs.map V.bl) us→us=bs.map fc
 | [],_,r=>by cases r; rfl
 | b :: bs,_,r=>by
  cases r with
  | cons r1 r2 =>
   rw [zce r2];cases r1;rfl
theorem zc1 {h:Heap}:∀ (bs:List Bool),∃ as,ReadsAll h (bs.map fc) (bs.map lV) as
 | []=>⟨_,.nil⟩
 | b :: bs=>by
  obtain⟨as,r⟩:=zc1 (h:=h) bs;exact⟨_,.cons (by constructor) r⟩
theorem zc2:∀ (bs:List Bool),(bs.map lV).all Spec.Shape.bool.has=true
 | []=>rfl
 | _ :: bs=>by
  rw [aP,jr,zc2 bs];rfl
theorem zfI {bs:List Bool} (k:Bool) (y:Value) (hy:y∈bs.map fc) (A:Around) (s:Shared):jg A s y (.bool k) (isBoolOf k y):=by
 obtain⟨as,r⟩:=zc1 (h:=s.heap) bs;exact eq_isBoolOf k r (zc2 bs) y hy A s
theorem zco (k:Bool):∀ bs:List Bool,List.countP (isBoolOf k) (bs.map fc)=bs.count k
 | []=>rfl
 | b :: bs=>by
  rw [aP,List.countP_cons,List.count_cons,zco k bs];rfl
section
variable {X:Cx}
def zk5:V→List V→Hp→VK→Prop:=fun x vs H Q=>∃ (l:Addr) (bs:List Bool) (k:Bool),x = .ref l∧vs = [.bl k]∧H l=some (.lst (bs.map V.bl))∧Q (.int ((bs.count k:Nat):Int)) H
theorem zis:MtM X "list.count" zk5:=by
 intro lX s σ H x vs v us Q I rx rv h;obtain⟨l,bs,k,rfl,rfl,hH,q⟩:=h;cases rx;obtain⟨u,rfl,ru⟩:=rv.one;cases ru;obtain⟨z,lY,n,r,hl,e⟩:=I.lstM hH;have hi:=zce r;subst hi;refine ff F.slot_list_count ⟨_,e,rfl⟩ F.entry_list_count (F.args_list_count_2 _ _) (SeqAt.list_countAt l _ n _ _ (.bool k) (isBoolOf k)) ⟨e,fun y hy=>zfI (bs:=bs) k y (by simpa using hy) _ _,?_⟩;rw [List.toList_toArray,zco];exact⟨.int ((bs.count k:Nat):Int),H,I.tok _,⟨_,rfl⟩,q⟩
def zk6:V→List V→Hp→VK→Prop:=fun x vs H Q=>∃ (l:Addr) (bs:List Bool) (k:Bool) (j:Nat),x = .ref l∧vs = [.bl k]∧H l=some (.lst (bs.map V.bl))∧bs[j]? = some k∧(∀ m,m < j→bs[m]? = some (!k))∧j < 1000∧Q (.int (j:Int)) H
theorem zit:MtM X "list.index" zk6:=by
 intro lX s σ H x vs v us Q I rx rv h;obtain⟨l,bs,k,j,rfl,rfl,hH,hj,hm,h1000,q⟩:=h;cases rx;obtain⟨u,rfl,ru⟩:=rv.one;cases ru;obtain⟨z,lY,n,r,hl,e⟩:=I.lstM hH;have hi:=zce r;subst hi;obtain⟨hjl,hje⟩:=aT.mp hj;refine ff F.slot_list_index ⟨_,e,rfl⟩ F.entry_list_index (F.args_list_index_2 _ _) (SeqAt.list_indexAt l _ n _ _ (.bool k) (isBoolOf k) j (by simpa using hjl) #[O] ?_ ?_) ⟨e,fun y hy=>zfI (bs:=bs) k y (by simpa using hy) _ _,?_⟩
 ·simp [isBoolOf,hje]
 ·intro m h1 h2;have:=hm m h2;obtain⟨_,hme⟩:=aT.mp this;simp [isBoolOf,hme]
 ·exact⟨.int (j:Int),H,I.tok _,⟨_,rfl⟩,q⟩
end
def strsOf:List Expr→Option (List Str)
 | []=>some []
 | .Constant (.str i) _ _ :: r=>(strsOf r).map (i :: ·)
 | _=>none
def zfJ (ns:List Str):TA:=fun _ H Q=>Q (ns.map V.str) H
theorem zk7 {X:Cx}:∀ (es:List Expr) (ns:List Str),strsOf es=some ns→PA X es (zfJ ns):=by
 intro es;induction es with
 | nil =>
  intro ns h;have e:ns = []:=(aX h).symm;subst e;exact zc
 | cons e r ih =>
  intro ns h;unfold strsOf at h;split at h
  ·rename_i heq
   cases heq
  ·rename_i i j p r' heq
   injection heq with e1 e2
   subst e1 e2;cases hr:strsOf r with
   | none=>rw [hr] at h; cases h
   | some ms =>
    rw [hr] at h;have e:i :: ms=ns:=aX h;subst e;exact za zdk (ih ms hr)
  ·cases h
theorem zjS {X:Cx} {i:Nat} {x:Str} {pos' pf nI:Pos} {rest:List Stmt} {u:TS} {es:List Expr} {ns:List Str} (h:strsOf es=some ns) (hN:X.N.Nodup) (hi:X.N[i]? = some x) (hx:Loc X.env.scope x)
  (hf:X.fn x=true∨X.env.scope.names.lookup x=some .local) (hr:PSs X rest u):PSs X (.Assign [.Name x pos'] (.List es pf) nI :: rest) (zaE (zdY (zgn (zfJ ns)) (zaB i)) u):=by
 have h1:PE X (.List es pf) (zgn (zfJ ns)):=@z5 X es (zfJ ns) pf (@zk7 X es ns h);have h2:PS X (.Assign [.Name x pos'] (.List es pf) nI) (zdY (zgn (zfJ ns)) (zaB i)):=zr hN hi hx h1 (by rfl) hf;exact zd h2 hr
section
variable {κ:Type} [DecidableEq κ]
def zaW (l6:List (κ×V)) (k:κ):Option V:=(l6.find? fun kv=>decide (kv.1=k)).map (·.2)
def putK (l6:List (κ×V)) (k:κ) (v:V):List (κ×V) :=
 if (l6.any fun kv=>decide (kv.1=k))=true then l6.map (fun kv=>if kv.1=k then (kv.1,v) else kv) else l6++[(k,v)]
theorem zdA {p:κ×V} {r:List (κ×V)} {k:κ} (e:p.1=k):zaW (p :: r) k=some p.2:=by simp [zaW,dZ,e]
theorem zdB {p:κ×V} {r:List (κ×V)} {k:κ} (e:¬ p.1=k):zaW (p :: r) k=zaW r k:=by simp [zaW,dZ,e]
theorem zdC (k:κ):∀ l6:List (κ×V),(l6.any fun kv=>decide (kv.1=k))=(zaW l6 k).isSome
 | []=>rfl
 | p :: r=>by
  rw [jt];by_cases e:p.1=k
  ·simp only [zdA e,decide_eq_true e,Bool.true_or,jS]
  ·rw [zdB e,decide_eq_false e,Bool.false_or]; exact zdC k r
theorem zjT {l6:List (κ×V)} {k:κ} (v:V) (h:zaW l6 k=none):putK l6 k v=l6++[(k,v)]:=by
 unfold putK;rw [zdC,h];exact if_neg #[D]
theorem zdi.isSome_eq {o:Option V} {u:Option Value} (r:zdi o u):o.isSome=u.isSome:=by
 cases o with
 | none=>cases u with
  | none=>rfl
  | some _=>exact (show False from r).elim
 | some _=>cases u with
  | none=>exact (show False from r).elim
  | some _=>rfl
theorem KV.val {l6:List (κ×V)} {vs:List (κ×Value)} (r:KV l6 vs) (k:κ):zdi (zaW l6 k) (valueAt vs k):=by
 unfold KV at r;induction r with
 | nil=>exact eD
 | @cons p q ps qs h t ih =>
  obtain⟨h1,h2⟩:=h;by_cases e:p.1=k
  ·have e':q.1=k:=h1.symm.trans e;have b:valueAt (q :: qs) k=some q.2:=by simp [valueAt,dZ,e']
   rw [zdA e,b]; exact h2
  ·have e':¬ q.1=k:=fun z=>e (h1.trans z)
   have b:valueAt (q :: qs) k=valueAt qs k:=by simp [valueAt,dZ,e']
   rw [zdB e,b]; exact ih
end
theorem zlU {P:Program} {w:World} {k:Key} {u:Value} (r:RelV (kV k) u):(zak P w).is k u=true:=by
 cases k with
 | inl i=>obtain⟨t,e⟩:=(show ∃ t,u=du i t from r); subst e; exact zfj P w i t
 | inr x=>obtain⟨t,e⟩:=(show ∃ t,u=jJ x t from r); subst e; exact zfk P w x t
theorem zew {P:Program} {w:World}:∀ {ks:List Key} {us:List Value},zA (ks.map kV) us→ItemsAre (zak P w) ks us
 | [],_,r=>by rw [hW] at r; cases r; exact .nil
 | k :: ks,_,r=>by
  rw [aP] at r;cases r with
  | cons h t=>exact .cons (zlU h) (zew t)
abbrev KT (H:Hp):List (List Key×V)→List (List Key×Addr×Value)→Prop:=Paired fun p q=>p.1=q.1∧H q.2.1=some (.tup (p.1.map kV))∧RelV p.2 q.2.2
theorem KT.val {H:Hp} {l6:List (List Key×V)} {xs:List (List Key×Addr×Value)} (r:KT H l6 xs) (k:List Key):zdi (zaW l6 k) ((atKey xs k).map (·.2)):=by
 induction r with
 | nil=>exact eD
 | @cons p q ps qs h t ih =>
  obtain⟨h1,_,h2⟩:=h;by_cases e:p.1=k
  ·have e':q.1=k:=h1.symm.trans e;have b:atKey (q :: qs) k=some q.2:=by simp [atKey,dZ,e']
   rw [zdA e,b]; exact h2
  ·have e':¬ q.1=k:=fun z=>e (h1.trans z)
   have b:atKey (q :: qs) k=atKey qs k:=by simp [atKey,dZ,e']
   rw [zdB e,b]; exact ih
theorem KT.repl {H:Hp} {l6:List (List Key×V)} {xs:List (List Key×Addr×Value)} (r:KT H l6 xs) (k:List Key) {y:V} {u:Value} (ry:RelV y u) :
  KT H (l6.map fun kv=>if kv.1=k then (kv.1,y) else kv) (xs.map (putAt k u)):=by
 induction r with
 | nil=>exact .nil
 | @cons p q ps qs h t ih =>
  rw [aP,aP];refine .cons ?_ ih;obtain⟨h1,h2,h3⟩:=h;unfold putAt;by_cases e:p.1=k
  ·rw [if_pos e,if_pos (h1.symm.trans e)]; exact⟨h1,h2,ry⟩
  ·rw [if_neg e,if_neg (fun z=>e (h1.trans z))]; exact⟨h1,h2,h3⟩
theorem KT.put {H:Hp} {l6:List (List Key×V)} {xs:List (List Key×Addr×Value)} (r:KT H l6 xs) (k:List Key) {b:Addr} {y:V} {u:Value} (hb:H b=some (.tup (k.map kV))) (ry:RelV y u) :
  KT H (putK l6 k y) (storedH xs k b u):=by
 have e:(l6.any fun kv=>decide (kv.1=k))=(atKey xs k).isSome:=by
  rw [zdC,(r.val k).isSome_eq,Option.isSome_map]
 unfold putK storedH;rw [e];by_cases q:(atKey xs k).isSome=true
 ·rw [if_pos q,if_pos q]; exact r.repl k ry
 ·rw [if_neg q,if_neg q]; exact gv r ⟨rfl,hb,ry⟩
theorem KT.keeps {H H':Hp} {l6:List (List Key×V)} {xs:List (List Key×Addr×Value)} (r:KT H l6 xs) (ht:∀ b ys,H b=some (.tup ys)→H' b=some (.tup ys)):KT H' l6 xs :=
 Paired.mapP r fun _ _ z=>⟨z.1,ht _ _ z.2.1,z.2.2⟩
section
variable {P:Program} {w:World} {H:Hp} {h:Heap} {a:Addr}
theorem zlV {u:HO} (ok:HOk P w H h) (e:Rd H a u):zO P w H h a u:=e.ok ok
theorem zjU {l6:List (Key×V)} (ok:HOk P w H h) (e:Rd H a (.dK l6)):l6.length≤sizeLine∧(a == sysModules)=false∧∃ vs,KV l6 vs∧h.DictOf (zak P w) a vs :=
 show zO P w H h a (.dK l6) from zlV ok e
theorem zeX {ks:List Key} (ok:HOk P w H h) (e:H a=some (.tup (ks.map kV))):(tupleKind (zak P w)).is h ks a:=by
 obtain⟨_,lY,r,o,h1,h2,n,h3⟩:=(show zO P w H h a (.tup (ks.map kV)) from ok a _ e);exact⟨o,lY.toArray,n,h1,h2,h3,by simpa using zew r⟩
theorem zhn {l6:List (List Key×V)} (ok:HOk P w H h) (e:Rd H a (.dT l6)):l6.length≤sizeLine∧(a == sysModules)=false ∧
  ∃ xs,KT H l6 xs∧h.DictOfH (tupleKind (zak P w)) a xs:=by
 obtain⟨z,y,xs,r,o,es,ep,h1,h2,h3,h4,h5⟩:=(show zO P w H h a (.dT l6) from zlV ok e);refine⟨z,y,xs,r,o,es,ep,h1,h2,h3,h4,fun x hx=>?_,h5⟩;have all:∀ {l:List (List Key×V)} {m:List (List Key×Addr×Value)},KT H l m→∀ x∈m,(tupleKind (zak P w)).is h x.1 x.2.1:=by
  intro l m q;induction q with
  | nil=>intro x hx; exact nomatch hx
  | @cons p q ps qs hq t ih =>
   intro x hx;rcases au.mp hx with e | hx
   ·subst e;exact zeX ok (by rw [← hq.1]; exact hq.2.1)
   ·exact ih x hx
 exact all r x hx
theorem zlW {l6:List (List Key×V)} (ok:HOk P w H h) (e:H a=some (.dT l6)):l6.length≤sizeLine∧(a == sysModules)=false ∧
  ∃ xs,KT H l6 xs∧h.DictOfH (tupleKind (zak P w)) a xs:=zhn ok (.inl e)
end
def ziu (H:Hp) (a:Addr) (y:V) (r:Option V):Prop :=
 (∃ l6 k,Rd H a (.dK l6)∧y=kV k∧r=zaW l6 k)∨∃ l6 k b,Rd H a (.dT l6)∧y = .ref b∧H b=some (.tup (k.map kV))∧r=zaW l6 k
theorem ziu.t {H:Hp} {a b:Addr} {l6:List (List Key×V)} {k:List Key} (e:H a=some (.dT l6)) (eb:H b=some (.tup (k.map kV))):ziu H a (.ref b) (zaW l6 k):=.inr ⟨l6,k,b,.inl e,rfl,eb,rfl⟩
section
variable {X:Cx} {lX:List (Addr×Obj)} {σ:St} {H:Hp} {s:Shared} {a:Addr} {y v:V} {u r:Value} {o:Option V} {A:Around} {E:Value→Shared→Prop}
theorem Inv.big (I:Inv X lX σ H s):sysModules < s.heap.objs.size:=by
 have h:mainGlobals < s.heap.objs.size:=(I.mod.glob.keeps I.bk).lt;exact jV #[D] h
theorem ziv {Q:Value→Shared→Prop} (hu:A.units+1 < cLine) (I:Inv X lX σ H s) (g:ziu H a y (some v)) (ry:RelV y u) (h:∀ w' s',Inv X lX σ H s'→RelV v w'→Q w' s') :
  wpAny (model X.prog X.w) A (getItem (.ref a) u) Q E s:=by
 rcases g with ⟨l6,k,e,ey,l⟩ | ⟨l6,k,b,e,ey,eb,l⟩
 ·subst ey;obtain⟨z,hd,vs,rel,dd⟩:=zjU I.hok e;obtain⟨w',hw,sH⟩:=zdi.some_of (v:=v) (o:=valueAt vs k) (by rw [l]; exact rel.val k);exact wpAny_getItem_of (zlU ry) dd.mapOf hw (h w' _ (I.tok _) sH)
 ·subst ey;cases (show u=aK b from ry);obtain⟨z,hd,xs,rel,dd⟩:=zhn I.hok e;obtain⟨w',hw,sH⟩:=zdi.some_of (v:=v) (o:=(atKey xs k).map (·.2)) (by rw [l]; exact rel.val k);obtain⟨p,hp,oz⟩:=fE.mp hw;refine jW (gD hu) (zeX I.hok eb) dd hp ?_;rw [oz];exact h w' _ (I.tok _) sH
theorem zk8 {h':Heap} {t':Nat} {ob:HO} (I:Inv X lX σ H s) (mu:Mut (H a)) (hs:cS a s.heap h') (he:∃ q,h'.get? a=some q) (new:zO X.prog X.w (l7 H a ob) h' a ob) :
  Inv X lX σ (l7 H a ob) { s with heap:=h',toks:=t' } :=
 I.write (x:=a) (e:=a) mu (.inl rfl) (fun b q hb z=>(hs.2 b hb).trans z) he new
end
def znj (i:Expr):Prop:=∀ ov iv,subscripted i false ov iv=operate [ov,iv] (getItem ov iv)
theorem zho {prog:Program} {w:World} {A:Around} {E:Value→Shared→Prop} {s:Shared} {env:Env} {value slice:Expr} {pos:Pos} {T id:String} {Q:Value→Shared→Prop}
  (hl:typeLookup (.type T) "__getitem__" = pure (some (.builtin id))) (hs:znj slice)
  (h:wpAny (model prog w) A (eval value env) (fun o s₁=>wpAny (model prog w) A (eval slice env) (fun i s₂=>s₂.TypeIs o T∧wpAny (model prog w) A (getItem o i) Q E s₂) E s₁) E s) :
  wpAny (model prog w) A (eval (.Subscript value slice pos) env) Q E s:=by
 refine kR (bE h (fun o s₁ h₁=>bE h₁ (fun i s₂ h₂=>?_) fun _ _ x=>x) fun _ _ x=>x);obtain⟨hT,h₂⟩:=h₂;unfold subscriptTail;refine aa ?_;rw [getitemInPython_of_ne hT.not_modules];refine aa (dX hT hl ?_);have fin:wpAny (model prog w) A (subscripted slice false o i) (fun r s₃=>wpAny (model prog w) A (letTemporaryGo value o r >>= fun _=>pure r) Q E s₃) E s₂:=by
  rw [hs o i];exact wpAny_operating (bE h₂ (fun r s₃ h₃=>aa (wpAny_letTemporaryGo (af h₃))) fun _ _ x=>x)
 first
  | exact af (aa fin)
  | exact aa (af (aa fin))
  | exact aa fin
theorem zfK {X:Cx} {lX:List (Addr×Obj)} {σ:St} {H:Hp} {s:Shared} {a:Addr} {y:V} {o:Option V} (I:Inv X lX σ H s) (g:ziu H a y o):s.TypeIs (.ref a) "dict":=by
 rcases g with ⟨l6,k,e,_,_⟩ | ⟨l6,k,b,e,_,_,_⟩
 ·obtain⟨_,_,vs,_,dd⟩:=zjU I.hok e;exact dd.typeIs
 ·obtain⟨_,_,xs,_,dd⟩:=zhn I.hok e;exact dd.typeIs
def znk (td ty:TE):TE:=fun σ H Q=>td σ H fun x H1=>ty σ H1 fun y H2=>∃ a v,x = .ref a∧ziu H2 a y (some v)∧Q v H2
section
variable {X:Cx} {o i e value:Expr} {pos pos' xk:Pos} {td ty tv:TE}
theorem zk9 (hu:X.A.units+1 < cLine) (ho:PE X o td) (hi:PE X i ty) (hs:znj i):PE X (.Subscript o i pos) (znk td ty):=by
 intro lX s σ H Q I h;refine zho PySem.F.slot_dict_getitem.lookup hs (thn (ho lX s σ H _ I h) fun u s1 ⟨x,H1,I1,rx,q1⟩=>thn (hi lX s1 σ H1 _ I1 q1) fun iv s2 ⟨y,H2,I2,ry,a,v,ex,g,q2⟩=>?_);subst ex;obtain rfl:u=aK a:=rx;exact⟨zfK I2 g,ziv hu I2 g ry fun w' s3 I3 sH=>⟨v,H2,I3,sH,q2⟩⟩
end
theorem zjV {P:Program} {w:World} {H:Hp} (h:Heap) (hb:sysModules < h.objs.size):zO P w H (h.push { cls:=.type "dict",data:=.dict #[] }) h.objs.size (.dT []) :=
 ⟨bi _,beq_eq_false_iff_ne.mpr (de (aL hb)),[],.nil,_,#[],0,aB _ rfl,⟨rfl,rfl,rfl⟩,rfl,rfl,List.nodup_nil⟩
def zmB:TE:=fun _ H Q=>∀ p,H p=none→Q (.ref p) (l7 H p (.dT []))
section
variable {X:Cx} {pos:Pos}
theorem zjW:PE X (.Dict [] [] pos) zmB:=fun lX s σ H Q I h =>
 wpAny_Dict_empty ⟨.ref s.heap.objs.size,_,I.laid (a:=s.heap.objs.size) (o:=.dT []) (t':=s.toks) (fun _ _ q=>aj _ q) (ah _) (zjV s.heap I.big),rfl,h _ (I.hok.fresh (ah _))⟩
end
structure M2 (X:Cx) (o:Expr) (m:Str) (apos:Pos) (e f:Expr) (mC:Pos):Prop where
 base:attributeBase o m X.env (eval o X.env)=eval o X.env
 few:((backTo mC (starEach [e,f] X.env)).all (fun x=>!x.1) && (backToKw mC (keywordEach [] X.env)).all (fun x=>x.1.isSome)
  && decide (([e,f]:List Expr).length+([]:List Keyword).length+(if ([]:List Keyword).isEmpty then 0 else 1) < 30))=true
 line:(apos.endLine == mC.line)=true
 trees:backTo mC (starEach [e,f] X.env) = [(false,eval e X.env),(false,eval f X.env)]
def IsD (H:Hp) (a:Addr):Prop:=(∃ l6,Rd H a (.dK l6))∨∃ l6,Rd H a (.dT l6)
theorem zmC {X:Cx} {lX:List (Addr×Obj)} {σ:St} {H:Hp} {s:Shared} {a:Addr} (I:Inv X lX σ H s) (d:IsD H a) :
  s.TypeIs (.ref a) "dict"∧(∀ b,aK a = .ref b→∃ ob,s.heap.get? b=some ob∧ob.dict=none)∧(a == sysModules)=false:=by
 rcases d with ⟨l6,e⟩ | ⟨l6,e⟩
 ·obtain⟨_,hd,vs,_,dd⟩:=zjU I.hok e;refine⟨dd.typeIs,fun b q=>?_,hd⟩;cases q;obtain⟨ob,_,_,h1,h2,_⟩:=dd;exact⟨ob,h1,h2.2.1⟩
 ·obtain⟨_,hd,xs,_,dd⟩:=zhn I.hok e;refine⟨dd.typeIs,fun b q=>?_,hd⟩;cases q;obtain⟨ob,_,_,h1,h2,_⟩:=dd;exact⟨ob,h1,h2.2.1⟩
end L2
namespace PySem
open PyProof.Rows
end PySem
namespace L2
open PySem PySem.Spec PyProof.Rows
end L2
namespace My
open PySem L2 PyProof.Rows
end My
end
section
namespace Srt
open PySem PyProof.Rows
def Vk (val:Keyed→Int) (xs:Array Keyed) (i:Nat):Int:=match xs[i]? with
 | some p=>val p
 | none=>0
theorem zU {val:Keyed→Int} {xs ys:Array Keyed} {i j:Nat} (h:xs[i]? = ys[j]?):Vk val xs i=Vk val ys j:=by unfold Vk; rw [h]
theorem zG {val:Keyed→Int} {xs:Array Keyed} {i:Nat} {p:Keyed} (h:xs[i]? = some p):Vk val xs i=val p:=by unfold Vk; rw [h]
def SIn (val:Keyed→Int) (xs:Array Keyed) (lo hi:Nat):Prop:=∀ i j,lo≤i→i≤j→j < hi→Vk val xs i≤Vk val xs j
def DIn (val:Keyed→Int) (xs:Array Keyed) (lo hi:Nat):Prop:=∀ i j,lo≤i→i≤j→j < hi→Vk val xs j≤Vk val xs i
structure SB (κ:SortKind) (a₀:Array Keyed) (st:SortSt):Prop where
 perm:(arrOf st).Perm a₀
 kind:kindOf st=κ
 failed:failedOf st=none
theorem SB.size {κ:SortKind} {a₀:Array Keyed} {st:SortSt} (h:SB κ a₀ st):(arrOf st).size=a₀.size:=h.perm.size_eq
theorem SB.mem {κ:SortKind} {a₀:Array Keyed} {st:SortSt} (h:SB κ a₀ st) {i:Nat} (hi:i < a₀.size):∃ p,(arrOf st)[i]? = some p∧p∈a₀.toList:=by
 (have mY:i < (arrOf st).size:=by rw [h.size]; exact hi)
 exact⟨(arrOf st)[i],getElem?_pos _ i mY,(eK.mp h.perm).mem_iff.mp #[M]⟩
structure SF (κ:SortKind) (a₀:Array Keyed) (lo:Nat) (st₀ st:SortSt):Prop where
 b:SB κ a₀ st
 low:∀ k,k < lo→(arrOf st)[k]? = (arrOf st₀)[k]?
 pend:pendingOf st=pendingOf st₀
theorem SF.refl {κ:SortKind} {a₀:Array Keyed} {lo:Nat} {st:SortSt} (h:SB κ a₀ st):SF κ a₀ lo st st:=⟨h,fun _ _=>rfl,rfl⟩
theorem SF.setArr {κ:SortKind} {a₀:Array Keyed} {lo:Nat} {st₀ st:SortSt} (h:SF κ a₀ lo st₀ st) {xs:Array Keyed} (hp:xs.Perm (arrOf st)) (hl:∀ k,k < lo→xs[k]? = (arrOf st)[k]?):SF κ a₀ lo st₀ (setArr st xs) :=
 ⟨⟨hp.trans h.b.perm,h.b.kind,h.b.failed⟩,fun k hk=>(hl k hk).trans (h.low k hk),h.pend⟩
section
variable {prog:Program} {w:World} {A:Around} {E:Value→Shared→Prop} {s:Shared} {a₀:Array Keyed} {κ:SortKind} {val:Keyed→Int}
def Cmp (prog:Program) (w:World) (A:Around) (s:Shared) (κ:SortKind) (val:Keyed→Int) (a₀:Array Keyed):Prop :=
 ∀ x y,x∈a₀.toList→y∈a₀.toList→∀ (Q:Bool→Shared→Prop) (E:Value→Shared→Prop),Q (decide (val x < val y)) s→wpAny (model prog w) A (keyLt' κ x.1 y.1) Q E s
theorem zjX {st:SortSt} {x y:Keyed} {Q:Option Bool→SortSt→Prop} (hC:Cmp prog w A s κ val a₀) (hk:kindOf st=κ) (hx:x∈a₀.toList) (hy:y∈a₀.toList) (h:Q (some (decide (val x < val y))) st) :
  wpS (model prog w) A E s (lt' x y) Q st:=by
 rw [lt'_eq];refine ak (fg ?_);rw [hk];refine ak (gk (cW (hC x y hx hy _ _ ⟨rfl,?_⟩)));exact am h
theorem zF {st:SortSt} {arr:Array Keyed} {i:Nat} {p:Keyed} {Q:Keyed→SortSt→Prop} (hi:arr[i]? = some p) (h:Q p st):wpS (model prog w) A E s (elem' arr i) Q st:=by
 rw [elem'_eq,hi];exact am h
theorem zdD {st:SortSt} {i j:Nat} {Q:Option Bool→SortSt→Prop} (hC:Cmp prog w A s κ val a₀) (hB:SB κ a₀ st) (hi:i < a₀.size) (hj:j < a₀.size) (h:Q (some (decide (Vk val (arrOf st) i < Vk val (arrOf st) j))) st) :
  (wpS (model prog w) A E s (ltAt' i j) Q st):=by
 obtain⟨x,ex,mx⟩:=hB.mem hi;obtain⟨y,ey,my⟩:=hB.mem hj;rw [ltAt'_eq];refine ak (fg ?_)
 (show wpS _ _ _ _ (do let x ← elem' (arrOf st) i; let y ← elem' (arrOf st) j; lt' x y) Q st)
 refine ak (zF ex (ak (zF ey (zjX hC hB.kind mx my ?_))));rw [zG ex,zG ey] at h;exact h
theorem zhp {st:SortSt} {i j:Nat} {Q:Unit→SortSt→Prop} (h:Q () (setArr st (mirror (arrOf st) i j ((j - i) / 2)))) :
  (wpS (model prog w) A E s (reverseSlice' i j) Q st):=by
 ((rw [reverseSlice'_eq]; exact eG h))
theorem zdE {xs:Array Keyed} {i j:Nat} (hj:j≤xs.size) (k:Nat):Vk val (mirror xs i j ((j - i) / 2)) k=if i≤k∧k < j then Vk val xs (i+j - 1 - k) else Vk val xs k:=by
 (have e:=jD (i:=i) hj k)
 by_cases h1:i≤k∧k < j
 ·rw [if_pos h1] at e ⊢; exact zU e
 ·rw [if_neg h1] at e ⊢; exact zU e
theorem zaQ {xs:Array Keyed} {i j:Nat} (hj:j≤xs.size) (heq:∀ k,i≤k→k < j→Vk val xs k=Vk val xs (j - 1)) (k:Nat):Vk val (mirror xs i j ((j - i) / 2)) k=Vk val xs k:=by
 rw [zdE hj];split
 ·(rw [heq _ #[O] #[O],heq k #[O] #[O]])
 ·rfl
theorem zbz {xs:Array Keyed} {lo i j:Nat} (hj:j≤xs.size) (hi:lo≤i):∀ k,k < lo→(mirror xs i j ((j - i) / 2))[k]? = xs[k]?:=fun k hk=>by
 rw [jD hj,if_neg #[O]]
theorem zgE {xs:Array Keyed} {lo src d:Nat} (hs:src < xs.size) (hd:d≤src) (hl:lo≤src - d):∀ k,k < lo→(bubble xs src d)[k]? = xs[k]?:=fun k hk=>by
 rw [getElem?_bubble hs d hd,if_neg #[O],if_neg #[O]]
def zjY (lo a mf:Nat):StateT SortSt Sem AscSt :=
 forIn [a:mf] ((none,a):AscSt) fun _ st=>do
  let x ← ltAt' (lo+st.snd) (lo+st.snd - 1)
  match x with
  | some pj=>if pj=true then pure (fh (none,st.snd)) else pure (cA (none,st.snd+1))
  | _=>pure (fh (some none,st.snd))
def zfL (lo n mf:Nat):StateT SortSt Sem (Option Nat):=do
 reverseSlice' lo (lo+n)
 let st ← zjY lo n mf
 match st.fst with
 | some r=>pure r
 | none=>pure (some st.snd)
def zhq (lo n mf:Nat):StateT SortSt Sem DescSt :=
 forIn [n:mf] ((none,n,0):DescSt) fun _ st=>do
  let x ← ltAt' (lo+st.snd.fst) (lo+st.snd.fst - 1)
  match x with
  | some pj =>
   if pj=true then
    if st.snd.snd > 0 then do
     reverseSlice' (lo+st.snd.fst - (st.snd.snd+1)) (lo+st.snd.fst)
     pure (cA (none,st.snd.fst+1,0))
    else pure (cA (none,st.snd.fst+1,0))
   else do
    let x ← ltAt' (lo+st.snd.fst - 1) (lo+st.snd.fst)
    match x with
    | some vw =>
     if vw=true then pure (fh (none,st.snd.fst,st.snd.snd))
     else pure (cA (none,st.snd.fst+1,st.snd.snd+1))
    | _=>pure (fh (some none,st.snd.fst,st.snd.snd))
  | _=>pure (fh (some none,st.snd.fst,st.snd.snd))
def zfM (lo n mf:Nat):StateT SortSt Sem (Option Nat):=do
 liftM (rule "list.sort.descending-run"); let st ← zhq lo (n+1) mf
 match st.fst with
 | some r=>pure r
 | none =>
  if st.snd.snd > 0 then do
   reverseSlice' (lo+st.snd.fst - (st.snd.snd+1)) (lo+st.snd.fst)
   zfL lo st.snd.fst mf
  else zfL lo st.snd.fst mf
theorem zeY (lo mf:Nat):countRun' lo mf=(do
  let st ← zjY lo 1 mf
  match st.fst with
  | some r=>pure r
  | none =>
   if (st.snd == mf)=true then pure (some st.snd)
   else if st.snd > 1 then do
    let x ← ltAt' lo (lo+st.snd - 1)
    match x with
    | some xo=>if xo=true then pure (some st.snd) else do
      reverseSlice' lo (lo+st.snd)
      zfM lo st.snd mf
    | _=>pure none
   else zfM lo st.snd mf):=by
 rw [countRun'_eq];unfold zfM zfL zhq zjY;dsimp only;refine congrArg (bind _) ?_;funext c;obtain⟨r,n⟩:=c;cases r with
 | some r=>rfl
 | none =>
  dsimp only;split
  ·rfl
  ·split
   ·congr 1;funext x;cases x with
    | none=>rfl
    | some xo =>
     dsimp only;split
     ·rfl
     ·congr 1;funext _r;congr 1; funext _u; congr 1; congr 1; funext s2; obtain⟨r2,n2,q2⟩:=s2;cases r2 with
      | some r2=>rfl
      | none =>
       dsimp only;split
       ·congr 1; funext _v; congr 1; funext _w; congr 1; funext s3; obtain⟨r3,n3⟩:=s3; cases r3 <;> rfl
       ·congr 1; funext _w; congr 1; funext s3; obtain⟨r3,n3⟩:=s3; cases r3 <;> rfl
   ·congr 1; funext _u; congr 1; congr 1; funext s2; obtain⟨r2,n2,q2⟩:=s2;cases r2 with
    | some r2=>rfl
    | none =>
     dsimp only;split
     ·congr 1; funext _v; congr 1; funext _w; congr 1; funext s3; obtain⟨r3,n3⟩:=s3; cases r3 <;> rfl
     ·congr 1; funext _w; congr 1; funext s3; obtain⟨r3,n3⟩:=s3; cases r3 <;> rfl
theorem zlX {st₀ st:SortSt} {lo a mf:Nat} {Q:AscSt→SortSt→Prop} (hC:Cmp prog w A s κ val a₀) (hn:lo+mf≤a₀.size) (ha:1≤a) (han:a≤mf) (hB:SF κ a₀ lo st₀ st)
  (hs:SIn val (arrOf st) lo (lo+a))
  (h:∀ n,a≤n→n≤mf→SIn val (arrOf st) lo (lo+n)→(n=mf∨Vk val (arrOf st) (lo+n) < Vk val (arrOf st) (lo+n - 1))→Q (none,n) st) :
  wpS (model prog w) A E s (zjY lo a mf) Q st:=by
 unfold zjY;refine cH (I:=fun x c lZ=>lZ=st∧c=(none,x)∧SIn val (arrOf st) lo (lo+x)) ?step ?fin ⟨rfl,rfl,hs⟩
 case fin =>
  rintro c lZ ⟨rfl,rfl,mS⟩
  (rw [show max a mf=mf by lia] at mS ⊢)
  (exact h mf han (ah _) mS (.inl rfl))
 case step =>
  (rintro x c lZ AL yN ⟨rfl,rfl,mS⟩)
  dsimp only;refine ak (zdD hC hB.b #[O] #[O] ?_);by_cases mL:Vk val (arrOf lZ) (lo+x) < Vk val (arrOf lZ) (lo+x - 1)
  ·(simp only [mL,decide_true,if_true])
   (exact am (h x AL #[O] mS (.inr mL)))
  ·(simp only [mL,decide_false,aC,if_false])
   refine am ⟨rfl,rfl,fun i j pU o2 hj=>?_⟩;by_cases xp:j < lo+x
   ·exact mS i j pU o2 xp
   ·have nN:j=lo+x:=by lia
    subst nN;by_cases mY:i=lo+x
    ·(subst mY; exact bX _)
    ·exact bU (mS i (lo+x - 1) pU #[O] #[O]) (Int.not_lt.mp mL)
theorem zjZ {st₀ st:SortSt} {lo n mf:Nat} {Q:Option Nat→SortSt→Prop} (hC:Cmp prog w A s κ val a₀) (hn:lo+mf≤a₀.size) (h1:1≤n) (uf:n≤mf) (hB:SF κ a₀ lo st₀ st)
  (hs:DIn val (arrOf st) lo (lo+n)) (h:∀ m lZ,SF κ a₀ lo st₀ lZ→1≤m→m≤mf→SIn val (arrOf lZ) lo (lo+m)→Q (some m) lZ) :
  wpS (model prog w) A E s (zfL lo n mf) Q st:=by
 unfold zfL;have hsz:lo+n≤(arrOf st).size:=by rw [hB.b.size]; lia
 refine ak (zhp ?_);have nA:=hB.setArr (iN (arrOf st) lo (lo+n) ((lo+n - lo) / 2)) (zbz hsz (ah _));refine ak (zlX hC hn h1 uf nA ?_ fun m sQ tS rC _=>am (h m _ nA #[O] tS rC));intro i j pU o2 hj;show Vk val (mirror (arrOf st) lo (lo+n) ((lo+n - lo) / 2)) i≤Vk val (mirror (arrOf st) lo (lo+n) ((lo+n - lo) / 2)) j;rw [zdE hsz,zdE hsz,if_pos #[O],if_pos #[O]];exact hs _ _ #[O] #[O] #[O]
theorem zmD {st₀ st:SortSt} {lo n mf:Nat} {Q:DescSt→SortSt→Prop} (hC:Cmp prog w A s κ val a₀) (hn:lo+mf≤a₀.size) (h1:1≤n) (uf:n≤mf) (hB:SF κ a₀ lo st₀ st)
  (hs:DIn val (arrOf st) lo (lo+n))
  (h:∀ m qB lZ,SF κ a₀ lo st₀ lZ→n≤m→m≤mf→DIn val (arrOf lZ) lo (lo+m)→qB+1≤m→(∀ i,lo+m - (qB+1)≤i→i < lo+m→Vk val (arrOf lZ) i=Vk val (arrOf lZ) (lo+m - 1))→Q (none,m,qB) lZ) :
  wpS (model prog w) A E s (zhq lo n mf) Q st:=by
 unfold zhq;refine cH (I:=fun x c lZ=>∃ qB,c=(none,x,qB)∧SF κ a₀ lo st₀ lZ∧DIn val (arrOf lZ) lo (lo+x)∧qB+1≤x ∧
   (∀ i,lo+x - (qB+1)≤i→i < lo+x→Vk val (arrOf lZ) i=Vk val (arrOf lZ) (lo+x - 1))) ?step ?fin ⟨0,rfl,hB,hs,#[O],fun i h1 h2=>by congr 1; lia⟩
 case fin =>
  (rintro c lZ ⟨qB,rfl,nA,mS,hq,he⟩)
  (rw [show max n mf=mf by lia] at mS hq he ⊢)
  (exact h mf qB lZ nA uf (ah _) mS hq he)
 case step =>
  (rintro x c lZ AL yN ⟨qB,rfl,nA,mS,hq,he⟩)
  dsimp only;have hsz:lo+x≤(arrOf lZ).size:=by rw [nA.b.size]; lia
  refine ak (zdD hC nA.b #[O] #[O] ?_);by_cases mL:Vk val (arrOf lZ) (lo+x) < Vk val (arrOf lZ) (lo+x - 1)
  ·(simp only [mL,decide_true,if_true])
   have step1:∀ xs:Array Keyed,(∀ k,Vk val xs k=Vk val (arrOf lZ) k)→DIn val xs lo (lo+(x+1)):=by
    intro xs hk i j pU o2 hj;rw [hk,hk];by_cases xp:j < lo+x
    ·exact mS i j pU o2 xp
    ·have nN:j=lo+x:=by lia
     subst nN;by_cases mY:i=lo+x
     ·(subst mY; exact bX _)
     ·exact bU (et mL) (mS i (lo+x - 1) pU #[O] #[O])
   by_cases sR:qB > 0
   ·rw [if_pos sR];refine ak (zhp (am ⟨0,rfl,nA.setArr (iN _ _ _ _) (zbz hsz #[O]),step1 _ (zaQ hsz he),#[O],fun i h1 h2=>by congr 1; lia⟩))
   ·rw [if_neg sR]
    (exact am ⟨0,rfl,nA,step1 _ (fun _=>rfl),#[O],fun i h1 h2=>by congr 1; lia⟩)
  ·(simp only [mL,decide_false,aC,if_false])
   refine ak (zdD hC nA.b #[O] #[O] ?_);by_cases qW:Vk val (arrOf lZ) (lo+x - 1) < Vk val (arrOf lZ) (lo+x)
   ·(simp only [qW,decide_true,if_true])
    (exact am (h x qB lZ nA AL #[O] mS hq he))
   ·(simp only [qW,decide_false,aC,if_false])
    have xq:Vk val (arrOf lZ) (lo+x)=Vk val (arrOf lZ) (lo+x - 1):=by lia
    refine am ⟨qB+1,rfl,nA,fun i j pU o2 hj=>?_,#[O],fun i h1 h2=>?_⟩
    ·by_cases xp:j < lo+x
     ·exact mS i j pU o2 xp
     ·have nN:j=lo+x:=by lia
      subst nN;by_cases mY:i=lo+x
      ·(subst mY; exact bX _)
      ·rw [xq]; exact mS i (lo+x - 1) pU #[O] #[O]
    ·rw [show lo+(x+1) - 1=lo+x by lia];by_cases hix:i=lo+x
     ·subst hix; rfl
     ·(rw [xq]; exact he i #[O] #[O])
theorem zhr {st₀ st:SortSt} {lo n mf:Nat} {Q:Option Nat→SortSt→Prop} (hC:Cmp prog w A s κ val a₀) (hn:lo+mf≤a₀.size) (uf:n+1≤mf) (hB:SF κ a₀ lo st₀ st)
  (hs:DIn val (arrOf st) lo (lo+(n+1))) (h:∀ m lZ,SF κ a₀ lo st₀ lZ→1≤m→m≤mf→SIn val (arrOf lZ) lo (lo+m)→Q (some m) lZ) :
  wpS (model prog w) A E s (zfM lo n mf) Q st:=by
 unfold zfM
 (refine ak (gk (cU ⟨rfl,?_⟩)))
 refine ak (zmD hC hn #[O] uf hB hs fun m qB lZ nA sQ tS mS hq he=>?_);dsimp only;have hsz:lo+m≤(arrOf lZ).size:=by rw [nA.b.size]; lia
 by_cases sR:qB > 0
 ·rw [if_pos sR];refine ak (zhp (zjZ hC hn #[O] tS (nA.setArr (iN _ _ _ _) (zbz hsz #[O])) ?_ h));intro i j pU o2 hj;show Vk val (mirror (arrOf lZ) _ _ _) j≤Vk val (mirror (arrOf lZ) _ _ _) i;rw [zaQ hsz he,zaQ hsz he];exact mS i j pU o2 hj
 ·rw [if_neg sR];exact zjZ hC hn #[O] tS nA mS h
theorem zla {st₀ st:SortSt} {lo mf:Nat} {Q:Option Nat→SortSt→Prop} (hC:Cmp prog w A s κ val a₀) (hn:lo+mf≤a₀.size) (h1:1≤mf) (hB:SF κ a₀ lo st₀ st)
  (h:∀ m lZ,SF κ a₀ lo st₀ lZ→1≤m→m≤mf→SIn val (arrOf lZ) lo (lo+m)→Q (some m) lZ) :
  wpS (model prog w) A E s (countRun' lo mf) Q st:=by
 rw [zeY];refine ak (zlX hC hn (ah 1) h1 hB (fun i j pU o2 hj=>(by
   have e:i=j:=by lia
   rw [e];exact bX _)) fun n tT qX yO hor=>?_)
 dsimp only;by_cases uf:n=mf
 ·(rw [if_pos (by simpa using uf)])
  (exact am (h n st hB tT qX yO))
 ·(rw [if_neg (by simpa using uf)])
  have ml:Vk val (arrOf st) (lo+n) < Vk val (arrOf st) (lo+n - 1):=hor.resolve_left uf;by_cases hgt:n > 1
  ·rw [if_pos hgt];refine ak (zdD hC hB.b #[O] #[O] ?_);by_cases uM:Vk val (arrOf st) lo < Vk val (arrOf st) (lo+n - 1)
   ·(simp only [uM,decide_true,if_true])
    (exact am (h n st hB tT qX yO))
   ·(simp only [uM,decide_false,aC,if_false])
    have hsz:lo+n≤(arrOf st).size:=by rw [hB.b.size]; lia
    have m7:∀ k,lo≤k→k < lo+n→Vk val (arrOf st) k=Vk val (arrOf st) (lo+n - 1):=by
     intro k sC hk;have a1:=yO lo k (ah _) sC hk;have a2:=yO k (lo+n - 1) sC #[O] #[O];lia
    refine ak (zhp (zhr hC hn #[O] (hB.setArr (iN _ _ _ _) (zbz hsz (ah _))) ?_ h));intro i j pU o2 hj;show Vk val (mirror (arrOf st) _ _ _) j≤Vk val (mirror (arrOf st) _ _ _) i;rw [zaQ hsz m7,zaQ hsz m7];by_cases hjn:j < lo+n
    ·(rw [m7 i #[O] #[O],m7 j #[O] hjn]; exact bX _)
    ·have nN:j=lo+n:=by lia
     subst nN;by_cases mY:i=lo+n
     ·(subst mY; exact bX _)
     ·(rw [m7 i #[O] #[O]]; exact et ml)
  ·rw [if_neg hgt];have AM:n=1:=by lia
   subst AM;refine zhr hC hn #[O] hB ?_ h;intro i j pU o2 hj;by_cases mY:i=j
   ·(subst mY; exact bX _)
   ·have hi0:i=lo:=by lia
    have vx:j=lo+1:=by lia
    subst hi0; subst vx;exact et ml
theorem zfN {xs:Array Keyed} {src d:Nat} (hs:src < xs.size) (hd:d≤src) (k:Nat) :
  Vk val (bubble xs src d) k=if k=src - d then Vk val xs src else if src - d < k∧k≤src then Vk val xs (k - 1) else Vk val xs k:=by
 (have e:=getElem?_bubble hs d hd k)
 by_cases h1:k=src - d
 ·rw [if_pos h1] at e ⊢; exact zU e
 ·rw [if_neg h1] at e ⊢
  (by_cases h2:src - d < k∧k≤src)
  ·rw [if_pos h2] at e ⊢; exact zU e
  ·rw [if_neg h2] at e ⊢; exact zU e
theorem znl {st₀ st:SortSt} {lo n ok:Nat} {Q:Bool→SortSt→Prop} (hC:Cmp prog w A s κ val a₀) (hn:lo+n≤a₀.size) (hok:ok≤n) (hB:SF κ a₀ lo st₀ st) (hs:SIn val (arrOf st) lo (lo+ok))
  (h:∀ lZ,SF κ a₀ lo st₀ lZ→SIn val (arrOf lZ) lo (lo+n)→Q true lZ):wpS (model prog w) A E s (binarySort' lo n ok) Q st:=by
 rw [binarySort'_eq];refine ak (dk (cH (I:=fun k c lZ=>c=(none,())∧SF κ a₀ lo st₀ lZ∧SIn val (arrOf lZ) lo (lo+min k n))
  (Q:=fun c lZ=>c=(none,())∧SF κ a₀ lo st₀ lZ∧SIn val (arrOf lZ) lo (lo+n)) ?step ?fin ?init) ?post)
 case post =>
  rintro c lZ ⟨rfl,nA,mS⟩
  (exact am (h lZ nA mS))
 case init =>
  refine⟨rfl,hB,fun i j pU o2 hj=>?_⟩;by_cases h1:ok=0
  ·have e:i=j:=by lia
   rw [e]; exact bX _
  ·exact hs i j pU o2 #[O]
 case fin =>
  rintro c lZ ⟨hc,nA,mS⟩;refine⟨hc,nA,?_⟩
  (rwa [show min (max (max ok 1) n) n=n by lia] at mS)
 case step =>
  (rintro k c lZ hak ug ⟨rfl,nA,mS⟩)
  (rw [show min k n=k by lia] at mS)
  have hk:lo+k < a₀.size:=#[O]; refine ak (dk (cH (I:=fun x c nc=>nc=lZ∧∃ l r,c=(none,l,r)∧l≤r∧r≤k∧r - l≤k - x ∧
    (∀ i,i < l→Vk val (arrOf lZ) (lo+i)≤Vk val (arrOf lZ) (lo+k))∧(∀ i,r≤i→i < k→Vk val (arrOf lZ) (lo+k) < Vk val (arrOf lZ) (lo+i)))
   (Q:=fun c nc=>nc=lZ∧∃ l r,c=(none,l,r)∧l≤k∧(∀ i,i < l→Vk val (arrOf lZ) (lo+i)≤Vk val (arrOf lZ) (lo+k))∧(∀ i,l≤i→i < k→Vk val (arrOf lZ) (lo+k) < Vk val (arrOf lZ) (lo+i))) ?istep ?ifin ?iinit) ?ipost)
  case iinit=>(exact⟨rfl,0,k,rfl,#[O],#[O],#[O],fun i hi=>by lia,fun i h1 h2=>by lia⟩)
  case ifin =>
   (rintro c nc ⟨rfl,l,r,rfl,wy,AN,hm,oa,uh⟩)
   have:l=r:=by lia
   subst this
   (exact⟨rfl,l,l,rfl,AN,oa,uh⟩)
  case istep =>
   (rintro x c nc _ hxk ⟨rfl,l,r,rfl,wy,AN,hm,oa,uh⟩)
   dsimp only;by_cases oo:l≥r
   ·rw [if_pos oo];have:l=r:=by lia
    subst this
    (exact am ⟨rfl,l,l,rfl,AN,oa,uh⟩)
   ·rw [if_neg oo];refine ak (zdD hC nA.b hk #[O] ?_);by_cases mL:Vk val (arrOf nc) (lo+k) < Vk val (arrOf nc) (lo+(l+r) / 2)
    ·(simp only [mL,decide_true,if_true])
     (refine am ⟨rfl,l,(l+r) / 2,rfl,#[O],#[O],#[O],oa,fun i h1 h2=>?_⟩)
     exact Int.lt_of_lt_of_le mL (mS _ _ #[O] #[O] #[O])
    ·(simp only [mL,decide_false,aC,if_false])
     (refine am ⟨rfl,(l+r) / 2+1,r,rfl,#[O],#[O],#[O],fun i h1=>?_,uh⟩)
     exact bU (mS (lo+i) (lo+(l+r) / 2) #[O] #[O] #[O]) (Int.not_lt.mp mL)
  case ipost =>
   (rintro c nc ⟨rfl,l,r,rfl,AO,oa,uh⟩)
   show wpS _ _ _ _ (do moveDown' (lo+k) (lo+l); pure (cA (none,()))) _ _;rw [moveDown'_eq];have AQ:lo+k < (arrOf nc).size:=by rw [nA.b.size]; exact hk
   refine ak (eG (am ⟨rfl,nA.setArr (bubble_perm _ _ _) (zgE AQ #[O] #[O]),?_⟩))
   (rw [show min (k+1) n=k+1 by lia])
   intro i j pU o2 hj;show Vk val (bubble (arrOf nc) (lo+k) (lo+k - (lo+l))) i≤Vk val (bubble (arrOf nc) (lo+k) (lo+k - (lo+l))) j;rw [zfN AQ #[O],zfN AQ #[O],show lo+k - (lo+k - (lo+l))=lo+l by lia];have AR:∀ i,lo≤i→i < lo+l→Vk val (arrOf nc) i≤Vk val (arrOf nc) (lo+k):=fun i h1 h2=>by
    have:=oa (i - lo) #[O]
    rwa [show lo+(i - lo)=i by lia] at this
   have AS:∀ i,lo+l≤i→i < lo+k→Vk val (arrOf nc) (lo+k) < Vk val (arrOf nc) i:=fun i h1 h2=>by
    have:=uh (i - lo) #[O] #[O]
    rwa [show lo+(i - lo)=i by lia] at this
   repeat' split
   all_goals first
    | (exfalso; lia)
    | exact bX _
    | exact AR _ #[O] #[O]
    | exact et (AS _ #[O] #[O])
    | exact mS _ _ #[O] #[O] #[O]
end
end Srt
end
section
namespace Srt
open PySem PyProof.Rows
def zlb:Bool→Keyed→Array Keyed→Nat→Nat→Nat→StateT SortSt Sem (Option Nat):=sortPriv% PySem.Builtin.gallop
def zj0:Array Keyed→Array Keyed→StateT SortSt Sem (Array Keyed):=sortPriv% PySem.Builtin.mergeLo
def zj1:Array Keyed→Array Keyed→StateT SortSt Sem (Array Keyed):=sortPriv% PySem.Builtin.mergeHi
def zb7:Nat→StateT SortSt Sem Unit:=sortPriv% PySem.Builtin.setMinGallop
theorem zeZ {M:Model} {A:Around} {E:Value→Shared→Prop} {s:Shared} {α:Type} {m:StateT SortSt Sem α} {Q:α→SortSt→Prop} {st:SortSt} (h:wpAny M A (m st) (fun r s'=>s'=s∧Q r.1 r.2) E s):wpS M A E s m Q st:=h
theorem ze0 {M:Model} {A:Around} {E:Value→Shared→Prop} {s:Shared} {α:Type} {m:StateT SortSt Sem α} {Q:α→SortSt→Prop} {st:SortSt} (h:wpS M A E s m Q st):wpAny M A (m st) (fun r s'=>s'=s∧Q r.1 r.2) E s:=h
section
variable {prog:Program} {w:World} {A:Around} {E:Value→Shared→Prop} {s:Shared} {a₀:Array Keyed} {κ:SortKind} {val:Keyed→Int}
def bB (val:Keyed→Int) (left:Bool) (key:Keyed) (arr:Array Keyed) (base i:Nat):Bool:=if left then decide (Vk val arr (base+i) < val key) else !decide (val key < Vk val arr (base+i))
theorem zcp {left:Bool} {key:Keyed} {arr:Array Keyed} {base n i j:Nat} (hs:SIn val arr base (base+n)) (o2:i≤j) (hj:j < n) (h:bB val left key arr base j=true):bB val left key arr base i=true:=by
 have:=hs (base+i) (base+j) #[O] #[O] #[O];unfold bB at h ⊢;cases left <;> simp at h ⊢ <;> lia
theorem zbR {st:SortSt} {left:Bool} {key:Keyed} {arr:Array Keyed} {base i:Nat} {Q:Option Bool→SortSt→Prop} {p:Keyed} (hC:Cmp prog w A s κ val a₀) (hk:kindOf st=κ) (nr:key∈a₀.toList) (he:arr[base+i]? = some p) (hp:p∈a₀.toList)
  (h:Q (some (bB val left key arr base i)) st):wpS (model prog w) A E s (do
   let x ← elem' arr (base+i)
   if left then lt' x key else do
    let r ← lt' key x
    return r.map (!·)) Q st:=by
 refine ak (zF he ?_);unfold bB at h;rw [zG he] at h;cases left with
 | true=>exact zjX hC hk hp nr h
 | false=>exact ak (zjX hC hk nr hp (am h))
abbrev zlc:=Option (Option Nat)×Nat×Nat
theorem zj2 {st:SortSt} {left:Bool} {key:Keyed} {arr:Array Keyed} {base n lo hi:Nat} {f:Nat→zlc→StateT SortSt Sem (ForInStep zlc)} (hs:SIn val arr base (base+n)) (hlh:lo≤hi) (hhn:hi≤n)
  (h1:∀ i,i < lo→bB val left key arr base i=true) (h2:∀ i,hi≤i→i < n→bB val left key arr base i=false)
  (hf:∀ (x l r:Nat) (R:ForInStep zlc→SortSt→Prop),r≤n→(l≥r→R (.done (none,l,r)) st)→(l < r→R (if bB val left key arr base (l+(r - l) / 2)=true then .yield (none,l+(r - l) / 2+1,r) else .yield (none,l,l+(r - l) / 2)) st)→wpS (model prog w) A E s (f x (none,l,r)) R st) :
  wpS (model prog w) A E s (forIn [0:n] ((none,lo,hi):zlc) f) (fun c lZ=>lZ=st∧∃ l,c=(none,l,l)∧l≤n∧(∀ i,i < l→bB val left key arr base i=true)∧(∀ i,l≤i→i < n→bB val left key arr base i=false)) st:=by
 refine cH (I:=fun x c lZ=>lZ=st∧∃ l r,c=(none,l,r)∧l≤r∧r≤n∧r - l≤n - x∧(∀ i,i < l→bB val left key arr base i=true)∧(∀ i,r≤i→i < n→bB val left key arr base i=false)) ?step ?fin ⟨rfl,lo,hi,rfl,hlh,hhn,#[O],h1,h2⟩
 case fin =>
  rintro c lZ ⟨rfl,l,r,rfl,wy,vy,hm,a1,a2⟩;have:l=r:=by lia
  subst this;exact⟨rfl,l,rfl,vy,a1,a2⟩
 case step =>
  rintro x c lZ _ yN ⟨rfl,l,r,rfl,wy,vy,hm,a1,a2⟩;refine hf x l r _ vy (fun oo=>?_) (fun ml=>?_)
  ·have:l=r:=by lia
   subst this;exact⟨rfl,l,rfl,vy,a1,a2⟩
  ·cases hb:bB val left key arr base (l+(r - l) / 2) with
   | true =>
    rw [if_pos rfl];exact⟨rfl,l+(r - l) / 2+1,r,rfl,#[O],vy,#[O],fun i hi=>zcp hs #[O] #[O] hb,a2⟩
   | false =>
    rw [if_neg #[D]];refine⟨rfl,l,l+(r - l) / 2,rfl,#[O],#[O],#[O],a1,fun i hi og=>?_⟩;cases e:bB val left key arr base i with
    | false=>rfl
    | true=>rw [zcp hs hi og e] at hb; cases hb
theorem zaR {st:SortSt} {left:Bool} {key:Keyed} {arr:Array Keyed} {base n hint:Nat} {Q:Option Nat→SortSt→Prop} (hC:Cmp prog w A s κ val a₀) (hk:kindOf st=κ) (nr:key∈a₀.toList)
  (ha:∀ i,i < n→∃ p,arr[base+i]? = some p∧p∈a₀.toList) (hs:SIn val arr base (base+n)) (hh:hint < n)
  (h:∀ k,k≤n→(∀ i,i < k→bB val left key arr base i=true)→(∀ i,k≤i→i < n→bB val left key arr base i=false)→Q (some k) st) :
  wpS (model prog w) A E s (zlb left key arr base n hint) Q st:=by
 refine zeZ ?_
 wp_delta
 wp_delta
 refine ze0 ?_;dsimp only;obtain⟨p,ep,mp⟩:=ha hint hh;refine ak (zbR hC hk nr ep mp ?_);dsimp only;have up:∀ {i j:Nat},i≤j→j < n→bB val left key arr base i=false→bB val left key arr base j=false:=fun {i j} o2 hj h=>by
  cases e:bB val left key arr base j with
  | false=>rfl
  | true=>rw [zcp hs o2 hj e] at h; cases h
 cases hr:bB val left key arr base hint with
 | true =>
  simp only [if_true];refine ak (dk (cH (I:=fun x c lZ=>lZ=st∧∃ l o,c=(none,l,o)∧l < o∧x+1≤o∧hint+l < n∧bB val left key arr base (hint+l)=true)
   (Q:=fun c lZ=>lZ=st∧∃ l o,c=(none,l,o)∧l < o∧hint+l < n∧bB val left key arr base (hint+l)=true∧(hint+o < n→bB val left key arr base (hint+o)=false)) ?step ?fin ⟨rfl,0,1,rfl,#[O],#[O],hh,hr⟩) ?post)
  case fin =>
   rintro c lZ ⟨rfl,l,o,rfl,oa,hx,hl,hb⟩;exact⟨rfl,l,o,rfl,oa,hl,hb,fun z=>by lia⟩
  case step =>
   rintro x c lZ _ yN ⟨rfl,l,o,rfl,oa,hx,hl,hb⟩;dsimp only;by_cases oo:o≥n - hint
   ·rw [if_pos oo];exact am ⟨rfl,l,o,rfl,oa,hl,hb,fun z=>by lia⟩
   ·rw [if_neg oo];obtain⟨p,ep,mp⟩:=ha (hint+o) #[O];refine ak (zbR hC hk nr ep mp ?_);dsimp only;cases sS:bB val left key arr base (hint+o) with
    | true =>
     rw [if_neg #[D]];exact am ⟨rfl,o,2*o+1,rfl,#[O],#[O],#[O],sS⟩
    | false =>
     rw [if_pos #[D]];exact am ⟨rfl,l,o,rfl,oa,hl,hb,fun _=>sS⟩
  case post =>
   rintro c lZ ⟨rfl,l,o,rfl,oa,hl,hb,sS⟩;dsimp only;refine ak (dk (zj2 (val:=val) (left:=left) (key:=key) (arr:=arr) (base:=base) hs #[O] #[O] (fun i hi=>zcp hs #[O] hl hb) (fun i hi og=>(by
    by_cases ho:hint+o < n
    ·exact up #[O] og (sS ho)
    ·lia)) (fun x l' r' R vy k1 k2=>?_)) ?_)
   ·dsimp only;by_cases oo:l'≥r'
    ·rw [if_pos oo];exact am (k1 oo)
    ·rw [if_neg oo];obtain⟨p,ep,mp⟩:=ha (l'+(r' - l') / 2) #[O];refine ak (zbR hC hk nr ep mp ?_);have k3:=k2 #[O];dsimp only;cases vz:bB val left key arr base (l'+(r' - l') / 2) with
     | true=>rw [vz] at k3; rw [if_pos rfl] at k3 ⊢; exact am k3
     | false=>rw [vz] at k3; rw [if_neg #[D]] at k3 ⊢; exact am k3
   ·rintro c nc ⟨rfl,l,rfl,hl,b1,b2⟩;exact am (h l hl b1 b2)
 | false =>
  (simp only [aC,if_false])
  refine ak (dk (cH (I:=fun x c lZ=>lZ=st∧∃ l o,c=(none,l,o)∧l < o∧x+1≤o∧l≤hint∧bB val left key arr base (hint - l)=false)
   (Q:=fun c lZ=>lZ=st∧∃ l o,c=(none,l,o)∧l < o∧l≤hint∧bB val left key arr base (hint - l)=false∧(o≤hint→bB val left key arr base (hint - o)=true)) ?step ?fin ⟨rfl,0,1,rfl,#[O],#[O],#[O],hr⟩) ?post)
  case fin =>
   rintro c lZ ⟨rfl,l,o,rfl,oa,hx,hl,hb⟩;exact⟨rfl,l,o,rfl,oa,hl,hb,fun z=>by lia⟩
  case step =>
   rintro x c lZ _ yN ⟨rfl,l,o,rfl,oa,hx,hl,hb⟩;dsimp only;by_cases oo:o≥hint+1
   ·rw [if_pos oo];exact am ⟨rfl,l,o,rfl,oa,hl,hb,fun z=>by lia⟩
   ·rw [if_neg oo];obtain⟨p,ep,mp⟩:=ha (hint - o) #[O];refine ak (zbR hC hk nr ep mp ?_);dsimp only;cases sS:bB val left key arr base (hint - o) with
    | false =>
     rw [if_neg #[D]];exact am ⟨rfl,o,2*o+1,rfl,#[O],#[O],#[O],sS⟩
    | true =>
     rw [if_pos rfl];exact am ⟨rfl,l,o,rfl,oa,hl,hb,fun _=>sS⟩
  case post =>
   rintro c lZ ⟨rfl,l,o,rfl,oa,hl,hb,sS⟩;dsimp only;refine ak (dk (zj2 (val:=val) (left:=left) (key:=key) (arr:=arr) (base:=base) hs #[O] #[O] (fun i hi=>(by
    by_cases ho:o≤hint
    ·exact zcp hs #[O] #[O] (sS ho)
    ·lia)) (fun i hi og=>up hi og hb) (fun x l' r' R vy k1 k2=>?_)) ?_)
   ·dsimp only;by_cases oo:l'≥r'
    ·rw [if_pos oo];exact am (k1 oo)
    ·rw [if_neg oo];obtain⟨p,ep,mp⟩:=ha (l'+(r' - l') / 2) #[O];refine ak (zbR hC hk nr ep mp ?_);have k3:=k2 #[O];dsimp only;cases vz:bB val left key arr base (l'+(r' - l') / 2) with
     | true=>rw [vz] at k3; rw [if_pos rfl] at k3 ⊢; exact am k3
     | false=>rw [vz] at k3; rw [if_neg #[D]] at k3 ⊢; exact am k3
   ·rintro c nc ⟨rfl,l,rfl,hl,b1,b2⟩;exact am (h l hl b1 b2)
end
end Srt
end
section
namespace Srt
open PySem PyProof.Rows
abbrev zY (st:SortSt) (g:Nat):SortSt:=k6 (kindOf st) (arrOf st) (pendingOf st) g (failedOf st)
theorem zcO (g:Nat):zb7 g=modify fun s=>zY s g:=rfl
def Le (val:Keyed→Int) (xs ys:List Keyed):Prop:=∀ x∈xs,∀ y∈ys,val x≤val y
def Ris (val:Keyed→Int) (xs:List Keyed):Prop:=xs.Pairwise fun x y=>val x≤val y
theorem zaa {val:Keyed→Int} {xs ys:List Keyed}:Ris val (xs++ys)↔Ris val xs∧Ris val ys∧Le val xs ys:=jl
structure MI (val:Keyed→Int) (T o l r:List Keyed):Prop where
 perm:(o++l++r).Perm T
 so:Ris val o
 sl:Ris val l
 sr:Ris val r
 ol:Le val o l
 or':Le val o r
def Good (val:Keyed→Int) (T res:List Keyed):Prop:=res.Perm T∧Ris val res
section
variable {val:Keyed→Int} {T o l l1 l2 r r1 r2:List Keyed}
theorem Le.left {xs ys zs:List Keyed} (h:Le val (xs++ys) zs):Le val xs zs:=fun x hx y hy=>h x (aI _ hx) y hy
theorem Le.right {xs ys zs:List Keyed} (h:Le val (xs++ys) zs):Le val ys zs:=fun x hx y hy=>h x (aw _ hx) y hy
theorem Le.app {xs ys zs:List Keyed} (h1:Le val xs zs) (h2:Le val ys zs):Le val (xs++ys) zs:=fun x hx y hy=>by
 rcases aR.mp hx with h | h
 ·exact h1 x h y hy
 ·exact h2 x h y hy
theorem Le.app' {xs ys zs:List Keyed} (h1:Le val xs ys) (h2:Le val xs zs):Le val xs (ys++zs):=fun x hx y hy=>by
 rcases aR.mp hy with h | h
 ·exact h1 x hx y h
 ·exact h2 x hx y h
theorem Le.sub {xs ys zs:List Keyed} (h1:Le val xs (ys++zs)):Le val xs ys∧Le val xs zs:=⟨fun x hx y hy=>h1 x hx y (aI _ hy),fun x hx y hy=>h1 x hx y (aw _ hy)⟩
theorem MI.takeA (h:MI val T o (l1++l2) r) (hle:Le val l1 r):MI val T (o++l1) l2 r:=by
 obtain⟨a1,a2,a3⟩:=zaa.mp h.sl;obtain⟨b1,b2⟩:=h.ol.sub;exact⟨by have:=h.perm; simpa [bf] using this,zaa.mpr ⟨h.so,a1,b1⟩,a2,h.sr,b2.app a3,h.or'.app hle⟩
theorem MI.takeB (h:MI val T o l (r1++r2)) (hle:Le val r1 l):MI val T (o++r1) l r2:=by
 obtain⟨a1,a2,a3⟩:=zaa.mp h.sr;obtain⟨b1,b2⟩:=h.or'.sub;refine⟨?_,zaa.mpr ⟨h.so,a1,b1⟩,h.sl,a2,h.ol.app hle,b2.app a3⟩;refine eT ?_ h.perm;have:(r1++l++r2).Perm (l++r1++r2):=List.perm_append_comm.append_right _;simpa [bf] using this.append_left o
theorem MI.doneA (h:MI val T o l []):Good val T (o++l):=⟨by have:=h.perm; simpa using this,zaa.mpr ⟨h.so,h.sl,h.ol⟩⟩
theorem MI.doneB (h:MI val T o [] r):Good val T (o++r):=⟨by have:=h.perm; simpa using this,zaa.mpr ⟨h.so,h.sr,h.or'⟩⟩
theorem MI.last (h:MI val T o l r) (hle:Le val r l):Good val T (o++r++l):=by
 refine⟨eT ?_ h.perm,?_⟩
 ·rw [bf,bf];exact List.perm_append_comm.append_left o
 ·exact zaa.mpr ⟨zaa.mpr ⟨h.so,h.sr,h.or'⟩,h.sl,h.ol.app hle⟩
end
section
variable {val:Keyed→Int} {T:List Keyed} {a b out:Array Keyed} {ia ib:Nat}
abbrev MA (val:Keyed→Int) (T:List Keyed) (a b out:Array Keyed) (ia ib:Nat):Prop:=MI val T out.toList (a.toList.drop ia) (b.toList.drop ib)
theorem zc9 {xs:Array Keyed} {i:Nat} {p:Keyed} (h:xs[i]? = some p):xs.toList.drop i=p :: xs.toList.drop (i+1):=by
 have hi:i < xs.toList.length:=by
  have:=(cp.mp h).1;simpa using this
 rw [cB hi];congr 1;have:=(cp.mp h).2;simpa using this
theorem zcq {xs:Array Keyed} (h:SIn val xs 0 xs.size):∀ i,Ris val (xs.toList.drop i):=by
 have all:Ris val xs.toList:=by
  unfold Ris
  (rw [dH])
  intro i j hi hj o2
  (have mY:i < xs.size:=by simpa using hi)
  (have nN:j < xs.size:=by simpa using hj)
  have:=h i j (bi _) #[O] nN;rw [zG (getElem?_pos xs i mY),zG (getElem?_pos xs j nN)] at this;simpa using this
 exact fun i=>iV (kj _ _) all
theorem zda {xs:Array Keyed} {i:Nat} {p q:Keyed} (h:SIn val xs 0 xs.size) (hp:xs[i]? = some p) (hq:q∈xs.toList.drop i):val p≤val q:=by
 have:=zcq h i;rw [zc9 hp] at this hq;rcases (au.mp hq) with rfl | hq
 ·exact bX _
 ·exact List.rel_of_pairwise_cons this hq
theorem MA.pushB {y x:Keyed} (h:MA val T a b out ia ib) (sa:SIn val a 0 a.size) (hy:b[ib]? = some y) (hx:a[ia]? = some x) (hle:val y≤val x):MA val T a b (out.push y) ia (ib+1):=by
 unfold MA at h ⊢;rw [zc9 hy] at h;have:=MI.takeB (r1:=[y]) h fun p hp q hq=>by
  rw [aA.mp hp];exact bU hle (zda sa hx hq)
 simpa using this
theorem MA.pushA {y x:Keyed} (h:MA val T a b out ia ib) (sb:SIn val b 0 b.size) (hy:b[ib]? = some y) (hx:a[ia]? = some x) (hle:val x≤val y):MA val T a b (out.push x) (ia+1) ib:=by
 unfold MA at h ⊢;rw [zc9 hx] at h;have:=MI.takeA (l1:=[x]) h fun p hp q hq=>by
  rw [aA.mp hp];exact bU hle (zda sb hy hq)
 simpa using this
theorem zj3 (xs:Array Keyed) (i k:Nat):xs.toList.drop i=(xs.extract i (i+k)).toList++xs.toList.drop (i+k):=by
 rw [cJ];have:(xs.toList.extract i (i+k))=(xs.toList.drop i).take k:=by
  simp [cZ] <;> lia
 rw [this,← iW,bw]
theorem zdb {xs:Array Keyed} {i k:Nat} {p:Keyed} (h:p∈(xs.extract i (i+k)).toList):∃ j,j < k∧xs[i+j]? = some p:=by
 have e0:(xs.extract i (i+k)).toList=(xs.toList.drop i).take k:=by
  rw [cJ];simp [cZ] <;> lia
 rw [e0] at h
 (obtain⟨j,hj,e⟩:=dR h)
 have qo:j < k∧j < (xs.toList.drop i).length:=by
  rw [aS] at hj;lia
 refine⟨j,qo.1,?_⟩;rw [← aV,← gE,aE qo.2,← e,gV]
theorem MA.takeA {y:Keyed} {k:Nat} (h:MA val T a b out ia ib) (sb:SIn val b 0 b.size) (hy:b[ib]? = some y) (hle:∀ i,i < k→Vk val a (ia+i)≤val y):MA val T a b (out++a.extract ia (ia+k)) (ia+k) ib:=by
 unfold MA at h ⊢;rw [zj3 a ia k] at h;have:=MI.takeA h fun p hp q hq=>by
  obtain⟨j,hj,e⟩:=zdb hp;have:=hle j hj;rw [zG e] at this;exact bU this (zda sb hy hq)
 simpa using this
theorem MA.takeB {x:Keyed} {k:Nat} (h:MA val T a b out ia ib) (sa:SIn val a 0 a.size) (hx:a[ia]? = some x) (hle:∀ i,i < k→Vk val b (ib+i)≤val x):MA val T a b (out++b.extract ib (ib+k)) ia (ib+k):=by
 unfold MA at h ⊢;rw [zj3 b ib k] at h;have:=MI.takeB h fun p hp q hq=>by
  obtain⟨j,hj,e⟩:=zdb hp;have:=hle j hj;rw [zG e] at this;exact bU this (zda sa hx hq)
 simpa using this
theorem zbW (xs:Array Keyed) (i:Nat):(xs.extract i xs.size).toList=xs.toList.drop i:=by
 rw [cJ];simp only [cZ]
 (exact aW #[M])
theorem MA.doneB (h:MA val T a b out ia ib) (e:ib=b.size):Good val T (out++a.extract ia a.size++b.extract ib b.size).toList:=by
 unfold MA at h;rw [show b.toList.drop ib = [] from dq (by simp [e])] at h;have:=h.doneA;rw [bj,bj,zbW,zbW,show b.toList.drop ib = [] from dq (by simp [e]),cQ];exact this
theorem MA.doneA (h:MA val T a b out ia ib) (e:ia=a.size):Good val T (out++a.extract ia a.size++b.extract ib b.size).toList:=by
 unfold MA at h;rw [show a.toList.drop ia = [] from dq (by simp [e])] at h;have:=h.doneB;rw [bj,bj,zbW,zbW,show a.toList.drop ia = [] from dq (by simp [e]),cQ];exact this
theorem MA.last (h:MA val T a b out ia ib) (e:ia+1=a.size) (hl:∀ i,i < b.size→Vk val b i≤Vk val a (a.size - 1)):Good val T (out++b.extract ib b.size++a.extract ia a.size).toList:=by
 unfold MA at h;have hx:a[ia]? = some (a[ia]'#[O]):=getElem?_pos a ia #[O];have:=h.last fun p hp q hq=>by
  rw [zc9 hx,show a.toList.drop (ia+1) = [] from dq (by simp [e])] at hq;rw [aA.mp hq];obtain⟨j,hj,ej⟩:=dR (f7 hp);have nN:j < b.size:=by simpa using hj
  have:=hl j nN;rw [zG (getElem?_pos b j nN),show a.size - 1=ia by lia,zG hx] at this;rw [← ej];simpa using this
 rw [bj,bj,zbW,zbW];exact this
end
end Srt
end
section
namespace Srt
open PySem PyProof.Rows
section
variable {prog:Program} {w:World} {A:Around} {E:Value→Shared→Prop} {s:Shared} {a₀:Array Keyed} {κ:SortKind} {val:Keyed→Int}
theorem zcr {st:SortSt} {g:Nat} {Q:Unit→SortSt→Prop} (h:Q () (zY st g)):wpS (model prog w) A E s (zb7 g) Q st:=by
 rw [zcO];exact eG h
theorem z9 {g:Prop} {xs:Array Keyed} {i:Nat} (h:i < xs.size) (k:∀ p,xs[i]? = some p→p∈xs.toList→g):g:=k _ (getElem?_pos xs i h) #[M]
theorem zbA {key:Keyed} {arr:Array Keyed} {base i:Nat} (h:bB val true key arr base i=true):Vk val arr (base+i) < val key:=by
 unfold bB at h;simpa using h
theorem zcs {key:Keyed} {arr:Array Keyed} {base i:Nat} (h:bB val false key arr base i=true):Vk val arr (base+i)≤val key:=by
 unfold bB at h;simp at h;lia
theorem zcf {key:Keyed} {arr:Array Keyed} {base i:Nat} (h:bB val true key arr base i=false):val key≤Vk val arr (base+i):=by
 unfold bB at h;simp at h;lia
theorem zdc {key:Keyed} {arr:Array Keyed} {base i:Nat} (h:bB val false key arr base i=false):val key < Vk val arr (base+i):=by
 unfold bB at h;simp at h;exact h
theorem SIn.sub {xs:Array Keyed} {lo hi lo' mY:Nat} (h:SIn val xs lo hi) (h1:lo≤lo') (h2:mY≤hi):SIn val xs lo' mY:=fun i j a b c=>h i j #[O] b #[O]
theorem zt {σ α:Type} {M:Model} {c:Prop} {inst:Decidable c} {x y:StateT σ Sem α} {Q:α→σ→Prop} {st:σ} (h:c) (k:wpS M A E s x Q st):wpS M A E s (@ite _ c inst x y) Q st:=by rw [if_pos h]; exact k
theorem zu {σ α:Type} {M:Model} {c:Prop} {inst:Decidable c} {x y:StateT σ Sem α} {Q:α→σ→Prop} {st:σ} (h:¬ c) (k:wpS M A E s y Q st):wpS M A E s (@ite _ c inst x y) Q st:=by rw [if_neg h]; exact k
theorem dup {P X:Prop} (h:P→P→X) (k:P):X:=h k k
theorem znQ {P X:Prop} (h:(Unit→P)→(Unit→P)→X) (k:P):X:=h (fun _=>k) (fun _=>k)
theorem fr5 {σ β A1 A2 A3 A4 A5:Type} {M:Model} {lo hi:Nat} {f:Nat→β→StateT σ Sem (ForInStep β)} {Q:β→σ→Prop} {c:β} {st:σ} (qY:A1→A2→A3→A4→A5→β) (sT:A1→A2→A3→A4→A5→σ) (J:Nat→A1→A2→A3→A4→A5→Prop) (start:∃ a1 a2 a3 a4 a5,st=sT a1 a2 a3 a4 a5∧c=qY a1 a2 a3 a4 a5∧J lo a1 a2 a3 a4 a5) (fin:∀ a1 a2 a3 a4 a5,J (max lo hi) a1 a2 a3 a4 a5→Q (qY a1 a2 a3 a4 a5) (sT a1 a2 a3 a4 a5))
  (step:∀ x a1 a2 a3 a4 a5,lo≤x→x < hi→J x a1 a2 a3 a4 a5→wpS M A E s (f x (qY a1 a2 a3 a4 a5)) (fun r lZ=>match r with | .done c'=>Q c' lZ | .yield c'=>∃ a1 a2 a3 a4 a5,lZ=sT a1 a2 a3 a4 a5∧c'=qY a1 a2 a3 a4 a5∧J (x+1) a1 a2 a3 a4 a5) (sT a1 a2 a3 a4 a5)):wpS M A E s (forIn [lo:hi] c f) Q st:=by
 refine cH (I:=fun x c lZ=>∃ a1 a2 a3 a4 a5,lZ=sT a1 a2 a3 a4 a5∧c=qY a1 a2 a3 a4 a5∧J x a1 a2 a3 a4 a5) ?_ ?_ start
 ·rintro x c lZ h1 h2 ⟨a1,a2,a3,a4,a5,rfl,rfl,j⟩;exact step x _ _ _ _ _ h1 h2 j
 ·rintro c lZ ⟨a1,a2,a3,a4,a5,rfl,rfl,j⟩;exact fin _ _ _ _ _ j
theorem fr7 {σ β A1 A2 A3 A4 A5 A6 A7:Type} {M:Model} {lo hi:Nat} {f:Nat→β→StateT σ Sem (ForInStep β)} {Q:β→σ→Prop} {c:β} {st:σ} (qY:A1→A2→A3→A4→A5→A6→A7→β) (sT:A1→A2→A3→A4→A5→A6→A7→σ) (J:Nat→A1→A2→A3→A4→A5→A6→A7→Prop) (start:∃ a1 a2 a3 a4 a5 a6 a7,st=sT a1 a2 a3 a4 a5 a6 a7∧c=qY a1 a2 a3 a4 a5 a6 a7∧J lo a1 a2 a3 a4 a5 a6 a7) (fin:∀ a1 a2 a3 a4 a5 a6 a7,J (max lo hi) a1 a2 a3 a4 a5 a6 a7→Q (qY a1 a2 a3 a4 a5 a6 a7) (sT a1 a2 a3 a4 a5 a6 a7))
  (step:∀ x a1 a2 a3 a4 a5 a6 a7,lo≤x→x < hi→J x a1 a2 a3 a4 a5 a6 a7→wpS M A E s (f x (qY a1 a2 a3 a4 a5 a6 a7)) (fun r lZ=>match r with | .done c'=>Q c' lZ | .yield c'=>∃ a1 a2 a3 a4 a5 a6 a7,lZ=sT a1 a2 a3 a4 a5 a6 a7∧c'=qY a1 a2 a3 a4 a5 a6 a7∧J (x+1) a1 a2 a3 a4 a5 a6 a7) (sT a1 a2 a3 a4 a5 a6 a7)):wpS M A E s (forIn [lo:hi] c f) Q st:=by
 refine cH (I:=fun x c lZ=>∃ a1 a2 a3 a4 a5 a6 a7,lZ=sT a1 a2 a3 a4 a5 a6 a7∧c=qY a1 a2 a3 a4 a5 a6 a7∧J x a1 a2 a3 a4 a5 a6 a7) ?_ ?_ start
 ·rintro x c lZ h1 h2 ⟨a1,a2,a3,a4,a5,a6,a7,rfl,rfl,j⟩;exact step x _ _ _ _ _ _ _ h1 h2 j
 ·rintro c lZ ⟨a1,a2,a3,a4,a5,a6,a7,rfl,rfl,j⟩;exact fin _ _ _ _ _ _ _ j
theorem zlY {σ α γ δ A1 A2 A3 A4 A5:Type} {M:Model} {x:StateT σ Sem (Option γ×δ)} {k:Option γ×δ→StateT σ Sem α} {R:α→σ→Prop} {st:σ} (qY:A1→A2→A3→A4→A5→Option γ×δ) (G:γ→Prop) (J:A1→A2→A3→A4→A5→Prop) (AU:σ) (hx:wpS M A E s x (fun c lZ=>lZ=AU∧((∃ r o,c=(some r,o)∧G r)∨∃ a1 a2 a3 a4 a5,c=qY a1 a2 a3 a4 a5∧J a1 a2 a3 a4 a5)) st) (h1:∀ r o,G r→wpS M A E s (k (some r,o)) R AU) (h:∀ a1 a2 a3 a4 a5,J a1 a2 a3 a4 a5→wpS M A E s (k (qY a1 a2 a3 a4 a5)) R AU):wpS M A E s (x >>= k) R st:=by
 refine ak (dk hx ?_);rintro c lZ ⟨rfl,⟨r,o,rfl,g⟩ | ⟨a1,a2,a3,a4,a5,rfl,j⟩⟩
 ·exact h1 _ _ g
 ·exact h _ _ _ _ _ j
theorem zap {σ α:Type} {M:Model} {c:Prop} {inst:Decidable c} {x y:StateT σ Sem α} {Q:α→σ→Prop} {st:σ} (h:c→wpS M A E s x Q st) (k:¬ c→wpS M A E s y Q st):wpS M A E s (@ite _ c inst x y) Q st:=by
 by_cases hc:c
 ·rw [if_pos hc]; exact h hc
 ·rw [if_neg hc]; exact k hc
theorem ziw {st:SortSt} {a b:Array Keyed} {Q:Array Keyed→SortSt→Prop} (hC:Cmp prog w A s κ val a₀) (hk:kindOf st=κ) (ma:∀ p∈a.toList,p∈a₀.toList) (mb:∀ p∈b.toList,p∈a₀.toList)
  (sa:SIn val a 0 a.size) (sb:SIn val b 0 b.size) (h1:1≤a.size) (h2:1≤b.size) (hf:Vk val b 0≤Vk val a 0) (hl:∀ i,i < b.size→Vk val b i≤Vk val a (a.size - 1))
  (h:∀ out g,Good val (a.toList++b.toList) out.toList→Q out (zY st g)):wpS (model prog w) A E s (zj0 a b) Q st:=by
 refine zeZ ?_
 wp_delta
 wp_delta
 refine ze0 ?_
 (refine ak (gk (cU ⟨rfl,?_⟩)))
 refine z9 (xs:=b) (i:=0) #[O] fun y0 tU AV=>?_
 refine z9 (xs:=a) (i:=0) #[O] fun x0 tV AW=>?_
 refine ak (zF tU ?_);have I0:MA val (a.toList++b.toList) a b #[] 0 0:=⟨#[M],fk,zcq sa 0,zcq sb 0,fun x hx=>by simp at hx,fun x hx=>by simp at hx⟩;have I1:MA val (a.toList++b.toList) a b #[y0] 0 1:=I0.pushB sa tU tV (by rw [zG tU,zG tV] at hf; exact hf);dsimp only;by_cases rD:1=b.size
 ·refine zt (by simpa using rD) ?_;exact am (h _ (gallopOf st) (I1.doneB rD))
 refine zu (by simpa using rD) ?_;by_cases sE:0+1=a.size
 ·refine zt (by simpa using sE) ?_;exact am (h _ (gallopOf st) (I1.last #[O] hl))
 refine zu (by simpa using sE) ?_;refine ak (fg ?_);refine ak (dk (fr5 (fun g out ia ib mg=>(none,out,ia,ib,mg)) (fun g out ia ib mg=>zY st g) (fun x g out ia ib mg=>MA val (a.toList++b.toList) a b out ia ib∧ia+1 < a.size∧ib < b.size∧x+1≤ia+ib)
  (Q:=fun c lZ=>∃ g r o,lZ=zY st g∧c=(some r,o)∧Good val (a.toList++b.toList) r.toList) ⟨gallopOf st,#[y0],0,1,gallopOf st,rfl,rfl,I1,#[O],#[O],#[O]⟩ ?fin ?step) ?post)
 case post =>
  rintro c lZ ⟨g,r,o,rfl,rfl,hG⟩;exact am (h _ g hG)
 case fin =>
  rintro g out ia ib mg ⟨hI,b1,b2,b3⟩;lia
 case step =>
  intro x g out ia ib mg AX hx J;have hI:=J.1;have b1:=J.2.1;have b2:=J.2.2.1;have b3:=J.2.2.2;dsimp only;refine zlY (fun mh mM mJ ac bc=>(none,mh,mM,mJ,ac,bc)) (fun r=>Good val (a.toList++b.toList) r.toList) (fun mh mM mJ ac bc=>MA val (a.toList++b.toList) a b mh mM mJ∧mM+1 < a.size∧mJ < b.size∧ia+ib+1≤mM+mJ) (zY st g) (fr5 (fun mh mM mJ ac bc=>(none,mh,mM,mJ,ac,bc)) (fun mh mM mJ ac bc=>zY st g) (fun x mh mM mJ ac bc=>MA val (a.toList++b.toList) a b mh mM mJ∧mM+1 < a.size∧mJ < b.size∧ia+ib+x≤mM+mJ) ⟨out,ia,ib,0,0,rfl,rfl,hI,b1,b2,#[O]⟩ ?fin1 ?step1) (fun r o hG=>am ⟨g,r,_,rfl,rfl,hG⟩) ?post1
  case fin1 =>
   rintro mh mM mJ ac bc ⟨hI,b1,b2,b3⟩;exact⟨rfl,.inr ⟨mh,mM,mJ,ac,bc,rfl,hI,b1,b2,#[O]⟩⟩
  case step1 =>
   intro x1 mh mM mJ ac bc yP yQ J;have hI:=J.1;have b1:=J.2.1;have b2:=J.2.2.1;have b3:=J.2.2.2;dsimp only;refine z9 (xs:=b) (i:=mJ) #[O] fun y ey my=>?_
   refine z9 (xs:=a) (i:=mM) #[O] fun z ez mz=>?_
   refine ak (zF ey (ak (zF ez (ak (zjX hC hk (mb y my) (ma z mz) ?_)))));dsimp only;by_cases xr:val y < val z
   ·refine zt (by simpa using xr) ?_;refine ak (zF ey ?_);have nO:=hI.pushB sa ey ez #[O];by_cases e1:mJ+1=b.size
    ·refine zt (by simpa using e1) ?_;exact am ⟨rfl,.inl ⟨_,_,rfl,nO.doneB e1⟩⟩
    refine zu (by simpa using e1) ?_;refine zap (fun _=>?_) (fun _=>?_)
    ·exact am ⟨rfl,.inr ⟨_,_,_,_,_,rfl,nO,b1,#[O],#[O]⟩⟩
    ·exact am ⟨_,_,_,_,_,rfl,rfl,nO,b1,#[O],#[O]⟩
   ·refine zu (by simpa using xr) ?_;refine ak (zF ez ?_);have nO:=hI.pushA sb ey ez #[O];by_cases e1:mM+1+1=a.size
    ·refine zt (by simpa using e1) ?_;exact am ⟨rfl,.inl ⟨_,_,rfl,nO.last e1 hl⟩⟩
    refine zu (by simpa using e1) ?_;refine zap (fun _=>?_) (fun _=>?_)
    ·exact am ⟨rfl,.inr ⟨_,_,_,_,_,rfl,nO,#[O],b2,#[O]⟩⟩
    ·exact am ⟨_,_,_,_,_,rfl,rfl,nO,#[O],b2,#[O]⟩
  case post1 =>
   intro vA AY AZ A0 A8 J;have A9:=J.1;have c1:=J.2.1;have c2:=J.2.2.1;have c3:=J.2.2.2;dsimp only
   (refine ak (gk (cU ⟨rfl,?_⟩)))
   refine ak (dk (fr7 (fun g mh mM mJ mg ac bc=>(none,mh,mM,mJ,mg,ac,bc)) (fun g mh mM mJ mg ac bc=>zY st g) (fun x g mh mM mJ mg ac bc=>MA val (a.toList++b.toList) a b mh mM mJ∧mM+1 < a.size∧mJ < b.size∧AY+AZ≤mM+mJ)
    (Q:=fun c lZ=>∃ g,lZ=zY st g∧((∃ r o,c=(some r,o)∧Good val (a.toList++b.toList) r.toList)∨∃ mh mM mJ mg ac bc,c=(none,mh,mM,mJ,mg,ac,bc)∧MA val (a.toList++b.toList) a b mh mM mJ∧mM+1 < a.size∧mJ < b.size∧AY+AZ≤mM+mJ)) ⟨g,vA,AY,AZ,_,A0,A8,rfl,rfl,A9,c1,c2,ah _⟩ ?fin2 ?step2) ?post2)
   case fin2 =>
    rintro g mh mM mJ mg ac bc ⟨hI,b1,b2,b3⟩;exact⟨g,rfl,.inr ⟨mh,mM,mJ,mg,ac,bc,rfl,hI,b1,b2,b3⟩⟩
   case post2 =>
    rintro c lZ ⟨g,rfl,hc⟩;rcases hc with ⟨r,o,rfl,hG⟩ | ⟨vB,ia2,ib2,mg2,ac2,bc2,rfl,nO,d1,d2,d3⟩
    ·exact am ⟨g,r,_,rfl,rfl,hG⟩
    dsimp only;refine ak (zcr (am ⟨_,vB,ia2,ib2,_,rfl,rfl,nO,d1,d2,#[O]⟩))
   case step2 =>
    intro x2 g mh mM mJ vC ac bc uN xt J;have hI:=J.1;have b1:=J.2.1;have b2:=J.2.2.1;have b3:=J.2.2.2;dsimp only;refine z9 (xs:=b) (i:=mJ) #[O] fun y ey my=>?_
    apply dup
    ·intro k1 k2;by_cases qz:vC > 1
     ·refine zt qz ?_;clear qz;generalize vC - 1=m0
      revert m0
      exact k1
     ·refine zu qz ?_;clear qz;generalize vC=m0
      revert m0
      exact k2
    intro mg0;refine ak (zcr (ak (zF ey (ak (zaR hC hk (mb y my) (fun i hi=>(by
     refine z9 (xs:=a) (i:=mM+i) #[O] fun p ep mp=>?_
     exact⟨p,ep,ma p mp⟩)) (sa.sub #[O] #[O]) #[O] fun k qC pe sU=>?_)))))
    dsimp only;have nO:=hI.takeA (k:=k) sb ey fun i hi=>zcs (pe i hi)
    by_cases sC:k > 0
    ·refine zt sC ?_;by_cases e1:mM+k+1=a.size
     ·refine zt (by simpa using e1) ?_;exact am ⟨_,rfl,.inl ⟨_,_,rfl,nO.last e1 hl⟩⟩
     refine zu (by simpa using e1) ?_;by_cases e2:mM+k=a.size
     ·refine zt (by simpa using e2) ?_;exact am ⟨_,rfl,.inl ⟨_,_,rfl,nO.doneA e2⟩⟩
     refine zu (by simpa using e2) ?_;refine ak (zF ey ?_);refine z9 (xs:=a) (i:=mM+k) #[O] fun z ez mz=>?_
     have qD:=nO.pushB sa ey ez (by have:=zdc (sU k (ah _) #[O]); rw [zG ez] at this; lia);by_cases e3:mJ+1=b.size
     ·refine zt (by simpa using e3) ?_;exact am ⟨_,rfl,.inl ⟨_,_,rfl,qD.doneB e3⟩⟩
     refine zu (by simpa using e3) ?_;refine ak (zF ez (ak (zaR hC hk (ma z mz) (fun i hi=>(by
      refine z9 (xs:=b) (i:=mJ+1+i) #[O] fun p ep mp=>?_
      exact⟨p,ep,mb p mp⟩)) (sb.sub #[O] #[O]) #[O] fun j vx qo ui=>?_)))
     dsimp only;have rE:=qD.takeB (k:=j) sa ez fun i hi=>et (zbA (qo i hi))
     by_cases pq:j > 0
     ·refine zt pq ?_;by_cases e4:mJ+1+j=b.size
      ·refine zt (by simpa using e4) ?_;exact am ⟨_,rfl,.inl ⟨_,_,rfl,rE.doneB e4⟩⟩
      refine zu (by simpa using e4) ?_;refine z9 (xs:=b) (i:=mJ+1+j) #[O] fun y2 oA vD=>?_
      refine ak (zF ez ?_);have nB:=rE.pushA sb oA ez (by have:=zcf (ui j (ah _) #[O]); rw [zG oA] at this; exact this);by_cases e9:mM+k+1+1=a.size
      ·refine zt (by simpa using e9) ?_;exact am ⟨_,rfl,.inl ⟨_,_,rfl,nB.last e9 hl⟩⟩
      refine zu (by simpa using e9) ?_;refine zap (fun _=>?_) (fun _=>?_)
      ·exact am ⟨_,rfl,.inr ⟨_,_,_,_,_,_,rfl,nB,#[O],#[O],#[O]⟩⟩
      ·exact am ⟨_,_,_,_,_,_,_,rfl,rfl,nB,#[O],#[O],#[O]⟩
     ·refine zu pq ?_;have vE:j=0:=by lia
      subst vE;refine z9 (xs:=b) (i:=mJ+1) #[O] fun y2 oA vD=>?_
      refine ak (zF ez ?_);have nB:=qD.pushA sb oA ez (by have:=zcf (ui 0 (ah _) #[O]); rw [dO,zG oA] at this; exact this);by_cases e9:mM+k+1+1=a.size
      ·refine zt (by simpa using e9) ?_;exact am ⟨_,rfl,.inl ⟨_,_,rfl,nB.last e9 hl⟩⟩
      refine zu (by simpa using e9) ?_;refine zap (fun _=>?_) (fun _=>?_)
      ·exact am ⟨_,rfl,.inr ⟨_,_,_,_,_,_,rfl,nB,#[O],#[O],#[O]⟩⟩
      ·exact am ⟨_,_,_,_,_,_,_,rfl,rfl,nB,#[O],#[O],#[O]⟩
    ·refine zu sC ?_;have Ba:k=0:=by lia
     subst Ba;refine ak (zF ey ?_);refine z9 (xs:=a) (i:=mM) #[O] fun z ez mz=>?_
     have qD:=hI.pushB sa ey ez (by have:=zdc (sU 0 (ah _) #[O]); rw [dO,zG ez] at this; lia);by_cases e3:mJ+1=b.size
     ·refine zt (by simpa using e3) ?_;exact am ⟨_,rfl,.inl ⟨_,_,rfl,qD.doneB e3⟩⟩
     refine zu (by simpa using e3) ?_;refine ak (zF ez (ak (zaR hC hk (ma z mz) (fun i hi=>(by
      refine z9 (xs:=b) (i:=mJ+1+i) #[O] fun p ep mp=>?_
      exact⟨p,ep,mb p mp⟩)) (sb.sub #[O] #[O]) #[O] fun j vx qo ui=>?_)))
     dsimp only;have rE:=qD.takeB (k:=j) sa ez fun i hi=>et (zbA (qo i hi))
     by_cases pq:j > 0
     ·refine zt pq ?_;by_cases e4:mJ+1+j=b.size
      ·refine zt (by simpa using e4) ?_;exact am ⟨_,rfl,.inl ⟨_,_,rfl,rE.doneB e4⟩⟩
      refine zu (by simpa using e4) ?_;refine z9 (xs:=b) (i:=mJ+1+j) #[O] fun y2 oA vD=>?_
      refine ak (zF ez ?_);have nB:=rE.pushA sb oA ez (by have:=zcf (ui j (ah _) #[O]); rw [zG oA] at this; exact this);by_cases e9:mM+1+1=a.size
      ·refine zt (by simpa using e9) ?_;exact am ⟨_,rfl,.inl ⟨_,_,rfl,nB.last e9 hl⟩⟩
      refine zu (by simpa using e9) ?_;refine zap (fun _=>?_) (fun _=>?_)
      ·exact am ⟨_,rfl,.inr ⟨_,_,_,_,_,_,rfl,nB,#[O],#[O],#[O]⟩⟩
      ·exact am ⟨_,_,_,_,_,_,_,rfl,rfl,nB,#[O],#[O],#[O]⟩
     ·refine zu pq ?_;have vE:j=0:=by lia
      subst vE;refine z9 (xs:=b) (i:=mJ+1) #[O] fun y2 oA vD=>?_
      refine ak (zF ez ?_);have nB:=qD.pushA sb oA ez (by have:=zcf (ui 0 (ah _) #[O]); rw [dO,zG oA] at this; exact this);by_cases e9:mM+1+1=a.size
      ·refine zt (by simpa using e9) ?_;exact am ⟨_,rfl,.inl ⟨_,_,rfl,nB.last e9 hl⟩⟩
      refine zu (by simpa using e9) ?_;refine zap (fun _=>?_) (fun _=>?_)
      ·exact am ⟨_,rfl,.inr ⟨_,_,_,_,_,_,rfl,nB,#[O],#[O],#[O]⟩⟩
      ·exact am ⟨_,_,_,_,_,_,_,rfl,rfl,nB,#[O],#[O],#[O]⟩
end
end Srt
end
section
namespace Srt
open PySem PyProof.Rows
structure MH (val:Keyed→Int) (T l r o:List Keyed):Prop where
 perm:(l++r++o).Perm T
 so:Ris val o
 sl:Ris val l
 sr:Ris val r
 lo:Le val l o
 ro:Le val r o
section
variable {val:Keyed→Int} {T o l l1 l2 r r1 r2:List Keyed}
theorem MH.takeA (h:MH val T (l1++l2) r o) (hle:Le val r l2):MH val T l1 r (l2++o):=by
 obtain⟨a1,a2,a3⟩:=zaa.mp h.sl;refine⟨?_,zaa.mpr ⟨a2,h.so,h.lo.right⟩,a1,h.sr,a3.app' h.lo.left,hle.app' h.ro⟩;refine eT ?_ h.perm;have:(r++l2).Perm (l2++r):=List.perm_append_comm;have:=(this.append_left l1).append_right o;simpa [bf] using this
theorem MH.takeB (h:MH val T l (r1++r2) o) (hle:Le val l r2):MH val T l r1 (r2++o):=by
 obtain⟨a1,a2,a3⟩:=zaa.mp h.sr;exact⟨by have:=h.perm; simpa [bf] using this,zaa.mpr ⟨a2,h.so,h.ro.right⟩,h.sl,a1,hle.app' h.lo,a3.app' h.ro.left⟩
theorem MH.doneA (h:MH val T [] r o):Good val T (r++o):=⟨by have:=h.perm; simpa using this,zaa.mpr ⟨h.sr,h.so,h.ro⟩⟩
theorem MH.doneB (h:MH val T l [] o):Good val T (l++o):=⟨by have:=h.perm; simpa using this,zaa.mpr ⟨h.sl,h.so,h.lo⟩⟩
theorem MH.first (h:MH val T l r o) (hle:Le val r l):Good val T (r++l++o):=by
 refine⟨eT (List.perm_append_comm.append_right _) h.perm,?_⟩;exact zaa.mpr ⟨zaa.mpr ⟨h.sr,h.sl,hle⟩,h.so,h.ro.app h.lo⟩
end
section
variable {val:Keyed→Int} {T:List Keyed} {a b out:Array Keyed} {na nb:Nat}
abbrev MB (val:Keyed→Int) (T:List Keyed) (a b out:Array Keyed) (na nb:Nat):Prop:=MH val T (a.toList.take na) (b.toList.take nb) out.toList.reverse
theorem zhs {xs:Array Keyed} {n:Nat} {p:Keyed} (h:xs[n]? = some p):xs.toList.take (n+1)=xs.toList.take n++[p]:=by
 rw [List.take_succ,aV,h];rfl
theorem zfO {xs:Array Keyed} (h:SIn val xs 0 xs.size) (i:Nat):Ris val (xs.toList.take i):=by
 have:=zcq h 0;rw [fi] at this;exact iV (cv _ _) this
theorem zdF {xs:Array Keyed} {n:Nat} {p:Keyed} (h:p∈xs.toList.take n):∃ j,j < n∧j < xs.size∧xs[j]? = some p:=by
 (obtain⟨j,hj,e⟩:=dR h)
 have qo:j < n∧j < xs.toList.length:=by
  rw [aS] at hj;lia
 refine⟨j,qo.1,by simpa using qo.2,?_⟩;rw [← aV,aE qo.2,← e,gV]
theorem zdd {xs:Array Keyed} {n:Nat} {p q:Keyed} (h:SIn val xs 0 xs.size) (hp:xs[n]? = some p) (hq:q∈xs.toList.take (n+1)):val q≤val p:=by
 obtain⟨j,hj,ud,e⟩:=zdF hq;have hn:=(cp.mp hp).1;have:=h j n (bi _) #[O] hn;rw [zG e,zG hp] at this;exact this
theorem MB.pushA {y x:Keyed} (h:MB val T a b out (na+1) nb) (sb:SIn val b 0 b.size) (hn:1≤nb) (hy:b[nb - 1]? = some y) (hx:a[na]? = some x) (hle:val y≤val x):MB val T a b (out.push x) na nb:=by
 unfold MB at h ⊢;rw [zhs hx] at h;have:=MH.takeA h fun p hp q hq=>by
  rw [aA.mp hq];exact bU (zdd sb hy (by rw [show nb - 1+1=nb by lia]; exact hp)) hle
 simpa using this
theorem MB.pushB {y x:Keyed} (h:MB val T a b out na (nb+1)) (sa:SIn val a 0 a.size) (hn:1≤na) (hy:b[nb]? = some y) (hx:a[na - 1]? = some x) (hle:val x≤val y):MB val T a b (out.push y) na nb:=by
 unfold MB at h ⊢;rw [zhs hy] at h;have:=MH.takeB h fun p hp q hq=>by
  rw [aA.mp hq];exact bU (zdd sa hx (by rw [show na - 1+1=na by lia]; exact hp)) hle
 simpa using this
theorem zht (xs:Array Keyed) {i n:Nat} (h:i≤n):xs.toList.take n=xs.toList.take i++(xs.extract i n).toList:=by
 rw [cJ];simp only [cZ];rw [← bw i (xs.toList.take n),lx,iC h,List.drop_take]
theorem MB.takeA {y:Keyed} {at':Nat} (h:MB val T a b out na nb) (sb:SIn val b 0 b.size) (pv:at'≤na) (hn:1≤nb) (hy:b[nb - 1]? = some y) (hle:∀ i,at'≤i→i < na→val y≤Vk val a i):MB val T a b (out++(a.extract at' na).reverse) at' nb:=by
 unfold MB at h ⊢;rw [zht a pv] at h;have:=MH.takeA h fun p hp q hq=>by
  have rq:q∈(a.extract at' (at'+(na - at'))).toList:=by rw [show at'+(na - at')=na by lia]; exact hq
  obtain⟨j,hj,e⟩:=zdb rq;have:=hle (at'+j) #[O] #[O];rw [zG e] at this;exact bU (zdd sb hy (by rw [show nb - 1+1=nb by lia]; exact hp)) this
 simpa using this
theorem MB.takeB {x:Keyed} {at':Nat} (h:MB val T a b out na nb) (sa:SIn val a 0 a.size) (pv:at'≤nb) (hn:1≤na) (hx:a[na - 1]? = some x) (hle:∀ i,at'≤i→i < nb→val x≤Vk val b i):MB val T a b (out++(b.extract at' nb).reverse) na at':=by
 unfold MB at h ⊢;rw [zht b pv] at h;have:=MH.takeB h fun p hp q hq=>by
  have rq:q∈(b.extract at' (at'+(nb - at'))).toList:=by rw [show at'+(nb - at')=nb by lia]; exact hq
  obtain⟨j,hj,e⟩:=zdb rq;have:=hle (at'+j) #[O] #[O];rw [zG e] at this;exact bU (zdd sa hx (by rw [show na - 1+1=na by lia]; exact hp)) this
 simpa using this
theorem zbo (xs:Array Keyed) (n:Nat):(xs.extract 0 n).toList=xs.toList.take n:=by
 rw [cJ];simp [cZ]
theorem MB.doneA (h:MB val T a b out na nb) (e:na=0):Good val T (a.extract 0 na++b.extract 0 nb++out.reverse).toList:=by
 unfold MB at h;subst e;have:=MH.doneA h;rw [bj,bj,zbo,zbo,gm,kW,f8];exact this
theorem MB.doneB (h:MB val T a b out na nb) (e:nb=0):Good val T (a.extract 0 na++b.extract 0 nb++out.reverse).toList:=by
 unfold MB at h;subst e;have:=MH.doneB h;rw [bj,bj,zbo,zbo,gm,cQ,f8];exact this
theorem MB.first (h:MB val T a b out na nb) (e:nb=1) (sa:SIn val a 0 a.size) (h2:1≤b.size) (hf:Vk val b 0≤Vk val a 0):Good val T (b.extract 0 nb++a.extract 0 na++out.reverse).toList:=by
 unfold MB at h;subst e;have:=MH.first h fun p hp q hq=>by
  obtain⟨j,hj,ud,ej⟩:=zdF hp;have pq:j=0:=by lia
  subst pq;obtain⟨i,hi,wz,ei⟩:=zdF hq;have:=sa 0 i (bi _) (bi _) wz;rw [zG ei] at this;rw [zG ej] at hf;lia
 rw [bj,bj,zbo,zbo,f8];exact this
end
section
variable {prog:Program} {w:World} {A:Around} {E:Value→Shared→Prop} {s:Shared} {a₀:Array Keyed} {κ:SortKind} {val:Keyed→Int}
theorem zix {st:SortSt} {a b:Array Keyed} {Q:Array Keyed→SortSt→Prop} (hC:Cmp prog w A s κ val a₀) (hk:kindOf st=κ) (ma:∀ p∈a.toList,p∈a₀.toList) (mb:∀ p∈b.toList,p∈a₀.toList)
  (sa:SIn val a 0 a.size) (sb:SIn val b 0 b.size) (h1:1≤a.size) (h2:1≤b.size) (hf:Vk val b 0≤Vk val a 0) (hl:∀ i,i < b.size→Vk val b i≤Vk val a (a.size - 1))
  (h:∀ out g,Good val (a.toList++b.toList) out.toList→Q out (zY st g)):wpS (model prog w) A E s (zj1 a b) Q st:=by
 refine zeZ ?_
 wp_delta
 wp_delta
 refine ze0 ?_
 (refine ak (gk (cU ⟨rfl,?_⟩)))
 refine z9 (xs:=a) (i:=a.size - 1) #[O] fun x0 tV AW=>?_
 refine z9 (xs:=b) (i:=b.size - 1) #[O] fun y0 tU AV=>?_
 refine ak (zF tV ?_);have I0:MB val (a.toList++b.toList) a b #[] (a.size - 1+1) b.size:=by
  refine⟨?_,fk,zfO sa _,zfO sb _,fun x _ y hy=>by simp at hy,fun x _ y hy=>by simp at hy⟩;rw [show a.size - 1+1=a.size by lia,aW #[M],aW #[M]];simp
 have I1:MB val (a.toList++b.toList) a b #[x0] (a.size - 1) b.size:=I0.pushA sb h2 tU tV (by have:=hl (b.size - 1) #[O]; rw [zG tU,zG tV] at this; exact this);dsimp only;by_cases sE:a.size - 1=0
 ·refine zt (by simpa using sE) ?_;exact am (h _ (gallopOf st) (I1.doneA sE))
 refine zu (by simpa using sE) ?_;by_cases rD:b.size=1
 ·refine zt (by simpa using rD) ?_;exact am (h _ (gallopOf st) (I1.first rD sa h2 hf))
 refine zu (by simpa using rD) ?_;refine ak (fg ?_);refine ak (dk (fr5 (fun g out na nb mg=>(none,na,nb,out,mg)) (fun g out na nb mg=>zY st g) (fun x g out na nb mg=>MB val (a.toList++b.toList) a b out na nb∧1≤na∧2≤nb∧na≤a.size∧nb≤b.size∧x+na+nb+1≤a.size+b.size)
  (Q:=fun c lZ=>∃ g r o,lZ=zY st g∧c=(some r,o)∧Good val (a.toList++b.toList) r.toList) ⟨gallopOf st,#[x0],a.size - 1,b.size,gallopOf st,rfl,rfl,I1,#[O],#[O],#[O],#[O],#[O]⟩ ?fin ?step) ?post)
 case post =>
  rintro c lZ ⟨g,r,o,rfl,rfl,hG⟩;exact am (h _ g hG)
 case fin =>
  rintro g out na nb mg ⟨hI,b1,b2,b3⟩;lia
 case step =>
  intro x g out na nb mg AX hx J;have hI:=J.1;have b1:=J.2.1;have b2:=J.2.2.1;have b4:=J.2.2.2.1;have b5:=J.2.2.2.2.1;have b3:=J.2.2.2.2.2;dsimp only;refine zlY (fun mh mZ m4 ac bc=>(none,mZ,m4,mh,ac,bc)) (fun r=>Good val (a.toList++b.toList) r.toList) (fun mh mZ m4 ac bc=>MB val (a.toList++b.toList) a b mh mZ m4∧1≤mZ∧2≤m4∧mZ≤a.size∧m4≤b.size∧1+mZ+m4≤na+nb) (zY st g) (fr5 (fun mh mZ m4 ac bc=>(none,mZ,m4,mh,ac,bc)) (fun mh mZ m4 ac bc=>zY st g) (fun x mh mZ m4 ac bc=>MB val (a.toList++b.toList) a b mh mZ m4∧1≤mZ∧2≤m4∧mZ≤a.size∧m4≤b.size∧x+mZ+m4≤na+nb) ⟨out,na,nb,0,0,rfl,rfl,hI,b1,b2,b4,b5,#[O]⟩ ?fin1 ?step1) (fun r o hG=>am ⟨g,r,_,rfl,rfl,hG⟩) ?post1
  case fin1 =>
   rintro mh mZ m4 ac bc ⟨hI,b1,b2,b4,b5,b3⟩;exact⟨rfl,.inr ⟨mh,mZ,m4,ac,bc,rfl,hI,b1,b2,b4,b5,#[O]⟩⟩
  case step1 =>
   intro x1 mh mZ m4 ac bc yP yQ J;have hI:=J.1;have b1:=J.2.1;have b2:=J.2.2.1;have b4:=J.2.2.2.1;have b5:=J.2.2.2.2.1;have b3:=J.2.2.2.2.2;dsimp only;obtain⟨n1,rfl⟩:∃ n1,mZ=n1+1:=⟨mZ - 1,#[O]⟩;obtain⟨m1,rfl⟩:∃ m1,m4=m1+1:=⟨m4 - 1,#[O]⟩;simp only [cI];refine z9 (xs:=b) (i:=m1) #[O] fun y ey my=>?_
   refine z9 (xs:=a) (i:=n1) #[O] fun z ez mz=>?_
   refine ak (zF ey (ak (zF ez (ak (zjX hC hk (mb y my) (ma z mz) ?_)))));dsimp only;by_cases xr:val y < val z
   ·refine zt (by simpa using xr) ?_;refine ak (zF ez ?_);have nO:=hI.pushA sb #[O] ey ez #[O];by_cases e1:n1=0
    ·refine zt (by simpa using e1) ?_;exact am ⟨rfl,.inl ⟨_,_,rfl,nO.doneA e1⟩⟩
    refine zu (by simpa using e1) ?_;refine zap (fun _=>?_) (fun _=>?_)
    ·exact am ⟨rfl,.inr ⟨_,_,_,_,_,rfl,nO,#[O],#[O],#[O],#[O],#[O]⟩⟩
    ·exact am ⟨_,_,_,_,_,rfl,rfl,nO,#[O],#[O],#[O],#[O],#[O]⟩
   ·refine zu (by simpa using xr) ?_;refine ak (zF ey ?_);have nO:=hI.pushB sa #[O] ey ez #[O];by_cases e1:m1=1
    ·refine zt (by simpa using e1) ?_;exact am ⟨rfl,.inl ⟨_,_,rfl,nO.first e1 sa h2 hf⟩⟩
    refine zu (by simpa using e1) ?_;refine zap (fun _=>?_) (fun _=>?_)
    ·exact am ⟨rfl,.inr ⟨_,_,_,_,_,rfl,nO,#[O],#[O],#[O],#[O],#[O]⟩⟩
    ·exact am ⟨_,_,_,_,_,rfl,rfl,nO,#[O],#[O],#[O],#[O],#[O]⟩
  case post1 =>
   intro vA Bb Bc A0 A8 J;have A9:=J.1;have c1:=J.2.1;have c2:=J.2.2.1;have c4:=J.2.2.2.1;have c5:=J.2.2.2.2.1;have c3:=J.2.2.2.2.2;dsimp only
   (refine ak (gk (cU ⟨rfl,?_⟩)))
   refine ak (dk (fr7 (fun g mh mZ m4 mg ac bc=>(none,mZ,m4,mh,mg,ac,bc)) (fun g mh mZ m4 mg ac bc=>zY st g) (fun x g mh mZ m4 mg ac bc=>MB val (a.toList++b.toList) a b mh mZ m4∧1≤mZ∧2≤m4∧mZ≤a.size∧m4≤b.size∧mZ+m4≤Bb+Bc)
    (Q:=fun c lZ=>∃ g,lZ=zY st g∧((∃ r o,c=(some r,o)∧Good val (a.toList++b.toList) r.toList)∨∃ mh mZ m4 mg ac bc,c=(none,mZ,m4,mh,mg,ac,bc)∧MB val (a.toList++b.toList) a b mh mZ m4∧1≤mZ∧2≤m4∧mZ≤a.size∧m4≤b.size∧mZ+m4≤Bb+Bc)) ⟨g,vA,Bb,Bc,_,A0,A8,rfl,rfl,A9,c1,c2,c4,c5,ah _⟩ ?fin2 ?step2) ?post2)
   case fin2 =>
    rintro g mh mZ m4 mg ac bc ⟨hI,b1,b2,b4,b5,b3⟩;exact⟨g,rfl,.inr ⟨mh,mZ,m4,mg,ac,bc,rfl,hI,b1,b2,b4,b5,b3⟩⟩
   case post2 =>
    rintro c lZ ⟨g,rfl,hc⟩;rcases hc with ⟨r,o,rfl,hG⟩ | ⟨vB,na2,nb2,mg2,ac2,bc2,rfl,nO,d1,d2,d4,d5,d3⟩
    ·exact am ⟨g,r,_,rfl,rfl,hG⟩
    dsimp only;refine ak (zcr (am ⟨_,vB,na2,nb2,_,rfl,rfl,nO,d1,d2,d4,d5,#[O]⟩))
   case step2 =>
    intro x2 g mh mZ m4 vC ac bc uN xt J;have hI:=J.1;have b1:=J.2.1;have b2:=J.2.2.1;have b4:=J.2.2.2.1;have b5:=J.2.2.2.2.1;have b3:=J.2.2.2.2.2;dsimp only;obtain⟨m1,rfl⟩:∃ m1,m4=m1+1:=⟨m4 - 1,#[O]⟩;simp only [cI];refine z9 (xs:=b) (i:=m1) #[O] fun y ey my=>?_
    apply dup
    ·intro k1 k2;by_cases qz:vC > 1
     ·refine zt qz ?_;clear qz;generalize vC - 1=m0
      revert m0
      exact k1
     ·refine zu qz ?_;clear qz;generalize vC=m0
      revert m0
      exact k2
    intro mg0;refine ak (zcr (ak (zF ey (ak (zaR hC hk (mb y my) (fun i hi=>(by
     refine z9 (xs:=a) (i:=0+i) #[O] fun p ep mp=>?_
     exact⟨p,ep,ma p mp⟩)) (sa.sub #[O] #[O]) #[O] fun k qC pe sU=>?_)))))
    dsimp only;have nO:=hI.takeA (at':=k) sb qC #[O] ey fun i h1 h2=>et (by have:=zdc (sU i h1 h2); rwa [cq] at this)
    by_cases sC:mZ - k > 0
    ·refine zt sC ?_;by_cases e1:k=0
     ·refine zt (by simpa using e1) ?_;exact am ⟨_,rfl,.inl ⟨_,_,rfl,nO.doneA e1⟩⟩
     refine zu (by simpa using e1) ?_;obtain⟨n1,rfl⟩:∃ n1,k=n1+1:=⟨k - 1,#[O]⟩;simp only [cI];refine ak (zF ey ?_);refine z9 (xs:=a) (i:=n1) #[O] fun z ez mz=>?_
     have qD:=nO.pushB sa #[O] ey (show a[n1+1 - 1]? = some z by rw [cI]; exact ez) (by have:=zcs (pe n1 #[O]); rw [cq,zG ez] at this; exact this);by_cases e3:m1=1
     ·refine zt (by simpa using e3) ?_;exact am ⟨_,rfl,.inl ⟨_,_,rfl,qD.first e3 sa h2 hf⟩⟩
     refine zu (by simpa using e3) ?_;refine ak (zF ez (ak (zaR hC hk (ma z mz) (fun i hi=>(by
      refine z9 (xs:=b) (i:=0+i) #[O] fun p ep mp=>?_
      exact⟨p,ep,mb p mp⟩)) (sb.sub #[O] #[O]) #[O] fun j vx qo ui=>?_)))
     dsimp only;have rE:=qD.takeB (at':=j) sa vx #[O] (show a[n1+1 - 1]? = some z by rw [cI]; exact ez) fun i h1 h2=>(by have:=zcf (ui i h1 h2); rwa [cq] at this)
     by_cases pq:m1 - j > 0
     ·refine zt pq ?_;by_cases e4:j=1
      ·refine zt (by simpa using e4) ?_;exact am ⟨_,rfl,.inl ⟨_,_,rfl,rE.first e4 sa h2 hf⟩⟩
      refine zu (by simpa using e4) ?_;by_cases e5:j=0
      ·refine zt (by simpa using e5) ?_;exact am ⟨_,rfl,.inl ⟨_,_,rfl,rE.doneB e5⟩⟩
      refine zu (by simpa using e5) ?_;refine z9 (xs:=b) (i:=j - 1) #[O] fun y2 oA vD=>?_
      refine ak (zF ez ?_);have nB:=rE.pushA sb #[O] oA ez (by have:=zbA (qo (j - 1) #[O]); rw [cq,zG oA] at this; lia);by_cases e9:n1=0
      ·refine zt (by simpa using e9) ?_;exact am ⟨_,rfl,.inl ⟨_,_,rfl,nB.doneA e9⟩⟩
      refine zu (by simpa using e9) ?_;refine zap (fun _=>?_) (fun _=>?_)
      ·exact am ⟨_,rfl,.inr ⟨_,_,_,_,_,_,rfl,nB,#[O],#[O],#[O],#[O],#[O]⟩⟩
      ·exact am ⟨_,_,_,_,_,_,_,rfl,rfl,nB,#[O],#[O],#[O],#[O],#[O]⟩
     ·refine zu pq ?_;have Bd:j=m1:=by lia
      subst Bd;refine z9 (xs:=b) (i:=j - 1) #[O] fun y2 oA vD=>?_
      refine ak (zF ez ?_);have nB:=qD.pushA sb #[O] oA ez (by have:=zbA (qo (j - 1) #[O]); rw [cq,zG oA] at this; lia);by_cases e9:n1=0
      ·refine zt (by simpa using e9) ?_;exact am ⟨_,rfl,.inl ⟨_,_,rfl,nB.doneA e9⟩⟩
      refine zu (by simpa using e9) ?_;refine zap (fun _=>?_) (fun _=>?_)
      ·exact am ⟨_,rfl,.inr ⟨_,_,_,_,_,_,rfl,nB,#[O],#[O],#[O],#[O],#[O]⟩⟩
      ·exact am ⟨_,_,_,_,_,_,_,rfl,rfl,nB,#[O],#[O],#[O],#[O],#[O]⟩
    ·refine zu sC ?_;have ug:k=mZ:=by lia
     subst ug;obtain⟨n1,rfl⟩:∃ n1,k=n1+1:=⟨k - 1,#[O]⟩;simp only [cI];refine ak (zF ey ?_);refine z9 (xs:=a) (i:=n1) #[O] fun z ez mz=>?_
     have qD:=hI.pushB sa #[O] ey (show a[n1+1 - 1]? = some z by rw [cI]; exact ez) (by have:=zcs (pe n1 #[O]); rw [cq,zG ez] at this; exact this);by_cases e3:m1=1
     ·refine zt (by simpa using e3) ?_;exact am ⟨_,rfl,.inl ⟨_,_,rfl,qD.first e3 sa h2 hf⟩⟩
     refine zu (by simpa using e3) ?_;refine ak (zF ez (ak (zaR hC hk (ma z mz) (fun i hi=>(by
      refine z9 (xs:=b) (i:=0+i) #[O] fun p ep mp=>?_
      exact⟨p,ep,mb p mp⟩)) (sb.sub #[O] #[O]) #[O] fun j vx qo ui=>?_)))
     dsimp only;have rE:=qD.takeB (at':=j) sa vx #[O] (show a[n1+1 - 1]? = some z by rw [cI]; exact ez) fun i h1 h2=>(by have:=zcf (ui i h1 h2); rwa [cq] at this)
     by_cases pq:m1 - j > 0
     ·refine zt pq ?_;by_cases e4:j=1
      ·refine zt (by simpa using e4) ?_;exact am ⟨_,rfl,.inl ⟨_,_,rfl,rE.first e4 sa h2 hf⟩⟩
      refine zu (by simpa using e4) ?_;by_cases e5:j=0
      ·refine zt (by simpa using e5) ?_;exact am ⟨_,rfl,.inl ⟨_,_,rfl,rE.doneB e5⟩⟩
      refine zu (by simpa using e5) ?_;refine z9 (xs:=b) (i:=j - 1) #[O] fun y2 oA vD=>?_
      refine ak (zF ez ?_);have nB:=rE.pushA sb #[O] oA ez (by have:=zbA (qo (j - 1) #[O]); rw [cq,zG oA] at this; lia);by_cases e9:n1=0
      ·refine zt (by simpa using e9) ?_;exact am ⟨_,rfl,.inl ⟨_,_,rfl,nB.doneA e9⟩⟩
      refine zu (by simpa using e9) ?_;refine zap (fun _=>?_) (fun _=>?_)
      ·exact am ⟨_,rfl,.inr ⟨_,_,_,_,_,_,rfl,nB,#[O],#[O],#[O],#[O],#[O]⟩⟩
      ·exact am ⟨_,_,_,_,_,_,_,rfl,rfl,nB,#[O],#[O],#[O],#[O],#[O]⟩
     ·refine zu pq ?_;have Bd:j=m1:=by lia
      subst Bd;refine z9 (xs:=b) (i:=j - 1) #[O] fun y2 oA vD=>?_
      refine ak (zF ez ?_);have nB:=qD.pushA sb #[O] oA ez (by have:=zbA (qo (j - 1) #[O]); rw [cq,zG oA] at this; lia);by_cases e9:n1=0
      ·refine zt (by simpa using e9) ?_;exact am ⟨_,rfl,.inl ⟨_,_,rfl,nB.doneA e9⟩⟩
      refine zu (by simpa using e9) ?_;refine zap (fun _=>?_) (fun _=>?_)
      ·exact am ⟨_,rfl,.inr ⟨_,_,_,_,_,_,rfl,nB,#[O],#[O],#[O],#[O],#[O]⟩⟩
      ·exact am ⟨_,_,_,_,_,_,_,rfl,rfl,nB,#[O],#[O],#[O],#[O],#[O]⟩
end
end Srt
end
section
namespace Srt
open PySem PyProof.Rows
def wb (sa:Nat) (l:List (Keyed×Nat)) (xs:Array Keyed):Array Keyed:=l.foldl (fun a (p,j)=>a.setIfInBounds (sa+j) p) xs
theorem zj4 (sa:Nat):∀ (l:List Keyed) (n:Nat) (xs:Array Keyed) (k:Nat),sa+n+l.length≤xs.size→(wb sa (l.zipIdx n) xs)[k]? = if sa+n≤k∧k < sa+n+l.length then l[k - (sa+n)]? else xs[k]?
 | [],n,xs,k,h=>by
  rw [if_neg (by simp only [c9]; lia)];rfl
 | p :: l,n,xs,k,h=>by
  have hl:(p :: l).length=l.length+1:=rfl;rw [hl] at h ⊢;show (wb sa (l.zipIdx (n+1)) (xs.setIfInBounds (sa+n) p))[k]? = _;rw [zj4 sa l (n+1) _ k (by rw [h8]; lia)];by_cases h1:sa+(n+1)≤k∧k < sa+(n+1)+l.length
  ·rw [if_pos h1,if_pos #[O],show k - (sa+n)=k - (sa+(n+1))+1 by lia,bN]
  ·rw [if_neg h1,Array.getElem?_setIfInBounds];by_cases h2:sa+n=k
   ·rw [if_pos h2,if_pos #[O],if_pos #[O],show k - (sa+n)=0 by lia];rfl
   ·rw [if_neg h2,if_neg #[O]]
theorem zld {sa:Nat} {m xs:Array Keyed} (h:sa+m.size≤xs.size):(wb sa m.toList.zipIdx xs).toList=xs.toList.take sa++m.toList++xs.toList.drop (sa+m.size):=by
 have hm:m.toList.length=m.size:=by simp
 have hx:xs.toList.length=xs.size:=by simp
 refine gW fun k=>?_
 rw [aV,zj4 sa m.toList 0 xs k (by rw [hm]; lia),hm,dO];by_cases h1:k < sa
 ·rw [if_neg #[O],bf,dG (by rw [aS]; lia),eV h1,aV]
 ·by_cases h2:k < sa+m.size
  ·rw [if_pos #[O],bf,dC (by rw [aS]; lia),aS,hx,show min sa xs.size=sa by lia,dG #[O]]
  ·rw [if_neg #[O],dC (by rw [aF,aS]; lia),aF,aS,hx,show min sa xs.size=sa by lia,hm,gE,show sa+m.size+(k - (sa+m.size))=k by lia,aV]
theorem ziy (xs:List Keyed) {i j k:Nat} (h1:i≤j) (h2:j≤k):xs=xs.take i++((xs.drop i).take (j - i)++(xs.drop j).take (k - j))++xs.drop k:=by
 have e1:xs.drop i=(xs.drop i).take (j - i)++xs.drop j:=by
  have:=(bw (j - i) (xs.drop i)).symm
  rwa [iW,show i+(j - i)=j by lia] at this
 have e2:xs.drop j=(xs.drop j).take (k - j)++xs.drop k:=by
  have:=(bw (k - j) (xs.drop j)).symm
  rwa [iW,show j+(k - j)=k by lia] at this
 have e0:=(bw i xs).symm;rw [e1,e2] at e0;rw [bf,bf];exact e0
theorem zct (xs:Array Keyed) (i j:Nat):(xs.extract i j).toList=(xs.toList.drop i).take (j - i):=by
 rw [cJ]
theorem zle {sa sb e:Nat} {m xs:Array Keyed} (h1:sa≤sb) (h2:sb≤e) (h3:e≤xs.size) (hp:m.toList.Perm ((xs.extract sa sb).toList++(xs.extract sb e).toList)):(wb sa m.toList.zipIdx xs).Perm xs:=by
 have hms:m.size=e - sa:=by
  have:=hp.length_eq;rw [aF,zct,zct,aS,aS,cF,cF] at this;have hx:xs.toList.length=xs.size:=by simp
  have hm:m.toList.length=m.size:=by simp
  lia
 rw [eK,zld #[O],show sa+m.size=e by lia];refine eT ((hp.append_left _).append_right _) ?_;rw [zct,zct,← ziy xs.toList h1 h2]
section
variable {prog:Program} {w:World} {A:Around} {E:Value→Shared→Prop} {s:Shared} {a₀:Array Keyed} {κ:SortKind} {val:Keyed→Int}
theorem zcg {xs:Array Keyed} {i j k:Nat} (h:k < j - i) (hj:j≤xs.size):(xs.extract i j)[k]? = xs[i+k]?:=by
 rw [← aV,zct,eV h,gE,aV]
theorem zcu {xs:Array Keyed} {i j:Nat} (hj:j≤xs.size):(xs.extract i j).size=j - i:=by rw [jX,iC hj]
theorem zhu {xs:Array Keyed} {i j:Nat} (hj:j≤xs.size) (h:SIn val xs i j):SIn val (xs.extract i j) 0 (xs.extract i j).size:=by
 rw [zcu hj];intro p q _ hpq hq;rw [zU (zcg #[O] hj),zU (zcg hq hj)];exact h _ _ #[O] #[O] #[O]
theorem zde {xs:Array Keyed} {i j:Nat} (hj:j≤xs.size) {p:Keyed} (h:p∈(xs.extract i j).toList):∃ k,i≤k∧k < j∧xs[k]? = some p:=by
 obtain⟨k,hk,e⟩:=dR h;have pL:k < j - i:=by
  rwa [aH,zcu hj] at hk
 refine⟨i+k,#[O],#[O],?_⟩;rw [← zcg pL hj,← aV,aE hk,e]
theorem ziz {st:SortSt} {i sa na pw sb nb pw2:Nat} {Q:Bool→SortSt→Prop} (hC:Cmp prog w A s κ val a₀) (hB:SB κ a₀ st) (e1:(pendingOf st)[i]? = some (sa,na,pw)) (e2:(pendingOf st)[i+1]? = some (sb,nb,pw2))
  (qV:sb=sa+na) (hna:1≤na) (hnb:1≤nb) (hsz:sb+nb≤a₀.size) (sA:SIn val (arrOf st) sa (sa+na)) (sB:SIn val (arrOf st) sb (sb+nb))
  (h:∀ lZ,SB κ a₀ lZ→pendingOf lZ=((pendingOf st).setIfInBounds i (sa,na+nb,pw)).eraseIdxIfInBounds (i+1)→(∀ k,(k < sa∨sb+nb≤k)→(arrOf lZ)[k]? = (arrOf st)[k]?)→SIn val (arrOf lZ) sa (sb+nb)→Q true lZ) :
  wpS (model prog w) A E s (mergeAt' i) Q st:=by
 refine zeZ ?_
 wp_delta
 wp_delta
 refine ze0 ?_;refine ak (fg ?_);rw [e1,e2];dsimp only;have xu:=hB.size;obtain⟨y0,tU,AV⟩:=hB.mem (i:=sb) #[O];generalize vF:(sortPriv% PySem.Builtin.SortState.mk) (kindOf st) (arrOf st) (((pendingOf st).setIfInBounds i (sa,na+nb,pw)).eraseIdxIfInBounds (i+1)) (gallopOf st) (failedOf st)=pO;have sV:SB κ a₀ pO:=by subst vF; exact⟨hB.perm,hB.kind,hB.failed⟩
 have qE:pendingOf pO=((pendingOf st).setIfInBounds i (sa,na+nb,pw)).eraseIdxIfInBounds (i+1):=by subst vF; rfl
 have sE:arrOf pO=arrOf st:=by subst vF; rfl
 have uj:∀ n,n < a₀.size→∃ p,(arrOf st)[n]? = some p∧p∈a₀.toList:=fun n hn=>hB.mem hn
 refine ak (show wpS _ _ _ _ (set pO) _ st from eG (f:=fun _=>pO) ?_);refine ak (zF tU (ak (zaR (arr:=arrOf st) hC sV.kind AV (fun j hj=>uj (sa+j) #[O]) sA #[O] fun k qC pe sU=>?_)));dsimp only;have xv:∀ j,sa≤j→j < sa+k→Vk val (arrOf st) j≤Vk val (arrOf st) sb:=fun j h1 h2=>by
  have:=zcs (pe (j - sa) #[O])
  rwa [show sa+(j - sa)=j by lia,← zG (val:=val) tU] at this
 by_cases sC:na - k=0
 ·rw [if_pos (by simpa using sC)];refine am (h pO sV qE (fun _ _=>by rw [sE]) ?_);rw [sE];intro p q h1 h2 h3;by_cases hq:q < sa+na
  ·exact sA p q h1 h2 hq
  ·by_cases hp:p < sa+na
   ·exact bU (xv p h1 #[O]) (sB sb q #[O] #[O] h3)
   ·exact sB p q #[O] h2 h3
 rw [if_neg (by simpa using sC)];have xw:sa+k+(na - k) - 1=sa+na - 1:=by lia
 rw [xw];obtain⟨x0,tV,AW⟩:=hB.mem (i:=sa+na - 1) #[O];refine ak (zF tV (ak (zaR (arr:=arrOf st) hC sV.kind AW (fun j hj=>uj (sb+j) #[O]) sB #[O] fun m sQ tS Be=>?_)));dsimp only;have uO:∀ j,sb+m≤j→j < sb+nb→Vk val (arrOf st) (sa+na - 1)≤Vk val (arrOf st) j:=fun j h1 h2=>by
  have:=zcf (Be (j - sb) #[O] #[O])
  rwa [show sb+(j - sb)=j by lia,← zG (val:=val) tV] at this
 have Bf:∀ j,sb≤j→j < sb+m→Vk val (arrOf st) j < Vk val (arrOf st) (sa+na - 1):=fun j h1 h2=>by
  have:=zbA (tS (j - sb) #[O])
  rwa [show sb+(j - sb)=j by lia,← zG (val:=val) tV] at this
 by_cases hm0:m=0
 ·rw [if_pos (by simpa using hm0)];refine am (h pO sV qE (fun _ _=>by rw [sE]) ?_);rw [sE];intro p q h1 h2 h3;by_cases hq:q < sa+na
  ·exact sA p q h1 h2 hq
  ·by_cases hp:p < sa+na
   ·exact bU (sA p (sa+na - 1) h1 #[O] #[O]) (uO q #[O] h3)
   ·exact sB p q #[O] h2 h3
 rw [if_neg (by simpa using hm0)];have zx:(arrOf st).size=a₀.size:=xu;have z1:=zcu (xs:=arrOf st) (i:=sa+k) (j:=sb) #[O];have z2:=zcu (xs:=arrOf st) (i:=sb) (j:=sb+m) #[O];have hf:Vk val ((arrOf st).extract sb (sb+m)) 0≤Vk val ((arrOf st).extract (sa+k) sb) 0:=by
  rw [zU (zcg #[O] #[O]),zU (zcg (xs:=arrOf st) (i:=sa+k) (j:=sb) (k:=0) #[O] #[O])];have:=zdc (sU k (ah _) #[O]);rw [← zG (val:=val) tU] at this;simp only [dO] at this ⊢;lia
 have hl:∀ j,j < ((arrOf st).extract sb (sb+m)).size→Vk val ((arrOf st).extract sb (sb+m)) j≤Vk val ((arrOf st).extract (sa+k) sb) (((arrOf st).extract (sa+k) sb).size - 1):=by
  intro j hj;rw [z2] at hj;rw [z1,zU (zcg #[O] #[O]),zU (zcg (xs:=arrOf st) (i:=sa+k) (j:=sb) #[O] #[O])];have:=Bf (sb+j) #[O] #[O];rw [show sa+k+(sb - (sa+k) - 1)=sa+na - 1 by lia];lia
 have fin:∀ (out:Array Keyed) (g:Nat),Good val (((arrOf st).extract (sa+k) sb).toList++((arrOf st).extract sb (sb+m)).toList) out.toList →
   wpS (model prog w) A E s (do
    modify fun s=>setArr s (out.toList.zipIdx.foldl (fun a (p,j)=>a.setIfInBounds (sa+k+j) p) (arrOf s))
    let s' ← get
    pure (failedOf s').isNone) Q (zY pO g):=by
  intro out g hG;refine ak (eG (ak (fg ?_)));have hms:out.size=sb+m - (sa+k):=by
   have:=hG.1.length_eq;rw [aF] at this;have e1:out.toList.length=out.size:=by simp
   have e2:((arrOf st).extract (sa+k) sb).toList.length=sb - (sa+k):=by rw [aH,z1]
   have e3:((arrOf st).extract sb (sb+m)).toList.length=sb+m - sb:=by rw [aH,z2]
   lia
  have xy:=zle (xs:=arrOf st) (sa:=sa+k) (sb:=sb) (e:=sb+m) #[O] #[O] #[O] hG.1;have pv:∀ n,(wb (sa+k) out.toList.zipIdx (arrOf st))[n]? = if sa+k≤n∧n < sb+m then out[n - (sa+k)]? else (arrOf st)[n]?:=fun n=>by
   have:=zj4 (sa+k) out.toList 0 (arrOf st) n (by rw [aH]; lia);rw [aH,dO,hms,show sa+k+(sb+m - (sa+k))=sb+m by lia,aV] at this;exact this
  have wg:(failedOf (setArr (zY pO g) (wb (sa+k) out.toList.zipIdx (arrOf st)))).isNone=true:=by
   show (failedOf pO).isNone=true;rw [sV.failed];rfl
  have Bg:arrOf (zY pO g)=arrOf st:=sE;show wpS _ _ _ _ (pure (failedOf (setArr (zY pO g) (wb (sa+k) out.toList.zipIdx (arrOf (zY pO g))))).isNone) Q (setArr (zY pO g) (wb (sa+k) out.toList.zipIdx (arrOf (zY pO g))));rw [Bg,wg];refine am (h _ ⟨xy.trans hB.perm,sV.kind,sV.failed⟩ qE (fun n hn=>?_) ?_)
  ·show (wb (sa+k) out.toList.zipIdx (arrOf st))[n]? = _;rw [pv,if_neg #[O]]
  ·show SIn val (wb (sa+k) out.toList.zipIdx (arrOf st)) sa (sb+nb);have og:∀ n,sa+k≤n→n < sb+m→∃ q,sa+k≤q∧q < sb+m∧Vk val (wb (sa+k) out.toList.zipIdx (arrOf st)) n=Vk val (arrOf st) q:=fun n h1 h2=>by
    have ho:n - (sa+k) < out.size:=by lia
    have rA:out[n - (sa+k)]? = some out[n - (sa+k)]:=getElem?_pos out _ ho;have qF:out[n - (sa+k)]∈((arrOf st).extract (sa+k) sb).toList++((arrOf st).extract sb (sb+m)).toList:=hG.1.mem_iff.mp #[M];have hv:Vk val (wb (sa+k) out.toList.zipIdx (arrOf st)) n=val out[n - (sa+k)]:=zG (by rw [pv,if_pos ⟨h1,h2⟩,rA]);rcases aR.mp qF with qF | qF
    ·obtain⟨q,q1,q2,q3⟩:=zde #[O] qF;exact⟨q,q1,#[O],by rw [hv,zG q3]⟩
    ·obtain⟨q,q1,q2,q3⟩:=zde #[O] qF;exact⟨q,#[O],q2,by rw [hv,zG q3]⟩
   have rG:∀ n,¬ (sa+k≤n∧n < sb+m)→Vk val (wb (sa+k) out.toList.zipIdx (arrOf st)) n=Vk val (arrOf st) n:=fun n hn=>zU (by rw [pv,if_neg hn])
   intro p q h1 h2 h3;by_cases hp:p < sa+k
   ·rw [rG p #[O]];by_cases hq:q < sa+k
    ·rw [rG q #[O]];exact sA p q h1 h2 #[O]
    ·have key:∀ q',sa+k≤q'→q' < sb+nb→Vk val (arrOf st) p≤Vk val (arrOf st) q':=fun q' a1 a2=>by
      by_cases rH:q' < sb
      ·exact sA p q' h1 #[O] #[O]
      ·exact bU (xv p h1 hp) (sB sb q' #[O] #[O] a2)
     by_cases rq:q < sb+m
     ·obtain⟨q',q1,q2,q3⟩:=og q #[O] rq;rw [q3];exact key q' q1 #[O]
     ·rw [rG q #[O]];exact key q #[O] h3
   ·by_cases oz:p < sb+m
    ·by_cases rq:q < sb+m
     ·have sW:p - (sa+k) < out.size:=by lia
      have rA:q - (sa+k) < out.size:=by lia
      rw [zG (p:=out[p - (sa+k)]) (by rw [pv,if_pos #[O]]; exact getElem?_pos out _ sW),zG (p:=out[q - (sa+k)]) (by rw [pv,if_pos #[O]]; exact getElem?_pos out _ rA)];by_cases hpq:p=q
      ·subst hpq;exact bX _
      ·have:=dH.mp hG.2 (p - (sa+k)) (q - (sa+k)) (by simpa using sW) (by simpa using rA) #[O];simpa using this
     ·obtain⟨p',p1,p2,p3⟩:=og p #[O] oz;rw [p3,rG q #[O]];by_cases qU:p' < sb
      ·exact bU (sA p' (sa+na - 1) #[O] #[O] #[O]) (uO q #[O] h3)
      ·exact sB p' q #[O] #[O] h3
    ·rw [rG p #[O],rG q #[O]];exact sB p q #[O] h2 h3
 have ma:∀ p∈((arrOf st).extract (sa+k) sb).toList,p∈a₀.toList:=fun p hp=>by
  obtain⟨q,q1,q2,q3⟩:=zde #[O] hp;obtain⟨p',e,m'⟩:=uj q #[O];rw [q3] at e;cases e;exact m'
 have mb:∀ p∈((arrOf st).extract sb (sb+m)).toList,p∈a₀.toList:=fun p hp=>by
  obtain⟨q,q1,q2,q3⟩:=zde #[O] hp;obtain⟨p',e,m'⟩:=uj q #[O];rw [q3] at e;cases e;exact m'
 have ss1:=zhu (val:=val) (xs:=arrOf st) (i:=sa+k) (j:=sb) #[O] (sA.sub #[O] #[O]);have ss2:=zhu (val:=val) (xs:=arrOf st) (i:=sb) (j:=sb+m) #[O] (sB.sub #[O] #[O]);by_cases hle:na - k≤m
 ·rw [if_pos hle];exact ak (ziw (a:=(arrOf st).extract (sa+k) sb) (b:=(arrOf st).extract sb (sb+m)) hC sV.kind ma mb ss1 ss2 #[O] #[O] hf hl fin)
 ·rw [if_neg hle];exact ak (zix (a:=(arrOf st).extract (sa+k) sb) (b:=(arrOf st).extract sb (sb+m)) hC sV.kind ma mb ss1 ss2 #[O] #[O] hf hl fin)
end
end Srt
end
section
namespace Srt
open PySem PyProof.Rows
def Runs (val:Keyed→Int) (xs:Array Keyed):List (Nat×Nat×Nat)→Nat→Nat→Prop
 | [],lo,hi=>lo=hi
 | (s,n,_) :: r,lo,hi=>s=lo∧1≤n∧SIn val xs lo (lo+n)∧Runs val xs r (lo+n) hi
section
variable {val:Keyed→Int}
theorem Runs.le {xs:Array Keyed}:∀ {p:List (Nat×Nat×Nat)} {lo hi:Nat},Runs val xs p lo hi→lo+p.length≤hi
 | [],lo,hi,h=>by
  have h:lo=hi:=h;simp only [c9];lia
 | (s,n,w) :: r,lo,hi,h=>by
  obtain⟨_,h1,_,h2⟩:=h;have:=h2.le;simp only [bq];lia
theorem Runs.append {xs:Array Keyed}:∀ {p q:List (Nat×Nat×Nat)} {lo hi:Nat},Runs val xs (p++q) lo hi↔∃ mid,Runs val xs p lo mid∧Runs val xs q mid hi
 | [],q,lo,hi=>⟨fun h=>⟨lo,rfl,h⟩,fun ⟨mid,h1,h2⟩=>by
   have h1:lo=mid:=h1;subst h1;exact h2⟩
 | (s,n,w) :: p,q,lo,hi=>by
  constructor
  ·rintro⟨h1,h2,h3,h4⟩;obtain⟨mid,h5,h6⟩:=Runs.append.mp h4;exact⟨mid,⟨h1,h2,h3,h5⟩,h6⟩
  ·rintro⟨mid,⟨h1,h2,h3,h5⟩,h6⟩;exact⟨h1,h2,h3,Runs.append.mpr ⟨mid,h5,h6⟩⟩
theorem Runs.keep {xs ys:Array Keyed}:∀ {p:List (Nat×Nat×Nat)} {lo hi:Nat},Runs val xs p lo hi→(∀ k,lo≤k→k < hi→ys[k]? = xs[k]?)→Runs val ys p lo hi
 | [],lo,hi,h,_=>h
 | (s,n,w) :: p,lo,hi,h,e=>by
  obtain⟨h1,h2,h3,h4⟩:=h;have:=h4.le;refine⟨h1,h2,fun i j a b c=>?_,h4.keep fun k a b=>e k #[O] b⟩;rw [zU (e i #[O] #[O]),zU (e j #[O] #[O])];exact h3 i j a b c
theorem zj5 {α:Type} (p q:List α) (x y v:α):((p++x :: y :: q).toArray.setIfInBounds p.length v).eraseIdxIfInBounds (p.length+1)=(p++v :: q).toArray:=by
 simp [Array.eraseIdxIfInBounds];rw [List.eraseIdx_append_of_length_le #[O],show p.length+1 - p.length=1 by lia];rfl
theorem zj6 {α:Type} (q:List α) (z:α) (f:α→α):(q++[z]).toArray.modify ((q++[z]).toArray.size - 1) f=(q++[f z]).toArray:=by
 apply Array.ext';simp;induction q with
 | nil=>rfl
 | cons a q ih =>
  show (a :: (q++[z])).modify (q.length+1) f=a :: (q++[f z]);rw [List.modify_succ_cons,ih]
theorem zhv {xs:Array Keyed} {p:List (Nat×Nat×Nat)} {n:Nat} (hl:p.length≤1) (hn:1≤n) (h:Runs val xs p 0 n):SIn val xs 0 n:=by
 match p,hl,h with
 | [],_,h =>
  have h:0=n:=h;lia
 | [(a,b,c)],_,h =>
  obtain⟨_,_,h3,h4⟩:=h;have h4:0+b=n:=h4;rw [← h4];exact h3
 | _ :: _ :: _,hl,_=>simp at hl
theorem ziA {α:Type} {p:List α} {j:Nat} (h:j+2≤p.length):∃ pre x y post,p=pre++x :: y :: post∧pre.length=j:=by
 refine⟨p.take j,p[j],p[j+1],p.drop (j+2),?_,by rw [aS]; lia⟩;have e1:=(bw j p).symm;rw [cB (show j < p.length by lia),cB (show j+1 < p.length by lia)] at e1;exact e1
end
section
variable {prog:Program} {w:World} {A:Around} {E:Value→Shared→Prop} {s:Shared} {a₀:Array Keyed} {κ:SortKind} {val:Keyed→Int}
theorem zfP {st:SortSt} {pre post:List (Nat×Nat×Nat)} {x y:Nat×Nat×Nat} {hi:Nat} {Q:Bool→SortSt→Prop} (hC:Cmp prog w A s κ val a₀) (hB:SB κ a₀ st) (hp:pendingOf st=(pre++x :: y :: post).toArray) (hR:Runs val (arrOf st) (pre++x :: y :: post) 0 hi) (uh:hi≤a₀.size)
  (h:∀ lZ v,SB κ a₀ lZ→pendingOf lZ=(pre++v :: post).toArray→(∀ k,hi≤k→(arrOf lZ)[k]? = (arrOf st)[k]?)→Runs val (arrOf lZ) (pre++v :: post) 0 hi→Q true lZ) :
  wpS (model prog w) A E s (mergeAt' pre.length) Q st:=by
 obtain⟨sa,na,pw⟩:=x;obtain⟨sb,nb,pw2⟩:=y;obtain⟨mid,r1,r2⟩:=Runs.append.mp hR;obtain⟨rfl,q1,q2,rfl,q4,q5,r3⟩:=r2;have hle:=r3.le;refine ziz (i:=pre.length) (sa:=sa) (na:=na) (pw:=pw) (sb:=sa+na) (nb:=nb) (pw2:=pw2) hC hB (by rw [hp]; simp) (by rw [hp]; simp) rfl q1 q4 #[O] q2 q5 fun lZ nA qU hk hs=>?_
 refine h lZ (sa,na+nb,pw) nA (by rw [qU,hp,zj5]) (fun k pL=>hk k #[O]) ?_;refine Runs.append.mpr ⟨sa,r1.keep fun k _ b=>hk k #[O],rfl,#[O],?_,?_⟩
 ·rw [← Nat.add_assoc];exact hs
 ·rw [← Nat.add_assoc];exact r3.keep fun k a b=>hk k #[O]
theorem zlf {n:Nat} {c:Prop} [Decidable c] (h:¬ n≤1):(if c then n - 2 - 1 else n - 2)+2≤n:=by
 by_cases hc:c
 ·rw [if_pos hc];lia
 ·rw [if_neg hc];lia
theorem zj7 {st:SortSt} {p:List (Nat×Nat×Nat)} {j hi:Nat} {Q:Bool→SortSt→Prop} (hj:j+2≤p.length) (hC:Cmp prog w A s κ val a₀) (hB:SB κ a₀ st) (hp:pendingOf st=p.toArray) (hR:Runs val (arrOf st) p 0 hi) (uh:hi≤a₀.size)
  (h:∀ lZ p',SB κ a₀ lZ→pendingOf lZ=p'.toArray→Runs val (arrOf lZ) p' 0 hi→p'.length+1=p.length→Q true lZ):wpS (model prog w) A E s (mergeAt' j) Q st:=by
 obtain⟨pre,x,y,post,rfl,rfl⟩:=ziA hj;exact zfP hC hB hp hR uh fun lZ v a b _ d=>h lZ _ a b d (by simp only [aF,bq]; lia)
theorem zmE {st:SortSt} {Q:Unit→SortSt→Prop} (hC:Cmp prog w A s κ val a₀) (hB:SB κ a₀ st) (hp:pendingOf st = #[]) (h2:1≤a₀.size)
  (h:∀ lZ,SB κ a₀ lZ→SIn val (arrOf lZ) 0 a₀.size→Q () lZ):wpS (model prog w) A E s sortRuns' Q st:=by
 rw [sortRuns'_eq];refine ak (fg ?_);dsimp only;rw [hB.size];generalize minRun' a₀.size a₀.size 0=mr;refine ak (dk (cH (I:=fun x c lZ=>∃ lo p,c=(none,lo)∧SB κ a₀ lZ∧pendingOf lZ=p.toArray∧Runs val (arrOf lZ) p 0 lo∧lo≤a₀.size∧min x a₀.size≤lo)
  (Q:=fun c lZ=>∃ p,c=(none,a₀.size)∧SB κ a₀ lZ∧pendingOf lZ=p.toArray∧Runs val (arrOf lZ) p 0 a₀.size) ?step ?fin ⟨0,[],rfl,hB,hp,rfl,#[O],#[O]⟩) ?post)
 case fin =>
  rintro c lZ ⟨lo,p,rfl,nA,qU,hR,oa,hx⟩;have:lo=a₀.size:=by lia
  subst this;exact⟨p,rfl,nA,qU,hR⟩
 case step =>
  rintro x c lZ _ hx ⟨lo,p,rfl,nA,qU,hR,oa,Bh⟩;dsimp only;by_cases oo:lo≥a₀.size
  ·rw [if_pos oo];have:lo=a₀.size:=by lia
   subst this;exact am ⟨p,rfl,nA,qU,hR⟩
  rw [if_neg oo];refine ak (zla hC #[O] #[O] (SF.refl nA) fun m pO hF1 sQ tS wA=>?_);dsimp only;apply znQ
  ·intro k1 k2;by_cases Bi:m < mr
   ·rw [if_pos Bi]
    (refine ak (gk (cU ⟨rfl,?_⟩)))
    refine ak (znl hC #[O] #[O] hF1 wA fun m6 uP qt=>?_);rw [if_neg #[D]];have tT:1≤min (a₀.size - lo) mr:=by lia
    have qX:lo+min (a₀.size - lo) mr≤a₀.size:=by lia
    generalize min (a₀.size - lo) mr=n at qt tT qX ⊢
    revert qX; revert tT; revert qt; revert uP; revert m6; revert n
    exact k1 ()
   ·rw [if_neg Bi];have qX:lo+m≤a₀.size:=by lia
    clear tS Bi
    revert qX; revert sQ; revert wA; revert hF1; revert pO; revert m
    exact k2 ()
  intro n m6 uP qt tT qX;refine ak (fg ?_);have qE:pendingOf m6=p.toArray:=uP.pend.trans qU;have wB:Runs val (arrOf m6) p 0 lo:=hR.keep fun k _ b=>uP.low k b
  rcases iX p with rfl | ⟨q,z,rfl⟩
  ·rw [qE];show wpS _ _ _ _ (do
    modify fun s=>setPending s ((pendingOf s).push (lo,n,0)); pure (cA (none,lo+n))) _ _
   refine ak (eG (am ⟨lo+n,[(lo,n,0)],rfl,⟨uP.b.perm,uP.b.kind,uP.b.failed⟩,?_,?_,#[O],#[O]⟩))
   ·show (pendingOf m6).push _=_;rw [qE];rfl
   ·have h0:0=lo:=wB;subst h0;exact⟨rfl,tT,qt,rfl⟩
  obtain⟨s1,n1,w1⟩:=z;rw [qE,fU,show ((q++[(s1,n1,w1)]).toArray).back? = some (s1,n1,w1) by simp];rw [fU] at qE wB;dsimp only;generalize power' a₀.size (2*s1+n1) (2*s1+n1+n1+n) a₀.size=pw;refine ak (dk (cH (I:=fun _ c lZ=>c=(none,())∧∃ q' z,SB κ a₀ lZ∧pendingOf lZ=(q'++[z]).toArray∧Runs val (arrOf lZ) (q'++[z]) 0 lo∧(∀ k,lo≤k→(arrOf lZ)[k]? = (arrOf m6)[k]?))
   (Q:=fun c lZ=>c=(none,())∧∃ q' z,SB κ a₀ lZ∧pendingOf lZ=(q'++[z]).toArray∧Runs val (arrOf lZ) (q'++[z]) 0 lo∧(∀ k,lo≤k→(arrOf lZ)[k]? = (arrOf m6)[k]?)) ?_ (fun _ _ hh=>hh) ⟨rfl,q,(s1,n1,w1),uP.b,qE,wB,fun _ _=>rfl⟩) ?_)
  ·rintro x2 c m6 _ xt ⟨rfl,q',z,qZ,oz,sX,pe⟩;refine ak (fg ?_);rcases iX q' with rfl | ⟨q2,y,rfl⟩
   ·rw [oz,if_neg #[M]];exact am ⟨rfl,[],z,qZ,oz,sX,pe⟩
   rw [fU,bf] at oz sX;have esz:(pendingOf m6).size - 2=q2.length:=by rw [oz]; simp
   have eel:(if (pendingOf m6).size > 1 then (pendingOf m6)[(pendingOf m6).size - 2]? else none)=some y:=by
    rw [if_pos (by rw [oz]; simp),esz,oz];simp
   rw [eel];obtain⟨y1,y2,y3⟩:=y;dsimp only;by_cases ho:y3≤pw
   ·rw [if_pos ho];exact am ⟨rfl,q2++[(y1,y2,y3)],z,qZ,by rw [oz,bf],by rw [bf]; exact sX,pe⟩
   ·rw [if_neg ho,esz];refine ak (zfP hC qZ oz sX #[O] fun t6 v Bj tW sU Bk=>?_);rw [if_neg #[D]];exact am ⟨rfl,q2,v,Bj,tW,Bk,fun k hk=>(sU k hk).trans (pe k hk)⟩
  ·rintro c m6 ⟨rfl,q',z,qZ,oz,sX,pe⟩;obtain⟨z1,z2,z3⟩:=z;dsimp only;refine ak (eG (ak (eG (am ⟨lo+n,q'++[(z1,z2,pw),(lo,n,0)],rfl,⟨qZ.perm,qZ.kind,qZ.failed⟩,?_,?_,#[O],#[O]⟩))))
   ·show ((pendingOf m6).modify ((pendingOf m6).size - 1) fun x=>(x.fst,x.2.fst,pw)).push (lo,n,0)=_;rw [oz,zj6];simp
   ·show Runs val (arrOf m6) _ _ _;obtain⟨mid,r1,r2⟩:=Runs.append.mp sX;obtain⟨e1,e2,e3,e4⟩:=r2;have e4:mid+z2=lo:=e4;refine Runs.append.mpr ⟨mid,r1,e1,e2,e3,e4.symm,tT,?_,?_⟩
    ·intro i j a1 a2 a3;rw [zU (pe i #[O]),zU (pe j #[O])];exact qt i j #[O] a2 #[O]
    ·show mid+z2+n=lo+n;lia
 case post =>
  rintro c pO ⟨p,rfl,sV,qE,wB⟩;dsimp only;have nu:=wB.le;refine ak (dk (cH (I:=fun x c lZ=>c=(none,())∧∃ p,SB κ a₀ lZ∧pendingOf lZ=p.toArray∧Runs val (arrOf lZ) p 0 a₀.size∧p.length≤max 1 (a₀.size - x))
   (Q:=fun c lZ=>c=(none,())∧SB κ a₀ lZ∧SIn val (arrOf lZ) 0 a₀.size) ?_ ?_ ⟨rfl,p,sV,qE,wB,#[O]⟩) ?_)
  ·rintro x c m6 _ hx ⟨rfl,p2,qZ,oz,sX,qT⟩;refine ak (fg ?_);have hsz:(pendingOf m6).size=p2.length:=by rw [oz]; simp
   rw [hsz];by_cases hle:p2.length≤1
   ·rw [if_pos hle];exact am ⟨rfl,qZ,zhv hle h2 sX⟩
   rw [if_neg hle];refine ak (zj7 (p:=p2) (zlf hle) hC qZ oz sX (ah _) fun t6 p3 Bj tW Bk hl3=>?_);rw [if_neg #[D]];exact am ⟨rfl,p3,Bj,tW,Bk,#[O]⟩
  ·rintro c m6 ⟨rfl,p2,qZ,oz,sX,qT⟩;exact⟨rfl,qZ,zhv #[O] h2 sX⟩
  ·rintro c m6 ⟨rfl,qZ,hS⟩;exact am (h m6 qZ hS)
end
end Srt
end
section
namespace Srt
open PySem PyProof.Rows
def num (B:Int):List Int→Int
 | []=>0
 | n :: r=>n*B ^ r.length+num B r
theorem num_rng {B:Int} (hB:1≤B):∀ {ns:List Int},(∀ n∈ns,0≤n∧n < B)→0≤num B ns∧num B ns < B ^ ns.length
 | [],_=>by simp [num]
 | n :: r,h=>by
  obtain⟨h1,h2⟩:=num_rng hB (ns:=r) fun m hm=>h m (ai _ hm)
  obtain⟨a,b⟩:=h n #[M];have hp:0 < B ^ r.length:=Int.pow_pos #[O];have e:B ^ (n :: r).length=B ^ r.length*B:=by rw [bq,Int.pow_succ]
  show 0≤n*B ^ r.length+num B r∧n*B ^ r.length+num B r < _;rw [e];have h3:0≤n*B ^ r.length:=Int.mul_nonneg a #[O];have h4:n*B ^ r.length≤(B - 1)*B ^ r.length:=db #[O] #[O];have h5:(B - 1)*B ^ r.length=B ^ r.length*B - B ^ r.length:=by rw [Int.sub_mul,Int.one_mul,jY]
  lia
def zfQ:List Int→List Int→Bool
 | [],[]=>false
 | [],_ :: _=>true
 | _ :: _,[]=>false
 | x :: xs,y :: ys=>if x=y then zfQ xs ys else decide (x < y)
theorem zbX (x y:Int) (xs ys:List Int):zfQ (x :: xs) (y :: ys)=if x=y then zfQ xs ys else decide (x < y):=rfl
theorem zhw {B:Int} (hB:1≤B):∀ {ms ns:List Int},ms.length=ns.length→(∀ n∈ms,0≤n∧n < B)→(∀ n∈ns,0≤n∧n < B)→zfQ ms ns=decide (num B ms < num B ns)
 | [],[],_,_,_=>by simp [zfQ,num]
 | [],_ :: _,h,_,_=>by simp at h
 | _ :: _,[],h,_,_=>by simp at h
 | m :: ms,n :: ns,hl,h1,h2=>by
  have t5:ms.length=ns.length:=by simpa using hl
  have ih:=zhw hB t5 (fun x hx=>h1 x (ai _ hx)) (fun x hx=>h2 x (ai _ hx));obtain⟨a1,a2⟩:=num_rng hB fun x hx=>h1 x (ai m hx)
  obtain⟨b1,b2⟩:=num_rng hB fun x hx=>h2 x (ai n hx)
  rw [zbX];show _=decide (m*B ^ ms.length+num B ms < n*B ^ ns.length+num B ns);rw [t5] at a2 ⊢;have hp:0 < B ^ ns.length:=Int.pow_pos #[O];by_cases e:m=n
  ·rw [if_pos e,ih,e];rw [c7];simp only [decide_eq_true_eq];lia
  ·rw [if_neg e,c7];simp only [decide_eq_true_eq];have key:∀ x y:Int,x < y→x*B ^ ns.length+B ^ ns.length≤y*B ^ ns.length:=fun x y hxy=>by
    have:=db (show x+1≤y by lia) (show 0≤B ^ ns.length by lia);rw [Int.add_mul,Int.one_mul] at this;exact this
   constructor
   ·intro h;have:=key m n h;lia
   ·intro h;rcases ko m n with h3 | h3 | h3
    ·exact h3
    ·exact absurd h3 e
    ·have:=key n m h3;lia
section
variable {prog:Program} {w:World} {A:Around} {E:Value→Shared→Prop} {s:Shared}
theorem zhx {Q:Bool→Shared→Prop} {fin:Bool}:∀ {xs ys:List Value} {ms ns:List Int} (i:Nat),IntsAre xs ms→IntsAre ys ns→ms.length=ns.length→Q (if ms=ns then fin else zfQ ms ns) s→PySem.W.KatLex prog w A true fin Q (xs.zip ys) i s
 | [],[],[],[],i,_,_,_,h=>PySem.W.kat_nil (by simpa using h)
 | _ :: _,_,[],_,_,hx,_,_,_=>by cases hx
 | [],_,_ :: _,_,_,hx,_,_,_=>by cases hx
 | _,[],_,_ :: _,_,_,hy,_,_=>by cases hy
 | _,_ :: _,_,[],_,_,hy,_,_=>by cases hy
 | x :: xs,y :: ys,m :: ms,n :: ns,i,hx,hy,hl,h=>by
  cases hx with
  | cons _ t hx =>
   cases hy with
   | cons _ u hy =>
    refine PySem.W.kat_cons (wpAny_eqBool_int ?_);by_cases e:m=n
    ·rw [show (m == n)=true by simpa using e];refine PySem.W.kat_yes (zhx (i+1) hx hy (by simpa using hl) ?_);subst e;rw [zbX,if_pos rfl] at h;simpa using h
    ·rw [show (m == n)=false by simpa using e];have mo:¬ (m :: ms=n :: ns):=fun z=>e (dU z).1
     rw [if_neg mo,zbX,if_neg e] at h;refine PySem.W.kat_no ?_;by_cases hi:i=0
     ·subst hi;exact oneLt_int h
     ·have hb:(true && i == 0)=false:=by simp [hi]
      rw [hb];exact PySem.W.kat_one _ _ (wpAny_lt_int h)
end
end Srt
end
section
namespace PySem
open PyProof.Rows
def zd4 (h:Heap) (d:Addr) (es:Array DictEntry) (ep:Nat):Prop:=∃ o,h.get? d=some o∧o.ExactDict∧o.data = .dict es ep
theorem zd4.at' {h h':Heap} {d:Addr} {es:Array DictEntry} {ep:Nat} (x:zd4 h d es ep) (e:∀ o,h.get? d=some o→h'.get? d=some o):zd4 h' d es ep:=let ⟨o,ho,r⟩:=x; ⟨o,e _ ho,r⟩
theorem zd4.typeIs {s:Shared} {d:Addr} {es:Array DictEntry} {ep:Nat} (x:zd4 s.heap d es ep):s.TypeIs (.ref d) "dict":=let ⟨o,ho,hc,_⟩:=x; ⟨o,ho,hc.1⟩
section
variable {prog:Program} {w:World} {A:Around} {E:Value→Shared→Prop} {s:Shared} {it d:Addr} {i ep:Nat} {es:Array DictEntry}
theorem zj8 {Q:Value→Shared→Prop} (hd:(d == sysModules)=false) (hm:zd4 s.heap d es ep) (hQ:Q (.ref s.heap.objs.size) { s with heap:=s.heap.push { cls:=.type "dict_keyiterator",data:=.fields #[.ref d,.int 0 0,.int es.size 0,.int ep 0] } }):wpAny (model prog w) A (pyIter (.ref d)) Q E s:=by
 have hT:=hm.typeIs;obtain⟨o,ho,hc,xA⟩:=id hm;refine fo hT kK (bW kK hT F.entry_dict_iter ?_ (F.args_dict_iter_1 _)); unfold Builtin.«dict.__iter__» Builtin.Dict.dictSlotNone;refine aa (aa (iY hT ?_)); show wpAny _ _ (pure (aK d)) _ _ s;refine af ?_; show wpAny _ _ (iZ d >>= _) _ _ s; unfold iZ;rw [if_neg (show ¬ ((d == sysModules)=true) by rw [hd]; decide)];refine aa (af (aa (fq ho xA (aa (iD ho xA (aa (bM (af ⟨_,rfl,"dict_keyiterator",_,⟨_,aB _ rfl,rfl⟩,F.slot_dict_keyiterator_next.lookup,?_⟩))))))));simpa [rawInt] using hQ
theorem zfR {e:DictEntry} {Q:Option Value→Shared→Prop} (hit:s.heap.IsKeyIter it d i es.size ep) (hm:zd4 s.heap d es ep) (he:es[i]? = some e)
  (hQ:∀ h',h'.IsKeyIter it d (i+1) es.size ep→cS it s.heap h'→Q (some e.key) { s with heap:=h' }):wpAny (model prog w) A (pyNext (.ref it)) Q E s:=by
 (obtain⟨o,ho,hc,hd⟩:=id hit)
 obtain⟨od,xB,oq,xC⟩:=id hm;have ml:i < es.size:=(cp.mp he).1;have vG:gn "dict_keyiterator" = false:=by decide +kernel
 unfold pyNext; refine aa (cW (cL (name:=bJ "__next__") hit.typeIs dm (bW dm hit.typeIs ge ?_ (f9 _))));refine aa (af (aa (aa (aa (dg hit.typeIs (af (aa (gp ho hd ?_))))))));simp only [vG,aC,if_false]; show wpAny _ _ (if (aK d == cj)=true then _ else _) _ _ s;rw [if_neg (show ¬ ((aK d == cj)=true) from fun z=>aM z)];refine aa (af (aa (fq xB xC ?_)));rw [if_neg (show ¬ ((((es.size:Nat):Int) != ((es.size:Nat):Int))=true) by simp)];refine aa (af (aa (iD xB xC ?_)));rw [if_neg #[M]]; refine af ?_;simp only [show ¬ ((i:Int) < 0) by lia,if_false,bC,he];refine aa (aa (dg hit.typeIs (af (aa (ja hit.typeIs ?_)))));show wpAny _ _ (setField (.ref it) 1 (rawInt ((i:Int)+1)) >>= _) _ _ s; refine aa (di ho hd #[M] ?_);have pV:(s.heap.update it (fJ (·.setIfInBounds 1 (rawInt ((i:Int)+1))))).IsKeyIter it d (i+1) es.size ep:=⟨_,bK _ ho (dB (ci hd _)),(fm ..).trans hc,by rw [ci hd]; simp [rawInt]⟩;refine aa (bD (aa (ja (s:={ s with heap:=s.heap.update it (fJ (·.setIfInBounds 1 (rawInt ((i:Int)+1)))) }) pV.typeIs ?_)));show wpAny _ _ (pure e.key) _ _ _; exact af (af ⟨_,rfl,af (hQ _ pV (be ..))⟩)
theorem zlg {Q:Option Value→Shared→Prop} (hh:A.handled=none) (hit:s.heap.IsKeyIter it d i es.size ep) (hm:zd4 s.heap d es ep) (he:es.size≤i) (hQ:∀ h',kx it s.heap h'→Q none { s with heap:=h' }):wpAny (model prog w) A (pyNext (.ref it)) Q E s:=by
 (obtain⟨o,ho,hc,hd⟩:=id hit)
 obtain⟨od,xB,oq,xC⟩:=id hm;have vG:gn "dict_keyiterator" = false:=by decide +kernel
 unfold pyNext; refine aa (cW (cL (name:=bJ "__next__") hit.typeIs dm (bW dm hit.typeIs ge ?_ (f9 _))));refine aa (af (aa (aa (aa (dg hit.typeIs (af (aa (gp ho hd ?_))))))));simp only [vG,aC,if_false]; show wpAny _ _ (if (aK d == cj)=true then _ else _) _ _ s;rw [if_neg (show ¬ ((aK d == cj)=true) from fun z=>aM z)];refine aa (af (aa (fq xB xC ?_)));rw [if_neg (show ¬ ((((es.size:Nat):Int) != ((es.size:Nat):Int))=true) by simp)];refine aa (af (aa (iD xB xC ?_)));rw [if_neg #[M]]; refine af ?_;simp only [show ¬ ((i:Int) < 0) by lia,if_false,bC,bY he];refine aa (aa (dg hit.typeIs (af ?_)));show wpAny _ _ (setField (.ref it) 0 .none >>= _) _ _ s; refine aa (di ho hd #[M] ?_);show wpAny _ _ (newExc (.type "StopIteration") [] >>= _) _ _ _; simp only [newExc,newTuple];refine aa (aa (bM (aa (m:=firstArgMember _ _) (dn (a:=cj) (by first | rfl | (simp only [firstArgMember]; rfl)) (bM ?_ (by size_fits)))) (by size_fits)));simp only [raiseNew]; refine aa (ju ?_); rw [show A.in1.handled=none from hh];refine aa (af (kz ?_)); refine aa (eF (T:="StopIteration") (b:=true) ⟨_,aB _ rfl,rfl⟩ iU ?_)
 (exact af (hQ _ (((be ..).extBut.push _).push _)))
end
end PySem
end
section
namespace Srt
open PySem PyProof.Rows
section
variable {prog:Program} {w:World} {A:Around} {E:Value→Shared→Prop} {s:Shared} {κ:SortKind} {val:Keyed→Int}
theorem zcP {vs:List Value} {p:Keyed} (h:p∈(pairsOf vs).toList):p.1∈vs∧p.2=p.1:=by
 rw [jb] at h;obtain⟨i,hi,e⟩:=dR h;rw [List.getElem_zip] at e;rw [← e];exact⟨fO _,rfl⟩
theorem zmF {vs:List Value} {xs:Array Keyed} (hp:xs.Perm (pairsOf vs)) (hs:SIn val xs 0 (pairsOf vs).size):(xs.map (·.2)).toList.Perm vs∧(xs.map (·.2)).toList.Pairwise fun x y=>val (x,x)≤val (y,y):=by
 (have hl:xs.toList.Perm (vs.zip vs):=by rw [← jb]; exact eK.mp hp)
 have hm:∀ p∈xs.toList,p=(p.2,p.2):=fun p qU=>by
  have:=zcP (by rw [jb]; exact hl.mem_iff.mp qU);exact kL this.2.symm rfl
 constructor
 ·rw [ic];refine (hl.map (·.2)).trans ?_;rw [show (vs.zip vs).map (·.2)=vs from List.map_snd_zip (ah _)]
 ·rw [ic,bF,dH];intro i j hi hj o2
  (have mY:i < xs.size:=by simpa using hi)
  (have nN:j < xs.size:=by simpa using hj)
  have h1:=hs i j (bi _) #[O] (by rw [← hp.size_eq]; exact nN);rw [zG (getElem?_pos xs i mY),zG (getElem?_pos xs j nN)] at h1;have e1:=hm xs.toList[i] (fO _);have e2:=hm xs.toList[j] (fO _);rw [← e1,← e2];simpa using h1
theorem ziB {a:Addr} {vs:List Value} {n:Nat} {P:PySem.Fin→Shared→Prop} (ho:s.heap.get? a=some (seqObj "list" vs.toArray n)) (mi:vs.length≤sizeLine)
  (ot:∀ h',(∀ b o,b≠a→s.heap.get? b=some o→h'.get? b=some o)→2≤vs.length→∀ (Q:SortKind→Shared→Prop) (E:Value→Shared→Prop),Q κ { s with heap:=h' }→wpAny (model prog w) A (keyKind' vs.toArray) Q E { s with heap:=h' })
  (vH:∀ h',(∀ b o,b≠a→s.heap.get? b=some o→h'.get? b=some o)→Cmp prog w A { s with heap:=h' } κ val (pairsOf vs))
  (h:∀ out:Array Value,out.toList.Perm vs→(out.toList.Pairwise fun x y=>val (x,x)≤val (y,y))→P (.done (.ret .none)) { s with heap:=sortedHeap s.heap a vs out }):wpAny (model prog w) A (Builtin.«list.sort» ⟨[.ref a],[]⟩) P E s:=by
 rw [list_sort_plain]
 (have ha:a < s.heap.objs.size:=av ho)
 have hz:vs.toArray.size=vs.length:=aq;refine aa (listItems_at ho rfl (aa (jv ho rfl ?_ (hsz:=by rw [hz]; exact mi))))
 (obtain⟨e1,sW⟩:∃ e1,(s.heap.update a (bS fun _=>#[])).get? a=some (seqObj "list" #[] e1):=⟨_,iE ho (fun _=>#[])⟩)
 refine aa (kA sW rfl (aa (wpAny_newTuple (aa (jw (bD ?_))) (hsz:=mi))));have yR:(((s.heap.update a (bS fun _=>#[])).push (seqObj "tuple" vs.toArray 0)).push (seqObj "list" #[] 0)).get? a=some (seqObj "list" #[] e1):=aj _ (aj _ sW);have hk6:∀ b o,b≠a→s.heap.get? b=some o→(((s.heap.update a (bS fun _=>#[])).push (seqObj "tuple" vs.toArray 0)).push (seqObj "list" #[] 0)).get? b=some o:=fun b o hb e=>aj _ (aj _ ((jE _ _ _ _ hb).trans e))
 (show wpAny (model prog w) A _ P E { s with heap:=((s.heap.update a (bS fun _=>#[])).push (seqObj "tuple" vs.toArray 0)).push (seqObj "list" #[] 0) })
 dsimp only;have hcm:=vH _ hk6;have fin:∀ lZ:SortSt,SB κ (pairsOf vs) lZ∨(arrOf lZ=pairsOf vs∧failedOf lZ=none)→SIn val (arrOf lZ) 0 (pairsOf vs).size →
   P (.done (.ret .none)) { s with heap:=sortedHeap s.heap a vs ((arrOf lZ).map (·.2)) }:=fun lZ hB hs=>by
  have hp:(arrOf lZ).Perm (pairsOf vs):=by
   rcases hB with hB | hB
   ·exact hB.perm
   ·rw [hB.1]
  obtain⟨b1,b2⟩:=zmF hp hs;exact h _ b1 b2
 (by_cases h2:vs.toArray.size < 2)
 ·rw [if_pos h2,if_pos h2];refine aa (af ?_); rw [StateT.run_pure]; refine aa (af ?_);dsimp only;refine aa (kA yR rfl (aa (jv yR rfl ?_ (hsz2:=by rw [ly]; show (pairsOf vs).size≤_; rw [ie]; lia))))
  (simp only [bne_self_eq_false,aC,if_false])
  refine af (fin (k6 general' (vs.toArray.zip vs.toArray) #[] 7 none) (.inr ⟨rfl,rfl⟩) fun i j _ o2 hj=>?_);have e:i=j:=by rw [ie] at hj; lia
  rw [e];exact bX _
 ·rw [if_neg h2,if_neg h2];refine aa (ot _ hk6 #[O] _ _ ?_);refine aa (bE (zmE (a₀:=pairsOf vs) (κ:=κ) (val:=val) (st:=k6 κ (vs.toArray.zip vs.toArray) #[] 7 none) (Q:=fun _ lZ=>SB κ (pairsOf vs) lZ∧SIn val (arrOf lZ) 0 (pairsOf vs).size)
   hcm ⟨Array.Perm.refl _,rfl,rfl⟩ rfl (by rw [ie]; lia) fun lZ a1 a2=>⟨a1,a2⟩) ?_ fun _ _ e=>e)
  rintro⟨⟨⟩,lZ⟩ s' ⟨rfl,hB,hs⟩;dsimp only;refine aa (kA yR rfl (aa (jv yR rfl ?_ (hsz2:=bg (Nat.le_of_eq ((ly ..).trans (hB.perm.size_eq.trans (ie _)))) #[O]))));rw [hB.failed]
  (simp only [bne_self_eq_false,aC,if_false])
  exact af (fin lZ (.inl hB) hs)
theorem zex {v:Value} {vs:List Value} {Q:Value→Shared→Prop} (mi:vs.length≤sizeLine)
  (Bl:∀ R:List Value→Shared→Prop,(∀ (h':Heap) (tk:Nat),(∀ b o,s.heap.get? b=some o→h'.get? b=some o)→R vs { s with heap:=h',toks:=tk })→wpAny (model prog w) A.in1 (collect v) R E s)
  (ot:∀ s',(∀ b o,s.heap.get? b=some o→s'.heap.get? b=some o)→2≤vs.length→∀ (A':Around) (Q:SortKind→Shared→Prop) (E:Value→Shared→Prop),Q κ s'→wpAny (model prog w) A' (keyKind' vs.toArray) Q E s')
  (vH:∀ s' A',(∀ b o,s.heap.get? b=some o→s'.heap.get? b=some o)→Cmp prog w A' s' κ val (pairsOf vs))
  (h:∀ (h':Heap) (tk:Nat) (out:Array Value) (e:Nat) (D:Addr),(∀ b o,s.heap.get? b=some o→h'.get? b=some o)→(∀ b o,s.heap.get? b=some o→b < D)→h'.get? D=some (seqObj "list" out e)→out.toList.Perm vs→(out.toList.Pairwise fun x y=>val (x,x)≤val (y,y))→Q (.ref D) { s with heap:=h',toks:=tk }) :
  wpAny (model prog w) A (call (.builtin "sorted") [v]) Q E s:=by
 refine Calls.call_function_entry kind_sorted plain_sorted entry_sorted (args_sorted1 _) ?_; unfold Builtin.«sorted»;refine aa (m:=checkCount "sorted" 1 1 _) (af (aa (bE (Bl (fun us s'=>us=vs∧∃ (h':Heap) (tk:Nat),s' = { s with heap:=h',toks:=tk }∧∀ b o,s.heap.get? b=some o→h'.get? b=some o) fun h' tk k=>⟨rfl,h',tk,rfl,k⟩) ?_ fun _ _ e=>e)));rintro us s' ⟨rfl,h1,tk,rfl,kk⟩;refine aa (jw ?_ (hsz:=mi));have we:(h1.push (seqObj "list" us.toArray 0)).get? h1.objs.size=some (seqObj "list" us.toArray 0):=aB _ rfl;have kn:∀ b o,s.heap.get? b=some o→b≠h1.objs.size:=fun b o e=>aL (av (kk b o e))
 refine aa (bD (bW slot_list_sort ⟨_,we,rfl⟩ entry_list_sort (ziB (κ:=κ) (val:=val) we mi (fun h' hk h2 Q E hq=>ot _ (fun b o e=>hk b o (kn b o e) (aj _ (kk b o e))) h2 _ Q E hq) (fun h' hk=>vH _ _ fun b o e=>hk b o (kn b o e) (aj _ (kk b o e))) fun out a1 a2=>⟨_,rfl,?_⟩) (args_list_sort _)));obtain⟨e,he⟩:=sortedHeap_at (out:=out) we;refine af ⟨_,rfl,h _ tk out e h1.objs.size (fun b o x=>?_) (fun b o x=>av (kk _ _ x)) he a1 a2⟩;rw [sortedHeap_old (kn b o x) (by rw [bP]; exact cN (av (kk _ _ x)))];exact aj _ (kk _ _ x)
end
end Srt
end
section
namespace L2
open PySem PySem.Spec PyProof.Rows PySem.Builtin.Str
theorem Inv.above {X:Cx} {lX:List (Addr×Obj)} {σ:St} {H:Hp} {s:Shared} {h':Heap} {tk:Nat} {D:Addr} {o:HO} (I:Inv X lX σ H s) (k:∀ b o,s.heap.get? b=some o→h'.get? b=some o) (hD:∀ b o,s.heap.get? b=some o→b < D)
  (new:zO X.prog X.w (l7 H D o) h' D o):H D=none∧Inv X lX σ (l7 H D o) { s with heap:=h',toks:=tk }:=by
 have hn:H D=none:=by
  cases e:H D with
  | none=>rfl
  | some u =>
   obtain⟨ob,z⟩:=zjN (I.hok D u e);exact absurd (hD D ob z) (cn _)
 have hL:X.env.locals < D:=by
  obtain⟨m,⟨o,es,ep,ho,_⟩,_⟩:=I.loc;exact hD _ _ ho
 have I1:Inv X lX σ H { s with heap:=h',toks:=tk }:=I.kept k;refine⟨hn,I1.track hn (fW (jZ I.ok.above hL)) (aL hL) (fun x c e z=>?_) (fun p hp z=>?_) new⟩
 ·obtain⟨v,oc,q,_⟩:=I.cell x c e;exact absurd (hD c oc q) (by rw [z]; exact cn _)
 ·exact absurd (hD p.1 _ (I.pin p hp).1) (by rw [z]; exact cn _)
end L2
end
section
namespace L2
open PySem PySem.Spec PyProof.Rows Srt
def zj9 (xs:List V):List Int:=xs.filterMap fun x=>match x with
 | .int n=>some n
 | _=>none
theorem ziC (ns:List Int):zj9 (ns.map V.int)=ns:=by
 unfold zj9;rw [gF];induction ns with
 | nil=>rfl
 | cons n ns ih =>
  rw [bZ];simp only [lG];rw [ih]
def zb8 (H:Hp) (v:Value):List Int:=match v with
 | .ref a=>(match H a with
  | some (.tup xs)=>zj9 xs
  | _=>[])
 | _=>[]
theorem zdG {H:Hp} {a:Addr} {ns:List Int} (h:H a=some (.tup (ns.map V.int))):zb8 H (.ref a)=ns:=by
 unfold zb8;simp only [h];exact ziC ns
def zd5 (H:Hp) (k:Nat) (B:Int) (ps:List (Addr×List Int)):Prop:=∀ q∈ps,H q.1=some (.tup (q.2.map V.int))∧q.2.length=k∧∀ n∈q.2,0≤n∧n < B
theorem zcQ:∀ {ps:List (Addr×List Int)} {us:List Value},zA (ps.map fun q=>V.ref q.1) us→us=ps.map fun q=>aK q.1
 | [],_,r=>by cases r; rfl
 | q :: ps,_,r=>by
  cases r with
  | cons r1 r2 =>
   cases r1;rw [zcQ r2];rfl
theorem zbB:∀ (ps:List (Addr×List Int)),zA (ps.map fun q=>V.ref q.1) (ps.map fun q=>aK q.1)
 | []=>.nil
 | q :: ps=>.cons rfl (zbB ps)
section
variable {X:Cx} {lX:List (Addr×Obj)} {σ:St} {H:Hp} {s:Shared} {k:Nat} {B:Int} {ps:List (Addr×List Int)}
theorem ze1 (I:Inv X lX σ H s) {q:Addr×List Int} (h:H q.1=some (.tup (q.2.map V.int))):∃ o lY n,s.heap.get? q.1=some o∧o.cls = .type "tuple"∧o.data = .seq lY n∧IntsAre lY.toList q.2:=by
 obtain⟨lY,r,⟨o,ho,hc,n,hd⟩,hz⟩:=I.tuple (mj.of h);exact⟨o,lY.toArray,n,ho,hc,hd,by simpa using intsAre_of r⟩
theorem zka (I:Inv X lX σ H s) (hT:zd5 H k B ps) (hk:1≤k) {s':Shared} (kk:∀ b o,s.heap.get? b=some o→s'.heap.get? b=some o):∃ fs:List Value,PySem.W.KatTups s'.heap (ps.map fun q=>aK q.1) fs∧fs.length=ps.length∧∀ v∈fs,∃ n t,v=du n t:=by
 induction ps with
 | nil=>exact⟨[],trivial,rfl,fun v hv=>by cases hv⟩
 | cons q ps ih =>
  obtain⟨fs,h1,h2,h3⟩:=ih fun q' rH=>hT q' (ai _ rH)
  obtain⟨hq,hl,_⟩:=hT q #[M];obtain⟨o,lY,n,ho,hc,hd,hi⟩:=ze1 I hq;have mi:=hi.length;obtain⟨m,ms,e⟩:∃ m ms,q.2=m :: ms:=by
   cases e:q.2 with
   | nil=>rw [e] at hl; simp at hl; lia
   | cons m ms=>exact⟨m,ms,rfl⟩
  rw [e] at hi;cases e2:lY.toList with
  | nil=>rw [e2] at hi; cases hi
  | cons f fr =>
   rw [e2] at hi;cases hi with
   | cons _ t hi =>
    refine⟨.int m t :: fs,lW (kk _ _ ho) hc hd ?_ h1,by simp [h2],fun v hv=>?_⟩
    ·rw [← aV,e2];rfl
    ·rcases (au.mp hv) with rfl | hv
     ·exact⟨m,t,rfl⟩
     ·exact h3 v hv
theorem zey:∀ ms:List Int,zfQ ms ms=false
 | []=>rfl
 | m :: ms=>by rw [zbX,if_pos rfl,zey ms]
theorem zkb (I:Inv X lX σ H s) (hT:zd5 H k B ps) (hB:1≤B) {s':Shared} {A':Around} (kk:∀ b o,s.heap.get? b=some o→s'.heap.get? b=some o) :
  Cmp X.prog X.w A' s' (tuples' true) (fun p=>num B (zb8 H p.1)) (pairsOf (ps.map fun q=>aK q.1)):=by
 intro x y hx hy Q E hQ;obtain⟨qx,mx,ex⟩:=aG.mp (zcP hx).1;obtain⟨qy,my,ey⟩:=aG.mp (zcP hy).1;obtain⟨yQ,xt,hx3⟩:=hT qx mx;obtain⟨hy1,wC,hy3⟩:=hT qy my;obtain⟨ox,ix,nx,gx,cx,dx,ax⟩:=ze1 I yQ;obtain⟨oy,iy,ny,gy,cy,dy,ay⟩:=ze1 I hy1;have ev:decide ((fun p:Keyed=>num B (zb8 H p.1)) x < (fun p:Keyed=>num B (zb8 H p.1)) y)=zfQ qx.2 qy.2:=by
  rw [zhw hB (xt.trans wC.symm) hx3 hy3,← zdG yQ,← zdG hy1];simp only [ex,ey]
 rw [ev] at hQ;rw [← ex,← ey];refine PySem.W.kat_lt (kk _ _ gx) dx (kk _ _ gy) dy (zhx 0 ax ay (xt.trans wC.symm) ?_);have hsz:decide (ix.size < iy.size)=false:=by
  have e1:=ax.length;have e2:=ay.length;rw [aH] at e1 e2;exact decide_eq_false #[O]
 rw [hsz];by_cases e:qx.2=qy.2
 ·rw [if_pos e];rw [e,zey] at hQ;exact hQ
 ·rw [if_neg e];exact hQ
theorem zfS (hT:zd5 H k B ps) {out:Array Value} (hp:out.toList.Perm (ps.map fun q=>aK q.1)) (hs:out.toList.Pairwise fun x y=>num B (zb8 H x)≤num B (zb8 H y)) :
  ∃ mT:List (Addr×List Int),mT.Perm ps∧(mT.Pairwise fun a b=>num B a.2≤num B b.2)∧out.toList=mT.map fun q=>aK q.1:=by
 let g:Value→Addr×List Int:=fun v=>match v with
  | .ref a=>(a,zb8 H (.ref a))
  | _=>(0,[])
 have hg:∀ q∈ps,g (.ref q.1)=q:=fun q hq=>kL rfl (zdG (hT q hq).1)
 have hv:∀ v∈out.toList,∃ q∈ps,v = .ref q.1:=fun v hv=>by
  obtain⟨q,hq,e⟩:=aG.mp (hp.mem_iff.mp hv);exact⟨q,hq,e.symm⟩
 refine⟨out.toList.map g,?_,?_,?_⟩
 ·refine (hp.map g).trans ?_;rw [br];have:ps.map (g ∘ fun q=>aK q.1)=ps:=by
   conv=>rhs; rw [← gu ps]
   exact cz fun q hq=>hg q hq
  rw [this]
 ·rw [bF];refine cb (fun {x y} hx hy h=>?_) hs;obtain⟨q,hq,rfl⟩:=hv x hx;obtain⟨q',rH,rfl⟩:=hv y hy;exact h
 ·rw [br]
  conv=>lhs; rw [← gu out.toList]
  refine cz fun v hv'=>?_
  obtain⟨q,hq,rfl⟩:=hv v hv';rfl
end
theorem zez {M:Model} {h:Heap} {n:Int} {t:Tok}:fK M h (typeOf (.int n t)) (.type "int"):=PySem.W.Looks.of_pure rfl
theorem ze2 {X:Cx}:za1 X (.builtin "sorted") (fun xs H Q=>∃ (p:Addr) (k:Nat) (B:Int) (ps:List (Addr×List Int)),xs = [.ref p]∧l8 X.K H p (ps.map fun q=>V.ref q.1)∧zd5 H k B ps∧1≤k∧1≤B ∧
  ∀ (l:Addr) (mT:List (Addr×List Int)),H l=none→mT.Perm ps→(mT.Pairwise fun a b=>num B a.2≤num B b.2)→Q (.ref l) (l7 H l (.lst (mT.map fun q=>V.ref q.1)))):=by
 intro lX s σ H xs us Q I r h;obtain⟨p,k,B,ps,rfl,hq,hT,hk,hB,q⟩:=h;obtain⟨u,rfl,rx⟩:=vals1 r;cases rx;obtain⟨lY,rv,pl,hz⟩:=I.list hq;have ev:=zcQ rv;subst ev;rw [ae] at hz;refine zex (vs:=ps.map fun q=>aK q.1) (κ:=tuples' true) (val:=fun p=>num B (zb8 H p.1)) (by rw [ae]; exact hz) (fun R hR=>?_) (fun s' kk h2 A' Q' E' rH=>?_) (fun s' A' kk=>zkb I hT hB kk) fun h' tk out e D kk hD vI hp hs=>?_
 ·exact collect_list pl.isList (hR _ _ fun b o e=>(jE _ _ _ _ (aL (av e))).trans (aj _ e)) (by rw [ae]; exact hz)
 ·obtain⟨fs,k1,k2,k3⟩:=zka I hT hk kk;exact kM (T:=.type "int") k1 (by rw [ae] at h2; lia) (fun v hv=>by obtain⟨n,t,rfl⟩:=k3 v hv; exact zez) rfl rH
 ·obtain⟨mT,p1,p2,p3⟩:=zfS hT hp hs;have hl:=p1.length_eq;obtain⟨hn,I2⟩:=I.above (tk:=tk) (D:=D) (o:=.lst (mT.map fun q=>V.ref q.1)) kk hD ⟨by rw [ae]; lia,mT.map fun q=>aK q.1,e,zbB mT,by rw [← p3]; exact vI⟩;exact⟨.ref D,_,I2,rfl,q D mT hn p1 p2⟩
end L2
end
section
namespace L2
open PySem PySem.Spec PyProof.Rows
section
variable {X:Cx} {elt t1 i1 t2 i2:Expr} {f1 f2:List Expr} {scope:Scope} {pos:Pos} {N':List Str} {ix:List (Option Nat)} {Bm wD:List Nat} {g1 g2:TG} {ts1 qp:TT} {te:TE} {wi1 yS:TI}
theorem zmG (hc:X.calm=true) (Bn:GS wD g2) (Bo:∀ s₃ H₃ ex lX,PI (zB X N' scope s₃ H₃ ex lX) t2 i2 yS)
  (Bp:∀ s₃ H₃ ex lX,PG (zB X N' scope s₃ H₃ ex lX) t2 g2) (Bq:∀ s₃ H₃ ex lX,zc4 (zB X N' scope s₃ H₃ ex lX) f2 qp) (he:∀ s₃ H₃ ex lX,PE (zB X N' scope s₃ H₃ ex lX) elt te)
  (qt:∀ s₃ H₃ ex lX x,foldedSetIterable i2 (zB X N' scope s₃ H₃ ex lX).env x=pure x) :
  ∀ s₃ H₃ ex lX D,PM (zB X N' scope s₃ H₃ ex lX) D wD ((fun D env=>zhf (.ListComp elt [⟨t1,i1,f1,0⟩,⟨t2,i2,f2,0⟩] scope pos) i2 1 (.ref D) env) D (zB X N' scope s₃ H₃ ex lX).env) (zju yS g2 qp (zjt te)):=by
 intro s₃ H₃ ex lX D;have h:=zmn (Y:=zB X N' scope s₃ H₃ ex lX) (D:=D) (js:=wD) (js':=[]) (elt:=elt) (gens:=[⟨t1,i1,f1,0⟩,⟨t2,i2,f2,0⟩]) (scope:=scope) (pos:=pos) (d:=1) (p:=i2.pos) hc rfl Bn (fun _ _ z=>by cases z) (Bo s₃ H₃ ex lX) (Bp s₃ H₃ ex lX) (Bq s₃ H₃ ex lX) (zgs rfl (he s₃ H₃ ex lX)) rfl (fun it=>zmp it D _) (qt s₃ H₃ ex lX);rw [cQ] at h;exact h
theorem zgF {i:Nat} {x:Str} {pos' nI:Pos} (hN:X.N.Nodup) (tQ:X.N[i]? = some x) (hx:Loc X.env.scope x) (SC:CompSc X N' ix scope) (hc:X.calm=true) (gs1:GS Bm g1) (Bn:GS wD g2) (ou:∀ j∈Bm,j∉wD) (ud:∀ j∈Bm++wD,ix[j]? = some none) (hi1:PI X t1 i1 wi1)
  (wF:∀ s₃ H₃ ex lX,PG (zB X N' scope s₃ H₃ ex lX) t1 g1) (ht1:∀ s₃ H₃ ex lX,zc4 (zB X N' scope s₃ H₃ ex lX) f1 ts1) (Bo:∀ s₃ H₃ ex lX,PI (zB X N' scope s₃ H₃ ex lX) t2 i2 yS)
  (Bp:∀ s₃ H₃ ex lX,PG (zB X N' scope s₃ H₃ ex lX) t2 g2) (Bq:∀ s₃ H₃ ex lX,zc4 (zB X N' scope s₃ H₃ ex lX) f2 qp) (he:∀ s₃ H₃ ex lX,PE (zB X N' scope s₃ H₃ ex lX) elt te)
  (xh:swapsWith (.ListComp elt [⟨t1,i1,f1,0⟩,⟨t2,i2,f2,0⟩] scope pos) (some (.Name x pos')) nI.line X.env=pure true:=by rfl)
  (hs:∀ x,foldedSetIterable i1 X.env x=pure x:=by intro _; rfl) (qt:∀ s₃ H₃ ex lX x,foldedSetIterable i2 (zB X N' scope s₃ H₃ ex lX).env x=pure x:=by intros; rfl) (hf:X.fn x=true∨X.env.scope.names.lookup x=some .local:=by first | exact .inl rfl | exact .inr rfl | assumption) :
  PS X (.Assign [.Name x pos'] (.ListComp elt [⟨t1,i1,f1,0⟩,⟨t2,i2,f2,0⟩] scope pos) nI) (zdY (zgr ix wi1 g1 ts1 (zju yS g2 qp (zjt te))) (zaB i)) :=
 zcX hN tQ hx SC hc gs1 ou ud hi1 wF ht1 (zmG hc Bn Bo Bp Bq he qt) (fun it D env=>zmo it D env) xh hs hf
end
theorem zlZ {J:It} {n:Nat} {g:TG} {ts:TT} {tm:TM} {σ0:St} {Q:List V→Hp→Prop} {ys:List V} {H:Hp} (Pv:Nat→List V→Hp→Prop) (h0:Pv 0 ys H) (ua:∀ i ys H,i < n→Pv i ys H→J.go i H) (n9:∀ ys H,Pv n ys H→J.stop n H)
  (hs:∀ i x ys H H',i < n→Pv i ys H→J.yld i H x H'→g x σ0 H' fun σ2 H2=>ts σ2 H2 fun b H3=>if b=true then tm ys σ2 H3 (Pv (i+1)) else Pv (i+1) ys H3)
  (hd:∀ ys H,Pv n ys H→Q ys H):cIn g ts tm σ0 J Q ys H:=by
 refine⟨fun i m ys H=>m=n - i∧i≤n∧Pv i ys H,⟨n,#[M],bi _,h0⟩,?_⟩;rintro i m ys H ⟨rfl,hi,p⟩;by_cases ml:i < n
 ·exact .inr ⟨ua i ys H ml p,Pv (i+1),fun pS H' p'=>⟨n - (i+1),#[O],rfl,ml,p'⟩,fun x H' y=>hs i x ys H H' ml p y⟩
 ·have e:i=n:=by lia
  subst e;exact .inl ⟨n9 ys H p,hd ys H p⟩
def zmH (sc:Scope) (x:Str):Bool:=match sc.names.lookup x with
 | some .local=>true
 | some .cell=>true
 | some .free=>true
 | _=>false
theorem zlh {sc:Scope} {x:Str} (h:zmH sc x=true):Vis sc x:=by
 unfold zmH at h;unfold Vis;cases e:sc.names.lookup x with
 | none=>rw [e] at h; cases h
 | some k=>cases k <;> simp_all
def pvB (N:List Str) (sc:Scope) (i:Nat) (x:Str):Bool:=decide (N[i]? = some x) && zmH sc x && !(x == ("__debug__" : Str)) && !(x == ("__classdict__" : Str))
theorem pvx {X:Cx} (i:Nat) {x:Str} {pos:Pos} (h:pvB X.N X.env.scope i x=true):PE X (.Name x pos) (zm2 i):=by
 unfold pvB at h;simp only [cG,ki,decide_eq_true_eq] at h;exact zl9 h.1.1.1 (zlh h.1.1.2) h.1.2 h.2
end L2
end
section
namespace My
open PySem L2 PyProof.Rows
def nxt {α:Type} (xs:List α) (c:Nat×List α):List (Nat×List α):=(ba (xs.length - c.1)).map fun j=>(c.1+j+1,c.2++xs[c.1+j]?.toList)
def chs {α:Type} (xs:List α):Nat→List (Nat×List α)
 | 0=>[(0,[])]
 | m+1=>(chs xs m).flatMap (nxt xs)
theorem ze3 {α:Type} (xs:List α) (c:Nat×List α):(nxt xs c).length=xs.length - c.1:=by unfold nxt; rw [ae,df]
theorem zli {α:Type} {xs:List α} {c:Nat×List α} {j:Nat} {x:α} (h:xs[c.1+j]? = some x):(nxt xs c)[j]? = some (c.1+j+1,c.2++[x]):=by
 have hj:j < xs.length - c.1:=by
  have:=(aT.mp h).1;lia
 unfold nxt;rw [az,jF hj];simp [h]
theorem zhy:∀ r:Nat,((ba r).map fun j=>2 ^ (r - j - 1)).sum+1=2 ^ r
 | 0=>rfl
 | r+1=>by
  rw [fC,aP,eL,br];have e:((ba r).map ((fun j=>2 ^ (r+1 - j - 1)) ∘ Nat.succ))=(ba r).map fun j=>2 ^ (r - j - 1):=cz fun j _=>by
   show 2 ^ (r+1 - (j+1) - 1)=2 ^ (r - j - 1);congr 1;lia
  rw [e];have:=zhy r;rw [eu];show 2 ^ (r+1 - 0 - 1)+_+1=_;rw [show r+1 - 0 - 1=r from by lia];lia
def pot {α:Type} (n:Nat) (cs:List (Nat×List α)):Nat:=(cs.map fun c=>2 ^ (n - c.1)).sum
theorem zlj {α:Type} (xs:List α) (c:Nat×List α):pot xs.length (nxt xs c)≤2 ^ (xs.length - c.1):=by
 unfold pot nxt;rw [br];have e:((ba (xs.length - c.1)).map ((fun c:Nat×List α=>2 ^ (xs.length - c.1)) ∘ fun j=>(c.1+j+1,c.2++xs[c.1+j]?.toList)))=(ba (xs.length - c.1)).map fun j=>2 ^ (xs.length - c.1 - j - 1):=cz fun j _=>by
  show 2 ^ (xs.length - (c.1+j+1))=_;congr 1;lia
 rw [e];have:=zhy (xs.length - c.1);lia
theorem zfT {α:Type} (xs:List α):∀ cs:List (Nat×List α),pot xs.length (cs.flatMap (nxt xs))≤pot xs.length cs
 | []=>ah _
 | c :: cs=>by
  have h1:=zlj xs c;have h2:=zfT xs cs;rw [fu];unfold pot at h1 h2 ⊢;rw [aN,k7,aP,eL];lia
theorem zhz {α:Type} (n:Nat):∀ cs:List (Nat×List α),cs.length≤pot n cs
 | []=>ah _
 | c :: cs=>by
  have h:=zhz n cs;have:0 < 2 ^ (n - c.1):=Nat.pos_of_ne_zero #[M];unfold pot at h ⊢;rw [aP,eL,bq];lia
theorem zhA {α:Type} (xs:List α):∀ m,pot xs.length (chs xs m)≤2 ^ xs.length
 | 0=>by
  unfold chs pot;simp
 | m+1=>bg (zfT xs (chs xs m)) (zhA xs m)
theorem zlk {α:Type} (xs:List α) (m:Nat):(chs xs m).length≤2 ^ xs.length:=bg (zhz _ _) (zhA xs m)
theorem zcR {α:Type} {xs:List α} (m:Nat) (h:xs.length≤16):(chs xs m).length≤65536:=bg (zlk xs m) (bg (jm #[D] h) #[D])
theorem ziD {α β:Type} {f:α→List β} {l:List α} {i j:Nat} {c:α} (hc:l[i]? = some c) (hj:j < (f c).length):((l.take i).flatMap f).length+j < (l.flatMap f).length:=by
 have e:l.flatMap f=(l.take i).flatMap f++(f c++(l.drop (i+1)).flatMap f):=by
  conv=>lhs; rw [zgz hc]
  rw [jG,fu]
 rw [e,aF,aF];lia
theorem ziE {α β:Type} {f:α→List β} {l:List α} {i:Nat} {c:α} (hc:l[i]? = some c):(l.take (i+1)).flatMap f=(l.take i).flatMap f++f c:=by
 rw [take_snoc hc,jG,fu,List.flatMap_nil,cQ]
theorem zmI {α:Type} {xs:List α}:∀ {m:Nat} {c:Nat×List α},c∈chs xs m→c.1≤xs.length
 | 0,c,h=>by
  unfold chs at h;rw [aA] at h;subst h;exact bi _
 | m+1,c,h=>by
  unfold chs at h;obtain⟨c',_,hc⟩:=eH.mp h;unfold nxt at hc;obtain⟨j,hj,rfl⟩:=aG.mp hc;have:=bA.mp hj;show c'.1+j+1≤xs.length;lia
theorem zfU {α:Type} {xs:List α}:∀ {m:Nat} {c:Nat×List α},c∈chs xs m→c.2.length≤m
 | 0,c,h=>by
  unfold chs at h;rw [aA] at h;subst h;exact ah _
 | m+1,c,h=>by
  unfold chs at h;obtain⟨c',hm,hc⟩:=eH.mp h;have:=zfU hm;unfold nxt at hc;obtain⟨j,hj,rfl⟩:=aG.mp hc;show (c'.2++xs[c'.1+j]?.toList).length≤m+1;rw [aF];have:xs[c'.1+j]?.toList.length≤1:=by cases xs[c'.1+j]? <;> simp
  lia
theorem Paired.get {α β:Type} {F:α→β→Prop}:∀ {l₁:List α} {l₂:List β},Paired F l₁ l₂→∀ {i:Nat} {a:α},l₁[i]? = some a→∃ b,l₂[i]? = some b∧F a b
 | _,_,.nil,i,a,h=>by simp at h
 | _,_,.cons r t,0,a,h=>by
  (simp only [dS,fw] at h)
  subst h;exact⟨_,rfl,r⟩
 | _,_,.cons r t,i+1,a,h=>by
  rw [bN] at h;obtain⟨b,hb,f⟩:=Paired.get t h;exact⟨b,by rw [bN]; exact hb,f⟩
def zll (H:Hp) (t:Addr) (c:Nat×List V):Prop:=∃ L,H t=some (.tup [.int (c.1:Int),.ref L])∧H L=some (.lst c.2)
theorem zll.same {H H':Hp} (s:zI H H') {t:Addr} {c:Nat×List V} (h:zll H t c):zll H' t c:=let ⟨L,h1,h2⟩:=h; ⟨L,s _ _ h1,s _ _ h2⟩
def zdH (H:Hp):List Addr→List (Nat×List V)→Prop:=Paired (zll H)
theorem zdH.same {H H':Hp} (s:zI H H') {ts:List Addr} {cs:List (Nat×List V)} (h:zdH H ts cs):zdH H' ts cs:=fF (fun _ _ z=>z.same s) h
def zfV (H:Hp):List Addr→List (List V)→Prop:=Paired fun l pk=>H l=some (.lst pk)
theorem zfV.same {H H':Hp} (s:zI H H') {ts:List Addr} {cs:List (List V)} (h:zfV H ts cs):zfV H' ts cs:=fF (fun _ _ z=>s _ _ z) h
def quo (p r:Int):List Int→List Int
 | []=>[]
 | [_]=>[]
 | _ :: d :: cs=>zm p r (d :: cs) :: quo p r (d :: cs)
theorem zhB (p r:Int):∀ (c:Int) (cs:List Int),(quo p r (c :: cs)).length=cs.length
 | _,[]=>rfl
 | _,d :: cs=>by
  show (quo p r (d :: cs)).length+1=cs.length+1;rw [zhB p r d cs]
theorem zkc {p r x:Int}:∀ d:List Int,Cg p (zm p x d - zm p r d) ((x - r)*zm p x (quo p r d))
 | []=>Cg.of_eq (by show (0:Int) - 0=(x - r)*0; lia)
 | [c]=>by
  have h1:Cg p (zm p x [c]) (c+x*0):=zC p x c [];have h2:Cg p (zm p r [c]) (c+r*0):=zC p r c [];refine (h1.sub h2).trans (Cg.of_eq ?_);show c+x*0 - (c+r*0)=(x - r)*0;lia
 | c :: d :: cs=>by
  have h1:=zC p x c (d :: cs);have h2:=zC p r c (d :: cs);have ih:=zkc (p:=p) (r:=r) (x:=x) (d :: cs);have h3:Cg p (zm p x (quo p r (c :: d :: cs))) (zm p r (d :: cs)+x*zm p x (quo p r (d :: cs))):=zC p x _ _;have h4:=(Cg.refl p (x - r)).mul h3;have h5:=(Cg.refl p x).mul ih;refine (h1.sub h2).trans (Cg.symm (h4.trans ?_));refine (Cg.of_eq (show _=(x - r)*zm p r (d :: cs)+x*((x - r)*zm p x (quo p r (d :: cs))) by grind)).trans ?_;refine ((Cg.refl p ((x - r)*zm p r (d :: cs))).add h5.symm).trans (Cg.of_eq (by grind))
theorem zfW {p r:Int}:∀ d:List Int,Cg p (zm p r d) 0→(∀ c∈quo p r d,Cg p c 0)→∀ c∈d,Cg p c 0
 | [],_,_,c,hc=>by cases hc
 | [a],h,_,c,hc=>by
  obtain rfl:c=a:=by simpa using hc
  have h1:Cg p (zm p r [c]) (c+r*0):=zC p r c [];exact ((Cg.of_eq #[O]).trans h1.symm).trans h
 | a :: d :: cs,h,hq,c,hc=>by
  have h0:Cg p (zm p r (d :: cs)) 0:=hq _ ao;rcases (au.mp hc) with rfl | hc
  ·have h1:=zC p r c (d :: cs);have h2:=(Cg.refl p r).mul h0;have h3:=(h1.symm.trans h).sub h2;exact (Cg.of_eq #[O]).trans (h3.trans (Cg.of_eq #[O]))
  ·exact zfW (d :: cs) h0 (fun c hc=>hq c (ai _ hc)) c hc
theorem zeA {p a y:Int} (hp:p∈zw) (ha0:a % p≠0) (h:Cg p (a*y) 0):Cg p y 0:=by
 have rp:=zL hp;have g0:=a8 a (show p≠0 by lia);have g1:=aU a (show 0 < p by lia);have hi:=zgv hp (h:=a % p) #[O] g1;have h1:Cg p (inv p (a % p)*(a % p)*y) (1*y):=hi.mul (Cg.refl p y);have h2:Cg p (inv p (a % p)*(a % p)*y) (inv p (a % p)*(a*y)):=by
  have:=((Cg.refl p (inv p (a % p))).mul (Cg.emod p a)).mul (Cg.refl p y);exact this.trans (Cg.of_eq (by grind))
 have h3:=(Cg.refl p (inv p (a % p))).mul h;exact (Cg.of_eq #[O]).trans (h1.symm.trans (h2.trans (h3.trans (Cg.of_eq #[O]))))
theorem zdI {p:Int} (hp:p∈zw):∀ (n:Nat) (d xs:List Int),d.length=n→n≤xs.length→xs.Nodup→(∀ x∈xs,0≤x∧x < p)→(∀ x∈xs,Cg p (zm p x d) 0)→∀ c∈d,Cg p c 0
 | 0,d,xs,hd,_,_,_,_,c,hc=>by
  rw [bh] at hd;subst hd;cases hc
 | n+1,d,[],hd,hx,_,_,_,c,hc=>by simp at hx
 | n+1,[],r :: xs,hd,hx,_,_,_,c,hc=>by cases hc
 | n+1,a :: cs,r :: xs,hd,hx,pP,xD,hz,c,hc=>by
  have rp:=zL hp;obtain⟨r0,r1⟩:=xD r ao;have hr:=hz r ao;refine zfW (a :: cs) hr (zdI hp n (quo p r (a :: cs)) xs (by rw [zhB]; simpa using hd) (by simpa using hx) (bR.mp pP).2 (fun x h=>xD x (ai _ h)) fun x h=>?_) c hc;obtain⟨x0,x1⟩:=xD x (ai _ h);have mo:x≠r:=fun e=>(bR.mp pP).1 (e ▸ h)
  have he:=zkc (p:=p) (r:=r) (x:=x) (a :: cs);have h0:=(hz x (ai _ h)).sub hr;refine zeA hp (a:=x - r) (fun e=>?_) (he.symm.trans (h0.trans (Cg.of_eq #[O])));have:Cg p x r:=by
   have h1:Cg p (x - r) 0:=Cg.of_mod (by rw [e]; simp);have h2:=h1.add (Cg.refl p r);exact (Cg.of_eq #[O]).trans (h2.trans (Cg.of_eq #[O]))
  exact mo (this.eq x0 x1 r0 r1)
theorem zfX {p x:Int}:∀ {a b:List Int},a.length=b.length→Cg p (zm p x (bT (· - ·) a b)) (zm p x a - zm p x b)
 | [],[],_=>Cg.of_eq rfl
 | c :: a,d :: b,h=>by
  have ih:=zfX (p:=p) (x:=x) (a:=a) (b:=b) (by simpa using h);have h1:=zC p x c a;have h2:=zC p x d b;have h3:Cg p (zm p x (bT (· - ·) (c :: a) (d :: b))) (c - d+x*zm p x (bT (· - ·) a b)):=zC p x (c - d) _;refine h3.trans (((Cg.refl p (c - d)).add ((Cg.refl p x).mul ih)).trans (Cg.symm ((h1.sub h2).trans (Cg.of_eq (by grind)))))
 | [],_ :: _,h=>by simp at h
 | _ :: _,[],h=>by simp at h
theorem zfY {p:Int}:∀ {a b:List Int},a.length=b.length→(∀ c∈a,0≤c∧c < p)→(∀ c∈b,0≤c∧c < p)→(∀ c∈bT (· - ·) a b,Cg p c 0)→a=b
 | [],[],_,_,_,_=>rfl
 | c :: a,d :: b,h,ha,hb,hz=>by
  obtain⟨c0,c1⟩:=ha c ao;obtain⟨d0,d1⟩:=hb d ao;have h1:Cg p (c - d) 0:=hz _ ao;have h2:Cg p c d:=(Cg.of_eq #[O]).trans ((h1.add (Cg.refl p d)).trans (Cg.of_eq #[O]));rw [h2.eq c0 c1 d0 d1,zfY (by simpa using h) (fun c hc=>ha c (ai _ hc)) (fun c hc=>hb c (ai _ hc)) (fun c hc=>hz c (ai _ hc))]
 | [],_ :: _,h,_,_,_=>by simp at h
 | _ :: _,[],h,_,_,_=>by simp at h
theorem zfZ {p:Int} (hp:p∈zw) {a b xs:List Int} (hl:a.length=b.length) (hx:a.length≤xs.length) (pP:xs.Nodup) (xD:∀ x∈xs,0≤x∧x < p) (ha:∀ c∈a,0≤c∧c < p) (hb:∀ c∈b,0≤c∧c < p)
  (he:∀ x∈xs,zm p x a=zm p x b):a=b:=by
 refine zfY hl ha hb (zdI hp a.length _ xs (by rw [jH]; lia) hx pP xD fun x h=>?_);refine (zfX hl).trans (Cg.of_eq ?_);rw [he x h];lia
theorem zmJ {p:Int} (hp:p∈zw) {pk:List (Int×Int)} (hP:Pts p pk) {q:List Int} (hl:q.length=pk.length) (hq:∀ c∈q,0≤c∧c < p) (hh:∀ a∈pk,zm p a.1 q=a.2):q=thr p pk:=by
 obtain⟨h1,h2,h3⟩:=zmu hp hP;refine zfZ hp (xs:=pk.map (·.1)) #[O] (by rw [ae]; lia) hP.nd (fun x hx=>?_) hq h2 fun x hx=>?_
 ·obtain⟨a,ha,rfl⟩:=aG.mp hx;exact⟨(hP.rg a ha).1,(hP.rg a ha).2.1⟩
 ·obtain⟨a,ha,rfl⟩:=aG.mp hx;rw [hh a ha,h3 a ha]
theorem Pts.sub {p:Int} {pk mI:List (Int×Int)} (h:Pts p mI) (hs:pk.Sublist mI):Pts p pk:=⟨(hs.map _).nodup h.nd,fun q hq=>h.rg q (hs.subset hq)⟩
theorem zhC {α:Type} {xs:List α}:∀ {m:Nat} {c:Nat×List α},c∈chs xs m→c.2.Sublist (xs.take c.1)∧c.2.length=m∧c.1≤xs.length
 | 0,c,h=>by
  unfold chs at h;rw [aA] at h;subst h;exact⟨fP _,rfl,bi _⟩
 | m+1,c,h=>by
  unfold chs at h;obtain⟨c',hm,hc⟩:=eH.mp h;obtain⟨h1,h2,h3⟩:=zhC hm;unfold nxt at hc;obtain⟨j,hj,rfl⟩:=aG.mp hc
  (have nN:=bA.mp hj)
  have ml:c'.1+j < xs.length:=by lia
  have e:xs[c'.1+j]? = some xs[c'.1+j]:=aE ml;dsimp only;rw [e];refine⟨?_,by rw [aF,h2]; rfl,#[O]⟩;rw [take_snoc e];refine List.Sublist.append (h1.trans ?_) (List.Sublist.refl _);have:xs.take c'.1=(xs.take (c'.1+j)).take c'.1:=by rw [lx]; congr 1; lia
  rw [this];exact cv _ _
theorem sub_one {α:Type} {l:List α} {x:α} (h:l.Sublist [x]):l = []∨l = [x]:=by
 cases h with
 | cons _ h=>exact .inl (ig.mp h)
 | cons_cons _ h=>exact .inr (by rw [ig.mp h])
theorem zdf {α:Type} {xs:List α}:∀ {m n:Nat} {pk:List α},pk.Sublist (xs.take n)→pk.length=m→∃ s,s≤n∧(s,pk)∈chs xs m
 | 0,n,pk,h,hl=>by
  rw [bh] at hl;subst hl;exact⟨0,bi _,by unfold chs; exact aA.mpr rfl⟩
 | m+1,0,pk,h,hl=>by
  rw [gm] at h;rw [ig.mp h] at hl;simp at hl
 | m+1,n+1,pk,h,hl=>by
  cases e:xs[n]? with
  | none =>
   have:xs.take (n+1)=xs.take n:=by
    have:=List.getElem?_eq_none_iff.mp e;rw [aW #[O],aW this]
   rw [this] at h;obtain⟨s,h1,h2⟩:=zdf (m:=m+1) (n:=n) h hl;exact⟨s,#[O],h2⟩
  | some x =>
   rw [take_snoc e] at h;obtain⟨l1,l2,rfl,h1,h2⟩:=List.sublist_append_iff.mp h;rcases (sub_one h2) with rfl | rfl
   ·rw [cQ] at hl ⊢;obtain⟨s,a1,a2⟩:=zdf (m:=m+1) (n:=n) h1 hl;exact⟨s,#[O],a2⟩
   ·obtain⟨s,a1,a2⟩:=zdf (m:=m) (n:=n) h1 (by simpa using hl);refine⟨n+1,ah _,?_⟩;unfold chs;refine eH.mpr ⟨(s,l1),a2,?_⟩;have ml:=(aT.mp e).1;unfold nxt;refine aG.mpr ⟨n - s,bA.mpr (by show n - s < xs.length - s; lia),?_⟩;have es:s+(n - s)=n:=by lia
    dsimp only;rw [es,e];rfl
theorem zaX {α:Type} {xs pk:List α} {m:Nat}:pk∈(chs xs m).map (·.2)↔pk.Sublist xs∧pk.length=m:=by
 constructor
 ·intro h;obtain⟨c,hc,rfl⟩:=aG.mp h;obtain⟨h1,h2,h3⟩:=zhC hc;exact⟨h1.trans (cv _ _),h2⟩
 ·rintro⟨h1,h2⟩;obtain⟨s,_,hs⟩:=zdf (xs:=xs) (n:=xs.length) (by rw [dj]; exact h1) h2;exact aG.mpr ⟨_,hs,rfl⟩
def hit (p:Int) (q:List Int) (a:Int×Int):Bool:=decide (zm p a.1 q=a.2)
def hits (p:Int) (q:List Int) (mI:List (Int×Int)):Nat:=(mI.filter (hit p q)).length
def IsP (p:Int) (k:Nat) (q:List Int):Prop:=q.length=k∧∀ c∈q,0≤c∧c < p
theorem zgG {p:Int} (hp:p∈zw) {mI:List (Int×Int)} (hP:Pts p mI) {q:List Int} {k t n:Nat} (hq:IsP p k q) (hk:k≤t) (hn:mI.length≤n+(t - k)) (ht:t≤hits p q mI) :
  ∃ pk,pk∈(chs (mI.take n) k).map (·.2)∧q=thr p pk:=by
 have Br:hits p q mI=((mI.take n).filter (hit p q)).length+((mI.drop n).filter (hit p q)).length:=by
  unfold hits
  conv=>lhs; rw [← bw n mI]
  rw [dY,aF]
 have hd:=fS (hit p q) (mI.drop n);rw [cF] at hd;have pL:k≤((mI.take n).filter (hit p q)).length:=by lia
 have hs:(((mI.take n).filter (hit p q)).take k).Sublist (mI.take n):=(cv _ _).trans (List.filter_sublist);have hl:(((mI.take n).filter (hit p q)).take k).length=k:=by rw [aS]; lia
 refine⟨_,zaX.mpr ⟨hs,hl⟩,zmJ hp (hP.sub (hs.trans (cv _ _))) (by rw [hl]; exact hq.1) hq.2 fun a ha=>?_⟩;have:=(eO.mp ((cv _ _).subset ha)).2;simpa [hit] using this
def m8:List Int→List (Option Int)→List (Int×Int)
 | x :: pl,some y :: rw=>(x,y) :: m8 pl rw
 | _ :: pl,none :: rw=>m8 pl rw
 | _,_=>[]
theorem zf0:∀ {pl:List Int} {rw:List (Option Int)} {i:Nat} {x:Int} {o:Option Int},pl[i]? = some x→rw[i]? = some o→m8 (pl.take (i+1)) (rw.take (i+1))=m8 (pl.take i) (rw.take i)++(match o with | some y=>[(x,y)] | none=>[])
 | [],_,i,x,o,h,_=>by simp at h
 | _ :: _,[],i,x,o,_,h=>by simp at h
 | a :: pl,b :: rw,0,x,o,h1,h2=>by
  simp only [dS,fw] at h1 h2;subst h1 h2;cases b <;> rfl
 | a :: pl,b :: rw,i+1,x,o,h1,h2=>by
  rw [bN] at h1 h2;have ih:=zf0 h1 h2;cases b with
  | none=>exact ih
  | some y =>
   show (a,y) :: m8 (pl.take (i+1)) (rw.take (i+1))=(a,y) :: m8 (pl.take i) (rw.take i)++_;rw [ih];rfl
theorem ze4:∀ (pl:List Int) (rw:List (Option Int)),(m8 pl rw).length≤pl.length
 | [],rw=>by unfold m8; simp
 | a :: pl,[]=>by unfold m8; simp
 | a :: pl,none :: rw=>by
  have:=ze4 pl rw;show (m8 pl rw).length≤pl.length+1;lia
 | a :: pl,some y :: rw=>by
  have:=ze4 pl rw;show (m8 pl rw).length+1≤pl.length+1;lia
theorem zbY:∀ {pl:List Int} {rw:List (Option Int)} {a:Int×Int},a∈m8 pl rw→a.1∈pl∧some a.2∈rw
 | [],_,a,h=>by unfold m8 at h; cases h
 | _ :: _,[],a,h=>by unfold m8 at h; cases h
 | x :: pl,none :: rw,a,h=>by
  obtain⟨h1,h2⟩:=zbY (pl:=pl) (rw:=rw) h;exact⟨ai _ h1,ai _ h2⟩
 | x :: pl,some y :: rw,a,h=>by
  rcases (au.mp h) with rfl | h
  ·exact⟨ao,ao⟩
  ·obtain⟨h1,h2⟩:=zbY (pl:=pl) (rw:=rw) h;exact⟨ai _ h1,ai _ h2⟩
theorem ze5:∀ (pl:List Int) (rw:List (Option Int)),((m8 pl rw).map (·.1)).Sublist pl
 | [],_=>by unfold m8; exact fP _
 | _ :: _,[]=>by unfold m8; exact fP _
 | x :: pl,none :: rw=>(ze5 pl rw).cons _
 | x :: pl,some y :: rw=>(ze5 pl rw).cons_cons _
theorem zlm {p:Int} {pl:List Int} {rw:List (Option Int)} (h1:pl.Nodup) (h2:∀ x∈pl,0≤x∧x < p) (h3:∀ z,some z∈rw→0≤z∧z < p):Pts p (m8 pl rw) :=
 ⟨(ze5 pl rw).nodup h1,fun q hq=>⟨(h2 _ (zbY hq).1).1,(h2 _ (zbY hq).1).2,(h3 _ (zbY hq).2).1,(h3 _ (zbY hq).2).2⟩⟩
theorem zf1 {p:Int} {pl:List Int} {rw:List (Option Int)} {q:List Int} (hl:rw.length=pl.length):∀ n,n≤pl.length→(zeW p pl rw q n).length=hits p q (m8 (pl.take n) (rw.take n))
 | 0,_=>by simp [zeW,hits,m8]
 | n+1,hn=>by
  have ih:=zf1 (p:=p) (q:=q) hl n #[O];have e1:pl[n]? = some pl[n]:=aE #[O];have e2:rw[n]? = some rw[n]:=aE #[O];rw [zig,aF,ih,zf0 e1 e2];unfold hits;rw [dY,aF];congr 1;unfold zbI;rw [e1,e2];cases rw[n] with
  | none=>rfl
  | some y =>
   show (if decide (y=zm p pl[n] q)=true then [(n:Int)] else []).length=([(pl[n],y)].filter (hit p q)).length;by_cases e:y=zm p pl[n] q
   ·rw [iq (by simp [hit,e])];simp [e]
   ·rw [ir (by simp [hit]; exact fun z=>e z.symm)];simp [e]
theorem zln {p:Int} {pl:List Int} {rw:List (Option Int)} {q:List Int} (hl:rw.length=pl.length):(zeW p pl rw q pl.length).length=hits p q (m8 pl rw):=by
 have:=zf1 (p:=p) (q:=q) hl pl.length (ah _);rw [dj,aW #[O]] at this;exact this
def ze6 (p:Int) (k:Nat) (qs:List (List Int)):Prop:=(∀ q∈qs,IsP p k q)∧qs.Pairwise fun a b=>Srt.num p a < Srt.num p b
theorem zdg {B:Int} (hB:1≤B):∀ {a b:List Int},a.length=b.length→(∀ n∈a,0≤n∧n < B)→(∀ n∈b,0≤n∧n < B)→Srt.num B a=Srt.num B b→a=b
 | [],[],_,_,_,_=>rfl
 | c :: a,d :: b,h,ha,hb,e=>by
  have h':a.length=b.length:=by simpa using h
  have ra:=Srt.num_rng hB (ns:=a) fun n hn=>ha n (ai _ hn)
  have rb:=Srt.num_rng hB (ns:=b) fun n hn=>hb n (ai _ hn)
  have e':c*B ^ a.length+Srt.num B a=d*B ^ b.length+Srt.num B b:=e;rw [← h'] at e' rb;generalize B ^ a.length=M at e' ra rb;have hM:0 < M:=by lia
  have oq:c=d:=by
   have e2:(c - d)*M=Srt.num B b - Srt.num B a:=by
    rw [Int.sub_mul];lia
   rcases (ko c d) with ml | heq | hgt
   ·have:(c - d)*M≤(-1)*M:=db #[O] #[O];lia
   ·exact heq
   ·have:1*M≤(c - d)*M:=db #[O] #[O];lia
  subst oq;rw [zdg hB h' (fun n hn=>ha n (ai _ hn)) (fun n hn=>hb n (ai _ hn)) #[O]]
 | [],_ :: _,h,_,_,_=>by simp at h
 | _ :: _,[],h,_,_,_=>by simp at h
theorem ze6.tail {p:Int} {k:Nat} {q:List Int} {qs:List (List Int)} (h:ze6 p k (q :: qs)):ze6 p k qs:=⟨fun x hx=>h.1 x (ai _ hx),(eY.mp h.2).2⟩
theorem zhD {p:Int} {k:Nat}:∀ {as bs:List (List Int)},ze6 p k as→ze6 p k bs→(∀ q,q∈as↔q∈bs)→as=bs
 | [],[],_,_,_=>rfl
 | [],b :: bs,_,_,h=>by
  have:=(h b).mpr ao;cases this
 | a :: as,[],_,_,h=>by
  have:=(h a).mp ao;cases this
 | a :: as,b :: bs,ha,hb,h=>by
  have pa:=(eY.mp ha.2).1;have pb:=(eY.mp hb.2).1;have e:a=b:=by
   rcases (au.mp ((h a).mp ao)) with e | ma
   ·exact e
   ·rcases (au.mp ((h b).mpr ao)) with e | mb
    ·exact e.symm
    ·have:=pb a ma;have:=pa b mb;lia
  subst e;rw [zhD ha.tail hb.tail fun q=>?_];have hq:=h q;rw [au,au] at hq;constructor
  ·intro m;rcases (hq.mp (.inr m)) with rfl | z
   ·exact absurd (pa q m) #[O]
   ·exact z
  ·intro m;rcases (hq.mpr (.inr m)) with rfl | z
   ·exact absurd (pb q m) #[O]
   ·exact z
theorem zlo {α β:Type} (f:α→β) (xs:List α) (c:Nat×List α):nxt (xs.map f) (c.1,c.2.map f)=(nxt xs c).map fun d=>(d.1,d.2.map f):=by
 unfold nxt;rw [br,ae];refine cz fun j _=>?_
 show (c.1+j+1,c.2.map f++(xs.map f)[c.1+j]?.toList)=(c.1+j+1,(c.2++xs[c.1+j]?.toList).map f);rw [az,aN];cases xs[c.1+j]? <;> rfl
theorem zhE {α β:Type} (f:α→β) (xs:List α):∀ m,chs (xs.map f) m=(chs xs m).map fun d=>(d.1,d.2.map f)
 | 0=>rfl
 | m+1=>by
  show (chs (xs.map f) m).flatMap (nxt (xs.map f))=((chs xs m).flatMap (nxt xs)).map _;rw [zhE f xs m,kN,List.flatMap_map];congr 1;funext c;exact zlo f xs c
theorem ziF {α β:Type} (f:α→β) (xs:List α) (m:Nat):(chs (xs.map f) m).map (·.2)=((chs xs m).map (·.2)).map (·.map f):=by
 rw [zhE,br,br];rfl
def ze7 (H:Hp):List Addr→List (List Int)→Prop:=Paired fun r q=>H r=some (.tup (q.map V.int))
theorem ze7.same {H H':Hp} (s:zI H H') {rs:List Addr} {qs:List (List Int)} (h:ze7 H rs qs):ze7 H' rs qs:=fF (fun _ _ z=>s _ _ z) h
theorem ze8 {a b:List Int} (h:(a.map bG:List Key)=b.map bG):a=b:=by
 induction a generalizing b with
 | nil=>cases b with
  | nil=>rfl
  | cons _ _=>simp at h
 | cons x a ih=>cases b with
  | nil=>simp at h
  | cons y b =>
   rw [aP,aP] at h;obtain⟨h1,h2⟩:=dU h;rw [lS h1,ih h2]
end My
end
section
namespace L2
open PySem PySem.Spec PyProof.Rows
end L2
end
section
namespace My
open PySem L2 PyProof.Rows
end My
end
section
namespace L2
open PySem PySem.Spec PyProof.Rows
end L2
end
section
namespace HT
open PySem PySem.Spec PyProof.Rows
end HT
namespace L2
open PySem PySem.Spec PyProof.Rows
theorem zkd {X:Cx} {K:ag} {tg l:Expr} {tl:TE} (hK:X.K=K) (hl:PE X l tl):PI X tg l (zlM K tl):=by subst hK; exact zat hl
end L2
end
section
namespace My
open PySem L2 PyProof.Rows
end My
end
section
namespace L2
open PySem PySem.Spec PyProof.Rows
end L2
end
section
namespace PySem
open PyProof.Rows
end PySem
namespace L2
open PySem PySem.Spec PyProof.Rows
theorem zdJ {X:Cx} {K:ag} (hK:X.K=K):za1 X (.type "tuple") (fun xs H Q=>∃ p ys,xs = [.ref p]∧((l8 K H p ys∧∀ l,H l=none→Q (.ref l) (l7 H l (.tup ys)))∨(mj K H p ys∧Q (.ref p) H))):=by subst hK; exact zbe
end L2
end
section
namespace L2
open PySem PySem.Spec PyProof.Rows PySem.W
def zd6 (mg:Str→Option Value) (h:Heap):Prop:=∃ bm ob,mg "__builtins__" = some (.ref bm)∧bm≠builtinsNs∧h.get? bm=some ob∧ob.cls = .type "module"∧ob.dict=some builtinsNs∧ob.data = .plain
def zhF (c:Addr) (q:Str):HO:=.ext fun h=>h.CodeRec (.ref c) q
def TbI (P:Addr) (pos:Pos) (q:Str) (H:Hp):Prop:=∃ ps,H P=some (.tbl ps)∧TriplesOk ps.toList∧(codeAmong pos ps.toList=none∨∃ c,codeAmong pos ps.toList=some (.ref c)∧H c=some (zhF c q))
theorem ziG {X:Cx} {lX:List (Addr×Obj)} {σ:St} {H:Hp} {s:Shared} {c:Addr} {q:Str} (I:Inv X lX σ H s) (h:H c=some (zhF c q)):s.heap.CodeRec (.ref c) q:=(I.hok c _ h).1
theorem zcv {a b:Int} {t u:Tok} {c:Value}:∀ {l:List Value},TriplesOk l→TriplesOk (l++[.int a t,.int b u,c])
 | [],_=>trivial
 | [_],h=>by
  unfold TriplesOk at h;split at h <;> first | trivial | (rename_i e; simp at e) | exact h.elim
 | [_,_],h=>by
  unfold TriplesOk at h;split at h <;> first | trivial | (rename_i e; simp at e) | exact h.elim
 | x :: y :: z :: l,h=>by
  unfold TriplesOk at h;split at h
  ·rename_i e; simp at e
  ·rename_i e
   simp only [List.cons.injEq] at e;obtain⟨rfl,rfl,rfl,rfl⟩:=e;exact zcv (l:=l) h
  ·exact h.elim
theorem zke {X:Cx} {lX:List (Addr×Obj)} {σ:St} {H:Hp} {s:Shared} {c P:Addr} {pos:Pos} {name q:Str} {params:Arguments} {body:Expr} {scope:Scope} {fl:Nat} {oB:List (Str×Addr)} {M:Model} {A:Around} {E:Value→Shared→Prop} {Q:Value→Shared→Prop}
  (I:Inv X lX σ H s) (rd:X.env.code = .ref c) (hK:codeHdIn X.K c P=true) (hB:zd6 X.mg X.base) (pd:closureFor scope X.env=pure oB) (hT:TbI P pos q H)
  (h:∀ (f c':Addr) (rf:Value) (H':Hp) (h':Heap) (tk:Nat),Inv X lX σ H' { s with heap:=h',toks:=tk }→(∀ b,b≠P→∀ o,H b=some o→H' b=some o)→TbI P pos q H' →
   h'.get? f=some (kla_obj name q params body scope oB ((X.mg "__name__").getD .none) c' rf)→h'.CodeRec (.ref c') q→s.heap.objs.size≤f→H' f=none→f≠X.env.locals→Q (.ref f) { s with heap:=h',toks:=tk }) :
  wpAny M A (makeFunction name q params (.expr body) scope X.env [] [] [] pos fl) Q E s:=by
 obtain⟨ps,hP,ht,hT⟩:=hT;have hg:s.heap.Ns mainGlobals X.mg:=I.mod.glob.keeps I.bk;have C:CodeHd s.heap c P:=codeHd_of_K I.kIn hK;have oP:s.heap.get? P=some (tabObj ps):=I.hok P _ hP;have hgP:mainGlobals≠P:=fun e=>by
  obtain⟨o,es,ep,e1,hd,_⟩:=hg;rw [e,oP] at e1; cases e1; cases hd
 have hb:s.heap.BuiltinsAt X.mg P:=by
  obtain⟨bm,ob,b1,b2,b3,b4,b5,b6⟩:=hB;have xE:=I.bk _ _ b3;refine⟨bm,ob,b1,b2,fun e=>?_,fun e=>?_,xE,b4,b5,b6⟩
  ·obtain⟨o,es,ep,e1,hd,_⟩:=hg;rw [e,e1] at xE; cases xE; rw [hd] at b6; cases b6
  ·rw [e,oP] at xE; cases xE; cases b4
 have hLP:X.env.locals≠P:=fun e=>by have:=I.free; rw [e,hP] at this; cases this
 obtain⟨m0,n0,_⟩:=id I.loc;have hLs:X.env.locals < s.heap.objs.size:=n0.lt;rcases hT with hT | ⟨c0,hT,xF⟩
 ·refine kla_makeFunction (mg:=X.mg) pd I.ok.glob hg rd C oP ht hT hgP hb fun c' rf h' tk hx oo ml vJ sF=>?_
  have vK:H c'=none:=I.hok.fresh oo;have xG:c'≠P:=fun e=>by rw [e,hP] at vK; cases vK
  have k1:∀ b o,b≠P→s.heap.get? b=some o→(h'.push (kla_obj name q params body scope oB ((X.mg "__name__").getD .none) c' rf)).get? b=some o:=fun b o hb e=>aj _ (hx b o hb e)
  have xH:(h'.push (kla_obj name q params body scope oB ((X.mg "__name__").getD .none) c' rf)).get? P=some (tabObj (ps++#[rawInt pos.line,rawInt pos.col,.ref c'])):=aj _ sF;have uQ:(h'.push (kla_obj name q params body scope oB ((X.mg "__name__").getD .none) c' rf)).CodeRec (.ref c') q:=vJ.push _;have hsz:s.heap.objs.size≤h'.objs.size:=bg oo (fW ml);have u1:∀ b,b≠P→b≠c'→l7 (l7 H P (.tbl (ps++#[rawInt pos.line,rawInt pos.col,.ref c']))) c' (zhF c' q) b=H b:=fun b h1 h2=>by rw [zi h2,zi h1]
  have old:∀ b o,s.heap.get? b=some o→b≠c':=fun b o e=>aL (aJ (av e) oo)
  have rJ:∀ b o,H b=some o→b≠c':=fun b o e z=>by rw [z,vK] at e; cases e
  have I2:Inv X lX σ (l7 (l7 H P (.tbl (ps++#[rawInt pos.line,rawInt pos.col,.ref c']))) c' (zhF c' q)) { s with heap:=h'.push (kla_obj name q params body scope oB ((X.mg "__name__").getD .none) c' rf),toks:=tk }:=by
   refine I.step (g':=s.gens) (d':=s.drawn) (ch:=[]) (fun _ z=>nomatch z) (fun b o _ _ _ e n=>k1 b o (fun z=>by rw [z,hP] at n; cases n) e) (fun b o _ _ _ e n=>⟨o.slots,k1 b o (fun z=>by rw [z,hP] at n; cases n) e⟩)
    (fun b o _ e n=>by rw [u1 b (fun z=>by rw [z,hP] at n; cases n) (old b o e)]; exact n) (fun b o _ e=>?_) (fun b xs e=>?_) (fun b o u e=>?_) (fun b qs e=>?_) (fun m hm=>?_) (fun b u e=>?_) I.bare
   ·by_cases hb:b=P
    ·rw [hb]; exact⟨_,xH⟩
    ·exact⟨o,k1 b o hb e⟩
   ·rw [u1 b (fun z=>by rw [z,hP] at e; cases e) (rJ b _ e)]; exact e
   ·rw [u1 b (fun z=>by rw [z,hP] at e; cases e) (rJ b _ e)]; exact e
   ·by_cases hb:b=P
    ·subst hb;rw [hP] at e; cases e;exact⟨_,by rw [zi (de xG),zb]⟩
    ·exact⟨#[],by rw [u1 b hb (rJ b _ e),e]; simp⟩
   ·obtain⟨o,es,ep,ho,r⟩:=hm;exact⟨o,es,ep,k1 _ o hLP ho,r⟩
   ·by_cases hbc:b=c'
    ·subst hbc;rw [zb] at e; cases e;obtain⟨cc,oc,vs,t,e2,wY,hd,hv⟩:=uQ;cases e2;exact⟨⟨_,oc,vs,t,rfl,wY,hd,hv⟩,⟨oc,wY⟩,fun h1 h2 ⟨cc,o1,vs1,t1,e3,sW,r1⟩ kk=>by cases e3; exact⟨_,o1,vs1,t1,rfl,kk _ sW,r1⟩⟩
    ·rw [zi hbc] at e;by_cases Bs:b=P
     ·subst Bs;rw [zb] at e; cases e;exact xH
     ·rw [zi Bs] at e;refine (I.hok b u e).stay (fun d v hd r=>k1 d v (fun z=>?_) r) (fun d r=>?_) fun d xs r=>?_
      ·rcases hd with hd | hd
       ·exact Bs (hd.symm.trans z)
       ·rw [z,hP] at hd; cases hd
      ·rw [u1 d (fun z=>by rw [z,hP] at r; cases r) (rJ d _ r)]; exact r
      ·rw [u1 d (fun z=>by rw [z,hP] at r; cases r) (rJ d _ r)]; exact r
  refine h h'.objs.size c' rf _ _ tk I2 (fun b hb o e=>by rw [u1 b hb (rJ b _ e)]; exact e) ⟨ps++#[rawInt pos.line,rawInt pos.col,.ref c'],by rw [zi (de xG),zb],?_,.inr ⟨c',?_,zb⟩⟩ (aB _ rfl) uQ hsz ?_ ?_
  ·rw [bj]; exact zcv ht
  ·rw [bj]; exact codeAmong_snoc _ ht hT
  ·rw [u1 h'.objs.size (fun z=>absurd (show h'.objs.size < s.heap.objs.size from z ▸ av oP) (Nat.not_lt.mpr hsz)) (dL ml)];exact I.hok.fresh hsz
  ·exact dL (aJ hLs hsz)
 ·refine kla_makeFunctionHit (mg:=X.mg) pd I.ok.glob hg rd C oP ht hT hb fun rf h' tk hk hsz=>?_
  have k2:∀ b o,s.heap.get? b=some o→(h'.push { cls:=.type "function",data:=.func (kla_fn name q params body scope oB ((X.mg "__name__").getD .none) (.ref c0) rf) }).get? b=some o:=fun b o e=>aj _ (hk b o e)
  have I2:Inv X lX σ H { s with heap:=h'.push { cls:=.type "function",data:=.func (kla_fn name q params body scope oB ((X.mg "__name__").getD .none) (.ref c0) rf) },toks:=tk } :=
   I.un (Un.kept k2) (I.hok.kept k2)
  exact h h'.objs.size c0 rf H _ tk I2 (fun _ _ _ e=>e) ⟨ps,hP,ht,.inr ⟨c0,hT,xF⟩⟩ (aB _ rfl) ((ziG I xF).keeps k2) hsz (I.hok.fresh hsz) (dL (aJ hLs hsz))
theorem ziH {P:Program} {w:World} {K:ag} {mg mb:Str→Option Value} {CX:CXT} {k:Nat} {fa a TP cP:Addr} {fd:FuncData} {x:Str} {sp:Sp} {s₁:Shared} {vs:List Value} {ns:List Int}
  (KX:K.In s₁.heap) (vq:s₁.heap.Ns mainGlobals mg) (hb:s₁.heap.Ns builtinsNs mb) (hbb:∀ x:Str,x≠"__name__"→mb x=bootBuiltins x) (Bt:s₁.heap.NoLimit) (hg:s₁.gens = #[])
  (ha:s₁.heap.get? a=some { cls:=.type "list",data:=.seq vs.toArray }) (hi:IntsAre vs ns) (hl:ns.length≤sizeLine) (hr:Room k callerA)
  (hT:s₁.heap.get? TP=some (tabObj #[])) (xI:K.lookup TP=none) (hC:CodeHd s₁.heap cP TP) (hbm:zd6 mg s₁.heap)
  (F:∀ base:Heap,K.In base→base.Ns mainGlobals mg→zd6 mg base→FnOk P w K mg base CX k fa fd [x] sp) (xJ:∀ (s:Shared) (u:Value),BindsTo s fd ⟨[u],[]⟩ [(x,u)])
  (pR:∀ H:Hp,H TP=some (.tbl #[])→l8 K H a (ns.map V.int)→sp [.ref a] H (fun v _=>v = .bl true) fun _ _ _=>False)
  (Bu:∀ H e s',CX [] H s₁ (fun _ _ _=>False) e s'→False) :
  codeAny (model P w) callerA (.call (.ref fa) ⟨[.ref a],[]⟩) (fun r s'=>r = .ok (.ret (.bool true))∧OldK s₁.heap s'.heap∧s'.os=s₁.os∧AllBare s'.gens) s₁:=by
 have rv:=zeo hi;have Bv:=hi.length;have haT:a≠TP:=fun e=>by rw [e,hT] at ha; cases ha
 have core:∀ H:Hp,(∀ b,b≠TP→H b=none∨∃ o xs,H b=some (.frz o (.lst xs)))→H TP=some (.tbl #[])→l8 K H a (ns.map V.int)→HOk P w H s₁.heap→(∀ b,H b≠none→b=a∨b=TP)→(H a≠none→K.lookup a=none) →
   codeAny (model P w) callerA (.call (.ref fa) ⟨[.ref a],[]⟩) (fun r s'=>r = .ok (.ret (.bool true))∧OldK s₁.heap s'.heap∧s'.os=s₁.os∧AllBare s'.gens) s₁:=by
  intro H hO hHT hS hok hA hK;have px:∀ {b:Addr} {o:Obj},s₁.heap.get? b=some o→H b=none→(zdX s₁.heap H).get? b=some o:=fun e n=>zi9 e n
  have uI:∀ {b:Addr} {o:Obj},s₁.heap.get? b=some o→(∀ xs n,o.data≠.seq xs n)→(∀ xs,o.data≠.fields xs)→H b=none:=fun {b o} e d1 d2=>by
   cases q:H b with
   | none=>rfl
   | some u =>
    rcases hA b (by rw [q]; simp) with e' | e'
    ·subst e';rw [ha] at e; cases e;exact absurd rfl (d1 _ _)
    ·subst e';rw [hT] at e; cases e;exact absurd rfl (d2 _)
  have yT:∀ {b:Addr} {m:Str→Option Value},s₁.heap.Ns b m→(zdX s₁.heap H).Ns b m:=fun {b m} ⟨o,es,ep,e,d,r⟩=>⟨o,es,ep,px e (uI e (fun xs n z=>by rw [d] at z; cases z) (fun xs z=>by rw [d] at z; cases z)),d,r⟩
  have hKb:K.In (zdX s₁.heap H):=fun b o e=>px (KX b o e) (by
   cases q:H b with
   | none=>rfl
   | some u =>
    rcases hA b (by rw [q]; simp) with e' | e'
    ·subst e';rw [hK (by rw [q]; simp)] at e; cases e
    ·subst e';rw [xI] at e; cases e)
  have hM:Mod K mg (zdX s₁.heap H):=⟨hKb,yT vq,⟨mb,yT hb,hbb⟩,let ⟨mc,h1,h2⟩:=Bt; ⟨mc,yT h1,h2⟩⟩;have hBb:zd6 mg (zdX s₁.heap H):=by
   obtain⟨bm,ob,b1,b2,b3,b4,b5,b6⟩:=hbm;exact⟨bm,ob,b1,b2,px b3 (uI b3 (fun xs n z=>by rw [b6] at z; cases z) (fun xs z=>by rw [b6] at z; cases z)),b4,b5,b6⟩
  have e0:Env0 P w K mg (zdX s₁.heap H) callerA [] s₁ H:=⟨rfl,hM,fun b o e=>zkM e,Nat.le_of_eq (zhY _ _),trivial,fun b hb=>absurd (show b∈([]:List Addr) from hb) #[M],hok,.of_eq hg⟩;refine ed ((F _ hKb (yT vq) hBb).run callerA [] s₁ H ⟨[.ref a],[]⟩ [.ref a] [.ref a] _ _ hr e0 (xJ s₁ (.ref a)) (.cons rfl .nil) (pR H hHT hS)) fun r s' h=>?_
  cases r with
  | error e=>exact (Bu H e s' h).elim
  | ok fl =>
   cases fl with
   | next=>exact bQ h
   | brk=>exact bQ h
   | cont=>exact bQ h
   | ret u =>
    obtain⟨v,H',os,bare,un,xK,r',q⟩:=h;have q':v = .bl true:=q;subst q';obtain rfl:u=fc true:=r';have keep:∀ b o,b≠TP→s₁.heap.get? b=some o→s'.heap.get? b=some o:=fun b o pW e=>by
     cases q:H b with
     | none=>exact un.keep b o e q (by intro z; exact absurd (show b∈([]:List Addr) from z) #[M]) #[M]
     | some u =>
      rcases hO b pW with z | ⟨ob,xs,z⟩
      ·rw [q] at z; cases z
      ·have z2:=un.frzs b ob _ z;obtain⟨e1,_⟩:=hok b _ z;obtain⟨e2,_⟩:=xK b _ z2;rw [e] at e1; cases e1;exact e2
    obtain⟨more,hm⟩:=un.tbls TP #[] hHT;have hT':s'.heap.get? TP=some { cls:=.none,data:=.fields (#[]++more) }:=xK TP _ hm;refine⟨rfl,⟨fun b o e=>?_,fun b o e=>?_⟩,os,bare⟩
    ·by_cases pW:b=TP
     ·subst pW;rw [hT] at e; cases e;obtain⟨oc,vs',_,_,_,_,_,_,_,c1,c2,c3,c4,_⟩:=hC;exact .inr (.inl ⟨⟨cP,oc,vs',c1,c2,c3,c4⟩,rfl,#[],more,rfl,hT'⟩)
     ·exact .inl (keep b o pW e)
    ·by_cases pW:b=TP
     ·subst pW; exact⟨_,hT'⟩
     ·exact⟨o,keep b o pW e⟩
 have xM:∀ (H:Hp),zO P w H s₁.heap TP (.tbl #[]):=fun H=>hT
 cases hk:K.lookup a with
 | some o =>
  have e:=KX a o hk;rw [ha] at e;cases e;refine core (fun b=>if b=TP then some (.tbl #[]) else none) (fun b hb=>.inl (if_neg hb)) (if_pos rfl) (.inr ⟨_,vs.toArray,_,hk,rfl,rfl,rfl,by rw [aq,Bv]; exact hl,by simpa using rv⟩) (fun b u z=>?_) (fun b z=>?_) fun z=>absurd (if_neg haT) z
  ·by_cases hb:b=TP
   ·have z':=(if_pos hb).symm.trans z;cases z';subst hb;exact xM _
   ·have z':=(if_neg hb).symm.trans z;cases z'
  ·by_cases hb:b=TP
   ·exact .inr hb
   ·exact absurd (if_neg hb) z
 | none =>
  have mo:∀ {o:HO},(if a=TP then some (HO.tbl #[]) else if a=a then some o else none)=some o:=fun {o}=>by rw [if_neg haT,if_pos rfl]
  refine core (fun b=>if b=TP then some (.tbl #[]) else if b=a then some (.frz { cls:=.type "list",data:=.seq vs.toArray } (.lst (ns.map V.int))) else none) (fun b pW=>?_) (if_pos rfl) (.inl (.inr ⟨{ cls:=.type "list",data:=.seq vs.toArray },mo⟩)) (fun b u z=>?_) (fun b z=>?_) fun _=>hk
  ·by_cases hb:b=a
   ·exact .inr ⟨_,_,by rw [if_neg pW,if_pos hb]⟩
   ·exact .inl (by rw [if_neg pW,if_neg hb])
  ·by_cases pW:b=TP
   ·have z':=(if_pos pW).symm.trans z;cases z';subst pW;exact xM _
   ·have z1:=(if_neg pW).symm.trans z;by_cases hb:b=a
    ·have z':=(if_pos hb).symm.trans z1;cases z';subst hb;exact⟨ha,by rw [ae]; exact hl,vs,_,rv,ha⟩
    ·have z':=(if_neg hb).symm.trans z1;cases z'
  ·by_cases pW:b=TP
   ·exact .inr pW
   ·by_cases hb:b=a
    ·exact .inl hb
    ·exact absurd (by rw [if_neg pW,if_neg hb]) z
theorem zkf {l:iF} {n k:Nat} {q:Program} {loose:List Str} {XP:(Str→Option Value)→Heap→Prop} {YP:World→Heap→Prop} {d:DefRec} {K:Params→ag} {CX:World→CXT} {sp:World→Sp} {x:Str} {TP cP:Addr}
  (hn:l.most=some n) (qX:n≤sizeLine) (w6:d.params.defaults = []) (hr:Room k callerA)
  (hY:∀ (w:World) (h:Heap),YP w h→(K w.params).In h∧h.get? TP=some (tabObj #[])) (xI:∀ w:World,(K w.params).lookup TP=none) (Bw:∀ w:World,codeHdIn (K w.params) cP TP=true)
  (F:∀ (w:World) (mg:Str→Option Value) (fa:Addr) (h:Heap),(K w.params).In h→h.Ns mainGlobals mg→mg d.name=some (.ref fa) →
   ∃ fd:FuncData,(∀ (s:Shared) (u:Value),BindsTo s fd ⟨[u],[]⟩ [(x,u)]) ∧
    ∀ base:Heap,(K w.params).In base→base.Ns mainGlobals mg→zd6 mg base→FnOk l.prog w (K w.params) mg base (CX w) k fa fd [x] (sp w))
  (pR:∀ (w:World) (H:Hp) (a:Addr) (ns:List Int),ns.length≤n→H TP=some (.tbl #[])→l8 (K w.params) H a (ns.map V.int)→sp w [.ref a] H (fun v _=>v = .bl true) fun _ _ _=>False)
  (Bu:∀ (w:World) (H:Hp) (s:Shared) (e:Value) (s':Shared),CX w [] H s (fun _ _ _=>False) e s'→False) :
  lH q loose XP YP l.row.toRowW d [] (fun f vs=>kX f vs):=by
 refine Att.attach_call hn w6 fun w s₀ s₁ mg mb fa o pm cd doc a vs ns G Y ho hd oq qz vc hints mi hg=>?_
 obtain⟨KX,hT⟩:=hY w _ Y;obtain⟨fd,hb,hF⟩:=F w mg fa _ KX G.T.g qz;exact ziH KX G.T.g G.T.b G.T.builtins G.T.nolimit hg vc hints (bg mi qX) hr hT (xI w) (codeHd_of_K KX (Bw w)) G.T.bmain hF hb (fun H hO hS=>pR w H a ns mi hO hS) fun H e s'=>Bu w H s₁ e s'
def TabOf (K:ag) (f TP:Addr):Prop:=∀ o fd,K.lookup f=some o→o.data = .func fd→∃ c,fd.code = .ref c∧codeHdIn K c TP=true
theorem zmK {K:ag} {f c TP:Addr} {oc:Value} {od:Option Addr} {sl:Array (Option Value)} {fd:FuncData} (l:K.lookup f=some ⟨oc,od,.func fd,sl⟩) (e:fd.code = .ref c) (h:codeHdIn K c TP=true):TabOf K f TP:=fun o fd' l' d=>by
 rw [l] at l';cases l';cases d;exact⟨c,e,h⟩
structure LamFr (sc:Scope) (x y:Str) (ar:Arguments):Prop where
 kind:sc.kind = .function
 co:sc.isCoroutine=false
 gen:sc.isGenerator=false
 loc:sc.names.lookup x=some .local
 fre:sc.names.lookup y=some .free
 len:sc.names.lookup ("len" : Str)=some NameKind.globalImplicit
 nocell:∀ z∈sc.names,z.2≠.cell
 only:∀ z∈sc.names,z.2 = .free→z.1=y
 bind:∀ (name q:Str) (body:Expr) (cl:List (Str×Addr)) (pm cd ct u:Value),bindArgs (kla_fn name q ar body sc cl pm cd ct) ⟨[u],[]⟩=pure [(x,u)]
 dflt:∀ env,defaultsOf ar env=([],[])
abbrev TKd (P:Program) (w:World):=tupleKind (zak P w)
theorem zbC {P:Program} {w:World} {h h':Heap} {d:Addr} {xs:List (List Key×Addr×Value)} (x:h.DictOfH (TKd P w) d xs) (k:∀ b o,h.get? b=some o→h'.get? b=some o):h'.DictOfH (TKd P w) d xs:=by
 obtain⟨o,es,ep,ho,hx,hd,he,wz,hn⟩:=x;refine⟨o,es,ep,k _ _ ho,hx,hd,he,fun z hz=>?_,hn⟩;obtain⟨o,lY,n,h1,r⟩:=wz z hz;exact⟨o,lY,n,k _ _ h1,r⟩
theorem zdK {P:Program} {w:World} {h h':Heap} {a:Addr} {ks:List Key} (x:(TKd P w).is h ks a) (k:∀ b o,h.get? b=some o→h'.get? b=some o):(TKd P w).is h' ks a:=by
 obtain⟨o,lY,n,h1,r⟩:=x;exact⟨o,lY,n,k _ _ h1,r⟩
theorem zlp {P:Program} {w:World} {A:Around} {s:Shared} {f c' a c d l b:Addr} {name q x y:Str} {ar:Arguments} {sc:Scope} {oB:List (Str×Addr)} {pm rf:Value} {p1 p2 p3 p4 p5:Pos} {mg mb:Str→Option Value} {k:List Key} {xs:List (List Key×Addr×Value)} {lY:Array Value} {Q:Value→Shared→Prop} {E:Value→Shared→Prop}
  (S:LamFr sc x y ar) (hx:(x == ("__debug__" : Str))=false) (hy:(y == ("__debug__" : Str))=false) (wC:(y == ("__classdict__" : Str))=false) (Bx:A.depth < recursionLimit) (hu:A.units+9 < cLine) (lim:s.heap.NoLimit)
  (ho:s.heap.get? f=some (kla_obj name q ar (.Call (.Name "len" p1) [.Subscript (.Name y p2) (.Name x p3) p4] [] p5) sc oB pm c' rf)) (oq:s.heap.CodeRec (.ref c') q)
  (hc:oB.lookup y=some c) (nv:s.heap.IsCell c (some (.ref d))) (hg:s.heap.Ns mainGlobals mg) (qz:mg "len" = none) (hb:s.heap.Ns builtinsNs mb) (hmb:mb "len" = some (.builtin "len"))
  (hk:(TKd P w).is s.heap k a) (dd:s.heap.DictOfH (TKd P w) d xs) (hp:atKey xs k=some (b,.ref l)) (hl:s.heap.IsList l lY) (hz:lY.size≤sizeLine)
  (h:∀ (h':Heap) (tk:Nat) (t':Tok),(∀ b o,s.heap.get? b=some o→h'.get? b=some o)→Q (.int lY.size t') { s with heap:=h',toks:=tk }) :
  wpAny (model P w) A (call (.ref f) [.ref a]) Q E s:=by
 refine fe (kla_callFunE Bx ho rfl S.co S.gen rfl oq ?_);rw [S.bind];refine af (wpAny_newFunctionEnv S.nocell (fun z hz=>?_) (fun h₁ vq qV=>⟨lim.fresh _ qV,?_⟩) S.kind)
 ·have e:z=(x,aK a):=by simpa using hz
  rw [e]; exact S.loc
 have k1:∀ b o,s.heap.get? b=some o→h₁.get? b=some o:=fun b o e=>qV.extBut b o (aL (av e)) (aj _ e)
 refine kla_codeExpr ?_;refine cg (eJ S.kind S.len (hU (hg.keeps k1) qz (hb.keeps k1) hmb ?_));refine callWith_builtin1 (dv (zho PySem.F.slot_dict_getitem.lookup (fun _ _=>rfl) (g8 (jy S.kind S.fre hc (nv.keeps k1) (g8 (jf S.kind S.loc vq (v:=.ref a) ?_ ⟨(zbC dd k1).typeIs,?_⟩) hx) wC) hy))) (by rfl) (by rfl)
 ·simp
 refine jW (knd:=TKd P w) (gD (by rw [Around.deeper_units]; lia)) (zdK hk k1) (zbC dd k1) hp (d8 ?_);have ue:h₁.IsList l lY:=by obtain⟨o,e,r⟩:=hl; exact⟨o,k1 _ _ e,r⟩
 have:=zeJ;exact jz ue #[O] (h _ _ _ k1)
abbrev Kep (h h':Heap):Prop:=∀ b o,h.get? b=some o→h'.get? b=some o
theorem ziI {P:Program} {w:World} {A:Around} {s:Shared} {h2:Heap} {d I S q:Addr} {es:Array DictEntry} {ep:Nat} {R:Result→Shared→Prop} (kf:Nat→Int) (hh:A.handled=none) (hm:zd4 h2 d es ep) (hI:h2.objs.size≤I) (hS:h2.objs.size≤S) (vL:S≠I)
  (turn:∀ (i:Nat) (e:DictEntry),es[i]? = some e→∀ (h:Heap) (tk:Nat),Kep h2 h→wpAny (model P w) A.in1 (call (.ref q) [e.key]) (fun x s'=>∃ h' rK t,x = .int (kf i) t∧s' = { s with heap:=h',toks:=rK }∧Kep h h') (fun _ _=>False) { s with heap:=h,toks:=tk })
  (hR:∀ i e h' rK,es[i]? = some e→(∀ j,j < es.size→kf j≤kf i)→Kep h2 h'→R (.ok (.ret e.key)) { s with heap:=h',toks:=rK }) :
  ∀ (r j i:Nat) (h:Heap) (tk:Nat) (e:DictEntry) (tb:Tok) (c:Nat),es.size - (j+1)=r→j+1≤es.size→Kep h2 h→h.get? S=some (seqObj "list" #[e.key,.int (kf i) tb] c)→h.IsKeyIter I d (j+1) es.size ep→es[i]? = some e→(∀ j',j'≤j→kf j'≤kf i) →
   codeAny (model P w) A (.builtin "max.loop" ⟨[.ref I,.ref q,.ref S],[]⟩) R { s with heap:=h,toks:=tk }:=by
 (have pX:(toString "max"++toString ".loop" : String) = "max.loop":=by decide)
 have old:∀ b o,h2.get? b=some o→b≠I∧b≠S:=fun b o e=>⟨aL (aJ (av e) hI),aL (aJ (av e) hS)⟩
 intro r;induction r with
 | zero =>
  intro j i h tk e tb c hr hj hk hs hit he hb
  (refine cC fG ?_)
  (rw [ck cu _])
  (show wpAny _ A.in1 (seqItems? (.ref S) >>= _) _ _ _)
  refine aa (fj hs rfl ?_)
  (show wpAny _ A.in1 (tryCatch (pyNext (.ref I)) _ >>= _) _ _ _)
  refine aa (eA (zlg (s:={ s with heap:=h,toks:=tk }) hh hit (hm.at' fun o e=>hk _ _ e) #[O] fun h' hx=>?_));have mS:h'.get? S=some (seqObj "list" #[e.key,.int (kf i) tb] c):=hx _ _ vL hs
  (have s1:=be h' S (bS fun _=>(#[]:Array Value)))
  (show wpAny _ A.in1 (updateSeq S (fun _=>#[]) >>= _) _ _ _)
  refine aa ?_;refine eU mS rfl (aa (iO (af ?_)));exact hR i e _ _ he (fun j' nN=>hb j' #[O]) fun b o z=>(s1.2 b (old b o z).2).trans (hx _ _ (old b o z).1 (hk b o z))
 | succ r ih =>
  intro j i h tk e tb c hr hj hk hs hit he hb;have ml:j+1 < es.size:=by lia
  (refine cC fG ?_)
  (rw [ck cu _])
  (show wpAny _ A.in1 (seqItems? (.ref S) >>= _) _ _ _)
  refine aa (fj hs rfl ?_)
  (show wpAny _ A.in1 (tryCatch (pyNext (.ref I)) _ >>= _) _ _ _)
  refine aa (eA (zfR (s:={ s with heap:=h,toks:=tk }) hit (hm.at' fun o e=>hk _ _ e) (getElem?_pos es (j+1) ml) fun h' pV sb=>?_));have qC:Kep h2 h':=fun b o z=>(sb.2 b (old b o z).1).trans (hk b o z)
  have wA:h'.get? S=some (seqObj "list" #[e.key,.int (kf i) tb] c):=(sb.2 S vL).trans hs;show wpAny _ A.in1 (tryCatch (holding [es[j+1].key] (call (.ref q) [es[j+1].key])) _ >>= _) _ _ _;refine aa (eA (bD (bE (turn (j+1) _ (getElem?_pos es (j+1) ml) h' tk qC) (fun x t8 hx=>?_) fun _ _ hF=>hF.elim)));obtain⟨h3,wG,t3,rfl,rfl,k3⟩:=hx;have sU:Kep h2 h3:=fun b o z=>k3 _ _ (qC _ _ z)
  have wH:=k3 _ _ wA;have uk:h3.IsKeyIter I d (j+1+1) es.size ep:=pV.at fun o z=>k3 _ _ z
  show wpAny _ A.in1 (tryCatch (holding [es[j+1].key,.int (kf (j+1)) t3] (richCompare .Gt (.int (kf (j+1)) t3) (.int (kf i) tb) >>= _)) _ >>= _) _ _ _;refine aa (eA (bD (aa (CmpOf.ints_gt (prog:=P) (w:=w) (A:=A.in1) (P:=fun i v=>∃ t,v = .int (kf i) t) kf (fun i v h=>h) (j+1) i _ _ _ _ _ ⟨t3,rfl⟩ ⟨tb,rfl⟩ ?_))))
  (refine aa (bD (cM ?_)))
  (refine aa (iO (af ?_)))
  (by_cases oZ:kf (j+1) > kf i)
  ·have s1:=be h3 S (bS fun _=>#[es[j+1].key,.int (kf (j+1)) t3]);obtain⟨c2,vM⟩:∃ c2,(h3.update S (bS fun _=>#[es[j+1].key,.int (kf (j+1)) t3])).get? S=some (seqObj "list" #[es[j+1].key,.int (kf (j+1)) t3] c2):=⟨_,iE wH fun _=>#[es[j+1].key,.int (kf (j+1)) t3]⟩
   (simp only [oZ,decide_true,if_true])
   refine aa ?_;refine eU wH rfl (aa (iO ?_));rw [pX];refine af ⟨dD cu _,ih (j+1) (j+1) _ _ es[j+1] t3 c2 #[O] ml (fun b o z=>(s1.2 b (old b o z).2).trans (sU b o z)) vM (uk.at fun o z=>(s1.2 I vL.symm).trans z) (getElem?_pos es (j+1) ml) fun j' nN=>?_⟩;by_cases e1:j'=j+1
   ·rw [e1]; exact bX _
   ·have:=hb j' #[O];lia
  ·simp only [oZ,decide_false,aC,if_false];refine aa (iO ?_);rw [pX];refine af ⟨dD cu _,ih (j+1) i _ _ e tb c #[O] ml sU wH uk he fun j' nN=>?_⟩;by_cases e1:j'=j+1
   ·rw [e1]; lia
   ·exact hb j' #[O]
theorem znR {P:Program} {w:World} {A:Around} {s:Shared} {d q:Addr} {es:Array DictEntry} {ep:Nat} {Q E:Value→Shared→Prop} (kf:Nat→Int) (hh:A.handled=none) (hd:(d == sysModules)=false) (hm:zd4 s.heap d es ep) (mo:0 < es.size)
  (turn:∀ (i:Nat) (e:DictEntry),es[i]? = some e→∀ (h:Heap) (tk:Nat),Kep s.heap h→wpAny (model P w) A.in1 (call (.ref q) [e.key]) (fun x s'=>∃ h' rK t,x = .int (kf i) t∧s' = { s with heap:=h',toks:=rK }∧Kep h h') (fun _ _=>False) { s with heap:=h,toks:=tk })
  (hQ:∀ i e h' rK,es[i]? = some e→(∀ j,j < es.size→kf j≤kf i)→Kep s.heap h'→Q e.key { s with heap:=h',toks:=rK }) :
  wpAny (model P w) A (call (.builtin "max") [.ref d] [(bJ "key",.ref q)]) Q E s:=by
 (have pX:(toString "max"++toString ".loop" : String) = "max.loop":=by decide)
 (refine kmk_tree PySem.F.kind_max PySem.F.plain_max PySem.F.entry_max (kmk_max_key _ _) ?_)
 (show wpAny _ A.in1 (gG "max" ["key","default"] 0 ⟨[],[(bJ "key",.ref q)]⟩ >>= _) _ _ s)
 (refine aa (dn (show gG "max" ["key","default"] 0 ⟨[],[(bJ "key",.ref q)]⟩=pure [some (.ref q),none] from rfl) ?_))
 refine aa (af ?_);refine aa (zj8 hd hm ?_)
 (refine aa (jw ?_ (bi _)))
 rw [pX]
 (refine af ⟨dD cu _,?_⟩)
 generalize hI:({ cls:=eB "dict_keyiterator",data:=iI #[.ref d,.int 0 0,.int es.size 0,.int ep 0] }:Obj)=oI;have zS:(s.heap.push oI).objs.size=s.heap.objs.size+1:=size_push' ..;have vL:(s.heap.push oI).objs.size≠s.heap.objs.size:=by rw [zS]; exact dL (fN _)
 have k0:Kep s.heap ((s.heap.push oI).push (seqObj "list" #[] 0)):=fun b o e=>aj _ (aj _ e)
 have gS:((s.heap.push oI).push (seqObj "list" #[] 0)).get? (s.heap.push oI).objs.size=some (seqObj "list" #[] 0):=aB _ rfl;have gI:((s.heap.push oI).push (seqObj "list" #[] 0)).IsKeyIter s.heap.objs.size d 0 es.size ep:=⟨oI,aj _ (aB _ (by subst hI; rfl)),by subst hI; rfl,by subst hI; rfl⟩;have old:∀ b o,s.heap.get? b=some o→b≠s.heap.objs.size∧b≠(s.heap.push oI).objs.size:=fun b o e=>⟨aL (av e),by rw [zS]; exact aL (cN (av e))⟩
 (refine cC fG ?_)
 (rw [ck cu _])
 (show wpAny _ A.in1 (seqItems? (.ref _) >>= _) _ _ _)
 (refine aa (fj gS rfl ?_))
 (show wpAny _ A.in1 (tryCatch (pyNext (.ref s.heap.objs.size)) _ >>= _) _ _ _)
 refine aa (eA (zfR (s:={ s with heap:=(s.heap.push oI).push (seqObj "list" #[] 0) }) gI (hm.at' fun o e=>k0 _ _ e) (getElem?_pos es 0 mo) fun h' pV sb=>?_));have qC:Kep s.heap h':=fun b o z=>(sb.2 b (old b o z).1).trans (k0 b o z)
 have wA:=(sb.2 _ vL).trans gS;show wpAny _ A.in1 (tryCatch (holding [es[0].key] (call (.ref q) [es[0].key])) _ >>= _) _ _ _;refine aa (eA (bD (bE (turn 0 _ (getElem?_pos es 0 mo) h' _ qC) (fun x t8 hx=>?_) fun _ _ hF=>hF.elim)));obtain⟨h3,wG,t3,rfl,rfl,k3⟩:=hx;have wH:=k3 _ _ wA;have uk:h3.IsKeyIter s.heap.objs.size d (0+1) es.size ep:=pV.at fun o z=>k3 _ _ z
 have s1:=be h3 (s.heap.push oI).objs.size (bS fun _=>#[es[0].key,.int (kf 0) t3]);obtain⟨c2,vM⟩:∃ c2,(h3.update (s.heap.push oI).objs.size (bS fun _=>#[es[0].key,.int (kf 0) t3])).get? (s.heap.push oI).objs.size=some (seqObj "list" #[es[0].key,.int (kf 0) t3] c2):=⟨_,iE wH fun _=>#[es[0].key,.int (kf 0) t3]⟩;show wpAny _ A.in1 (updateSeq (s.heap.push oI).objs.size (fun _=>#[es[0].key,.int (kf 0) t3]) >>= _) _ _ _;refine aa ?_;refine eU wH rfl ?_;rw [pX];refine af ⟨dD cu _,ziI kf hh hm (ah _) (by rw [zS]; exact ku _) vL turn hQ _ 0 0 _ _ es[0] t3 c2 rfl mo (fun b o z=>(s1.2 b (old b o z).2).trans (k3 _ _ (qC b o z))) vM (uk.at fun o z=>(s1.2 _ vL.symm).trans z) (getElem?_pos es 0 mo) fun j' nN=>?_⟩;have e:j'=0:=by lia
 rw [e]; exact bX _
theorem ziJ {prog:Program} {w:World} {K:Type} [DecidableEq K] {knd:HeapKind prog w K} {A:Around} {E:Value→Shared→Prop} {s:Shared} {d a:Addr} {xs:List (K×Addr×Value)} {k:K} {v:Value} {Q:Value→Shared→Prop} (hu:knd.room A) (nr:knd.is s.heap k a) (hm:s.heap.DictOfH knd d xs) (hsz:xs.length≤sizeLine)
  (h1:∀ p,atKey xs k=some p→Q p.2 { s with toks:=s.toks+knd.draws k })
  (h2:atKey xs k=none→∀ h',h'.DictOfH knd d (xs++[(k,a,v)])→cS d s.heap h'→Q v { s with heap:=h',toks:=s.toks+knd.draws k }):wpAny (model prog w) A (dictSetDefault d (.ref a) v) Q E s:=by
 (obtain⟨o,es,ep,ho,hc,hd,he,wz,hn⟩:=hm)
 unfold dictSetDefault;refine bD (aa (knd.pyHash hu nr ?_));refine aa (wpAny_dictFind_heap (s:={ s with toks:=s.toks+knd.draws k }) hu nr ho hd he wz hn (fun hno=>?_) fun j p hj=>?_)
 ·have e0:=atKey_none_of_get hno;have e1:=storedH_new (a:=a) (v:=v) e0;refine aa (cU (aa (wpAny_updateDictKeys (hz:=by have e:=size_of_entries he; lia) (s:={ s with toks:=s.toks+knd.draws k }) ho hd (af (h2 e0 _ ⟨_,_,ep+1,bK _ ho (Obj.isFreed_of_dict (jn hd _)),hc.mapDictKeys _,jn hd _,?_,fun x hx=>?_,?_⟩ (be ..))))))
  ·simp [he,entryOfKey]
  ·rcases aR.mp hx with hx | hx
   ·exact (knd.keeps (wz x hx) ho hd (be ..) :)
   ·obtain rfl:=aA.mp hx;exact (knd.keeps nr ho hd (be ..) :)
  ·rw [aN];refine ca.mpr ⟨hn,#[M],fun x hx y hy e=>not_mem_keys_of_get hno ?_⟩;have vd:y=k:=by simpa using hy
   rw [← vd,← e]; exact hx
 ·have e0:=atKey_of_get hn hj
  (refine aa (fq (s:={ s with toks:=s.toks+knd.draws k }) ho hd ?_))
  rw [entry_at he j,hj];exact aa (cU (af (h1 p e0)))
theorem zgH {prog:Program} {w:World} {K:Type} [DecidableEq K] (knd:HeapKind prog w K) (d a:Addr) (hd:(d == sysModules)=false) (v:Value) :
  MeetsIn prog w (Builtin.«dict.setdefault» ⟨[.ref d,.ref a,v],[]⟩) (fun A R s=>knd.room A.in1∧∃ k xs,knd.is s.heap k a∧s.heap.DictOfH knd d xs∧xs.length≤sizeLine ∧
   (∀ p,atKey xs k=some p→R (.ok (.ret p.2)) { s with toks:=s.toks+knd.draws k }) ∧
   (atKey xs k=none→∀ h',h'.DictOfH knd d (xs++[(k,a,v)])→cS d s.heap h'→R (.ok (.ret v)) { s with heap:=h',toks:=s.toks+knd.draws k })) :=
 .of_wp fun A R s ⟨hu,k,xs,nr,hm,hz,h1,h2⟩=>by
  (unfold Builtin.«dict.setdefault»)
  refine aa ?_
  (unfold Builtin.Dict.keyAndDefault)
  (refine aa (iY hm.typeIs ?_))
  show wpAny _ _ (pure (d,aK a,some v)) _ _ s;refine af ?_;show wpAny _ _ (if (d == sysModules)=true then _ else (dictSetDefault d (.ref a) v >>= _)) _ _ s
  (rw [if_neg (by rw [hd]; exact aM)])
  exact aa (ziJ hu nr hm hz (fun p hp=>af ⟨p.2,rfl,h1 p hp⟩) fun hn h' uc mS=>af ⟨v,rfl,h2 hn h' uc mS⟩)
def zmL (td ty tx:TE):TE:=fun σ H Q=>td σ H fun x H1=>∃ a,x = .ref a∧IsD H1 a∧ty σ H1 fun y H2=>tx σ H2 fun z H3=>∃ l6 k b,H3 a=some (.dT l6)∧y = .ref b∧H3 b=some (.tup (k.map kV))∧l6.length < sizeLine ∧
 ∃ R:V→Hp→Prop,(∀ v,zaW l6 k=some v→R v H3)∧(zaW l6 k=none→R z (l7 H3 a (.dT (l6++[(k,z)]))))∧∀ v H',R v H'→Q v H'
theorem zkg {X:Cx} {o e f:Expr} {apos mC:Pos} {td ty tx:TE} (hu:X.A.units+1 < cLine) (ho:PE X o td) (he:PE X e ty) (hf:PE X f tx) (m:M2 X o "setdefault" apos e f mC):PE X (.Call (.Attribute o "setdefault" apos) [e,f] [] mC) (zmL td ty tx):=by
 intro lX s σ H Q I h;refine wpAny_Call_method m.base m.few m.line PySem.F.plainAttrs_dict gq PySem.F.type_dict_setdefault (thn (ho lX s σ H _ I h) fun u s1 ⟨x,H1,I1,rx,a,ex,d,q1⟩=>?_);subst ex;obtain rfl:u=aK a:=rx;obtain⟨t1,t2,_⟩:=zmC I1 d;refine⟨t1,t2,?_⟩;rw [m.trees];refine iL rfl (fZ (dv (thn (he lX s1 σ H1 _ I1 q1) fun iv s2 ⟨y,H2,I2,ry,q2⟩=>dv (thn (hf lX s2 σ H2 _ I2 q2) fun fv s3 ⟨z,H3,I3,rz,l6,k,b,hd,ey,hb,hl,R,q3,q4,q5⟩=>d8 ?_))));subst ey;obtain rfl:iv=aK b:=ry;obtain⟨hz,rC,xs,rel,dd⟩:=zlW I3.hok hd;have hzx:xs.length≤sizeLine:=by rw [← gJ rel]; exact hz
 refine call_meetsIn gq dd.typeIs PySem.F.entry_dict_setdefault (PySem.F.args_dict_setdefault_3 _ _ _) (zgH (tupleKind (zak X.prog X.w)) a b rC fv) ⟨gD hu,k,xs,zeX I3.hok hb,dd,hzx,fun p hp=>?_,fun hn h' dd' mS=>?_⟩
 ·have rv:=rel.val k;rw [hp] at rv;cases ev:zaW l6 k with
  | none=>rw [ev] at rv; exact (rv.elim :)
  | some v=>rw [ev] at rv; exact⟨v,H3,I3.tok _,rv,q5 _ _ (q3 v ev)⟩
 ·have rv:=rel.val k;rw [hn] at rv;cases ev:zaW l6 k with
  | some v=>rw [ev] at rv; exact (rv.elim :)
  | none =>
   have um:=rel.put k hb rz;rw [zjT z ev,storedH_new hn] at um;obtain⟨q,es,ep,hq,h2,h3,h4,_,h5⟩:=dd';exact⟨z,_,zk8 (ob:=.dT (l6++[(k,z)])) I3 (by rw [hd]; exact eD) mS ⟨q,hq⟩ ⟨by rw [aF]; exact hl,rC,_,um.keeps fun c ys e=>by rw [zi (zm1 e hd (by intro z; cases z))]; exact e,q,es,ep,hq,h2,h3,h4,h5⟩,rz,q5 _ _ (q4 ev)⟩
def znm (P:Addr) (pos:Pos) (q:Str) (i:Nat) (te:TE):TE:=fun σ H Q=>te σ H fun v H1=>∃ (d:Addr) (l6:List (List Key×V)),v = .ref d∧σ[i]? = some (some (.ref d))∧H1 d=some (.dT l6)∧l6≠[]∧(∀ kv∈l6,∃ l xs,kv.2 = .ref l∧H1 l=some (.lst xs))∧TbI P pos q H1 ∧
 ∀ (b:Addr) (k:List Key) (l:Addr) (xs:List V) (H2:Hp),(k,V.ref l)∈l6→H1 l=some (.lst xs)→(∀ kv∈l6,∀ l' wI,kv.2 = .ref l'→H1 l'=some (.lst wI)→wI.length≤xs.length)→H2 b=some (.tup (k.map kV)) →
  (∀ b,b≠P→∀ o,H1 b=some o→H2 b=some o)→TbI P pos q H2→Q (.ref b) H2
theorem zch {α β:Type} {F:α→β→Prop}:∀ {l₁:List α} {l₂:List β},Paired F l₁ l₂→∀ {i:Nat} {b:β},l₂[i]? = some b→∃ a,l₁[i]? = some a∧F a b
 | _,_,.nil,i,b,h=>by simp at h
 | _,_,.cons r t,0,b,h=>by
  (simp only [dS,fw] at h)
  subst h;exact⟨_,rfl,r⟩
 | _,_,.cons r t,i+1,b,h=>by
  rw [bN] at h;obtain⟨a,h1,h2⟩:=zch t h;exact⟨a,by rw [bN]; exact h1,h2⟩
theorem zlq {X:Cx} {P c:Addr} {e:Expr} {te:TE} {x y:Str} {ar:Arguments} {sc:Scope} {p pos kp lp p1 p2 p3 p4 p5:Pos} {i:Nat} (rd:X.env.code = .ref c) (hK:codeHdIn X.K c P=true) (hB:zd6 X.mg X.base) (S:LamFr sc x y ar)
  (By:X.env.kindOf y=some .cell) (hyN:X.N[i]? = some y) (xN:X.calm=true) (Bx:X.A.depth < recursionLimit) (hu:X.A.units+20 < cLine) (hg:Gl X "max") (hm:X.mg "max" = none) (Bz:X.mg "len" = none) (he:PE X e te)
  (hx:(x == ("__debug__" : Str))=false:=by decide) (hy:(y == ("__debug__" : Str))=false:=by decide) (wC:(y == ("__classdict__" : Str))=false:=by decide)
  (n9:backTo pos (starEach [e] X.env) = [(false,eval e X.env)]:=by rfl) :
  PE X (.Call (.Name "max" p) [e] [⟨some "key",.Lambda ar (.Call (.Name "len" p1) [.Subscript (.Name y p2) (.Name x p3) p4] [] p5) sc lp,kp⟩] pos) (znm P lp (X.env.qual++"<lambda>") i te):=by
 intro lX s σ H Q I h;refine cg (zbc I hg hm boot_max ?_);refine callWith_kw ?_ (by rw [n9]; rfl) (by rw [n9]; rfl);rw [n9];refine dv (thn (he lX s σ H _ I h) fun v s1 ⟨z,H1,I1,r1,d,l6,ey,qm,hd,mo,hls,hT,q1⟩=>?_);subst ey;obtain rfl:v=aK d:=r1;have pQ:∀ z∈sc.names,z.2 = .free→∃ c,X.env.cells.lookup z.1=some c:=fun z hz hf=>by
  rw [S.only z hz hf]; exact I1.ok.has y (.inl By)
 have pd:=zbf pQ;refine d8 (kws_cons (kla_eval (S.dflt _) (zke I1 rd hK hB pd hT fun f c' rf H2 h2 tk I2 s2 xO hf vJ hfs wg hfL=>kws_nil ?_)));show wpAny _ _ (call (.builtin "max") [.ref d] [(bJ "key",.ref f)]) _ _ _;have neP:∀ b o,H1 b=some o→(∀ ps,o≠.tbl ps)→b≠P:=fun b o e1 nt z=>by
  obtain⟨ps,hP,_⟩:=hT;rw [z,hP] at e1;exact nt ps (aX e1).symm
 have hd2:=s2 d (neP d _ hd (fun _ z=>by cases z)) _ hd;obtain⟨m,vq,BA⟩:=id I2.loc;obtain⟨u,ru,lk⟩:=BA i y (.ref d) hyN qm (.inr (.inl By));obtain rfl:u=aK d:=ru;rcases lk with ⟨hk,_⟩ | ⟨_,cc,nG,nv⟩
 ·rw [By] at hk; cases hk
 have BB:(zR X.env.cells sc.names []).lookup y=some cc:=by
  obtain⟨c1,e1⟩:=za2 (cs:=X.env.cells) sc.names [] y (.inr (lookup_mem S.fre));have e2:=zaL sc.names [] pQ (fun x c z=>by simp at z) y c1 e1;rw [nG] at e2;cases e2;exact e1
 obtain⟨hz,rC,xs,rel,o,es,ep,ho,hxd,hed,uo,pP⟩:=I2.hok d _ hd2;obtain⟨_,_,wI,um,dd⟩:=zlW I2.hok hd2;have hxe:wI=xs:=by
  obtain⟨o',es',yI,pJ,_,pK,sN,_⟩:=dd;have rA:h2.get? d=some o:=ho;have:h2.get? d=some o':=pJ;rw [rA] at this;cases this;rw [hed] at pK;cases pK;rw [uo] at sN;have inj:∀ {l m:List (List Key×Addr×Value)},KT H2 l6 l→KT H2 l6 m→l.map (entryOfKey (TKd X.prog X.w))=m.map (entryOfKey (TKd X.prog X.w))→m=l:=by
   generalize l6=ks;intro l m a;induction a generalizing m with
   | nil=>intro b _; cases b; rfl
   | cons h1 _ ih =>
    intro b e;cases b with
    | cons h2 t2 =>
     rw [aP,aP] at e;injection e with e1 e2
     rw [ih t2 e2];congr 1;unfold entryOfKey at e1;injection e1 with _ e3 e4
     injection e3 with e3
     exact kL (h2.1.symm.trans h1.1) (kL e3.symm e4.symm)
  exact inj rel um sN
 subst hxe;have mi:=gJ rel;have hsz:es.size=l6.length:=by
  have:=congrArg fB uo;rw [ae,aH] at this;lia
 have ent:∀ (j:Nat) (e:DictEntry),es[j]? = some e→∃ k a l ys,l6[j]? = some (k,V.ref l)∧e.key = .ref a∧atKey wI k=some (a,.ref l)∧H2 a=some (.tup (k.map kV))∧H1 l=some (.lst ys):=fun j e hj=>by
  have h':es.toList[j]? = some e:=by rw [aV]; exact hj
  rw [uo,az] at h';cases tQ:wI[j]? with
  | none=>rw [tQ] at h'; cases h'
  | some q =>
   rw [tQ] at h';have sN:e=entryOfKey (TKd X.prog X.w) q:=(aX h').symm;obtain⟨⟨k,vv⟩,e1,e2,e3,e4⟩:=zch rel tQ;obtain⟨l,ys,el,hl⟩:=hls _ (aO e1);obtain⟨qk,qa,qv⟩:=q;have vh:k=qk:=e2;have BC:vv=V.ref l:=el;subst vh BC;obtain rfl:qv=aK l:=e4;exact⟨k,qa,l,ys,e1,by rw [sN]; rfl,atKey_of_get pP tQ,e3,hl⟩
 have hw:∃ g:Nat→Int,∀ j k l ys,l6[j]? = some (k,V.ref l)→H1 l=some (.lst ys)→g j=ys.length:=by
  refine⟨fun j=>match l6[j]? with | some (_,.ref l)=>(match H1 l with | some (.lst ys)=>ys.length | _=>0) | _=>0,fun j k l ys h1 h2=>?_⟩;simp only [h1,h2]
 obtain⟨g,xP⟩:=hw;have BD:=I2.nolimit;obtain⟨mb,rD,sS⟩:=I2.mod.blt;refine znR (es:=es) (ep:=ep) (s:={ s1 with heap:=h2,toks:=tk }) g (I2.ok.hd xN) rC ⟨o,ho,hxd,hed⟩ (by rw [hsz]; exact List.length_pos_iff.mpr mo) (fun j e hj h3 wG k3=>?_) fun j e h3 wG hj uR k3=>?_
 ·obtain⟨k,a,l,ys,e1,e2,e3,e4,e5⟩:=ent j e hj;have qT:=s2 l (neP l _ e5 (fun _ z=>by cases z)) _ e5;obtain⟨lY,rv,pl,xQ⟩:=I2.list (l8.of qT);rw [e2];have AK:h2.IsList l lY.toArray:=pl.isList;have BE:h3.IsList l lY.toArray:=by obtain⟨o,e,r⟩:=AK; exact⟨o,k3 _ _ e,r⟩
  have uS:=rv.length;refine zlp (s:={ s1 with heap:=h3,toks:=wG }) (lY:=lY.toArray) S hx hy wC Bx (by simp only [dN]; lia) (BD.keeps k3) (k3 f _ hf) (vJ.keeps k3) BB (nv.keeps k3) ((I2.mod.glob.keeps I2.bk).keeps k3) Bz ((rD.keeps I2.bk).keeps k3) ((sS _ #[D]).trans cm) (zdK (zeX I2.hok e4) k3) (zbC dd k3) e3 BE (by rw [aq]; lia) fun h4 tk4 t4 k4=>?_
  exact⟨h4,tk4,t4,by rw [xP j k l ys e1 e5,aq,← uS],rfl,k4⟩
 ·obtain⟨k,a,l,ys,e1,e2,e3,e4,e5⟩:=ent j e hj;refine⟨.ref a,H2,I2.kept k3,by rw [e2]; rfl,?_⟩;refine q1 a k l ys H2 (aO e1) e5 (fun kv hkv l' BF el t5=>?_) e4 s2 xO;obtain⟨j',nN⟩:=cK hkv;have ml:j' < l6.length:=(aT.mp nN).1;obtain⟨k',v'⟩:=kv;have BC:v'=V.ref l':=el;subst BC;have:=uR j' #[O];rw [xP j k l ys e1 e5,xP j' k' l' BF nN t5] at this;lia
def znS (K:ag):R2:=fun x y H Q=>∃ p xs i z,x = .ref p∧y = .int i∧(l8 K H p xs∨mj K H p xs)∧atI xs i=some z∧Q z H
theorem znT {X:Cx} {K:ag} (hK:X.K=K):IxR X (znS K):=by
 subst hK;intro value slice lX s σ H x y v u Q I rx ry h hs;obtain⟨p,xs,i,z,h1,h2,h3,h4,h5⟩:=h;rcases h3 with h3 | h3
 ·exact zV value slice lX s σ H x y v u Q I rx ry ⟨p,xs,i,z,h1,h2,h3,h4,h5⟩ hs
 ·exact zcd value slice lX s σ H x y v u Q I rx ry ⟨p,xs,i,z,h1,h2,h3,h4,h5⟩ hs
theorem zd7 {X:Cx} {K:ag} (hK:X.K=K):za1 X (.type "list") (fun xs H Q=>∃ p ys,xs = [V.ref p]∧(l8 K H p ys∨mj K H p ys)∧∀ (l:Addr),H l=none→Q (V.ref l) (l7 H l (HO.lst ys))):=by
 subst hK; exact zeN
end L2
namespace My
open PySem L2 PyProof.Rows
def van (p:Int) (rs:List Int):List Int:=rs.foldl (fun c r=>zba p r c) [1]
theorem zdL (p:Int) (rs:List Int) (r:Int):van p (rs++[r])=zba p r (van p rs):=by
 unfold van; rw [kq]; rfl
theorem zf2 (p:Int):∀ (rs v:List Int),(rs.foldl (fun c r=>zba p r c) v).length=v.length+rs.length
 | [],v=>rfl
 | r :: rs,v=>by
  rw [eS,zf2 p rs,zcN,bq];lia
theorem zbZ (p:Int) (rs:List Int):(van p rs).length=rs.length+1:=by
 unfold van; rw [zf2,cD]; lia
theorem zf3 {p:Int} (hp:1 < p):∀ (rs v:List Int),(∀ c∈v,0≤c∧c < p)→∀ c∈rs.foldl (fun c r=>zba p r c) v,0≤c∧c < p
 | [],v,h=>h
 | r :: rs,v,h=>by
  rw [eS];exact zf3 hp rs _ (zjB #[O] v)
theorem zhG {p:Int} (hp:1 < p) (rs:List Int):∀ c∈van p rs,0≤c∧c < p:=zf3 hp rs _ fun c hc=>by
 rw [aA.mp hc]; lia
theorem zgI {p r z:Int} (v:List Int):Cg p (zm p z (zba p r v)) ((z - r)*zm p z v):=(zjA (p:=p) (r:=r) (z:=z) v 0).trans (Cg.of_eq #[O])
theorem zeB {p x:Int}:∀ (rs v:List Int),(Cg p (zm p x v) 0∨x∈rs)→Cg p (zm p x (rs.foldl (fun c r=>zba p r c) v)) 0
 | [],v,h=>h.elim id fun e=>by cases e
 | r :: rs,v,h=>by
  rw [eS];refine zeB rs _ ?_;rcases h with h | h
  ·exact .inl ((zgI v).trans (((Cg.refl p (x - r)).mul h).trans (Cg.of_eq #[O])))
  ·rcases au.mp h with e | e
   ·left;refine (zgI v).trans (Cg.of_eq ?_);rw [e];have:r - r=0:=by lia
    rw [this]; lia
   ·exact .inr e
theorem zdM {p x:Int} {rs:List Int} (h:x∈rs):Cg p (zm p x (van p rs)) 0:=zeB rs _ (.inr h)
theorem zf4 {p x:Int}:∀ (a b:List Int),Cg p (zm p x (a++b)) (zm p x a+zm p x (ap a.length 0++b))
 | [],b=>Cg.of_eq (by show zm p x b=0+zm p x b; lia)
 | c :: a,b=>by
  have h1:=zC p x c (a++b);have h2:=zC p x c a;have h3:=zC p x 0 (ap a.length 0++b);have ih:=zf4 (p:=p) (x:=x) a b;refine h1.trans (((Cg.refl p c).add ((Cg.refl p x).mul ih)).trans (Cg.symm ((h2.add h3).trans (Cg.of_eq ?_))));grind
def ngP (p:Int) (low:List Int):List Int:=low.map fun c=>-c % p
theorem zhH {p x:Int}:∀ (a:List Int),Cg p (zm p x (ngP p a)) (- zm p x a)
 | []=>Cg.of_eq (by show (0:Int) = -0; lia)
 | c :: a=>by
  have h1:=zC p x (-c % p) (ngP p a);have h2:=zC p x c a;have ih:=zhH (p:=p) (x:=x) a;refine h1.trans (((Cg.emod p (-c)).add ((Cg.refl p x).mul ih)).trans (Cg.symm ?_));have h3:=(Cg.refl p 0).sub h2;exact (Cg.of_eq #[O]).trans (h3.trans (Cg.of_eq (by grind)))
theorem zgJ {p:Int} {k:Nat} {low:List Int} (hp:0 < p) (hl:low.length=k):IsP p k (ngP p low):=⟨by unfold ngP; rw [ae]; exact hl,fun c hc=>by
 obtain⟨d,_,rfl⟩:=aG.mp hc;exact⟨a8 _ #[O],aU _ hp⟩⟩
def rowOf (p:Int) (k:Nat) (high pl:List Int):List Int:=pl.map fun x=>zm p x (ap k 0++high)
theorem zlr {p x:Int} (hp:0 < p) {rs low high:List Int} {k:Nat} (he:van p rs=low++high) (hl:low.length=k) (hx:x∈rs):zm p x (ngP p low)=zm p x (ap k 0++high):=by
 have h0:=zdM (p:=p) hx;rw [he] at h0;have h1:=(zf4 (p:=p) (x:=x) low high).symm.trans h0;rw [hl] at h1;have h2:Cg p (zm p x (ngP p low)) (zm p x (ap k 0++high)):=by
  refine (zhH low).trans ?_;have h3:=(Cg.refl p (zm p x (ap k 0++high))).sub h1;exact (Cg.of_eq #[O]).trans (h3.trans (Cg.of_eq #[O]))
 exact h2.eq (zaM hp _) (zaN hp _) (zaM hp _) (zaN hp _)
theorem zhI:∀ (pl rw:List Int),m8 pl (rw.map some)=pl.zip rw
 | [],_=>by unfold m8; simp
 | a :: pl,[]=>by unfold m8; simp
 | a :: pl,b :: rw=>by
  show (a,b) :: m8 pl (rw.map some)=_;rw [zhI pl rw]; rfl
theorem zhJ {p:Int} {k:Nat} {high:List Int}:∀ (pl:List Int),pl.zip (rowOf p k high pl)=pl.map fun x=>(x,zm p x (ap k 0++high))
 | []=>rfl
 | a :: pl=>by
  show (a,_) :: pl.zip (rowOf p k high pl)=_;rw [zhJ pl]; rfl
theorem ziK {p:Int} (hp:0 < p) {rs low high pl:List Int} {k:Nat} (he:van p rs=low++high) (hl:low.length=k) (hs:rs.Sublist pl):rs.length≤hits p (ngP p low) (m8 pl ((rowOf p k high pl).map some)):=by
 rw [zhI,zhJ];unfold hits;rw [iB,ae];have h1:=hs.filter (hit p (ngP p low) ∘ fun x=>(x,zm p x (ap k 0++high)));have h2:rs.filter (hit p (ngP p low) ∘ fun x=>(x,zm p x (ap k 0++high)))=rs:=List.filter_eq_self.mpr fun x hx=>by
  show decide (zm p x (ngP p low)=_)=true;exact decide_eq_true (zlr hp he hl hx)
 rw [h2] at h1;exact h1.length_le
abbrev Gt:=List (List Int×List (List Int))
def zdN (G:Gt) (key low:List Int):Gt:=if key∈G.map (·.1) then G.map (fun g=>if g.1=key then (g.1,g.2++[low]) else g) else G++[(key,[low])]
def Gof (k:Nat) (vs:List (List Int)):Gt:=vs.foldl (fun G v=>zdN G (v.drop k) (v.take k)) []
theorem zaw (k:Nat) (vs:List (List Int)) (v:List Int):Gof k (vs++[v])=zdN (Gof k vs) (v.drop k) (v.take k):=by
 unfold Gof; rw [kq]; rfl
theorem zls {G:Gt} {key low:List Int}:∀ g∈zdN G key low,∀ l∈g.2,(∃ g'∈G,g'.1=g.1∧l∈g'.2)∨(g.1=key∧l=low):=by
 intro g hg l hl;unfold zdN at hg;split at hg
 ·obtain⟨g',h1,h2⟩:=aG.mp hg;split at h2
  ·rename_i e
   subst h2;rcases aR.mp hl with h | h
   ·exact .inl ⟨g',h1,rfl,h⟩
   ·exact .inr ⟨e,aA.mp h⟩
  ·subst h2;exact .inl ⟨g',h1,rfl,hl⟩
 ·rcases aR.mp hg with h | h
  ·exact .inl ⟨g,h,rfl,hl⟩
  ·rw [aA.mp h] at hl ⊢;exact .inr ⟨rfl,aA.mp hl⟩
theorem zbD {k:Nat}:∀ (n:Nat) (vs:List (List Int)),vs.length=n→∀ g∈Gof k vs,∀ l∈g.2,∃ v∈vs,l=v.take k∧g.1=v.drop k
 | 0,vs,hn,g,hg,l,hl=>by
  rw [bh] at hn;subst hn;cases hg
 | n+1,vs,hn,g,hg,l,hl=>by
  have mo:vs≠[]:=fun e=>by rw [e] at hn; cases hn
  rw [← bo mo,zaw] at hg;rcases zls g hg l hl with ⟨g',h1,h2,h3⟩ | ⟨h1,h2⟩
  ·obtain⟨v,e1,e2,e3⟩:=zbD n vs.dropLast (by rw [bV]; lia) g' h1 l h3;exact⟨v,jo _ e1,e2,h2 ▸ e3⟩
  ·exact⟨_,kO mo,h2,h1⟩
theorem zmM (G:Gt) (key low:List Int):zdN G key low≠[]:=by
 unfold zdN;split
 ·rename_i h
  intro e
  (rw [gh.mp e] at h)
  cases h
 ·intro e;have:=congrArg fB e;rw [aF] at this;simp at this
theorem zmN {k:Nat} {vs:List (List Int)} (h:vs≠[]):Gof k vs≠[]:=by
 rw [← bo h,zaw];exact zmM _ _ _
theorem ziL {G:Gt} {key low:List Int} (h:(G.map (·.1)).Nodup):((zdN G key low).map (·.1)).Nodup:=by
 unfold zdN;split
 ·have:(G.map (fun g=>if g.1=key then (g.1,g.2++[low]) else g)).map (·.1)=G.map (·.1):=by
   rw [br];refine cz fun g _=>?_
   show (if g.1=key then (g.1,g.2++[low]) else g).1=g.1;split <;> rfl
  rw [this]; exact h
 ·rename_i hn
  rw [aN];refine ca.mpr ⟨h,#[M],fun a ha b hb e=>hn ?_⟩;have oZ:b=key:=by simpa using hb
  rw [← oZ,← e]; exact ha
theorem zmO {α:Type} {xs:List α} {m:Nat} (h:m≤xs.length):(chs xs m).map (·.2)≠[]:=fun e=>by
 have:xs.take m∈(chs xs m).map (·.2):=zaX.mpr ⟨cv _ _,by rw [aS]; lia⟩;rw [e] at this;cases this
def znU (H:Hp) (kv:List Key×V) (g:List Int×List (List Int)):Prop:=kv.1=g.1.map bG∧∃ (l:Addr) (rs:List Addr),kv.2 = .ref l∧H l=some (.lst (rs.map V.ref))∧Paired (fun r low=>H r=some (.lst (low.map V.int))) rs g.2
def zax (H:Hp):List (List Key×V)→Gt→Prop:=Paired (znU H)
theorem zax.sub {H H':Hp} (s:∀ b xs,H b=some (.lst xs)→H' b=some (.lst xs)) {l6:List (List Key×V)} {G:Gt} (h:zax H l6 G):zax H' l6 G:=fF (fun _ _ z=>by
 obtain⟨z1,l,rs,z2,z3,z4⟩:=z;exact⟨z1,l,rs,z2,s _ _ z3,fF (fun _ _ y=>s _ _ y) z4⟩) h
theorem zax.same {H H':Hp} (s:zI H H') {l6:List (List Key×V)} {G:Gt} (h:zax H l6 G):zax H' l6 G:=h.sub fun b xs e=>s _ _ e
theorem zax.dic {H:Hp} {d:Addr} {ks:List (List Key×V)} {o:HO} (hd:H d=some (.dT ks)) {l6:List (List Key×V)} {G:Gt} (h:zax H l6 G):zax (l7 H d o) l6 G:=h.sub fun b xs e=>by
 rw [zi (fun z=>by rw [z,hd] at e; cases e)]; exact e
def zbE (G:Gt) (key:List Int):Gt:=if key∈G.map (·.1) then G else G++[(key,[])]
def zgK (G:Gt) (key low:List Int):Gt:=G.map fun g=>if g.1=key then (g.1,g.2++[low]) else g
theorem zcw (G:Gt) (key low:List Int):zdN G key low=zgK (zbE G key) key low:=by
 unfold zdN zbE zgK;split
 ·rfl
 ·rename_i h
  rw [aN];have e:G.map (fun g=>if g.1=key then (g.1,g.2++[low]) else g)=G:=by
   conv=>rhs; rw [← gu G]
   refine cz fun g hg=>?_
   rw [if_neg (fun e=>h (by rw [← e]; exact bx hg))]; rfl
  rw [e];simp
theorem zb0 {α β:Type} {f:α→β}:∀ {l:List α},(l.map f).Nodup→∀ {a b:α},a∈l→b∈l→f a=f b→a=b
 | [],_,_,_,h,_,_=>by cases h
 | x :: l,hn,a,b,ha,hb,e=>by
  (rw [aP,bR] at hn)
  rcases au.mp ha with h1 | h1 <;> rcases au.mp hb with h2 | h2
  ·rw [h1,h2]
  ·exact absurd (by rw [← h1,e]; exact bx h2) hn.1
  ·exact absurd (by rw [← h2,← e]; exact bx h1) hn.1
  ·exact zb0 hn.2 h1 h2 e
theorem zdO {α β:Type} {F F':α→β→Prop} {f:β→β}:∀ {as:List α} {bs:List β},Paired F as bs→(∀ a∈as,∀ b∈bs,F a b→F' a (f b))→Paired F' as (bs.map f)
 | _,_,.nil,_=>.nil
 | _,_,.cons r t,h=>.cons (h _ ao _ ao r) (zdO t fun a ha b hb=>h a (ai _ ha) b (ai _ hb))
theorem zkh {as bs:List Addr} (h:as.map V.ref=bs.map V.ref):as=bs:=List.map_inj_right (fun _ _ e=>by cases e; rfl) |>.mp h
theorem zgL {as:List Addr} {ns:List Int} (hn:ns≠[]) (h:as.map V.ref=ns.map V.int):False:=by
 cases ns with
 | nil=>exact hn rfl
 | cons n ns =>
  cases as with
  | nil=>cases h
  | cons a as=>cases h
theorem zlt {H:Hp} {l6:List (List Key×V)} {G:Gt} {key low:List Int} {l lo:Addr} {rs:List Addr} (h:zax H l6 G) (hA:∀ kv∈l6,kv.1=key.map bG↔kv.2 = .ref l) (hl:H l=some (.lst (rs.map V.ref))) (oa:H lo=some (.lst (low.map V.int))) (mo:low≠[])
  (oC:∀ g∈G,∀ x∈g.2,x≠[]):zax (l7 H l (.lst (rs.map V.ref++[.ref lo]))) l6 (zgK G key low):=by
 have BG:∀ r (x:List Int),x≠[]→H r=some (.lst (x.map V.int))→r≠l:=fun r x hx e z=>by
  rw [z,hl] at e;injection e with e
  injection e with e
  exact zgL hx e
 refine zdO h fun kv hkv g hg z=>?_
 obtain⟨z1,l',xR,z2,z3,z4⟩:=z;have uT:Paired (fun r x=>l7 H l (.lst (rs.map V.ref++[.ref lo])) r=some (.lst (x.map V.int))) xR g.2:=by
  have:∀ {as:List Addr} {bs:List (List Int)},Paired (fun r x=>H r=some (.lst (x.map V.int))) as bs→(∀ x∈bs,x≠[])→Paired (fun r x=>l7 H l (.lst (rs.map V.ref++[.ref lo])) r=some (.lst (x.map V.int))) as bs:=by
   intro as bs a;induction a with
   | nil=>intro _; exact .nil
   | cons r t ih=>intro hh; exact .cons (by rw [zi (BG _ _ (hh _ ao) r)]; exact r) (ih fun x hx=>hh x (ai _ hx))
  exact this z4 (oC g hg)
 by_cases e:g.1=key
 ·have e2:kv.2 = .ref l:=(hA kv hkv).mp (by rw [z1,e]);rw [e2] at z2;cases z2;rw [hl] at z3;injection z3 with z3
  injection z3 with z3
  have e3:=zkh z3;subst e3;rw [if_pos e];exact⟨z1,l,rs++[lo],e2,by rw [zb,aN]; rfl,gv uT (by rw [zi (BG lo low mo oa)]; exact oa)⟩
 ·have uS:l'≠l:=fun e2=>e (by
   have:=(hA kv hkv).mpr (by rw [z2,e2]);rw [z1] at this;exact ze8 this)
  rw [if_neg e];exact⟨z1,l',xR,z2,by rw [zi uS]; exact z3,uT⟩
theorem zhK {κ:Type} [DecidableEq κ] {l6:List (κ×V)} {k:κ} {v:V} (h:zaW l6 k=some v):(k,v)∈l6:=by
 unfold zaW at h;obtain⟨x,h1,h2⟩:=fE.mp h;have h3:=k8 h1;have h4:=List.mem_of_find?_eq_some h1;have h5:x.1=k:=of_decide_eq_true h3;rw [← h5,← h2];exact h4
theorem zf5 {κ:Type} [DecidableEq κ] {l6:List (κ×V)} {k:κ} (h:zaW l6 k=none):k∉l6.map (·.1):=fun hm=>by
 unfold zaW at h;rw [Option.map_eq_none_iff,j1] at h;obtain⟨x,h1,h2⟩:=aG.mp hm;exact h x h1 (decide_eq_true h2)
theorem zmP {κ:Type} [DecidableEq κ] {l6:List (κ×V)} {k:κ} {v:V} (hn:(l6.map (·.1)).Nodup) (h:(k,v)∈l6):zaW l6 k=some v:=by
 cases e:zaW l6 k with
 | none=>exact absurd (bx (f:=(·.1)) h) (zf5 e)
 | some u =>
  have:=zb0 hn h (zhK e) rfl;cases this;rfl
theorem zcx {H:Hp}:∀ {l6:List (List Key×V)} {G:Gt},zax H l6 G→l6.map (·.1)=(G.map (·.1)).map (·.map bG)
 | _,_,.nil=>rfl
 | _,_,.cons r t=>by rw [aP,aP,aP,zcx t,r.1]
theorem zeC {ks:List (List Int)} (h:ks.Nodup):(ks.map (·.map bG):List (List Key)).Nodup:=by
 rw [aQ,bF];rw [aQ] at h;exact h.imp fun {a b} pN e=>pN (ze8 e)
theorem zbp (k:Nat):∀ (n:Nat) (vs:List (List Int)),vs.length=n→((Gof k vs).map (·.1)).Nodup
 | 0,vs,hn=>by
  rw [bh] at hn;subst hn;exact .nil
 | n+1,vs,hn=>by
  have mo:vs≠[]:=fun e=>by rw [e] at hn; cases hn
  rw [← bo mo,zaw];exact ziL (zbp k n vs.dropLast (by rw [bV]; lia))
theorem ze9 (k:Nat):∀ (n:Nat) (vs:List (List Int)),vs.length=n→∀ g∈Gof k vs,g.2.length≤n
 | 0,vs,hn=>by
  rw [bh] at hn;subst hn;intro g hg;cases hg
 | n+1,vs,hn=>by
  have mo:vs≠[]:=fun e=>by rw [e] at hn; cases hn
  have ih:=ze9 k n vs.dropLast (by rw [bV]; lia);rw [← bo mo,zaw,zcw];intro g hg;obtain⟨g',h1,h2⟩:=aG.mp hg;have h3:g'.2.length≤n:=by
   unfold zbE at h1;split at h1
   ·exact ih g' h1
   ·rcases aR.mp h1 with h | h
    ·exact ih g' h
    ·rw [aA.mp h]; exact bi _
  split at h2 <;> subst h2
  ·(rw [aF,cD]; lia)
  ·lia
theorem zhL (k:Nat):∀ (n:Nat) (vs:List (List Int)),vs.length=n→∀ v∈vs,∃ g∈Gof k vs,v.take k∈g.2
 | 0,vs,hn,v,hv=>by
  rw [bh] at hn;subst hn;cases hv
 | n+1,vs,hn,v,hv=>by
  have mo:vs≠[]:=fun e=>by rw [e] at hn; cases hn
  have ih:=zhL k n vs.dropLast (by rw [bV]; lia);rw [← bo mo] at hv ⊢;rw [zaw,zcw];rcases aR.mp hv with hv | hv
  ·obtain⟨g,h1,h2⟩:=ih v hv;have h3:g∈zbE (Gof k vs.dropLast) ((vs.getLast mo).drop k):=by
    unfold zbE;split
    ·exact h1
    ·exact aI _ h1
   refine⟨_,bx h3,?_⟩;split
   ·exact aI _ h2
   ·exact h2
  ·have hv:v=vs.getLast mo:=by simpa using hv
   have h3:∃ g∈zbE (Gof k vs.dropLast) ((vs.getLast mo).drop k),g.1=(vs.getLast mo).drop k:=by
    unfold zbE;split
    ·rename_i h
     obtain⟨g,h1,h2⟩:=aG.mp h;exact⟨g,h1,h2⟩
    ·exact⟨_,aw _ (aA.mpr rfl),rfl⟩
   obtain⟨g,h1,h2⟩:=h3;refine⟨_,bx h1,?_⟩;rw [if_pos h2,hv];exact aw _ (aA.mpr rfl)
theorem ziM {G:Gt} {key:List Int} (h:(G.map (·.1)).Nodup):((zbE G key).map (·.1)).Nodup:=by
 unfold zbE;split
 ·exact h
 ·rename_i hn
  rw [aN];refine ca.mpr ⟨h,#[M],fun a ha b hb e=>hn ?_⟩;have oZ:b=key:=by simpa using hb
  rw [← oZ,← e]; exact ha
theorem zlu {G:Gt} {key:List Int} (h:∀ g∈G,∀ x∈g.2,x≠[]):∀ g∈zbE G key,∀ x∈g.2,x≠[]:=by
 unfold zbE;split
 ·exact h
 ·intro g hg x hx;rcases aR.mp hg with hg | hg
  ·exact h g hg x hx
  ·rw [aA.mp hg] at hx;cases hx
structure NewL (B:Hp) (l6:List (List Key×V)):Prop where
 nd:(l6.map (·.2)).Nodup
 nw:∀ kv∈l6,∃ l,kv.2 = .ref l∧B l=none
theorem zgM {H B:Hp} {l6:List (List Key×V)} {G:Gt} {key:List Int} {v:V} (h:zax H l6 G) (hG:(G.map (·.1)).Nodup) (hN:NewL B l6) (e:zaW l6 (key.map bG)=some v) :
  ∃ (l:Addr) (rs:List Addr),v = .ref l∧H l=some (.lst (rs.map V.ref))∧B l=none∧(∃ g∈G,rs.length=g.2.length)∧zax H l6 (zbE G key)∧∀ kv∈l6,kv.1=key.map bG↔kv.2 = .ref l:=by
 have hm:=zhK e;have hk:=zcx h;have ug:(l6.map (·.1)).Nodup:=by rw [hk]; exact zeC hG
 obtain⟨i,hi⟩:=cK hm;obtain⟨g,hg,z1,l,rs,z2,z3,z4⟩:=Paired.get h hi;obtain⟨l',e1,e2⟩:=hN.nw _ hm;have z2:v = .ref l:=z2;subst z2;cases e1;have og:key∈G.map (·.1):=by
  have z1:key.map bG=g.1.map bG:=z1;rw [ze8 z1];exact bx (aO hg)
 refine⟨l,rs,rfl,z3,e2,⟨g,aO hg,gJ z4⟩,by unfold zbE; rw [if_pos og]; exact h,fun kv hkv=>⟨fun e3=>?_,fun e3=>?_⟩⟩
 ·rw [zb0 ug hkv hm e3]
 ·rw [zb0 hN.nd hkv hm e3]
theorem zki {H B:Hp} {l6:List (List Key×V)} {G:Gt} {key:List Int} {d l:Addr} (h:zax H l6 G) (hN:NewL B l6) (hB:B l=none) (hl:H l=some (.lst [])) (hd:H d=some (.dT l6)) (o3:∀ kv∈l6,kv.2≠.ref l) (e:zaW l6 (key.map bG)=none) :
  zax (l7 H d (.dT (l6++[(key.map bG,.ref l)]))) (l6++[(key.map bG,.ref l)]) (zbE G key)∧NewL B (l6++[(key.map bG,.ref l)])∧∀ kv∈l6++[(key.map bG,V.ref l)],kv.1=key.map bG↔kv.2 = .ref l:=by
 have hk:=zcx h;have ug:=zf5 e;have og:key∉G.map (·.1):=fun hm=>ug (by rw [hk]; exact bx (f:=fun x:List Int=>(x.map bG:List Key)) hm)
 have uU:l≠d:=fun z=>by rw [z,hd] at hl; cases hl
 refine⟨?_,⟨?_,fun kv hkv=>?_⟩,fun kv hkv=>?_⟩
 ·unfold zbE;rw [if_neg og];exact gv (h.dic hd) ⟨rfl,l,[],rfl,by rw [zi uU]; exact hl,.nil⟩
 ·rw [aN];refine ca.mpr ⟨hN.nd,#[M],fun a ha b hb e=>?_⟩;obtain⟨kv,h1,h2⟩:=aG.mp ha;have oZ:b = .ref l:=by simpa using hb
  exact o3 kv h1 (by rw [h2,e,oZ])
 ·rcases aR.mp hkv with hkv | hkv
  ·exact hN.nw kv hkv
  ·rw [aA.mp hkv];exact⟨l,rfl,hB⟩
 ·rcases aR.mp hkv with hkv | hkv
  ·exact⟨fun e3=>absurd (by rw [← e3]; exact bx hkv) ug,fun e3=>absurd e3 (o3 kv hkv)⟩
  ·rw [aA.mp hkv];exact⟨fun _=>rfl,fun _=>rfl⟩
theorem zci {H:Hp} {k:Nat} {B:Int}:∀ {ps:List (Addr×List Int)},zd5 H k B ps→ze7 H (ps.map (·.1)) (ps.map (·.2))
 | [],_=>.nil
 | q :: ps,h=>.cons (h q ao).1 (zci fun x hx=>h x (ai _ hx))
def bn:Nat→Nat→Nat
 | _,0=>1
 | 0,_+1=>0
 | n+1,k+1=>bn n k+bn n (k+1)
def zdP {α:Type}:List α→Nat→List (List α)
 | _,0=>[[]]
 | [],_+1=>[]
 | x :: xs,m+1=>(zdP xs m).map (x :: ·)++zdP xs (m+1)
theorem zcy {α:Type}:∀ (xs:List α) (m:Nat),(zdP xs m).length=bn xs.length m
 | [],0=>rfl
 | _ :: _,0=>rfl
 | [],_+1=>rfl
 | x :: xs,m+1=>by
  show ((zdP xs m).map (x :: ·)++zdP xs (m+1)).length=bn xs.length m+bn xs.length (m+1);rw [aF,ae,zcy xs m,zcy xs (m+1)]
theorem zcz {α:Type}:∀ (xs:List α) (m:Nat),∀ z∈zdP xs m,z.Sublist xs∧z.length=m
 | xs,0,z,h=>by
  have:z = []:=by
   cases xs <;> simpa [zdP] using h
  subst this;exact⟨fP _,rfl⟩
 | [],m+1,z,h=>by cases h
 | x :: xs,m+1,z,h=>by
  rcases (aR.mp h) with h | h
  ·obtain⟨z',h1,rfl⟩:=aG.mp h;obtain⟨h2,h3⟩:=zcz xs m z' h1;exact⟨h2.cons₂ x,by rw [bq,h3]⟩
  ·obtain⟨h2,h3⟩:=zcz xs (m+1) z h;exact⟨h2.cons x,h3⟩
theorem zcj {α:Type}:∀ (xs:List α) (m:Nat),xs.Nodup→(zdP xs m).Nodup
 | xs,0,_=>by
  have:zdP xs 0 = [[]]:=by cases xs <;> rfl
  rw [this]; simp
 | [],m+1,_=>by simp [zdP]
 | x :: xs,m+1,h=>by
  rw [bR] at h;refine ca.mpr ⟨?_,zcj xs (m+1) h.2,fun a ha b hb e=>?_⟩
  ·rw [aQ,bF];have:=zcj xs m h.2;rw [aQ] at this;exact this.imp fun {a b} pN e=>pN (dU e).2
  ·obtain⟨a',_,rfl⟩:=aG.mp ha;have h2:=(zcz xs (m+1) b hb).1;rw [← e] at h2;exact h.1 (h2.subset ao)
theorem zkj {α:Type} {xs:List α} (h:xs.Nodup) (m:Nat):bn xs.length m≤((chs xs m).map (·.2)).length:=by
 rw [← zcy];refine (zcj xs m h).length_le_of_subset fun z hz=>?_
 exact zaX.mpr (zcz xs m z hz)
theorem zf6 {α β γ:Type} {f:α→List β} {ky:β→γ} {key:α→γ}:∀ {l:List α},(l.map key).Nodup→(∀ c∈l,(f c).Nodup)→(∀ c∈l,∀ y∈f c,ky y=key c)→(l.flatMap f).Nodup
 | [],_,_,_=>.nil
 | c :: l,hn,h1,h2=>by
  (rw [aP,bR] at hn)
  rw [fu];refine ca.mpr ⟨h1 c ao,zf6 hn.2 (fun c hc=>h1 c (ai _ hc)) (fun c hc=>h2 c (ai _ hc)),fun a ha b hb e=>hn.1 ?_⟩;obtain⟨c',mG,oZ⟩:=eH.mp hb;have e1:=h2 c ao a ha;have e2:=h2 c' (ai _ mG) b oZ;rw [← e1,e,e2];exact bx mG
theorem zcS {α:Type} {xs:List α} (h:xs.Nodup):∀ m,((chs xs m).map (·.2)).Nodup
 | 0=>by unfold chs; simp
 | m+1=>by
  have ih:=zcS h m;unfold chs;rw [kN];refine zf6 (key:=(·.2)) (ky:=List.dropLast) ih (fun c hc=>?_) fun c hc y hy=>?_
  ·unfold nxt;rw [br,aQ,bF];refine cb (R:=fun a b=>a≠b) (fun {a b} ha hb pN e=>pN ?_) kJ;have la:=bA.mp ha;have lb:=bA.mp hb;have e:c.2++xs[c.1+a]?.toList=c.2++xs[c.1+b]?.toList:=e;have e:=List.append_cancel_left e;rw [aE (show c.1+a < xs.length by lia),aE (show c.1+b < xs.length by lia)] at e;have e:xs[c.1+a]=xs[c.1+b]:=by simpa using e
   have:=(kC h).mp e;lia
  ·obtain⟨z,hz,rfl⟩:=aG.mp hy;unfold nxt at hz;obtain⟨j,hj,rfl⟩:=aG.mp hz;have lj:=bA.mp hj;show (c.2++xs[c.1+j]?.toList).dropLast=c.2;rw [aE (show c.1+j < xs.length by lia)];simp
theorem znn {p x r:Int} (x0:0≤x) (x1:x < p) (r0:0≤r) (r1:r < p) (h:x≠r):(x - r) % p≠0:=fun e=>h (by
 have h1:Cg p (x - r) 0:=Cg.of_mod (by rw [e]; simp);have h2:=h1.add (Cg.refl p r);exact ((Cg.of_eq #[O]).trans (h2.trans (Cg.of_eq #[O]))).eq x0 x1 r0 r1)
theorem zdQ {p x:Int} (hp:p∈zw) (x0:0≤x) (x1:x < p):∀ (n:Nat) (rs:List Int),rs.length=n→(∀ r∈rs,0≤r∧r < p)→Cg p (zm p x (van p rs)) 0→x∈rs
 | 0,rs,hn,_,h=>by
  have rp:=zL hp;rw [bh] at hn;subst hn;exfalso;have e:zm p x [1]=1:=by
   show (1+x*0) % p=1;rw [jT,Int.add_zero,dE #[O] #[O]]
  have h:Cg p (zm p x [1]) 0:=h;rw [e] at h;have:=h.eq #[O] #[O] #[O] #[O];lia
 | n+1,rs,hn,hr,h=>by
  have mo:rs≠[]:=fun e=>by rw [e] at hn; cases hn
  rw [← bo mo] at h ⊢;rw [zdL] at h;by_cases e:x=rs.getLast mo
  ·rw [← e]; simp
  ·obtain⟨r0,r1⟩:=hr _ (kO mo);have h2:=zeA hp (znn x0 x1 r0 r1 e) ((zgI _).symm.trans h);exact aI _ (zdQ hp x0 x1 n rs.dropLast (by rw [bV]; lia) (fun r hm=>hr r (jo _ hm)) h2)
theorem zlv {xs a b:List Int} (hn:xs.Nodup) (ha:a.Sublist xs) (hb:b.Sublist xs) (h:∀ x,x∈a↔x∈b):a=b:=by
 have key:∀ {xs a:List Int},xs.Nodup→a.Sublist xs→a=xs.filter fun x=>decide (x∈a):=by
  intro xs a hn ha;induction ha with
  | slnil=>rfl
  | @cons a xs x h ih =>
   rw [bR] at hn;rw [ir (by simpa using fun hm=>hn.1 (h.subset hm))];exact ih hn.2
  | @cons_cons a xs x h ih =>
   rw [bR] at hn;rw [iq #[M]];congr 1;refine (ih hn.2).trans (gU fun y hy=>?_);have:y≠x:=fun e=>hn.1 (e ▸ hy)
   rw [c7,decide_eq_true_iff,decide_eq_true_iff,au];exact⟨.inr,fun z=>z.resolve_left this⟩
 rw [key hn ha,key hn hb];refine gU fun x _=>?_
 rw [c7,decide_eq_true_iff,decide_eq_true_iff];exact h x
theorem zlw {p:Int} (hp:p∈zw) {pl a b:List Int} (hn:pl.Nodup) (hr:∀ x∈pl,0≤x∧x < p) (ha:a.Sublist pl) (hb:b.Sublist pl) (e:van p a=van p b):a=b :=
 zlv hn ha hb fun x=>⟨fun h=>by
  obtain⟨x0,x1⟩:=hr x (ha.subset h);exact zdQ hp x0 x1 _ b rfl (fun r hm=>hr r (hb.subset hm)) (e ▸ zdM h),fun h=>by
  obtain⟨x0,x1⟩:=hr x (hb.subset h);exact zdQ hp x0 x1 _ a rfl (fun r hm=>hr r (ha.subset hm)) (e ▸ zdM h)⟩
theorem zhM {p:Int} (hp:1 < p):∀ (n:Nat) (rs:List Int),rs.length=n→∃ q,van p rs=q++[1]∧q.length=n
 | 0,rs,hn=>by
  rw [bh] at hn;subst hn;exact⟨[],rfl,rfl⟩
 | n+1,rs,hn=>by
  have mo:rs≠[]:=fun e=>by rw [e] at hn; cases hn
  obtain⟨q,h1,h2⟩:=zhM hp n rs.dropLast (by rw [bV]; lia);rw [← bo mo,zdL,h1];refine⟨bT (trF p (rs.getLast mo)) (0 :: q) (q++[1]),?_,by rw [jH,bq,aF]; simp [h2]⟩;show bT (trF p (rs.getLast mo)) (0 :: (q++[1])) (q++[1]++[0])=_;rw [show (0:Int) :: (q++[1])=(0 :: q)++[1] from rfl,List.zipWith_append #[M]];congr 1;show [(1 - rs.getLast mo*0) % p] = [1];rw [jT,Int.sub_zero,dE #[O] hp]
theorem zb9 (k:Nat):∀ (n:Nat) (vs:List (List Int)),vs.length=n→vs.Nodup→∀ g∈Gof k vs,g.2.Nodup
 | 0,vs,hn,_=>by
  rw [bh] at hn;subst hn;intro g hg;cases hg
 | n+1,vs,hn,hd=>by
  have mo:vs≠[]:=fun e=>by rw [e] at hn; cases hn
  rw [← bo mo] at hd ⊢;have pK:=ca.mp hd;have ih:=zb9 k n vs.dropLast (by rw [bV]; lia) pK.1;rw [zaw,zcw];intro g hg;obtain⟨g',h1,h2⟩:=aG.mp hg;have h3:g'∈Gof k vs.dropLast∨g'.2 = []:=by
   unfold zbE at h1;split at h1
   ·exact .inl h1
   ·rcases aR.mp h1 with h | h
    ·exact .inl h
    ·rw [aA.mp h]; exact .inr rfl
  have h4:g'.2.Nodup:=h3.elim (ih g') fun e=>by rw [e]; exact .nil
  split at h2 <;> subst h2
  ·rename_i ek
   refine ca.mpr ⟨h4,#[M],fun a ha b hb e=>?_⟩;have hb:b=(vs.getLast mo).take k:=by simpa using hb
   rcases h3 with h3 | h3
   ·obtain⟨v,m1,m2,m3⟩:=zbD _ _ rfl g' h3 a ha;have:v=vs.getLast mo:=by
     rw [← bw k v,← bw k (vs.getLast mo),← m2,← m3,e,hb,ek]
    exact pK.2.2 v m1 (vs.getLast mo) #[M] this
   ·rw [h3] at ha; cases ha
  ·exact h4
theorem zhN (k:Nat):∀ (n:Nat) (vs:List (List Int)),vs.length=n→∀ g∈Gof k vs,g.2≠[]
 | 0,vs,hn=>by
  rw [bh] at hn;subst hn;intro g hg;cases hg
 | n+1,vs,hn=>by
  have mo:vs≠[]:=fun e=>by rw [e] at hn; cases hn
  have ih:=zhN k n vs.dropLast (by rw [bV]; lia);rw [← bo mo,zaw];intro g hg;unfold zdN at hg;split at hg
  ·obtain⟨g',h1,h2⟩:=aG.mp hg;split at h2 <;> subst h2
   ·simp
   ·exact ih _ h1
  ·rcases aR.mp hg with h | h
   ·exact ih g h
   ·rw [aA.mp h]; simp
theorem zkk (G:Gt) (key low:List Int) (hn:(G.map (·.1)).Nodup) (hk:key∈G.map (·.1)):((zgK G key low).map fun g=>g.2.length).sum=(G.map fun g=>g.2.length).sum+1:=by
 induction G with
 | nil=>cases hk
 | cons g G ih =>
  (rw [aP,bR] at hn)
  show (((if g.1=key then (g.1,g.2++[low]) else g) :: zgK G key low).map fun g=>g.2.length).sum=_;rw [aP,eL,aP,eL];by_cases e:g.1=key
  ·rw [if_pos e];have:zgK G key low=G:=by
    unfold zgK
    conv=>rhs; rw [← gu G]
    refine cz fun g' BH=>?_
    rw [if_neg (fun e2=>hn.1 (by rw [e,← e2]; exact bx BH))]; rfl
   rw [this];show (g.2++[low]).length+_=_;rw [aF,cD];lia
  ·rw [if_neg e];rw [ih hn.2 (by
    rcases au.mp hk with h | h
    ·exact absurd h.symm e
    ·exact h)]
   lia
theorem zeD (k:Nat):∀ (n:Nat) (vs:List (List Int)),vs.length=n→((Gof k vs).map fun g=>g.2.length).sum=n
 | 0,vs,hn=>by
  rw [bh] at hn;subst hn;rfl
 | n+1,vs,hn=>by
  have mo:vs≠[]:=fun e=>by rw [e] at hn; cases hn
  have ih:=zeD k n vs.dropLast (by rw [bV]; lia);rw [← bo mo,zaw,zcw,zkk]
  ·unfold zbE;split
   ·rw [ih]
   ·rw [aN,k7,ih];rfl
  ·exact ziM (zbp k _ _ rfl)
  ·unfold zbE;split
   ·assumption
   ·rw [aN]; simp
theorem zlx {G:Gt} {L:Nat} (h:∀ g∈G,g.2.length≤L):(G.map fun g=>g.2.length).sum≤G.length*L:=by
 induction G with
 | nil=>simp
 | cons g G ih =>
  rw [aP,eL,bq,Nat.add_mul,Nat.one_mul];have h1:=h g ao;have h2:=ih fun g hg=>h g (ai _ hg)
  lia
theorem zkl {p:Int} {d:Nat} (hp:1 < p) {ks:List (List Int)} (hn:ks.Nodup) (h:∀ x∈ks,∃ q,x=q++[1]∧q.length=d∧∀ c∈q,0≤c∧c < p):ks.length≤p.toNat ^ d:=by
 have hm:(ks.map fun x=>(Srt.num p x.dropLast).toNat).Nodup:=by
  rw [aQ,bF];rw [aQ] at hn;refine cb (fun {a b} ha hb pN e=>pN ?_) hn;obtain⟨q,e1,e2,e3⟩:=h a ha;obtain⟨q',f1,f2,f3⟩:=h b hb;rw [e1,f1] at e ⊢;rw [f',f'] at e;have r1:=Srt.num_rng (B:=p) #[O] (ns:=q) e3;have r2:=Srt.num_rng (B:=p) #[O] (ns:=q') f3;rw [zdg (B:=p) #[O] (e2.trans f2.symm) e3 f3 #[O]]
 have:=hm.length_le_of_subset (l₂:=ba (p.toNat ^ d)) fun y hy=>by
  obtain⟨x,hx,rfl⟩:=aG.mp hy;obtain⟨q,e1,e2,e3⟩:=h x hx;rw [e1,f',bA];have r1:=Srt.num_rng (B:=p) #[O] (ns:=q) e3;rw [e2] at r1;have:((p.toNat ^ d:Nat):Int)=p ^ d:=by
   rw [k9];congr 1;lia
  lia
 rw [ae,df] at this;exact this
theorem zmQ {p:Int} (hp:p∈zw) {pl:List Int} (hn:pl.Nodup) (hr:∀ x∈pl,0≤x∧x < p) {k m L:Nat} (km:k≤m) (h:∀ g∈Gof k (((chs pl m).map (·.2)).map (van p)),g.2.length≤L):bn pl.length m≤L*p.toNat ^ (m - k):=by
 have rp:=zL hp;have h1:=zkj hn m;have h2:=zeD k _ (((chs pl m).map (·.2)).map (van p)) rfl;have h3:=zlx h;have h4:=zkl (p:=p) (d:=m - k) #[O] (zbp k _ (((chs pl m).map (·.2)).map (van p)) rfl) fun x hx=>by
  obtain⟨g,hg,rfl⟩:=aG.mp hx;have mo:g.2≠[]:=zhN k _ _ rfl g hg;obtain⟨l,hl⟩:=g9 _ mo;obtain⟨v,hv,_,e⟩:=zbD _ _ rfl g hg l hl;obtain⟨z,hz,rfl⟩:=aG.mp hv;obtain⟨hs,hl⟩:=zaX.mp hz;obtain⟨q,e1,e2⟩:=zhM (p:=p) #[O] z.length z rfl;refine⟨q.drop k,?_,by rw [cF]; lia,fun c hc=>zhG #[O] z c (by rw [e1]; exact aI _ (f7 hc))⟩;rw [e,e1,List.drop_append_of_le_length #[O]]
 rw [ae] at h4;rw [ae] at h2;have h5:=dI L h4;rw [eX L];lia
theorem zly:∀ n,n < 17→∀ a,a < 17→bn n a*(n - a) / (a+1)=bn n (a+1):=by decide +kernel
theorem zdR:∀ n,n < 17→∀ a,a < 17→bn n a≤12870:=by decide +kernel
theorem zfa:∀ (n k:Nat),n < k→bn n k=0
 | n,0,h=>by lia
 | 0,k+1,_=>rfl
 | n+1,k+1,h=>by
  show bn n k+bn n (k+1)=0;rw [zfa n k #[O],zfa n (k+1) #[O]]
theorem zmR {n a:Nat} (hn:n < 17) (ha:a < n):(bn n a:Int)*((n:Int) - a) / ((a:Int)+1)=(bn n (a+1):Nat):=by
 rw [← zly n hn a #[O],ii,lg,iG];congr 2;lia
def zaA (s:Nat):List Int:=(ba (s+1)).map fun i=>(bn s i:Int)
theorem za5 (s:Nat):(zaA s).length=s+1:=by unfold zaA; rw [ae,df]
theorem zcA {s i:Nat} (h:i < s+1):(zaA s)[i]? = some (bn s i:Int):=by
 unfold zaA; rw [az,jF h]; rfl
theorem ziN (s:Nat):bT (fun a b:Int=>a+b) (0 :: zaA s) (zaA s++[0])=zaA (s+1):=by
 refine gW fun i=>?_
 rw [fR];by_cases hi:i < s+2
 ·rw [zcA (s:=s+1) #[O]];have h2:(zaA s++[0])[i]? = some (bn s i:Int):=by
   by_cases h:i < s+1
   ·rw [dG (by rw [za5]; exact h),zcA h]
   ·have e:i=s+1:=by lia
    rw [e,dC (by rw [za5]; exact ah _),za5,j2,zfa s (s+1) #[O]];rfl
  rw [h2];cases i with
  | zero =>
   show some ((0:Int)+(bn s 0:Int))=some (bn (s+1) 0:Int);have:bn s 0=1:=by cases s <;> rfl
   rw [this]; rfl
  | succ i =>
   rw [bN,zcA #[O]];show some ((bn s i:Int)+(bn s (i+1):Int))=some ((bn s i+bn s (i+1):Nat):Int);rw [iG]
 ·rw [fV (l:=zaA (s+1)) (by rw [za5]; lia),fV (l:=0 :: zaA s) (by rw [bq,za5]; lia)]
def cd (N P:Nat):Nat:=N / P+if 0 < N % P then 1 else 0
theorem zkm {N P c:Nat} (hP:0 < P):cd N P≤c↔N≤c*P:=by
 unfold cd;have h1:=Nat.div_add_mod N P;have h2:=dr N hP;generalize N / P=q at *;generalize N % P=r at *;have h3:P*q=q*P:=eX ..;rw [h3] at h1;by_cases hr:0 < r
 ·rw [if_pos hr];constructor
  ·intro h;have:=dI P h;rw [Nat.add_mul,Nat.one_mul] at this;lia
  ·intro h;rcases eZ q c with z | z
   ·exact z
   ·have:=dI P z;lia
 ·rw [if_neg hr,dO];constructor
  ·intro h;have:=dI P h;lia
  ·intro h;rcases eZ c q with z | z
   ·have:=dI P z;rw [jQ] at this;lia
   ·lia
theorem zno {a p c:Nat} (hp:0 < p):(a+p - 1) / p≤c↔a≤c*p:=by
 rw [← Nat.lt_succ_iff,Nat.div_lt_iff_lt_mul hp,jQ];lia
theorem zmS {N P p:Nat} (hP:0 < P) (hp:0 < p):(cd N P+p - 1) / p=cd N (P*p):=by
 have key:∀ c,(cd N P+p - 1) / p≤c↔cd N (P*p)≤c:=fun c=>by
  rw [zno hp,zkm hP,zkm (Nat.mul_pos hP hp),Nat.mul_assoc,eX p P]
 exact Nat.le_antisymm ((key _).mpr (ah _)) ((key _).mp (ah _))
theorem zmT (N:Nat):cd N 1=N:=by unfold cd; rw [Nat.div_one,kB]; rfl
theorem zmU {N P:Nat} {p:Int} (hP:0 < P) (hp:0 < p):((cd N P:Nat)+p - 1) / p=((cd N (P*p.toNat):Nat):Int):=by
 obtain⟨q,rfl⟩:∃ q:Nat,p=q:=⟨p.toNat,#[O]⟩;rw [bC,← zmS hP #[O],ii];congr 1;lia
theorem zlz (N P:Nat):(N:Int) / (P:Int)+(if decide ((0:Int) < (N:Int) % (P:Int))=true then 1 else 0)=((cd N P:Nat):Int):=by
 unfold cd;rw [← Int.natCast_emod,← ii,iG];congr 1;by_cases h:0 < N % P
 ·rw [if_pos (decide_eq_true #[O]),if_pos h]; rfl
 ·rw [if_neg (fun z=>h (by have:=of_decide_eq_true z; lia)),if_neg h]; rfl
theorem znp {p:Int} (h0:0 < p) (h1:p≤97) {d:Nat} (hd:d≤16):p.toNat ^ d < 2 ^ 200:=by
 have a:p.toNat ^ d≤97 ^ d:=Nat.pow_le_pow_left #[O] d;have b:97 ^ d≤97 ^ 16:=jm #[D] hd;have c:(97:Nat) ^ 16 < 2 ^ 200:=by decide
 lia
theorem zgN {p:Int} (h0:0 < p) (d:Nat):0 < p.toNat ^ d:=Nat.pow_pos #[O]
theorem zlA {p:Int} (h0:0 < p) (d:Nat):((p.toNat ^ d:Nat):Int)*p=((p.toNat ^ (d+1):Nat):Int):=by
 rw [eu,lg];congr 1;lia
theorem zkn {α:Type} {z xs:List α} (h:z.Sublist xs):z∈zdP xs z.length:=by
 induction h with
 | slnil=>exact aA.mpr rfl
 | @cons z xs x h ih =>
  cases z with
  | nil=>cases xs <;> exact aA.mpr rfl
  | cons y z=>exact aw _ ih
 | @cons_cons z xs x h ih=>exact aI _ (aG.mpr ⟨z,ih,rfl⟩)
theorem ziO {α:Type} {xs:List α} (h:xs.Nodup) (m:Nat):((chs xs m).map (·.2)).length≤bn xs.length m:=by
 rw [← zcy];refine (zcS h m).length_le_of_subset fun z hz=>?_
 obtain⟨h1,h2⟩:=zaX.mp hz;rw [← h2];exact zkn h1
theorem zlB:∀ n,n < 17→∀ k,k < 6→bn n k≤4368:=by decide +kernel
theorem ziP {p:Int} (hp:p∈zw) {mI:List (Int×Int)} {k:Nat} {qs:List (List Int)} (hP:Pts p mI) (hl:mI.length≤16) (hk:k≤5) (hn:qs.Nodup) (h:∀ q∈qs,IsP p k q∧k≤hits p q mI):qs.length≤4368:=by
 have hs:qs ⊆ ((chs mI k).map (·.2)).map (thr p):=fun q hq=>by
  obtain⟨pk,h1,h2⟩:=zgG hp hP (n:=mI.length) (h q hq).1 (ah k) #[O] (h q hq).2;rw [dj] at h1;exact aG.mpr ⟨pk,h1,h2.symm⟩
 have h1:=hn.length_le_of_subset hs;rw [ae] at h1;have hpn:mI.Nodup:=by
  have:=hP.nd;rw [aQ,bF] at this;rw [aQ];exact this.imp fun {a b} pN e=>pN (by rw [e])
 exact bg h1 (bg (ziO hpn k) (zlB _ #[O] _ #[O]))
theorem zko {p:Int}:∀ {a b:List Int},(∀ c∈a,0≤c∧c < p)→(∀ c∈b,0≤c∧c < p)→ngP p a=ngP p b→a=b
 | [],[],_,_,_=>rfl
 | [],_ :: _,_,_,e=>by cases e
 | _ :: _,[],_,_,e=>by cases e
 | c :: a,d :: b,ha,hb,e=>by
  obtain⟨e1,e2⟩:=dU e;obtain⟨c0,c1⟩:=ha c ao;obtain⟨d0,d1⟩:=hb d ao;have h1:Cg p (-c) (-d):=Cg.of_mod e1;have h2:=(Cg.refl p 0).sub h1;have h3:Cg p c d:=(Cg.of_eq #[O]).trans (h2.trans (Cg.of_eq #[O]));rw [h3.eq c0 c1 d0 d1,zko (fun c hc=>ha c (ai _ hc)) (fun c hc=>hb c (ai _ hc)) e2]
theorem zgO {p:Int} (hp:p∈zw) {pl:List Int} (hn:pl.Nodup) (hr:∀ x∈pl,0≤x∧x < p) (m:Nat):(((chs pl m).map (·.2)).map (van p)).Nodup:=by
 rw [aQ,bF];have:=zcS hn m;rw [aQ] at this;exact cb (fun {a b} ha hb pN e=>pN (zlw hp hn hr (zaX.mp ha).1 (zaX.mp hb).1 e)) this
theorem zlC {p:Int} (hp:p∈zw) {pl:List Int} (hn:pl.Nodup) (hr:∀ x∈pl,0≤x∧x < p) {k m:Nat} (hl:pl.length≤16) (k1:1≤k) (k5:k≤5) (km:k≤m) {high:List Int} {lows qs:List (List Int)} (qG:qs.Perm (lows.map (ngP p)))
  (hg:(high,lows)∈Gof k (((chs pl m).map (·.2)).map (van p))) (uR:∀ g∈Gof k (((chs pl m).map (·.2)).map (van p)),g.2.length≤lows.length) (vN:qs.Pairwise fun a b=>Srt.num p a≤Srt.num p b) :
  ze6 p k qs∧qs.Nodup∧qs.length≤4368∧(∀ q∈qs,m≤hits p q (m8 pl ((rowOf p k high pl).map some)))∧cd (bn pl.length m) (p.toNat ^ (m - k))≤qs.length:=by
 have rp:=zL hp;have oC:∀ low∈lows,low.length=k∧(∀ c∈low,0≤c∧c < p)∧m≤hits p (ngP p low) (m8 pl ((rowOf p k high pl).map some)):=fun low h1=>by
  obtain⟨y,h2,h3,h4⟩:=zbD _ _ rfl _ hg low h1;obtain⟨z,hz,rfl⟩:=aG.mp h2;obtain⟨h5,h6⟩:=zaX.mp hz;have h4:high=(van p z).drop k:=h4;have hl:low.length=k:=by rw [h3,aS,zbZ]; lia
  have h7:=ziK (p:=p) #[O] (rs:=z) (low:=low) (high:=high) (by rw [h3,h4,bw]) hl h5;exact⟨hl,fun c hc=>zhG #[O] z c (gb (h3 ▸ hc)),#[O]⟩
 have wJ:lows.Nodup:=zb9 k _ _ rfl (zgO hp hn hr m) _ hg;have pP:qs.Nodup:=by
  refine qG.nodup_iff.mpr ?_;rw [aQ,bF];rw [aQ] at wJ;exact cb (fun {a b} ha hb pN e=>pN (zko (oC a ha).2.1 (oC b hb).2.1 e)) wJ
 have hq:∀ q∈qs,IsP p k q∧m≤hits p q (m8 pl ((rowOf p k high pl).map some)):=fun q h=>by
  obtain⟨low,h1,rfl⟩:=aG.mp (qG.mem_iff.mp h);exact⟨zgJ #[O] (oC low h1).1,(oC low h1).2.2⟩
 have hR:ze6 p k qs:=by
  refine⟨fun q h=>(hq q h).1,?_⟩;rw [aQ] at pP;refine cb (R:=fun a b=>Srt.num p a≤Srt.num p b∧a≠b) (fun {a b} ha hb pN=>?_) (vN.and pP);have:Srt.num p a≠Srt.num p b:=fun e=>pN.2 (zdg #[O] ((hq a ha).1.1.trans (hq b hb).1.1.symm) (hq a ha).1.2 (hq b hb).1.2 e)
  lia
 have hP:Pts p (m8 pl ((rowOf p k high pl).map some)):=zlm hn hr fun z hz=>by
  obtain⟨z',h1,h2⟩:=aG.mp hz;cases h2;obtain⟨x,_,rfl⟩:=aG.mp h1;exact⟨zaM #[O] _,zaN #[O] _⟩
 refine⟨hR,pP,ziP hp hP (bg (ze4 pl _) hl) k5 pP fun q h=>⟨(hq q h).1,bg km (hq q h).2⟩,fun q h=>(hq q h).2,?_⟩;have hd:=zmQ hp hn hr km uR;rw [zkm (zgN #[O] _),qG.length_eq,ae];exact hd
theorem zf7 {H:Hp} {p:Int} {k:Nat}:∀ {rs:List Addr} {qs:List (List Int)},ze7 H rs qs→(∀ q∈qs,IsP p k q)→∃ ps:List (Addr×List Int),rs=ps.map (·.1)∧qs=ps.map (·.2)∧zd5 H k p ps
 | _,_,.nil,_=>⟨[],rfl,rfl,fun _ z=>by cases z⟩
 | r :: rs,q :: qs,.cons h t,hq=>by
  obtain⟨ps,e1,e2,e3⟩:=zf7 t fun x hx=>hq x (ai _ hx)
  refine⟨(r,q) :: ps,by rw [aP,← e1],by rw [aP,← e2],fun x hx=>?_⟩;rcases (au.mp hx) with rfl | hx
  ·exact⟨h,(hq _ ao).1,(hq _ ao).2⟩
  ·exact e3 x hx
theorem zgP {p:Int} {k:Nat} {qs wK:List (List Int)} (hp:1≤p) (hR:ze6 p k qs) (hn:qs.Nodup) (qG:wK.Perm qs) (vN:wK.Pairwise fun a b=>Srt.num p a≤Srt.num p b):wK=qs:=by
 have uH:wK.Nodup:=qG.nodup_iff.mpr hn;have hI:∀ q∈wK,IsP p k q:=fun q h=>hR.1 q (qG.mem_iff.mp h)
 have hR':ze6 p k wK:=by
  refine⟨hI,?_⟩;rw [aQ] at uH;refine cb (R:=fun a b=>Srt.num p a≤Srt.num p b∧a≠b) (fun {a b} ha hb pN=>?_) (vN.and uH);have:Srt.num p a≠Srt.num p b:=fun e=>pN.2 (zdg hp ((hI a ha).1.trans (hI b hb).1.symm) (hI a ha).2 (hI b hb).2 e)
  lia
 exact zhD hR' hR fun x=>qG.mem_iff
end My
end
section
namespace L2
open PySem PySem.Spec PyProof.Rows PySem.W
def znq (i j:Int):Prop:=0 < j∧j < 2 ^ 200
theorem zkp {X:Cx}:OpR X (binaryOp .FloorDiv) (rI znq fun i j=>.int (i / j)):=opI fun i j _ _ _ _ _ hc q=>by
 have h1:(0:Int) < j:=hc.1;have h2:j < 2 ^ 200:=hc.2;refine floordiv_int #[O] (by rw [gK i #[O]]; exact q) (.inl (PyProof.noPylong_of_log2 ?_));have h3:j.natAbs.log2 < 200:=(Nat.log2_lt #[O]).mpr #[O];lia
theorem zf8 {X:Cx} {lX:List (Addr×Obj)} {σ:St} {c a b:Expr} {pos:Pos} {tA:TT} {ta tb:TE} (hc:PT X c tA) (ha:zjQ X lX σ a ta) (hb:zjQ X lX σ b tb):zjQ X lX σ (.IfExp c a b pos) (tIf tA ta tb):=by
 intro s H Q I h;refine wpAny_IfExp (thn (hc lX s σ H _ I h) fun d s1 ⟨H1,I1,q1⟩=>?_);cases d with
 | true=>exact ha s1 H1 Q I1 q1
 | false=>exact hb s1 H1 Q I1 q1
theorem Fun.okXT {P:Program} {w:World} {K:ag} {mg:Str→Option Value} {base:Heap} {x qual:Str} {st:Stmt} {f:Addr} {fd:FuncData} {N ps:List Str} {k:Nat} {sp:Sp} {TP:Addr} (F:Fun K x qual st f fd) (hT:TabOf K f TP) (S:FnScope N ps (zg st)) (len:∀ vs H Q E,sp vs H Q E→vs.length=ps.length)
  (m9:∀ (cP:Addr) (hK:codeHdIn K cP TP=true) (A:Around) (outer:List Env) (s:Shared) (H:Hp) (vs:List V) (Q:VK) (E:XK),Room k (A.deeper (envOfC qual (zg st) s.heap.objs.size f (.ref cP)))→sp vs H Q E →
   ∃ t,PSs (cxX P w K mg base N qual (zg st) f (.ref cP) A outer s H E) (zao st) t∧t { nx:=fun _ H'=>Q .non H',rt:=Q } (start N vs) H):FnOk P w K mg base (CX1 P w) (k+1) f fd ps sp:=by
 obtain⟨oc,od,kV,doc,pm,an,mq,ct,rm,rfl,lk,oq⟩:=F.ex;obtain⟨cP,hc,hK⟩:=hT _ _ lk rfl;have mG:mq = .ref cP:=hc;subst mG;exact zjk lk oq S len fun A outer s H vs Q E hr pR=>m9 cP hK A outer s H vs Q E hr pR
end L2
end
section
namespace L2
open PySem PySem.SetTable
def Rs (xs:Array Nat):Prop:=xs.toList.Pairwise (· < ·)
theorem Rs.lt {xs:Array Nat} (h:Rs xs) {i j:Nat} (hj:j < xs.size) (o2:i < j):xs[i]'#[O] < xs[j]:=by
 have:=(dH.mp h) i j (by simpa using (by lia:i < xs.size)) (by simpa using hj) o2;simpa using this
theorem zdS {xs:Array Nat} (h:Rs xs) {j:Nat}:∀ fuel lo hi,hi - lo≤fuel→lo≤hi→hi≤xs.size→(∀ i (mY:i < xs.size),i < lo→xs[i] < j)→(∀ i (mY:i < xs.size),hi≤i→j≤xs[i]) →
  below.go xs j fuel lo hi≤xs.size∧(∀ i (mY:i < xs.size),i < below.go xs j fuel lo hi→xs[i] < j)∧(∀ i (mY:i < xs.size),below.go xs j fuel lo hi≤i→j≤xs[i])
 | 0,lo,hi,hf,hl,hs,h1,h2=>by
  have e:lo=hi:=by lia
  subst e;exact⟨hs,h1,h2⟩
 | fuel+1,lo,hi,hf,hl,hs,h1,h2=>by
  rw [below.go];by_cases ml:lo < hi
  ·rw [if_pos ml];have hm:(lo+hi) / 2 < xs.size:=by lia
   have e:xs.getD ((lo+hi) / 2) j=xs[(lo+hi) / 2]:=by simp [gc,hm]
   dsimp only;rw [e];by_cases hc:xs[(lo+hi) / 2] < j
   ·rw [if_pos hc];refine zdS h fuel _ hi #[O] #[O] hs (fun i mY hlt'=>?_) h2;by_cases e2:i=(lo+hi) / 2
    ·subst e2; exact hc
    ·exact jV (h.lt hm #[O]) hc
   ·rw [if_neg hc];refine zdS h fuel lo _ #[O] #[O] #[O] h1 (fun i mY hle=>?_);by_cases e2:i=(lo+hi) / 2
    ·subst e2; lia
    ·have:=h.lt mY (show (lo+hi) / 2 < i by lia); lia
  ·rw [if_neg ml];have e:lo=hi:=by lia
   subst e;exact⟨hs,h1,h2⟩
theorem zcB {xs:Array Nat} (h:Rs xs) (j:Nat):below xs j≤xs.size∧(∀ i (mY:i < xs.size),i < below xs j→xs[i] < j)∧(∀ i (mY:i < xs.size),below xs j≤i→j≤xs[i]) :=
 zdS h _ _ _ #[O] #[O] (ah _) (fun i _ hi=>absurd hi #[O]) (fun i mY hle=>absurd mY #[O])
theorem zgQ {xs:Array Nat} (h:Rs xs) {i:Nat} (hi:i < xs.size):below xs (xs[i]+1)=i+1:=by
 obtain⟨a,b,c⟩:=zcB h (xs[i]+1);have e1:i < below xs (xs[i]+1):=by
  (refine c6 fun hn=>?_)
  have:=c i hi #[O];lia
 (refine c6 fun hn=>?_)
 have h2:i+1 < xs.size:=by lia
 have:=b (i+1) h2 #[O];have:=h.lt h2 (show i < i+1 by lia);lia
theorem zgR {xs:Array Nat} (h:Rs xs):below xs 0=0:=by
 obtain⟨a,b,c⟩:=zcB h 0
 (refine c6 fun hn=>?_)
 have:=b 0 #[O] #[O];lia
theorem ziQ {xs:Array Nat} (h:Rs xs) {j:Nat} (hn:xs[below xs j]?≠some j):Rs (insertAt xs (below xs j) j):=by
 obtain⟨a,b,c⟩:=zcB h j;unfold Rs insertAt;simp only [bj,gX,cJ,List.extract_eq_drop_take,ij,fi];have hsz:xs.toList.length=xs.size:=by simp
 have e1:List.take (xs.size - below xs j) (List.drop (below xs j) xs.toList)=List.drop (below xs j) xs.toList:=aW (by rw [cF]; lia);rw [e1,bf];have hp:(xs.toList.take (below xs j)).Pairwise (· < ·):=h.sublist (cv _ _);have hq:(xs.toList.drop (below xs j)).Pairwise (· < ·):=h.sublist (kj _ _);have ht:∀ x∈xs.toList.take (below xs j),x < j:=fun x hx=>by
  obtain⟨i,hi,rfl⟩:=jp.mp hx;rw [aS] at hi;rw [gV];have:=b i #[O] #[O];simpa using this
 have hd:∀ x∈xs.toList.drop (below xs j),j < x:=fun x hx=>by
  obtain⟨i,hi,rfl⟩:=jp.mp hx;rw [cF] at hi;rw [List.getElem_drop];have h1:below xs j < xs.size:=by lia
  have h2:=c (below xs j) h1 (ah _);have h3:xs[below xs j]≠j:=fun e=>hn (by rw [bu h1,e])
  have h4:=c (below xs j+i) #[O] #[O];by_cases e:i=0
  ·subst e;have:j < xs[below xs j]:=by lia
   simpa using this
  ·have:=h.lt (show below xs j+i < xs.size by lia) (show below xs j < below xs j+i by lia);have:j < xs[below xs j+i]:=by lia
   simpa using this
 refine jl.mpr ⟨hp,?_,?_⟩
 ·show (j :: xs.toList.drop (below xs j)).Pairwise (· < ·);exact eY.mpr ⟨hd,hq⟩
 ·intro x hx y hy;rcases (au.mp hy) with rfl | hy
  ·exact ht x hx
  ·exact jV (ht x hx) (hd y hy)
structure Tb (led:Bool) (t:SetTable):Prop where
 r:Rs t.place
 d:t.dummies = #[]
 l:t.led=led
theorem Tb.fresh (f m:Nat) (led:Bool):Tb led (SetTable.fresh f m led):=⟨fk,rfl,rfl⟩
theorem Tb.standIn {led:Bool} {t:SetTable} (h:Tb led t) (n:Nat):Tb led (t.standIn n):=⟨by
 show (Array.range n).toList.Pairwise (· < ·);rw [Array.toList_range];exact iP,rfl,h.l⟩
theorem zfb (j:Nat):has #[] j=false:=by
 unfold has;simp
theorem Tb.put {led:Bool} {t:SetTable} (h:Tb led t) {j:Nat} (hn:t.place[below t.place j]?≠some j):Tb led (t.put j).1:=⟨ziQ h.r hn,by
 show (if has t.dummies j=true then _ else t.dummies) = #[];rw [h.d,zfb];rfl,h.l⟩
theorem Tb.relay {led:Bool} {t:SetTable} (h:Tb led t) (es:Array (Int×Value)) (wanted:Nat):Tb led (relayAll t es wanted).2.1:=by
 unfold relayAll;split
 ·next t' o he =>
  have ht:Tb led t':=by
   unfold SetTable.relaid SetTable.laid at he;cases hl:layClean (sizeAbove wanted - 1) (es.map (·.1)) with
   | none=>rw [hl] at he; simp at he
   | some ow =>
    rw [hl] at he;simp only [Option.pure_def,Option.bind_eq_bind,Option.bind_some,fw,Prod.mk.injEq] at he;obtain⟨rfl,_⟩:=he;refine⟨?_,rfl,h.l⟩;show (List.toArray _).toList.Pairwise (· < ·);rw [j3];refine List.Pairwise.filterMap _ ?_ iP;intro a a' haa b hb b' oZ;simp at hb oZ;obtain⟨_,_,rfl⟩:=hb;obtain⟨_,_,rfl⟩:=oZ;exact haa
  dsimp only;split
  ·exact ht
  ·exact h.standIn _
 ·exact h.standIn _
end L2
end
section
namespace L2
open PySem PySem.Spec PyProof.Rows
end L2
end
section
namespace L2
open PySem PySem.SetTable
def tM (mask:Nat):SetTable:={ mask:=mask,place:=#[],dummies:=#[],finger:=0,led:=true,moves:=0,plain:=true }
theorem zkq (t:SetTable) (p:Probe):t.advance p=(tM t.mask).advance p:=rfl
def rch (mask:Nat):Nat→Probe→Nat→Bool
 | 0,_,_=>false
 | n+1,p,j=>p.j == j || rch mask n ((tM mask).advance p) j
theorem zkr {mask i:Nat} (h:i≤mask):i+(runEnd mask i - i)≤mask:=by
 unfold runEnd;split <;> lia
theorem zkt {t:SetTable} {p:Probe} (h:p.j+p.more≤t.mask):(t.advance p).j+(t.advance p).more≤t.mask:=by
 unfold advance;split
 ·show p.j+1+(p.more - 1)≤t.mask;lia
 ·exact zkr (fz (dr _ (dP _)))
theorem zeE {t:SetTable} {p:Probe} (h:p.dummy=none):(t.advance p).dummy=none:=by
 unfold advance;split <;> exact h
theorem zgS {t:SetTable} (hd:t.dummies = #[]) {j:Nat} (hn:j∉t.place.toList):t.slot j = .empty:=by
 unfold slot;dsimp only;rw [hd,zfb,if_neg,if_neg #[M]];intro hc;have hc:t.place[below t.place j]? = some j:=by simpa using hc
 exact hn (by rw [dF]; exact Array.mem_of_getElem? hc)
theorem zku {t:SetTable} (hd:t.dummies = #[]) (hs:t.place.size≤t.mask):∃ j,j≤t.mask∧t.slot j = .empty:=by
 (refine c6 fun hn=>?_)
 have qH:ba (t.mask+1) ⊆ t.place.toList:=fun j hj=>c6 fun hc=>hn ⟨j,by have:=bA.mp hj; lia,zgS hd hc⟩
 have:=List.nodup_range.length_le_of_subset qH;rw [df,aH] at this;lia
theorem zf9 {α:Type} {xs:Array α} {p:Nat} {x:α} (hp:p≤xs.size):(insertAt xs p x).size=xs.size+1:=by
 unfold insertAt;simp only [Array.size_append,Array.size_push,jX];lia
def rF (mask:Nat):Nat→Nat→Nat→Nat→Bool
 | 0,_,_,_=>false
 | n+1,i,q,j=>(decide (i≤j) && decide (j≤runEnd mask i)) || rF mask n (leap mask i q).1 (leap mask i q).2 j
theorem zeF {ow:Array (Option Nat)} {mask j0:Nat} (hz:ow.size=mask+1) (h0:ow[j0]? = some none):∀ fuel i q,i≤mask→rF mask fuel i q j0=true→∃ j,layClean.free mask ow fuel i q=some j∧ow[j]? = some none
 | 0,i,q,_,h=>by simp [rF] at h
 | fuel+1,i,q,hi,h=>by
  rw [layClean.free];cases hf:(ba (runEnd mask i+1 - i)).find? (fun k=>(ow.getD (i+k) (some 0)).isNone) with
  | some k =>
   refine⟨i+k,rfl,?_⟩;have hk:=k8 hf;have hk:(ow.getD (i+k) (some 0)).isNone=true:=hk;by_cases hs:i+k < ow.size
   ·rw [bu hs];have:ow.getD (i+k) (some 0)=ow[i+k]:=by simp [gc,hs]
    rw [this] at hk;rw [Option.isNone_iff_eq_none.mp hk]
   ·have:ow.getD (i+k) (some 0)=some 0:=by simp [gc,hs]
    rw [this] at hk;cases hk
  | none =>
   dsimp only;have hn:=j1.mp hf;rw [rF,bz,cG,decide_eq_true_eq,decide_eq_true_eq] at h;rcases h with ⟨h1,h2⟩ | h
   ·exfalso;refine hn (j0 - i) (bA.mpr #[O]) ?_;have ml:j0 < ow.size:=by
     rcases eZ j0 ow.size with h | h
     ·exact h
     ·rw [bY h] at h0; cases h0
    have e:ow[j0]=none:=by rw [bu ml] at h0; injection h0
    have:ow.getD (i+(j0 - i)) (some 0)=none:=by rw [show i+(j0 - i)=j0 by lia]; simp [gc,ml,e]
    rw [this];rfl
   ·exact zeF hz h0 fuel _ _ (fz (dr _ (dP _))) h
theorem zkv {k:Nat}:∀ {l:List (Option Nat)} {j:Nat},l[j]? = some none→((l.set j (some k)).filterMap id).Perm (k :: l.filterMap id)
 | [],j,h=>by simp at h
 | a :: l,0,h=>by
  simp at h;subst h;simp
 | a :: l,j+1,h=>by
  (simp only [bN] at h)
  have ih:=zkv (k:=k) h;cases a with
  | none=>simpa using ih
  | some a =>
   simp only [List.set_cons_succ,bZ,id];exact (ih.cons a).trans (.swap k a _)
theorem zhO:∀ {l:List (Option Nat)},(l.filterMap id).length < l.length→∃ j:Nat,l[j]? = some none
 | [],h=>by simp at h
 | none :: l,_=>⟨0,rfl⟩
 | some a :: l,h=>by
  simp only [bZ,id,bq] at h;obtain⟨j,hj⟩:=zhO (l:=l) #[O];exact⟨j+1,by simpa using hj⟩
theorem range_getD {α:Type} {d:α}:∀ (l:List α),(ba l.length).map (fun j=>l.getD j d)=l:=fun l=>by
 refine List.ext_getElem #[M] fun i h1 h2=>?_
 simp [gM,aE h2]
theorem ziR {α:Type} (es:Array α):(ba es.size).filterMap (fun i=>es[i]?)=es.toList:=by
 have h:∀ (l:List α),(ba l.length).filterMap (fun i=>l[i]?)=l:=fun l=>by
  induction l with
  | nil=>rfl
  | cons a l ih =>
   rw [bq,fC,bZ];simp only [dS];rw [gF];show a :: _=_;congr 1
 have:=h es.toList;rw [aH] at this;simpa using this
def lr (mask:Nat):Nat→Nat→Nat→Nat→Bool
 | 0,i,_,j=>i == j
 | n+1,i,q,j=>i == j || lr mask n (leap mask i q).1 (leap mask i q).2 j
theorem zfc {mask j m:Nat} (hb:∀ i,i < mask+1→∀ j,j < mask+1→lr mask m i 0 j=true) (hj:j < mask+1):∀ n i q,i < mask+1→q < 32 ^ n→lr mask (n+m) i q j=true
 | 0,i,q,hi,hq=>by
  obtain rfl:q=0:=by lia
  rw [cq];exact hb i hi j hj
 | n+1,i,q,hi,hq=>by
  rw [show n+1+m=n+m+1 by lia,lr,bz];refine .inr (zfc hb hj n _ _ (dr _ (dP _)) ?_);show q / 32 < 32 ^ n;rw [eu] at hq;lia
theorem zhP (h:Int):bits h < 32 ^ 13:=by
 unfold bits;have h1:=aU h (show (0:Int) < 2 ^ 64 by decide);have h0:=a8 h (show (2:Int) ^ 64≠0 by decide);have:(2:Int) ^ 64=18446744073709551616:=by decide
 have h2:(32:Nat) ^ 13=36893488147419103232:=by decide
 lia
def zkw (mask i q:Nat):Probe:={ j:=i,more:=runEnd mask i - i,i:=i,perturb:=q,dummy:=none }
theorem zdT {mask j:Nat}:∀ {n:Nat} {p:Probe} {m:Nat},n≤m→rch mask n p j=true→rch mask m p j=true
 | 0,p,m,_,h=>by simp [rch] at h
 | n+1,p,0,hm,h=>by lia
 | n+1,p,m+1,hm,h=>by
  rw [rch,bz] at h ⊢;rcases h with h | h
  ·exact .inl h
  ·exact .inr (zdT #[O] h)
theorem zhQ {mask j:Nat}:∀ (d:Nat) (p:Probe) (n:Nat),p.more=d→rch mask n (zkw mask (leap mask p.i p.perturb).1 (leap mask p.i p.perturb).2) j=true→p.dummy=none→rch mask (n+d+1) p j=true
 | 0,p,n,hd,h,hp=>by
  rw [dO,rch,bz];refine .inr ?_;have:(tM mask).advance p=zkw mask (leap mask p.i p.perturb).1 (leap mask p.i p.perturb).2:=by
   unfold advance;rw [if_neg #[O]];show ({ p with j:=(leap mask p.i p.perturb).1,more:=runEnd mask (leap mask p.i p.perturb).1 - (leap mask p.i p.perturb).1,i:=(leap mask p.i p.perturb).1,perturb:=(leap mask p.i p.perturb).2 }:Probe)=_;rw [hp];rfl
  rw [this];exact h
 | d+1,p,n,hd,h,hp=>by
  rw [rch,bz];refine .inr ?_;have:(tM mask).advance p = { p with j:=p.j+1,more:=p.more - 1 }:=by
   unfold advance;rw [if_pos #[O]]
  rw [this];exact zhQ d _ n (by show p.more - 1=d; lia) h hp
theorem zkx (mask i:Nat):runEnd mask i - i≤9:=by
 unfold runEnd;split <;> lia
theorem zky {mask j:Nat}:∀ (n i q:Nat),lr mask n i q j=true→rch mask (10*n+1) (zkw mask i q) j=true
 | 0,i,q,h=>by
  rw [Nat.mul_zero,cq,rch,bz];exact .inl h
 | n+1,i,q,h=>by
  rw [lr,bz] at h;rcases h with h | h
  ·rw [show 10*(n+1)+1=10*n+10+1 by lia,rch,bz];exact .inl h
  ·have h9:=zkx mask i;exact zdT (show 10*n+1+(runEnd mask i - i)+1≤10*(n+1)+1 by lia) (zhQ _ (zkw mask i q) (10*n+1) rfl (zky n _ _ h) rfl)
theorem zhR {mask j:Nat}:∀ {n m i q:Nat},n≤m→rF mask n i q j=true→rF mask m i q j=true
 | 0,m,i,q,_,h=>by simp [rF] at h
 | n+1,0,i,q,hm,h=>by lia
 | n+1,m+1,i,q,hm,h=>by
  rw [rF,bz] at h ⊢;rcases h with h | h
  ·exact .inl h
  ·exact .inr (zhR #[O] h)
theorem zkz (mask i:Nat):i≤runEnd mask i:=by
 unfold runEnd;split <;> lia
theorem zl0 {mask j:Nat}:∀ (n i q:Nat),lr mask n i q j=true→rF mask (n+1) i q j=true
 | 0,i,q,h=>by
  rw [rF,bz];have h:i=j:=by rw [lr] at h; exact beq_iff_eq.mp h
  have:=zkz mask i;exact .inl (by rw [cG]; exact⟨decide_eq_true #[O],decide_eq_true #[O]⟩)
 | n+1,i,q,h=>by
  rw [lr,bz] at h;rw [rF,bz];rcases h with h | h
  ·have h:i=j:=beq_iff_eq.mp h;have:=zkz mask i;exact .inl (by rw [cG]; exact⟨decide_eq_true #[O],decide_eq_true #[O]⟩)
  ·exact .inr (zl0 n _ _ h)
theorem zkA {t:SetTable} (hd:t.dummies = #[]) {hashAt:Nat→Int} {h:Int} {j0:Nat} (h0:t.slot j0 = .empty):∀ fuel F p,F≤fuel→p.dummy=none→p.j+p.more≤t.mask→rch t.mask F p j0=true →
  (∃ j,probe.go t hashAt h fuel p=some (.empty j none)∧j≤t.mask∧t.slot j = .empty) ∨
  (∃ j i p' F',probe.go t hashAt h fuel p=some (.candidate j i p')∧t.slot j = .live i∧hashAt i=h∧F' < F∧rch t.mask F' p' j0=true∧p'.dummy=none∧p'.j+p'.more≤t.mask)
 | fuel,0,p,_,_,_,hr=>by simp [rch] at hr
 | 0,F+1,p,hF,_,_,_=>by lia
 | fuel+1,F+1,p,hF,hp,hm,hr=>by
  rw [probe.go];split
  ·next hs=>exact .inl ⟨p.j,by rw [hp],#[O],hs⟩
  ·next hs =>
   exfalso;unfold slot at hs;dsimp only at hs;rw [hd,zfb] at hs;split at hs
   ·cases hs
   ·simp at hs
  ·next i hs =>
   rw [rch,bz] at hr;have uN:rch t.mask F (t.advance p) j0=true:=by
    rcases hr with hr | hr
    ·rw [beq_iff_eq.mp hr,h0] at hs;cases hs
    ·rw [zkq]; exact hr
   by_cases hh:(hashAt i == h)=true
   ·rw [if_pos hh];exact .inr ⟨_,_,_,F,rfl,hs,beq_iff_eq.mp hh,fN _,uN,zeE hp,zkt hm⟩
   ·rw [if_neg hh];rcases zkA hd (hashAt:=hashAt) (h:=h) h0 fuel F _ #[O] (zeE hp) (zkt hm) uN with r | ⟨j,i',p',F',e1,e2,e3,e4,e5⟩
    ·exact .inl r
    ·exact .inr ⟨j,i',p',F',e1,e2,e3,#[O],e5⟩
def lpC:Nat→Nat
 | 0=>0
 | n+1=>5*lpC n+1
def un (n i:Nat):Nat:=5 ^ n*i+lpC n
theorem zfd (m:Nat):∀ n,lpC (m+n)=5 ^ n*lpC m+lpC n
 | 0=>by show lpC m=5 ^ 0*lpC m+0; simp
 | n+1=>by
  show 5*lpC (m+n)+1=5 ^ (n+1)*lpC m+(5*lpC n+1);rw [zfd m n,eu];grind
theorem zkB (m n i:Nat):un (m+n) i=un n (un m i):=by
 unfold un;rw [zfd,eM];grind
theorem dbl:∀ b,∃ k l,5 ^ 2 ^ b=1+2 ^ (b+2)*k∧lpC (2 ^ b)=2 ^ b*(2*l+1)
 | 0=>⟨1,0,rfl,rfl⟩
 | b+1=>by
  obtain⟨k,l,h1,h2⟩:=dbl b;have e:2 ^ (b+1)=2 ^ b+2 ^ b:=by rw [eu]; lia
  refine⟨k+2 ^ (b+1)*(k*k),l*(1+2 ^ (b+1)*k)+2 ^ b*k,?_,?_⟩
  ·rw [e,eM,h1];have e1:2 ^ (b+2)=4*2 ^ b:=by rw [eM]; lia
   have e2:2 ^ (b+1+2)=8*2 ^ b:=by rw [eM,eM]; lia
   rw [e1,e2];generalize 2 ^ b=B;grind
  ·rw [e,zfd,h1,h2];have e1:2 ^ (b+2)=4*2 ^ b:=by rw [eM]; lia
   rw [e1];generalize 2 ^ b=B;grind
theorem zl1:∀ (b i j:Nat),∃ n,n < 2 ^ b∧un n i % 2 ^ b=j % 2 ^ b
 | 0,i,j=>⟨0,#[D],by rw [Nat.pow_zero,kB,kB]⟩
 | b+1,i,j=>by
  obtain⟨n,hn,h⟩:=zl1 b i j;obtain⟨k,l,h1,h2⟩:=dbl b;have e:2 ^ (b+1)=2*2 ^ b:=by rw [eu]; lia
  have hB:0 < 2 ^ b:=Nat.pow_pos #[D];have key:un (n+2 ^ b) i=un n i+2 ^ b+2 ^ (b+1)*(2*k*un n i+l):=by
   rw [zkB];show 5 ^ 2 ^ b*un n i+lpC (2 ^ b)=_;rw [h1,h2];have e1:2 ^ (b+2)=4*2 ^ b:=by rw [eM]; lia
   rw [e1,e];generalize 2 ^ b=B;generalize un n i=v;grind
  rw [e];generalize hv:un n i=v at h key;have m1:v % (2*2 ^ b)=v % 2 ^ b∨v % (2*2 ^ b)=v % 2 ^ b+2 ^ b:=by
   rw [eX,Nat.mod_mul];have:=gN (v / 2 ^ b);rcases this with z | z <;> rw [z]
   ·left; lia
   ·right; lia
  have m2:j % (2*2 ^ b)=j % 2 ^ b∨j % (2*2 ^ b)=j % 2 ^ b+2 ^ b:=by
   rw [eX,Nat.mod_mul];have:=gN (j / 2 ^ b);rcases this with z | z <;> rw [z]
   ·left; lia
   ·right; lia
  by_cases hs:v % (2*2 ^ b)=j % (2*2 ^ b)
  ·exact⟨n,#[O],by rw [hv]; exact hs⟩
  ·refine⟨n+2 ^ b,#[O],?_⟩;rw [key,e,Nat.add_mul_mod_self_left];have ml:=dr v hB;have:(v+2 ^ b) % (2*2 ^ b)=(v % (2*2 ^ b)+2 ^ b) % (2*2 ^ b):=by
    rw [Nat.mod_add_mod]
   rw [this];rcases m1 with z1 | z1 <;> rcases m2 with z2 | z2
   ·rw [z1,z2] at hs; exact absurd h hs
   ·rw [z1,z2,h,eI #[O]]
   ·rw [z1,z2,h];have:j % 2 ^ b+2 ^ b+2 ^ b=j % 2 ^ b+2*2 ^ b:=by lia
    rw [this,Nat.add_mod_right,eI #[O]]
   ·rw [z1,z2,h] at hs; exact absurd rfl hs
theorem zmV (n i M:Nat):un n (i % M) % M=un n i % M:=by
 unfold un;rw [Nat.add_mod,Nat.mul_mod,Nat.mod_mod,← Nat.mul_mod,← Nat.add_mod]
theorem zl2 {mask j:Nat}:∀ (n m i:Nat),m≤n→i < mask+1→un m i % (mask+1)=j→lr mask n i 0 j=true
 | 0,m,i,hm,hi,h=>by
  obtain rfl:m=0:=by lia
  rw [show un 0 i=i by unfold un lpC; simp,eI hi] at h;rw [lr,h]; simp
 | n+1,0,i,hm,hi,h=>by
  rw [show un 0 i=i by unfold un lpC; simp,eI hi] at h;rw [lr,h]; simp
 | n+1,m+1,i,hm,hi,h=>by
  rw [lr,bz];refine .inr ?_;have e:leap mask i 0=((i*5+1) % (mask+1),0):=by unfold leap; rfl
  rw [e];refine zl2 n m _ #[O] (dr _ (dP _)) ?_;rw [zmV,← h,Nat.add_comm m 1,zkB];have:un 1 i=i*5+1:=by unfold un lpC lpC; lia
  rw [this]
theorem zcT (b:Nat) {mask:Nat} (hm:mask+1=2 ^ b):∀ i,i < mask+1→∀ j,j < mask+1→lr mask mask i 0 j=true:=fun i hi j hj=>by
 obtain⟨n,h1,h2⟩:=zl1 b i j;rw [← hm] at h1 h2;exact zl2 mask n i #[O] hi (by rw [h2,eI hj])
def MkT (m:Nat):Prop:=m=7∨m=31∨m=127∨m=511∨m=2047∨m=8191
theorem zl3 {m:Nat} (h:MkT m):∀ i,i < m+1→∀ j,j < m+1→lr m m i 0 j=true:=by
 rcases h with h | h | h | h | h | h <;> subst h
 ·exact zcT 3 rfl
 ·exact zcT 5 rfl
 ·exact zcT 7 rfl
 ·exact zcT 9 rfl
 ·exact zcT 11 rfl
 ·exact zcT 13 rfl
theorem zmW {t:SetTable} (hm:MkT t.mask) (h:Int) {j:Nat} (hj:j≤t.mask):rch t.mask (10*turns t.mask) (t.probeStart h) j=true:=by
 have e:t.probeStart h=zkw t.mask (bits h % (t.mask+1)) (bits h):=rfl;rw [e];exact zdT (by unfold turns; lia) (zky _ _ _ (zfc (zl3 hm) (show j < t.mask+1 by lia) 13 (bits h % (t.mask+1)) (bits h) (dr _ (dP _)) (zhP h)))
theorem znr {m:Nat} (hm:MkT m) (h:Int) {j:Nat} (hj:j < m+1):rF m (turns m) (bits h % (m+1)) (bits h) j=true :=
 zhR (by unfold turns; lia) (zl0 _ _ _ (zfc (zl3 hm) hj 13 (bits h % (m+1)) (bits h) (dr _ (dP _)) (zhP h)))
def OwM (m:Nat) (ow:Array (Option Nat)) (k:Nat):Prop:=ow.size=m+1∧(ow.toList.filterMap id).Perm (ba k)
theorem zkC {m:Nat} (hm:MkT m) {ow:Array (Option Nat)} {k:Nat} (O:OwM m ow k) (hk:k < m+1) (h:Int):∃ j,layClean.free m ow (turns m) (bits h % (m+1)) (bits h)=some j∧OwM m (ow.setIfInBounds j (some k)) (k+1):=by
 obtain⟨j0,h0⟩:=zhO (l:=ow.toList) (by rw [O.2.length_eq,df,aH,O.1]; exact hk);rw [aV] at h0;have pq:j0 < m+1:=by
  rcases eZ j0 ow.size with h | h
  ·rw [← O.1]; exact h
  ·rw [bY h] at h0; cases h0
 obtain⟨j,e,hj⟩:=zeF (mask:=m) O.1 h0 (turns m) (bits h % (m+1)) (bits h) (fz (dr _ (dP _))) (znr hm h pq);refine⟨j,e,by rw [h8]; exact O.1,?_⟩;rw [Array.toList_setIfInBounds];refine (zkv (by rw [aV]; exact hj)).trans ?_;rw [iA];exact (O.2.cons k).trans (List.perm_append_singleton k (ba k)).symm
theorem zlD {m:Nat} (hm:MkT m) {hs:List Int} (hl:hs.length≤m):∃ ow,layClean m hs.toArray=some ow∧OwM m ow hs.length:=by
 have key:∀ (hs:List Int) (ow:Array (Option Nat)) (k:Nat),k+hs.length≤m→OwM m ow k→∃ yU,hs.foldl (fun (acc:Option (Array (Option Nat)×Nat)) (h:Int)=>do
   let (owner,k) ← acc
   let j ← layClean.free m owner (turns m) (bits h % (m+1)) (bits h)
   pure (owner.setIfInBounds j (some k),k+1)) (some (ow,k))=some (yU,k+hs.length)∧OwM m yU (k+hs.length):=by
  intro hs;induction hs with
  | nil=>intro ow k _ O; exact⟨ow,rfl,O⟩
  | cons h hs ih =>
   intro ow k hl O;rw [bq] at hl;obtain⟨j,e,O2⟩:=zkC hm O #[O] h;obtain⟨yU,e2,O3⟩:=ih _ (k+1) #[O] O2;refine⟨yU,?_,by rw [bq,show k+(hs.length+1)=k+1+hs.length by lia]; exact O3⟩;rw [eS,bq,show k+(hs.length+1)=k+1+hs.length by lia,← e2];congr 1;show (layClean.free m ow (turns m) (bits h % (m+1)) (bits h)).bind _=_;rw [e];rfl
 obtain⟨ow,e,O⟩:=key hs (Array.replicate (m+1) none) 0 #[O] ⟨#[M],by
  rw [Array.toList_replicate,List.range_zero];have:∀ n,(ap n (none:Option Nat)).filterMap id = []:=fun n=>by
   induction n with
   | zero=>rfl
   | succ n ih=>simp [cw,ih]
  rw [this]⟩
 rw [cq] at e O;refine⟨ow,?_,O⟩;unfold layClean;rw [← Array.foldl_toList];rw [e];rfl
theorem zgT {m:Nat} {ow:Array (Option Nat)} (hz:ow.size=m):((ba m).filterMap fun j=>(ow.getD j none).map (j,·)).map (·.2)=ow.toList.filterMap id:=by
 have e:ow.toList.filterMap id=((ba m).map fun j=>ow.toList.getD j none).filterMap id:=by
  have:=range_getD (d:=(none:Option Nat)) ow.toList;rw [aH,hz] at this;rw [this]
 rw [e,j3,gF];congr 1;funext j;have:ow.toList.getD j none=ow.getD j none:=by
  rw [gM,aV,Array.getD_eq_getD_getElem?]
 simp only [lG,id];rw [this];cases ow.getD j none <;> rfl
def MkN (m n:Nat):Prop:=m=7∧n≤4∨m=31∧n≤18∨m=127∧n≤76∨m=511∧n≤306∨m=2047∧n≤1228∨m=8191∧n≤4914
theorem MkN.mk {m n:Nat} (h:MkN m n):MkT m:=by
 rcases h with h | h | h | h | h | h
 ·exact .inl h.1
 ·exact .inr (.inl h.1)
 ·exact .inr (.inr (.inl h.1))
 ·exact .inr (.inr (.inr (.inl h.1)))
 ·exact .inr (.inr (.inr (.inr (.inl h.1))))
 ·exact .inr (.inr (.inr (.inr (.inr h.1))))
theorem MkN.le {m n:Nat} (h:MkN m n):n+1≤m∧m≤8191∧m % 2=1:=by
 rcases h with h | h | h | h | h | h <;> lia
structure Pc (led:Bool) (t:SetTable) (n:Nat):Prop where
 b:Tb led t
 p:t.plain=true
 z:t.place.size=n
 i:∀ j∈t.place.toList,j≤t.mask
 m:MkN t.mask n
theorem Pc.fits {led:Bool} {t:SetTable} {n:Nat} (P:Pc led t n):t.fits n=true:=by
 unfold gO jx;rw [P.b.d,P.z];have:=P.m.le;simp;lia
theorem Pc.relay {led:Bool} {t:SetTable} {n wanted m:Nat} {es:Array (Int×Value)} (T:Tb led t) (hp:t.plain=true) (he:es.size=n) (hn:MkN m n) (hw:sizeAbove wanted=m+1) :
  ∃ t' order,t.relaid (es.map (·.1)) wanted=some (t',order)∧order.toList.Perm (ba n)∧(order.filterMap (es[·]?)).size=n∧(order.filterMap (es[·]?)).toList.Perm es.toList∧Pc led t' n:=by
 have hT:=T.relay es wanted;have Bz:=hn.le;have hl:(es.toList.map (·.1)).length=n:=by rw [ae,aH,he]
 have eh:es.map (·.1)=(es.toList.map (·.1)).toArray:=by
  refine Array.toList_inj.mp ?_;rw [ic]
 obtain⟨ow,e,O⟩:=zlD hn.mk (hs:=es.toList.map (·.1)) #[O];rw [hl] at O;obtain⟨live,BI⟩:∃ live,live=(ba (m+1)).filterMap fun j=>(ow.getD j none).map (j,·):=⟨_,rfl⟩
 have hv:(live.map (·.2)).Perm (ba n):=by rw [BI,zgT O.1]; exact O.2
 have uS:live.length=n:=by rw [← ae (f:=(·.2)),hv.length_eq,df]
 have er:t.relaid (es.map (·.1)) wanted=some ({ mask:=m,place:=(live.map (·.1)).toArray,dummies:=#[],finger:=t.finger,led:=t.led,moves:=t.movedTo m,plain:=t.plain },(live.map (·.2)).toArray):=by
  unfold relaid laid;rw [hw,eh];show (layClean m (es.toList.map (·.1)).toArray).bind _=_;rw [e,BI];rfl
 have qG:((live.map (·.2)).toArray.filterMap (es[·]?)).toList.Perm es.toList:=by
  rw [Array.toList_filterMap];refine (hv.filterMap _).trans ?_;rw [← he,ziR]
 have uo:((live.map (·.2)).toArray.filterMap (es[·]?)).size=n:=by
  rw [← aH,qG.length_eq,aH,he]
 have hc:coversAll (live.map (·.2)).toArray n=true:=by
  unfold coversAll;exact List.isPerm_iff.mpr hv
 unfold relayAll at hT;rw [er] at hT;dsimp only at hT;have hf:gO { mask:=m,place:=(live.map (·.1)).toArray,dummies:=#[],finger:=t.finger,led:=t.led,moves:=t.movedTo m,plain:=t.plain } n=true:=by
  unfold gO fill;simp [uS];lia
 rw [uo,he,hc,hf] at hT;refine⟨_,_,er,hv,uo,qG,hT,hp,by simp [uS],fun j hj=>?_,hn⟩;have hj:j∈live.map (·.1):=hj;obtain⟨q,hq,rfl⟩:=aG.mp hj;rw [BI] at hq;obtain⟨j',nN,e'⟩:=gz.mp hq;have:=bA.mp nN;cases h:ow.getD j' none with
 | none=>rw [h] at e'; cases e'
 | some v =>
  rw [h] at e';injection e' with e'
  subst e';show j'≤m;lia
theorem Pc.next {led:Bool} {t1:SetTable} {n:Nat} (T:Tb led t1) (hp:t1.plain=true) (hz:t1.place.size=n+1) (hi:∀ j∈t1.place.toList,j≤t1.mask) (hm:MkN t1.mask n) (hn:n+1≤4914) :
  (t1.tooFull=true→∃ m',MkN m' (n+1)∧sizeAbove (lz (n+1))=m'+1)∧(t1.tooFull=false→Pc led t1 (n+1)):=by
 have ef:t1.fill=n+1:=by unfold jx; rw [T.d,hz]; rfl
 constructor
 ·intro h;unfold tooFull at h;rw [ef] at h;simp at h;rcases hm with ⟨m,h2⟩ | ⟨m,h2⟩ | ⟨m,h2⟩ | ⟨m,h2⟩ | ⟨m,h2⟩ | ⟨m,h2⟩ <;> rw [m] at h
  ·exact⟨31,.inr (.inl ⟨rfl,#[O]⟩),by rw [show n+1=5 by lia]; decide⟩
  ·exact⟨127,.inr (.inr (.inl ⟨rfl,#[O]⟩)),by rw [show n+1=19 by lia]; decide⟩
  ·exact⟨511,.inr (.inr (.inr (.inl ⟨rfl,#[O]⟩))),by rw [show n+1=77 by lia]; decide⟩
  ·exact⟨2047,.inr (.inr (.inr (.inr (.inl ⟨rfl,#[O]⟩)))),by rw [show n+1=307 by lia]; decide⟩
  ·exact⟨8191,.inr (.inr (.inr (.inr (.inr ⟨rfl,#[O]⟩)))),by rw [show n+1=1229 by lia]; decide⟩
  ·lia
 ·intro h;unfold tooFull at h;rw [ef] at h;simp at h;refine⟨T,hp,hz,hi,?_⟩;rcases hm with ⟨m,h2⟩ | ⟨m,h2⟩ | ⟨m,h2⟩ | ⟨m,h2⟩ | ⟨m,h2⟩ | ⟨m,h2⟩ <;> rw [m] at h
  ·exact .inl ⟨m,#[O]⟩
  ·exact .inr (.inl ⟨m,#[O]⟩)
  ·exact .inr (.inr (.inl ⟨m,#[O]⟩))
  ·exact .inr (.inr (.inr (.inl ⟨m,#[O]⟩)))
  ·exact .inr (.inr (.inr (.inr (.inl ⟨m,#[O]⟩))))
  ·exact .inr (.inr (.inr (.inr (.inr ⟨m,#[O]⟩))))
end L2
end
section
namespace L2
open PySem PySem.Spec PyProof.Rows PySem.SetTable
section
variable {prog:Program} {w:World} {A:Around} {E:Value→Shared→Prop} {s:Shared}
abbrev tkH (prog:Program) (w:World) (ks:List Int):Int:=tupleKeyHash (intKind prog w) ks
abbrev za6 (prog:Program) (w:World) (h:Heap) (ks:List Int) (a:Addr):Prop:=IsTupleKey (intKind prog w) h ks a
theorem items_int {ks:List Int} {vs:List Value} (h:ItemsAre (intKind prog w) ks vs):∀ v∈vs,∃ n t,v = .int n t:=by
 induction h with
 | nil=>intro v hv; cases hv
 | cons h1 _ ih =>
  intro v hv;rcases (au.mp hv) with rfl | hv
  ·have h:iH _ _=true:=h1;cases v with
   | int i t=>exact⟨i,t,rfl⟩
   | _=>exact absurd h (by unfold iH; simp)
  ·exact ih v hv
theorem ziS {ks:List Int} {b:Addr} {Q:Bool→Shared→Prop} (hk:za6 prog w s.heap ks b) (h:Q true s):wpAny (model prog w) A (hashByValue 8 (.ref b)) Q E s:=by
 have hT:=hk.typeIs
 (obtain⟨o,me,n,ho,_,hd,hi⟩:=hk)
 unfold hashByValue
 (refine aa (dX hT F.slot_tuple_hash.lookup ?_))
 show wpAny _ _ (seqItems? (.ref b) >>= _) _ _ s
 (refine aa (fj ho hd ?_))
 refine aa ?_
 (show wpAny _ _ (forIn me _ _) _ _ s)
 rw [← j4];refine ik _ (fun rest r s'=>r.1=none∧s'=s∧∀ v∈rest,∃ n t,v=du n t) _ ?_ ?_ _ _ ⟨rfl,rfl,items_int hi⟩
 ·(rintro v rest r s' ⟨hr,rfl,m7⟩)
  obtain⟨m,tk,rfl⟩:=m7 v ao;rw [hashByValue_scannable 7 (x:=.int m tk) rfl];refine aa (af ?_);rw [show plainKind (.int m tk)=true from rfl]
  (simp only [cV,aC,if_false])
  (exact af ⟨rfl,rfl,fun u xS=>m7 u (ai _ xS)⟩)
 ·(rintro⟨r1,r2⟩ s' ⟨hr,rfl,_⟩)
  simp only at hr;subst hr;exact af h
theorem zeG {ks:List Int} {b:Addr} {Q:Bool→Shared→Prop} (hk:za6 prog w s.heap ks b) (h:Q false s):wpAny (model prog w) A (ofAClassStatement 8 (.ref b)) Q E s:=by
 have hT:=hk.typeIs
 (obtain⟨o,me,n,ho,_,hd,hi⟩:=hk)
 unfold ofAClassStatement
 (refine aa (j5 hT ?_))
 dsimp only;rw [if_pos #[D]];refine aa (af ?_)
 (simp only [cV,aC,if_false])
 (refine aa (fj ho hd ?_))
 refine aa ?_
 (show wpAny _ _ (forIn me _ _) _ _ s)
 rw [← j4];refine ik _ (fun rest r s'=>r.1=none∧s'=s∧∀ v∈rest,∃ n t,v=du n t) _ ?_ ?_ _ _ ⟨rfl,rfl,items_int hi⟩
 ·(rintro v rest r s' ⟨hr,rfl,m7⟩)
  obtain⟨m,tk,rfl⟩:=m7 v ao;have e:ofAClassStatement 7 (.int m tk)=pure false:=by unfold ofAClassStatement; rfl
  rw [e];refine aa (af ?_)
  (simp only [aC,if_false])
  (exact af ⟨rfl,rfl,fun u xS=>m7 u (ai _ xS)⟩)
 ·(rintro⟨r1,r2⟩ s' ⟨hr,rfl,_⟩)
  simp only at hr;subst hr;exact af h
theorem zkD {ks:List Int} {b:Addr} {ys:List Value} {Q:Bool→Shared→Prop} (hk:za6 prog w s.heap ks b) (hy:∀ v∈ys,∃ k' b',v = .ref b'∧za6 prog w s.heap k' b') (h:Q false s):wpAny (model prog w) A (searchCouldBeSeen (.ref b) ys) Q E s:=by
 unfold searchCouldBeSeen;refine aa ?_;refine ik _ (fun rest r s'=>r.1=none∧s'=s∧∀ v∈rest,∃ k' b',v = .ref b'∧za6 prog w s.heap k' b') _ ?_ ?_ _ _ ⟨rfl,rfl,hy⟩
 ·(rintro v rest r s' ⟨hr,rfl,m7⟩)
  obtain⟨k',b',rfl,pL⟩:=m7 v ao;have hnx:∀ u∈rest,∃ k' b',u = .ref b'∧za6 prog w s'.heap k' b':=fun u xS=>m7 u (ai _ xS)
  dsimp only;by_cases hv:(b == b')=true
  ·rw [hv];exact af ⟨rfl,rfl,hnx⟩
  ·rw [show (b == b')=false by simpa using hv];show wpAny _ _ (eqIsQuiet 8 (.ref b) >>= _) _ _ s';refine aa (jc hk ?_)
   (simp only [cV,aC,if_false])
   refine aa (jc pL ?_)
   (simp only [cV,aC,if_false])
   refine aa (zeG hk ?_)
   (simp only [aC,if_false])
   refine aa (zeG pL ?_)
   (simp only [aC,if_false])
   exact af ⟨rfl,rfl,hnx⟩
 ·(rintro⟨r1,r2⟩ s' ⟨hr,rfl,_⟩)
  simp only at hr;subst hr;exact af h
structure SetU (prog:Program) (w:World) (led:Bool) (h:Heap) (a:Addr) (ms:List (List Int×Addr)) (o:Obj) (es:Array (Int×Value)) (ep:Nat) (t:SetTable):Prop where
 g:h.get? a=some o
 ex:o.ExactSet
 dt:o.data = .set es ep t
 pm:es.toList.Perm (ms.map fun q=>(tkH prog w q.1,aK q.2))
 ky:∀ q∈ms,za6 prog w h q.1 q.2
 pb:Pc led t es.size
theorem ziT {t:SetTable} {j i:Nat} (h:t.slot j = .live i):t.place[i]? = some j:=by
 unfold slot at h;dsimp only at h;split at h
 ·next hc =>
  injection h with h
  rw [← h];simpa using hc
 ·split at h <;> cases h
theorem zgU {a b:Addr} {led:Bool} {ms:List (List Int×Addr)} {o:Obj} {es:Array (Int×Value)} {ep:Nat} {t:SetTable} {ks:List Int} {Q:SetFound→Shared→Prop} (hu:A.units < cLine) (S:SetU prog w led s.heap a ms o es ep t) (hk:za6 prog w s.heap ks b)
  (o3:∀ q∈ms,q.1≠ks) {j0:Nat} (h0:t.slot j0 = .empty) (hq:∀ j,j≤t.mask→t.slot j = .empty→Q (.free j false) s):∀ F fuel (st:Option Probe),F < fuel→F≤10*turns t.mask→(st.getD (t.probeStart (tkH prog w ks))).dummy=none→(st.getD (t.probeStart (tkH prog w ks))).j+(st.getD (t.probeStart (tkH prog w ks))).more≤t.mask→rch t.mask F (st.getD (t.probeStart (tkH prog w ks))) j0=true →
   wpAny (model prog w) A (setSearchFrom a (.ref b) (tkH prog w ks) true fuel st) Q E s:=by
 intro F;induction F using Nat.strongRecOn with
 | ind F ih =>
  intro fuel st hF hT hd og hr;obtain⟨fuel,rfl⟩:∃ f,fuel=f+1:=⟨fuel - 1,#[O]⟩;have hf:=S.pb.fits;rw [setSearchFrom];refine aa (cO S.g S.dt hf ?_);dsimp only;have hg:t.gaveWay=false:=by
   unfold gaveWay;have:=S.pb.m.le.2.2;simp [this]
  rw [hg]
  (simp only [aC,if_false])
  generalize xT:t.probe _ (tkH prog w ks) (st.getD (t.probeStart (tkH prog w ks)))=pr;rcases zkA S.pb.b.d (hashAt:=fun i=>(es[i]?.map (·.1)).getD 0) (h:=tkH prog w ks) h0 (10*turns t.mask) F _ hT hd og hr with ⟨j,e,hj,hs⟩ | ⟨j,i,p',F',e,hs,hh,ml,BJ,pK,BK⟩
  ·obtain rfl:some (Met.empty j none)=pr:=e.symm.trans xT;exact af (hq j hj hs)
  ·obtain rfl:some (Met.candidate j i p')=pr:=e.symm.trans xT;dsimp only;have nu:=ziT hs;have hi:i < es.size:=by
    rw [← S.pb.z];exact (cp.mp nu).1
   have qF:es[i]∈ms.map fun q=>(tkH prog w q.1,aK q.2):=S.pm.mem_iff.mp (by rw [dF]; exact Array.getElem_mem hi)
   obtain⟨q,uV,eq⟩:=aG.mp qF;have m7:∀ v∈(es.filter (·.1 == tkH prog w ks)).toList.map (·.2),∃ k' b',v = .ref b'∧za6 prog w s.heap k' b':=fun v hv=>by
    obtain⟨e',sN,rfl⟩:=aG.mp hv;rw [dF] at sN;obtain⟨q',rH,rfl⟩:=aG.mp (S.pm.mem_iff.mp (by rw [dF]; exact (Array.mem_filter.mp sN).1));exact⟨q'.1,q'.2,rfl,S.ky q' rH⟩
   have xU:wpAny (model prog w) A (setSearchFrom a (.ref b) (tkH prog w ks) true fuel (some p')) Q E s:=ih F' ml fuel (some p') #[O] #[O] pK BK BJ;have uo:es[i]? = some (tkH prog w q.1,aK q.2):=by rw [bu hi,← eq]
   have mo:decide (q.1=ks)=false:=decide_eq_false (o3 q uV);have rC:t.sameMemory t.moves t.mask=some true:=by unfold sameMemory; rw [if_pos #[M]]
   by_cases xV:t.led=true;rw [xV]; simp only [cV,aC,if_false]; rotate_left;rw [show t.led=false by simpa using xV]; simp only [gr,if_true]; refine aa (zkD hk m7 ?_); simp only [aC,if_false]
   all_goals (
    rw [uo];dsimp only;refine aa (bD (wpAny_eqBool_tuple hu (S.ky q uV) hk ?_));rw [mo];refine aa (cO S.g S.dt hf ?_);dsimp only;simp only [lq,aC,if_false];rw [rC];dsimp only;rw [if_pos rfl,hs];dsimp only;rw [uo];dsimp only;refine aa (wpAny_isSame_ref_self ?_);rw [if_pos rfl];exact aa (af xU))
end
section
variable {prog:Program} {w:World} {A:Around} {E:Value→Shared→Prop} {s:Shared}
abbrev zfe (prog:Program) (w:World) (led:Bool) (h:Heap) (a:Addr) (ms:List (List Int×Addr)):Prop:=∃ o es ep t,SetU prog w led h a ms o es ep t
theorem zga {h h':Heap} {ks:List Int} {b a:Addr} {o:Obj} {es ep t} (x:za6 prog w h ks b) (ho:h.get? a=some o) (hd:o.data = .set es ep t) (hs:cS a h h'):za6 prog w h' ks b:=by
 (obtain⟨o',me,n,pJ,hc,pK,hi⟩:=x)
 have mo:b≠a:=by
  rintro rfl
  (obtain rfl:o'=o:=aX (pJ.symm.trans ho))
  (rw [hd] at pK; exact nomatch pK)
 exact⟨o',me,n,(hs.2 b mo).trans pJ,hc,pK,hi⟩
theorem zgb {h h':Heap} {ks:List Int} {b:Addr} (x:za6 prog w h ks b) (e:∀ o,h.get? b=some o→h'.get? b=some o):za6 prog w h' ks b:=by
 obtain⟨o',me,n,pJ,r⟩:=x;exact⟨o',me,n,e _ pJ,r⟩
theorem zhS {h:Heap} {a:Addr} {o:Obj} {es es':Array (Int×Value)} {ep:Nat} {t t':SetTable} (ho:h.get? a=some o) (hd:o.data = .set es ep t) :
  (h.update a (hE es' t')).get? a=some { o with data:=.set es' (ep+1) t' }:=by
 (have:=bK (hE es' t') ho (by rw [putSet_of es' t' hd]; rfl))
 rw [putSet_of es' t' hd] at this;exact this
theorem zkE {a b:Addr} {led:Bool} {ms:List (List Int×Addr)} {ks:List Int} {Q:Bool→Shared→Prop} (hu:A.units < cLine) (hS:zfe prog w led s.heap a ms) (uW:ms.length+1≤4914) (hk:za6 prog w s.heap ks b) (o3:∀ q∈ms,q.1≠ks)
  (h:∀ h' r,cS a s.heap h'→zfe prog w led h' a (ms++[(ks,b)])→Q r { s with heap:=h' }) :
  wpAny (model prog w) A (setAddHashed a (.ref b) (tkH prog w ks)) Q E s:=by
 obtain⟨o,es,ep,t,S⟩:=hS;have hf:=S.pb.fits;have hn:es.size=ms.length:=by rw [← aH,S.pm.length_eq,ae]
 (unfold setAddHashed setAddHashedIn)
 refine bD (aa (cO S.g S.dt hf ?_));dsimp only;rw [show byScan (.ref b) es=false from rfl]
 (simp only [aC,if_false])
 obtain⟨j0,pq,h0⟩:=zku S.pb.b.d (by have:=S.pb.z; have:=S.pb.m.le; lia);have AD:MkT t.mask:=S.pb.m.mk;have n9:(t.probeStart (tkH prog w ks)).j+(t.probeStart (tkH prog w ks)).more≤t.mask:=zkr (fz (dr _ (dP _)));have hfu:10*turns t.mask < 100000:=by unfold turns; have:=S.pb.m.le; lia
 unfold setSearch;refine aa (zgU hu S hk o3 h0 (fun j hj hs=>?_) (10*turns t.mask) 100000 none hfu (ah _) rfl n9 (zmW AD _ pq));dsimp only;refine aa (cO S.g S.dt hf ?_);dsimp only;have hnp:t.place[below t.place j]?≠some j:=fun hc=>by
  unfold slot at hs;dsimp only at hs;rw [hc] at hs;simp at hs
 have hb:=(zcB S.pb.b.r j).1;have hT:=S.pb.b.put hnp;have hz:(t.put j).1.place.size=es.size+1:=by
  show (insertAt t.place (below t.place j) j).size=es.size+1;rw [zf9 hb,S.pb.z]
 have nu:(t.put j).1.plain=true:=S.pb.p;have BL:(t.put j).1.mask=t.mask:=rfl;have og:∀ k∈(t.put j).1.place.toList,k≤(t.put j).1.mask:=fun k pL=>by
  rw [BL];have pL:k∈(insertAt t.place (below t.place j) j).toList:=pL;rw [SetTable.toList_insertAt] at pL;rcases aR.mp pL with h1 | h1
  ·exact S.pb.i k (gb h1)
  ·rcases au.mp h1 with rfl | h1
   ·exact hj
   ·exact S.pb.i k (f7 h1)
 obtain⟨rh,e1⟩:∃ rh,rh=SetTable.insertAt es (t.put j).2 (tkH prog w ks,aK b):=⟨_,rfl⟩;have qE:rh.toList.Perm ((ms++[(ks,b)]).map fun q=>(tkH prog w q.1,aK q.2)):=by
  rw [e1];refine (SetTable.insertAt_perm _ _ _).trans ?_;rw [gX,aN];exact S.pm.append (.refl _)
 have tR:rh.size=es.size+1:=by rw [← aH,qE.length_eq,ae,aF,hn]; rfl
 rw [← e1];generalize (t.put j).1=t1 at hT hz nu BL og ⊢;rw [if_pos nu];refine aa (ziS hk ?_);simp only [if_true,gr,lF];have qm:sizeLine=16777216:=rfl;refine aa (wpAny_storeSet_of S.g S.dt ?_ #[O]);have wF:=zhS (es':=rh) (t':=t1) S.g S.dt;have qV:=be s.heap a (hE rh t1);have sQ:MkN t1.mask es.size:=by rw [BL]; exact S.pb.m
 obtain⟨nx1,nx2⟩:=Pc.next hT nu hz og sQ #[O];have hky:∀ {h'},cS a s.heap h'→∀ q∈ms++[(ks,b)],za6 prog w h' q.1 q.2:=fun {h'} mS q hq=>by
  rcases (aR.mp hq) with hq | hq
  ·exact zga (S.ky q hq) S.g S.dt mS
  ·(rw [aA.mp hq])
   exact zga hk S.g S.dt mS
 by_cases wL:t1.tooFull=true
 ·rw [if_pos wL];obtain⟨m5,h5,hw⟩:=nx1 wL;unfold setRelay;have hf1:t1.fits rh.size=true:=by
   unfold gO jx;rw [hT.d,hz,tR];have:=sQ.le;simp;lia
  refine aa (aa (cO (s:={ s with heap:=s.heap.update a (hE rh t1) }) wF rfl hf1 ?_));dsimp only;have Bz:=h5.le;rw [hw,if_neg #[O]];obtain⟨t3,order,er,hor,BM,hop,P3⟩:=Pc.relay (wanted:=lz (es.size+1)) (es:=rh) hT nu rfl (by rw [tR]; exact h5) hw;rw [er];obtain⟨xW,e2⟩:∃ xW,xW=order.filterMap (rh[·]?):=⟨_,rfl⟩;rw [← e2] at BM hop;refine aa ?_;show wpAny _ _ (if ((order.filterMap (rh[·]?)).size != rh.size)=true then _ else _) _ _ _;rw [← e2,BM,if_neg #[M]]
  (refine aa (af (af ?_)))
  refine wpAny_storeSet_of (s:={ s with heap:=s.heap.update a (hE rh t1) }) wF rfl ?_ (show xW.size≤sizeLine by lia);refine af (h _ _ (qV.trans (be _ a _)) ⟨_,xW,_,t3,zhS (es':=xW) (t':=t3) wF rfl,S.ex,rfl,hop.trans qE,hky (qV.trans (be _ a _)),?_⟩);rw [BM];exact P3
 ·rw [if_neg wL];exact aa (af (af (h _ _ qV ⟨_,rh,_,t1,wF,S.ex,rfl,qE,hky qV,by rw [tR]; exact nx2 (by simpa using wL)⟩)))
end
section
variable {St:Nat→Shared→Prop} {prog:Program} {w:World} {A:Around} {R:Result→Shared→Prop} {I:Addr} {fp wr:List Addr} {G:Array GenState→Array GenState→Prop} {n:Nat} {P:Nat→Value→Prop}
theorem zfe.at {led:Bool} {h h':Heap} {a:Addr} {ms:List (List Int×Addr)} (hS:zfe prog w led h a ms) (e:∀ o,h.get? a=some o→h'.get? a=some o) (hk:∀ q∈ms,za6 prog w h' q.1 q.2):zfe prog w led h' a ms:=by
 obtain⟨o,es,ep,t,S⟩:=hS;exact⟨o,es,ep,t,e o S.g,S.ex,S.dt,S.pm,hk,S.pb⟩
theorem zlE {α:Type} {l:List α} {i:Nat} {x:α} (h:l[i]? = some x):l.take (i+1)=l.take i++[x]:=by
 rw [gT,h];rfl
theorem ziU (W:WalksS prog w A.in1 I fp wr G n P St) (S:Addr) (yV:S∉fp) (ms:List (List Int×Addr)) (vO:∀ i v,P i v→∃ q,ms[i]? = some q∧v = .ref q.2) (hb:ms.length≤4913) (hn:ms.length=n) (nd:(ms.map (·.1)).Nodup) (hw:∀ q∈ms,q.2∉wr) (hSm:∀ q∈ms,q.2≠S) (hu:A.units+1 < cLine) {led:Bool} :
  ∀ (k i:Nat) (s:Shared),n - i=k→i≤n→St i s→zfe prog w led s.heap S (ms.take i)→(∀ q∈ms,za6 prog w s.heap q.1 q.2) →
   (∀ s',Moved (S :: wr) G s s'→zfe prog w led s'.heap S ms→R (.ok (.ret .none)) s')→codeAny (model prog w) A (.builtin "set.update.loop" ⟨[.ref S,.ref I],[]⟩) R s:=by
 (have hSw:S∉wr:=fun h=>yV (W.sub _ h))
 (have qH:∀ b∈wr,b∈S :: wr:=fun b hb=>ai _ hb)
 intro k;induction k with
 | zero =>
  intro i s hk hi n9 hS hK hR;obtain rfl:i=n:=by lia
  refine cC fb ?_;rw [ck dw _]
  (refine aa (W.done s _ _ n9 fun s' hm=>?_))
  rw [aW #[O]] at hS;exact af (hR s' (hm.mono qH) (hS.at (fun o e=>hm.heap S _ hSw e) fun q hq=>zgb (hK q hq) fun o e=>hm.heap _ _ (hw q hq) e))
 | succ k ih =>
  intro i s hk hi n9 hS hK hR;have ml:i < n:=by lia
  refine cC fb ?_;rw [ck dw _]
  (refine aa (W.item i s _ _ ml n9 fun v s' hP BN hm=>?_))
  obtain⟨q,BO,rfl⟩:=vO i v hP;have uV:=aO BO;have yW:∀ q∈ms,za6 prog w s'.heap q.1 q.2:=fun q hq=>zgb (hK q hq) fun o e=>hm.heap _ _ (hw q hq) e
  have xX:=hS.at (h':=s'.heap) (fun o e=>hm.heap S _ hSw e) fun q hq=>yW q (gb hq)
  show wpAny _ A.in1 (holding [aK q.2] (setAdd S (.ref q.2)) >>= _) _ _ s'
  (refine aa (bD ?_))
  unfold setAdd;have hu1:A.in1.units < cLine:=by simp; lia
  refine bD (aa (wpAny_pyHash_tuple (knd:=intKind prog w) hu1 (yW q uV) ?_));have uW:(ms.take i).length+1≤4914:=by rw [aS]; lia
  refine zkE (s:={ s' with toks:=s'.toks+(q.1.length+1) }) hu1 xX uW (yW q uV) (fun q' rH e=>?_) fun h' b qV uX=>?_
  ·obtain⟨i',mY⟩:=cK rH;rw [List.getElem?_take] at mY;split at mY
   ·next hl =>
    have h1:(ms.map (·.1))[i']? = some q'.1:=by rw [az,mY]; rfl
    have h2:(ms.map (·.1))[i]? = some q.1:=by rw [az,BO]; rfl
    have:=(List.getElem?_inj (j:=i) (aT.mp h1).1 nd).mp (by rw [h1,h2,e]);lia
   ·cases mY
  rw [← zlE BO] at uX;have hK2:∀ q∈ms,za6 prog w h' q.1 q.2:=fun q hq=>zgb (yW q hq) fun o e=>by rw [qV.2 _ (hSm q hq)]; exact e
  refine af ⟨dD dw _,ih (i+1) _ #[O] ml (W.frame _ s' _ _ BN (kP _ _) fun b hb o e=>?_) uX hK2 fun t8 BP BQ=>?_⟩
  ·(rw [qV.2 b (fun h:b=S=>yV (by rw [← h]; exact hb))]; exact e)
  ·refine hR t8 (Moved.trans W.gtrans ((hm.mono qH).then_heap (kP _ _) fun b o hb e=>?_) BP) BQ
   (rw [qV.2 b (fun h:b=S=>hb (by rw [h]; exact ao))]; exact e)
end
def zab (w:World):Bool:=!w.params.followText "set-order"
def zaT (led:Bool):Obj:={ cls:=.type "set",dict:=none,data:=.set #[] 0 (.fresh 0 0 led) }
section
variable {prog:Program} {w:World} {A:Around} {E:Value→Shared→Prop} {s:Shared}
theorem zkF (a:Value) {Q₁:Value→Shared→Prop} (h:Q₁ (.ref s.heap.objs.size) { s with heap:=s.heap.push (zaT (zab w)) }):codeAny (model prog w) A (.call (.builtin "set.__new__") ⟨[.type "set",a],[]⟩) (wants Q₁ E) s:=by
 refine iz ?_;show wpAny _ A.in1 (checkBuiltinCall "set.__new__" ⟨[.type "set",a],[]⟩ >>= fun _=>again (.builtin "set.__new__" ⟨[.type "set",a],[]⟩)) _ _ s;refine aa (dn (PySem.F.newCall_set_1 a) (af ⟨dD jd _,cC PySem.F.entry_set_new ?_⟩));rw [ck jd _]
 (unfold Builtin.«set.__new__» lI)
 have qH:=sub_set_self
 (obtain⟨hp,g,d,tk,os⟩:=s)
 dsimp only
 wp_walk
 (refine fM (af ?_))
 dsimp only;simp only [newObj]
 (refine aa (wpAny_alloc (af ?_)))
 exact af h
theorem zgc {h:Heap} {a:Addr} {led:Bool} (ho:h.get? a=some (zaT led)):zfe prog w led h a [] :=
 ⟨_,#[],0,_,ho,⟨rfl,rfl,rfl⟩,rfl,.refl _,(fun q hq=>by cases hq),⟨.fresh _ _ _,rfl,rfl,(fun j hj=>by cases hj),.inl ⟨rfl,bi _⟩⟩⟩
theorem znV:isSubtype (.type "list") (.type "set")=pure false:=by rw [cY]; kernel_rfl
theorem znW:isSubtype (.type "list") (.type "frozenset")=pure false:=by rw [cY]; kernel_rfl
abbrev zhT (prog:Program) (w:World) (s:Shared) (ms:List (List Int×Addr)) (h':Heap):Prop :=
 zfe prog w (zab w) h' s.heap.objs.size ms∧∀ b o,b < s.heap.objs.size→s.heap.get? b=some o→h'.get? b=some o
theorem ziV {l:Addr} {me:Array Value} {ms:List (List Int×Addr)} {R:Result→Shared→Prop} (hh:A.handled=none) (hu:A.units+8 < cLine) (hl:s.heap.IsList l me) (hi:me.toList=ms.map fun q=>aK q.2) (hb:ms.length≤4913) (nd:(ms.map (·.1)).Nodup) (hk:∀ q∈ms,za6 prog w s.heap q.1 q.2)
  (h:∀ h' tk,zhT prog w s ms h'→R (.ok (.ret .none)) { s with heap:=h',toks:=tk }) :
  wpAny (model prog w) A.in1 (Builtin.«set.__init__» ⟨[.ref s.heap.objs.size,.ref l],[]⟩) (fun fin s'=>match fin with | .done f=>R (.ok f) s' | .again c'=>c'.quiet=true∧codeAny (model prog w) A c' R s') (fun e s'=>R (.error e) s') { s with heap:=s.heap.push (zaT (zab w)) }:=by
 have hzi:me.size=ms.length:=by rw [← aH,hi,ae]
 have hS:(s.heap.push (zaT (zab w))).get? s.heap.objs.size=some (zaT (zab w)):=aB _ rfl;have ml:l < s.heap.objs.size:=by obtain⟨o,ho,_⟩:=hl; exact av ho
 have xY:∀ q∈ms,q.2 < s.heap.objs.size:=fun q hq=>by obtain⟨o,_,_,ho,_⟩:=hk q hq; exact av ho
 have zz:(s.heap.push (zaT (zab w))).objs.size=s.heap.objs.size+1:=bP ..;have ue:(s.heap.push (zaT (zab w))).IsList l me:=hl.push _;have hT:lJ { s with heap:=s.heap.push (zaT (zab w)) } (.ref s.heap.objs.size) "set":=⟨_,hS,rfl⟩;have qC:∀ q∈ms,za6 prog w (s.heap.push (zaT (zab w))) q.1 q.2:=fun q hq=>zgb (hk q hq) fun o e=>aj _ e
 have q1:=znV;have q2:=znW;have q3:(eB "list" == eB "dict")=false:=by decide
 have uX:=zgc (prog:=prog) (w:=w) hS;unfold zhT at h;generalize zab w=led at *;obtain⟨ol,hol,pd,nl,uU⟩:=id ue
 (obtain⟨ocls,odict,odata,BR⟩:=ol)
 simp only at pd uU;subst pd uU;unfold Builtin.«set.__init__» noKeywords lA zaT;unfold zaT at hS hT hol ue zz uX qC;generalize hPI:pyIter=PI
 wp_walk
 subst hPI;refine gQ ue (aa (wpAny_runValue ?_));have z0:s.heap.objs.size≠s.heap.objs.size+1:=aL (fN _);refine ziU (led:=led) ((Walks.list (show A.in1.in1.handled=none by simp [hh]) (s.heap.push (zaT led)).objs.size l (by rw [bP]; exact aL (cN ml)) me).toS) s.heap.objs.size (by
   rw [bP];intro m;rcases (au.mp m) with e | e
   ·exact z0 e
   ·exact dL ml (aA.mp e)) ms (fun i v hv=>by
    have hv:me.toList[i]? = some v:=by rw [aV]; exact hv
    rw [hi,az] at hv;obtain⟨q,hq,e⟩:=fE.mp hv;exact⟨q,hq,e.symm⟩) hb hzi.symm nd (fun q hq m=>by
    have:=xY q hq;have m:=aA.mp m;rw [bP] at m;exact aL (cN this) m) (fun q hq=>aL (xY q hq)) (by simp; lia) (me.size - 0) 0 _ rfl (bi _) ⟨⟨_,aB _ rfl,rfl,rfl⟩,ue.push _⟩
  (uX.at (fun o e=>aj _ e) fun q hq=>by cases hq) (fun q hq=>zgb (qC q hq) fun o e=>aj _ e) fun s' hm xX=>?_
 (obtain⟨h',g',d',rK,wZ⟩:=s')
 obtain rfl:g'=s.gens:=hm.gens;obtain rfl:d'=s.drawn:=hm.drawn;obtain rfl:wZ=s.os:=hm.os;refine af ?_
 (show wpAny _ _ (ret cj) _ _ _)
 refine af (h h' rK ⟨xX,fun b o oZ e=>?_⟩);refine hm.heap b o ?_ (aj _ (aj _ e));intro m;rcases (au.mp m) with e | e
 ·exact aL oZ e
 ·have e:=aA.mp e;rw [bP] at e;exact aL (cN oZ) e
theorem ziW {l:Addr} {me:Array Value} {ms:List (List Int×Addr)} {Q:Value→Shared→Prop} (hh:A.handled=none) (hu:A.units+16 < cLine) (hl:s.heap.IsList l me) (hi:me.toList=ms.map fun q=>aK q.2) (hb:ms.length≤4913) (nd:(ms.map (·.1)).Nodup) (hk:∀ q∈ms,za6 prog w s.heap q.1 q.2)
  (h:∀ h' tk,zhT prog w s ms h'→Q (.ref s.heap.objs.size) { s with heap:=h',toks:=tk }):wpAny (model prog w) A (call (.type "set") [.ref l]) Q E s:=by
 have ft:=PySem.F.called_set
 (obtain⟨c,tl,hmro⟩:=ft.mro)
 have p1:=ft.made;have p2:=ft.sub;have p3:=ft.notType;have p4:=ft.canCreate;have p5:=PySem.F.typeCall_set_1 (.ref l);refine fe (iz ?_); show wpAny _ _ (callAny (.type "set") _) _ _ _;refine af ⟨jU _ #[N],cC PySem.F.entry_type_call ?_⟩; rw [Around.under_plain (weight_type_call_type "set" [.ref l] []) rfl]; repeat (any_goals (first | assumption | wp_step))
 refine ed (zkF (.ref l) (E:=E) (Q₁:=fun obj s₁=>obj = .ref s.heap.objs.size∧s₁ = { s with heap:=s.heap.push (zaT (zab w)) }) ⟨rfl,rfl⟩) fun r s₁ hr=>?_
 cases r with
 | error e=>exact hr
 | ok fl =>
  cases fl with
  | ret obj =>
   obtain⟨rfl,rfl⟩:=hr;have hS:(s.heap.push (zaT (zab w))).get? s.heap.objs.size=some (zaT (zab w)):=aB _ rfl;have hT:lJ { s with heap:=s.heap.push (zaT (zab w)) } (.ref s.heap.objs.size) "set":=⟨_,hS,rfl⟩;have p6:=ft.init.lookup;have p7:=ft.init.bind (.ref s.heap.objs.size); repeat (any_goals (first | assumption | wp_step))
   refine ed (f6 (R:=wants (fun r s₂=>r = .none∧∃ h' tk,s₂ = { s with heap:=h',toks:=tk }∧zhT prog w s ms h') E) ft.init.plain PySem.F.entry_set_init (check_set_init_1 hT (ziV (A:=A.in1) (by simp [hh]) (by simp; lia) hl hi hb nd hk fun h' tk fl=>⟨rfl,h',tk,rfl,fl⟩))) fun r₂ s₂ hr₂=>?_
   cases r₂ with
   | error e=>exact hr₂
   | ok fl₂ =>
    cases fl₂ with
    | ret r =>
     obtain⟨rfl,h',tk,rfl,fl⟩:=hr₂; repeat (any_goals (first | assumption | wp_step))
     exact h _ _ fl
    | _=>exact hr₂.elim
  | _=>exact hr.elim
end
end L2
end
section
namespace L2
open PySem PySem.Spec PyProof.Rows
theorem erase_perm {α:Type}:∀ {l:List α} {i:Nat} (h:i < l.length),(l[i] :: l.eraseIdx i).Perm l
 | [],i,h=>by simp at h
 | a :: l,0,h=>by simp
 | a :: l,i+1,h=>by
  have:=erase_perm (l:=l) (i:=i) (by simpa using h);simp only [List.getElem_cons_succ,List.eraseIdx_cons_succ];exact (lu _ _ _).trans (this.cons a)
theorem zhU {α:Type} {next:Nat→Nat}:∀ (fuel k:Nat) (left:List α) (out:Array α),left.length≤fuel→(j6 next fuel k left out).toList.Perm (out.toList++left)
 | 0,k,left,out,h=>by
  have:left = []:=bh.mp #[O];subst this;simp [j6]
 | fuel+1,k,left,out,h=>by
  rw [j6];split
  ·next x hx =>
   have hi:next k % left.length < left.length:=by
    rcases eZ (next k % left.length) left.length with h' | h'
    ·exact h'
    ·rw [fV h'] at hx; cases hx
   have e:left[next k % left.length]=x:=by rw [aE hi] at hx; injection hx
   refine (zhU fuel (k+1) _ _ (by rw [List.length_eraseIdx_of_lt hi]; lia)).trans ?_;rw [gX,bf]
   (refine List.Perm.append_left _ ?_)
   rw [List.singleton_append,← e];exact erase_perm hi
  ·next hx =>
   have:left = []:=by
    cases left with
    | nil=>rfl
    | cons a l=>rw [aE (dr _ #[M])] at hx; cases hx
   subst this;simp
theorem ziX {α:Type} (next:Nat→Nat) (xs:Array α):(pickOrder next xs).toList.Perm xs.toList:=by
 have:=zhU (next:=next) xs.size 0 xs.toList #[] #[M];simpa [pickOrder] using this
def zaD (w:World) (a:Addr) (ep:Nat) (es:Array (Int×Value)):Array (Int×Value):=if zab w=true then es else pickOrder (w.params.setOrder a ep) es
theorem zbS (w:World) (a:Addr) (ep:Nat) (es:Array (Int×Value)):(zaD w a ep es).toList.Perm es.toList:=by
 unfold zaD;split
 ·exact .refl _
 ·exact ziX _ _
def slotAt (w:World) (t:SetTable) (i:Nat):Nat:=if zab w=true then (if i=0 then 0 else t.place.getD (i - 1) 0+1) else 0
section
variable {prog:Program} {w:World} {A:Around} {E:Value→Shared→Prop} {s:Shared}
theorem zck {Q:Bool→Shared→Prop} (h:Q (!zab w) s):wpAny (model prog w) A setsByText Q E s:=by
 unfold setsByText;refine aa (fM (af ?_));unfold zab at h;rw [Bool.not_not] at h;exact h
theorem zgd {a:Addr} {o:Obj} {es:Array (Int×Value)} {ep i:Nat} {t:SetTable} {Q:Option (Value×Nat)→Shared→Prop} (ho:s.heap.get? a=some o) (hd:o.data = .set es ep t) (P:Pc (zab w) t es.size) (hi:i≤es.size)
  (h:Q (((zaD w a ep es)[i]?).map fun e=>(e.2,slotAt w t (i+1))) s):wpAny (model prog w) A (setNext a (slotAt w t i) i ep) Q E s:=by
 have hf:=P.fits;unfold setNext
 (refine aa (cO ho hd hf ?_))
 dsimp only;refine aa (zck ?_);cases hl:zab w with
 | false =>
  rw [gr,if_pos rfl];rw [if_neg #[M]];have e1:zaD w a ep es=pickOrder (w.params.setOrder a ep) es:=by unfold zaD; rw [hl]; rfl
  have e2:∀ j,slotAt w t j=0:=fun j=>by unfold slotAt; rw [hl]; rfl
  rw [e1,e2] at h;rw [e2];refine aa ?_;unfold setWalk
  (refine aa (cO ho hd hf ?_))
  dsimp only;refine aa (zck ?_);rw [hl,gr,if_pos rfl];refine aa (fM (af ?_));exact af h
 | true =>
  rw [cV,if_neg #[M]];have e1:zaD w a ep es=es:=by unfold zaD; rw [hl]; rfl
  have hbl:SetTable.below t.place (slotAt w t i)=i:=by
   unfold slotAt;rw [hl,if_pos rfl];by_cases h0:i=0
   ·rw [if_pos h0,h0]; exact zgR P.b.r
   ·rw [if_neg h0];have ml:i - 1 < t.place.size:=by rw [P.z]; lia
    have:t.place.getD (i - 1) 0=t.place[i - 1]:=by simp [gc,ml]
    rw [this,zgQ P.b.r ml];lia
  have h2:slotAt w t (i+1)=t.place.getD i 0+1:=by unfold slotAt; rw [hl]; rfl
  rw [e1,h2] at h;split
  ·next uq =>
   exfalso;have uq:(!t.plain && decide (es.size > 1))=true:=uq;rw [P.p] at uq;simp at uq
  ·refine aa ?_;show wpAny _ _ (if (!t.led && !es.isEmpty)=true then _ else _) _ _ _;rw [P.b.l,hl];rw [if_neg #[M]];refine af ?_;rw [hbl];by_cases ml:i < es.size
   ·have hz:i < t.place.size:=by rw [P.z]; exact ml
    rw [bu ml,bu hz];rw [bu ml] at h;have:t.place.getD i 0=t.place[i]:=by simp [gc,hz]
    rw [this] at h;exact af h
   ·rw [bY #[O]] at h ⊢;exact af h
end
theorem zam:Slot "set_iterator" "__next__" "set_iterator.__next__" :=
 .of (owner:="set_iterator") (n:="__next__") (by rw [dW,cX]; kernel_rfl) #[N] #[N] #[N] (by first | exact .inl #[N] | exact .inr #[N]) (by rw [cY]; kernel_rfl)
theorem zcC:Slot "set_iterator" "__iter__" "set_iterator.__iter__" :=
 .of (owner:="set_iterator") (n:="__iter__") (by rw [dW,cX]; kernel_rfl) #[N] #[N] #[N] (by first | exact .inl #[N] | exact .inr #[N]) (by rw [cY]; kernel_rfl)
theorem zca:entryFor table "set_iterator.__next__" = some Builtin.«set_iterator.__next__»:=entryFor_of_fast (by kernel_rfl)
theorem zd8:entryFor table "set_iterator.__iter__" = some Builtin.«dict_keyiterator.__iter__»:=iT (id':="dict_keyiterator.__iter__") (by kernel_rfl) rfl #[N] (by kernel_rfl)
theorem zdU:entryFor table "set.__iter__" = some Builtin.«frozenset.__iter__»:=iT (id':="frozenset.__iter__") (by kernel_rfl) rfl #[N] (by kernel_rfl)
theorem zcD (a:Value):argsOk "set_iterator.__next__" ⟨[a],[]⟩:=by unfold argsOk; kernel_rfl
theorem zff (a:Value):argsOk "set_iterator.__iter__" ⟨[a],[]⟩:=by unfold argsOk; kernel_rfl
def SIt (h:Heap) (it a:Addr) (sl i n ep:Nat):Prop:=∃ o,h.get? it=some o∧o.cls = .type "set_iterator"∧o.data = .fields #[rawInt sl,rawInt i,.ref a,rawInt n,rawInt ep]
section
variable {prog:Program} {w:World} {A:Around} {E:Value→Shared→Prop} {s:Shared}
theorem SIt.typeIs {it a:Addr} {sl i n ep:Nat} (h:SIt s.heap it a sl i n ep):s.TypeIs (.ref it) "set_iterator":=let ⟨o,ho,hc,_⟩:=h; ⟨o,ho,hc⟩
theorem zlF {it a:Addr} {sl i n ep:Nat} {Q:Value→Shared→Prop} (hit:SIt s.heap it a sl i n ep) (h:Q (.ref it) s):wpAny (model prog w) A (pyIter (.ref it)) Q E s:=by
 refine fo hit.typeIs zcC (bW zcC hit.typeIs zd8 ?_ (zff _))
 (show wpAny _ _ (ret (.ref it)) _ _ s)
 exact af ⟨_,rfl,"set_iterator",_,hit.typeIs,zam.lookup,h⟩
theorem zkG {a:Addr} {o:Obj} {es:Array (Int×Value)} {ep:Nat} {t:SetTable} {Q:Value→Shared→Prop} (ho:s.heap.get? a=some o) (hex:o.ExactSet) (hd:o.data = .set es ep t) (P:Pc (zab w) t es.size)
  (h:Q (.ref s.heap.objs.size) { s with heap:=s.heap.push { cls:=.type "set_iterator",data:=.fields #[rawInt 0,rawInt 0,.ref a,rawInt es.size,rawInt ep] } }):wpAny (model prog w) A (pyIter (.ref a)) Q E s:=by
 have hf:=P.fits
 (have hT:s.TypeIs (.ref a) "set":=⟨o,ho,hex.1⟩)
 refine fo hT F.slot_set_iter (bW F.slot_set_iter hT zdU ?_ (F.args_set_iter_1 _));unfold Builtin.«frozenset.__iter__» lR slotArgs
 (simp only [il,cV,aC,↓reduceIte,bind_assoc,c9,bne_self_eq_false])
 (unfold lO lP)
 refine aa (af ?_)
 try dsimp only
 refine aa (af ?_)
 (refine aa (aa (gi ho hd hf (af ?_))))
 unfold setDrawn;refine aa (aa (cO ho hd hf ?_));dsimp only;refine aa (zck (af ?_));split
 ·next uq =>
  exfalso;have uq:(!!zab w && (!t.plain && decide (es.size > 1)))=true:=uq;rw [P.p] at uq;simp at uq
 ·exact aa (af (aa (wpAny_setEpoch_of ho hd hf (aa (bM (af ⟨_,rfl,"set_iterator",_,⟨_,aB _ rfl,rfl⟩,zam.lookup,h⟩))))))
theorem next_item {it a:Addr} {o:Obj} {es:Array (Int×Value)} {ep i:Nat} {t:SetTable} {x:Int×Value} {Q:Option Value→Shared→Prop} (hit:SIt s.heap it a (slotAt w t i) i es.size ep) (mo:a≠it)
  (ho:s.heap.get? a=some o) (hd:o.data = .set es ep t) (P:Pc (zab w) t es.size) (hx:(zaD w a ep es)[i]? = some x)
  (hQ:∀ h',SIt h' it a (slotAt w t (i+1)) (i+1) es.size ep→cS it s.heap h'→Q (some x.2) { s with heap:=h' }):wpAny (model prog w) A (pyNext (.ref it)) Q E s:=by
 have hf:=P.fits;have hi:i≤es.size:=by
  have h1:(zaD w a ep es).size=es.size:=by rw [← aH,(zbS w a ep es).length_eq,aH]
  rcases (eZ i es.size) with h | h
  ·lia
  ·rw [bY #[O]] at hx; cases hx
 obtain⟨oi,wM,hci,vP⟩:=id hit;unfold pyNext;refine aa (cW (cL (name:=bJ "__next__") hit.typeIs zam (bW zam hit.typeIs zca ?_ (zcD _))));unfold Builtin.«set_iterator.__next__» slotArgs
 (simp only [il,cV,aC,↓reduceIte,bind_assoc,c9,bne_self_eq_false])
 refine aa (af ?_);refine aa (gp wM vP ?_);dsimp only [rawInt];refine aa (gi ho hd hf ?_);rw [if_neg #[M]];refine aa ?_;simp only [bC];refine zgd ho hd P hi ?_;rw [hx];show wpAny _ _ (setField (aK it) 0 (du (slotAt w t (i+1):Nat) 0) >>= fun _=>setField (aK it) 1 (du ((i:Int)+1) 0) >>= fun _=>ret x.2) _ _ s;refine aa (di wM vP #[M] ?_);have g1:=bK (fJ (·.setIfInBounds 0 (du (slotAt w t (i+1):Nat) 0))) wM (dB (ci vP _));have d1:=ci vP (·.setIfInBounds 0 (du (slotAt w t (i+1):Nat) 0));refine aa (di g1 d1 #[M] ?_);have g2:=bK (fJ (·.setIfInBounds 1 (du ((i:Int)+1) 0))) g1 (dB (ci d1 _));refine af ⟨x.2,rfl,af (hQ _ ⟨_,g2,?_,?_⟩ ((be ..).trans (be ..)))⟩
 ·exact (fm ..).trans ((fm ..).trans hci)
 ·rw [ci d1];simp [rawInt]
theorem next_end {it a:Addr} {o:Obj} {es:Array (Int×Value)} {ep:Nat} {t:SetTable} {Q:Option Value→Shared→Prop} (hh:A.handled=none) (hit:SIt s.heap it a (slotAt w t es.size) es.size es.size ep)
  (ho:s.heap.get? a=some o) (hd:o.data = .set es ep t) (P:Pc (zab w) t es.size) (hQ:∀ h',kx it s.heap h'→Q none { s with heap:=h' }):wpAny (model prog w) A (pyNext (.ref it)) Q E s:=by
 have hf:=P.fits;have hx:(zaD w a ep es)[es.size]? = none:=bY (by rw [← aH,(zbS w a ep es).length_eq,aH]; lia);obtain⟨oi,wM,hci,vP⟩:=id hit;unfold pyNext;refine aa (cW (cL (name:=bJ "__next__") hit.typeIs zam (bW zam hit.typeIs zca ?_ (zcD _))));unfold Builtin.«set_iterator.__next__» slotArgs
 (simp only [il,cV,aC,↓reduceIte,bind_assoc,c9,bne_self_eq_false])
 refine aa (af ?_);refine aa (gp wM vP ?_);dsimp only [rawInt];refine aa (gi ho hd hf ?_);rw [if_neg #[M]];refine aa ?_;simp only [bC];refine zgd ho hd P (ah _) ?_;rw [hx];show wpAny _ _ (setField (aK it) 2 cj >>= fun _=>newExc (.type "StopIteration") [] >>= fun e=>raiseNew e) _ _ s;refine aa (di wM vP #[M] ?_);refine aa ?_;simp only [newExc,newTuple]
 (refine aa (bM ?_ (by size_fits)))
 (refine aa (m:=firstArgMember _ _) (dn (a:=cj) (by first | rfl | (simp only [firstArgMember]; rfl)) ?_))
 (refine bM ?_ (by size_fits))
 simp only [raiseNew]
 (refine aa (ju ?_))
 (rw [show A.in1.handled=none from hh])
 (refine aa (af (kz ?_)))
 (refine aa (eF (T:="StopIteration") (b:=true) ⟨_,aB _ rfl,rfl⟩ iU ?_))
 (exact af (hQ _ (((be ..).extBut.push _).push _)))
theorem SIt.at {h h':Heap} {it a:Addr} {sl i n ep:Nat} (x:SIt h it a sl i n ep) (e:∀ o,h.get? it=some o→h'.get? it=some o):SIt h' it a sl i n ep:=let ⟨o,ho,r⟩:=x; ⟨o,e _ ho,r⟩
theorem ziY (hh:A.handled=none) (I a:Addr) (mo:a≠I) {o:Obj} {es:Array (Int×Value)} {ep:Nat} {t:SetTable} (hd:o.data = .set es ep t) (P:Pc (zab w) t es.size) :
  Walks prog w A I [I,a] [I] es.size (fun i v=>((zaD w a ep es)[i]?).map (·.2)=some v) (fun i h=>SIt h I a (slotAt w t i) i es.size ep∧h.get? a=some o) where
 sub:=(fun b hb=>by simp at hb; simp [hb])
 frame:=fun _ _ _ st hk=>⟨st.1.at fun o e=>hk I #[M] o e,hk a #[M] o st.2⟩; item:=fun i s Q E hi st hQ=>by
  have h1:(zaD w a ep es).size=es.size:=by rw [← aH,(zbS w a ep es).length_eq,aH]
  have hx:(zaD w a ep es)[i]? = some ((zaD w a ep es)[i]'#[O]):=bu #[O];refine next_item st.1 mo st.2 hd P hx fun h' pV mS=>?_
  refine hQ _ h' s.toks (by rw [hx]; rfl) ⟨pV,mS.extBut a o mo st.2⟩ fun b o hb e=>mS.extBut b o (fun h=>hb (by simp [h])) e
 done:=fun s Q E st hQ=>next_end hh st.1 st.2 hd P fun h' sN=>hQ h' s.toks fun b o hb e=>sN b o (fun h=>hb (by simp [h])) e
 self:=fun _ _ _ _ st hQ=>zlF st.1 hQ
end
section
variable {prog:Program} {w:World} {A:Around} {E:Value→Shared→Prop} {s:Shared}
theorem ziZ {ord:Array (Int×Value)} {acc:Array Value} (h:ItemsOf (fun i v=>(ord[i]?).map (·.2)=some v) acc ord.size):acc.toList=ord.toList.map (·.2):=by
 refine gW fun i=>?_
 rw [az,aV,aV];by_cases hi:i < acc.size
 ·rw [h.2 i _ (bu hi),bu hi]
 ·rw [bY #[O],bY (by have:=h.1; lia)];rfl
theorem zge {a:Addr} {o:Obj} {es:Array (Int×Value)} {ep:Nat} {t:SetTable} {Q:List Value→Shared→Prop} (hh:A.handled=none) (ho:s.heap.get? a=some o) (hex:o.ExactSet) (hd:o.data = .set es ep t) (P:Pc (zab w) t es.size)
  (hQ:∀ h' tk,(∀ b o,s.heap.get? b=some o→h'.get? b=some o)→Q ((zaD w a ep es).toList.map (·.2)) { s with heap:=h',toks:=tk }):wpAny (model prog w) A (collect (.ref a)) Q E s:=by
 have hsz:es.size≤8191:=by have:=P.m.le; lia
 have xZ:(zaD w a ep es).size=es.size:=by rw [← aH,(zbS w a ep es).length_eq,aH]
 have ml:=av ho;unfold collect
 (refine aa (wpAny_runValue (cC F.entry_proto_collect ?_)))
 (rw [ck F.plain_proto_collect _])
 show wpAny _ A.in1 (newList [] >>= fun l=>again (.builtin "list.__iadd__" ⟨[l,.ref a],[]⟩)) _ _ s
 (refine aa (bM ?_))
 (refine af ⟨dD kr _,cC F.entry_list_iadd ?_⟩)
 (rw [ck kr _])
 show wpAny _ A.in1 (gH (.ref s.heap.objs.size) (.ref a) (.ref s.heap.objs.size)) _ _ _
 (unfold gH)
 generalize hH:s.heap.push { cls:=.type "list",data:=.seq ([]:List Value).toArray }=H
 (have BS:H.objs.size=s.heap.objs.size+1:=by rw [← hH,bP])
 have sW:H.get? a=some o:=hH ▸ aj _ ho;have hS:H.get? s.heap.objs.size=some { cls:=.type "list",data:=.seq ([]:List Value).toArray }:=hH ▸ aB _ rfl;refine aa (j5 (T:="set") ⟨o,sW,hex.1⟩ ?_);have h1:im (.ref s.heap.objs.size) (.ref a)=false:=by
  unfold im;simpa using dL ml
 have h2:(eB "set" == eB "list")=false:=by decide
 have h3:(eB "set" == eB "tuple")=false:=by decide
 (simp only [h1,h2,h3,Bool.or_false,aC,if_false])
 refine aa (zkG sW hex hd P ?_)
 (refine aa (bD ?_))
 generalize hG:H.push { cls:=.type "set_iterator",data:=.fields #[rawInt 0,rawInt 0,.ref a,rawInt es.size,rawInt ep] }=G;have rA:G.get? a=some o:=hG ▸ aj _ sW;have uX:G.get? s.heap.objs.size=some { cls:=.type "list",data:=.seq ([]:List Value).toArray }:=hG ▸ aj _ hS;have nO:G.get? H.objs.size=some { cls:=.type "set_iterator",data:=.fields #[rawInt 0,rawInt 0,.ref a,rawInt es.size,rawInt ep] }:=hG ▸ aB _ rfl
 (unfold Builtin.List.listLengthHint)
 refine aa (dX (T:="set") ⟨o,rA,hex.1⟩ F.slot_set_len.lookup ?_)
 wp_delta
 refine aa (eF (T:="set") (b:=true) ⟨o,rA,hex.1⟩ (by rw [cY]; kernel_rfl) ?_);show wpAny _ A.in1 (typeOf (aK a) >>= _) _ _ _;refine aa (j5 (T:="set") ⟨o,rA,hex.1⟩ ?_);refine af ?_;rw [if_pos #[D]];refine aa (cU ?_);refine aa ?_
 (show wpAny _ A.in1 (updateSeq s.heap.objs.size (·.push .none) >>= fun _=>updateSeq s.heap.objs.size (·.pop)) _ _ _)
 refine aa (eU uX rfl ?_);have hS3:=bK (bS (·.push cj)) uX rfl;refine eU hS3 rfl ?_;have hS4:=bK (bS (·.pop)) hS3 rfl;have BU:∀ b o,b≠s.heap.objs.size→G.get? b=some o→((G.update s.heap.objs.size (bS (·.push cj))).update s.heap.objs.size (bS (·.pop))).get? b=some o :=
  fun b o hb e=>(d7 _ _ (de hb)).trans ((d7 _ _ (de hb)).trans e)
 have x3:H.objs.size≠s.heap.objs.size:=by rw [BS]; exact kH _
 have yV:s.heap.objs.size∉[H.objs.size,a]:=fun hm=>by
  rcases au.mp hm with e | e
  ·exact x3 e.symm
  ·exact dL ml (aA.mp e)
 have h0:slotAt w t 0=0:=by unfold slotAt; split <;> rfl
 refine af ⟨dD F.plain_extend_loop _,codeAny_extend_loopS ((ziY (prog:=prog) (A:=A.in1) (by simp [hh]) H.objs.size a (by rw [BS]; exact aL (cN ml)) hd P).toS) (bg hsz (by rw [show sizeLine=16777216 from rfl]; decide)) _ yV _ es.size 0 _ _ _ rfl (bi _)
  ⟨⟨_,BU _ _ x3 nO,rfl,by rw [h0]; rfl⟩,BU a o (aL ml) rA⟩ hS4 (ItemsOf.nil _) fun s' vn c' hm xX vo=>?_⟩
 (show wpAny _ A (load s.heap.objs.size >>= _) _ _ s')
 (refine aa (wpAny_load xX ?_))
 (obtain⟨h',g',d',rK,wZ⟩:=s')
 obtain rfl:g'=s.gens:=hm.gens;obtain rfl:d'=s.drawn:=hm.drawn;obtain rfl:wZ=s.os:=hm.os;show wpAny _ A (pure vn.toList) _ _ _;rw [ziZ (ord:=zaD w a ep es) (by rw [xZ]; exact vo)];refine af (hQ h' rK fun b ob e=>?_);have hb:=av e;refine hm.heap b ob (fun uc=>?_) (BU b ob (aL hb) (hG ▸ aj _ (hH ▸ aj _ e)));rcases au.mp uc with e' | e'
 ·exact aL hb e'
 ·rw [aA.mp e',BS] at hb;exact absurd hb (Nat.not_lt.mpr (ku _))
end
end L2
end
section
namespace L2
open PySem PySem.Spec PyProof.Rows Srt
theorem zfg {α β:Type} {f:α→β} {vs m:List β} (h:vs.Perm m):∀ ps:List α,m=ps.map f→∃ tX:List α,tX.Perm ps∧vs=tX.map f:=by
 induction h with
 | nil =>
  intro ps e;exact⟨[],by rw [gh.mp e.symm],rfl⟩
 | cons x _ ih =>
  intro ps e;cases ps with
  | nil=>cases e
  | cons a ps =>
   rw [aP] at e;obtain⟨e1,e2⟩:=dU e;obtain⟨tX,h1,h2⟩:=ih ps e2;exact⟨a :: tX,h1.cons a,by rw [aP,← h2,e1]⟩
 | swap x y l =>
  intro ps e;cases ps with
  | nil=>cases e
  | cons a ps =>
   cases ps with
   | nil=>cases e
   | cons b ps =>
    rw [aP,aP] at e;obtain⟨e1,e2⟩:=dU e;obtain⟨e3,e4⟩:=dU e2;exact⟨b :: a :: ps,.swap _ _ _,by rw [aP,aP,← e4,e1,e3]⟩
 | trans _ _ i1 i2 =>
  intro ps e;obtain⟨ps1,h1,h2⟩:=i2 ps e;obtain⟨tX,h3,h4⟩:=i1 ps1 h2;exact⟨tX,h3.trans h1,h4⟩
theorem zns {X:Cx} {lX:List (Addr×Obj)} {σ:St} {H:Hp} {s:Shared} {a:Addr} {ns:List Int} (I:Inv X lX σ H s) (h:H a=some (.tup (ns.map V.int))):za6 X.prog X.w s.heap ns a:=by
 have it:∀ {ns:List Int} {us:List Value},zA (ns.map V.int) us→ItemsAre (intKind X.prog X.w) ns us:=by
  intro ns;induction ns with
  | nil=>intro us r; cases r; exact .nil
  | cons n ns ih =>
   intro us r;cases r with
   | cons h t =>
    obtain⟨q,rfl⟩:=h;exact .cons (intKind_is _ _ _ _) (ih t)
 obtain⟨_,lY,r,o,h1,h2,n,h3⟩:=(show zO X.prog X.w H s.heap a (.tup (ns.map V.int)) from I.hok a _ h);exact⟨o,lY.toArray,n,h1,h2,h3,by simpa using it r⟩
def znX:List V→Hp→VK→Prop:=fun xs H Q=>∃ (p:Addr) (k:Nat) (B:Int) (ps:List (Addr×List Int)),xs = [.ref p]∧H p=some (.lst (ps.map fun q=>V.ref q.1))∧zd5 H k B ps∧(ps.map (·.2)).Nodup∧ps.length≤4913∧1≤k∧1≤B ∧
 ∀ (l:Addr) (mT:List (Addr×List Int)),H l=none→mT.Perm ps→(mT.Pairwise fun a b=>num B a.2≤num B b.2)→Q (.ref l) (l7 H l (.lst (mT.map fun q=>V.ref q.1)))
theorem zd9 {X:Cx} {e:Expr} {t:TA} {p p' pos pos':Pos} (hc:X.calm=true) (hu:X.A.units+16 < cLine) (hg:Gl X "sorted") (hm:X.mg "sorted" = none) (BH:Gl X "set") (uc:X.mg "set" = none) (ha:PA X [e] t)
  (he:starEach [e] X.env = [(false,eval e X.env)]:=by rfl):PE X (.Call (.Name "sorted" p) [.Call (.Name "set" p') [e] [] pos'] [] pos) (tCB znX t):=by
 intro lX s σ H Q I h;refine cg (zbc I hg hm (u:=.builtin "sorted") rfl ?_ #[D] #[D]);refine fY ?_ rfl rfl;show wpAny _ _ (spliced ((false,eval (.Call (.Name "set" p') [e] [] pos') X.env) :: [])) _ _ s;refine dv ?_;refine cg (zbc I BH uc (u:=.type "set") rfl ?_ #[D] #[D]);refine cf (thn (ha pos' lX s σ H _ I h) fun us s1 ⟨vs,H1,I1,r1,q1⟩=>?_) he rfl;obtain⟨pa,k,B,ps,rfl,hq,hT,nd,hn,hk,hB,q⟩:=q1;obtain⟨u,rfl,rx⟩:=vals1 r1;cases rx;obtain⟨lY,rv,pl,hz⟩:=I1.list (l8.of hq);have ev:=zcQ rv;subst ev;refine ziW (ms:=ps.map fun q=>(q.2,q.1)) (I1.ok.hd hc) hu (show s1.heap.IsList pa (ps.map fun q=>aK q.1).toArray from pl.isList) ?_ ?_ ?_ (fun q' rH=>?_) fun h' tk fl=>?_
 ·show ps.map _=_;rw [br];rfl
 ·rw [ae]; exact hn
 ·rw [br]; exact nd
 ·obtain⟨x,hx,rfl⟩:=aG.mp rH;exact zns I1 (hT x hx).1
 obtain⟨f1,f2⟩:=fl;have kp:∀ b o,s1.heap.get? b=some o→h'.get? b=some o:=fun b o e=>f2 b o (av e) e
 have I2:Inv X lX σ H1 { s1 with heap:=h',toks:=tk }:=I1.kept kp;refine d8 ?_;obtain⟨o,es,ep,tb,S⟩:=f1;obtain⟨tX,p1,p2⟩:=zfg (f:=fun q:Addr×List Int=>aK q.1) (vs:=(zaD X.w s1.heap.objs.size ep es).toList.map (·.2)) (m:=ps.map fun q=>aK q.1) (((zbS X.w s1.heap.objs.size ep es).trans S.pm).map (·.2) |>.trans (by rw [br,br]; exact .refl _)) ps rfl;have x4:zd5 H1 k B tX:=fun x hx=>hT x (p1.mem_iff.mp hx)
 have BV:=p1.length_eq;have qm:sizeLine=16777216:=rfl;refine zex (s:={ s1 with heap:=h',toks:=tk }) (vs:=tX.map fun q=>aK q.1) (κ:=tuples' true) (val:=fun p=>num B (zb8 H1 p.1)) (by rw [ae]; lia) (fun R hR=>?_) (fun s' kk h2 A' Q' E' rH=>?_) (fun s' A' kk=>zkb I2 x4 hB kk) fun AF rK out e' D kk hD vI hp hs=>?_
 ·refine zge (A:=X.A.in1) (s:={ s1 with heap:=h',toks:=tk }) (by rw [show X.A.in1.handled=X.A.handled by simp]; exact I2.ok.hd hc) S.g S.ex S.dt S.pb fun h3 wG k3=>?_
  rw [p2];exact hR h3 wG k3
 ·obtain⟨fs,k1,k2,k3⟩:=zka I2 x4 hk kk;exact kM (T:=.type "int") k1 (by rw [ae] at h2; lia) (fun v hv=>by obtain⟨n,t,rfl⟩:=k3 v hv; exact zez) rfl rH
 ·obtain⟨mT,q1,q2,q3⟩:=zfS x4 hp hs;have hl:=q1.length_eq;obtain⟨qX,I3⟩:=I2.above (tk:=rK) (D:=D) (o:=.lst (mT.map fun q=>V.ref q.1)) kk hD ⟨by rw [ae]; lia,mT.map fun q=>aK q.1,e',zbB mT,by rw [← q3]; exact vI⟩;exact⟨.ref D,_,I3,rfl,q D mT qX (q1.trans p1) q2⟩
end L2
end
section
namespace My
open PySem L2 PyProof.Rows
def top (i:Nat):Stmt:=PySem.Challenge.pw_slipcurve_k23_rows_that_have_many.main.body.getD i (.Pass ⟨0,0,0,0⟩)
abbrev zbF:Stmt:=top 1
abbrev zay:Stmt:=top 2
abbrev za0:Stmt:=top 16
abbrev zaY:Stmt:=top 18
abbrev zcE:Stmt:=top 19
abbrev zaz:Stmt:=top 20
abbrev zac:Stmt:=top 21
abbrev zcF:Stmt:=top 23
abbrev zb1:Stmt:=top 24
abbrev zb2:Stmt:=top 25
abbrev zbT:Stmt:=top 26
abbrev zb3:Stmt:=top 27
abbrev zcG:Stmt:=top 28
abbrev zbq:Stmt:=top 29
abbrev zcH:Stmt:=top 30
abbrev zcI:Stmt:=top 31
abbrev zbr:Stmt:=top 32
structure Adr where
 tab:Addr
 SlipError:Addr
 TooFew:Addr
 NoCurve:Addr
 NoPaper:Addr
 NoPlace:Addr
 NoNumber:Addr
 Heard:Addr
 NotHeard:Addr
 NothingLeft:Addr
 NoText:Addr
 NoRow:Addr
 value_at:Addr
 times_root:Addr
 choices:Addr
 check_many:Addr
 due_of:Addr
 vanishing_at:Addr
 many_near:Addr
 l_cell:Addr
 l_draws:Addr
 l_whole:Addr
 l_code:Addr
 l_value:Addr
 l_word:Addr
 l_fits:Addr
 l_due:Addr
 l_told:Addr
 law:Addr
structure KW (K:ag) (t:Adr) (C:Addr) (b0 b1 b2 b3 b4 b5 b6 b7 b8 b9:Bool):Prop where
 i0:aY K (.ref C) (.ref t.TooFew)=some b0
 i1:aY K (.ref C) (.ref t.NoCurve)=some b1
 i2:aY K (.ref C) (.ref t.NoPaper)=some b2
 i3:aY K (.ref C) (.ref t.NoPlace)=some b3
 i4:aY K (.ref C) (.ref t.NoNumber)=some b4
 i5:aY K (.ref C) (.ref t.Heard)=some b5
 i6:aY K (.ref C) (.ref t.NotHeard)=some b6
 i7:aY K (.ref C) (.ref t.NothingLeft)=some b7
 i8:aY K (.ref C) (.ref t.NoText)=some b8
 i9:aY K (.ref C) (.ref t.NoRow)=some b9
 iv:aY K (.ref C) (.type "ValueError")=some true
 xc:Xc K C
 sl:eg K (.ref C) (.ref t.SlipError)=some true
structure Txt (K:ag) (mg:Str→Option Value) (base:Heap) (t:Adr):Prop where
 bm:zd6 mg base
 tb:TabOf K t.many_near t.tab
 len_:mg "len" = none
 range_:mg "range" = none
 list_:mg "list" = none
 tuple_:mg "tuple" = none
 min_:mg "min" = none
 max_:mg "max" = none
 isinstance_:mg "isinstance" = none
 int_:mg "int" = none
 bool_:mg "bool" = none
 zip_:mg "zip" = none
 reversed_:mg "reversed" = none
 sorted_:mg "sorted" = none
 set_:mg "set" = none
 ValueError_:mg "ValueError" = none
 x_SlipError:mg "SlipError" = some (.ref t.SlipError)
 x_TooFew:mg "TooFew" = some (.ref t.TooFew)
 x_NoCurve:mg "NoCurve" = some (.ref t.NoCurve)
 x_NoPaper:mg "NoPaper" = some (.ref t.NoPaper)
 x_NoPlace:mg "NoPlace" = some (.ref t.NoPlace)
 x_NoNumber:mg "NoNumber" = some (.ref t.NoNumber)
 x_Heard:mg "Heard" = some (.ref t.Heard)
 x_NotHeard:mg "NotHeard" = some (.ref t.NotHeard)
 x_NothingLeft:mg "NothingLeft" = some (.ref t.NothingLeft)
 x_NoText:mg "NoText" = some (.ref t.NoText)
 x_NoRow:mg "NoRow" = some (.ref t.NoRow)
 xi_TooFew:fL K t.TooFew zjM "ValueError.__new__" = true
 kw_TooFew:KW K t t.TooFew true false false false false false false false false false
 sb:bH K t.SlipError (.type "BaseException")=some true
 m_value_at:mg "value_at" = some (.ref t.value_at)
 m_times_root:mg "times_root" = some (.ref t.times_root)
 m_choices:mg "choices" = some (.ref t.choices)
 m_check_many:mg "check_many" = some (.ref t.check_many)
 m_due_of:mg "due_of" = some (.ref t.due_of)
 m_vanishing_at:mg "vanishing_at" = some (.ref t.vanishing_at)
 m_many_near:mg "many_near" = some (.ref t.many_near)
 m_l_cell:mg "_law_cell" = some (.ref t.l_cell)
 m_l_draws:mg "_law_draws" = some (.ref t.l_draws)
 m_l_whole:mg "_law_whole" = some (.ref t.l_whole)
 m_l_code:mg "_law_code" = some (.ref t.l_code)
 m_l_value:mg "_law_value" = some (.ref t.l_value)
 m_l_word:mg "_law_word" = some (.ref t.l_word)
 m_l_fits:mg "_law_fits" = some (.ref t.l_fits)
 m_l_due:mg "_law_due" = some (.ref t.l_due)
 m_l_told:mg "_law_told" = some (.ref t.l_told)
 f_value_at:∃ fd,Fun K "value_at" "value_at" zbF t.value_at fd∧Binds K fd ["p","polynomial","x"] []
 f_times_root:∃ fd,Fun K "times_root" "times_root" zay t.times_root fd∧Binds K fd ["p","polynomial","root"] []
 f_choices:∃ fd,Fun K "choices" "choices" za0 t.choices fd∧Binds K fd ["things","many"] []
 f_check_many:∃ fd,Fun K "check_many" "check_many" zaY t.check_many fd∧Binds K fd ["code","t"] []
 f_due_of:∃ fd,Fun K "due_of" "due_of" zcE t.due_of fd∧Binds K fd ["code","t"] []
 f_vanishing_at:∃ fd,Fun K "vanishing_at" "vanishing_at" zaz t.vanishing_at fd∧Binds K fd ["p","roots"] []
 f_many_near:∃ fd,Fun K "many_near" "many_near" zac t.many_near fd∧Binds K fd ["code","t"] []
 f_l_cell:∃ fd,Fun K "_law_cell" "_law_cell" zcF t.l_cell fd∧Binds K fd ["script","k"] []
 f_l_draws:∃ fd,Fun K "_law_draws" "_law_draws" zb1 t.l_draws fd∧Binds K fd ["script","k","many","base"] []
 f_l_whole:∃ fd,Fun K "_law_whole" "_law_whole" zb2 t.l_whole fd∧Binds K fd ["found"] []
 f_l_code:∃ fd,Fun K "_law_code" "_law_code" zbT t.l_code fd∧Binds K fd ["script","at","most_k","most_n"] []
 f_l_value:∃ fd,Fun K "_law_value" "_law_value" zb3 t.l_value fd∧Binds K fd ["p","polynomial","x"] []
 f_l_word:∃ fd,Fun K "_law_word" "_law_word" zcG t.l_word fd∧Binds K fd ["e"] []
 f_l_fits:∃ fd,Fun K "_law_fits" "_law_fits" zbq t.l_fits fd∧Binds K fd ["code","row","polynomial"] []
 f_l_due:∃ fd,Fun K "_law_due" "_law_due" zcH t.l_due fd∧Binds K fd ["code","t"] []
 f_l_told:∃ fd,Fun K "_law_told" "_law_told" zcI t.l_told fd∧Binds K fd ["way","code","t"] []
section
variable {P:Program} {w:World} {K:ag} {mg:Str→Option Value} {base:Heap} {t:Adr}
theorem zi0:FnScope ["script","k"] ["script","k"] (zg zcF):=#[S]
theorem zi1 {fd:FuncData} (T:Txt K mg base t) (F:Fun K "_law_cell" "_law_cell" zcF t.l_cell fd):FnOk P w K mg base CX0 1 t.l_cell fd ["script","k"] (zic K):=by
 refine F.ok zi0 (fun vs H Q E h=>?_) (fun mq A outer s H vs Q E hr h=>?_)
 ·obtain⟨a,ns,k,rfl,_⟩:=h; rfl
 ·obtain⟨a,ns,k,rfl,hS,mi,k0,k1,q⟩:=h;refine zbO ?_; intro zX;refine⟨_,#[zd,#[zbi,#[zZ,#[zfp],#[pvx,1],#[zn,#[zv],T.len_,cm,#[ya,#[pvx,0]]],(zah _)],#[zp,#[zP,#[z8,#[zV],#[pvx,0],#[pvx,1]]]],#[zal]],#[zd,#[zbi,#[zZ,#[zjg],#[zn,#[zv],T.len_,cm,#[ya,#[pvx,0]]],#[zf],(zah _)],#[zp,#[zP,#[zh,#[zK],#[zh,#[zad],#[zf],#[pvx,1]],#[zf]]]],#[zal]],#[zp,#[zP,#[zh,#[zK],#[zh,#[zW],#[z8,#[zV],#[pvx,0],#[zh,#[zW],#[pvx,1],#[zn,#[zv],T.len_,cm,#[ya,#[pvx,0]]]]],#[zf]],#[zh,#[zad],#[zf],#[pvx,1]]]]]]],?_⟩;refine zgp ?_; intro rL qI;refine⟨_,rfl,_,rfl,a,_,rfl,.inl hS,_,_,rfl,rfl,_,rfl,?_⟩; rw [ae];refine zb4 (fun h=>?_) (fun h=>?_)
  ·have h:k < (ns.length:Int):=by simpa using h
   obtain⟨c,hc⟩:=zeU k0 h;exact⟨_,rfl,_,rfl,a,_,k,_,rfl,rfl,hS,hc,q c⟩
  ·have h:¬ k < (ns.length:Int):=by simpa using h
   refine⟨_,rfl,a,_,rfl,.inl hS,rfl,_,rfl,?_⟩;rw [ae];refine zb4 (fun h2=>?_) (fun h2=>?_)
   ·exact⟨_,rfl,_,_,rfl,rfl,.inl ⟨#[D],#[D]⟩,_,_,rfl,rfl,q _⟩
   ·have h2:¬ V.int (ns.length:Int)=V.int 0:=by simpa using h2
    have rB:0 < (ns.length:Int):=by
     have:(ns.length:Int)≠0:=fun z=>h2 (by rw [z])
     lia
    have m0:=a8 k (show (ns.length:Int)≠0 by lia);have m1:=aU k rB;obtain⟨c,hc⟩:=zeU m0 m1;refine⟨_,rfl,_,rfl,_,rfl,a,_,rfl,.inl hS,_,_,rfl,rfl,by rw [ae]; exact rB,a,_,_,_,rfl,rfl,hS,by rw [ae]; exact hc,_,_,rfl,rfl,(by show (0:Int) < 1000003; decide),?_⟩;exact⟨_,rfl,_,_,rfl,rfl,.inl ⟨#[D],#[D]⟩,_,_,rfl,rfl,q _⟩
theorem zM:FnScope ["script","k","many","base","primes","cell","rest","row","j","mash"] ["script","k","many","base"] (zg zb1):=#[S]
theorem zdV {fd:FuncData} (T:Txt K mg base t) (F:Fun K "_law_draws" "_law_draws" zb1 t.l_draws fd):FnOk P w K mg base CX0 2 t.l_draws fd ["script","k","many","base"] (zgw K):=by
 obtain⟨rM,pY,oD⟩:=T.f_l_cell;have sY:=zi1 (P:=P) (w:=w) (base:=base) T pY;refine F.ok zM (fun vs H Q E h=>?_) (fun mq A outer s H vs Q E hr h=>?_)
 ·obtain⟨a,ns,k,many,base,rfl,_⟩:=h;rfl
 ·obtain⟨a,ns,k,many,bs,rfl,hS,mi,k0,k1,m0,m1,b0,b1,q⟩:=h;refine zbO ?_; intro zX;refine⟨_,#[zd,#[zr,4,zM.nd,#[A],#[zdn,#[zfB,#[zfB,#[zfB,#[zfB,#[zfB,#[za,#[zf],#[za,#[zf],#[ya,#[zf]]]]]]]]]]],#[zd,#[zr,5,zM.nd,#[A],#[zQ,sY,(hr.mono #[D]),T.m_l_cell,pY.kp,oD,#[zaC],#[za,#[pvx,0],#[ya,#[pvx,1]]]]],#[zd,#[zr,6,zM.nd,#[A],#[zf]],#[zd,#[zbi,#[zZ,(@zna _),#[pvx,5],#[zh,(@zmd _),#[zf],#[zf]],(zah _)],#[zp,#[zr,6,zM.nd,#[A],#[pvx,5]]],#[zal]],#[zd,#[zr,7,zM.nd,#[A],#[z5,#[zc]]],#[zd,#[zau,ce,#[zag,T.range_,#[ya,#[pvx,2]]],#[zj,8,zM.nd,#[A]],#[zd,#[zr,9,zM.nd,#[A],#[zh,#[zad],#[zh,#[zW],#[pvx,5],#[z8,#[zcd],#[pvx,4],#[zh,#[zW],#[pvx,8],#[zf]]]],#[zh,#[zK],#[zf],#[zh,#[zad],#[zh,#[zad],#[zf],#[pvx,8]],#[pvx,8]]]]],#[zd,#[zr,9,zM.nd,#[A],#[zh,#[zK],#[zh,#[zK],#[pvx,9],#[zh,#[zad],#[zh,#[zad],#[zf],#[zh,#[zK],#[pvx,8],#[zf]]],#[zh,#[zK],#[pvx,8],#[zf]]]],#[zh,#[zad],#[zf],#[pvx,1]]]],#[zd,#[zr,9,zM.nd,#[A],#[zh,#[zW],#[pvx,9],#[z8,#[zcd],#[pvx,4],#[zh,#[zW],#[zh,#[zK],#[zh,#[zad],#[zf],#[pvx,8]],#[pvx,1]],#[zf]]]]],#[zd,#[zr,9,zM.nd,#[A],#[zh,#[zW],#[zh,#[zad],#[zh,#[zad],#[pvx,9],#[pvx,9]],#[pvx,9]],#[z8,#[zcd],#[pvx,4],#[zh,#[zW],#[zh,#[zK],#[pvx,8],#[zf]],#[zf]]]]],#[zd,#[zbi,#[zZ,#[zlO],#[pvx,6],#[zf],(zah _)],#[zp,#[zr,9,zM.nd,#[A],#[pvx,6]]],#[zal]],#[zd,#[zc7,#[zfv,dh,io,ip,#[zen],#[pvx,7],#[ya,#[zh,#[zW],#[pvx,9],#[pvx,3]]]]],#[zp,#[zr,6,zM.nd,#[A],#[zh,#[zeI],#[pvx,6],#[pvx,3]]]]]]]]]]],#[zp,#[zP,#[pvx,7]]]]]]]]],?_⟩;refine zmk ?_; intro BW x5 x6 wN rL qI;refine⟨by show 8≤sizeLine; rw [bL]; decide,fun tp ht=>?_⟩;have s1:zI H (l7 H tp (.tup zk1)):=ze ht;refine⟨_,rfl,_,rfl,a,ns,k,rfl,s1.seq hS,mi,k0,k1,fun c=>?_⟩;refine⟨_,rfl,_,_,rfl,rfl,⟨#[D],#[D],#[D]⟩,_,_,rfl,rfl,_,rfl,?_⟩;refine zb4 (fun _=>⟨_,rfl,?_⟩) (fun _=>?_)
  all_goals
   refine⟨bi _,fun l hl=>?_⟩;have wJ:H l=none:=zI.free s1 hl;have vt:tp≠l:=zq zb hl;refine⟨_,rfl,many,rfl,#[O],#[O],zar (lo:=0) (n:=many.toNat) (fun i σ H'=>∃ (r:Int) (v8 v9:Option V) (ds:List Int),σ = [some (.ref a),some (.int k),some (.int many),some (.int bs),some (.ref tp),some (.int c),some (.int r),some (.ref l),v8,v9]∧zeV i bs ds∧zI H H'∧H' tp=some (.tup zk1)∧H' l=some (.lst (ds.map V.int)))
    ⟨_,none,none,[],rfl,⟨rfl,#[M]⟩,zbm s1 wJ,by rw [zi vt]; exact zb,zb⟩ ?_ ?_⟩
   ·rintro zD zT i σ H2 hi ⟨r,v8,v9,ds,rfl,hd,s2,vQ,ur⟩;obtain⟨q1,e1,q1p,q1l⟩:=zdv (0+(i:Int));obtain⟨q2,e2,q2p,q2l⟩:=zdv (3*(0+(i:Int))+k);obtain⟨q3,e3,q3p,q3l⟩:=zdv (0+(i:Int)+5);have c1:=a8 c (show q1≠0 by lia);have c2:=aU c q1p;have mY:(i:Int) < 1000:=by lia
    refine⟨_,rfl,_,rfl,_,rfl,_,_,rfl,rfl,(by show (0:Int) < 8; decide),tp,_,_,_,rfl,rfl,mj.of vQ,e1,_,_,rfl,rfl,q1p,_,rfl,_,_,rfl,rfl,.inl ⟨#[D],#[D]⟩,_,rfl,_,_,rfl,rfl,.inl ⟨#[O],#[O]⟩,_,_,rfl,rfl,_,_,rfl,rfl,.inl ⟨#[O],#[O]⟩,?_⟩;refine⟨_,rfl,_,rfl,_,_,rfl,rfl,_,_,rfl,rfl,.inl ⟨#[D],#[D]⟩,_,rfl,_,_,rfl,rfl,_,_,rfl,rfl,.inl ⟨#[O],#[O]⟩,_,_,rfl,rfl,_,rfl,_,_,rfl,rfl,.inl ⟨#[D],#[D]⟩,_,_,rfl,rfl,?_⟩;refine⟨_,rfl,_,rfl,_,rfl,_,_,rfl,rfl,.inl ⟨#[D],#[D]⟩,_,rfl,_,_,rfl,rfl,_,_,rfl,rfl,(by show (0:Int) < 8; decide),tp,_,_,_,rfl,rfl,mj.of vQ,e2,_,_,rfl,rfl,q2p,?_⟩;generalize c % q1*(48271+2*(0+(i:Int))*(0+(i:Int)))+7919*(0+(i:Int)+1)*(0+(i:Int)+1)+104729*k=ms;have d1:=a8 ms (show q2≠0 by lia);have d2:=aU ms q2p;refine⟨_,rfl,_,rfl,_,_,rfl,rfl,.inl ⟨#[O],#[O]⟩,_,rfl,_,_,rfl,rfl,.inr ⟨#[O],#[O]⟩,_,rfl,_,rfl,_,_,rfl,rfl,_,_,rfl,rfl,(by show (0:Int) < 8; decide),tp,_,_,_,rfl,rfl,mj.of vQ,e3,_,_,rfl,rfl,q3p,?_⟩;refine⟨_,rfl,_,_,rfl,rfl,_,rfl,?_⟩;have uU:=hd.1;refine zb4 (fun _=>⟨_,rfl,?_⟩) (fun _=>?_)
    all_goals
     refine⟨_,rfl,.inl ⟨rfl,_,l8.of ur⟩,_,rfl,_,rfl,_,_,rfl,rfl,b0,l,_,_,rfl,rfl,ur,zaG (by rw [ae]; lia),?_⟩;refine⟨_,rfl,_,rfl,_,_,rfl,rfl,⟨b0,b1⟩,?_⟩;refine⟨_,_,_,ds++[_],rfl,⟨by rw [aF,uU]; rfl,fun d hm=>?_⟩,zbm s2 wJ,by rw [zi vt]; exact vQ,by rw [zb,aN]; rfl⟩; rcases aR.mp hm with hm | hm
     ·exact hd.2 d hm
     ·have e:=aA.mp hm;rw [e];exact⟨a8 _ #[O],aU _ b0⟩
   ·rintro σ H2 ⟨r,v8,v9,ds,rfl,hd,s2,vQ,ur⟩;exact⟨_,rfl,q l ds H2 wJ s2 hd ur⟩
theorem zaH:FnScope ["script","at","most_k","most_n","plan","primes","p","k","many","left"] ["script","at","most_k","most_n"] (zg zbT):=#[S]
theorem zi2 {fd:FuncData} (T:Txt K mg base t) (F:Fun K "_law_code" "_law_code" zbT t.l_code fd):FnOk P w K mg base CX0 3 t.l_code fd ["script","at","most_k","most_n"] (zid K):=by
 obtain⟨oE,mO,mP⟩:=T.f_l_draws;have nP:=zdV (P:=P) (w:=w) (base:=base) T mO;refine F.ok zaH (fun vs H Q E h=>?_) (fun mq A outer s H vs Q E hr h=>?_)
 ·obtain⟨a,ns,at',mk,mn,rfl,_⟩:=h;rfl
 ·obtain⟨a,ns,at',mk,mn,rfl,hS,mi,a0,a1,k1,k5,kn,n16,q⟩:=h;refine zbO ?_; intro zX;refine⟨_,#[zd,#[zr,4,zaH.nd,(fH rfl),#[zQ,nP,(hr.mono #[D]),T.m_l_draws,mO.kp,mP,#[zaC],#[za,#[pvx,0],by exact #[za,#[pvx,1],#[za,#[zf],#[ya,#[zf]]]]]]],(by exact (@zjy _ 5 _ _ _ _ _ _ _ [5,7,11,13,17,19,23,29,31,37,41,43,47,53,59,61,67,71,73,79,83,89,97] #[N] zaH.nd rfl #[A] (by first | exact .inl rfl | exact .inr rfl) (by exact #[zd,#[zr,6,zaH.nd,#[A],#[z8,#[zV],#[z5,#[za,#[z8,#[zV],#[pvx,5],#[zh,#[zW],#[z8,#[zV],#[pvx,4],#[zf]],#[zf]]],#[ya,#[z8,#[zV],#[pvx,5],#[zh,#[zW],#[z8,#[zV],#[pvx,4],#[zf]],#[zf]]]]]],#[zh,#[zW],#[z8,#[zV],#[pvx,4],#[zf]],#[zf]]]],#[zd,#[zr,7,zaH.nd,#[A],#[zh,#[zK],#[zf],#[zh,#[zW],#[z8,#[zV],#[pvx,4],#[zf]],#[zn,#[zef],T.min_,boot_min,#[za,#[pvx,2],#[ya,#[pvx,6]]]]]]],#[zd,#[zr,8,zaH.nd,#[A],#[zh,#[zK],#[pvx,7],#[zh,#[zW],#[z8,#[zV],#[pvx,4],#[zf]],#[zh,#[zK],#[zh,#[zbd],#[zn,#[zef],T.min_,boot_min,#[za,#[pvx,3],#[ya,#[pvx,6]]]],#[pvx,7]],#[zf]]]]],#[zd,#[zr,9,zaH.nd,(fH rfl),#[zaF,(@zd3 _ rfl),T.list_,j7,#[ya,#[zaF,(@zfA _),T.range_,kQ,#[ya,#[pvx,6]]]]]],#[zp,#[zP,#[zdn,#[za,#[pvx,6],#[za,#[pvx,7],#[ya,#[zaF,#[zbe],T.tuple_,jq,#[ya,#[zbx,(CompSc.of (N':=["j","left","plan"]) (ix:=[none,some 9,some 4]) (zg zbT) ["script","at","most_k","most_n","plan","primes","p","k","many","left"] rfl rfl #[N]),#[zaV],#[zag,T.range_,#[ya,#[pvx,8]]],(fun _ _ _ _=>#[zj,0,(show (["j","left","plan"]:List Str).Nodup from #[N]),#[A]]),(fun _ _ _ _=>#[zaf]),(fun _ _ _ _=>(@zmt _ (K) _ _ _ _ _ _ _ _ _ _ _ rfl dh PySem.F.slot_list_pop PySem.F.type_list_pop (@zjo _) #[pvx,1] #[ya,#[zh,#[zW],#[z8,#[zds,(K)],#[pvx,2],#[zh,#[zK],#[zf],#[pvx,0]]],#[zn,#[zb6,(K)],T.len_,cm,#[ya,#[pvx,1]]]]] (by rfl) (by rfl) (by rfl) (by rfl) (by rfl)))]]]]]]]]]]]]])))],?_⟩;refine zmk ?_; intro BW x5 x6 wN rL qI;refine⟨_,rfl,_,rfl,a,ns,at',20,27720,rfl,hS,mi,a0,a1,#[D],#[D],#[D],#[D],fun l ds H1 hl s1 hd nu=>?_⟩;have uU:ds.length=20:=hd.1;have dat:∀ m:Int,0≤m→m < 20→∃ c:Int,atI (ds.map V.int) m=some (.int c):=fun m h0 h1=>zeU h0 #[O]
  refine⟨by show 23≤sizeLine; rw [bL]; decide,fun pr xT=>?_⟩;have BX:l≠pr:=zq nu xT;obtain⟨d0,ed0⟩:=dat 0 #[D] #[D];obtain⟨d1,ed1⟩:=dat 1 #[D] #[D];obtain⟨d2,ed2⟩:=dat 2 #[D] #[D];obtain⟨d3,ed3⟩:=dat 3 #[D] #[D];have oz:(l7 H1 pr (.lst (zw.map V.int))) l=some (.lst (ds.map V.int)):=by rw [zi BX]; exact nu
  obtain⟨p1,mp1,ep1⟩:=zjH (ns:=zw) (k:=d0 % 23) (a8 _ #[D]) (aU _ #[D]);obtain⟨p2,mp2,ep2⟩:=zjH (ns:=zw) (k:=d0 % 3) (a8 _ #[D]) (by have:=aU d0 (show (0:Int) < 3 by decide); have e:(zw.length:Int)=23:=rfl; lia);obtain⟨p,ep,yM⟩:=zmv (x:=p1) (y:=p2) (m:=d1 % 2) (a8 _ #[D]) (aU _ #[D]);have mp:p∈zw:=by rcases yM with e | e <;> rw [e] <;> assumption
  have rp:=zL mp;refine⟨_,rfl,_,rfl,l,_,_,_,rfl,rfl,l8.of oz,ed0,_,_,rfl,rfl,(by show (0:Int) < 23; decide),pr,_,_,_,rfl,rfl,l8.of zb,ep1,
   _,rfl,_,rfl,l,_,_,_,rfl,rfl,l8.of oz,ed0,_,_,rfl,rfl,(by show (0:Int) < 3; decide),pr,_,_,_,rfl,rfl,l8.of zb,ep2,zcY,fun l2 qT=>?_⟩
  have BY:l≠l2:=zq oz qT;have tW:(l7 (l7 H1 pr (.lst (zw.map V.int))) l2 (.lst [.int p1,.int p2])) l=some (.lst (ds.map V.int)):=by rw [zi BY]; exact oz
  refine⟨_,rfl,l,_,_,_,rfl,rfl,l8.of tW,ed1,_,_,rfl,rfl,(by show (0:Int) < 2; decide),l2,_,_,_,rfl,rfl,l8.of zb,ep,?_⟩;have sQ:(0:Int) < (if p < mk then p else mk):=by split <;> lia
  have tS:(if p < mk then p else mk)≤mk:=by split <;> lia
  have Be:(if p < mk then p else mk)≤p:=by split <;> lia
  refine⟨_,rfl,l,_,_,_,rfl,rfl,l8.of tW,ed2,_,rfl,_,rfl,_,_,rfl,_,_,rfl,rfl,sQ,_,_,rfl,rfl,?_⟩;generalize (if p < mk then p else mk)=mm at sQ tS Be ⊢;have sC:=a8 d2 (show mm≠0 by lia);have qC:=aU d2 sQ;have tT:(if p < mn then p else mn)≤mn:=by split <;> lia
  have qX:(if p < mn then p else mn)≤p:=by split <;> lia
  have hn3:mm≤(if p < mn then p else mn):=by split <;> lia
  refine⟨_,rfl,_,rfl,l,_,_,_,rfl,rfl,l8.of tW,ed3,_,rfl,_,rfl,_,_,rfl,_,rfl,_,_,rfl,rfl,_,_,rfl,rfl,_,_,rfl,rfl,#[O],_,_,rfl,rfl,?_⟩;generalize (if p < mn then p else mn)=nn at tT qX hn3 ⊢;have hq0:=a8 d3 (show nn - (1+d2 % mm)+1≠0 by lia);have vi:=aU d3 (show 0 < nn - (1+d2 % mm)+1 by lia);refine⟨_,rfl,p,rfl,fun r uN=>⟨r,p,rfl,zb,#[O],#[O],fun lf BZ=>?_⟩⟩;have wy:l≠r:=zq tW uN;have x8:l≠lf:=by
   refine zq (H:=l7 (l7 (l7 H1 pr (.lst (zw.map V.int))) l2 (.lst [.int p1,.int p2])) r (.rng 0 p)) (o:=.lst (ds.map V.int)) ?_ BZ;rw [zi wy]; exact tW
  have sA:zI H (l7 (l7 H1 pr (.lst (zw.map V.int))) l2 (.lst [.int p1,.int p2])):=(s1.trans (ze xT)).trans (ze qT);have sB:=(sA.trans (ze (o:=.rng 0 p) uN)).trans (ze (o:=.lst ((zbg 0 p.toNat).map V.int)) BZ);have B0:H lf=none:=(sA.trans (ze (o:=.rng 0 p) uN)).free BZ;obtain⟨nd0,rg0⟩:=zie p;refine⟨_,rfl,_,rfl,_,rfl,_,rfl,#[O],#[O],zai (n:=(1+d2 % mm+d3 % (nn - (1+d2 % mm)+1)).toNat) (fun i ys H'=>∃ xs ls:List Int,ys=xs.map V.int∧xs.length=i∧zI H H'∧H' l=some (.lst (ds.map V.int))∧H' lf=some (.lst (ls.map V.int))∧ls.length+i=p.toNat∧(xs++ls).Nodup∧∀ y∈xs++ls,0≤y∧y < p)
   ⟨[],zbg 0 p.toNat,rfl,rfl,sB,by rw [zi x8,zi wy]; exact tW,zb,by rw [zb5]; rfl,by simpa using nd0,by simpa using rg0⟩ (fun i ys H' hi _=>hi) (fun ys H' _=>ah _) ?_ ?_⟩
  ·rintro zS zT zE i x ys H4 H5 hi ⟨xs,ls,rfl,Bh,s4,vR,uu,uS,nd,rg⟩ ⟨rfl,rfl⟩;refine gY ?_;obtain⟨c,ec⟩:=dat (4+(0+(i:Int))) #[O] #[O];have lpos:0 < ls.length:=by lia
   have lm:((ls.map V.int).length:Int)=(ls.length:Int):=by rw [ae]
   have c0:=a8 c (show (ls.length:Int)≠0 by lia);have c1:=aU c (show (0:Int) < ls.length by lia);have qm:=bL;obtain⟨y,ey⟩:∃ y,ls[(c % (ls.length:Int)).toNat]? = some y:=⟨ls[(c % (ls.length:Int)).toNat]'#[O],#[M]⟩;refine⟨_,rfl,.inl ⟨rfl,_,l8.of uu⟩,_,rfl,_,rfl,_,_,rfl,rfl,l,_,_,_,rfl,rfl,l8.of vR,ec,_,rfl,lf,_,rfl,.inl (l8.of uu),_,_,rfl,rfl,(by rw [lm]; lia),lf,_,_,(c % (ls.length:Int)).toNat,.int y,rfl,rfl,uu,?_⟩;rw [lm];refine⟨#[O],#[O],by rw [ae]; exact iJ c0 c1,by rw [az,ey]; rfl,zaG (by rw [ae]; lia),xs++[y],ls.eraseIdx (c % (ls.length:Int)).toNat,by rw [aN]; rfl,by rw [aF,Bh]; rfl,zbm s4 B0,by rw [zi x8]; exact vR,by rw [zb,zet],?_,zk3 ey nd rg⟩;rw [List.length_eraseIdx];split <;> lia
  ·rintro ys H4 D ⟨xs,ls,rfl,Bh,s4,vR,uu,uS,nd,rg⟩ hD;refine⟨D,_,rfl,.inl ⟨l8.of zb,fun tt x9=>⟨by show 3≤sizeLine; rw [bL]; decide,fun c hc=>?_⟩⟩⟩;have s5:=(s4.trans (ze (o:=.lst (xs.map V.int)) hD)).trans (ze (o:=.tup (xs.map V.int)) x9);refine q c tt p _ xs _ (s5.free hc) (s5.trans (ze hc)) ⟨mp,#[O],#[O],#[O],#[O],(ca.mp nd).1,fun y hy=>rg y (aI _ hy)⟩ zb ?_;rw [zi (zq zb hc)];exact zb
theorem zaI:FnScope ["p","polynomial","x","total","power","number"] ["p","polynomial","x"] (zg zb3):=#[S]
theorem zgV {fd:FuncData} (T:Txt K mg base t) (F:Fun K "_law_value" "_law_value" zb3 t.l_value fd):FnOk P w K mg base CX0 1 t.l_value fd ["p","polynomial","x"] (zgx K):=by
 refine F.ok zaI (fun vs H Q E h=>?_) (fun mq A outer s H vs Q E hr h=>?_)
 ·obtain⟨p,x,a,cs,rfl,_⟩:=h;rfl
 ·obtain⟨p,x,a,cs,rfl,hS,p0,p1,x0,x1,q⟩:=h;refine zbO ?_; intro zX;refine⟨_,#[zd,#[zr,3,zaI.nd,#[A],#[zf]],#[zd,#[zr,4,zaI.nd,#[A],#[zf]],#[zd,#[zau,ce,(@zms _ _ _ _ #[pvx,1]),#[zj,5,zaI.nd,#[A]],#[zd,#[zr,3,zaI.nd,#[A],#[zh,#[zW],#[zh,#[zK],#[pvx,3],#[zh,#[zad],#[pvx,5],#[pvx,4]]],#[pvx,0]]],#[zp,#[zr,4,zaI.nd,#[A],#[zh,#[zW],#[zh,#[zad],#[pvx,4],#[pvx,2]],#[pvx,0]]]]]],#[zp,#[zP,#[pvx,3]]]]]],?_⟩;refine znJ ?_; intro wN rL qI;refine⟨_,rfl,a,rfl,?_⟩;rcases hS with hS | hS
  ·refine .inl ⟨⟨_,hS⟩,zaZ (K:=K) (a:=a) (xs:=cs.map V.int) (fun i σ H'=>H'=H∧∃ (md power:Int) (nb:Option V),σ = [some (.int p),some (.ref a),some (.int x),some (.int md),some (.int power),nb]∧0≤power∧power≤97∧lv p x md power (cs.drop i)=lv p x 0 1 cs)
    ⟨rfl,0,1,none,rfl,#[D],#[D],rfl⟩ (fun i σ H' _ ⟨e,_⟩=>by rw [e]; exact hS) ?_ ?_⟩
   ·rintro zD zT i y σ H1 hy ⟨rfl,md,power,nb,rfl,w0,w1,hl⟩;obtain⟨c,rfl,hc⟩:=zae hy;have m0:=a8 (power*x) (show p≠0 by lia);have m1:=aU (power*x) p0;refine⟨_,rfl,_,rfl,_,rfl,_,_,rfl,rfl,.inr ⟨#[O],#[O]⟩,_,_,rfl,rfl,_,rfl,_,_,rfl,rfl,p0,?_⟩;refine⟨_,rfl,_,rfl,_,_,rfl,rfl,.inl ⟨#[O],#[O]⟩,_,rfl,_,_,rfl,rfl,p0,?_⟩;exact⟨rfl,_,_,_,rfl,m0,#[O],(zhm hc).symm.trans hl⟩
   ·rintro σ H1 ⟨rfl,md,power,nb,rfl,w0,w1,hl⟩;rw [ae,fQ] at hl;have hl:md=lv p x 0 1 cs:=hl;rw [zhj p0] at hl;rw [← hl] at q;exact⟨_,rfl,q⟩
  ·refine .inr ⟨⟨_,hS⟩,zjr (K:=K) (a:=a) (xs:=cs.map V.int) (fun i σ H'=>H'=H∧∃ (md power:Int) (nb:Option V),σ = [some (.int p),some (.ref a),some (.int x),some (.int md),some (.int power),nb]∧0≤power∧power≤97∧lv p x md power (cs.drop i)=lv p x 0 1 cs)
    ⟨rfl,0,1,none,rfl,#[D],#[D],rfl⟩ (fun i σ H' _ ⟨e,_⟩=>by rw [e]; exact hS) ?_ ?_⟩
   ·rintro zD zT i y σ H1 hy ⟨rfl,md,power,nb,rfl,w0,w1,hl⟩;obtain⟨c,rfl,hc⟩:=zae hy;have m0:=a8 (power*x) (show p≠0 by lia);have m1:=aU (power*x) p0;refine⟨_,rfl,_,rfl,_,rfl,_,_,rfl,rfl,.inr ⟨#[O],#[O]⟩,_,_,rfl,rfl,_,rfl,_,_,rfl,rfl,p0,?_⟩;refine⟨_,rfl,_,rfl,_,_,rfl,rfl,.inl ⟨#[O],#[O]⟩,_,rfl,_,_,rfl,rfl,p0,?_⟩;exact⟨rfl,_,_,_,rfl,m0,#[O],(zhm hc).symm.trans hl⟩
   ·rintro σ H1 ⟨rfl,md,power,nb,rfl,w0,w1,hl⟩;rw [ae,fQ] at hl;have hl:md=lv p x 0 1 cs:=hl;rw [zhj p0] at hl;rw [← hl] at q;exact⟨_,rfl,q⟩
theorem zgW:FnScope ["found"] ["found"] (zg zb2):=#[S]
theorem zgX {fd:FuncData} (T:Txt K mg base t) (F:Fun K "_law_whole" "_law_whole" zb2 t.l_whole fd):FnOk P w K mg base CX0 1 t.l_whole fd ["found"] (zgy K):=by
 refine F.ok zgW (fun vs H Q E h=>?_) (fun mq A outer s H vs Q E hr h=>?_)
 ·obtain⟨i,rfl,_⟩:=h;rfl
 ·obtain⟨i,rfl,q⟩:=h;refine zbO ?_; intro zX;refine⟨_,#[zp,#[zP,#[zgl,#[zn,#[zaP],T.isinstance_,bv,#[za,#[pvx,0],#[ya,#[zbV,(.ty "int"),T.int_,boot_int]]]],#[zgk,(@zma _ _ _ _ #[zn,#[zaP],T.isinstance_,bv,#[za,#[pvx,0],#[ya,#[zbV,(.ty "bool"),T.bool_,boot_bool]]]])]]]],?_⟩;refine⟨_,rfl,_,_,_,_,rfl,.int i,rfl,_,rfl,zgo ?_⟩;exact⟨_,rfl,_,_,_,_,rfl,.int i,rfl,_,rfl,q⟩
theorem zmX (xs:List V) (j:Nat):zft xs none (some (j:Int))=xs.take j:=by
 unfold zft;rw [HT.sIx_nat,HT.sIx_none,ij,fi];by_cases h:j≤xs.length
 ·rw [iC h]
 ·rw [show min j xs.length=xs.length by lia,aW (ah _),aW (show xs.length≤j by lia)]
theorem zkH {xs:List V} {k:Nat} (h:k≤xs.length):zft xs (some (k:Int)) none=xs.drop k:=by
 have e1:HT.sIx xs.length 0 (some (k:Int))=k:=by
  unfold HT.sIx;simp;split <;> lia
 have e2:HT.sIx xs.length xs.length none=xs.length:=rfl;unfold zft;rw [e1,e2];exact aW (by rw [cF]; exact ah _)
theorem zbb:FnScope ["p","polynomial","x","value","number"] ["p","polynomial","x"] (zg zbF):=#[S]
theorem zgf {fd:FuncData} (T:Txt K mg base t) (F:Fun K "value_at" "value_at" zbF t.value_at fd):FnOk P w K mg base CX0 1 t.value_at fd ["p","polynomial","x"] (zcZ K):=by
 refine F.ok zbb (fun vs H Q E h=>?_) (fun mq A outer s H vs Q E hr h=>?_)
 ·obtain⟨p,x,a,cs,rfl,_⟩:=h;rfl
 ·obtain⟨p,x,a,cs,rfl,hS,p0,p1,x0,x1,q⟩:=h;refine zbO ?_; intro zX;refine⟨_,#[zd,#[zr,3,zbb.nd,#[A],#[zf]],#[zd,#[zau,ce,(@zmr _ _ _ _ _ _ rfl T.reversed_ #[ya,#[pvx,1]] (by rfl)),#[zj,4,zbb.nd,#[A]],#[zp,#[zr,3,zbb.nd,#[A],#[zh,#[zW],#[zh,#[zK],#[zh,#[zad],#[pvx,3],#[pvx,2]],#[pvx,4]],#[pvx,0]]]]],#[zp,#[zP,#[pvx,3]]]]],?_⟩;refine zgp ?_; intro rL qI;refine⟨_,rfl,a,cs.map V.int,rfl,?_⟩;rcases hS with hS | hS
  ·refine .inl ⟨hS,?_⟩;rw [ae];refine zhc (n:=cs.length) (fun i σ H'=>H'=H∧∃ nb,σ = [some (.int p),some (.ref a),some (.int x),some (.int (zm p x (cs.drop (cs.length - i)))),nb]) ⟨rfl,none,by rw [ij,fQ]; rfl⟩
    (fun i σ H' hi ⟨e,_⟩=>⟨hi,cs.map V.int,by rw [e]; exact hS,by rw [ae]⟩) (fun σ H' _=>ah _) ?_ ?_
   ·rintro zD zT i y σ H1 H2 hi ⟨rfl,nb,rfl⟩ ⟨rfl,hy⟩;obtain⟨c,rfl,hc⟩:=zae (hy _ hS);have v0:=zaM (x:=x) p0 (cs.drop (cs.length - i));have v1:=zaN (x:=x) p0 (cs.drop (cs.length - i));refine⟨_,rfl,_,rfl,_,_,rfl,rfl,.inl ⟨#[O],#[O]⟩,_,rfl,_,_,rfl,rfl,_,rfl,_,_,rfl,rfl,p0,?_⟩;refine⟨rfl,some (.int c),?_⟩;rw [zeu hi hc];show _ = [some (V.int p),_,_,some (V.int ((c+x*zm p x (cs.drop (cs.length - i))) % p)),_];rw [Int.add_comm c,jY x];rfl
   ·rintro σ H1 ⟨rfl,nb,rfl⟩;rw [j2,fi];exact⟨_,rfl,q⟩
  ·refine .inr ⟨hS,?_⟩;rw [ae];refine zhc (n:=cs.length) (fun i σ H'=>H'=H∧∃ nb,σ = [some (.int p),some (.ref a),some (.int x),some (.int (zm p x (cs.drop (cs.length - i)))),nb]) ⟨rfl,none,by rw [ij,fQ]; rfl⟩
    (fun i σ H' hi ⟨e,_⟩=>⟨hi,cs.map V.int,by rw [e]; exact hS,by rw [ae]⟩) (fun σ H' _=>ah _) ?_ ?_
   ·rintro zD zT i y σ H1 H2 hi ⟨rfl,nb,rfl⟩ ⟨rfl,hy⟩;obtain⟨c,rfl,hc⟩:=zae (hy _ hS);have v0:=zaM (x:=x) p0 (cs.drop (cs.length - i));have v1:=zaN (x:=x) p0 (cs.drop (cs.length - i));refine⟨_,rfl,_,rfl,_,_,rfl,rfl,.inl ⟨#[O],#[O]⟩,_,rfl,_,_,rfl,rfl,_,rfl,_,_,rfl,rfl,p0,?_⟩;refine⟨rfl,some (.int c),?_⟩;rw [zeu hi hc];show _ = [some (V.int p),_,_,some (V.int ((c+x*zm p x (cs.drop (cs.length - i))) % p)),_];rw [Int.add_comm c,jY x];rfl
   ·rintro σ H1 ⟨rfl,nb,rfl⟩;rw [j2,fi];exact⟨_,rfl,q⟩
def zdW (K:ag):Sp:=fun vs H Q _=>∃ (p r:Int) (a:Addr) (cs:List Int),vs = [.int p,.ref a,.int r]∧H a=some (.lst (cs.map V.int))∧cs.length≤1000∧0 < p∧-97≤r∧r≤97 ∧
 ∀ (l:Addr) (H':Hp),H l=none→zI H H'→H' l=some (.lst ((zba p r cs).map V.int))→Q (.ref l) H'
theorem zbh:FnScope ["p","polynomial","root","raised","kept"] ["p","polynomial","root"] (zg zay):=#[S]
theorem zea {fd:FuncData} (T:Txt K mg base t) (F:Fun K "times_root" "times_root" zay t.times_root fd):FnOk P w K mg base CX0 1 t.times_root fd ["p","polynomial","root"] (zdW K):=by
 refine F.ok zbh (fun vs H Q E h=>?_) (fun mq A outer s H vs Q E hr h=>?_)
 ·obtain⟨p,r,a,cs,rfl,_⟩:=h;rfl
 ·obtain⟨p,r,a,cs,rfl,ha,mi,p0,r0,r1,q⟩:=h;refine zbO ?_; intro zX;refine⟨_,#[zd,#[zr,3,zbh.nd,#[A],#[zh,#[zbN],#[z5,#[ya,#[zf]]],#[pvx,1]]],#[zd,#[zr,4,zbh.nd,#[A],#[zh,#[zbN],#[pvx,1],#[z5,#[ya,#[zf]]]]],#[zp,#[zP,#[zbx,(CompSc.of (N':=["high","low","root","p"]) (ix:=[none,none,some 2,some 0]) (zg zay) ["p","polynomial","root","raised","kept"] rfl rfl #[N]),#[zgt,#[zbk,#[zbk,#[zeR]]]],#[zhh,T.zip_,#[za,#[pvx,3],#[ya,#[pvx,4]]]],(fun _ _ _ _=>#[zc8,(K),2,#[zy,#[zj,0,(show (["high","low","root","p"]:List Str).Nodup from #[N]),#[A]],#[zy,#[zj,1,(show (["high","low","root","p"]:List Str).Nodup from #[N]),#[A]],#[zaK]]]]),(fun _ _ _ _=>#[zaf]),(fun _ _ _ _=>#[zh,#[zW],#[zh,#[zbd],#[pvx,0],#[zh,#[zad],#[pvx,2],#[pvx,1]]],#[pvx,3]])]]]]],?_⟩;refine zgp ?_; intro rL qI;have qm:=bL;refine⟨by show 1≤sizeLine; lia,fun z hz=>⟨_,rfl,z,a,[.int 0],cs.map V.int,rfl,rfl,zb,by rw [zi (zq ha hz)]; exact ha,by rw [ae]; show 1+cs.length≤sizeLine; lia,fun ra vS=>?_⟩⟩;have s1:zI H (l7 (l7 H z (.lst [.int 0])) ra (.lst ([.int 0]++cs.map V.int))):=(ze hz).trans (ze vS);refine⟨_,rfl,by show 1≤sizeLine; lia,fun z2 sM=>⟨a,z2,cs.map V.int,[.int 0],rfl,rfl,by rw [zi (zq (s1 _ _ ha) sM)]; exact s1 _ _ ha,zb,by rw [ae]; show cs.length+1≤sizeLine; lia,fun ke yX=>?_⟩⟩;have s2:=s1.trans ((ze (o:=.lst [.int 0]) sM).trans (ze (o:=.lst (cs.map V.int++[.int 0])) yX));have sZ:l7 (l7 (l7 (l7 H z (.lst [.int 0])) ra (.lst ([.int 0]++cs.map V.int))) z2 (.lst [.int 0])) ke (.lst (cs.map V.int++[.int 0])) ra=some (.lst ((0 :: cs).map V.int)) :=
   ((ze (o:=.lst [.int 0]) sM).trans (ze (o:=.lst (cs.map V.int++[.int 0])) yX)) _ _ zb
  have tf:l7 (l7 (l7 (l7 H z (.lst [.int 0])) ra (.lst ([.int 0]++cs.map V.int))) z2 (.lst [.int 0])) ke (.lst (cs.map V.int++[.int 0])) ke=some (.lst ((cs++[0]).map V.int)):=by rw [zb,aN]; rfl
  generalize l7 (l7 (l7 (l7 H z (.lst [.int 0])) ra (.lst ([.int 0]++cs.map V.int))) z2 (.lst [.int 0])) ke (.lst (cs.map V.int++[.int 0]))=H2 at s2 sZ tf ⊢;refine⟨_,rfl,_,rfl,ra,ke,_,_,rfl,l8.of sZ,l8.of tf,zai (n:=cs.length+1) (fun i ys H'=>ys=((zba p r cs).take i).map V.int∧zI H2 H') ⟨#[M],fun _ _ e=>e⟩ ?_ ?_ ?_ ?_⟩
  ·rintro i ys H3 hi ⟨_,s3⟩;obtain⟨x,hx⟩:∃ x,(0 :: cs)[i]? = some x:=⟨(0 :: cs)[i]'(by simpa using hi),#[M]⟩;obtain⟨y,hy⟩:∃ y,(cs++[0])[i]? = some y:=⟨(cs++[0])[i]'(by simpa using hi),#[M]⟩;exact⟨_,_,.int x,.int y,l8.of (s3 _ _ sZ),l8.of (s3 _ _ tf),by rw [az,hx]; rfl,by rw [az,hy]; rfl⟩
  ·rintro ys H3 ⟨_,s3⟩;exact⟨_,_,l8.of (s3 _ _ sZ),l8.of (s3 _ _ tf),.inl #[M]⟩
  ·rintro zS zT zE i x ys H3 H4 hi ⟨rfl,s3⟩ ⟨T,u,v,hT,rfl,rfl,hu,hv⟩;obtain⟨x,rfl,hx⟩:=zae (hu _ (l8.of (s3 _ _ sZ)));obtain⟨y,rfl,hy⟩:=zae (hv _ (l8.of (s3 _ _ tf)));refine gY2 (mj.of zb) ?_;refine⟨_,rfl,_,rfl,_,rfl,_,_,rfl,rfl,.inl ⟨#[O],#[O]⟩,_,_,rfl,rfl,_,rfl,_,_,rfl,rfl,p0,zaG ?_,?_,s3.trans (ze hT)⟩
   ·rw [ae];exact bg (gf _ _) #[O]
   ·show _=(List.take (i+1) (bT (trF p r) (0 :: cs) (cs++[0]))).map V.int;rw [zjI hx hy,aN];rfl
  ·rintro ys H3 D ⟨rfl,s3⟩ hD;refine q D _ ((s2.trans s3).free hD) ((s2.trans s3).trans (ze hD)) ?_;rw [zb,aW (by rw [zcN]; exact ah _)]
end
section
variable {P:Program} {w:World} {K:ag} {mg:Str→Option Value} {base:Heap} {t:Adr}
def zgg (K:ag):Sp:=fun vs H Q _=>∃ (a:Addr) (m:Nat) (xs:List V),vs = [.ref a,.int (m:Int)]∧(l8 K H a xs∨mj K H a xs)∧xs.length≤16∧m≤1000 ∧
 ∀ (l:Addr) (ls:List Addr) (H':Hp),H l=none→zI H H'→H' l=some (.lst (ls.map V.ref))→zfV H' ls ((chs xs m).map (·.2))→Q (.ref l) H'
theorem zbG:FnScope ["things","many","chosen","step"] ["things","many"] (zg za0):=#[S]
theorem zgY {fd:FuncData} (T:Txt K mg base t) (F:Fun K "choices" "choices" za0 t.choices fd):FnOk P w K mg base CX0 1 t.choices fd ["things","many"] (zgg K):=by
 refine F.ok zbG (fun vs H Q E h=>?_) (fun mq A outer s H vs Q E hr h=>?_)
 ·obtain⟨a,m,xs,rfl,_⟩:=h;rfl
 ·obtain⟨a,m,xs,rfl,hS,hx,hm,q⟩:=h;refine zbO ?_; intro zX;refine⟨_,#[zd,#[zr,2,zbG.nd,#[A],#[z5,#[ya,#[zdn,#[za,#[zf],#[ya,#[z5,#[zc]]]]]]]],#[zd,#[zau,ce,#[zag,T.range_,#[ya,#[pvx,1]]],#[zj,3,zbG.nd,#[A]],#[zp,(@zgF _ _ _ _ _ _ _ _ _ _ _ _ _ _ _ _ _ _ _ _ _ (2) _ _ _ zbG.nd rfl #[A] (CompSc.of (N':=["start","picked","at","things"]) (ix:=[none,none,none,some 0]) (zg za0) ["things","many","chosen","step"] rfl rfl #[N]) rfl (zjs (js:=[0,1]) (zdq (js:=[0,1]) (i:=0) #[D] (zdq (js:=[0,1]) (i:=1) #[D] (zhe (js:=[0,1]))))) (zhd (js:=[2]) (i:=2) #[D]) #[D] #[D] #[zat,#[pvx,2]] (fun _ _ _ _=>#[zc8,(K),2,#[zy,#[zj,0,(show (["start","picked","at","things"]:List Str).Nodup from #[N]),#[A]],#[zy,#[zj,1,(show (["start","picked","at","things"]:List Str).Nodup from #[N]),#[A]],#[zaK]]]]) (fun _ _ _ _=>#[zaf]) (fun _ _ _ _=>(@zhZ _ _ _ _ _ _ _ rfl T.range_ #[za,#[pvx,0],#[ya,#[zn,#[zb6,(K)],T.len_,cm,#[ya,#[pvx,3]]]]] (by rfl) (by rfl))) (fun _ _ _ _=>#[zj,2,(show (["start","picked","at","things"]:List Str).Nodup from #[N]),#[A]]) (fun _ _ _ _=>#[zaf]) (fun _ _ _ _=>#[zdn,#[za,#[zh,#[zK],#[pvx,2],#[zf]],#[ya,#[zh,#[zbN],#[pvx,1],#[z5,#[ya,#[z8,(znT (K:=K) rfl),#[pvx,3],#[pvx,2]]]]]]]]) (by rfl) (by intro _; rfl) (by intros; rfl) (by trivial))]],#[zp,#[zP,#[zbx,(CompSc.of (N':=["start","picked"]) (ix:=[none,none]) (zg za0) ["things","many","chosen","step"] rfl rfl #[N]),#[zgt,#[zbk,#[zbk,#[zeR]]]],#[zat,#[pvx,2]],(fun _ _ _ _=>#[zc8,(K),2,#[zy,#[zj,0,(show (["start","picked"]:List Str).Nodup from #[N]),#[A]],#[zy,#[zj,1,(show (["start","picked"]:List Str).Nodup from #[N]),#[A]],#[zaK]]]]),(fun _ _ _ _=>#[zaf]),(fun _ _ _ _=>#[pvx,1])]]]]],?_⟩;refine zgp ?_; intro rL qI;have qm:=bL;refine⟨bi _,fun L0 hL0=>⟨by show 2≤sizeLine; lia,fun T0 x4=>⟨by show 1≤sizeLine; lia,fun c hc=>?_⟩⟩⟩;have u0:=ze (o:=.lst []) hL0;have u1:=ze (o:=.tup [.int 0,.ref L0]) x4;have u2:=ze (o:=.lst [.ref T0]) hc;have yb:zdH (l7 (l7 (l7 H L0 (.lst [])) T0 (.tup [.int 0,.ref L0])) c (.lst [.ref T0])) [T0] (chs xs 0):=.cons ⟨L0,u2 _ _ zb,(u1.trans u2) _ _ zb⟩ .nil;have xF:l7 (l7 (l7 H L0 (.lst [])) T0 (.tup [.int 0,.ref L0])) c (.lst [.ref T0]) c=some (.lst ([T0].map V.ref)):=zb;have s0:=(u0.trans u1).trans u2;generalize l7 (l7 (l7 H L0 (.lst [])) T0 (.tup [.int 0,.ref L0])) c (.lst [.ref T0])=H0 at yb xF s0 ⊢;refine⟨_,rfl,_,rfl,#[O],#[O],?_⟩;rw [bC];refine zar (lo:=0) (n:=m) (fun i σ H'=>∃ (c:Addr) (ts:List Addr) (e3:Option V),σ = [some (.ref a),some (.int m),some (.ref c),e3]∧zI H H'∧H' c=some (.lst (ts.map V.ref))∧zdH H' ts (chs xs i)) ⟨c,[T0],none,rfl,s0,xF,yb⟩ ?_ ?_
  ·rintro zD zT i σ H1 hi ⟨c,ts,e3,rfl,s1,pZ,qj⟩;have pd:=qj.length;have rC:=zcR (xs:=xs) (i+1) hx;have wL:((chs xs i).flatMap (nxt xs)).length≤65536:=rC;refine⟨_,rfl,c,rfl,⟨_,l8.of pZ⟩,zlZ (n:=ts.length) (fun i' ys H'=>∃ us:List Addr,ys=us.map V.ref∧zI H1 H'∧zdH H' us (((chs xs i).take i').flatMap (nxt xs))) ⟨[],rfl,fun _ _ e=>e,.nil⟩ ?_ ?_ ?_ ?_⟩
   ·rintro i' ys H2 mY ⟨us,_,s2,_⟩;exact⟨_,.ref ts[i'],l8.of (s2 _ _ pZ),by rw [az,aE mY]; rfl⟩
   ·rintro ys H2 ⟨us,_,s2,_⟩;exact⟨_,l8.of (s2 _ _ pZ),by rw [ae]; exact ah _⟩
   ·rintro i' y ys H2 H3 mY ⟨us,rfl,s2,qr⟩ ⟨rfl,hy⟩;obtain⟨tt,rfl,x9⟩:=zby (hy _ (l8.of (s2 _ _ pZ)));obtain⟨cc,nG,pv⟩:=Paired.get qj x9;obtain⟨L,yY,yZ⟩:=pv.same s2;have hle:=zmI (aO nG);have nu:=zfU (aO nG);obtain⟨st,pk⟩:=cc;dsimp only at yY yZ hle nu;refine gY2 (mj.of yY) ?_;refine⟨_,rfl,_,rfl,a,xs,rfl,hS.imp (s1.trans s2).seq (zI.sqT (s1.trans s2)),_,_,rfl,⟨#[O],#[O],#[O],#[O]⟩,?_⟩;have en:((xs.length:Int) - (st:Int)).toNat=xs.length - st:=by lia
    rw [en];refine zlZ (n:=xs.length - st) (fun j ys H'=>∃ us:List Addr,ys=us.map V.ref∧zI H3 H'∧zdH H' us (((chs xs i).take i').flatMap (nxt xs)++(nxt xs (st,pk)).take j)) ⟨us,rfl,fun _ _ e=>e,by rw [gm,cQ]; exact qr⟩ (fun j ys H' hj _=>hj) (fun ys H' _=>ah _) ?_ ?_
    ·rintro j z ys H4 H5 hj ⟨us,rfl,s4,qr⟩ ⟨rfl,rfl⟩;obtain⟨x,pM⟩:∃ x,xs[st+j]? = some x:=⟨xs[st+j]'#[O],#[M]⟩;have pv:atI xs ((st:Int)+(j:Int))=some x:=by
      have e:((st+j:Nat):Int)=(st:Int)+j:=by lia
      rw [← e];exact za8 pM
     have hng:=zli (c:=(st,pk)) pM;have B1:=qr.length;have hpart:=ziD (f:=nxt xs) nG (show j < (nxt xs (st,pk)).length by rw [ze3]; exact hj);have BG:=ze3 xs (st,pk);refine gY ?_;refine⟨_,rfl,_,_,rfl,rfl,_,rfl,_,rfl,_,rfl,a,xs,_,x,rfl,rfl,hS.imp ((s1.trans s2).trans s4).seq (zI.sqT ((s1.trans s2).trans s4)),pv,by show 1≤sizeLine; lia,fun b hb=>?_⟩;have v1:=ze (o:=.lst [x]) hb;refine⟨L,b,pk,[x],rfl,rfl,(s4.trans v1) _ _ yZ,zb,by show pk.length+1≤sizeLine; lia,fun L2 yc=>⟨by show 2≤sizeLine; lia,fun T2 xO=>⟨?_,us++[T2],by rw [aN]; rfl,?_,?_⟩⟩⟩
     ·rw [ae,B1,aF,aS];lia
     ·exact s4.trans (v1.trans ((ze yc).trans (ze xO)))
     ·rw [take_snoc hng,← bf];refine gv (qr.same (v1.trans ((ze yc).trans (ze xO)))) ⟨L2,?_,(ze xO) _ _ zb⟩;rw [zb];show some (HO.tup [.int ((st:Int)+(j:Int)+1),.ref L2])=some (HO.tup [.int ((st+j+1:Nat):Int),.ref L2]);have e:((st+j+1:Nat):Int)=(st:Int)+j+1:=by lia
      rw [e]
    ·rintro ys H4 ⟨us,rfl,s4,qr⟩;rw [aW (l:=nxt xs (st,pk)) (by rw [ze3]; exact ah _)] at qr;exact⟨us,rfl,s2.trans s4,by rw [ziE nG]; exact qr⟩
   ·rintro ys H2 ⟨us,rfl,s2,qr⟩ D hD;rw [pd,aW (ah _)] at qr;exact⟨D,us,_,rfl,s1.trans (s2.trans (ze hD)),zb,qr.same (ze hD)⟩
  ·rintro σ H1 ⟨c,ts,e3,rfl,s1,pZ,qj⟩;have pd:=qj.length;have rC:=zcR (xs:=xs) m hx;refine⟨_,rfl,c,rfl,⟨_,l8.of pZ⟩,zai (n:=ts.length) (fun i ys H'=>H'=H1∧∃ us:List Addr,ys=us.map V.ref∧zfV H1 us (((chs xs m).map (·.2)).take i)) ⟨rfl,[],rfl,.nil⟩ ?_ ?_ ?_ ?_⟩
   ·rintro i ys H2 hi ⟨rfl,_⟩;exact⟨_,.ref ts[i],l8.of pZ,by rw [az,aE hi]; rfl⟩
   ·rintro ys H2 ⟨rfl,_⟩;exact⟨_,l8.of pZ,by rw [ae]; exact ah _⟩
   ·rintro zS zT zE i y ys H2 H3 hi ⟨rfl,us,rfl,qr⟩ ⟨rfl,hy⟩;obtain⟨tt,rfl,x9⟩:=zby (hy _ (l8.of pZ));obtain⟨cc,nG,L,yY,yZ⟩:=Paired.get qj x9;have B1:=qr.length;refine gY2 (mj.of yY) ⟨_,rfl,?_,rfl,us++[L],by rw [aN]; rfl,?_⟩
    ·rw [ae,B1,aS,ae];lia
    ·have B2:((chs xs m).map (·.2))[i]? = some cc.2:=by rw [az,nG]; rfl
     rw [take_snoc B2];exact gv qr yZ
   ·rintro ys H2 D ⟨rfl,us,rfl,qr⟩ hD;rw [aW (by rw [ae,pd]; exact ah _)] at qr;exact q D us _ (s1.free hD) (s1.trans (ze hD)) zb (qr.same (ze hD))
def zlG (t:Adr) (K:ag):Sp:=fun vs H Q E=>∃ (c tt:Addr) (p k T:Int) (pl:List Int),vs = [.ref c,.int T]∧zav H c tt p k pl∧(((T < k∨(pl.length:Int) < T)∧E (.ref t.TooFew) none H)∨(k≤T∧T≤(pl.length:Int)∧Q .non H))
theorem zaO:FnScope ["code","t","p","k","places"] ["code","t"] (zg zaY):=#[S]
theorem zcb {fd:FuncData} (T:Txt K mg base t) (F:Fun K "check_many" "check_many" zaY t.check_many fd):FnOk P w K mg base (CX1 P w) 1 t.check_many fd ["code","t"] (zlG t K):=by
 refine F.okX zaO (fun vs H Q E h=>?_) (fun mq A outer s H vs Q E hr h=>?_)
 ·obtain⟨c,tt,p,k,T',pl,rfl,_⟩:=h;rfl
 ·obtain⟨c,tt,p,k,T',pl,rfl,hc,hq⟩:=h;refine zbO ?_; intro zX;refine⟨_,#[zd,#[zcL,#[pvx,0],#[zcc,#[zy,#[zj,2,zaO.nd,#[A]],#[zy,#[zj,3,zaO.nd,#[A]],#[zy,#[zj,4,zaO.nd,#[A]],#[zaK]]]]]],#[zp,#[zbi,#[zcK,(@zji _ _ _ _ _ _ _ _ _ _ _ _ #[zg4] #[zg4] #[pvx,3] #[pvx,1] #[zn,#[zv],T.len_,cm,#[ya,#[pvx,4]]] (by with_unfolding_all rfl))],#[zp,(@zjP _ _ _ _ _ _ _ _ _ (fun _ _ _ _ _ _ _ _ I m q=>zgC I m q) rfl rfl T.x_TooFew T.xi_TooFew #[zdk] #[D] (by rfl) (by rfl))],#[zal]]]],?_⟩;refine zne ?_; intro qI;refine⟨_,rfl,c,_,rfl,mj.of hc.1,rfl,_,_,rfl,_,_,rfl,_,_,rfl,rfl,?_⟩;refine⟨_,rfl,_,rfl,_,_,rfl,rfl,_,rfl,?_⟩;rcases hq with ⟨hk,q⟩ | ⟨qC,pe,q⟩
  ·refine zb4 (fun h1=>?_) (fun h1=>⟨_,rfl,zgo ⟨rfl,q⟩⟩);have h1:=of_decide_eq_true h1;refine⟨_,rfl,tt,_,rfl,.inr (mj.of hc.2),_,_,rfl,rfl,_,rfl,?_⟩;rw [decide_eq_false (by rw [ae]; lia)];exact zgo ⟨rfl,q⟩
  ·refine zb4 (fun _=>?_) (fun h=>absurd (decide_eq_true qC) h);refine⟨_,rfl,tt,_,rfl,.inr (mj.of hc.2),_,_,rfl,rfl,_,rfl,?_⟩;rw [decide_eq_true (by rw [ae]; exact pe)];exact zdp q
def zlH (t:Adr) (K:ag):Sp:=fun vs H Q E=>∃ (c tt:Addr) (p T:Int) (k:Nat) (pl:List Int),vs = [.ref c,.int T]∧zav H c tt p k pl∧pl.length≤16∧0 < p∧p≤97∧(((T < k∨(pl.length:Int) < T)∧E (.ref t.TooFew) none H)∨∃ m:Nat,T=m∧k≤m∧m≤pl.length∧Q (.int (cd (bn pl.length m) (p.toNat ^ (m - k)):Nat)) H)
theorem zan:FnScope ["code","t","p","k","places","chosen","at","step"] ["code","t"] (zg zcE):=#[S]
theorem zi3 {fd:FuncData} (T:Txt K mg base t) (F:Fun K "due_of" "due_of" zcE t.due_of fd):FnOk P w K mg base (CX1 P w) 2 t.due_of fd ["code","t"] (zlH t K):=by
 obtain⟨nz,mw,mB⟩:=T.f_check_many;have mU:=zcb (P:=P) (w:=w) (base:=base) T mw;refine F.okX zan (fun vs H Q E h=>?_) (fun mq A outer s H vs Q E hr h=>?_)
 ·obtain⟨c,tt,p,T',k,pl,rfl,_⟩:=h;rfl
 ·obtain⟨c,tt,p,T',k,pl,rfl,hc,hn,p0,p1,hq⟩:=h;refine zbO ?_; intro zX;refine⟨_,#[zd,#[zc7,#[zQ,mU,(hr.mono #[D]),T.m_check_many,mw.kp,mB,#[zdx],#[za,#[pvx,0],#[ya,#[pvx,1]]]]],#[zd,#[zcL,#[pvx,0],#[zcc,#[zy,#[zj,2,zan.nd,#[A]],#[zy,#[zj,3,zan.nd,#[A]],#[zy,#[zj,4,zan.nd,#[A]],#[zaK]]]]]],#[zd,#[zr,5,zan.nd,#[A],#[zf]],#[zd,#[zau,gZ,#[zag,T.range_,#[ya,#[pvx,1]]],#[zj,6,zan.nd,#[A]],#[zp,#[zr,5,zan.nd,#[A],#[zh,#[zeI],#[zh,#[zad],#[pvx,5],#[zh,#[zbd],#[zn,#[zv],T.len_,cm,#[ya,#[pvx,4]]],#[pvx,6]]],#[zh,#[zK],#[pvx,6],#[zf]]]]]],#[zd,#[zau,gZ,#[zag,T.range_,#[ya,#[zh,#[zbd],#[pvx,1],#[pvx,3]]]],#[zj,7,zan.nd,#[A]],#[zp,#[zr,5,zan.nd,#[A],#[zh,#[zeI],#[zh,#[zbd],#[zh,#[zK],#[pvx,5],#[pvx,2]],#[zf]],#[pvx,2]]]]],#[zp,#[zP,#[pvx,5]]]]]]]],?_⟩;refine znf ?_; intro x5 x6 wN rL qI;rcases hq with ⟨hb,q⟩ | ⟨m,rfl,km,mn,q⟩
  ·exact⟨_,rfl,_,rfl,c,tt,p,k,T',pl,rfl,hc,.inl ⟨hb,q⟩⟩
  refine⟨_,rfl,_,rfl,c,tt,p,k,m,pl,rfl,hc,.inr ⟨#[O],#[O],?_⟩⟩;refine⟨_,rfl,c,_,rfl,mj.of hc.1,rfl,_,_,rfl,_,_,rfl,_,_,rfl,rfl,?_⟩;refine⟨_,rfl,_,rfl,#[O],#[O],?_⟩;rw [bC];refine zar (lo:=0) (n:=m) (fun i σ H'=>H'=H∧∃ e6 e7:Option V,σ = [some (.ref c),some (.int (m:Int)),some (.int p),some (.int (k:Int)),some (.ref tt),some (.int (bn pl.length i:Nat)),e6,e7]) ⟨rfl,none,none,by have:bn pl.length 0=1:=(by cases pl.length <;> rfl); rw [this]; rfl⟩ ?_ ?_
  ·rintro zD zT i σ H1 hi ⟨rfl,e6,e7,rfl⟩;have e:=zmR (n:=pl.length) (a:=i) #[O] #[O];have hs:=zdR pl.length #[O] i #[O];refine⟨_,rfl,_,rfl,tt,_,rfl,.inr (mj.of hc.2),_,rfl,_,_,rfl,rfl,_,_,rfl,rfl,.inl ⟨#[O],#[O]⟩,_,rfl,_,_,rfl,rfl,_,_,rfl,rfl,⟨#[O],#[O]⟩,rfl,some (.int (0+(i:Int))),e7,?_⟩;show [some (V.ref c),some (.int (m:Int)),some (.int p),some (.int (k:Int)),some (.ref tt),some (V.int ((bn pl.length i:Int)*(((pl.map V.int).length:Int) - (0+(i:Int))) / (0+(i:Int)+1))),some (.int (0+(i:Int))),e7]=_;rw [ae,j8,e]
  ·rintro σ H1 ⟨rfl,e6,e7,rfl⟩;have hs:=zdR pl.length #[O] m #[O];refine⟨_,rfl,_,rfl,_,_,rfl,rfl,_,rfl,#[O],#[O],?_⟩;rw [show ((m:Int) - (k:Int)).toNat=m - k by lia];refine zar (lo:=0) (n:=m - k) (fun i σ H'=>H'=H1∧∃ e7:Option V,σ = [some (.ref c),some (.int (m:Int)),some (.int p),some (.int (k:Int)),some (.ref tt),some (.int (cd (bn pl.length m) (p.toNat ^ i):Nat)),e6,e7]) ⟨rfl,e7,by rw [Nat.pow_zero,zmT]⟩ ?_ ?_
   ·rintro zD zT i σ H2 hi ⟨rfl,e7,rfl⟩;refine⟨_,rfl,_,rfl,_,_,rfl,rfl,_,_,rfl,rfl,_,rfl,_,_,rfl,rfl,⟨p0,#[O]⟩,rfl,some (.int (0+(i:Int))),?_⟩;show [some (V.ref c),some (.int (m:Int)),some (.int p),some (.int (k:Int)),some (.ref tt),some (V.int (((cd (bn pl.length m) (p.toNat ^ i):Nat)+p - 1) / p)),e6,some (.int (0+(i:Int)))]=_;rw [zmU (zgN p0 i) p0,eu]
   ·rintro σ H2 ⟨rfl,e7,rfl⟩;exact⟨_,rfl,q⟩
def zmY (K:ag):Sp:=fun vs H Q _=>∃ (a:Addr) (p:Int) (rs:List Int),vs = [.int p,.ref a]∧H a=some (.lst (rs.map V.int))∧rs.length≤16∧(∀ r∈rs,0≤r∧r < p)∧1 < p∧p≤97 ∧
 ∀ (l:Addr) (H':Hp),H l=none→zI H H'→H' l=some (.lst ((van p rs).map V.int))→Q (.ref l) H'
theorem zaq:FnScope ["p","roots","polynomial","root"] ["p","roots"] (zg zaz):=#[S]
theorem zc6 {fd:FuncData} (T:Txt K mg base t) (F:Fun K "vanishing_at" "vanishing_at" zaz t.vanishing_at fd):FnOk P w K mg base CX0 2 t.vanishing_at fd ["p","roots"] (zmY K):=by
 obtain⟨o6,nJ,mV⟩:=T.f_times_root;have pz:=zea (P:=P) (w:=w) (base:=base) T nJ;refine F.ok zaq (fun vs H Q E h=>?_) (fun mq A outer s H vs Q E hr h=>?_)
 ·obtain⟨a,p,rs,rfl,_⟩:=h;rfl
 ·obtain⟨a,p,rs,rfl,ha,hl,BJ,p0,p1,q⟩:=h;refine zbO ?_; intro zX;refine⟨_,#[zd,#[zr,2,zaq.nd,#[A],#[z5,#[ya,#[zf]]]],#[zd,#[zau,ce,#[zat,#[pvx,1]],#[zj,3,zaq.nd,#[A]],#[zp,#[zr,2,zaq.nd,#[A],#[zQ,pz,(hr.mono #[D]),T.m_times_root,nJ.kp,mV,#[zaC],#[za,#[pvx,0],#[za,#[pvx,2],#[ya,#[pvx,3]]]]]]]],#[zp,#[zP,#[pvx,2]]]]],?_⟩;refine zgp ?_; intro rL qI;have qm:=bL;refine⟨by show 1≤sizeLine; lia,fun z hz=>?_⟩;have u0:=ze (o:=.lst ([1].map V.int)) hz;refine⟨_,rfl,a,rfl,⟨_,l8.of (u0 _ _ ha)⟩,zaZ (K:=K) (a:=a) (xs:=rs.map V.int) (fun i σ H'=>∃ (c:Addr) (e3:Option V),σ = [some (.int p),some (.ref a),some (.ref c),e3]∧H c=none∧zI H H'∧H' c=some (.lst ((van p (rs.take i)).map V.int))) ⟨z,none,rfl,hz,u0,zb⟩ (fun i σ H' _ hq=>by obtain⟨_,_,_,_,s3,_⟩:=hq; exact l8.of (s3 _ _ ha)) ?_ ?_⟩
  ·rintro zD zT i y σ H1 hy ⟨c,e3,rfl,hc,s1,pZ⟩;obtain⟨r,rfl,yP⟩:=zae hy;obtain⟨r0,r1⟩:=BJ r (aO yP);refine⟨_,rfl,_,rfl,_,rfl,p,r,c,_,rfl,pZ,?_,#[O],#[O],#[O],fun l H2 qT s2 h2=>⟨l,_,rfl,s1.free qT,s1.trans s2,?_⟩⟩
   ·rw [zbZ,aS]; lia
   ·rw [take_snoc yP,zdL]; exact h2
  ·rintro σ H1 ⟨c,e3,rfl,hc,s1,pZ⟩;rw [ae,dj] at pZ;exact⟨_,rfl,q c H1 hc s1 pZ⟩
end
section
variable {P:Program} {w:World} {K:ag} {mg:Str→Option Value} {base:Heap} {t:Adr}
abbrev znt:Pos:=⟨66,25,66,51⟩
abbrev znu:Str:=(bJ "many_near"++bJ ".<locals>.")++bJ "<lambda>"
def TbA (t:Adr) (H:Hp):Prop:=TbI t.tab znt znu H
theorem TbA.same {t:Adr} {H H':Hp} (s:zI H H') (h:TbA t H):TbA t H':=by
 obtain⟨ps,h1,h2,h3⟩:=h;exact⟨ps,s _ _ h1,h2,h3.imp id fun ⟨c,z1,z2⟩=>⟨c,z1,s _ _ z2⟩⟩
theorem TbA.at_ {t:Adr} {H:Hp} (h:TbA t H):∃ ps,H t.tab=some (.tbl ps):=by
 obtain⟨ps,h1,_⟩:=h;exact⟨ps,h1⟩
def zkI (p:Int) (k m:Nat) (pl:List Int) (H H':Hp) (T:Addr):Prop:=∃ (r l:Addr) (rs:List Addr) (qs:List (List Int)) (high:List Int) (lows:List (List Int)),H T=none∧H' T=some (.tup [.ref r,.ref l])∧H' r=some (.lst ((rowOf p k high pl).map V.int))∧H' l=some (.lst (rs.map V.ref))∧ze7 H' rs qs∧qs.Perm (lows.map (ngP p)) ∧
  (high,lows)∈Gof k (((chs pl m).map (·.2)).map (van p))∧(∀ g∈Gof k (((chs pl m).map (·.2)).map (van p)),g.2.length≤lows.length)∧(qs.Pairwise fun a b=>Srt.num p a≤Srt.num p b)
def zkJ (t:Adr) (K:ag):Sp:=fun vs H Q E=>∃ (c tt:Addr) (p T:Int) (k:Nat) (pl:List Int),vs = [.ref c,.int T]∧zav H c tt p k pl∧pl.length≤16∧p∈zw∧pl.Nodup∧(∀ x∈pl,0≤x∧x < p)∧1≤k∧TbA t H∧(((T < k∨(pl.length:Int) < T)∧E (.ref t.TooFew) none H)∨∃ m:Nat,T=m∧k≤m∧m≤pl.length ∧
 ∀ (T9:Addr) (H':Hp),zI (hide H t.tab) H'→TbA t H'→zkI p k m pl H H' T9→Q (.ref T9) H')
theorem zN:FnScope ["code","t","p","k","places","lows","roots","vanishing","high","row","polynomials"] ["code","t"] (zg zac):=#[S]
theorem zfh {fd:FuncData} (T:Txt K mg base t) (F:Fun K "many_near" "many_near" zac t.many_near fd):FnOk P w K mg base (CX1 P w) 4 t.many_near fd ["code","t"] (zkJ t K):=by
 obtain⟨nz,mw,mB⟩:=T.f_check_many;have mU:=zcb (P:=P) (w:=w) (base:=base) T mw;obtain⟨qJ,o8,nQ⟩:=T.f_choices;have rN:=zgY (P:=P) (w:=w) (base:=base) T o8;obtain⟨oh,ng,mE⟩:=T.f_vanishing_at;have oF:=zc6 (P:=P) (w:=w) (base:=base) T ng;obtain⟨p8,oG,nC⟩:=T.f_value_at;have qK:=zgf (P:=P) (w:=w) (base:=base) T oG;refine F.okXT T.tb zN (fun vs H Q E h=>?_) (fun cP hKc A outer s H vs Q E hr h=>?_)
 ·obtain⟨c,tt,p,T',k,pl,rfl,_⟩:=h;rfl
 ·obtain⟨c,tt,p,T',k,pl,rfl,hc,hn,hp,pP,nu,k1,sF,hq⟩:=h;have hu:(A.deeper (envOfC (bJ "many_near") (zg zac) s.heap.objs.size t.many_near (.ref cP))).units+1 < cLine:=by have:=hr.units; lia
  have B3:(A.deeper (envOfC (bJ "many_near") (zg zac) s.heap.objs.size t.many_near (.ref cP))).units+20 < cLine:=by have:=hr.units; lia
  refine zbO ?_; intro zX;refine⟨_,#[zd,#[zc7,#[zQ,mU,(hr.mono #[D]),T.m_check_many,mw.kp,mB,#[zdx],#[za,#[pvx,0],#[ya,#[pvx,1]]]]],#[zd,#[zcL,#[pvx,0],#[zcc,#[zy,#[zj,2,zN.nd,(fH rfl)],#[zy,#[zj,3,zN.nd,(fH rfl)],#[zy,#[zj,4,zN.nd,#[A]],#[zaK]]]]]],#[zd,#[zr,5,zN.nd,(fH rfl),(@zjW _ _)],#[zd,#[zau,gZ,#[zat,#[zQ,rN,(hr.mono #[D]),T.m_choices,o8.kp,nQ,#[zaC],#[za,#[pvx,4],#[ya,#[pvx,1]]]]],#[zj,6,zN.nd,#[A]],#[zd,#[zr,7,zN.nd,#[A],#[zQ,oF,(hr.mono #[D]),T.m_vanishing_at,ng.kp,mE,#[zaC],#[za,#[pvx,2],#[ya,#[pvx,6]]]]],#[zp,#[zc7,#[zfv,dh,io,ip,#[zen],(zkg hu #[pvx,5] #[zaF,#[zbe],T.tuple_,jq,#[ya,#[zfs,zg9,#[pvx,7],#[zg7,#[pvx,3]],#[zg6]]]] #[z5,#[zc]] ⟨rfl,rfl,rfl,rfl⟩),#[ya,#[zfs,zg9,#[pvx,7],#[zg6],#[zg7,#[pvx,3]]]]]]]]],#[zd,#[zr,8,zN.nd,(fH rfl),(@zlq _ t.tab cP _ _ _ _ _ _ _ _ _ _ _ _ _ _ _ 5 rfl hKc T.bm (by exact⟨rfl,rfl,rfl,rfl,rfl,rfl,#[D],#[D],(fun _ _ _ _ _ _ _ _=>rfl),(fun _=>rfl)⟩) rfl rfl rfl hr.depth B3 rfl T.max_ T.len_ #[pvx,5] rfl rfl rfl rfl)],#[zd,#[za3,9,zN.nd,#[A],(CompSc.of (N':=["place","p","k","high"]) (ix:=[none,some 2,some 3,some 8]) (zg zac) ["code","t","p","k","places","lows","roots","vanishing","high","row","polynomials"] rfl rfl #[N]),#[zaV],#[zjc,#[pvx,4]],(fun _ _ _ _=>#[zj,0,(show (["place","p","k","high"]:List Str).Nodup from #[N]),#[A]]),(fun _ _ _ _=>#[zaf]),(fun _ _ _ _=>#[zQ,qK,(hr.mono #[D]),T.m_value_at,oG.kp,nC,#[zaC],#[za,#[pvx,1],#[za,#[zh,#[zbN],#[zh,(@zmj _),#[z5,#[ya,#[zf]]],#[pvx,2]],#[zaF,(zd7 (K:=K) rfl),T.list_,j7,#[ya,#[pvx,3]]]],#[ya,#[pvx,0]]]]])],#[zd,#[za3,10,zN.nd,#[A],(CompSc.of (N':=["low","p"]) (ix:=[none,some 2]) (zg zac) ["code","t","p","k","places","lows","roots","vanishing","high","row","polynomials"] rfl rfl #[N]),#[zaV],#[zat,(@zk9 _ _ _ _ _ _ hu #[pvx,5] #[pvx,8] (fun _ _=>rfl))],(fun _ _ _ _=>#[zj,0,(show (["low","p"]:List Str).Nodup from #[N]),#[A]]),(fun _ _ _ _=>#[zaf]),(fun _ _ _ _=>#[zaF,(zdJ (K:=K) rfl),T.tuple_,jq,#[ya,#[zbx,(CompSc.of (N':=["number","p"]) (ix:=[none,some 1]) ({ kind:=.function,names:=[(".0",.local),("low",.local),("tuple",.globalImplicit),("p",.cell)],isGenerator:=false,isCoroutine:=false }) ["low","p"] (by with_unfolding_all rfl) rfl #[N]),#[zaV],(@zkd _ (K) _ _ _ rfl #[pvx,0]),(fun _ _ _ _=>#[zj,0,(show (["number","p"]:List Str).Nodup from #[N]),#[A]]),(fun _ _ _ _=>#[zaf]),(fun _ _ _ _=>#[zh,#[zW],#[zlN,zje,#[pvx,0]],#[pvx,1]])]]])],#[zp,#[zP,#[zdn,#[za,#[pvx,9],#[ya,#[zn,(@ze2 _),T.sorted_,boot_sorted,#[ya,#[pvx,10]]]]]]]]]]]]]]],?_⟩;refine znK ?_; intro zN8 BW x5 x6 wN rL qI;have qm:=bL;have rp:=zL hp;rcases hq with ⟨hb,q⟩ | ⟨m,rfl,km,mn,q⟩
  ·exact⟨_,rfl,_,rfl,c,tt,p,k,T',pl,rfl,hc,.inl ⟨hb,q⟩⟩
  refine⟨_,rfl,_,rfl,c,tt,p,k,m,pl,rfl,hc,.inr ⟨#[O],#[O],?_⟩⟩;refine⟨_,rfl,c,_,rfl,mj.of hc.1,rfl,_,_,rfl,_,_,rfl,_,_,rfl,rfl,fun D hD=>?_⟩;have s0:=ze (o:=.dT []) hD;have B4:l7 H D (.dT []) D=some (.dT []):=zb;generalize l7 H D (.dT [])=H0 at s0 B4 ⊢;refine⟨_,rfl,_,rfl,tt,m,_,rfl,.inr (mj.of (s0 _ _ hc.2)),by rw [ae]; lia,#[O],fun l ls H1 hl s1 h1l y4=>?_⟩;have hlD:l≠D:=fun e=>by rw [e,B4] at hl; cases hl
  rw [ziF V.int pl m] at y4;have vT:=y4.length;rw [ae,ae] at vT;have rC:=zcR (xs:=pl) m hn;obtain⟨p9,qL⟩:∃ p9,(chs pl m).map (·.2)=p9:=⟨_,rfl⟩;rw [qL] at y4;have xQ:ls.length=p9.length:=by rw [vT,← qL,ae]
  have B5:∀ z∈p9,z.Sublist pl∧z.length=m:=fun z hz=>zaX.mp (by rw [qL]; exact hz)
  have rO:H1 D=some (.dT []):=s1 _ _ B4;have hid:=zbn H1 D;have hBD:hide H1 D D=none:=by unfold hide; rw [if_pos rfl]
  refine⟨l,rfl,⟨_,l8.of h1l⟩,zaZ (K:=K) (a:=l) (xs:=ls.map V.ref) (fun i σ H'=>∃ (l6:List (List Key×V)) (e6 e7:Option V),σ = [some (.ref c),some (.int m),some (.int p),some (.int k),some (.ref tt),some (.ref D),e6,e7,none,none,none]∧zI (hide H1 D) H'∧H' D=some (.dT l6)∧zax H' l6 (Gof k ((p9.take i).map (van p)))∧NewL (hide H1 D) l6∧l6.length≤i)
   ⟨[],none,none,rfl,hid,rO,.nil,⟨.nil,fun _ z=>by cases z⟩,ah _⟩ (fun i σ H' _ hq=>by obtain⟨_,_,_,_,s3,_⟩:=hq; exact l8.of (s3 _ _ (z7 h1l hlD))) ?_ ?_⟩
  ·rintro zD zT i y σ H2 hy ⟨l6,e6,e7,rfl,s2,wO,rP,hN,xY⟩;obtain⟨b,rfl,hbi⟩:=zby hy;obtain⟨hi,_⟩:=aT.mp hbi;obtain⟨vk,yd,rD⟩:=Paired.get y4 hbi;obtain⟨zk,hzk,rfl⟩:∃ zk,p9[i]? = some zk∧vk=zk.map V.int:=by
    rw [az] at yd;cases e:p9[i]? with
    | none=>rw [e] at yd; cases yd
    | some zk=>rw [e] at yd; exact⟨zk,rfl,(aX yd).symm⟩
   have hbD:b≠D:=fun e=>by rw [e,rO] at rD; cases rD
   obtain⟨qH,mi⟩:=B5 zk (aO hzk);have Ar:=zbZ p zk;refine⟨_,rfl,_,rfl,b,p,zk,rfl,s2 _ _ (z7 rD hbD),#[O],(fun r hr=>nu r (qH.subset hr)),#[O],#[O],fun v H3 hv s3 h3=>?_⟩;refine⟨_,rfl,D,rfl,.inr ⟨l6,.inl (s3 _ _ wO)⟩,_,rfl,_,rfl,_,rfl,v,_,rfl,l8.of h3,fun z1 tR=>?_⟩;rw [zkH (by rw [ae,Ar]; lia),← List.map_drop];refine⟨z1,_,rfl,.inl ⟨l8.of zb,fun kt hkt=>⟨bi _,fun l0 BV=>?_⟩⟩⟩;have v1:=ze (o:=.lst (((van p zk).drop k).map V.int)) tR;have v2:=ze (o:=.tup (((van p zk).drop k).map V.int)) hkt;have v3:=ze (o:=.lst []) BV;have hk4:=v3 _ _ (zb (H:=l7 H3 z1 (.lst (((van p zk).drop k).map V.int))) (a:=kt) (o:=.tup (((van p zk).drop k).map V.int)));have vU:l7 (l7 (l7 H3 z1 (.lst (((van p zk).drop k).map V.int))) kt (.tup (((van p zk).drop k).map V.int))) l0 (.lst []) l0=some (.lst []):=zb;have y6:=v1.trans (v2.trans v3);have vV:=(v1.trans v2).free BV;generalize l7 (l7 (l7 H3 z1 (.lst (((van p zk).drop k).map V.int))) kt (.tup (((van p zk).drop k).map V.int))) l0 (.lst [])=H4 at hk4 vU y6 ⊢;have ye:=s3.trans y6;have y8:=ye _ _ wO;have B6:=zbp k _ ((p9.take i).map (van p)) rfl;refine⟨l6,((van p zk).drop k).map bG,kt,y8,rfl,?_,#[O],(fun y H'=>∃ (l':Addr) (rs:List Addr) (qM:List (List Key×V)),y = .ref l'∧zI (hide H1 D) H'∧H' v=some (.lst ((van p zk).map V.int))∧H' D=some (.dT qM)∧H' l'=some (.lst (rs.map V.ref))∧rs.length≤i∧hide H1 D l'=none∧zax H' qM (zbE (Gof k ((p9.take i).map (van p))) ((van p zk).drop k))∧NewL (hide H1 D) qM∧qM.length≤i+1∧∀ kv∈qM,kv.1=((van p zk).drop k).map bG↔kv.2 = .ref l'),fun y e=>?_,fun e=>?_,?_⟩
   ·rw [hk4,br]; rfl
   ·obtain⟨l',rs,rfl,g1,g2,⟨g0,g5,g6⟩,g3,g4⟩:=zgM (rP.same ye) B6 hN e;have g7:=ze9 k _ _ rfl g0 g5;rw [ae,aS] at g7;exact⟨l',rs,l6,rfl,s2.trans ye,y6 _ _ h3,y8,g1,#[O],g2,g3,hN,#[O],g4⟩
   ·have yf:hide H1 D l0=none:=(s2.trans s3).free vV;have o3:∀ kv∈l6,kv.2≠.ref l0:=fun kv hkv z=>by
     obtain⟨j,hj⟩:=cK hkv;obtain⟨g,_,_,l',rs,z2,z3,_⟩:=Paired.get rP hj;rw [z] at z2;cases z2;rw [s3 _ _ z3] at vV;cases vV
    obtain⟨g1,g2,g3⟩:=zki (rP.same ye) hN yf vU y8 o3 e;have hDl:l0≠D:=fun z=>by rw [z,y8] at vU; cases vU
    have hvD:v≠D:=fun z=>by rw [z,wO] at hv; cases hv
    exact⟨l0,[],_,rfl,zbm (s2.trans ye) hBD,by rw [zi hvD]; exact y6 _ _ h3,zb,by rw [zi hDl]; exact vU,bi _,yf,g1,g2,by rw [aF,cD]; lia,g3⟩
   rintro y H5 ⟨l',rs,qM,rfl,s5,h5v,h5D,h5l,wQ,hlB,B7,hN',B8,hA⟩;refine⟨.inl ⟨rfl,_,l8.of h5l⟩,_,rfl,_,rfl,_,rfl,v,_,rfl,l8.of h5v,fun lo oa=>?_⟩;rw [zmX,← List.map_take];have v6:=ze (o:=.lst (((van p zk).take k).map V.int)) oa;have h6o:l7 H5 lo (.lst (((van p zk).take k).map V.int)) lo=some (.lst (((van p zk).take k).map V.int)):=zb;generalize l7 H5 lo (.lst (((van p zk).take k).map V.int))=H6 at v6 h6o ⊢;have y9:=v6 _ _ h5l;have h6D:=v6 _ _ h5D;have B9:D≠l':=fun e=>by rw [← e,h6D] at y9; cases y9
   have oC:∀ g∈Gof k ((p9.take i).map (van p)),∀ x∈g.2,x≠[]:=fun g hg x hx e=>by
    obtain⟨y,h1,h2,_⟩:=zbD _ _ rfl g hg x hx;obtain⟨z,_,rfl⟩:=aG.mp h1;have:=congrArg fB h2;rw [e,aS,zbZ,c9] at this;lia
   refine⟨l',_,_,rfl,rfl,y9,by rw [ae]; lia,qM,_,_,rfl,zbm (s5.trans v6) hlB,by rw [zi B9]; exact h6D,?_,hN',B8⟩;rw [take_snoc hzk,aN,aP,hW,zaw,zcw];exact zlt (B7.same v6) hA y9 h6o (fun e=>by
    have:=congrArg fB e;rw [aS,Ar,c9] at this;lia) (zlu oC)
  ·rintro σ H2 ⟨l6,e6,e7,rfl,s2,wO,rP,hN,xY⟩;rw [ae,xQ,dj] at rP;rw [ae,xQ] at xY;have yg:p9≠[]:=by rw [← qL]; exact zmO mn
   have B6:=zbp k _ (p9.map (van p)) rfl;have B':Gof k (p9.map (van p))≠[]:=zmN (fun e=>yg (gh.mp e));have yh:=rP.length;obtain⟨ps1,hP1⟩:=((sF.same s0).same s1).at_;have yi:TbA t H2:=by
    obtain⟨ps,h1,h2,h3⟩:=(sF.same s0).same s1;exact⟨ps,s2 _ _ (z7 h1 fun e=>by rw [e,rO] at h1; cases h1),h2,h3.imp id fun ⟨c,z1,z2⟩=>⟨c,z1,s2 _ _ (z7 z2 fun e=>by rw [e,rO] at z2; cases z2)⟩⟩
   have hct:zav H2 c tt p k pl:=by
    have h1:=(s0.trans s1) _ _ hc.1;have h2:=(s0.trans s1) _ _ hc.2;exact⟨s2 _ _ (z7 h1 fun e=>by rw [e,rO] at h1; cases h1),s2 _ _ (z7 h2 fun e=>by rw [e,rO] at h2; cases h2)⟩
   refine⟨_,rfl,D,l6,rfl,rfl,wO,fun e=>B' (by rw [e] at yh; exact bh.mp yh.symm),(fun kv hkv=>?_),yi,fun b key l' xs H3 hm t5 Ca hb s3 Cb=>?_⟩
   ·obtain⟨j,hj⟩:=cK hkv;obtain⟨g,_,_,l',rs,z2,z3,_⟩:=Paired.get rP hj;exact⟨l',_,z2,z3⟩
   obtain⟨j0,pq⟩:=cK hm;obtain⟨⟨high,lows⟩,hg0,z1,l2,Aa,z2,z3,z4⟩:=Paired.get rP pq;have z1:key=high.map bG:=z1;have z2:V.ref l' = .ref l2:=z2;cases z2;subst z1;rw [t5] at z3;injection z3 with z3
   injection z3 with z3
   subst z3;have wR:=aO hg0;have vz:H3 b=some (.tup (high.map V.int)):=by rw [hb,br]; rfl
   have hlin:lows.length≤p9.length:=by have:=ze9 k _ _ rfl _ wR; rw [ae] at this; exact this
   have hzk6:p9.length≤65536:=by rw [← qL,ae]; exact rC
   have z4l:Aa.length=lows.length:=z4.length;have uR:∀ g∈Gof k (p9.map (van p)),g.2.length≤lows.length:=fun g hg=>by
    obtain⟨j,hj⟩:=cK hg;obtain⟨kv,e1,_,l3,rs3,e2,e3,e4⟩:=zch rP hj;have:=Ca kv (aO e1) l3 _ e2 e3;rw [ae,ae] at this;have e5:=e4.length;show g.2.length≤lows.length;lia
   obtain⟨ps2,hP2⟩:=yi.at_;have s23:zI (hide H2 t.tab) H3:=fun b o e=>by
    by_cases hb:b=t.tab
    ·rw [hb] at e; unfold hide at e; rw [if_pos rfl] at e; cases e
    ·unfold hide at e; rw [if_neg hb] at e; exact s3 b hb o e
   have kp:∀ b o,H2 b=some o→(∀ ps,o≠.tbl ps)→H3 b=some o:=fun b o e hn=>s3 b (fun z=>by rw [z,hP2] at e; exact hn ps2 (aX e).symm) o e
   have h3D:=kp D _ wO (fun _ z=>by cases z);have Ab:=kp l' _ t5 (fun _ z=>by cases z);have tY:=kp tt _ hct.2 (fun _ z=>by cases z);have h3lw:zax H3 l6 (Gof k (p9.map (van p))):=rP.sub fun b xs e=>kp b _ e (fun _ z=>by cases z)
   have z43:Paired (fun r low=>H3 r=some (.lst (low.map V.int))) Aa lows:=fF (fun _ _ y=>kp _ _ y (fun _ z=>by cases z)) z4;have ug:(l6.map (·.1)).Nodup:=by rw [zcx rP]; exact zeC B6
   have vO:=zmP ug hm;have yj:∀ x∈lows,x.length=k:=fun x hx=>by
    obtain⟨y,h1,h2,_⟩:=zbD _ _ rfl _ wR x hx;obtain⟨z,hz,rfl⟩:=aG.mp h1;have:=(B5 z hz).2;rw [h2,aS,zbZ];lia
   have hhl:high.length≤17:=by
    cases hlz:lows with
    | nil =>
     exfalso;obtain⟨z,hz⟩:=g9 _ yg;have hsz:=zhL k _ _ rfl (van p z) (bx hz);obtain⟨g,h1,h2⟩:=hsz;have:=uR g h1;rw [hlz,c9] at this;have h3:=List.length_pos_of_mem h2;lia
    | cons x xs =>
     obtain⟨y,h1,_,h2⟩:=zbD _ _ rfl _ wR x (by rw [hlz]; exact ao);obtain⟨z,hz,rfl⟩:=aG.mp h1;have h2:high=(van p z).drop k:=h2;have:=(B5 z hz).2;rw [h2,cF,zbZ];lia
   refine⟨_,rfl,tt,rfl,⟨_,mj.of tY⟩,zai (n:=pl.length) (fun i ys H'=>ys=((rowOf p k high pl).take i).map V.int∧zI H3 H') ⟨rfl,fun _ _ e=>e⟩ ?_ ?_ ?_ ?_⟩
   ·rintro i ys H4 hi ⟨_,s4⟩;exact⟨_,.int pl[i],mj.of (s4 _ _ tY),by rw [az,aE hi]; rfl⟩
   ·rintro ys H4 ⟨_,s4⟩;exact⟨_,mj.of (s4 _ _ tY),by rw [ae]; exact ah _⟩
   ·rintro zS zT zE i y ys H4 H5 hi ⟨rfl,s4⟩ ⟨rfl,hy⟩;obtain⟨x,rfl,hx⟩:=zae (hy _ (mj.of (s4 _ _ tY)));obtain⟨x0,x1⟩:=nu x (aO hx);refine gY ⟨_,rfl,by show 1≤sizeLine; lia,fun z0 hz0=>⟨_,rfl,z0,_,[.int 0],rfl,rfl,zb,#[O],#[O],by show 1*_≤sizeLine; lia,fun z1 tR=>?_⟩⟩;rw [zjJ,bC];have w0:=ze (o:=.lst [.int 0]) hz0;have w1:=ze (o:=.lst ((ap k 0).map V.int)) tR;have h6:l7 (l7 H5 z0 (.lst [.int 0])) z1 (.lst ((ap k 0).map V.int)) z1=some (.lst ((ap k 0).map V.int)):=zb;have Cc:=w0.trans w1;generalize l7 (l7 H5 z0 (.lst [.int 0])) z1 (.lst ((ap k 0).map V.int))=H6 at h6 Cc ⊢;refine⟨_,rfl,b,_,rfl,.inr (mj.of ((s4.trans Cc) _ _ vz)),fun z2 sM=>?_⟩;have w2:=ze (o:=.lst (high.map V.int)) sM;refine⟨z1,z2,_,_,rfl,rfl,w2 _ _ h6,zb,by rw [ae,ae,dA]; lia,fun z3 hz3=>?_⟩;have w3:=ze (o:=.lst ((ap k 0).map V.int++high.map V.int)) hz3;refine⟨_,rfl,p,x,z3,ap k 0++high,rfl,.inl (l8.of (by rw [aN]; exact zb)),#[O],#[O],#[O],#[O],?_⟩;refine⟨by rw [ae,aS]; lia,?_,s4.trans (Cc.trans (w2.trans w3))⟩;have pM:(rowOf p k high pl)[i]? = some (zm p x (ap k 0++high)):=by unfold rowOf; rw [az,hx]; rfl
    rw [take_snoc pM,aN];rfl
   ·rintro ys H4 r ⟨rfl,s4⟩ hr4;rw [aW (by unfold rowOf; rw [ae]; exact ah _)];have w5:=ze (o:=.lst ((rowOf p k high pl).map V.int)) hr4;have h5r:l7 H4 r (.lst ((rowOf p k high pl).map V.int)) r=some (.lst ((rowOf p k high pl).map V.int)):=zb;have uv:=s4.trans w5;generalize l7 H4 r (.lst ((rowOf p k high pl).map V.int))=H5 at h5r uv ⊢;have h5b:H5 b=some (.tup ((high.map bG:List Key).map kV)):=uv _ _ hb;refine⟨_,rfl,_,rfl,D,_,rfl,(by rw [← vO]; exact ziu.t (uv _ _ h3D) h5b),l',rfl,⟨_,l8.of (uv _ _ Ab)⟩,zai (n:=Aa.length) (fun i ys H'=>zI H5 H'∧∃ ps:List (Addr×List Int),ys=ps.map (fun q=>V.ref q.1)∧ps.map (·.2)=(lows.take i).map (ngP p)∧zd5 H' k p ps) ⟨fun _ _ e=>e,[],rfl,rfl,fun _ z=>by cases z⟩ ?_ ?_ ?_ ?_⟩
    ·rintro i ys H6 hi ⟨s6,_⟩;exact⟨_,.ref Aa[i],l8.of ((uv.trans s6) _ _ Ab),by rw [az,aE hi]; rfl⟩
    ·rintro ys H6 ⟨s6,_⟩;exact⟨_,l8.of ((uv.trans s6) _ _ Ab),by rw [ae]; exact ah _⟩
    ·rintro zS zT zE i y ys H6 H7 hi ⟨s6,ps,rfl,m8,hT⟩ ⟨rfl,hy⟩;obtain⟨rb,rfl,Cd⟩:=zby (hy _ (l8.of ((uv.trans s6) _ _ Ab)));obtain⟨low,oC,pv⟩:=Paired.get z43 Cd;have uw:=(uv.trans s6) _ _ pv;have AO:=yj low (aO oC);have hpsl:ps.length=i:=by
      have:=congrArg fB m8;rw [ae,ae,aS] at this;lia
     refine gY ⟨_,rfl,rb,rfl,⟨_,l8.of uw⟩,zai (n:=low.length) (fun j zs H'=>zs=((ngP p low).take j).map V.int∧zI H7 H') ⟨rfl,fun _ _ e=>e⟩ ?_ ?_ ?_ ?_⟩
     ·rintro j zs H8 hj ⟨_,s8⟩;exact⟨_,.int low[j],l8.of (s8 _ _ uw),by rw [az,aE hj]; rfl⟩
     ·rintro zs H8 ⟨_,s8⟩;exact⟨_,l8.of (s8 _ _ uw),by rw [ae]; exact ah _⟩
     ·rintro zS zT zE j y zs H8 H9 hj ⟨rfl,s8⟩ ⟨rfl,hy⟩;obtain⟨nb,rfl,hnb⟩:=zae (hy _ (l8.of (s8 _ _ uw)));refine gY ⟨_,rfl,_,rfl,_,rfl,_,_,rfl,rfl,#[O],?_⟩;refine⟨by rw [ae,aS]; lia,?_,s8⟩;have pM:(ngP p low)[j]? = some (-nb % p):=by unfold ngP; rw [az,hnb]; rfl
      rw [take_snoc pM,aN];rfl
     ·rintro zs H8 zl ⟨rfl,s8⟩ xQ;rw [aW (by unfold ngP; rw [ae]; exact ah _)];refine⟨zl,_,rfl,.inl ⟨l8.of zb,fun tp vQ=>?_⟩⟩;have w9:=(ze (o:=.lst ((ngP p low).map V.int)) xQ).trans (ze (o:=.tup ((ngP p low).map V.int)) vQ);refine⟨by rw [ae]; lia,s6.trans (s8.trans w9),ps++[(tp,ngP p low)],by rw [aN]; rfl,?_,fun q hq=>?_⟩
      ·rw [aN,m8,take_snoc oC,aN];rfl
      ·rcases (aR.mp hq) with hq | hq
       ·obtain⟨h1,h2⟩:=hT q hq;exact⟨(s8.trans w9) _ _ h1,h2⟩
       ·(rw [aA.mp hq])
        exact⟨zb,(zgJ #[O] AO).1,(zgJ #[O] AO).2⟩
    ·rintro ys H6 pa ⟨s6,ps,rfl,m8,hT⟩ hpa;rw [z4l,dj] at m8;have w7:=ze (o:=.lst (ps.map (fun q=>V.ref q.1))) hpa;have h7p:l7 H6 pa (.lst (ps.map (fun q=>V.ref q.1))) pa=some (.lst (ps.map (fun q=>V.ref q.1))):=zb;have Ce:zd5 (l7 H6 pa (.lst (ps.map (fun q=>V.ref q.1)))) k p ps:=fun q hq=>⟨w7 _ _ (hT q hq).1,(hT q hq).2⟩
     have Cf:=s6.trans w7;generalize l7 H6 pa (.lst (ps.map (fun q=>V.ref q.1)))=H7 at h7p Ce Cf ⊢;refine⟨_,rfl,_,rfl,pa,k,p,ps,rfl,l8.of h7p,Ce,k1,#[O],fun sl mT Ci qG vN=>⟨by show 2≤sizeLine; lia,fun T9 Cj=>?_⟩⟩;have w8:=ze (o:=.lst (mT.map (fun q=>V.ref q.1))) Ci;have w9:=ze (o:=.tup [.ref r,.ref sl]) Cj;have vW:=w9 _ _ (zb (H:=H7) (a:=sl) (o:=.lst (mT.map (fun q=>V.ref q.1))));have h9T:l7 (l7 H7 sl (.lst (mT.map (fun q=>V.ref q.1)))) T9 (.tup [.ref r,.ref sl]) T9=some (.tup [.ref r,.ref sl]):=zb;have Ck:=(uv.trans Cf).trans w8;have Cm:=Ck.trans w9;have qb:=Cj;generalize l7 (l7 H7 sl (.lst (mT.map (fun q=>V.ref q.1)))) T9 (.tup [.ref r,.ref sl])=H9 at w9 vW h9T Cm ⊢;have wU:TbA t H3:=Cb;have hH2:∀ b o,b≠t.tab→H b=some o→H3 b=some o:=fun b o hb e=>s3 b hb o (s2 _ _ (z7 ((s0.trans s1) _ _ e) fun z=>by rw [z,hD] at e; cases e))
     have eq9:mT.map (fun q=>V.ref q.1)=(mT.map (·.1)).map V.ref:=by rw [br]; rfl
     rw [eq9] at vW;refine q T9 H9 (fun b o e=>?_) (wU.same Cm) ⟨r,sl,mT.map (·.1),mT.map (·.2),high,lows,?_,h9T,(Cf.trans (w8.trans w9)) _ _ h5r,vW,zci (k:=k) (B:=p) fun x hx=>?_,?_,by rw [qL]; exact wR,by rw [qL]; exact uR,by rw [bF]; exact vN⟩;rotate_left
     ·cases e:H T9 with
      | none=>rfl
      | some o =>
       exfalso;by_cases hb:T9=t.tab
       ·obtain⟨ps3,wV⟩:=(wU.same Ck).at_;rw [hb,wV] at qb;cases qb
       ·rw [Ck _ _ (hH2 _ _ hb e)] at qb;cases qb
     ·obtain⟨h1,h2⟩:=Ce x (qG.mem_iff.mp hx);exact⟨(w8.trans w9) _ _ h1,h2⟩
     ·rw [← m8];exact qG.map _
     ·unfold hide at e;by_cases hb:b=t.tab
      ·rw [if_pos hb] at e; cases e
      ·rw [if_neg hb] at e;exact Cm _ _ (hH2 b o hb e)
end
section
variable {P:Program} {w:World} {K:ag} {mg:Str→Option Value} {base:Heap} {t:Adr}
def zgZ:List Str:=["few","curve","paper","place","number","heard","not heard","nothing","text","row"]
def zi4 (t:Adr) (K:ag):Sp:=fun vs H Q _=>∃ (e C:Addr) (b0 b1 b2 b3 b4 b5 b6 b7 b8 b9:Bool) (j:Nat) (x:Str),vs = [.ref e]∧H e=some (zjL e C)∧KW K t C b0 b1 b2 b3 b4 b5 b6 b7 b8 b9∧[b0,b1,b2,b3,b4,b5,b6,b7,b8,b9].count true=1∧[b0,b1,b2,b3,b4,b5,b6,b7,b8,b9][j]? = some true∧(∀ m,m < j→[b0,b1,b2,b3,b4,b5,b6,b7,b8,b9][m]? = some false)∧j < 10∧zgZ[j]? = some x∧∀ H',zI H H'→Q (.str x) H'
theorem zbs:FnScope ["e","kinds","words"] ["e"] (zg zcG):=#[S]
theorem zi5 {fd:FuncData} (T:Txt K mg base t) (F:Fun K "_law_word" "_law_word" zcG t.l_word fd):FnOkH P w K mg base 1 t.l_word fd ["e"] (zi4 t K):=by
 refine F.okH zbs (fun vs H Q E h=>?_) (fun mq A outer s H vs Q E hr h=>?_)
 ·obtain⟨e,C,b0,b1,b2,b3,b4,b5,b6,b7,b8,b9,j,x,rfl,_⟩:=h;rfl
 ·obtain⟨e,C,b0,b1,b2,b3,b4,b5,b6,b7,b8,b9,j,x,rfl,he,kw,hc,hj,hm,hj10,hx,q⟩:=h;refine zbO ?_; intro zX;refine⟨_,#[zd,#[zr,1,zbs.nd,#[A],#[z5,#[za,#[zn,#[zJ],T.isinstance_,bv,#[za,#[pvx,0],#[ya,#[zaJ,(.ref t.TooFew),T.x_TooFew]]]],by exact #[za,#[zn,#[zJ],T.isinstance_,bv,#[za,#[pvx,0],#[ya,#[zaJ,(.ref t.NoCurve),T.x_NoCurve]]]],#[za,#[zn,#[zJ],T.isinstance_,bv,#[za,#[pvx,0],#[ya,#[zaJ,(.ref t.NoPaper),T.x_NoPaper]]]],#[ya,#[zn,#[zJ],T.isinstance_,bv,#[za,#[pvx,0],#[ya,#[zaJ,(.ref t.NoPlace),T.x_NoPlace]]]]]]]]]],#[zd,#[zr,1,zbs.nd,#[A],#[zh,#[zbN],#[pvx,1],#[z5,#[za,#[zn,#[zJ],T.isinstance_,bv,#[za,#[pvx,0],#[ya,#[zaJ,(.ref t.NoNumber),T.x_NoNumber]]]],#[za,#[zn,#[zJ],T.isinstance_,bv,#[za,#[pvx,0],#[ya,#[zaJ,(.ref t.Heard),T.x_Heard]]]],#[ya,#[zn,#[zJ],T.isinstance_,bv,#[za,#[pvx,0],#[ya,#[zaJ,(.ref t.NotHeard),T.x_NotHeard]]]]]]]]]],#[zd,#[zr,1,zbs.nd,#[A],#[zh,#[zbN],#[pvx,1],#[z5,#[za,#[zn,#[zJ],T.isinstance_,bv,#[za,#[pvx,0],#[ya,#[zaJ,(.ref t.NothingLeft),T.x_NothingLeft]]]],#[za,#[zn,#[zJ],T.isinstance_,bv,#[za,#[pvx,0],#[ya,#[zaJ,(.ref t.NoText),T.x_NoText]]]],#[ya,#[zn,#[zJ],T.isinstance_,bv,#[za,#[pvx,0],#[ya,#[zaJ,(.ref t.NoRow),T.x_NoRow]]]]]]]]]],#[zd,#[zbi,(@PW.pt _ _ _ #[zcV,#[zZ,#[zfo],#[zfv,dh,PySem.F.slot_list_count,PySem.F.type_list_count,(@zis _),#[pvx,1],#[ya,#[zbH]]],#[zf],(zah _)],#[zcJ,#[zcK,#[zdl,#[zn,#[zJ],T.isinstance_,bv,#[za,#[pvx,0],#[ya,#[zbV,(.ty "ValueError"),T.ValueError_,lB]]]]]]]]),#[zp,#[zP,#[zdk]]],#[zal]],(by exact (@zjS _ 2 _ _ _ _ _ _ _ ["few","curve","paper","place","number","heard","not heard","nothing","text","row"] #[N] zbs.nd rfl #[A] (by first | exact .inl rfl | exact .inr rfl) (by exact #[zp,#[zP,#[z8,#[zV],#[pvx,2],#[zfv,dh,PySem.F.slot_list_index,PySem.F.type_list_index,(@zit _),#[pvx,1],#[ya,#[zbH]]]]]])))]]]],?_⟩;refine znf ?_; intro x5 x6 wN rL qI;have qm:=bL;have xc:=kw.xc;refine⟨_,rfl,e,C,_,_,rfl,he,xc,.inl ⟨_,rfl,kw.i0⟩,_,rfl,e,C,_,_,rfl,he,xc,.inl ⟨_,rfl,kw.i1⟩,_,rfl,e,C,_,_,rfl,he,xc,.inl ⟨_,rfl,kw.i2⟩,_,rfl,e,C,_,_,rfl,he,xc,.inl ⟨_,rfl,kw.i3⟩,by show 4≤sizeLine; lia,fun l1 ue=>?_⟩;have s1:=ze (o:=.lst [.bl b0,.bl b1,.bl b2,.bl b3]) ue;have Ac:=s1 _ _ he;refine⟨_,rfl,_,rfl,e,C,_,_,rfl,Ac,xc,.inl ⟨_,rfl,kw.i4⟩,_,rfl,e,C,_,_,rfl,Ac,xc,.inl ⟨_,rfl,kw.i5⟩,_,rfl,e,C,_,_,rfl,Ac,xc,.inl ⟨_,rfl,kw.i6⟩,by show 3≤sizeLine; lia,fun l2 qT=>?_⟩;have s2:=ze (o:=.lst [.bl b4,.bl b5,.bl b6]) qT;refine⟨l1,l2,_,_,rfl,rfl,s2 _ _ zb,zb,by show 7≤sizeLine; lia,fun l3 hl3=>?_⟩;have s3:=ze (o:=.lst ([V.bl b0,.bl b1,.bl b2,.bl b3]++[.bl b4,.bl b5,.bl b6])) hl3;have Ad:=s3 _ _ (s2 _ _ Ac);refine⟨_,rfl,_,rfl,e,C,_,_,rfl,Ad,xc,.inl ⟨_,rfl,kw.i7⟩,_,rfl,e,C,_,_,rfl,Ad,xc,.inl ⟨_,rfl,kw.i8⟩,_,rfl,e,C,_,_,rfl,Ad,xc,.inl ⟨_,rfl,kw.i9⟩,by show 3≤sizeLine; lia,fun l4 vU=>?_⟩;have s4:=ze (o:=.lst [.bl b7,.bl b8,.bl b9]) vU;refine⟨l3,l4,_,_,rfl,rfl,s4 _ _ zb,zb,by show 10≤sizeLine; lia,fun l5 hl5=>?_⟩;have s5:=ze (o:=.lst ([V.bl b0,.bl b1,.bl b2,.bl b3]++[.bl b4,.bl b5,.bl b6]++[.bl b7,.bl b8,.bl b9])) hl5;have he5:=s5 _ _ (s4 _ _ Ad);have sA:=s1.trans (s2.trans (s3.trans (s4.trans s5)));have h5:l7 (l7 (l7 (l7 (l7 H l1 (.lst [.bl b0,.bl b1,.bl b2,.bl b3])) l2 (.lst [.bl b4,.bl b5,.bl b6])) l3 (.lst ([V.bl b0,.bl b1,.bl b2,.bl b3]++[.bl b4,.bl b5,.bl b6]))) l4 (.lst [.bl b7,.bl b8,.bl b9])) l5 (.lst ([V.bl b0,.bl b1,.bl b2,.bl b3]++[.bl b4,.bl b5,.bl b6]++[.bl b7,.bl b8,.bl b9])) l5=some (.lst ([b0,b1,b2,b3,b4,b5,b6,b7,b8,b9].map V.bl)):=zb;generalize l7 (l7 (l7 (l7 (l7 H l1 (.lst [.bl b0,.bl b1,.bl b2,.bl b3])) l2 (.lst [.bl b4,.bl b5,.bl b6])) l3 (.lst ([V.bl b0,.bl b1,.bl b2,.bl b3]++[.bl b4,.bl b5,.bl b6]))) l4 (.lst [.bl b7,.bl b8,.bl b9])) l5 (.lst ([V.bl b0,.bl b1,.bl b2,.bl b3]++[.bl b4,.bl b5,.bl b6]++[.bl b7,.bl b8,.bl b9]))=H5 at he5 sA h5 ⊢;refine⟨_,rfl,.inl ⟨rfl,_,l8.of h5⟩,l5,_,true,rfl,rfl,h5,?_⟩;rw [hc];refine⟨rfl,_,rfl,?_⟩;refine zdp ?_;refine⟨_,rfl,e,C,_,_,rfl,he5,xc,.inr ⟨_,rfl,kw.iv⟩,_,rfl,?_⟩;refine zdp ?_;refine⟨by show 10≤sizeLine; lia,fun lw rP=>?_⟩;have s6:=ze (o:=.lst (zgZ.map V.str)) rP;refine⟨_,rfl,_,rfl,.inl ⟨rfl,_,l8.of (s6 _ _ h5)⟩,l5,_,true,j,rfl,rfl,s6 _ _ h5,hj,hm,#[O],?_⟩;refine⟨lw,_,_,.str x,rfl,rfl,l8.of zb,?_,q _ (sA.trans s6)⟩;exact za8 (xs:=zgZ.map V.str) (by rw [az,hx]; rfl)
def zlI (K:ag):Sp:=fun vs H Q _=>∃ (c tt:Addr) (p:Int) (k m:Nat) (pl:List Int),vs = [.ref c,.int (m:Int)]∧zav H c tt p k pl∧pl.length≤16∧0 < p∧p≤97∧k≤m∧m≤pl.length∧∀ H',zI H H'→Q (.int (cd (bn pl.length m) (p.toNat ^ (m - k)):Nat)) H'
theorem zaj:FnScope ["code","t","p","k","places","row","step","found","by"] ["code","t"] (zg zcH):=#[S]
theorem zkK {fd:FuncData} (T:Txt K mg base t) (F:Fun K "_law_due" "_law_due" zcH t.l_due fd):FnOk P w K mg base CX0 1 t.l_due fd ["code","t"] (zlI K):=by
 refine F.ok zaj (fun vs H Q E h=>?_) (fun mq A outer s H vs Q E hr h=>?_)
 ·obtain⟨c,tt,p,k,m,pl,rfl,_⟩:=h;rfl
 ·obtain⟨c,tt,p,k,m,pl,rfl,hc,hn,p0,p1,km,mn,q⟩:=h;refine zbO ?_; intro zX;refine⟨_,#[zd,#[zcL,#[pvx,0],#[zcc,#[zy,#[zj,2,zaj.nd,#[A]],#[zy,#[zj,3,zaj.nd,#[A]],#[zy,#[zj,4,zaj.nd,#[A]],#[zaK]]]]]],#[zd,#[zr,5,zaj.nd,#[A],#[z5,#[ya,#[zf]]]],#[zd,#[zau,ce,#[zag,T.range_,#[ya,#[zn,#[zv],T.len_,cm,#[ya,#[pvx,4]]]]],#[zj,6,zaj.nd,#[A]],#[zp,#[za3,5,zaj.nd,#[A],(CompSc.of (N':=["one","other"]) (ix:=[none,none]) (zg zcH) ["code","t","p","k","places","row","step","found","by"] rfl rfl #[N]),#[zgt,#[zbk,#[zbk,#[zeR]]]],#[zhh,T.zip_,#[za,#[zh,#[zbN],#[z5,#[ya,#[zf]]],#[pvx,5]],#[ya,#[zh,#[zbN],#[pvx,5],#[z5,#[ya,#[zf]]]]]]],(fun _ _ _ _=>#[zc8,(K),2,#[zy,#[zj,0,(show (["one","other"]:List Str).Nodup from #[N]),#[A]],#[zy,#[zj,1,(show (["one","other"]:List Str).Nodup from #[N]),#[A]],#[zaK]]]]),(fun _ _ _ _=>#[zaf]),(fun _ _ _ _=>#[zh,#[zK],#[pvx,0],#[pvx,1]])]]],#[zd,#[zr,7,zaj.nd,#[A],#[z8,#[zV],#[pvx,5],#[pvx,1]]],#[zd,#[zr,8,zaj.nd,#[A],#[zf]],#[zd,#[zau,ce,#[zag,T.range_,#[ya,#[zh,#[zbd],#[pvx,1],#[pvx,3]]]],#[zj,6,zaj.nd,#[A]],#[zp,#[zr,8,zaj.nd,#[A],#[zh,#[zad],#[pvx,8],#[pvx,2]]]]],#[zp,#[zP,#[zh,#[zK],#[zh,zkp,#[pvx,7],#[pvx,8]],#[zaF,(@zh1 _),T.int_,boot_int,#[ya,(@zkR _ _ _ _ _ _ _ _ #[zlO] #[zh,#[zW],#[pvx,7],#[pvx,8]] #[zf] (zah _))]]]]]]]]]]],?_⟩;refine zmk ?_; intro BW x5 x6 wN rL qI;have qm:=bL;refine⟨_,rfl,c,_,rfl,mj.of hc.1,rfl,_,_,rfl,_,_,rfl,_,_,rfl,rfl,?_⟩;refine⟨by show 1≤sizeLine; lia,fun r0 AX=>?_⟩;have u0:=ze (o:=.lst ((zaA 0).map V.int)) AX;refine⟨_,rfl,tt,_,rfl,.inr (mj.of (u0 _ _ hc.2)),_,rfl,by rw [ae]; lia,by rw [ae]; lia,?_⟩;rw [ae,bC];refine zar (lo:=0) (n:=pl.length) (fun i σ H'=>∃ (r:Addr) (e6:Option V),σ = [some (.ref c),some (.int (m:Int)),some (.int p),some (.int (k:Int)),some (.ref tt),some (.ref r),e6,none,none]∧zI H H'∧H' r=some (.lst ((zaA i).map V.int))) ⟨r0,none,rfl,u0,zb⟩ ?_ ?_
  ·rintro zD zT i σ H1 hi ⟨r,e6,rfl,s1,yk⟩;have wQ:=za5 i;refine⟨by show 1≤sizeLine; lia,fun z hz=>⟨_,rfl,z,r,[.int 0],_,rfl,rfl,zb,by rw [zi (zq yk hz)]; exact yk,by rw [ae]; show 1+(zaA i).length≤sizeLine; lia,fun ra vS=>?_⟩⟩;have v1:=(ze (o:=.lst [.int 0]) hz).trans (ze (o:=.lst ([.int 0]++(zaA i).map V.int)) vS);have hA:l7 (l7 H1 z (.lst [.int 0])) ra (.lst ([.int 0]++(zaA i).map V.int)) ra=some (.lst ((0 :: zaA i).map V.int)):=zb;generalize l7 (l7 H1 z (.lst [.int 0])) ra (.lst ([.int 0]++(zaA i).map V.int))=H2 at v1 hA ⊢;have h2r:=v1 _ _ yk;refine⟨_,rfl,by show 1≤sizeLine; lia,fun z2 sM=>⟨r,z2,_,[.int 0],rfl,rfl,by rw [zi (zq h2r sM)]; exact h2r,zb,by rw [ae]; show (zaA i).length+1≤sizeLine; lia,fun ke yX=>?_⟩⟩;have v2:=(ze (o:=.lst [.int 0]) sM).trans (ze (o:=.lst ((zaA i).map V.int++[.int 0])) yX);have hB:l7 (l7 H2 z2 (.lst [.int 0])) ke (.lst ((zaA i).map V.int++[.int 0])) ke=some (.lst ((zaA i++[0]).map V.int)):=by rw [zb,aN]; rfl
   have yl:=v2 _ _ hA;generalize l7 (l7 H2 z2 (.lst [.int 0])) ke (.lst ((zaA i).map V.int++[.int 0]))=H3 at v2 hB yl ⊢;have s3:=s1.trans (v1.trans v2);refine⟨ra,ke,_,_,rfl,l8.of yl,l8.of hB,zai (n:=i+2) (fun j ys H'=>ys=((zaA (i+1)).take j).map V.int∧zI H3 H') ⟨#[M],fun _ _ e=>e⟩ ?_ ?_ ?_ ?_⟩
   ·rintro j ys H4 hj ⟨_,s4⟩;obtain⟨x,hx⟩:∃ x,(0 :: zaA i)[j]? = some x:=⟨(0 :: zaA i)[j]'(by rw [bq,wQ]; exact hj),#[M]⟩;obtain⟨y,hy⟩:∃ y,(zaA i++[0])[j]? = some y:=⟨(zaA i++[0])[j]'(by rw [aF,wQ]; exact hj),#[M]⟩;exact⟨_,_,.int x,.int y,l8.of (s4 _ _ yl),l8.of (s4 _ _ hB),by rw [az,hx]; rfl,by rw [az,hy]; rfl⟩
   ·rintro ys H4 ⟨_,s4⟩;exact⟨_,_,l8.of (s4 _ _ yl),l8.of (s4 _ _ hB),.inl (by simp [wQ])⟩
   ·rintro zS zT zE j x ys H4 H5 hj ⟨rfl,s4⟩ ⟨T,u,v,hT,rfl,rfl,hu,hv⟩;obtain⟨x,rfl,hx⟩:=zae (hu _ (l8.of (s4 _ _ yl)));obtain⟨y,rfl,hy⟩:=zae (hv _ (l8.of (s4 _ _ hB)));refine gY2 (mj.of zb) ?_;refine⟨_,rfl,_,rfl,_,_,rfl,rfl,zaG ?_,?_,s4.trans (ze hT)⟩
    ·rw [ae];exact bg (gf _ _) #[O]
    ·have pM:(zaA (i+1))[j]? = some (x+y):=by
      rw [← ziN,fR,hx,hy]
     rw [take_snoc pM,aN];rfl
   ·rintro ys H4 D ⟨rfl,s4⟩ hD;rw [aW (by rw [za5]; exact ah _)];exact⟨D,_,rfl,(s3.trans s4).trans (ze hD),zb⟩
  ·rintro σ H1 ⟨r,e6,rfl,s1,yk⟩;have hbs:=zdR pl.length #[O] m #[O];refine⟨_,rfl,_,rfl,r,_,_,_,rfl,rfl,l8.of yk,za8 (by rw [az,zcA #[O]]; rfl),?_⟩;refine⟨_,rfl,_,rfl,_,_,rfl,rfl,_,rfl,#[O],#[O],?_⟩;rw [show ((m:Int) - (k:Int)).toNat=m - k by lia];refine zar (lo:=0) (n:=m - k) (fun i σ H'=>H'=H1∧∃ e6:Option V,σ = [some (.ref c),some (.int (m:Int)),some (.int p),some (.int (k:Int)),some (.ref tt),some (.ref r),e6,some (.int (bn pl.length m:Int)),some (.int (p.toNat ^ i:Nat))]) ⟨rfl,e6,rfl⟩ ?_ ?_
   ·rintro zD zT i σ H2 hi ⟨rfl,e6,rfl⟩;refine⟨_,rfl,_,rfl,_,_,rfl,rfl,.inr ⟨#[O],#[O]⟩,rfl,some (.int (0+(i:Int))),?_⟩;show [some (V.ref c),some (.int (m:Int)),some (.int p),some (.int (k:Int)),some (.ref tt),some (.ref r),some (.int (0+(i:Int))),some (.int (bn pl.length m:Int)),some (V.int ((p.toNat ^ i:Nat)*p))]=_;rw [zlA p0]
   ·rintro σ H2 ⟨rfl,e6,rfl⟩;have hP:=zgN p0 (m - k);have hP2:=znp p0 p1 (d:=m - k) #[O];have Cn:(2:Int) ^ 200=((2 ^ 200:Nat):Int):=by rw [k9]; rfl
    refine⟨_,rfl,_,rfl,_,_,rfl,rfl,⟨#[O],by rw [Cn]; lia⟩,?_⟩;refine⟨_,rfl,_,rfl,_,_,rfl,rfl,#[O],_,_,rfl,rfl,.inr ⟨_,rfl,_,_,rfl,rfl,?_⟩⟩;show Q (V.int ((bn pl.length m:Int) / ((p.toNat ^ (m - k):Nat):Int)+(if decide ((0:Int) < (bn pl.length m:Int) % ((p.toNat ^ (m - k):Nat):Int))=true then 1 else 0))) _;rw [zlz];exact q _ s1
def zg0 (p T:Int) (k way:Nat) (pl:List Int) (H H':Hp) (v:V):Prop:=((T < k∨(pl.length:Int) < T)∧v = .str "few")∨∃ m:Nat,T=m∧k≤m∧m≤pl.length∧((way=0∧v = .int (cd (bn pl.length m) (p.toNat ^ (m - k)):Nat))∨(way=1∧∃ T9,v = .ref T9∧zkI p k m pl H H' T9))
def zi6 (t:Adr) (K:ag):Sp:=fun vs H Q _=>∃ (c tt:Addr) (p T:Int) (k way:Nat) (pl:List Int),vs = [.int (way:Int),.ref c,.int T]∧way < 2∧zav H c tt p k pl∧pl.length≤16∧p∈zw∧pl.Nodup∧(∀ x∈pl,0≤x∧x < p)∧1≤k∧TbA t H ∧
 ∀ v H',zI (hide H t.tab) H'→TbA t H'→zg0 p T k way pl H H' v→Q v H'
theorem zbt:FnScope ["way","code","t","found","e"] ["way","code","t"] (zg zcI):=#[S]
theorem zi7 {fd:FuncData} (T:Txt K mg base t) (F:Fun K "_law_told" "_law_told" zcI t.l_told fd):FnOk P w K mg base CX0 7 t.l_told fd ["way","code","t"] (zi6 t K):=by
 obtain⟨rQ,qc,oH⟩:=T.f_due_of;have ti:=zi3 (P:=P) (w:=w) (base:=base) T qc;obtain⟨pA,oe,nh⟩:=T.f_many_near;have qd:=zfh (P:=P) (w:=w) (base:=base) T oe;obtain⟨rR,qe,oJ⟩:=T.f_l_word;have tj:=zi5 (P:=P) (w:=w) (base:=base) T qe;refine F.ok zbt (fun vs H Q E h=>?_) (fun mq A outer s H vs Q E hr h=>?_)
 ·obtain⟨c,tt,p,T',k,way,pl,rfl,_⟩:=h;rfl
 ·obtain⟨c,tt,p,T',k,way,pl,rfl,hw,hc,hn,hp,pP,nu,k1,sF,q⟩:=h;refine zbO ?_; intro zX;refine⟨_,#[zd,#[zr,3,zbt.nd,#[A],#[zja]],#[zd,(@zmz _ _ _ _ (4) _ _ _ _ _ _ _ _ rfl rfl rfl rfl T.x_SlipError T.sb zbt.nd rfl rfl (fun xe lX σ E hp=>(@zgD _ _ _ _ _ (@ziq _ _ _ _ _ _ _ (3) _ zbt.nd rfl #[A] (zf8 #[zZ,#[zjg],#[pvx,0],#[zf],(zah _)] #[zdz,ti,(hr.mono #[D]),T.m_due_of,qc.kp,oH,hp,#[za,#[pvx,1],#[ya,#[pvx,2]]]] #[zdz,qd,(hr.mono #[D]),T.m_many_near,oe.kp,nh,hp,#[za,#[pvx,1],#[ya,#[pvx,2]]]]) (by rfl) (by trivial)))) (fun e=>zp #[zr,3,zbt.nd,#[A],(@zjR _ _ _ _ _ _ _ _ _ _ _ _ tj (RoomH.of (hr.mono #[D])) rfl T.m_l_word qe.kp oJ #[ya,#[pvx,4]] #[D] (by rfl) (by rfl))]) #[D]),#[zp,#[zP,#[pvx,3]]]]],?_⟩;refine zgp ?_; intro rL qI;have rp:=zL hp;refine⟨_,rfl,rfl,_,rfl,?_⟩;by_cases hb:T' < k∨(pl.length:Int) < T'
  ·refine zb4 (fun _=>⟨_,rfl,_,rfl,c,tt,p,T',k,pl,rfl,hc,hn,#[O],#[O],.inl ⟨hb,_,rfl,T.kw_TooFew.sl,fun e he=>?_⟩⟩) (fun _=>⟨_,rfl,_,rfl,c,tt,p,T',k,pl,rfl,hc,hn,hp,pP,nu,k1,sF,.inl ⟨hb,_,rfl,T.kw_TooFew.sl,fun e he=>?_⟩⟩)
   all_goals (
    refine⟨_,rfl,e,_,_,_,_,_,_,_,_,_,_,_,0,"few",rfl,zb,T.kw_TooFew,rfl,rfl,#[D],#[D],rfl,fun H' s'=>?_⟩;have sA:=(ze he).trans s';exact⟨_,rfl,q _ H' ((zbn _ _).trans sA) (sF.same sA) (.inl ⟨hb,rfl⟩)⟩)
  ·obtain⟨m,rfl⟩:∃ m:Nat,T'=m:=⟨T'.toNat,#[O]⟩;refine zb4 (fun h1=>?_) (fun h1=>?_)
   ·have h1:(way:Int)=0:=by have:=of_decide_eq_true h1; injection this
    exact⟨_,rfl,_,rfl,c,tt,p,m,k,pl,rfl,hc,hn,#[O],#[O],.inr ⟨m,rfl,#[O],#[O],_,rfl,q _ H (zbn _ _) sF (.inr ⟨m,rfl,#[O],#[O],.inl ⟨#[O],rfl⟩⟩)⟩⟩
   ·have h1:¬ (way:Int)=0:=fun z=>h1 (decide_eq_true (by rw [z]))
    exact⟨_,rfl,_,rfl,c,tt,p,m,k,pl,rfl,hc,hn,hp,pP,nu,k1,sF,.inr ⟨m,rfl,#[O],#[O],fun T9 H' s' tb' hM=>⟨_,rfl,q _ H' s' tb' (.inr ⟨m,rfl,#[O],#[O],.inr ⟨#[O],T9,rfl,hM⟩⟩)⟩⟩⟩
theorem zcU:FnScope ["code","row","polynomial","places","some"] ["code","row","polynomial"] (zg zbq):=#[S]
theorem zi8 {fd:FuncData} (T:Txt K mg base t) (F:Fun K "_law_fits" "_law_fits" zbq t.l_fits fd):FnOk P w K mg base CX0 2 t.l_fits fd ["code","row","polynomial"] (zih K):=by
 obtain⟨qN,o9,nR⟩:=T.f_l_value;have rS:=zgV (P:=P) (w:=w) (base:=base) T o9;refine F.ok zcU (fun vs H Q E h=>?_) (fun mq A outer s H vs Q E hr h=>?_)
 ·obtain⟨c,tt,ra,po,p,k,pl,mv,rw,rfl,_⟩:=h;rfl
 ·obtain⟨c,tt,ra,po,p,k,pl,mv,rw,rfl,hc,vS,wQ,hpo,p0,p1,nu,hn,q⟩:=h;refine zbO ?_; intro zX;refine⟨_,#[zd,#[zr,3,zcU.nd,(fH rfl),#[z8,#[zcd],#[pvx,0],#[zf]]],#[zd,#[za3,4,zcU.nd,#[A],(CompSc.of (N':=["number","row"]) (ix:=[none,some 1]) (zg zbq) ["code","row","polynomial","places","some"] rfl rfl #[N]),#[zaV],#[zag,T.range_,#[ya,#[zn,#[zv],T.len_,cm,#[ya,#[pvx,1]]]]],(fun _ _ _ _=>#[zj,0,(show (["number","row"]:List Str).Nodup from #[N]),#[A]]),(fun _ _ _ _=>#[zfw,#[zZ,(@zkQ _),#[z8,#[zds,(K)],#[pvx,1],#[pvx,0]],#[zja],(zah _)]]),(fun _ _ _ _=>#[pvx,0])],#[zp,#[zP,#[zbx,(CompSc.of (N':=["number","code","polynomial","places","row"]) (ix:=[none,some 0,some 2,some 3,some 1]) (zg zbq) ["code","row","polynomial","places","some"] rfl rfl #[N]),#[zaV],#[zat,#[pvx,4]],(fun _ _ _ _=>#[zj,0,(show (["number","code","polynomial","places","row"]:List Str).Nodup from #[N]),#[A]]),(fun _ _ _ _=>#[zfw,#[zZ,#[zjg],#[zQ,rS,(hr.mono #[D]),T.m_l_value,o9.kp,nR,#[zaC],#[za,#[z8,#[zhi,(K)],#[pvx,1],#[zf]],#[za,#[pvx,2],#[ya,#[z8,#[zhi,(K)],#[pvx,3],#[pvx,0]]]]]],#[z8,#[zds,(K)],#[pvx,4],#[pvx,0]],(zah _)]]),(fun _ _ _ _=>#[pvx,0])]]]]],?_⟩;refine zgp ?_; intro rL qI;refine⟨_,rfl,c,_,_,_,rfl,rfl,mj.of hc.1,rfl,?_⟩;refine⟨_,rfl,ra,_,rfl,.inl (l8.of vS),_,rfl,by rw [ae]; lia,by rw [ae]; lia,?_⟩;rw [ae,bC];refine zai (n:=rw.length) (fun i ys H'=>ys=(za4 rw i).map V.int∧H'=H) ⟨rfl,rfl⟩ (fun i ys H' hi _=>hi) (fun ys H' _=>ah _) ?_ ?_
  ·rintro zS zT zE i xx ys H4 H5 hi ⟨rfl,rfl⟩ ⟨rfl,rfl⟩;obtain⟨o,ho⟩:∃ o,rw[i]? = some o:=⟨rw[i]'#[O],#[M]⟩;have pv:atI (rw.map sO) (0+(i:Int))=some (sO o):=by
    rw [j8];exact za8 (by rw [az,ho]; rfl)
   refine⟨_,rfl,_,rfl,ra,_,_,_,rfl,rfl,l8.of vS,pv,rfl,_,rfl,?_⟩;have hl:=zcn rw i;rw [zgA,ho,aN];refine zb4 (fun h1=>⟨_,rfl,zaG (by rw [ae]; lia),?_,rfl⟩) (fun h1=>⟨?_,rfl⟩)
   ·cases o with
    | none=>exact absurd h1 (by simp [sO])
    | some z=>rw [j8]; rfl
   ·cases o with
    | none=>simp
    | some z=>exact absurd (by simp [sO]) h1
  ·rintro ys H4 D ⟨rfl,rfl⟩ hD;have sD:=ze (o:=.lst ((za4 rw rw.length).map V.int)) hD;have Co:l7 H4 D (.lst ((za4 rw rw.length).map V.int)) D=some (.lst ((za4 rw rw.length).map V.int)):=zb;generalize l7 H4 D (.lst ((za4 rw rw.length).map V.int))=H5 at sD Co ⊢;have qm:=zcn rw rw.length;refine⟨_,rfl,D,rfl,⟨_,l8.of Co⟩,zif (K:=K) (xs:=(za4 rw rw.length).map V.int) (kp:=zmw p pl rw mv) (f:=id) (l8.of Co) (by rw [ae]; lia) ?_ ?_⟩
   ·intro j xx R B hx hR;obtain⟨z,rfl,hz⟩:=zae hx;obtain⟨m,rfl,hm⟩:=zik (aO hz);obtain⟨o,ho⟩:∃ o,rw[m]? = some o:=⟨rw[m]'#[O],#[M]⟩;obtain⟨x,hx⟩:∃ x,pl[m]? = some x:=⟨pl[m]'#[O],#[M]⟩;obtain⟨x0,x1⟩:=nu x (aO hx);refine⟨_,rfl,c,_,_,_,rfl,rfl,mj.of (sD _ _ hc.1),rfl,_,rfl,_,rfl,_,rfl,tt,_,_,.int x,rfl,rfl,mj.of (sD _ _ hc.2),za8 (by rw [az,hx]; rfl),p,x,po,mv,rfl,.inr (mj.of (sD _ _ hpo)),p0,p1,x0,x1,_,rfl,_,rfl,ra,_,_,sO o,rfl,rfl,l8.of (sD _ _ vS),za8 (by rw [az,ho]; rfl),zii o _,_,rfl,?_⟩;have e:zmw p pl rw mv (.int (m:Int))=decide (V.int (zm p x mv)=sO o):=by
     show zbI p pl rw mv ((m:Int)).toNat=_;rw [bC,zjK hx ho];exact decide_eq_decide.mpr ⟨fun e=>e.symm,fun e=>e.symm⟩
    rw [e] at hR;refine zb4 (fun h1=>⟨_,rfl,?_⟩) (fun h1=>?_)
    ·rw [if_pos h1] at hR;exact hR
    ·rw [if_neg h1] at hR;exact hR
   ·intro D2 hD2;refine q D2 _ (sD.free hD2) (sD.trans (ze hD2)) ?_;rw [zb,zij,wQ]
end
section
variable {K:ag}
theorem zhV {many:Nat} {base:Int} {ds:List Int} (h:zeV many base ds) {i:Int} (h0:0≤i) (h1:i < many):∃ d,atI (ds.map V.int) i=some (.int d)∧0≤d∧d < base:=by
 obtain⟨n,rfl⟩:∃ n:Nat,i=n:=⟨i.toNat,#[O]⟩;have hn:n < ds.length:=by rw [h.1]; lia
 refine⟨ds[n]'hn,za8 (by rw [az,aE hn]; rfl),h.2 _ (fO hn)⟩
theorem zgh {H:Hp} {d:Nat} {x:V} (hx:zbj x=true):EqD K H d x x true:=by
 have h:=EqD.flat (K:=K) (H:=H) (d:=d) (x:=x) (y:=x) hx hx;have e:eqV x x=true:=by
  cases x <;> simp_all [eqV,zbj]
 rw [e] at h;exact h
theorem zlJ {H:Hp} {a b:Addr} {ms:List Int} (ha:H a=some (.tup (ms.map V.int))) (hb:H b=some (.tup (ms.map V.int))):EqD K H 8 (.ref a) (.ref b) true:=by
 by_cases mo:a=b
 ·subst mo;exact .same
 ·have h:=EqD.tups (K:=K) (H:=H) (d:=7) (e:=fun _=>true) mo (mj.of ha) (mj.of hb) fun j x y h1 h2=>by
   rw [h1] at h2;cases h2;obtain⟨z,rfl,_⟩:=zae h1;exact zgh rfl
  have e:((ba (min (ms.map V.int).length (ms.map V.int).length)).all (fun _=>true) && (ms.map V.int).length == (ms.map V.int).length)=true:=by simp
  rw [e] at h;exact h
theorem zlK {H:Hp} {rs xR:List Addr} {qs:List (List Int)} (h1:ze7 H rs qs) (h2:ze7 H xR qs):∀ (j:Nat) x y,(rs.map V.ref)[j]? = some x→(xR.map V.ref)[j]? = some y→EqD K H 8 x y true:=fun j x y e1 e2=>by
 obtain⟨a,rfl,ha⟩:=zby e1;obtain⟨b,rfl,hb⟩:=zby e2;obtain⟨q,g1,g2⟩:=Paired.get h1 ha;obtain⟨q',g3,g4⟩:=Paired.get h2 hb;rw [g1] at g3;cases g3;exact zlJ g2 g4
end
section
variable {P:Program} {w:World} {K:ag} {mg:Str→Option Value} {base:Heap} {t:Adr}
theorem zlL {H:Hp} {a b:Addr} {xs:List V} {ps:Array Value} (hP:H b=some (.tbl ps)) (h:l8 K H a xs):l8 K (hide H b) a xs:=by
 rcases h with (h | ⟨o,h⟩) | h
 ·exact .inl (.inl (z7 h fun e=>by rw [e,hP] at h; cases h))
 ·exact .inl (.inr ⟨o,z7 h fun e=>by rw [e,hP] at h; cases h⟩)
 ·exact .inr h
theorem zdh {t:Adr} {H G H':Hp} (h0:G t.tab=none) (s:zI G H) (s':zI (hide H t.tab) H'):zI G H':=fun b u e=>s' _ _ (z7 (s _ _ e) (zq e h0))
theorem zav.hid {H:Hp} {b c tt:Addr} {p k:Int} {pl:List Int} {ps:Array Value} (hP:H b=some (.tbl ps)) (h:zav H c tt p k pl):zav (hide H b) c tt p k pl:=⟨z7 h.1 (fun e=>by have:=h.1; rw [e,hP] at this; cases this),z7 h.2 (fun e=>by have:=h.2; rw [e,hP] at this; cases this)⟩
theorem zeH {H:Hp} {Q:VK} {a b:Addr} {xs ys:List V} (ha:l8 K H a xs) (hb:l8 K H b ys) (hl:xs.length=ys.length) (he:∀ (j:Nat) x y,xs[j]? = some x→ys[j]? = some y→EqD K H 8 x y true) (q:Q (.bl false) H):zng K true (.ref a) (.ref b) H Q:=by
 refine⟨a,b,_,_,rfl,rfl,.inl ⟨ha,hb⟩,.inr ⟨hl,fun _=>true,he,?_⟩⟩;have:(ba xs.length).all (fun _=>true)=true:=by simp
 rw [this];exact q
theorem zgi (n:Nat):inV (.bl false) (ap n (V.bl true))=false:=by
 unfold inV;rw [j9];intro x hx;rw [(gC.mp hx).2];simp [eqV]
theorem zgj (n:Nat):(ap n (V.bl true)).all zbj=true:=by
 rw [eE];intro x hx;rw [(gC.mp hx).2];rfl
theorem zl4 {p:Int} {k m:Nat} {pl:List Int} {H H':Hp} {v:V} (km:k≤m) (mn:m≤pl.length) (h:zg0 p m k 0 pl H H' v):v = .int (cd (bn pl.length m) (p.toNat ^ (m - k)):Nat):=by
 rcases h with ⟨h1,_⟩ | ⟨m',h1,_,_,h2 | h2⟩
 ·lia
 ·obtain rfl:m'=m:=by lia
  exact h2.2
 ·cases h2.1
theorem znv {p:Int} {k m:Nat} {pl:List Int} {H H':Hp} {v:V} (km:k≤m) (mn:m≤pl.length) (h:zg0 p m k 1 pl H H' v):∃ T9,v = .ref T9∧zkI p k m pl H H' T9:=by
 rcases h with ⟨h1,_⟩ | ⟨m',h1,_,_,h2 | h2⟩
 ·lia
 ·cases h2.1
 ·obtain rfl:m'=m:=by lia
  exact h2.2
def zkL (t:Adr) (K:ag):Sp:=fun vs H Q _=>∃ (a:Addr) (ns:List Int),vs = [.ref a]∧l8 K H a (ns.map V.int)∧ns.length≤63∧TbA t H∧∀ H',Q (.bl true) H'
theorem zas:FnScope ["script","at","code","p","k","places","plan","t","due","found","row","ones","one","good"] ["script"] (zg zbr):=#[S]
theorem zmZ {fd:FuncData} (T:Txt K mg base t) (F:Fun K "law" "law" zbr t.law fd):FnOk P w K mg base CX0 8 t.law fd ["script"] (zkL t K):=by
 obtain⟨rT,qf,oK⟩:=T.f_l_code;have tq:=zi2 (P:=P) (w:=w) (base:=base) T qf;obtain⟨oE,mO,mP⟩:=T.f_l_draws;have nP:=zdV (P:=P) (w:=w) (base:=base) T mO;obtain⟨tu,ri,pB⟩:=T.f_l_due;have ux:=zkK (P:=P) (w:=w) (base:=base) T ri;obtain⟨qO,nq,mQ⟩:=T.f_l_whole;have nS:=zgX (P:=P) (w:=w) (base:=base) T nq;obtain⟨rV,ni,mR⟩:=T.f_l_told;have nK:=zi7 (P:=P) (w:=w) (base:=base) T ni;obtain⟨rW,qg,oM⟩:=T.f_l_fits;have tw:=zi8 (P:=P) (w:=w) (base:=base) T qg;refine F.ok zas (fun vs H Q E h=>?_) (fun mq A outer s H vs Q E hr h=>?_)
 ·obtain⟨a,ns,rfl,_⟩:=h;rfl
 ·obtain⟨a,ns,rfl,hS,mi,sF,q⟩:=h;have hu:(A.deeper (envOfC (bJ "law") (zg zbr) s.heap.objs.size t.law mq)).units+20 < cLine:=by have:=hr.units; lia
  refine zbO ?_; intro zX;refine⟨_,#[zd,#[zau,ce,#[zag,T.range_,#[ya,#[zf]]],#[zj,1,zas.nd,#[A]],#[zd,#[zr,2,zas.nd,(fH rfl),#[zQ,tq,(hr.mono #[D]),T.m_l_code,qf.kp,oK,#[zaC],#[za,#[pvx,0],by exact #[za,#[zh,#[zad],#[zf],#[pvx,1]],#[za,#[zf],#[ya,#[z8,#[zV],#[z5,#[za,#[zf],#[ya,#[zf]]]],#[pvx,1]]]]]]]],#[zd,#[zcL,#[pvx,2],#[zcc,#[zy,#[zj,3,zas.nd,(fH rfl)],#[zy,#[zj,4,zas.nd,#[A]],#[zy,#[zj,5,zas.nd,#[A]],#[zaK]]]]]],#[zd,#[zr,6,zas.nd,#[A],#[zQ,nP,(hr.mono #[D]),T.m_l_draws,mO.kp,mP,#[zaC],#[za,#[pvx,0],by exact #[za,#[zh,#[zK],#[zh,#[zad],#[zf],#[pvx,1]],#[zf]],#[za,#[zf],#[ya,#[zf]]]]]]],#[zd,#[zau,ce,#[zat,#[z5,#[za,#[pvx,4],#[za,#[zh,#[zK],#[pvx,4],#[zh,#[zW],#[z8,#[zV],#[pvx,6],#[zf]],#[zh,#[zK],#[zh,#[zbd],#[zn,#[zv],T.len_,cm,#[ya,#[pvx,5]]],#[pvx,4]],#[zf]]]],#[ya,#[zh,#[zK],#[pvx,4],#[zh,#[zW],#[z8,#[zV],#[pvx,6],#[zf]],#[zh,#[zK],#[zh,#[zbd],#[zn,#[zv],T.len_,cm,#[ya,#[pvx,5]]],#[pvx,4]],#[zf]]]]]]]]],#[zj,7,zas.nd,(fH rfl)],#[zd,#[zr,8,zas.nd,#[A],#[zQ,ux,(hr.mono #[D]),T.m_l_due,ri.kp,pB,#[zaC],#[za,#[pvx,2],#[ya,#[pvx,7]]]]],#[zd,#[zbi,(@PW.pt _ _ _ #[zcV,#[zZ,#[zfo],#[zQ,nK,(hr.mono #[D]),T.m_l_told,ni.kp,mR,#[zaC],#[za,#[zf],#[za,#[pvx,2],#[ya,#[pvx,7]]]]],#[pvx,8],(zah _)],#[zcJ,#[zcK,#[zdl,#[zQ,nS,(hr.mono #[D]),T.m_l_whole,nq.kp,mQ,#[zaC],#[ya,#[zQ,nK,(hr.mono #[D]),T.m_l_told,ni.kp,mR,#[zaC],#[za,#[zf],#[za,#[pvx,2],#[ya,#[pvx,7]]]]]]]]]]]),#[zp,#[zP,#[zbH]]],#[zal]],#[zd,#[zr,9,zas.nd,#[A],#[zQ,nK,(hr.mono #[D]),T.m_l_told,ni.kp,mR,#[zaC],#[za,#[zf],#[za,#[pvx,2],#[ya,#[pvx,7]]]]]],#[zd,#[zbi,(@PW.pt _ _ _ #[zcV,#[zcK,#[zdl,#[zn,#[zaP],T.isinstance_,bv,#[za,#[pvx,9],#[ya,#[zbV,(.ty "tuple"),T.tuple_,jq]]]]]],#[zcV,#[zZ,#[zfo],#[zn,#[zv],T.len_,cm,#[ya,#[pvx,9]]],#[zf],(zah _)],#[zcJ,#[zZ,#[zfo],#[zn,#[zv],T.len_,cm,#[ya,#[z8,#[zcd],#[pvx,9],#[zf]]]],#[zn,#[zv],T.len_,cm,#[ya,#[pvx,5]]],(zah _)]]]]),#[zp,#[zP,#[zbH]]],#[zal]],#[zd,#[zcL,#[pvx,9],#[zcc,#[zy,#[zj,10,zas.nd,#[A]],#[zy,#[zj,11,zas.nd,#[A]],#[zaK]]]]],#[zd,#[zbi,(@PW.pt _ _ _ #[zcV,#[zcK,#[zdl,#[zn,#[zaP],T.isinstance_,bv,#[za,#[pvx,10],#[ya,#[zbV,(.ty "list"),T.list_,j7]]]]]],#[zcJ,#[zZ,#[zel],#[zbH],#[zbx,(CompSc.of (N':=["entry","p"]) (ix:=[none,some 3]) (zg zbr) ["script","at","code","p","k","places","plan","t","due","found","row","ones","one","good"] rfl rfl #[N]),#[zaV],#[zat,#[pvx,10]],(fun _ _ _ _=>#[zj,0,(show (["entry","p"]:List Str).Nodup from #[N]),#[A]]),(fun _ _ _ _=>#[zaf]),(fun _ _ _ _=>#[zgl,#[zQ,nS,(hr.mono #[D]),T.m_l_whole,nq.kp,mQ,#[zaC],#[ya,#[pvx,0]]],#[zgk,#[zfq,#[zg4],#[zfp],#[zf],#[pvx,0],#[pvx,1],(by with_unfolding_all rfl)]]])],(by with_unfolding_all rfl)]]]),#[zp,#[zP,#[zbH]]],#[zal]],#[zd,#[zbi,(@PW.pt _ _ _ #[zcV,#[zcK,#[zdl,#[zn,#[zaP],T.isinstance_,bv,#[za,#[pvx,11],#[ya,#[zbV,(.ty "list"),T.list_,j7]]]]]],#[zcV,#[zZ,#[zjw,hu],(zd9 rfl (jZ (Nat.add_le_add_left (show 16≤20 by decide) _) hu) rfl T.sorted_ rfl T.set_ #[ya,#[pvx,11]]),#[pvx,11],(zah _)],#[zcJ,#[zZ,#[zfp],#[zn,#[zv],T.len_,cm,#[ya,#[pvx,11]]],#[pvx,8],(zah _)]]]]),#[zp,#[zP,#[zbH]]],#[zal]],#[zp,#[zau,ce,#[zat,#[pvx,11]],#[zj,12,zas.nd,#[A]],#[zd,#[za3,13,zas.nd,#[A],(CompSc.of (N':=["number","p"]) (ix:=[none,some 3]) (zg zbr) ["script","at","code","p","k","places","plan","t","due","found","row","ones","one","good"] rfl rfl #[N]),#[zaV],#[zjc,#[pvx,12]],(fun _ _ _ _=>#[zj,0,(show (["number","p"]:List Str).Nodup from #[N]),#[A]]),(fun _ _ _ _=>#[zaf]),(fun _ _ _ _=>#[zgl,#[zQ,nS,(hr.mono #[D]),T.m_l_whole,nq.kp,mQ,#[zaC],#[ya,#[pvx,0]]],#[zgk,#[zfq,#[zg4],#[zfp],#[zf],#[pvx,0],#[pvx,1],(by with_unfolding_all rfl)]]])],#[zd,#[zbi,(@PW.pt _ _ _ #[zcV,#[zZ,#[zfo],#[zn,#[zv],T.len_,cm,#[ya,#[pvx,12]]],#[pvx,4],(zah _)],#[zcJ,#[zZ,#[zel],#[zbH],#[pvx,13],(by with_unfolding_all rfl)]]]),#[zp,#[zP,#[zbH]]],#[zal]],#[zp,#[zbi,#[zZ,#[zfp],#[zn,#[zv],T.len_,cm,#[ya,#[zQ,tw,(hr.mono #[D]),T.m_l_fits,qg.kp,oM,#[zaC],#[za,#[pvx,2],#[za,#[pvx,10],#[ya,#[pvx,12]]]]]]],#[pvx,7],(zah _)],#[zp,#[zP,#[zbH]]],#[zal]]]]]]]]]]]]]]],#[zp,#[zau,ce,#[zat,#[z5,#[za,#[zh,#[zbd],#[pvx,4],#[zf]],by exact #[za,#[zh,#[zbd],#[zlN,zje,#[zf]],#[z8,#[zV],#[pvx,6],#[zf]]],#[za,#[zh,#[zK],#[zn,#[zv],T.len_,cm,#[ya,#[pvx,5]]],#[zf]],#[ya,#[zh,#[zK],#[zh,#[zK],#[zn,#[zv],T.len_,cm,#[ya,#[pvx,5]]],#[zf]],#[z8,#[zV],#[pvx,6],#[zf]]]]]]]]],#[zj,7,zas.nd,(fH rfl)],#[zp,#[zbi,#[zZ,#[zjw,hu],#[zbx,(CompSc.of (N':=["way","code","t"]) (ix:=[none,some 2,some 7]) (zg zbr) ["script","at","code","p","k","places","plan","t","due","found","row","ones","one","good"] rfl rfl #[N]),#[zaV],#[zag,T.range_,#[ya,#[zf]]],(fun _ _ _ _=>#[zj,0,(show (["way","code","t"]:List Str).Nodup from #[N]),#[A]]),(fun _ _ _ _=>#[zaf]),(fun _ _ _ _=>#[zQ,nK,(hr.mono #[D]),T.m_l_told,ni.kp,mR,#[zaC],#[za,#[pvx,0],#[za,#[pvx,1],#[ya,#[pvx,2]]]]])],#[z5,#[za,#[zdk],#[ya,#[zdk]]]],(zah _)],#[zp,#[zP,#[zbH]]],#[zal]]]]]]]]]],#[zp,#[zP,#[zbH]]]],?_⟩;refine zne ?_; intro qI;have qm:=bL;obtain⟨tX,hP0⟩:=sF.at_;have Cp:hide H t.tab t.tab=none:=by unfold hide; rw [if_pos rfl]
  have Cq:=zlL (K:=K) hP0 hS;have hGH:=zbn H t.tab;generalize hide H t.tab=G at Cp Cq hGH ⊢;refine⟨2,rfl,#[D],#[D],?_⟩;refine zar (lo:=0) (n:=2) (fun i σ H'=>∃ e1 e2 e3 e4 e5 e6 e7 e8 e9 tz uy rj rk:Option V,σ = [some (.ref a),e1,e2,e3,e4,e5,e6,e7,e8,e9,tz,uy,rj,rk]∧zI G H'∧TbA t H') ⟨none,none,none,none,none,none,none,none,none,none,none,none,none,rfl,hGH,sF⟩ ?_ ?_
  ·rintro zD zT i σ H0 hi ⟨e1,e2,e3,e4,e5,e6,e7,e8,e9,tz,uy,rj,rk,rfl,s0,tb0⟩;obtain⟨mn,hmn,mn0,mn1⟩:∃ mn:Int,atI [V.int 16,.int 10] (0+(i:Int))=some (.int mn)∧10≤mn∧mn≤16:=by
    have:i=0∨i=1:=by lia
    rcases this with rfl | rfl
    ·exact⟨16,rfl,#[D],#[D]⟩
    ·exact⟨10,rfl,#[D],#[D]⟩
   refine⟨_,rfl,_,rfl,_,_,rfl,rfl,.inl ⟨#[D],#[D]⟩,by show 2≤sizeLine; lia,fun z hz=>⟨_,rfl,z,_,_,_,rfl,rfl,l8.of zb,hmn,?_⟩⟩;have u1:=ze (o:=.lst [.int 16,.int 10]) hz;have Cr:=s0.trans u1;have ym:=tb0.same u1;generalize l7 H0 z (.lst [.int 16,.int 10])=H0' at u1 Cr ym ⊢;refine⟨a,ns,2*(0+(i:Int)),5,mn,rfl,Cr.seq Cq,mi,#[O],#[O],#[D],#[D],#[O],#[O],fun c tt p kI pl H1 hc1 s1 co pZ h1t=>?_⟩;have rp:=zL co.pr;have k1:=co.k1;have kk:=co.kk;have kn:=co.kl;have ln:=co.ln;have p0:0 < p:=by lia
   obtain⟨k,rfl⟩:∃ k:Nat,kI=k:=⟨kI.toNat,#[O]⟩;have hcA:zav H1 c tt p k pl:=⟨pZ,h1t⟩;have s01:=Cr.trans s1;refine⟨_,rfl,c,_,rfl,mj.of pZ,rfl,_,_,rfl,_,_,rfl,_,_,rfl,rfl,?_⟩;refine⟨_,rfl,_,rfl,_,_,rfl,rfl,.inl ⟨#[D],#[D]⟩,_,_,rfl,rfl,a,ns,2*(0+(i:Int))+1,4,27720,rfl,s01.seq Cq,mi,#[O],#[O],#[D],#[D],#[D],#[D],fun dl ds H2 uU s2 ok h2=>?_⟩;have s02:=s01.trans s2;have vM:=hcA.same s2;have tb2:=ym.same (s1.trans s2);obtain⟨d0,hd0,_⟩:=zhV (i:=0) ok #[D] #[D];obtain⟨d1,hd1,_⟩:=zhV (i:=1) ok #[D] #[D];obtain⟨d2,hd2,hd2'⟩:=zhV (i:=2) ok #[D] #[D];obtain⟨d3,hd3,hd3'⟩:=zhV (i:=3) ok #[D] #[D];have q0:=a8 d0 (show (pl.length:Int) - k+1≠0 by lia);have q1:=aU d0 (show 0 < (pl.length:Int) - k+1 by lia);have q2:=a8 d1 (show (pl.length:Int) - k+1≠0 by lia);have q3:=aU d1 (show 0 < (pl.length:Int) - k+1 by lia);have Cs:((pl.map V.int).length:Int)=pl.length:=by rw [ae]
   refine⟨_,rfl,_,rfl,_,rfl,dl,_,_,_,rfl,rfl,l8.of h2,hd0,_,rfl,tt,_,rfl,.inr (mj.of vM.2),_,rfl,_,_,rfl,rfl,_,_,rfl,rfl,_,_,rfl,rfl,(by rw [Cs]; lia),_,_,rfl,rfl,_,rfl,_,rfl,dl,_,_,_,rfl,rfl,l8.of h2,hd1,_,rfl,tt,_,rfl,.inr (mj.of vM.2),_,rfl,_,_,rfl,rfl,_,_,rfl,rfl,_,_,rfl,rfl,(by rw [Cs]; lia),_,_,rfl,rfl,by show 3≤sizeLine; lia,fun tl vt=>?_⟩;rw [← Cs] at q0 q1 q2 q3;obtain⟨ts,ets,hts⟩:∃ ts:List V,ts = [V.int (k:Int),.int ((k:Int)+d0 % (((pl.map V.int).length:Int) - k+1)),.int ((k:Int)+d1 % (((pl.map V.int).length:Int) - k+1))]∧∀ y∈ts,∃ m:Nat,y = .int (m:Int)∧k≤m∧m≤pl.length:=by
    refine⟨_,rfl,fun y hy=>?_⟩;rcases (au.mp hy) with rfl | hy
    ·exact⟨k,rfl,ah _,#[O]⟩
    rcases (au.mp hy) with rfl | hy
    ·exact⟨((k:Int)+d0 % (((pl.map V.int).length:Int) - k+1)).toNat,by congr 1; lia,#[O],#[O]⟩
    ·rw [aA.mp hy];exact⟨((k:Int)+d1 % (((pl.map V.int).length:Int) - k+1)).toNat,by congr 1; lia,#[O],#[O]⟩
   have u3:=ze (o:=.lst ts) vt;have tY:l7 H2 tl (.lst ts) tl=some (.lst ts):=zb;have Ct:l7 H2 tl (.lst [V.int (k:Int),.int ((k:Int)+d0 % (((pl.map V.int).length:Int) - k+1)),.int ((k:Int)+d1 % (((pl.map V.int).length:Int) - k+1))])=l7 H2 tl (.lst ts):=by rw [ets]
   show ∃ a',_;rw [show l7 H2 tl (HO.lst [V.int ↑k,(fun i j=>V.int (i+j)) ↑k _,_])=l7 H2 tl (.lst ts) from Ct];have wU:=tb2.same u3;have s03:=s02.trans u3;have yn:=vM.same u3;have uz:=u3 _ _ h2;obtain⟨ps3,wV⟩:=wU.at_;generalize l7 H2 tl (.lst ts)=H3 at u3 tY wU s03 yn uz wV ⊢;have Ae:hide H3 t.tab t.tab=none:=by unfold hide; rw [if_pos rfl]
   have uY:=yn.hid wV;have hBt:hide H3 t.tab tl=some (.lst ts):=z7 tY fun e=>by rw [e,wV] at tY; cases tY
   have hBd:hide H3 t.tab dl=some (.lst (ds.map V.int)):=z7 uz fun e=>by rw [e,wV] at uz; cases uz
   have hBG:zI G (hide H3 t.tab):=fun b u e=>z7 (s03 _ _ e) (zq e Cp)
   have hBs:=zbn H3 t.tab;generalize hide H3 t.tab=B at Ae uY hBt hBd hBG hBs;refine⟨tl,rfl,⟨_,l8.of tY⟩,zaZ (K:=K) (a:=tl) (xs:=ts) (fun i' σ H'=>∃ e7 e8 e9 tz uy rj rk:Option V,σ = [some (.ref a),some (.int (0+(i:Int))),some (.ref c),some (.int p),some (.int (k:Int)),some (.ref tt),some (.ref dl),e7,e8,e9,tz,uy,rj,rk]∧zI B H'∧TbA t H') ⟨e7,e8,e9,tz,uy,rj,rk,rfl,hBs,wU⟩ (fun i' σ H' _ hq=>by obtain⟨_,_,_,_,_,_,_,_,s3,_⟩:=hq; exact l8.of (s3 _ _ hBt)) ?_ ?_⟩
   ·rintro zD zT i' y σ H4 hy ⟨e7,e8,e9,tz,uy,rj,rk,rfl,s4,Cu⟩;obtain⟨m,rfl,km,Af⟩:=hts y (aO hy);have yo:=uY.same s4;refine⟨_,rfl,_,rfl,c,tt,p,k,m,pl,rfl,yo,#[O],#[O],#[O],km,Af,fun H5 s5=>?_⟩;have yp:=Cu.same s5;have sB5:=s4.trans s5;have hc5:=uY.same sB5;refine⟨_,rfl,_,rfl,c,tt,p,(m:Int),k,0,pl,rfl,#[D],hc5,#[O],co.pr,co.nd,co.rg,#[O],yp,fun v H6 s6 yq hv=>?_⟩;have sB6:=zdh Ae sB5 s6;obtain rfl:=zl4 km Af hv;refine⟨_,rfl,rfl,_,rfl,?_⟩;refine zb4 (fun h=>absurd h #[M]) (fun _=>?_);have hc6:=uY.same sB6;refine⟨_,rfl,_,rfl,c,tt,p,(m:Int),k,0,pl,rfl,#[D],hc6,#[O],co.pr,co.nd,co.rg,#[O],yq,fun v H7 s7 yr hv=>?_⟩;have sB7:=zdh Ae sB6 s7;have hc7:=uY.same sB7;obtain rfl:=zl4 km Af hv;refine⟨_,rfl,?_⟩;refine⟨_,rfl,zdp ?_⟩;refine⟨_,rfl,_,rfl,c,tt,p,(m:Int),k,1,pl,rfl,#[D],hc7,#[O],co.pr,co.nd,co.rg,#[O],yr,fun v H8 s8 tb8 hv=>?_⟩;have sB8:=zdh Ae sB7 s8;have hc8:=uY.same sB8;obtain⟨T9,rfl,r,l,rs,qs,high,lows,Cj,Ag,vX,h8l,hTp,qG,wR,uR,vN⟩:=znv km Af hv;have hRl:(rowOf p k high pl).length=pl.length:=by unfold rowOf; rw [ae]
    have hRg:∀ z∈rowOf p k high pl,0≤z∧z < p:=fun z hz=>by
     obtain⟨x,_,rfl⟩:=aG.mp hz;exact⟨zaM p0 _,zaN p0 _⟩
    refine⟨_,rfl,_,_,_,_,rfl,.tup Ag,rfl,_,rfl,zdp ?_⟩;refine⟨_,rfl,T9,_,rfl,.inr (mj.of Ag),rfl,_,rfl,?_⟩;refine zb4 (fun h=>absurd h #[M]) (fun _=>?_);refine⟨_,rfl,T9,_,_,_,rfl,rfl,mj.of Ag,rfl,r,_,rfl,.inl (l8.of vX),_,rfl,tt,_,rfl,.inr (mj.of hc8.2),rfl,_,rfl,?_⟩;rw [ae,ae,hRl];refine zb4 (fun h=>absurd h #[M]) (fun _=>?_);refine⟨_,rfl,T9,_,rfl,mj.of Ag,rfl,_,_,rfl,_,_,rfl,rfl,?_⟩;refine⟨_,rfl,_,_,_,_,rfl,.lst vX,rfl,_,rfl,zdp ?_⟩;refine⟨_,rfl,r,rfl,⟨_,l8.of vX⟩,zai (n:=pl.length) (fun j ys H'=>ys=ap j (V.bl true)∧H'=H8) ⟨rfl,rfl⟩ ?_ ?_ ?_ ?_⟩
    ·rintro j ys H' hj ⟨_,rfl⟩;exact⟨_,.int ((rowOf p k high pl)[j]'#[O]),l8.of vX,by rw [az,aE #[O]]; rfl⟩
    ·rintro ys H' ⟨_,rfl⟩;exact⟨_,l8.of vX,by rw [ae]; lia⟩
    ·rintro zS zT zE j y ys H' H'' hj ⟨rfl,rfl⟩ ⟨rfl,hy⟩;obtain⟨x,rfl,hx⟩:=zae (hy _ (l8.of vX));obtain⟨x0,x1⟩:=hRg x (aO hx);refine gY ⟨_,rfl,_,rfl,?_⟩;refine⟨_,rfl,zgo ⟨_,rfl,_,_,rfl,rfl,_,rfl,?_⟩⟩;rw [decide_eq_true x0];refine zgo ⟨_,rfl,_,_,rfl,rfl,?_⟩;refine⟨by rw [dA]; lia,?_,rfl⟩;show ap j (V.bl true)++[V.bl (decide (x < p))]=_;rw [decide_eq_true x1,gd]
    rintro ys H' D ⟨rfl,rfl⟩ hD;refine⟨D,_,rfl,.inl (l8.of zb),rfl,zgj _,_,rfl,?_⟩;rw [if_neg #[M],zgi];refine zdp ?_;have u9:=ze (o:=.lst (ap pl.length (V.bl true))) hD;have sB9:=sB8.trans u9;have Ah:=tb8.same u9;have Ai:=u9 _ _ h8l;have qb:=hTp.same u9;have h9r:=u9 _ _ vX;generalize l7 H' D (.lst (ap pl.length (V.bl true)))=H9 at u9 sB9 Ah Ai qb h9r ⊢;obtain⟨hR,pP,h43,hht,hdue⟩:=zlC co.pr co.nd co.rg #[O] #[O] #[O] km qG wR uR vN;obtain⟨ps,ers,Cv,Cw⟩:=zf7 qb hR.1;have vT:ps.length=qs.length:=by rw [Cv,ae]
    have Cy:H9 l=some (.lst (ps.map fun q=>V.ref q.1)):=by rw [Ai,ers,br]; rfl
    refine⟨_,rfl,_,_,_,_,rfl,.lst Ai,rfl,_,rfl,zdp ?_⟩;refine⟨_,rfl,l,k,p,ps,rfl,Cy,Cw,by rw [← Cv]; exact pP,#[O],#[O],#[O],fun l2 mT qT vY Cz=>?_⟩;have vZ:=ze (o:=.lst (mT.map fun q=>V.ref q.1)) qT;have h10:l7 H9 l2 (.lst (mT.map fun q=>V.ref q.1)) l2=some (.lst ((mT.map (·.1)).map V.ref)):=by rw [zb,br]; rfl
    have uA:ze7 (l7 H9 l2 (.lst (mT.map fun q=>V.ref q.1))) (mT.map (·.1)) (mT.map (·.2)):=zci (k:=k) (B:=p) fun x hx=>⟨vZ _ _ (Cw x (vY.mem_iff.mp hx)).1,(Cw x (vY.mem_iff.mp hx)).2⟩
    have tz:mT.map (·.2)=qs:=zgP #[O] hR pP (by rw [Cv]; exact vY.map _) (by rw [bF]; exact Cz);rw [tz] at uA;have v5:=sB9.trans vZ;have yt:=Ah.same vZ;have tD:=vZ _ _ Ai;have rl:=qb.same vZ;have v7:=vZ _ _ h9r;generalize l7 H9 l2 (.lst (mT.map fun q=>V.ref q.1))=H10 at vZ h10 uA v5 yt tD rl v7 ⊢;have hrq:=rl.length;refine⟨_,rfl,zeH (l8.of h10) (l8.of tD) (by have h1:=uA.length; simp only [ae] at h1 ⊢; lia) (zlK uA rl) ⟨_,rfl,zdp ?_⟩⟩;refine⟨_,rfl,l,_,rfl,.inl (l8.of tD),_,rfl,_,_,rfl,rfl,_,rfl,?_⟩;rw [ae];refine zb4 (fun h=>absurd (of_decide_eq_true h) #[O]) (fun _=>?_);have eR:(rowOf p k high pl).map V.int=((rowOf p k high pl).map some).map sO:=by rw [br]; rfl
    have yu:((rowOf p k high pl).map some).length=pl.length:=by rw [ae,hRl]
    rw [eR] at v7;have hcC:=uY.same v5;refine⟨_,rfl,l,rfl,⟨_,l8.of tD⟩,zaZ (K:=K) (a:=l) (xs:=rs.map V.ref) (fun j σ H'=>∃ rj rk:Option V,σ = [some (.ref a),some (.int (0+(i:Int))),some (.ref c),some (.int p),some (.int (k:Int)),some (.ref tt),some (.ref dl),some (.int (m:Int)),some (.int (cd (bn pl.length m) (p.toNat ^ (m - k)):Nat)),some (.ref T9),some (.ref r),some (.ref l),rj,rk]∧zI H10 H') ⟨rj,rk,rfl,fun _ _ e=>e⟩ (fun j σ H' _ hq=>by obtain⟨_,_,_,s3⟩:=hq; exact l8.of (s3 _ _ tD)) ?_ ?_⟩
    ·rintro zD zT j y σ H11 hy ⟨rj,rk,rfl,yw⟩;obtain⟨rb,rfl,Cd⟩:=zby hy;obtain⟨qq,hqq,pv⟩:=Paired.get rl Cd;have uV:=aO hqq;have yx:=hR.1 qq uV;have rX:=yw _ _ pv;refine⟨_,rfl,rb,rfl,⟨_,mj.of rX⟩,zai (n:=k) (fun j ys H'=>ys=ap j (V.bl true)∧H'=H11) ⟨rfl,rfl⟩ ?_ ?_ ?_ ?_⟩
     ·rintro j ys H' hj ⟨_,rfl⟩;exact⟨_,.int (qq[j]'(by rw [yx.1]; exact hj)),mj.of rX,by rw [az,aE (by rw [yx.1]; exact hj)]; rfl⟩
     ·rintro ys H' ⟨_,rfl⟩;exact⟨_,mj.of rX,by rw [ae,yx.1]; exact ah _⟩
     ·rintro zS zT zE j y ys H' H'' hj ⟨rfl,rfl⟩ ⟨rfl,hy⟩;obtain⟨x,rfl,hx⟩:=zae (hy _ (mj.of rX));obtain⟨x0,x1⟩:=yx.2 x (aO hx);refine gY ⟨_,rfl,_,rfl,?_⟩;refine⟨_,rfl,zgo ⟨_,rfl,_,_,rfl,rfl,_,rfl,?_⟩⟩;rw [decide_eq_true x0];refine zgo ⟨_,rfl,_,_,rfl,rfl,?_⟩;refine⟨by rw [dA]; lia,?_,rfl⟩;show ap j (V.bl true)++[V.bl (decide (x < p))]=_;rw [decide_eq_true x1,gd]
     rintro ys H' gl ⟨rfl,rfl⟩ xP;have Aj:=ze (o:=.lst (ap k (V.bl true))) xP;have h12:l7 H' gl (.lst (ap k (V.bl true))) gl=some (.lst (ap k (V.bl true))):=zb;have Ak:=yw.trans Aj;generalize l7 H' gl (.lst (ap k (V.bl true)))=H12 at Aj h12 Ak ⊢;refine⟨_,rfl,rb,_,rfl,.inr (mj.of (Aj _ _ rX)),_,rfl,rfl,_,rfl,?_⟩;rw [ae,yx.1];refine zb4 (fun h=>absurd h #[M]) (fun _=>?_);refine⟨_,rfl,gl,_,rfl,.inl (l8.of h12),rfl,zgj _,_,rfl,?_⟩;rw [if_neg #[M],zgi];refine zdp ?_;refine⟨_,rfl,_,rfl,_,rfl,c,tt,r,rb,p,k,pl,qq,(rowOf p k high pl).map some,rfl,hcC.same Ak,Ak _ _ v7,yu,Aj _ _ rX,#[O],#[O],co.rg,#[O],fun fl H13 wL s13 h13=>⟨fl,_,rfl,.inl (l8.of h13),_,rfl,_,_,rfl,rfl,_,rfl,?_⟩⟩;rw [ae,zln yu];have hh:=hht qq uV;refine zb4 (fun h=>absurd (of_decide_eq_true h) #[O]) (fun _=>?_);exact⟨_,_,rfl,Ak.trans s13⟩
    ·rintro σ H11 ⟨rj,rk,rfl,yw⟩;exact⟨_,_,_,_,_,_,_,rfl,v5.trans yw,yt.same yw⟩
   ·rintro σ H4 ⟨e7,e8,e9,tz,uy,rj,rk,rfl,s4,Cu⟩;have yo:=uY.same s4;have h4d:=s4 _ _ hBd;refine⟨_,rfl,_,_,rfl,rfl,_,rfl,_,rfl,dl,_,_,_,rfl,rfl,l8.of h4d,hd2,_,_,rfl,rfl,_,rfl,tt,_,rfl,.inr (mj.of yo.2),_,_,rfl,rfl,_,rfl,tt,_,rfl,.inr (mj.of yo.2),_,_,rfl,rfl,_,rfl,dl,_,_,_,rfl,rfl,l8.of h4d,hd3,_,_,rfl,rfl,by show 4≤sizeLine; lia,fun tZ CA=>?_⟩;obtain⟨qp,CB,CC⟩:∃ qp:List V,qp = [V.int ((k:Int) - 1),.int (-1 - d2),.int (((pl.map V.int).length:Int)+1),.int (((pl.map V.int).length:Int)+1+d3)]∧∀ y∈qp,∃ T':Int,y = .int T'∧(T' < k∨(pl.length:Int) < T'):=by
     refine⟨_,rfl,fun y hy=>?_⟩;rw [ae] at hy;rcases (au.mp hy) with rfl | hy
     ·exact⟨_,rfl,#[O]⟩
     rcases (au.mp hy) with rfl | hy
     ·exact⟨_,rfl,#[O]⟩
     rcases (au.mp hy) with rfl | hy
     ·exact⟨_,rfl,#[O]⟩
     ·rw [aA.mp hy];exact⟨_,rfl,#[O]⟩
    have u5:=ze (o:=.lst qp) CA;have yy:l7 H4 tZ (.lst qp) tZ=some (.lst qp):=zb;have CD:l7 H4 tZ (.lst [V.int ((k:Int) - 1),.int (-1 - d2),.int (((pl.map V.int).length:Int)+1),.int (((pl.map V.int).length:Int)+1+d3)])=l7 H4 tZ (.lst qp):=by rw [CB]
    show ∃ a',_;rw [show l7 H4 tZ (HO.lst [(fun i j=>V.int (i - j)) ↑k 1,_,_,_])=l7 H4 tZ (.lst qp) from CD];have yp:=Cu.same u5;have s05:=s4.trans u5;have yz:=yo.same u5;obtain⟨ps5,CF⟩:=yp.at_;generalize l7 H4 tZ (.lst qp)=H5 at u5 yy yp s05 yz CF ⊢;have hC0:hide H5 t.tab t.tab=none:=by unfold hide; rw [if_pos rfl]
    have hCc:=yz.hid CF;have hCt:hide H5 t.tab tZ=some (.lst qp):=z7 yy fun e=>by rw [e,CF] at yy; cases yy
    have hCG:zI G (hide H5 t.tab):=fun b u e=>z7 ((hBG.trans s05) _ _ e) (zq e Cp)
    have hCs:=zbn H5 t.tab;generalize hide H5 t.tab=C at hC0 hCc hCt hCG hCs;refine⟨tZ,rfl,⟨_,l8.of yy⟩,zaZ (K:=K) (a:=tZ) (xs:=qp) (fun i' σ H'=>∃ e7:Option V,σ = [some (.ref a),some (.int (0+(i:Int))),some (.ref c),some (.int p),some (.int (k:Int)),some (.ref tt),some (.ref dl),e7,e8,e9,tz,uy,rj,rk]∧zI C H'∧TbA t H') ⟨e7,rfl,hCs,yp⟩ (fun i' σ H' _ hq=>by obtain⟨_,_,s3,_⟩:=hq; exact l8.of (s3 _ _ hCt)) ?_ ?_⟩
    ·rintro zD zT i' y σ H6 hy ⟨e7,rfl,s6,yq⟩;obtain⟨T',rfl,hbad⟩:=CC y (aO hy);refine⟨2,rfl,#[D],#[D],?_⟩;refine zai (n:=2) (fun j ys H'=>ys=ap j (V.str "few")∧zI C H'∧TbA t H') ⟨rfl,s6,yq⟩ (fun j ys H' hj _=>hj) (fun ys H' _=>ah _) ?_ ?_
     ·rintro zS zT zE j xx ys H7 H8 hj ⟨rfl,s7,yr⟩ ⟨rfl,rfl⟩;have ew:(0+(j:Int))=(j:Int):=by lia
      refine gY ⟨_,rfl,_,rfl,_,rfl,c,tt,p,T',k,j,pl,(by show [V.int (0+(j:Int)),V.ref c,V.int T']=_; rw [ew]),hj,hCc.same s7,#[O],co.pr,co.nd,co.rg,#[O],yr,fun v H9 s9 Ah hv=>?_⟩;obtain rfl:v = .str "few":=by
       rcases hv with ⟨_,h⟩ | ⟨m,rfl,h1,h2,_⟩
       ·exact h
       ·lia
      exact⟨by rw [dA]; lia,by rw [gd],zdh hC0 s7 s9,Ah⟩
     rintro ys H7 D ⟨rfl,s7,yr⟩ hD;refine⟨by show 2≤sizeLine; lia,fun Z hZ=>?_⟩;have w1:=ze (o:=.lst (ap 2 (V.str "few"))) hD;have w2:=ze (o:=.lst [V.str "few",.str "few"]) hZ;have g1:=w2 _ _ (zb (H:=H7) (a:=D) (o:=.lst (ap 2 (V.str "few"))));have g2:l7 (l7 H7 D (.lst (ap 2 (V.str "few")))) Z (.lst [V.str "few",.str "few"]) Z=some (.lst [V.str "few",.str "few"]):=zb;have CG:=w1.trans w2;generalize l7 (l7 H7 D (.lst (ap 2 (V.str "few")))) Z (.lst [V.str "few",.str "few"])=H8 at g1 g2 CG ⊢;refine zeH (l8.of g1) (l8.of g2) rfl (fun j x y hx hy=>?_) ⟨_,rfl,zdp ?_⟩
     ·have pM:[V.str "few",V.str "few"][j]? = some x:=hx;rw [pM] at hy;cases hy;obtain rfl:x=V.str "few":=by
       have:=aO pM;simpa using this
      exact zgh rfl
     ·exact⟨_,rfl,s7.trans CG,yr.same CG⟩
    ·rintro σ H6 ⟨e7,rfl,s6,yq⟩;exact⟨_,_,_,_,_,_,_,_,_,_,_,_,_,rfl,hCG.trans s6,yq⟩
  ·rintro σ H0 ⟨e1,e2,e3,e4,e5,e6,e7,e8,e9,tz,uy,rj,rk,rfl,s0,tb0⟩;exact q _
end
structure Dn (K:ag) (x:Str) (st:Stmt) (f:Addr) (fd:FuncData):Prop where
 a:bd K mainGlobals x=some (some (.ref f))
 f:Fun K x x st f fd
theorem zaU {K:ag} {x:Str} {st:Stmt} {f:Addr} {od an:Option Addr} {sl:Array (Option Value)} {oc kV dc pm cd ct:Value} (a:bd K mainGlobals x=some (some (.ref f))) (l:K.lookup f=some ⟨oc,od,.func (cE x x (za9 st) (zao st) (zg st) .none kV dc pm an cd ct),sl⟩) (c:ee K cd x=true) (k:dJ K (.ref f)=true):Dn K x st f (cE x x (za9 st) (zao st) (zg st) .none kV dc pm an cd ct):=⟨a,zjp l c k⟩
theorem el0 {n:Nat} {us:List Value} (e:us.length=n+1):∃ a v,us=a :: v∧v.length=n:=by
 cases us with
 | nil=>cases e
 | cons a v=>exact⟨a,v,rfl,Nat.succ.inj e⟩
theorem el1 {us:List Value} (e:us.length=1):∃ a,us = [a]:=by
 obtain⟨a,v,rfl,h⟩:=el0 e;exact⟨a,by rw [List.eq_nil_of_length_eq_zero h]⟩
theorem el2 {us:List Value} (e:us.length=2):∃ a b,us = [a,b]:=by
 obtain⟨a,v,rfl,h⟩:=el0 e;obtain⟨b,rfl⟩:=el1 h;exact⟨a,b,rfl⟩
theorem el3 {us:List Value} (e:us.length=3):∃ a b c,us = [a,b,c]:=by
 obtain⟨a,v,rfl,h⟩:=el0 e;obtain⟨b,c,rfl⟩:=el2 h;exact⟨a,b,c,rfl⟩
theorem el4 {us:List Value} (e:us.length=4):∃ a b c d,us = [a,b,c,d]:=by
 obtain⟨a,v,rfl,h⟩:=el0 e;obtain⟨b,c,d,rfl⟩:=el3 h;exact⟨a,b,c,d,rfl⟩
def zfi (TP:Addr) (K:ag):Sp:=fun vs H Q _=>∃ (a:Addr) (ns:List Int),vs = [.ref a]∧l8 K H a (ns.map V.int)∧ns.length≤63∧TbI TP znt znu H∧∀ H',Q (.bl true) H'
local macro_rules|`(#[E1])=>`(fun _ _ _ _ _ _ _ h=>by obtain⟨_,e⟩:=el1 h;subst e;exact rfl)
local macro_rules|`(#[E2])=>`(fun _ _ _ _ _ _ _ h=>by obtain⟨_,_,e⟩:=el2 h;subst e;exact rfl)
local macro_rules|`(#[E3])=>`(fun _ _ _ _ _ _ _ h=>by obtain⟨_,_,_,e⟩:=el3 h;subst e;exact rfl)
local macro_rules|`(#[E4])=>`(fun _ _ _ _ _ _ _ h=>by obtain⟨_,_,_,_,e⟩:=el4 h;subst e;exact rfl)
theorem zm0 {TP:Addr} {l:iF} {w:World} {K:ag} {h:Heap} {mg:Str→Option Value} {fa fl mH l9 nT nU nV nD pC nE mK oO pD:Addr} (X:K.In h) (G:h.Ns mainGlobals mg) (hfa:mg "law" = some (.ref fa))
  {od an:Option Addr} {sl:Array (Option Value)} {oc kV dc pm cd ct:Value} (qh:bd K mainGlobals "SlipError" = some (some (.ref mH))) (tE:bd K mainGlobals "TooFew" = some (some (.ref l9))) (rY:bd K mainGlobals "NoCurve" = some (some (.ref nT))) (rZ:bd K mainGlobals "NoPaper" = some (some (.ref nU))) (sd:bd K mainGlobals "NoPlace" = some (some (.ref nV))) (qP:bd K mainGlobals "NoNumber" = some (some (.ref nD))) (uB:bd K mainGlobals "Heard" = some (some (.ref pC))) (qQ:bd K mainGlobals "NotHeard" = some (some (.ref nE))) (o7:bd K mainGlobals "NothingLeft" = some (some (.ref mK))) (tF:bd K mainGlobals "NoText" = some (some (.ref oO))) (uC:bd K mainGlobals "NoRow" = some (some (.ref pD))) (qR:∃ f fd,Dn K "value_at" zbF f fd) (pE:∃ f fd,Dn K "times_root" zay f fd) (se:∃ f fd,Dn K "choices" za0 f fd) (pF:∃ f fd,Dn K "check_many" zaY f fd) (tG:∃ f fd,Dn K "due_of" zcE f fd) (oQ:∃ f fd,Dn K "vanishing_at" zaz f fd) (qi:∃ f fd,Dn K "many_near" zac f fd∧TabOf K f TP) (tH:∃ f fd,Dn K "_law_cell" zcF f fd) (sf:∃ f fd,Dn K "_law_draws" zb1 f fd) (sh:∃ f fd,Dn K "_law_whole" zb2 f fd) (tI:∃ f fd,Dn K "_law_code" zbT f fd) (si:∃ f fd,Dn K "_law_value" zb3 f fd) (tJ:∃ f fd,Dn K "_law_word" zcG f fd) (tK:∃ f fd,Dn K "_law_fits" zbq f fd) (uD:∃ f fd,Dn K "_law_due" zcH f fd) (tL:∃ f fd,Dn K "_law_told" zcI f fd)  (xi_TooFew:fL K l9 zjM "ValueError.__new__" = true) (oj:aY K (.ref l9) (.ref l9)=some true) (nW:aY K (.ref l9) (.ref nT)=some false) (nX:aY K (.ref l9) (.ref nU)=some false) (nY:aY K (.ref l9) (.ref nV)=some false) (nL:aY K (.ref l9) (.ref nD)=some false) (oR:aY K (.ref l9) (.ref pC)=some false) (nM:aY K (.ref l9) (.ref nE)=some false) (nj:aY K (.ref l9) (.ref mK)=some false) (om:aY K (.ref l9) (.ref oO)=some false) (oS:aY K (.ref l9) (.ref pD)=some false) (tN:aY K (.ref l9) (.type "ValueError")=some true) (tO:eg K (.ref l9) (.ref mH)=some true) (sj:cr K (.ref l9) "__getattribute__" = some (some (.builtin "BaseException.__getattribute__"))) (sk:cr K (.ref l9) "__getattr__" = some none) (sm:cr K (.ref l9) "__class__" = some (some (.builtin "object.__class__"))) (su:bH K l9 (.type "object")=some true) (sv:bH K l9 (.type "BaseException")=some true) (sx:eg K (.ref l9) (.ref l9)=some true) (sb:bH K mH (.type "BaseException")=some true)
  (al:bd K mainGlobals "law" = some (some (.ref fl))) (ll:K.lookup fl=some ⟨oc,od,.func (cE "law" "law" (za9 zbr) (zao zbr) (zg zbr) .none kV dc pm an cd ct),sl⟩) (cl:ee K cd "law" = true) (kl:dJ K (.ref fl)=true) (yA:bd K mainGlobals "len" = some none) (uE:bd K mainGlobals "range" = some none) (wa:bd K mainGlobals "list" = some none) (uF:bd K mainGlobals "tuple" = some none) (yB:bd K mainGlobals "min" = some none) (yC:bd K mainGlobals "max" = some none) (pG:bd K mainGlobals "isinstance" = some none) (yD:bd K mainGlobals "int" = some none) (wc:bd K mainGlobals "bool" = some none) (yE:bd K mainGlobals "zip" = some none) (qS:bd K mainGlobals "reversed" = some none) (tP:bd K mainGlobals "sorted" = some none) (yF:bd K mainGlobals "set" = some none) (pH:bd K mainGlobals "ValueError" = some none) :
  ∃ fd:FuncData,(∀ (s:Shared) (v:Value),BindsTo s fd ⟨[v],[]⟩ [("script",v)])∧∀ base:Heap,K.In base→base.Ns mainGlobals mg→zd6 mg base→FnOk l.prog w K mg base CX0 8 fa fd ["script"] (zfi TP K):=by
 cases hfa.symm.trans (aZ X G al);obtain⟨f_value_at,p8,nF⟩:=qR;have nC:=nF.f.binds (ps:=["p","polynomial","x"]) #[E3]
 obtain⟨f_times_root,o6,mW⟩:=pE;have mV:=mW.f.binds (ps:=["p","polynomial","root"]) #[E3]
 obtain⟨f_choices,qJ,nZ⟩:=se;have nQ:=nZ.f.binds (ps:=["things","many"]) #[E2]
 obtain⟨f_check_many,nz,mX⟩:=pF;have mB:=mX.f.binds (ps:=["code","t"]) #[E2]
 obtain⟨f_due_of,rQ,oT⟩:=tG;have oH:=oT.f.binds (ps:=["code","t"]) #[E2]
 obtain⟨f_vanishing_at,oh,mF⟩:=oQ;have mE:=mF.f.binds (ps:=["p","roots"]) #[E2]
 obtain⟨f_many_near,pA,nk,tb⟩:=qi;have nh:=nk.f.binds (ps:=["code","t"]) #[E2]
 obtain⟨f_l_cell,rM,oU⟩:=tH;have oD:=oU.f.binds (ps:=["script","k"]) #[E2]
 obtain⟨f_l_draws,oE,n4⟩:=sf;have mP:=n4.f.binds (ps:=["script","k","many","base"]) #[E4]
 obtain⟨f_l_whole,qO,n5⟩:=sh;have mQ:=n5.f.binds (ps:=["found"]) #[E1]
 obtain⟨f_l_code,rT,oV⟩:=tI;have oK:=oV.f.binds (ps:=["script","at","most_k","most_n"]) #[E4]
 obtain⟨f_l_value,qN,n6⟩:=si;have nR:=n6.f.binds (ps:=["p","polynomial","x"]) #[E3]
 obtain⟨f_l_word,rR,oW⟩:=tJ;have oJ:=oW.f.binds (ps:=["e"]) #[E1]
 obtain⟨f_l_fits,rW,oX⟩:=tK;have oM:=oX.f.binds (ps:=["code","row","polynomial"]) #[E3]
 obtain⟨f_l_due,tu,pI⟩:=uD;have pB:=pI.f.binds (ps:=["code","t"]) #[E2]
 obtain⟨f_l_told,rV,oY⟩:=tL;have mR:=oY.f.binds (ps:=["way","code","t"]) #[E3]
 let t:Adr:=⟨TP,mH,l9,nT,nU,nV,nD,pC,nE,mK,oO,pD,f_value_at,f_times_root,f_choices,f_check_many,f_due_of,f_vanishing_at,f_many_near,f_l_cell,f_l_draws,f_l_whole,f_l_code,f_l_value,f_l_word,f_l_fits,f_l_due,f_l_told,fa⟩
 have T:∀ base:Heap,zd6 mg base→Txt K mg base t:=fun base hB=>⟨hB,tb,bt X G yA,bt X G uE,bt X G wa,bt X G uF,bt X G yB,bt X G yC,bt X G pG,bt X G yD,bt X G wc,bt X G yE,bt X G qS,bt X G tP,bt X G yF,bt X G pH,aZ X G qh,aZ X G tE,aZ X G rY,aZ X G rZ,aZ X G sd,aZ X G qP,aZ X G uB,aZ X G qQ,aZ X G o7,aZ X G tF,aZ X G uC,xi_TooFew,⟨oj,nW,nX,nY,nL,oR,nM,nj,om,oS,tN,⟨sj,sk,sm,su,sv,sx⟩,tO⟩,sb,aZ X G nF.a,aZ X G mW.a,aZ X G nZ.a,aZ X G mX.a,aZ X G oT.a,aZ X G mF.a,aZ X G nk.a,aZ X G oU.a,aZ X G n4.a,aZ X G n5.a,aZ X G oV.a,aZ X G n6.a,aZ X G oW.a,aZ X G oX.a,aZ X G pI.a,aZ X G oY.a,⟨_,nF.f,nC⟩,⟨_,mW.f,mV⟩,⟨_,nZ.f,nQ⟩,⟨_,mX.f,mB⟩,⟨_,oT.f,oH⟩,⟨_,mF.f,mE⟩,⟨_,nk.f,nh⟩,⟨_,oU.f,oD⟩,⟨_,n4.f,mP⟩,⟨_,n5.f,mQ⟩,⟨_,oV.f,oK⟩,⟨_,n6.f,nR⟩,⟨_,oW.f,oJ⟩,⟨_,oX.f,oM⟩,⟨_,pI.f,pB⟩,⟨_,oY.f,mR⟩⟩
 have FL:=zjp (st:=zbr) ll cl kl;exact⟨cE "law" "law" (za9 zbr) (zao zbr) (zg zbr) .none kV dc pm an cd ct,fun s v=>.of_eq rfl,fun base _ _ hB=>zmZ (t:=t) (T base hB) FL⟩
theorem walk {TP cP:Addr} {l:iF} {q:Program} {loose:List Str} {XP:(Str→Option Value)→Heap→Prop} {YP:World→Heap→Prop} {d:DefRec} {K:Params→ag} (hn:l.most=some 63) (w6:d.params.defaults = []) (hY:∀ (w:World) (h:Heap),YP w h→(K w.params).In h∧h.get? TP=some (PySem.W.tabObj #[])) (xI:∀ w:World,(K w.params).lookup TP=none) (Bw:∀ w:World,PySem.W.codeHdIn (K w.params) cP TP=true)
  (F:∀ (w:World) (mg:Str→Option Value) (fa:Addr) (h:Heap),(K w.params).In h→h.Ns mainGlobals mg→mg d.name=some (.ref fa)→∃ fd:FuncData,(∀ (s:Shared) (u:Value),BindsTo s fd ⟨[u],[]⟩ [("script",u)])∧∀ base:Heap,(K w.params).In base→base.Ns mainGlobals mg→zd6 mg base→FnOk l.prog w (K w.params) mg base CX0 8 fa fd ["script"] (zfi TP (K w.params))):lH q loose XP YP l.row.toRowW d [] (fun f vs=>kX f vs) :=
 L2.zkf (n:=63) (k:=8) (x:="script") (CX:=fun _=>CX0) (sp:=fun w=>zfi TP (K w.params)) hn #[D] w6 ⟨rfl,#[D],#[D]⟩ hY xI Bw F (fun _ _ a ns hl hT hS=>⟨a,ns,rfl,hS,hl,⟨#[],hT,trivial,.inl rfl⟩,fun _=>rfl⟩) fun _ _ _ _ _ z=>z
end My
namespace PySem.W.Fast
def tw9350043561988797848:Unit:=()
def tw1636774002137846527:Unit:=()
def tw2500500607924771901:Unit:=()
def tw10893833675864263080:Unit:=()
def tw8651558885596682138:Unit:=()
def tw9054225486533372928:Unit:=()
def tw14982443573062941900:Unit:=()
def tw14540791405361692236:Unit:=()
def tw5402704007202423158:Unit:=()
def tw15222038318435539010:Unit:=()
def tw16821445135620166267:Unit:=()
def tw6155675462557716560:Unit:=()
def tw17612476838780568028:Unit:=()
def tw4608911096570065922:Unit:=()
def tw4634199055726202588:Unit:=()
def tw13007451240085329299:Unit:=()
def tw16810103444384151105:Unit:=()
def tw4665157034160877567:Unit:=()
def tw17595718803339588782:Unit:=()
def tw1783501171940647170:Unit:=()
def tw17628437201499805665:Unit:=()
def tw12174564559650493214:Unit:=()
def tw17866118893861575809:Unit:=()
def tw16323833483473475020:Unit:=()
def tw15819192756530615493:Unit:=()
def tw18105125202183008664:Unit:=()
def tw3808350511601945120:Unit:=()
def tw2634805653734739881:Unit:=()
def tw1893607216195397368:Unit:=()
def tw10326267778441608232:Unit:=()
def tw955682936579060936:Unit:=()
def tw14091342568921402049:Unit:=()
def tw9236466729307941836:Unit:=()
def tw18441883375468404895:Unit:=()
def tw1468785192817044491:Unit:=()
def tw16747728870077126567:Unit:=()
def tw16992255071563767839:Unit:=()
def tw466274394837899950:Unit:=()
def tw1021686426915080957:Unit:=()
def tw597500799110098618:Unit:=()
def tw5998766107050213212:Unit:=()
def tw8334505516045441085:Unit:=()
def tw4547486916344647373:Unit:=()
def tw11202772711121905387:Unit:=()
def tw4559163781747518345:Unit:=()
def tw8843127276022814349:Unit:=()
def tw5680610330041058760:Unit:=()
def tw15310383704721956659:Unit:=()
def tw8198694395513061636:Unit:=()
def tw1218050811375388580:Unit:=()
def tw12073040114762691401:Unit:=()
def tw11486524517986485553:Unit:=()
def tw12373307177800620593:Unit:=()
def tw10481498107703221276:Unit:=()
def tw13473347996134822133:Unit:=()
def tw9182595492230597415:Unit:=()
def tw11561941161212359085:Unit:=()
def tw2923832591121952440:Unit:=()
def tw11583417489077897684:Unit:=()
def tw264781786553348400:Unit:=()
end PySem.W.Fast
open PySem PySem.W
open PyProof.Rows
set_option maxHeartbeats 0 in
theorem PySem.Challenge.cw_slipcurve_k23_rows_that_have_many_holds : PySem.Challenge.rw_slipcurve_k23_rows_that_have_many.Holds := by
 w_on; o_law; k_head; (case hw=>w_witness2)
 k_fill
 refine My.walk (TP:=187) (cP:=?cP) (l:=PySem.Challenge.rw_slipcurve_k23_rows_that_have_many) rfl rfl (fun w h Y=>⟨PySem.W.km_in_of Y,PySem.W.km_tabs_of Y 187 #[D]⟩) (fun w=>?KT) (fun w=>?KC) ?F;rotate_left
 case KC=>first | (show PySem.W.codeHdIn _ 189 187=true; with_unfolding_all rfl)
 case KT=>with_unfolding_all rfl
 case F =>
  intro w mg fa h KX G hmg;refine' My.zm0 KX G hmg ?a_SlipError ?a_TooFew ?a_NoCurve ?a_NoPaper ?a_NoPlace ?a_NoNumber ?a_Heard ?a_NotHeard ?a_NothingLeft ?a_NoText ?a_NoRow ⟨_,_,My.zaU ?da_value_at ?dl_value_at ?dc_value_at ?dk_value_at⟩ ⟨_,_,My.zaU ?da_times_root ?dl_times_root ?dc_times_root ?dk_times_root⟩ ⟨_,_,My.zaU ?da_choices ?dl_choices ?dc_choices ?dk_choices⟩ ⟨_,_,My.zaU ?da_check_many ?dl_check_many ?dc_check_many ?dk_check_many⟩ ⟨_,_,My.zaU ?da_due_of ?dl_due_of ?dc_due_of ?dk_due_of⟩ ⟨_,_,My.zaU ?da_vanishing_at ?dl_vanishing_at ?dc_vanishing_at ?dk_vanishing_at⟩ ⟨_,_,My.zaU ?da_many_near ?dl_many_near ?dc_many_near ?dk_many_near,L2.zmK ?dl_many_near rfl ?tc⟩ ⟨_,_,My.zaU ?da_l_cell ?dl_l_cell ?dc_l_cell ?dk_l_cell⟩ ⟨_,_,My.zaU ?da_l_draws ?dl_l_draws ?dc_l_draws ?dk_l_draws⟩ ⟨_,_,My.zaU ?da_l_whole ?dl_l_whole ?dc_l_whole ?dk_l_whole⟩ ⟨_,_,My.zaU ?da_l_code ?dl_l_code ?dc_l_code ?dk_l_code⟩ ⟨_,_,My.zaU ?da_l_value ?dl_l_value ?dc_l_value ?dk_l_value⟩ ⟨_,_,My.zaU ?da_l_word ?dl_l_word ?dc_l_word ?dk_l_word⟩ ⟨_,_,My.zaU ?da_l_fits ?dl_l_fits ?dc_l_fits ?dk_l_fits⟩ ⟨_,_,My.zaU ?da_l_due ?dl_l_due ?dc_l_due ?dk_l_due⟩ ⟨_,_,My.zaU ?da_l_told ?dl_l_told ?dc_l_told ?dk_l_told⟩ ?xi_TooFew ?k_TooFew_TooFew ?k_TooFew_NoCurve ?k_TooFew_NoPaper ?k_TooFew_NoPlace ?k_TooFew_NoNumber ?k_TooFew_Heard ?k_TooFew_NotHeard ?k_TooFew_NothingLeft ?k_TooFew_NoText ?k_TooFew_NoRow ?v_TooFew ?s_TooFew ?e1_TooFew ?e2_TooFew ?e3_TooFew ?e4_TooFew ?e5_TooFew ?e6_TooFew ?sb ?al ?ll ?cl ?kl ?z_len ?z_range ?z_list ?z_tuple ?z_min ?z_max ?z_isinstance ?z_int ?z_bool ?z_zip ?z_reversed ?z_sorted ?z_set ?z_ValueError
  (case a_SlipError=>k_is)
  (case a_TooFew=>k_is)
  (case a_NoCurve=>k_is)
  (case a_NoPaper=>k_is)
  (case a_NoPlace=>k_is)
  (case a_NoNumber=>k_is)
  (case a_Heard=>k_is)
  (case a_NotHeard=>k_is)
  (case a_NothingLeft=>k_is)
  (case a_NoText=>k_is)
  (case a_NoRow=>k_is)
  (case da_value_at=>k_is)
  (case dl_value_at=>k_is)
  (case dc_value_at=>k_is)
  (case dk_value_at=>k_is)
  (case da_times_root=>k_is)
  (case dl_times_root=>k_is)
  (case dc_times_root=>k_is)
  (case dk_times_root=>k_is)
  (case da_choices=>k_is)
  (case dl_choices=>k_is)
  (case dc_choices=>k_is)
  (case dk_choices=>k_is)
  (case da_check_many=>k_is)
  (case dl_check_many=>k_is)
  (case dc_check_many=>k_is)
  (case dk_check_many=>k_is)
  (case da_due_of=>k_is)
  (case dl_due_of=>k_is)
  (case dc_due_of=>k_is)
  (case dk_due_of=>k_is)
  (case da_vanishing_at=>k_is)
  (case dl_vanishing_at=>k_is)
  (case dc_vanishing_at=>k_is)
  (case dk_vanishing_at=>k_is)
  (case da_many_near=>k_is)
  (case dl_many_near=>k_is)
  (case dc_many_near=>k_is)
  (case dk_many_near=>k_is)
  (case da_l_cell=>k_is)
  (case dl_l_cell=>k_is)
  (case dc_l_cell=>k_is)
  (case dk_l_cell=>k_is)
  (case da_l_draws=>k_is)
  (case dl_l_draws=>k_is)
  (case dc_l_draws=>k_is)
  (case dk_l_draws=>k_is)
  (case da_l_whole=>k_is)
  (case dl_l_whole=>k_is)
  (case dc_l_whole=>k_is)
  (case dk_l_whole=>k_is)
  (case da_l_code=>k_is)
  (case dl_l_code=>k_is)
  (case dc_l_code=>k_is)
  (case dk_l_code=>k_is)
  (case da_l_value=>k_is)
  (case dl_l_value=>k_is)
  (case dc_l_value=>k_is)
  (case dk_l_value=>k_is)
  (case da_l_word=>k_is)
  (case dl_l_word=>k_is)
  (case dc_l_word=>k_is)
  (case dk_l_word=>k_is)
  (case da_l_fits=>k_is)
  (case dl_l_fits=>k_is)
  (case dc_l_fits=>k_is)
  (case dk_l_fits=>k_is)
  (case da_l_due=>k_is)
  (case dl_l_due=>k_is)
  (case dc_l_due=>k_is)
  (case dk_l_due=>k_is)
  (case da_l_told=>k_is)
  (case dl_l_told=>k_is)
  (case dc_l_told=>k_is)
  (case dk_l_told=>k_is)
  (case xi_TooFew=>with_unfolding_all rfl)
  (case k_TooFew_TooFew=>rfl)
  (case k_TooFew_NoCurve=>rfl)
  (case k_TooFew_NoPaper=>rfl)
  (case k_TooFew_NoPlace=>rfl)
  (case k_TooFew_NoNumber=>rfl)
  (case k_TooFew_Heard=>rfl)
  (case k_TooFew_NotHeard=>rfl)
  (case k_TooFew_NothingLeft=>rfl)
  (case k_TooFew_NoText=>rfl)
  (case k_TooFew_NoRow=>rfl)
  (case v_TooFew=>rfl)
  (case s_TooFew=>rfl)
  (case e1_TooFew=>k_is)
  (case e2_TooFew=>k_is)
  (case e3_TooFew=>k_is)
  (case e4_TooFew=>k_is)
  (case e5_TooFew=>k_is)
  (case e6_TooFew=>rfl)
  (case sb=>k_is)
  (case al=>k_is)
  (case ll=>k_is)
  (case cl=>k_is)
  (case kl=>k_is)
  (case z_len=>k_is)
  (case z_range=>k_is)
  (case z_list=>k_is)
  (case z_tuple=>k_is)
  (case z_min=>k_is)
  (case z_max=>k_is)
  (case z_isinstance=>k_is)
  (case z_int=>k_is)
  (case z_bool=>k_is)
  (case z_zip=>k_is)
  (case z_reversed=>k_is)
  (case z_sorted=>k_is)
  (case z_set=>k_is)
  (case z_ValueError=>k_is)
  (case tc=>with_unfolding_all rfl)
#print axioms PySem.Challenge.cw_slipcurve_k23_rows_that_have_many_holds
end