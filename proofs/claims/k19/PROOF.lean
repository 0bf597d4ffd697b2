import PyProof.Rows.All
import Wide.All
import OpenK.AllK
import Wide.FinOn
import Lean
import PyProof.EqAt
import PyProof.EqKinds
import KE.KDictOf
import PyProof.AttrMissHeap
import PyProof.Rows.MinMaxN
import PyProof.ListMulRoad
import KE.KUnpackStar
import KE.KIntText
import PyProof.CallStr
import KE.KDictSum
import KE.KSortTup
import PyProof.Walk
import PyProof.Rows.SortRuns
import PyProof.Rows.ChunkEnd
import PyProof.Rows.Range3
import PyProof.Rows.SeqGen
import PyProof.ConsumeWalk
import PyProof.ListRange
import PyProof.NeKinds
import PyProof.TupleCall
import PySem.Challenge.RW_slipcurve_k19_near_ones_by_papers
set_option maxHeartbeats 3999000
open List renaming length_map->aA,getElem?_map->aF,getElem?_eq_getElem->aJ,length_append->aL,map_append->aN,size_toArray->aO,getElem?_eq_some_iff->aP,replicate->aQ,mem_cons->aR,mem_of_getElem?->aU,mem_cons_of_mem->aV,mem_map->aZ,range->bA,take_of_length_le->bC,length_take->bD,mem_singleton->bF,mem_cons_self->bG,mem_append_right->bH,length_range->bI,mem_append->bQ,not_mem_nil->bS,mem_range->bU,mem_append_left->bV,length_replicate->bW,map_cons->bX,getD_eq_getElem?_getD->bY,getElem?_range->cH,lookup_cons->cI,zipWith->cJ,append_assoc->cK,map_map->cR,getElem?_append_right->cS,mem_filter->cV,append_nil->dn,getElem?_append_left->dA,map_congr_left->dD,pairwise_map->dE,getElem?_eq_none_iff->dG,getElem?_take_of_lt->dL,length_cons->dM,take_append_drop->dP,length_filter_le->dQ,take_length->d6,replicate_succ->d8,take_sublist->d9,getElem?_eq_none->eD,filter_append->eE,drop_eq_getElem_cons->eP,pairwise_iff_getElem->eQ,getElem?_cons_succ->fb,nodup_iff_pairwise_ne->fk,length_drop->fm,mem_iff_getElem?->fu,extract_eq_take_drop->fw,range_succ->fE,ext_getElem?->fM,getElem?_replicate->fO,filter_cons_of_pos->fP,filter_cons_of_neg->fQ,filterMap_cons->fS,getElem_mem->fV,mem_flatMap->fW,getElem?_set_self->fX,drop_eq_nil_of_le->fY,nodup_cons->gf,forIn_cons->gg,flatten_cons->gm,getElem?_set_ne->gq,take_zero->gz,flatten_replicate_singleton->gF,getElem_of_mem->gH,length_eq_zero_iff->gI,find?_cons->gN,getElem?_drop->gO,zip_cons_cons->gP,filter_nil->gQ,range_succ_eq_map->gR,nodup_append->gV,length_singleton->gX,drop_zero->g9,all_eq_true->ie,map_take->im,sum_cons->ip,length->iq,length_zipWith->iw,length_take_le->iz,mem_map_of_mem->iA,flatMap_append->iB,of_mem_zip->iD,getElem?_zip_eq_some->iF,map_nil->iJ,eq_of_mem_replicate->iN,map_replicate->iO,getD->iP,forIn_nil->iS,getElem?_cons_zero->iZ,any_cons->jj,drop_length->jt,concat_eq_append->jy,getElem?_of_mem->jK,mem_of_mem_take->jL,eq_nil_of_length_eq_zero->jP,lookup->jY,pairwise_cons->j8,map_drop->kh,take_nil->kj,any_eq_false->kq,take_add_one->kz,flatMap_cons->kB,nodup_range->kM,nil_sublist->kQ,sublist_nil->kR,set_eq_of_length_le->kT,length_set->kZ,foldl_cons->k6,length_nil->k9,sum_append->lb,drop_of_length_le->lG,getElem?_zipWith->lO,drop_drop->lQ,eq_nil_or_concat->lR,pairwise_append->ml,mem_of_mem_drop->mo,dropLast_concat->mF,all_cons->mM,filter_sublist->mZ,length_pos_iff->m5,map_eq_nil_iff->m7,mem_filterMap->nj,forIn_toArray->nF,getElem?_take->nJ,getElem_take->nT,map_id->n4,zipIdx_cons->oq,any_eq_true->oB,foldl->oH,nil_append->oI,zipIdx_nil->oK,length_zip->oR,nodup_nil->oV,take_take->oW
open PySem renaming wpAny_bind->aB,wpAny_pure->aI,sizeLine_eq->bO,wpAny_callSpecial?_slot->cP,wpAny_field->cT,wpAny_call_entry->cU,wpAny_holding->cX,wpAny_setField_rec->dv,wpAny_mono->dN,wpAny_rule->dO,wpAny_of_eq->dR,boot_len->dS,wpAny_newObj_type->ed,wpAny_attempt->eh,wpAny_seqItems->et,builtinLookup_eq_fast->eS,wpAny_ite_false->fe,wpAny_truthy_bool->fL,wpAny_typeNameOfWhole_keyiter->fN,wpAny_Call_Name_kw->f9,wpAny_execs_nil->gd,wpAny_passesOwn->ge,typeLookup_type->gh,codeAny_builtin->gi,wpAny_pyIter_enum->gp,call_meets->gu,wpAny_setField->gw,wpAny_tryCatch->gA,wpAny_isInstance->gC,mem_of_lookup->gG,plainId_quiet->gK,wpAny_pyIter_tuple->gL,wpAny_loadPart'->gM,wpAny_letGo->gS,wpAny_pyIter_list->gT,wpAny_standAt->ik,wpAny_letOwnedTupleGo_enum->il,isSubtype_type->iQ,isSubtype_stop->iR,wpAny_pyIter_rangeiter->jc,wpAny_onRaise->jh,wpAny_pyIter_zip->jm,wpAny_call->jz,codeAny_mono->jA,wpAny_specialOf->jC,wpAny_updateSeq_pair->jF,codeAny_call_builtin->jG,wpAny_newTuple->jS,wpAny_ite_true->jT,seqIndex_of->jX,intItems_at->jZ,tupleKind_room_in1->j6,wpAny_newFunctionEnv_cells->kf,wpAny_pyIter_slot->kx,wpAny_dictEntries->kA,wpAny_execs_cons->kG,noFill_tuple_add->kH,wpAny_comprehension_free->kK,callType_new->kL,numAt_eq->kS,wpAny_looks_onW->k8,wpAny_dictEpoch->la,wpAny_updateSeq->lg,wpAny_pyNext_range_end->lr,codeAny_call_function->lJ,codeAny_handlers_test->lP,wpAny_notOrdered_dict->lS,wpAny_isOneOf_keyiter->lU,wpAny_loadName_local->lX,wpAny_pyIter_revIter->me,wpAny_pyIter_keyiter->mB,seq_tuple_add->mJ,wpAny_handled->mK,nums_intItems->mQ,wpAny_loadName_cell->mR,wpAny_specialOf_val->mV,wpAny_handleBy_cons->mW,concat_meets->nr,seqIndex_neg->nu,wpAny_landsW->nG,wpAny_typeOf->nI,list_append->nP,wpAny_throw->nY,wpAny_Name->oD,typeIs_int->oG,call->oJ,Within->o8
open PySem.W renaming Frag->aD,kitOne->bN,nsIn->bZ,mroIn->du,findIn->dH,kia_one->dJ,fnOf->eU,kitCls->ft,hideAll->gc,keepIn->gv,excIn->gJ,codeIn->gW,hideAll_get->iu,cellsFrom_some->jd,Looks->ji,looks_mroIn->jQ,of_hideAll->j1,callWith_K->j2,mg_of->km,methodObj->ko,instObj->kY,OpenLaw->k7,lookIn->lI,hideAll_none->lW,looks_findIn->mi,codeRec_of->nk,kitx_list->nN,kitx_dict->nO,plainGet->n8,kat_kind->oA,kit_cls->oP,WalkO->o6
open Nat renaming le_refl->aG,le_trans->bR,ne_of_lt->bT,lt_of_lt_of_le->cA,zero_le->cB,add_sub_cancel->dw,lt_irrefl->dI,zero_add->eC,min_eq_left->fG,add_zero->f',le_div_iff_mul_le->gj,lt_succ_of_lt->gn,sub_zero->gE,mul_succ->hJ,succ_le_succ->hX,le_max_right->ij,le_succ->ir,pow_le_pow_left->iC,le_max_left->iG,ne_of_gt->iH,mul_comm->iK,sub_self->iM,succ_ne_self->jl,mul_le_mul_right->jN,mul_le_mul->jW,lt_of_le_of_lt->j7,le_of_succ_le->kt,le_of_lt->kF,succ_mul->kJ,le_add_right->kN,div_le_self->li,pow_le_pow_right->mC,add_le_add_left->m6,pow_succ->nH,lt_succ_of_le->nV,one_pow->n6,le_of_not_lt->oh,lt_succ_self->oj,succ->oo
open PySem.Heap renaming get?_push_of_some->aH,lt_size->aW,get?_push_size->aY,SameBut->cM,size_push->cZ,get?_update_other->dZ,get?_update_self->eR,get?_update_ne->mY,ExtBut->nX
open Or renaming inl->aK,inr->d7
open PyProof.Rows renaming wpS_bind->aS,wpS_pure->aT,callWith_type1->cD,boot_isinstance->dY,wpS_forRange->eY,zipApart_new->fB,wpS_mono->fT,wpS_modify->ig,wpS_get->iU,boot_tuple->iW,wpS_lift->jU,boot_list->j9,lands_againW->kD,pairsOf_size->kP,subscriptTail_builtinR->ly,mirror_perm->lF,boot_enumerate->lK,pairsOf_toList->lV,boot_range->lY,boot_min->mH,boot_max->mI,listUpdate_at->mP,getElem?_mirror_all->mX,seqEpoch_at->nZ,boot_zip->om
open Int renaming emod_lt_of_pos->bE,emod_nonneg->bL,toNat_natCast->dq,le_refl->dB,le_trans->dF,zero_mul->eJ,zero_add->eK,emod_eq_of_lt->fc,mul_le_mul_of_nonneg_right->fH,add_zero->g7,le_of_lt->g8,mul_zero->jE,pow_succ->jI,natCast_mul->jM,fdiv_eq_ediv_of_nonneg->kd,mul_comm->kO,natCast_ediv->kU,natCast_add->lh,natCast_nonneg->nK,lt_of_le_of_lt->nL,ofNat_le->nM,lt_trichotomy->nU,mul_one->nW,mul_add->n5,natCast_sub->oS
open Option.some renaming inj->bJ,injEq->kC
open Bool renaming false_ne_true->bK,false_eq_true->cG,eq_iff_iff->fz,and_eq_true->ic,not_eq_true'->nS,and_false->oU
open PySem.Paired renaming length->bM,snoc->cY,mono->eZ
open PySem.Value renaming ref->bP,none->eI,bool->hU,int->ju,builtin->ki,str->nc,type->oC,isStrOf->o0
open Array renaming length_toList->cC,getElem?_toList->cL,toList_append->dz,getElem?_eq_some_iff->fj,toList_extract->fF,perm_iff_toList_perm->io,toList_reverse->jH,append_assoc->ni,toList_map->oz,size_map->oX,toList->o9
open PySem.Builtin.Range renaming rangeFitsLong->cE,rangeSize->cN
open PySem.Builtin.SmallTypes renaming nextOf->cF,ownedTupleIsFree->dC,ownedTupleHandOut->eX,newRecord->oT
open PySem.Str renaming ofString->cQ
open PySem.PassesOwn renaming never->cW
open Classical renaming byContradiction->dm,propDecidable->fR,em->nB
open PySem.F renaming plainAttrs_list->dU,slot_enumerate_next->fq,slot_zip_next->fC,slot_list_append->fJ,type_list_append->fK,slot_dict_keyiterator_next->fU,slot_tuple_iterator_next->gk,args_tuple_add_2->iI,entry_tuple_add->iX,args_enumerate_next_1->iY,args_zip_next_1->ja,slot_tuple_add->je,entry_enumerate_next->jf,entry_zip_next->jn,entry_max_loop->jo,plain_max_loop->jp,entry_min_loop->jq,plain_min_loop->jr,slot_dict_get->jw,args_object_init_2->jD,args_dict_keyiterator_next_1->jJ,entry_dict_keyiterator_next->jO,args_tuple_iterator_next_1->jR,entry_tuple_iterator_next->j3,args_dict_get_3->kW,typeCall_enumerate_1->lC,entry_dict_get->lE,typeCall_reversed_1->lL,newCall_enumerate_1->lM,entry_enumerate_new->lN,args_list_append_2->lZ,newCall_reversed_1->mf,entry_reversed_new->mh,excBase_ValueError->mj,plain_reversed_new->mG,entry_list_append->mS,slot_list_append->nA,called_enumerate->nE,slot_dict_iter->ou
open PySem.NameKind renaming free->dW,cell->fh
open False renaming elim->dX
open Ne renaming symm->eG
open ForInStep renaming yield->eL,done->iV
open Sum renaming inl->ff,inr->kE
open PySem.Heap.SameBut renaming update->fg
open PySem.Obj renaming data_mapFields->fo,mapSeq->fA,isFreed_of_fields->gZ,mapFields->kg,cls_mapFields->ku
open PySem.Around renaming under_plainId->fI,in1_units->gD
open PySem.Calls renaming spliced_cons->fZ,spliced_nil->gU,evalArgs_plain->jB,Name_function_global->kb,callWith_builtin->lA
open PySem.Builtin.Builtins renaming bindParams->gb
open True renaming intro->gr
open PySem.Builtin.List renaming listTooLong->gB
open List.Perm renaming trans->iE
open List.Pairwise renaming imp_of_mem->iL,imp->jb,sublist->jx,nil->kr,filter->mE
open PySem.Draws renaming list->iT
open Option renaming map_eq_some_iff->jg,getD_some->jk,toList->mL,isSome_some->nC,getD_none->n9,none->ph
open PySem.W.KF renaming type_class->jv
open PySem.Builtin.Dict_items renaming ownsTuple->jV
open PySem.SeqAt.EqAt renaming of_refs->j4,int_str->ng,str_int->nh,same->oF
open PySem.ExceptHandler renaming ExceptHandler->j5
open PySem.Builtin.Dict renaming updateFrom->kX,showsAll->lT
open Sum.inl renaming inj->lj
open PySem.Data renaming fields->lq
open PyProof renaming noPylong_small->lx
open PySem.Shared renaming heap->lB
open PySem.Builtin.Getset_descriptor renaming descrCheckInstance->lD,descrNameAndClass->lH,descrGetter->m8,descrGet->nQ
open List.cons renaming inj->mO
open PySem.SeqAt.RcNeAt renaming tuples->mT
open PySem.Manifest renaming signature?->mU
open PySem.Builtin.ObjectAttr renaming dataDescriptor?->nR,takesStores->oO,attrName->oZ,bindTo->o7,getOf->pc,find->pf
open PySem.IsL renaming update->og
open PySem.SeqAt renaming EqAt->oE
open PySem.Walks renaming list->oM
open PyProof.Rows.SortSt renaming mk'->oQ
open PyProof.Rows.Boot renaming ValueError->oY
open Prod renaming ext->pd
open PySem.Manifest.AttrKind renaming slot->pi
open PySem.PyData renaming bool->pj
open PySem.W.KatTups renaming cons->pq
local macro_rules | `(tactic| trivial)=>`(tactic| first | exact .inl rfl | exact .inr rfl | assumption)
local macro_rules|`(#[$xs,*])=>do
 let a:=xs.getElems
 if h:a.size=0 then Lean.Macro.throwUnsupported else
 let s:=a[0].raw.getId.eraseMacroScopes.toString
 if s=="Y" then `((of_decide_eq_true rfl)) else if s=="O" then `(by lia) else if s=="D" then `(by decide) else if s=="N" then `(by decide +kernel) else if s=="S" then `(⟨rfl,rfl,rfl,by decide +kernel,rfl,by decide +kernel,by decide +kernel⟩) else if s=="A" then `(Or.inl rfl) else if s=="M" then `(by simp) else
 match [("_____eb","ze"),("________eee","za3 zj"),("________eeee","zZ"),("_","zh5 zJ zI zan zeF zY z8 zL zM zgB zd zcU zkd zci zcv zaF zaT zw zcw zF zdF zbK zap zh4 zbQ zpO zag"),("_e__f","pvx"),("_________ereeeddrr","zq zao"),("___er","ya"),("___e","zl zbP zbD"),("____e","zB z9 zmI z0 zj9 zaJ zcS zjl"),("_______eeeu","zU"),("____","zf zdE zdQ"),("__e____efeert","zn"),("_____e","zai zfJ"),("______b","zdu"),("_____eer","za zi"),("________________eefeeeneedrr","zp"),("________efeeei","zaX"),("______feer","zae"),("__e_efet","zg"),("____er","zct"),("____________eeeeeerrrrr","zeG"),("_f","zes zeB"),("_____________efeeeeei","zO"),("__f","zam"),("_ef","za7 zaU"),("__________eeee","zbC"),("______eerrr","za5"),("______ferr","zaW"),("_____________e___efeefeeeeerit","zbs"),("_______ee","zmk zml"),("___","zer"),("______eee","zh2"),("__e______efeeet","zjn"),("___fe","zy"),("_________feerr","zdW"),("_e___e_fferr","zaf"),("________feer","zfw"),("_______eeei","zmn"),("___ee","zh6"),("______ee","zpN"),("_____________________efeeddeeeeeeeie","zkF"),("_________effeeedrr","zfH"),("_______________","zcB"),("_e___________fefeeedd","zjM"),("_e___fe","ziU"),("_______feerr","zgz"),("__e__feed","zbb"),("_____________________e___efeefeeddeeeeeeeriet","zfR"),("___ei","zfo"),("__e__feefdd","zj8"),("_______e_efeert","zgT"),("__________________eefeeeneedrr","zfI"),("_e","zmH")].find? fun q=>(q.2.splitOn " ").contains s with
 |none=>Lean.Macro.throwUnsupported
 |some (p,_)=>do
  let mut r:=#[]
  let mut i:=1
  for c in p.toList do
   if c=='e' then
    r:=r.push (a[i]!)
    i:=i+1
   else if c=='b' then
    r:=r.push (<-`((by exact $(a[i]!))))
    i:=i+1
   else r:=r.push (<-match c with|'_'=>`(_)|'r'=>`((by rfl))|'d'=>`((by decide))|'f'=>`(rfl)|'t'=>`((by trivial))|'i'=>`((by intro _; rfl))|'u'=>`((fun _ _=>rfl))|'n'=>`(.nil)|'l'=>`(Or.inl rfl)|'o'=>`(Or.inr rfl)|_=>`(nomark _))
  return Lean.Syntax.mkApp (<-`(@$(⟨a[0].raw⟩):ident)) r
def qO:=["::","+","-","++","=","<=","->","<"]
def Xg:Nat->Nat->List String->Lean.MacroM (List (Lean.TSyntax `term)×List String)
|0,_,_=>Lean.Macro.throwUnsupported
|n+1,0,ts=>match ts with
 |"fun"::ts=>do
  let (bs,r):=ts.span (·≠"=>")
  let (b,r)<-Xg n 0 (r.drop 1)
  let mut e:=b.head!
  for x in bs.reverse do
   e<-if x=="_" then `(fun _=>$e) else let i:=Lean.mkIdent x.toName; `(fun $i=>$e)
  return ([e],r)
 |_=>do
  let (a,r)<-Xg n 1 ts
  let l:Lean.TSyntax `term:=if a.length=1 then a.head! else Lean.Syntax.mkApp a.head! a.tail.toArray
  match r with
  |o::q=>do
    if !qO.contains o then return ([l],r)
    let (e,q)<-Xg n 0 q
    let e:=e.head!
    let x<-match o with|"::"=>`($l :: $e)|"+"=>`($l+$e)|"-"=>`($l-$e)|"++"=>`($l++$e)|"="=>`($l=$e)|"<="=>`($l<=$e)|"->"=>`($l->$e)|_=>`($l<$e)
    return ([x],q)
  |_=>return ([l],r)
|n+1,1,ts=>match ts with
 |[]=>return ([],[])
 |t::ts=>if t==")"||t=="⟩"||t==","||t=="]"||qO.contains t then return ([],t::ts) else do
  let (a,r)<-if t=="(" && ts[1]?==some ":=" then do
    let (e,r)<-Xg n 0 (ts.drop 2)
    pure (⟨.node .none ``Lean.Parser.Term.namedArgument #[.atom .none "(",Lean.mkIdent ts.head!.toName,.atom .none ":=",e.head!,.atom .none ")"]⟩,r.drop 1)
   else if t=="(" then do
    let (e,r)<-Xg n 2 ts
    let f:=e.head!
    let e:=e.tail.toArray
    pure (<-if e.size=0 then `(($f)) else `(($f,$e,*)),r.drop 1)
   else if t=="⟨" then do
    let (e,r)<-Xg n 2 ts
    let e:=e.toArray
    pure (<-`(⟨$e,*⟩),r.drop 1)
   else if t=="#[" then do
    let (e,r)<-Xg n 2 ts
    let e:=e.toArray
    pure (<-`(#[$e,*]),r.drop 1)
   else if t=="_" then pure (<-`(_),ts)
   else if t=="?_" then pure (<-`(?_),ts)
   else if t.front.isDigit then pure (Lean.Syntax.mkNumLit t,ts)
   else if t.front=='.' then let i:=Lean.mkIdent (t.drop 1).toString.toName; pure (<-`(.$i:ident),ts)
   else if t.front=='@' then let i:=Lean.mkIdent (t.drop 1).toString.toName; pure (<-`(@$i),ts)
   else pure (⟨Lean.mkIdent t.toName⟩,ts)
  let (l,r)<-Xg n 1 r
  return (a::l,r)
|n+1,_,ts=>do
 let (e,r)<-Xg n 0 ts
 if r.head?==some "," then
  let (l,r)<-Xg n 2 (r.drop 1)
  return (e++l,r)
 return (e,r)
local macro_rules|`(#[$x:ident])=>do
 let s:=x.getId.eraseMacroScopes.toString++" "
 match ("mt ( fun pR A outer s H vs Q E hr h => ?_ )
or ( fun _ _ _ _ => #[ zaf , ( K ) , 2 , #[ zi , #[ zg , 0 , #[ Y ] , #[ A ] ] , #[ zi , #[ zg , 1 , #[ Y ] , #[ A ] ] , #[ zF ] ] ] ] )
re ( zV X N' scope s₃ H₃ ex pv )
ss ( model X.prog X.w )
sK ( fun vs H Q E h => ?_ )
ul ( model prog w )
ut ( fun _ _ _ _ => #[ zw ] )
v6 ( hr.mono #[ D ] )
wf ( .ListComp elt ( ⟨ tg , iter , ifs , 0 ⟩ :: gs ) scope pos )
wn ( fun _ _ _ _ => #[ zg , 0 , #[ Y ] , #[ A ] ] )
wp ⟨ rfl , I.turned ( t' := s.toks ) ( fun b o hb e => eb b o hb e ) f0 f1 f3 f4 f5 ⟩
wv ( cxX P w K mg base N qual scope f cd A outer s₀ H₀ E )
ww ( .ref s.heap.objs.size )
wE ( arrOf st )
wP #[ zaJ , #[ zy , #[ zy , #[ zap ] ] ] ]
wS ⟨ #[ O ] , #[ O ] ⟩
xz ( a.toList ++ b.toList )
xL ( .ListComp elt gens scope pos )
At ( List Int )
AC ( pF rfl rfl ( pz rfl ?_ ) )
AT #[ pvx , 0 ]
BT ( .lst ( ls.map V.ref ) )
Ch ( bs.map V.ref )
Cl ( ha pos pv s σ H _ I h )
Db #[ pvx , 1 ]
Do ( arrOf pE )
Ev ( s.heap.objs.size + 1 )
EQ ( ns.map V.int )
Fa ⟨ fun b o e n hb hx => ?_ , fun b o e n hb hx => ?_ , I.base.free , fun b o e hx => ?_ , I.base.ML , I.base.M5 , I.base.Na ⟩
Fr ( pV pl rw )
FB ( pz rfl ( pF rfl rfl ⟨ p0 , ?_ ⟩ ) )
FM ( mvd p x y rows )
FS ( fun _ => ?_ )
Go ( wb ( sa + k ) out.toList.zipIdx #[ wE ] )
GE ( zac I q #[ M ] )
GM ( false , eval a X.env )
GT ( .lst ( us.map V.ref ) )
Id #[ pvx , 2 ]
Ix ( false , eval e X.env )
IN ( false , eval b X.env )
IO ( Option Int )
IR ( qx x0 ( n + 1 ) A )
KB ( fun t => b ( t + 1 ) )
KK ( eU name qual params body scope dV kV doc pm an pR ct )
KM ( envOfC qual scope s.heap.objs.size f cd )
LE ⟨ _ , rfl , .inr ⟨ _ , _ , _ , _ , _ , _ , rfl , rQ , #[ O ] , #[ O ] , #[ O ] , #[ O ] , #[ O ] ⟩ ⟩
No ( cs.drop ( cs.length - i ) )
NE ( fun i x y R B hx hy hR => ?_ )
On ( zat rows rows.length )
Op ( backTo pos ( starEach es X.env ) )
Os ( Option Nat )
Pi ( fun t => l ( t + 1 ) )
PP ( fun t => F ( t + 1 ) )
PX #[ za , #[ zf ] , #[ ya , #[ zf ] ] ]
PY #[ .int lo t , .int hi u , .int 1 v ]
PZ ( I1.hok.fresh ( aG _ ) )
P0 ⟨ _ , rfl , .inr ⟨ _ , _ , _ , _ , _ , _ , rfl , rQ , #[ O ] , #[ O ] , #[ O ] ⟩ ⟩
P3 ( pF rfl rfl ?_ )
P4 #[ ya , #[ Db ] ]
P5 ( Cg.of_eq #[ O ] )
P6 ( fun ys H' _ => aG _ )
P7 #[ pvx , 3 ]
P8 ( s.heap.push ( zbO l1 ) )
P9 ⟨ _ , _ , _ , _ , _ , _ , _ , rfl , rfl , rQ , #[ O ] , #[ O ] , #[ O ] , #[ O ] , #[ O ] ⟩
Qa ( .lst ( rw.map tS ) )
Qb ( eU x qual ( zb2 st ) ( zbl st ) ( zh st ) .none kV doc pm an pR ct )
Qc ( ds.map V.int )
Qd ( EP X pv σ Q )
Qe ( .tup ( ls.map V.ref ) )
Qf ( fun t => c t i )
Qg ⟨ #[ D ] , #[ D ] ⟩
Qh ( σ.set i ( some x ) )
Qi ( bT ( cA ( aW e ) I.ok.above ) )
Qj ( Draws.tuple hh n a ( nq #[ O ] ) qb.toArray )
Qk ( zt5 C s.heap l1 l2 )
Ql ( zt2 C s.heap l1 l2 )
Qm ( ha pv s σ H _ I h )
Qn ( I.ok.hd hc )
Qo #[ za , #[ AT ] , #[ za , #[ Db ] , #[ ya , #[ Id ] ] ] ]
Qp ( zb1 CX P w K mg base N qual scope f pR A outer s H E )
Qq ( .ref C )
Qr ( fun i ys H' hi _ => hi )
Qs #[ .int i tk , .ref hp.objs.size ]
Qt #[ pvx , 4 ]
Qu ( A.deeper ( envOfC qual ( zh st ) s.heap.objs.size f pR ) )
Qv ( Cg.emod p _ )
Qw #[ z9 , #[ ya , #[ zf ] ] ]
Qx ( max ( s + 1 ) ( max rows.length ( wd rows ) ) )
Qy ( .ref l )
Qz ( pz rfl ?_ )
QA ( cxH P w K mg base N qual scope f pR A outer s H E )
QB #[ zj , #[ zL ] , #[ zU , #[ zI ] , #[ pvx , 8 ] , #[ zf ] ] , #[ zf ] ]
QC ⟨ _ , _ , _ , _ , _ , _ , _ , rfl , rfl , rQ , #[ O ] , #[ O ] , #[ O ] ⟩
QD ( zcd n e c )
QE ( .ref D )
QF ( Cg.refl p _ )
QG ( zat #[ FM ] rows.length )
QH #[ ya , #[ pvx , 5 ] ]
QI ⟨ n - ( i + 1 ) , #[ O ] , rfl , pT , p' ⟩
QJ ⟨ I.base.keep , I.base.slot , fun b u e n hx => ?_ , I.base.there , fun b xs e => ?_ , fun b u xs e => ?_ , fun b ps e => ?_ ⟩
QK ( .ref a )
QL ( ms.map V.int )
QM ( .Tuple es k rj )
QN ( fun _ _ _ _ => #[ AT ] )
QO #[ zU , #[ zI ] , #[ pvx , 8 ] , #[ pvx , 11 ] ]
QP ( .inl rfl )
QQ #[ ya , #[ AT ] ]
QR ( zat ( zK n wi c ) n )
QS ( fun c o _ _ qz e _ => ⟨ o.slots , k1 c o qz e ⟩ )
QT ( .ref it )
QU ( pO.same ( zb hD ) )
QV ( .tup ( k.map kV ) )
QW ( pz rfl ( pF rfl rfl ⟨ p0 , hR ⟩ ) )
QX ( jU ( dO ⟨ rfl , ?_ ⟩ ) )
QY ( pB H1 pr ( .lst ( zt.map V.int ) ) )
QZ ( tupleKind ( zaB P w ) )
Q0 #[ zj , #[ z8 ] , #[ zf ] , #[ Db ] ]
Q3 ( .Name x pos' )
Q4 ( he pv s σ H _ I h )
Q5 ( h3.objs.size + 1 )
Q6 ( zc0 hC hk sH ep mp ?_ )
Q7 ( shO ( mq 0 ( k1 + 1 ) b ) n #[ PP ] v )
Q8 ( .lst xs )
Q9 ( .Tuple es k pos )
Ra ( pz rfl ( pz rfl ( ex7 c tt r p k pl rw ⟨ rfl , hc , hR , #[ O ] , fun l bs H1 wF s1 tJ hB => ?_ ⟩ ) ) )
Rb ( .lst #[ Ch ] )
Rc ( us.map V.ref )
Re ( .frz o ( .dT pD ) )
Rf ⟨ bL _ #[ O ] , bE _ p0 ⟩
Rg #[ zq , #[ zJ ] , T.MR , dS , #[ P4 ] ]
Rh #[ zp , pY , #[ v6 ] , T.Lv , pN.kp , pX , #[ zM ] , #[ za , #[ AT ] , #[ P4 ] ] ]
Ri ( c.map V.int )
Rj ( I.base.keep b o e n hb hx )
Rk ( pz rfl #[ AC ] )
Rl ( fun _ _ e => e )
Rm ( fun t i => cu rows t i )
Rn ( fun _ _ _ _ _ _ _ _ I m q => zdG I m q )
Ro ( nq #[ O ] )
Rp ( Cg.of_eq #[ M ] )
Rq ⟨ BB i ys H pT p , Pv ( i + 1 ) , fun vF H' p' => #[ QI ] , fun x H' y => hs i x ys H H' pT p y ⟩
Rr ( start N vs )
Rs ( pairsOf vs )
Rt ( K w.params )
Ru ( model Y.prog Y.w )
Rv ( I1.hok.fresh hle )
Rx ( assignEach es X.env )
Ry ( fun _ _ => False )
Rz ( fun _ _ _ _ n => n )
RA ( fun _ _ _ _ => #[ zbD , #[ zZ , #[ zgB ] , #[ zq , #[ zaU , ( K ) ] , T.MR , dS , #[ ya , #[ zp , xl , #[ v6 ] , T.OX , uc.kp , xk , #[ zM ] , #[ za , #[ Db ] , #[ za , #[ Id ] , #[ QQ ] ] ] ] ] ] , #[ P7 ] , ( zad _ ) ] ] )
RB ( .ref pH )
RC ( .ref pG )
RD ( d7 rfl )
RE ( putK pD k v )
RF ( pendingOf qi )
RG ( cs.map V.int )
RH #[ zU , #[ zI ] , #[ Qt ] , #[ zf ] ]
RI ( bT ( cA ( aW e ) ( I.ok.cab x c E6 hc ) ) )
RJ ( D , zeT pC nn )
RK ( fun _ _ z => s _ _ z )
RL ( pz rfl ⟨ #[ O ] , #[ O ] , ?_ ⟩ )
RM ( aQ ( kept - 1 ) ( V.int 0 ) )
RN ( pz rfl ( pz rfl ( pz rfl ( pF rfl rfl ⟨ .inr #[ wS ] , ( pF rfl rfl #[ FB ] ) ⟩ ) ) ) )
RO ( pz rfl ( pz rfl ( pz rfl ( pF rfl rfl ⟨ .inl #[ wS ] , ( pF rfl rfl #[ QW ] ) ⟩ ) ) ) )
RP ( pz rfl ( pz rfl ( pF rfl rfl ⟨ .inl #[ wS ] , ( pz rfl ( pF rfl rfl #[ FB ] ) ) ⟩ ) ) )
RQ #[ zl , #[ zB , #[ zdQ ] ] ]
RT ( fun c o _ _ qz e _ => k1 c o qz e )
RU #[ ya , #[ Id ] ]
RV ( fun v s2 => wpAny #[ ss ] X.A ( pyIter v ) ( PIE X pv σ tg R ) X.xe s2 )
RW ( aI ( aB ( aB ( aB ( fN hit.typeIs ( aI ( aB ( wpAny_fieldsOf ho hd ?_ ) ) ) ) ) ) ) )
RX ( .ref z )
RY ( ts.map tK )
RZ ( s1 _ _ ha )
R0 ( xs.extract i j )
R1 ( pB H' D ( .lst ys ) )
R3 ( bH _ ( bH _ ( zcu hb e ) ) )
R4 ( pF rfl rfl ⟨ .inl #[ wS ] , #[ FB ] ⟩ )
R5 #[ zj , #[ zL ] , #[ zU , #[ zI ] , #[ pvx , 7 ] , #[ zf ] ] , #[ zf ] ]
R6 ( setArr ( zax rK g ) ( wb ( sa + k ) out.toList.zipIdx ( arrOf ( zax rK g ) ) ) )
R7 ( Cg.of_eq ?_ )
R8 ( .builtin id )
R9 ( zat rows m ++ trm m r j )
Sa ( cU fC yi jn ?_ ( ja _ ) )
Sb ( HT.sIx xs.length xs.length hi - HT.sIx xs.length 0 lo )
Sc ( .tup xs )
Sd ( .bool true )
Se ( pl.map V.int )
Sf ( Option Value )
Sg ( mq 0 n #[ KB ] l )
Sh ( fun _ _ _ e => e )
Si ⟨ n , #[ M ] , cB _ , h0 ⟩
Sj ( xs.toList.drop i )
Sl ( nums p n e c p.toNat )
Sm ( backTo qj ( starEach es X.env ) )
Sn ( .compLoop #[ wf ] 0 it #[ QE ] env )
So ⟨ len , fun A outer s H args us vs Q E hr e0 hb r vL => ?_ ⟩
Sr ( zb1 CX P w K mg base N qual scope f cd A outer s H E )
Ss ( yg.extBut _ _ Z.zTO.symm ( qO.extBut _ _ Z.z1.symm Cs ) )
Su #[ ya , #[ P7 ] ]
Sv ( fun _ q => q )
Sw ( s1.trans ( zb hD ) )
Sx ( eU x x ( zb2 st ) ( zbl st ) ( zh st ) .none kV dc pm an cd ct )
Sy ( wd rows )
Sz ( zaa ez ?_ )
SA ( aB ( gA ( cX ( aB ( vR ( j + 1 ) ( argBest bt j ) v vb _ _ _ hP FP ?_ ) ) ) ) )
SD #[ pvx , 6 ]
SE ( chs xs m )
SG ( zg7 s₁.heap H )
SH ( zcg ( zaI i ) ( zcg ( zaI j ) zjm ) )
SJ ( fun d v' hd q => k1 d v' ?_ q )
SK ( zaa ey ( aS ( zaa ez ( aS ( znf hC hk ( mb y my ) ( ma z mz ) ?_ ) ) ) ) )
SL ( A.deeper ( envOfC qual scope s.heap.objs.size f pR ) )
SM ( s.heap.push ( zbO l ) )
SN ( .lst ( cs.map V.ref ) )
SO ( fun s₃ H₃ ex pv D => zjt rfl ( he s₃ H₃ ex pv ) )
SQ ( .ref e )
SR ( zaP k S )
SS ( gl w ld )
ST ( .Name x pos )
SU #[ ya , #[ pvx , 8 ] ]
SV ( ho pv s σ H _ I h )
SW ( hl pv s σ H _ I h )
SX #[ zj , #[ zaF ] , #[ Id ] , #[ zf ] ]
SY ( ex6 c tt r z r' ls ⟨ rfl , hc , uu , rL , hn , hp , qM , qh , wM , k1 , yw , t0 , t1 , hz , qA , hT , EN , DR , xP , m0 , Bb ⟩ )
SZ ( pz rfl ( pz rfl ( pF rfl rfl ( pF rfl rfl ⟨ #[ wS ] , #[ P3 ] ⟩ ) ) ) )
S0 ( model P w )
S3 ( ks.zip ys )
S4 ( pendingOf st )
S5 ( nums p n e c m )
S6 ( I.hok.fresh ( aG _ ) )
S7 ( .lst ( v.map V.int ) )
S8 ( sliceBounds lo hi none n )
S9 #[ zj , #[ z8 ] , #[ Id ] , #[ Db ] ]
Ta ⟨ lim.keeps x.toInCall.keep , codeAny_func ?_ ⟩
Tb ( pz rfl ( pF rfl rfl ⟨ .inl #[ Qg ] , ( pF rfl rfl ( q _ ) ) ⟩ ) )
Tc ( pyNext #[ QT ] )
Td ( fun m hm => ?_ )
Te ( jC hl.typeIs slot_tuple_getitem.lookup ?_ )
Tf ( .ref i2 )
Tg ( .ref i1 )
Th ( pB H a o )
Ti ( fB ha hb )
Tj #[ ya , #[ Qt ] ]
Tk ( binaryOp .Add )
Tl ( X.env :: X.outer )
Tn ( hb pv s1 σ H1 _ I1 q1 )
To ( I.base.free b o e n hx )
Tp ( .ref t.Ly )
Tq ( .List es qB )
Tr ⟨ 0 , rfl , #[ D ] , #[ D ] ⟩
Ts ( ( p , w ) :: P.zip vs )
Tt ( .ref f )
Tu ( fun t => f ( t + 1 ) )
Tv #[ zg , 2 , #[ Y ] , #[ A ] ]
Tw ( gw ho hd #[ M ] ?_ )
Tx ( f ( .int i t ) ( .int j u ) )
Ty ( fun h' c' kp e => fin pC r' hz h' c' kp e )
Tz ( .int p )
TB #[ za7 , ( K ) ]
TC ( zK n w g )
TD ( arrOf rm )
TF ( ls.map V.ref )
TH ( sb.sub #[ O ] #[ O ] )
TJ ( zkk EA g2 Ez ( zkj te ) )
TK ( fun b z => absurd z #[ M ] )
TN ( cU fq hT jf ?_ ( iY _ ) )
TQ #[ za , #[ pvx , 8 ] , #[ ya , #[ pvx , 10 ] ] ]
TR ( ho pv s2 σ H2 x y v u _ I2 r1 r2 q2 )
TU #[ z9 , #[ zd ] ]
TV ( typeOf ( .ref x ) )
TW ⟨ pT , Pv ( i + 1 ) , fun σ' H' p' => #[ QI ] , fun x H' y => ?_ ⟩
TX ( fun T t R B ht hT hR => gY2 hT ⟨ _ , rfl , hR ⟩ )
TY #[ pvx , 5 ]
TZ ( .dT pD )
T3 ( .lst ys )
T4 ( pJ.take n )
T5 ( cJ f as bs )
T6 ⟨ u , v , kk _ #[ M ] _ h3 ⟩
T7 ( fun h => absurd ( of_decide_eq_true h ) #[ O ] )
T8 ( wL ( j - 1 ) #[ O ] )
T9 ⟨ zaO , _ , .cons ru ( .cons rv .nil ) , zbt pp ⟩
Ua ( pz rfl ( .inl ⟨ pA.of zc , fun l hl => ?_ ⟩ ) )
Ub ( pK.of zc )
Uc ⟨ rfl , ?_ ⟩
Ud ( .tup #[ Ch ] )
Ue ( s2.trans s3 )
Uf ( gallopOf st )
Ug ( I.hok b u e )
Uh ( Cg.refl _ _ )
Ui ⟨ rfl , fun _ _ => rfl ⟩
Uj ( zt4 C s.heap l1 l2 )
Uk ( ze4 p b n wi c m i )
Ul ( wd rows - r.length )
Um ( hi pv s σ H _ I h )
Uo ( h pv s σ H _ I hw )
Up ( fun t => sh x0 W ( F t ) )
Uq ( fun h => absurd h #[ M ] )
Ur ( .lst ( w0.map V.int ) )
Us ( .lst ( ts.map V.ref ) )
Ut ( .lst ( os.map V.ref ) )
Uu #[ zU , #[ zcU ] , #[ pvx , 9 ] , #[ zf ] ]
Uv ( backTo qj ( starEach ( e :: es ) X.env ) )
Uw ( hit p q )
Ux ( hf b hb )
Uy ( σ.set i none )
Uz ( y - zA p x cs )
UA ( I.ok.bs b o e )
UB #[ zae , T.La , #[ RU ] ]
UC ⟨ fl , ( pz rfl ⟨ .inl ( pA.of h6 ) , #[ Rk ] ⟩ ) ⟩
UD ( fun Iv s' h' => aI ( And.intro rfl h' ) )
UE ( dO ( aB ( cT hz rfl ( x := .ref TO ) rfl ?_ ) ) )
UF ( zbn pJ + 1 )
UG #[ ya , #[ SD ] ]
UH ( .ref ( n + 4 ) )
UI ( .ref ( n + 1 ) )
UJ ( vl ( k1 + 1 ) f x0 )
UK ( fun i => u i + v i )
UL ( zcs I hg hm ?_ Av )
UM ( xJ a1 a2 a3 a4 a5 )
UN ( pv ++ zcT fp s7.heap )
UO ( assign #[ Q3 ] X.env )
UP ( argBest bt ( n - 1 ) )
UQ ( @ite _ c inst x y )
UR ( .ref hp.objs.size )
US #[ zq , #[ zJ ] , T.MR , dS , #[ QQ ] ]
UT #[ zq , #[ zJ ] , T.MR , dS , #[ QH ] ]
UU #[ zj , #[ zY ] , #[ pvx , 8 ] , #[ zf ] ]
UV ( kk _ _ Z.zTI Z.TT Z.T1 Z.T2 yf )
UW ( iV ( some none , st.snd.fst , st.snd.snd ) )
UX #[ zbb , ( .int 4 ) , T.Lm.choose_spec , ⟨ _ , rfl ⟩ ]
UY ( zdc ha hb )
UZ ( zaa ey ?_ )
U0 ( s7 _ _ h6 )
U1 ( s3 _ _ yz )
U2 ( ps.zip us )
U3 ( pJ.take i )
U4 ( SP X pv D )
U5 ( .Name x p )
U6 ( pyNext ( bP I ) )
U7 ( pJ.map ( md p ) )
U8 ( lo + st.snd.fst )
U9 ( fun c u e => ?_ )
Va #[ zl , #[ zB , #[ P7 ] ] ]
Vb #[ za , #[ Db ] , #[ Su ] ]
Vc #[ za , #[ AT ] , #[ P4 ] ]
Vd ( cT hz rfl ( x := .bool false ) rfl ?_ )
Ve ( .cons ( ( w2.trans w3 ) _ _ zc ) .nil )
Vf ( .compLoop #[ xL ] d #[ QT ] #[ QE ] Y.env )
Vg ( pA X.K )
Vh ( V.int 0 )
Vi ( CX1 P w )
Vj ( zK n w c )
Vl ( .frz o u )
Vm ( eval o X.env )
Vn ( eval e X.env )
Vo ( bA xs.length )
Vp ( ad p f cs vs )
Vq ( TP X pv σ Q )
Vr ⟨ .bl _ , H , I , rfl , ?_ ⟩
Vs ( σ.set i ( some v ) )
Vt ( xs.extract i ( i + k ) )
Vu ( quo p r ( d :: cs ) )
Vv ( mv a b n w c t s )
Vw ( lB ⟨ hp , g , d , tk , os ⟩ )
Vx ( fun obj => jD obj _ )
Vy ( fun f vs => oJ f vs )
Vz ( fun b o e => aH _ e )
VA ( decide_eq_true h )
VB ( aB ( et hS rfl ?_ ) )
VC ( Str -> Option Value )
VD #[ zj , #[ zcv ] , #[ QO ] , #[ zf ] ]
VE ( S.h.dr hh ( n + 1 ) b #[ Ro ] p4.toArray )
VF ( .compLoop #[ xL ] d it #[ QE ] Y.env )
VG ⟨ rfl , #[ Qz ] ⟩
VH ( ts.take ( m + 1 ) )
VI ⟨ w' , z.sameBut hs ( cne y c e ) ⟩
VJ ( fun pS qV qW ac bc => ( none , qV , qW , pS , ac , bc ) )
VL ( fun pS qI qC ac bc => ( none , pS , qI , qC , ac , bc ) )
VM ( fun _ _ _ _ => #[ zj , #[ zL ] , #[ zj , #[ zaF ] , #[ AT ] , #[ S9 ] ] , #[ P7 ] ] )
VN ( cU gk hit.typeIs j3 ?_ ( jR _ ) )
VO ( cU fU hit.typeIs jO ?_ ( jJ _ ) )
VP ( cT he rfl ( x := .ref z ) rfl ( aB ?_ ) )
VQ ( .dK pD )
VR ( fun _ => 0 )
VS ( some #[ Q3 ] )
VT ( fun pT => ?_ )
VU ( fun _ => rfl )
VV ( aI ( aI ?_ ) )
VW ( .lst #[ Qc ] )
VX ( pz rfl #[ P3 ] )
VY ( fun c pL => ?_ )
VZ ( fun D hD => ?_ )
V1 ( fun x1 x2 => x1 ++ x2 )
V2 ( SC.free y hy hf )
V3 ( Am.trans ( zb tZ ) )
V4 #[ zj , #[ zY ] , #[ Q0 ] , #[ zf ] ]
V5 #[ zj , #[ zL ] , #[ RH ] , #[ zf ] ]
V6 ⟨ k , c , e , z.sameBut hs ( cne y c e ) ⟩
V7 ⟨ _ , Au , fun j y v' e1 e2 e3 => ?_ ⟩
V8 ⟨ .int ( g i j ) , H , I.tok _ , ⟨ _ , rfl ⟩ , q ⟩
V9 ( zK n ( wi + ( n - 1 ) ) ( ze4 p b n wi c ) )
Wa ( fun s' kk h2 A' Q' E' rf => ?_ )
Wb ( fun s' A' kk => znt I hT hB kk )
Wc ( fun r => Good val #[ xz ] r.toList )
Wd ( fun _ _ _ _ => #[ zj , #[ zY ] , #[ AT ] , #[ zj , #[ z8 ] , #[ SX ] , #[ Db ] ] ] )
We ( fun _ _ _ _ => #[ zj , #[ zL ] , #[ zj , #[ zY ] , #[ AT ] , #[ S9 ] ] , #[ P7 ] ] )
Wf ( Itt K a )
Wg ( Itl K a )
Wh ( u2.trans u3 )
Wi ( tOp r ta tb )
Wj ( s1.trans s2 )
Wk ( r.map V.int )
Wl ( e0.bs b o e )
Wm ( bs.map V.bl )
Wn ( I.hok c u e )
Wo ( GO b o e hx )
Wp ( Cg.refl p x )
Wq ( .bool false )
Wr ( vs.toArray.zip vs.toArray )
Ws ( pz rfl ( pF rfl rfl ⟨ #[ O ] , hR ⟩ ) )
Wt ( dR ( newClass_reversed _ ) ?_ )
Wu ( cT hz rfl ( x := .ref TI ) rfl ?_ )
Wv ( cT ho hd ( x := .int _ 0 ) rfl ?_ )
Ww #[ pvx , 9 ]
Wx ( pK X.K )
Wy ( .ref p )
Wz ( .ref b )
WA ( zbv rows )
WB ( xs.map f )
WC ( kept - 1 )
WD ( zdT ix σ )
WE ( zdM k s g )
WF ( ts.map tI )
WG ( .ref t.Mc )
WH ( zaB X.prog X.w )
WI ( qk.same ( zb hD ) )
WJ ( pO.same ( zb tZ ) )
WK ( h.push ( zbO l1 ) )
WL ( fun j h1 h2 => ?_ )
WM ( a₀.size - lo )
WN ⟨ rfl , .inr ⟨ _ , _ , _ , _ , _ , rfl , sM , #[ O ] , #[ O ] , #[ O ] , #[ O ] , #[ O ] ⟩ ⟩
WO ⟨ T' , _ , rfl , pK.of zc , rfl , _ , _ , rfl , _ , _ , rfl , rfl , ?_ ⟩
WP ( znu hc FK FN BM FO he rG )
WQ ( zeU p pl rw qq pl.length )
WR ( zb ( o := .lst ( vs.map V.ref ) ) hD )
WS ( wb sa m.toList.zipIdx xs )
WT ( us.map V.ref ++ vs.map V.ref )
WU ( sA.trans ( zb ( o := .rng 0 p ) CB ) )
WV ( nxs p n e wi c known #[ Sl ] )
WW ( nxs p n e wi c known #[ S5 ] )
WX ( letOwnedTupleGo tg #[ QT ] u )
WY ( iT hh ( n + 1 ) b #[ Ro ] p4.toArray )
WZ ( iT FT n a #[ Ro ] qb.toArray )
W1 ( iT FT ( n + 1 ) b #[ Ro ] p4.toArray )
W2 ( fun x l' r' R Dr k1 k2 => ?_ )
W4 ( fun it D env => zmE it D env )
W5 ⟨ zaq ( bR ( iz _ _ ) #[ O ] ) , ?_ , rfl ⟩
W6 ⟨ T , _ , rfl , pK.of zc , rfl , _ , _ , rfl , _ , _ , rfl , rfl , ?_ ⟩
W7 ( za4 I hg hm hv ?_ hn Av )
W8 ( xJ a1 a2 a3 a4 a5 a6 a7 )
W9 ( min xs.length ys.length )
Xa ( fun t s => mv a b n w c t s )
Xb ( fun r o hG => aT ⟨ g , r , _ , rfl , rfl , hG ⟩ )
Xd ( cT ho hd ( x := .ref t ) rfl ?_ )
Xe ( cT ho hd ( x := .ref l ) rfl ?_ )
Xf ( AM a1 a2 a3 a4 a5 a6 a7 )".splitOn "\n").find? (·.startsWith s) with
 |some l=>return ((<-Xg 400 0 ((l.splitOn " ").drop 1)).1.head!)
 |none=>Lean.Macro.throwUnsupported
noncomputable section
set_option Elab.async false
set_option linter.all false
set_option maxRecDepth 100000
namespace L2
open PySem PySem.Spec PyProof.Rows
variable {A:Around} {Ab:Array #[Sf]} {C it:Addr} {CX:CXT} {H H':Hp} {K:aD} {M:Model} {N:List Str} {P:Program} {X:Cx} {an od:Option Addr} {cd ct doc oc pR pm:Value} {fd:FuncData} {fp:List Addr} {h:Heap} {j k t' tk:Nat} {mg:Str->Option Value} {pC us:List Value} {pos:Pos} {pv sS:List (Addr×Obj)} {qual:Str} {s s' s1:Shared} {scope:Scope} {sp:Sp} {tg:Expr} {v y:V}
abbrev Key:=Sum Int Str
def zgw:Key->Value->Bool
 | .inl k,v=>Value.isInt k v
 | .inr x,v=>o0 x v
def zsf (w:World):Key->Int
 | .inl k=>hashInt k
 | .inr x=>hashStr w x
theorem zaA:∀ {k:Key} {v:Value},zgw k v=true->(∃ i t,k=ff i/\v=ju i t)\/(∃ x t,k=kE x/\v=nc x t)
 | .inl i,v,h=>by
  obtain⟨t,e⟩:=Value.isInt_shape (k:=i) (v:=v) h;exact .inl ⟨i,t,rfl,e⟩
 | .inr x,v,h=>by
  obtain⟨t,e⟩:=Value.isStrOf_shape (x:=x) (v:=v) h;exact .inr ⟨x,t,rfl,e⟩
theorem zk5 (i:Int) (t:Tok):zgw (.inl i) (.int i t)=true:=by simp [zgw,Value.isInt]
theorem zk6 (x:Str) (t:Tok):zgw (.inr x) (.str x t)=true:=by simp [zgw,o0]
theorem zqh (a b:Int):decide ((ff a:Key)=ff b)=(a == b):=by
 by_cases e:a=b
 ·subst e; simp
 ·have h:¬ (ff a:Key)=ff b:=fun q=>e (lj q)
  rw [decide_eq_false h];exact (beq_eq_false_iff_ne.mpr e).symm
theorem zqi (a b:Str):decide ((kE a:Key)=kE b)=decide (a=b):=by
 by_cases e:a=b
 ·subst e; simp
 ·have h:¬ (kE a:Key)=kE b:=fun q=>e (Sum.inr.inj q)
  rw [decide_eq_false h,decide_eq_false e]
theorem zqj (a:Int) (b:Str):decide ((ff a:Key)=kE b)=false:=decide_eq_false (fun q=>nomatch q)
theorem zqk (a:Str) (b:Int):decide ((kE a:Key)=ff b)=false:=decide_eq_false (fun q=>nomatch q)
noncomputable def zaB (prog:Program) (w:World):PySem.KeyKind prog w Key where
 is:=zgw
 hash:=zsf w
 inj:=fun v a b ha hb=>by
  rcases zaA ha with ⟨i,t,rfl,rfl⟩ | ⟨x,t,rfl,rfl⟩
  ·rcases zaA hb with ⟨j,u,rfl,e⟩ | ⟨y,u,rfl,e⟩
   ·injection e with e1 _; rw [e1]
   ·exact nomatch e
  ·rcases zaA hb with ⟨j,u,rfl,e⟩ | ⟨y,u,rfl,e⟩
   ·exact nomatch e
   ·injection e with e1 _; rw [e1]
 byValue:=fun k v h=>by
  rcases zaA h with ⟨i,t,rfl,rfl⟩ | ⟨x,t,rfl,rfl⟩ <;> rfl
 pyHash:=fun hv h=>by
  rcases zaA hv with ⟨i,t,rfl,rfl⟩ | ⟨x,t,rfl,rfl⟩
  ·exact wpAny_pyHash_int h
  ·exact wpAny_pyHash_str h
 eqBool:=fun hu hv h=>by
  rcases zaA hu with ⟨i,t,rfl,rfl⟩ | ⟨x,t,rfl,rfl⟩
  ·rcases zaA hv with ⟨j,u,rfl,rfl⟩ | ⟨y,u,rfl,rfl⟩
   ·rw [zqh] at h; exact wpAny_eqBool_int h
   ·rw [zqj] at h; exact ng i t y u _ _ _ _ h
  ·rcases zaA hv with ⟨j,u,rfl,rfl⟩ | ⟨y,u,rfl,rfl⟩
   ·rw [zqk] at h; exact nh x t j u _ _ _ _ h
   ·rw [zqi] at h; exact wpAny_eqBool_str h
 «strs»:=fun k x t v h=>by
  rcases zaA h with ⟨i,u,rfl,e⟩ | ⟨y,u,rfl,e⟩
  ·exact nomatch e
  ·injection e with e1 _
   subst e1;cases v <;> rfl
theorem zhZ (prog:Program) (w:World) (i:Int) (t:Tok):(zaB prog w).is (.inl i) (.int i t)=true:=zk5 i t
theorem zh0 (prog:Program) (w:World) (x:Str) (t:Tok):(zaB prog w).is (.inr x) (.str x t)=true:=zk6 x t
inductive V where
 | non | bl (b:Bool) | int (i:Int) | str (x:Str) | byt (b:Array UInt8) | flt (b:UInt64) | ref (a:Addr) | ty (n:String)
 deriving DecidableEq
def RelV:V->Value->Prop
 | .non,u=>u=eI
 | .bl b,u=>u=hU b
 | .int i,u=>∃ t,u=ju i t
 | .str x,u=>∃ t,u=nc x t
 | .byt b,u=>∃ t,u=Value.bytes b t
 | .flt b,u=>∃ t,u=Value.float b t
 | .ref a,u=>u=bP a
 | .ty n,u=>u=oC n
abbrev zR:List V->List Value->Prop:=Paired RelV
theorem zR.length {xs:List V} (r:zR xs us):xs.length=us.length:=bM r
theorem zR.get:∀ {xs:List V} {us:List Value} {i:Nat} {x:V},zR xs us->xs[i]? = some x->∃ u,us[i]? = some u/\RelV x u
 | _,_,_,_,.nil,e=>by simp at e
 | _,_,0,_,.cons r _,e=>by simp at e; subst e; exact⟨_,rfl,r⟩
 | _,_,i+1,x,.cons _ t,e=>by
  obtain⟨u,h1,h2⟩:=zR.get (i:=i) (x:=x) t (by simpa using e);exact⟨u,by simpa using h1,h2⟩
theorem zR.set {x:V} {u:Value} (r:RelV x u):∀ {xs:List V} {us:List Value} (i:Nat),zR xs us->zR (xs.set i x) (us.set i u)
 | _,_,_,.nil=>.nil
 | _,_,0,.cons _ t=>.cons r t
 | _,_,i+1,.cons q t=>.cons q (zR.set r i t)
theorem zR.append:∀ {xs ys:List V} {us ws:List Value},zR xs us->zR ys ws->zR (xs++ys) (us++ws)
 | _,_,_,_,.nil,s=>s
 | _,_,_,_,.cons r t,s=>.cons r (zR.append t s)
theorem zR.take:∀ {xs:List V} {us:List Value} (n:Nat),zR xs us->zR (xs.take n) (us.take n)
 | _,_,0,_=>.nil
 | _,_,_+1,.nil=>.nil
 | _,_,n+1,.cons r t=>.cons r (zR.take n t)
theorem zR.drop:∀ {xs:List V} {us:List Value} (n:Nat),zR xs us->zR (xs.drop n) (us.drop n)
 | _,_,0,r=>r
 | _,_,_+1,.nil=>.nil
 | _,_,n+1,.cons _ t=>zR.drop n t
def zg6:Option V->Option Value->Prop
 | some v,some u=>RelV v u
 | none,none=>True
 | _,_=>False
def KV {κ:Type}:List (κ×V)->List (κ×Value)->Prop:=Paired fun (p:κ×V) (q:κ×Value)=>p.1=q.1/\RelV p.2 q.2
def kV:Key->V
 | .inl i=>.int i
 | .inr x=>.str x
inductive HO where
 | lst (xs:List V)
 | tup (xs:List V)
 | dK (pD:List (Key×V)) | dT (pD:List (List Key×V))
 | set (S:Int->Bool) (n:Nat)
 | ins (C dx:Addr) (fs:List (Str×V))
 | own (x:Addr)
 | xd (fs:List (Str×V))
 | met (f x:Addr)
 | rng (lo hi:Int)
 | frz (o:Obj) (u:HO)
 | tbl (ps:Array Value)
 | ext (φ:Heap->Prop)
abbrev Hp:=Addr->Option HO
def pB (H:Hp) (a:Addr) (o:HO):Hp:=fun b=>if b=a then some o else H b
theorem zc {a:Addr} {o:HO}:pB H a o a=some o:=by unfold pB; rw [if_pos rfl]
theorem zm {a b:Addr} {o:HO} (h:b≠a):pB H a o b=H b:=by unfold pB; rw [if_neg h]
theorem zop {a:Addr} {o u:HO}:pB #[Th] a u=pB H a u:=by
 funext b; unfold pB; split <;> rfl
theorem zpL {a b:Addr} {o u:HO} (h:H a=some o) (h':H b=some u) (d:o≠u):a≠b:=by
 intro e; subst e; rw [h] at h'; exact d (bJ h')
theorem zu {a b:Addr} {o:HO} (h:H a=some o) (h':H b=none):a≠b:=by
 intro e; subst e; rw [h] at h'; cases h'
section
variable (P:Program) (w:World)
noncomputable def zah (H:Hp) (h:Heap) (a:Addr):HO->Prop
 | .lst xs=>xs.length<=sizeLine/\∃ (pC:List Value) (n:Nat),zR xs pC/\h.get? a=some { cls:=.type "list",data:=.seq pC.toArray n }
 | .tup xs=>xs.length<=sizeLine/\∃ pC:List Value,zR xs pC/\IsTup h a pC.toArray
 | .dK pD=>pD.length<=sizeLine/\(a == sysModules)=false/\∃ vs,KV pD vs/\h.DictOf (zaB P w) a vs
 | .dT pD=>pD.length<=sizeLine/\(a == sysModules)=false/\∃ xs:List (List Key×Addr×Value),
   Paired (fun (p:List Key×V) (q:List Key×Addr×Value)=>p.1=q.1/\H q.2.1=some (.tup (p.1.map kV))/\RelV p.2 q.2.2) pD xs /\
   ∃ o es ep,h.get? a=some o/\o.ExactDict/\o.data = .dict es ep/\es.toList=xs.map (entryOfKey #[QZ])/\(xs.map (·.1)).Nodup
 | .set S n=>h.SetOf (intKind P w) a S n
 | .ins C dx fs=>H dx=some (.own a)/\fs.length<=1000/\dx≠a/\h.get? a=some (kY C dx) /\
   ∃ mA,h.Ns1 dx mA/\(∀ f,zg6 (fs.lookup f) (mA f))/\o8 mA (fs.map (·.1))
 | .own _=>∃ o,h.get? a=some o
 | .xd fs=>∃ mA,h.Ns1 a mA/\∀ f,zg6 (fs.lookup f) (mA f)
 | .rng lo hi=>∃ t u v,h.get? a=some { cls:=.type "range",data:=.fields #[PY] }
 | .frz o u=>h.get? a=some o/\zah H h a u
 | .tbl ps=>h.get? a=some { cls:=.none,data:=.fields ps }
 | .met f x=>h.get? a=some (ko #[Tt] (.ref x))
 | .ext φ=>φ h/\(∃ o,h.get? a=some o)/\∀ h1 h2:Heap,φ h1->(∀ o,h1.get? a=some o->h2.get? a=some o)->φ h2
def HOk (H:Hp) (h:Heap):Prop:=∀ a o,H a=some o->zah P w H h a o
end
section
variable {P:Program} {w:World} {H H':Hp} {h h':Heap} {a:Addr} {o:HO}
theorem zah.lt (x:zah P w H h a o):a < h.objs.size:=by
 cases o with
 | lst xs=>obtain⟨_,_,_,_,e⟩:=x; exact aW e
 | tup xs=>obtain⟨_,_,_,p⟩:=x; exact p.lt
 | dK pD=>obtain⟨_,_,_,_,o,_,_,e,_⟩:=x; exact aW e
 | dT pD=>obtain⟨_,_,_,_,o,_,_,e,_⟩:=x; exact aW e
 | set S n=>obtain⟨o,_,_,_,e,_⟩:=x; exact aW e
 | ins C dx fs=>obtain⟨_,_,_,e,_⟩:=x; exact aW e
 | own y=>obtain⟨_,e⟩:=x; exact aW e
 | xd fs=>obtain⟨_,⟨_,_,_,e,_⟩,_⟩:=x; exact aW e
 | rng lo hi=>obtain⟨_,_,_,e⟩:=x; exact aW e
 | frz ob u=>obtain⟨e,_⟩:=x; exact aW e
 | tbl ps=>exact aW (show h.get? a=some _ from x)
 | met f y=>exact aW (show h.get? a=some _ from x)
 | ext φ=>obtain⟨_,⟨_,e⟩,_⟩:=x; exact aW e
theorem Paired.Pp {α β:Type} {F G:α->β->Prop}:∀ {l₁:List α} {l₂:List β},Paired F l₁ l₂->(∀ a b,F a b->G a b)->Paired G l₁ l₂
 | _,_,.nil,_=>.nil
 | _,_,.cons r t,f=>.cons (f _ _ r) (Paired.Pp t f)
theorem zah.NI (x:zah P w H h a o) (k:∀ b u,(b=a\/H b=some (.own a))->h.get? b=some u->h'.get? b=some u)
  (ho:∀ b,H b=some (.own a)->H' b=some (.own a)) (ht:∀ b xs,H b=some #[Sc]->H' b=some #[Sc]):zah P w H' h' a o:=by
 induction o with
 | lst xs=>obtain⟨z,pC,n,r,e⟩:=x; exact⟨z,pC,n,r,k _ _ #[QP] e⟩
 | tup xs=>obtain⟨z,pC,r,ob,e,c⟩:=x; exact⟨z,pC,r,ob,k _ _ #[QP] e,c⟩
 | dK pD=>obtain⟨z,y,vs,r,ob,es,ep,e,c⟩:=x; exact⟨z,y,vs,r,ob,es,ep,k _ _ #[QP] e,c⟩
 | dT pD =>
  obtain⟨z,y,xs,r,ob,es,ep,e,c⟩:=x;exact⟨z,y,xs,Paired.Pp r fun p q z=>⟨z.1,ht _ _ z.2.1,z.2.2⟩,ob,es,ep,k _ _ #[QP] e,c⟩
 | set S n=>obtain⟨ob,es,ep,t,e,c⟩:=x; exact⟨ob,es,ep,t,k _ _ #[QP] e,c⟩
 | ins C dx fs =>
  obtain⟨d,z,ne,e,mA,⟨od,es,ep,e2,c⟩,r⟩:=x;exact⟨ho _ d,z,ne,k _ _ #[QP] e,mA,⟨od,es,ep,k _ _ (.inr d) e2,c⟩,r⟩
 | own y=>obtain⟨ob,e⟩:=x; exact⟨ob,k _ _ #[QP] e⟩
 | xd fs=>obtain⟨mA,⟨od,es,ep,e,c⟩,r⟩:=x; exact⟨mA,⟨od,es,ep,k _ _ #[QP] e,c⟩,r⟩
 | rng lo hi=>obtain⟨t,u,v,e⟩:=x; exact⟨t,u,v,k _ _ #[QP] e⟩
 | frz ob u ih=>obtain⟨e,q⟩:=x; exact⟨k _ _ #[QP] e,ih q⟩
 | tbl ps =>
  have e:h.get? a=some { cls:=.none,data:=.fields ps }:=x;show h'.get? a=some { cls:=.none,data:=.fields ps };exact k a _ #[QP] e
 | met f y =>
  have e:h.get? a=some (ko #[Tt] (.ref y)):=x;show h'.get? a=some (ko #[Tt] (.ref y));exact k a _ #[QP] e
 | ext φ=>obtain⟨p,⟨o,e⟩,st⟩:=x; exact⟨st _ _ p fun o q=>k _ _ #[QP] q,⟨o,k _ _ #[QP] e⟩,st⟩
theorem HOk.lt (x:HOk P w H h) (e:H a=some o):a < h.objs.size:=(x a o e).lt
theorem HOk.fresh (x:HOk P w H h) (e:h.objs.size<=a):H a=none:=by
 cases q:H a with
 | none=>rfl
 | some u=>exact absurd (cA (x.lt q) e) (dI _)
theorem HOk.kept (x:HOk P w H h) (k:∀ b u,h.get? b=some u->h'.get? b=some u):HOk P w H h':=fun a o e =>
 (x a o e).NI (fun b u _ q=>k b u q) #[Sv] fun _ _ q=>q
theorem HOk.laid (x:HOk P w H h) (k:∀ b u,h.get? b=some u->h'.get? b=some u) (hp:h.objs.size<=a) (new:zah P w #[Th] h' a o):HOk P w #[Th] h':=fun b u e=>by
 have hn:=x.fresh hp;by_cases hb:b=a
 ·subst hb; rw [zc] at e; cases e; exact new
 ·rw [zm hb] at e;exact (x b u e).NI (fun c v _ q=>k c v q) (fun c q=>by rw [zm (zu q hn)]; exact q) fun c xs q=>by rw [zm (zu q hn)]; exact q
end
def Rd (H:Hp) (a:Addr) (u:HO):Prop:=H a=some u\/∃ o,H a=some #[Vl]
theorem Rd.ok {w:World} {a:Addr} {u:HO} (r:Rd H a u) (x:HOk P w H h):zah P w H h a u:=by
 rcases r with r | ⟨o,r⟩
 ·exact x a u r
 ·obtain⟨_,q⟩:=x a _ r;exact q
def Mut:Option HO->Prop
 | some (.lst _)=>True
 | some (.dK _)=>True
 | some (.dT _)=>True
 | some (.set _ _)=>True
 | some (.ins _ _ _)=>True
 | some (.ext _)=>True
 | _=>False
section
variable {P:Program} {w:World} {H:Hp} {h h':Heap} {x e:Addr} {o':HO}
theorem HOk.write (ok:HOk P w H h) (mu:Mut (H x)) (he:e=x\/H e=some (.own x)) (k:∀ b u,b≠e->h.get? b=some u->h'.get? b=some u) (Ej:∃ u,h'.get? e=some u)
  (new:zah P w (pB H x o') h' x o'):HOk P w (pB H x o') h':=fun b u q=>by
 have E4:∀ c y,H c=some (.own y)->c≠x:=fun c y r z=>by subst z; rw [r] at mu; exact mu
 have Ic:∀ c xs,H c=some #[Sc]->c≠x:=fun c xs r z=>by subst z; rw [r] at mu; exact mu
 by_cases hb:b=x
 ·subst hb; rw [zc] at q; cases q; exact new
 ·rw [zm hb] at q;by_cases CV:b=e
  ·have q':H b=some (.own x):=by
    rcases he with z | z
    ·exact absurd (CV.trans z) hb
    ·rw [CV]; exact z
   rw [q] at q'; cases q';obtain⟨v,hv⟩:=Ej;exact⟨v,by rw [CV]; exact hv⟩
  ·refine (ok b u q).NI (fun c v hc r=>k c v ?_ r) (fun c r=>by rw [zm (E4 c b r)]; exact r) fun c xs r=>by rw [zm (Ic c xs r)]; exact r
   rcases hc with rfl | hc
   ·exact CV
   ·rintro rfl;rcases he with z | z
    ·exact E4 c b hc z
    ·rw [hc] at z; cases z; exact hb rfl
end
structure Un (fs ex:List Addr) (H H':Hp) (h h':Heap):Prop where
 keep:∀ b o,h.get? b=some o->H b=none->b∉fs->b∉ex->h'.get? b=some o
 slot:∀ b o,h.get? b=some o->H b=none->b∈fs->b∉ex->∃ sl,h'.get? b=some { o with slots:=sl }
 free:∀ b o,h.get? b=some o->H b=none->b∉ex->H' b=none
 there:∀ b o,h.get? b=some o->b∉ex->∃ o',h'.get? b=some o'
 ML:∀ b xs,H b=some #[Sc]->H' b=some #[Sc]
 M5:∀ b o u,H b=some #[Vl]->H' b=some #[Vl]
 Na:∀ b ps,H b=some (.tbl ps)->∃ more,H' b=some (.tbl (ps++more))
section
variable {fs fs' ex ex':List Addr} {H H1 H2:Hp} {h h1 h2 h':Heap} {a x e:Addr} {o:HO}
theorem Un.any (u:Un fs ex H H1 h h1) {b:Addr} {ob:Obj} (q:h.get? b=some ob) (n:H b=none) (hx:b∉ex):∃ sl,h1.get? b=some { ob with slots:=sl }:=by
 by_cases hb:b∈fs
 ·exact u.slot b ob q n hb hx
 ·exact⟨ob.slots,u.keep b ob q n hb hx⟩
theorem Un.kept (k:∀ b u,h.get? b=some u->h'.get? b=some u):Un fs ex H H h h' :=
 ⟨fun b ob q _ _ _=>k b ob q,fun b ob q _ _ _=>⟨ob.slots,k b ob q⟩,fun _ _ _ n _=>n,fun b ob q _=>⟨ob,k b ob q⟩,fun _ _ q=>q,fun _ _ _ q=>q,fun _ ps q=>⟨#[],by rw [q]; simp⟩⟩
theorem Un.refl:Un fs ex H H h h:=Un.kept fun _ _ q=>q
theorem Un.laid (k:∀ b u,h.get? b=some u->h'.get? b=some u) (hp:h.objs.size<=a) (hn:H a=none):Un fs ex H #[Th] h h' where
 keep:=fun b u q _ _ _=>k b u q
 slot:=fun b u q _ _ _=>⟨u.slots,k b u q⟩
 free:=fun b u q n _=>by rw [zm (bT (cA (aW q) hp))]; exact n
 there:=fun b u q _=>⟨u,k b u q⟩
 ML:=fun b xs q=>by rw [zm (zu q hn)]; exact q
 M5:=fun b u xs q=>by rw [zm (zu q hn)]; exact q
 Na:=fun b ps q=>⟨#[],by rw [zm (zu q hn),q]; simp⟩
theorem Un.write (mu:Mut (H x)) (he:e=x\/H e=some (.own x)) (k:∀ b u,b≠e->h.get? b=some u->h'.get? b=some u) (Ej:∃ u,h'.get? e=some u):Un fs ex H (pB H x o) h h':=by
 have hx:∀ b,H b=none->b≠x:=fun b n z=>by subst z; rw [n] at mu; exact mu
 have hb:∀ b,H b=none->b≠e:=fun b n z=>by
  subst z;rcases he with r | r
  ·exact hx b n r
  ·rw [n] at r; cases r
 have hm:∀ b u,H b=some u->¬ Mut (some u)->b≠x:=fun b u q nm z=>by subst z; rw [q] at mu; exact nm mu
 refine⟨fun b u q n _ _=>k b u (hb b n) q,fun b u q n _ _=>⟨u.slots,k b u (hb b n) q⟩,fun b u q n _=>by rw [zm (hx b n)]; exact n,fun b u q _=>?_,
  fun b xs q=>by rw [zm (hm b _ q fun z=>z)]; exact q,fun b u xs q=>by rw [zm (hm b _ q fun z=>z)]; exact q,fun b ps q=>⟨#[],by rw [zm (hm b _ q fun z=>z),q]; simp⟩⟩
 by_cases CV:b=e
 ·subst CV; exact Ej
 ·exact⟨u,k b u CV q⟩
end
def trk (h:Heap) (H:Hp):List Addr:=(bA h.objs.size).filter fun a=>(H a).isSome
def zg7 (h:Heap) (H:Hp):Heap:=gc h (trk h H)
theorem zk7 (h:Heap) (H:Hp):(zg7 h H).objs.size=h.objs.size:=PySem.W.hideAll_size _ _
theorem zmj {b:Addr} {o:Obj} (e:h.get? b=some o) (n:H b=none):(zg7 h H).get? b=some o :=
 iu _ e fun hm=>by
  have q:(H b).isSome=true:=(cV.mp hm).2;rw [n] at q; simp at q
theorem zoq {b:Addr} {o:Obj} (e:(zg7 h H).get? b=some o):h.get? b=some o/\H b=none:=by
 have e':h.get? b=some o:=j1 (trk h H) e;refine⟨e',?_⟩;cases q:H b with
 | none=>rfl
 | some x =>
  have hm:b∈trk h H:=cV.mpr ⟨bU.mpr (aW e'),by simp [q]⟩;have z:(zg7 h H).get? b=none:=lW (trk h H) hm;rw [z] at e; cases e
structure Mod (K:aD) (mg:Str->Option Value) (base:Heap):Prop where
 kin:K.In base
 glob:base.Ns mainGlobals mg
 blt:∃ mb,base.Ns builtinsNs mb/\∀ x:Str,x≠"__name__"->mb x=bootBuiltins x
 nolimit:base.NoLimit
structure Cx where
 prog:Program
 w:World
 K:aD
 mg:Str->Option Value
 base:Heap
 A:Around
 N:List Str
 s₀:Shared
 H₀:Hp
 env:Env
 outer:List Env
 stack:List Env
 ex:List Addr
 fn:Str->Bool
 calm:Bool
 pn:List (Addr×Obj)
 xe:Value->Shared->Prop
def frs (l:List Env):List Addr:=l.filterMap (·.frame)
abbrev Cx.fs (X:Cx):List Addr:=frs X.outer
def Vis (sc:Scope) (x:Str):Prop:=sc.names.lookup x=some .local\/sc.names.lookup x=some .cell\/sc.names.lookup x=some .free
def Loc (sc:Scope) (x:Str):Prop:=sc.names.lookup x=some .local\/sc.names.lookup x=some .cell
def Look (env:Env) (h:Heap) (m:Str->Option Value) (x:Str) (u:Value):Prop :=
 (env.kindOf x=some .local/\m x=some u)\/((env.kindOf x=some .cell\/env.kindOf x=some .free)/\∃ c,env.cells.lookup x=some c/\h.IsCell c (some u))
structure Cx.Ok (X:Cx):Prop where
 mod:Mod X.K X.mg X.base
 kind:X.env.scope.kind = .function
 glob:X.env.globals=mainGlobals
 blt:X.env.builtins=builtinsNs
 above:X.s₀.heap.objs.size<=X.env.locals
 inj:∀ x y c,X.env.cells.lookup x=some c->X.env.cells.lookup y=some c->x=y
 has:∀ x,(X.env.kindOf x=some .cell\/X.env.kindOf x=some .free)->∃ c,X.env.cells.lookup x=some c
 cab:∀ x c,X.fn x=true->X.env.cells.lookup x=some c->X.s₀.heap.objs.size<=c
 hd:X.calm=true->X.A.handled=none
 frames:X.A.frames=some X.stack
 stk:X.stack=X.outer\/(X.stack=X.env :: X.outer/\X.env.frame=some X.env.locals)
 exf:∀ b∈X.ex,b≠X.env.locals/\∀ x c,X.env.cells.lookup x=some c->c≠b
 bs:∀ b o,X.base.get? b=some o->X.s₀.heap.get? b=some o/\X.H₀ b=none
 bsz:X.base.objs.size<=X.s₀.heap.objs.size
 O0:∀ b o,X.base.get? b=some o->b∉X.ex
 Pa:∀ b∈X.ex,b∉X.fs
 NS:X.s₀.heap.FunFrames X.base X.outer
 frf:∀ b∈X.fs,X.H₀ b=none
structure Inv (X:Cx) (pv:List (Addr×Obj)) (σ:List (Option V)) (H:Hp) (s:Shared):Prop where
 ok:X.Ok
 os:s.os=X.s₀.os
 bare:AllBare s.gens
 base:Un X.fs X.ex X.H₀ H X.s₀.heap s.heap
 loc:∃ m,s.heap.Ns X.env.locals m/\∀ (i:Nat) (x:Str) (v:V),X.N[i]? = some x->σ[i]? = some (some v)->Vis X.env.scope x->∃ u,RelV v u/\Look X.env s.heap m x u
 cell:∀ x c,X.env.cells.lookup x=some c->∃ v,s.heap.IsCell c v
 free:H X.env.locals=none
 LI:∀ x c,X.env.cells.lookup x=some c->H c=none
 pin:∀ p∈X.pn++pv,s.heap.get? p.1=some p.2/\H p.1=none/\p.1≠X.env.locals/\p.1∉X.fs/\∀ v,p.2.data≠.cell v
 hok:HOk X.prog X.w H s.heap
 len:σ.length=X.N.length
section
variable {X:Cx} {pv:List (Addr×Obj)} {σ:List (Option V)} {H H':Hp} {s:Shared} {h':Heap}
theorem Cx.Ok.PL (ok:X.Ok) {b:Addr} {o:Obj} (e:X.base.get? b=some o):b∉X.fs:=fun hb=>by
 have:=(ok.NS.mem hb).1;rw [e] at this; cases this
theorem Inv.bs (I:Inv X pv σ H s):∀ b o,X.base.get? b=some o->s.heap.get? b=some o/\H b=none:=fun b o e =>
 ⟨I.base.keep b o #[UA].1 #[UA].2 (I.ok.PL e) (I.ok.O0 b o e),I.base.free b o #[UA].1 #[UA].2 (I.ok.O0 b o e)⟩
theorem Inv.bk (I:Inv X pv σ H s):∀ b o,X.base.get? b=some o->s.heap.get? b=some o:=fun b o e=>(I.bs b o e).1
theorem Inv.mod (I:Inv X pv σ H s):Mod X.K X.mg X.base:=I.ok.mod
theorem Inv.kIn (I:Inv X pv σ H s):X.K.In s.heap:=I.ok.mod.kin.keeps I.bk
theorem Inv.lt (I:Inv X pv σ H s):X.env.locals < s.heap.objs.size:=let ⟨_,hn,_⟩:=I.loc; hn.lt
theorem Inv.sz (I:Inv X pv σ H s):X.s₀.heap.objs.size<=s.heap.objs.size:=bR I.ok.above (kF I.lt)
theorem Inv.PK (I:Inv X pv σ H s) {a:Addr} (h:s.heap.objs.size<=a):a∉X.fs:=fun hb=>by
 obtain⟨_,o,ho,_⟩:=I.ok.NS.mem hb;exact absurd (cA (aW ho) (bR I.sz h)) (dI _)
theorem Inv.cne (I:Inv X pv σ H s):∀ x c,X.env.cells.lookup x=some c->c≠X.env.locals:=fun x c e z=>by
 obtain⟨v,o,ho,hd⟩:=I.cell x c e;obtain⟨m,⟨o',es,ep,vE,Ek,_⟩,_⟩:=I.loc;rw [z,vE] at ho; cases ho; rw [Ek] at hd; cases hd
theorem Inv.NS (I:Inv X pv σ H s):s.heap.FunFrames X.base X.outer:=by
 have all:∀ (l:List Env),(∀ b∈frs l,b∈X.fs)->X.s₀.heap.FunFrames X.base l->s.heap.FunFrames X.base l:=by
  intro l;induction l with
  | nil=>intro _ _; trivial
  | cons env r ih =>
   intro hs hl;obtain⟨hk,⟨L,o,hf,hn,ho,hd⟩,hr⟩:=hl;have hL:L∈X.fs:=hs L (by unfold frs; rw [fS,hf]; exact bG);obtain⟨sl,e⟩:=I.base.slot L o ho (I.ok.frf L hL) hL fun z=>I.ok.Pa L z hL
   exact⟨hk,⟨L,_,hf,hn,e,hd⟩,ih (fun b hb=>hs b (by unfold frs; rw [fS,hf]; exact aV _ hb)) hr⟩
 exact all X.outer (fun _ hb=>hb) I.ok.NS
theorem Inv.stack (I:Inv X pv σ H s):s.heap.FunFrames X.base X.stack:=by
 rcases I.ok.stk with e | ⟨e,hf⟩
 ·rw [e]; exact I.NS
 ·rw [e];obtain⟨m,hn,_⟩:=I.loc;refine .cons (by rw [I.ok.kind]; decide) hf hn ?_ I.NS;exact Heap.get?_none_of_le (bR I.ok.bsz I.ok.above)
theorem Inv.Ow (I:Inv X pv σ H s):∀ b∈frs X.stack,b∈X.env.locals :: X.fs:=fun b hb=>by
 rcases I.ok.stk with e | ⟨e,hf⟩
 ·rw [e] at hb; exact aV _ hb
 ·rw [e] at hb;unfold frs at hb;rw [fS,hf] at hb;exact hb
theorem Inv.MO (I:Inv X pv σ H s):∀ b∈frs X.stack,H b=none:=fun b hb=>by
 rcases aR.mp (I.Ow b hb) with e | hb
 ·rw [e]; exact I.free
 ·obtain⟨_,o,ho,_⟩:=I.ok.NS.mem hb;exact I.base.free b o ho (I.ok.frf b hb) fun z=>I.ok.Pa b z hb
theorem Inv.step {g':Array GenState} {d':Drawn} {ch:List Addr} (I:Inv X pv σ H s)
  (wB:∀ b∈ch,(b∈X.ex\/X.s₀.heap.objs.size<=b)/\b≠X.env.locals/\(∀ x c,X.env.cells.lookup x=some c->c≠b)/\∀ p∈X.pn++pv,p.1≠b)
  (keep:∀ b o,b≠X.env.locals->b∉X.fs->b∉ch->s.heap.get? b=some o->H b=none->h'.get? b=some o)
  (slot:∀ b o,b≠X.env.locals->b∈X.fs->b∉ch->s.heap.get? b=some o->H b=none->∃ sl,h'.get? b=some { o with slots:=sl }) (free:∀ b o,b∉ch->s.heap.get? b=some o->H b=none->H' b=none)
  (there:∀ b o,b∉ch->s.heap.get? b=some o->∃ o',h'.get? b=some o')
  (ML:∀ b xs,H b=some #[Sc]->H' b=some #[Sc]) (M5:∀ b o u,H b=some #[Vl]->H' b=some #[Vl]) (Na:∀ b ps,H b=some (.tbl ps)->∃ more,H' b=some (.tbl (ps++more)))
  (ns:∀ m,s.heap.Ns X.env.locals m->h'.Ns X.env.locals m) (hok:HOk X.prog X.w H' h') (hg:AllBare g') :
  Inv X pv σ H' { s with heap:=h',gens:=g',drawn:=d',toks:=t' }:=by
 have neL:∀ b o,X.s₀.heap.get? b=some o->b≠X.env.locals:=fun b o e=>bT (cA (aW e) I.ok.above)
 have GO:∀ b o,X.s₀.heap.get? b=some o->b∉X.ex->b∉ch:=fun b o e hx hb=>by
  rcases (wB b hb).1 with z | z
  ·exact hx z
  ·exact absurd (cA (aW e) z) (dI _)
 have cellK:∀ x c,X.env.cells.lookup x=some c->∀ v,s.heap.IsCell c v->h'.IsCell c v:=fun x c e v ⟨o,ho,hd⟩=>by
  have E5:c∉ch:=fun z=>(wB c z).2.2.1 x c e rfl
  by_cases hc:c∈X.fs
  ·obtain⟨sl,q⟩:=slot c o (I.cne x c e) hc E5 ho (I.LI x c e);exact⟨_,q,hd⟩
  ·exact⟨o,keep c o (I.cne x c e) hc E5 ho (I.LI x c e),hd⟩
 refine⟨I.ok,I.os,hg,⟨fun b o e n hb hx=>?_,fun b o e n hb hx=>?_,fun b o e n hx=>?_,fun b o e hx=>?_,fun b xs e=>ML b xs (I.base.ML b xs e),fun b o xs e=>M5 b o xs (I.base.M5 b o xs e),fun b ps e=>?_⟩,?_,fun x c e=>?_,?_,fun x c e=>?_,fun p hp=>?_,hok,I.len⟩
 ·exact keep b o (neL b o e) hb #[Wo] #[Rj] #[To]
 ·obtain⟨sl,e1⟩:=I.base.slot b o e n hb hx;obtain⟨GP,e2⟩:=slot b _ (neL b o e) hb #[Wo] e1 #[To];exact⟨GP,e2⟩
 ·obtain⟨o',e1⟩:=I.base.there b o e hx;exact free b o' #[Wo] e1 #[To]
 ·obtain⟨o',e1⟩:=I.base.there b o e hx;exact there b o' #[Wo] e1
 ·obtain⟨m1,e1⟩:=I.base.Na b ps e;obtain⟨m2,e2⟩:=Na b _ e1;exact⟨m1++m2,by rw [e2,ni]⟩
 ·obtain⟨m,hn,hl⟩:=I.loc;refine⟨m,ns m hn,fun i x v e1 e2 e3=>?_⟩;obtain⟨u,r,l⟩:=hl i x v e1 e2 e3;refine⟨u,r,?_⟩;rcases l with l | ⟨k,c,e,z⟩
  ·exact .inl l
  ·exact .inr ⟨k,c,e,cellK x c e _ z⟩
 ·obtain⟨v,z⟩:=I.cell x c e;exact⟨v,cellK x c e v z⟩
 ·obtain⟨m,⟨o,_,_,ho,_⟩,_⟩:=I.loc;exact free _ o (fun z=>(wB _ z).2.1 rfl) ho I.free
 ·obtain⟨v,o,ho,hd⟩:=I.cell x c e;exact free c o (fun z=>(wB c z).2.2.1 x c e rfl) ho (I.LI x c e)
 ·obtain⟨e,n,ne,nf,d⟩:=I.pin p hp;have E5:p.1∉ch:=fun z=>(wB p.1 z).2.2.2 p hp rfl
  exact⟨keep p.1 p.2 ne nf E5 e n,free p.1 p.2 E5 e n,ne,nf,d⟩
theorem Inv.un (I:Inv X pv σ H s) (u:Un X.fs [] H H' s.heap h') (hok:HOk X.prog X.w H' h'):Inv X pv σ H' { s with heap:=h',toks:=t' }:=by
 obtain⟨m,⟨o,es,ep,ho,r⟩,_⟩:=id I.loc;obtain⟨sl,hL⟩:=u.any ho I.free #[M];exact I.step (g':=s.gens) (d':=s.drawn) (ch:=[]) (fun _ z=>nomatch z) (fun b o _ hb _ e n=>u.keep b o e n hb #[M]) (fun b o _ hb _ e n=>u.slot b o e n hb #[M]) (fun b o _ e n=>u.free b o e n #[M]) (fun b o _ e=>u.there b o e #[M]) u.ML u.M5 u.Na (fun m' hm=>by
  obtain⟨o',y9,GQ,vE,r'⟩:=hm;rw [ho] at vE; cases vE;exact⟨_,y9,GQ,hL,r'⟩) hok I.bare
theorem Inv.call {g':Array GenState} {d':Drawn} {ch:List Addr} (I:Inv X pv σ H s) (u:Un (frs X.stack) ch H H' s.heap h') (hok:HOk X.prog X.w H' h') (hg:AllBare g')
  (wB:∀ b∈ch,(b∈X.ex\/X.s₀.heap.objs.size<=b)/\b≠X.env.locals/\(∀ x c,X.env.cells.lookup x=some c->c≠b)/\∀ p∈X.pn++pv,p.1≠b) :
  Inv X pv σ H' { s with heap:=h',gens:=g',drawn:=d',toks:=t' }:=by
 obtain⟨m,⟨o,es,ep,ho,r⟩,_⟩:=id I.loc;obtain⟨sl,hL⟩:=u.any ho I.free fun z=>(wB _ z).2.1 rfl
 exact I.step (ch:=ch) wB (fun b o hL hb hc e n=>u.keep b o e n (fun z=>(aR.mp (I.Ow b z)).elim hL hb) hc) (fun b o _ _ hc e n=>u.any e n hc) (fun b o hc e n=>u.free b o e n hc) (fun b o hc e=>u.there b o e hc) u.ML u.M5 u.Na (fun m' hm=>by
  obtain⟨o',y9,GQ,vE,r'⟩:=hm;rw [ho] at vE; cases vE;exact⟨_,y9,GQ,hL,r'⟩) hok hg
theorem Inv.turned (I:Inv X pv σ H s) (k:∀ b o,b≠it->s.heap.get? b=some o->h'.get? b=some o) (hn:H it=none) (hL:it≠X.env.locals)
  (h1:it∈X.ex\/X.s₀.heap.objs.size<=it) (h2:∀ x c,X.env.cells.lookup x=some c->c≠it) (h3:∀ p∈X.pn++pv,p.1≠it):Inv X pv σ H { s with heap:=h',toks:=t' }:=by
 have vK:∀ b u,H b=some u->b≠it:=fun b u e z=>by rw [z,hn] at e; cases e
 refine I.step (g':=s.gens) (d':=s.drawn) (ch:=[it]) (fun b hb=>?_) (fun b o _ _ hc e _=>k b o (fun z=>hc (by simp [z])) e) (fun b o _ _ hc e _=>⟨o.slots,k b o (fun z=>hc (by simp [z])) e⟩) #[Rz]
  (fun b o hc e=>⟨o,k b o (fun z=>hc (by simp [z])) e⟩) #[Rl] #[Sh] (fun b ps e=>⟨#[],by rw [e]; simp⟩) #[Td] (fun b u e=>?_) I.bare
 ·have e:b=it:=by simpa using hb
  subst e;exact⟨h1,hL,h2,h3⟩
 ·obtain⟨o,es,ep,ho,r⟩:=hm;exact⟨o,es,ep,k _ o (eG hL) ho,r⟩
 ·refine #[Ug].NI (fun c v hc q=>k c v ?_ q) #[Sv] fun _ _ q=>q
  rcases hc with z | z
  ·rw [z]; exact vK b u e
  ·exact vK c _ z
theorem Inv.tok (I:Inv X pv σ H s) (t:Nat):Inv X pv σ H { s with toks:=t }:=I.un (h':=s.heap) (t':=t) Un.refl I.hok
theorem Inv.kept (I:Inv X pv σ H s) (k:∀ b u,s.heap.get? b=some u->h'.get? b=some u):Inv X pv σ H { s with heap:=h',toks:=t' }:=I.un (Un.kept k) (I.hok.kept k)
theorem Inv.laid {a:Addr} {o:HO} (I:Inv X pv σ H s) (k:∀ b u,s.heap.get? b=some u->h'.get? b=some u) (hp:s.heap.objs.size<=a) (new:zah X.prog X.w #[Th] h' a o) :
  Inv X pv σ #[Th] { s with heap:=h',toks:=t' }:=I.un (Un.laid k hp (I.hok.fresh hp)) (I.hok.laid k hp new)
theorem Inv.write {x e:Addr} {o:HO} (I:Inv X pv σ H s) (mu:Mut (H x)) (he:e=x\/H e=some (.own x)) (k:∀ b u,b≠e->s.heap.get? b=some u->h'.get? b=some u) (Ej:∃ u,h'.get? e=some u)
  (new:zah X.prog X.w (pB H x o) h' x o):Inv X pv σ (pB H x o) { s with heap:=h',toks:=t' }:=I.un (Un.write mu he k Ej) (I.hok.write mu he k Ej new)
theorem Inv.weak {σ':List (Option V)} (I:Inv X pv σ H s) (hl:σ'.length=σ.length) (w:∀ (i:Nat) v,σ'[i]? = some (some v)->σ[i]? = some (some v)):Inv X pv σ' H s :=
 ⟨I.ok,I.os,I.bare,I.base,let ⟨m,hn,GR⟩:=I.loc; ⟨m,hn,fun i x v e1 e2 e3=>GR i x v e1 (w i v e2) e3⟩,I.cell,I.free,I.LI,I.pin,I.hok,hl.trans I.len⟩
theorem Inv.Ni (I:Inv X pv σ H s) (h:∀ p∈sS,s.heap.get? p.1=some p.2/\H p.1=none/\p.1≠X.env.locals/\p.1∉X.fs/\∀ v,p.2.data≠.cell v):Inv X sS σ H s :=
 ⟨I.ok,I.os,I.bare,I.base,I.loc,I.cell,I.free,I.LI,fun p hp=>(bQ.mp hp).elim (fun z=>I.pin p (bV _ z)) (h p),I.hok,I.len⟩
theorem zfn (hN:N.Nodup) {i:Nat} {x:Str} (a:N[i]? = some x) (b:N[j]? = some x):i=j:=by
 obtain⟨h1,e1⟩:=aP.mp a;obtain⟨h2,e2⟩:=aP.mp b;exact (List.getElem_inj hN).mp (e1.trans e2.symm)
theorem zgx {E:Value->Shared->Prop} {i:Nat} {x:Str} {u:Value} {Q:Unit->Shared->Prop} (I:Inv X pv σ H s) (hN:X.N.Nodup) (hi:X.N[i]? = some x) (hx:Loc X.env.scope x) (r:RelV v u)
  (h:∀ s',Inv X pv #[Vs] H s'->(∃ a,cM a s.heap s'.heap/\(a=X.env.locals\/X.env.cells.lookup x=some a))->Q () s') (hf:X.fn x=true\/X.env.scope.names.lookup x=some .local:=by first | exact .inl rfl | exact .inr rfl | assumption):wpAny M A (storeName X.env x u) Q E s:=by
 obtain⟨m,hn,hl⟩:=id I.loc;have As:(X.env.scope.kind == .class || (X.env.scope.kind == .module && X.env.locals != X.env.globals))=false:=by rw [I.ok.kind]; rfl
 have hiσ:i < σ.length:=by rw [I.len]; exact (aP.mp hi).1
 have cne:=I.cne;have tracked:∀ {a:Addr} {h':Heap},(∃ o,s.heap.get? a=some o/\H a=none)->cM a s.heap h'->HOk X.prog X.w H h':=fun {a h'} ha hs b ob e=>by
  obtain⟨_,_,Cp⟩:=ha;refine (I.hok b ob e).NI (fun c w' hc q=>(hs.2 c ?_).trans q) #[Sv] fun _ _ q=>q
  rintro rfl;rcases hc with rfl | hc
  ·rw [Cp] at e; cases e
  ·rw [Cp] at hc; cases hc
 rcases hx with hk | hk
 ·refine wpAny_storeName_local hk hn (fun h' Au hs=>?_) As;obtain⟨oL,_,_,El,_⟩:=id hn;refine h _ ⟨I.ok,I.os,I.bare,#[Fa],#[V7],fun y c e=>?_,I.free,I.LI,fun p hp=>?_,tracked ⟨oL,El,I.free⟩ hs,by simpa using I.len⟩ ⟨_,hs,.inl rfl⟩
  ·exact (hs.2 b #[Qi]).trans #[Rj]
  ·obtain⟨sl,e1⟩:=I.base.slot b o e n hb hx;exact⟨sl,(hs.2 b #[Qi]).trans e1⟩
  ·obtain⟨o',e1⟩:=I.base.there b o e hx;exact⟨o',(hs.2 b #[Qi]).trans e1⟩
  ·by_cases hj:j=i
   ·subst hj;rw [hi] at e1; cases e1;rw [fX hiσ] at e2;cases e2;exact⟨u,r,.inl ⟨hk,#[M]⟩⟩
   ·rw [gq (eG hj)] at e2;obtain⟨u',r',q⟩:=hl j y v' e1 e2 e3;refine⟨u',r',?_⟩;rcases q with ⟨k,e⟩ | ⟨k,c,e,z⟩
    ·refine .inl ⟨k,?_⟩;have:y≠x:=fun e=>hj (zfn hN e1 (e ▸ hi))
     simp [this,e]
    ·exact .inr #[V6]
  ·obtain⟨w',z⟩:=I.cell y c e;exact#[VI]
  ·obtain⟨e,n,ne,nf,d⟩:=I.pin p hp;exact⟨(hs.2 p.1 ne).trans e,n,ne,nf,d⟩
 ·have E6:X.fn x=true:=by
   rcases hf with z | z
   ·exact z
   ·rw [z] at hk; cases hk
  obtain⟨c,hc⟩:=I.ok.has x (.inl hk);obtain⟨w',z⟩:=I.cell x c hc;refine wpAny_storeName_cell I.ok.kind hk hc z (fun h' pL hs=>?_);obtain⟨oc,hoc,Ie⟩:=id z;refine h { s with heap:=h' } ⟨I.ok,I.os,I.bare,#[Fa],⟨m,hn.sameBut hs (eG (cne x c hc)),fun j y v' e1 e2 e3=>?_⟩,fun y c' e=>?_,I.free,I.LI,fun p hp=>?_,tracked ⟨oc,hoc,I.LI x c hc⟩ hs,by simpa using I.len⟩ ⟨c,hs,.inr hc⟩
  ·exact (hs.2 b #[RI]).trans #[Rj]
  ·obtain⟨sl,e1⟩:=I.base.slot b o e n hb hx;exact⟨sl,(hs.2 b #[RI]).trans e1⟩
  ·obtain⟨o',e1⟩:=I.base.there b o e hx;exact⟨o',(hs.2 b #[RI]).trans e1⟩
  ·by_cases hj:j=i
   ·subst hj;rw [hi] at e1; cases e1;rw [fX hiσ] at e2;cases e2;exact⟨u,r,.inr ⟨.inl hk,c,hc,pL⟩⟩
   ·rw [gq (eG hj)] at e2;obtain⟨u',r',q⟩:=hl j y v' e1 e2 e3;refine⟨u',r',?_⟩;rcases q with q | ⟨k,c',e,z'⟩
    ·exact .inl q
    ·refine .inr ⟨k,c',e,z'.sameBut hs ?_⟩;rintro rfl;exact hj (zfn hN e1 (I.ok.inj _ _ _ e hc ▸ hi))
  ·by_cases qz:c'=c
   ·subst qz; exact⟨_,pL⟩
   ·obtain⟨w2,z2⟩:=I.cell y c' e;exact⟨w2,z2.sameBut hs qz⟩
  ·obtain⟨e,n,ne,nf,d⟩:=I.pin p hp;refine⟨(hs.2 p.1 ?_).trans e,n,ne,nf,d⟩;intro q;rw [q,hoc] at e;have q':oc=p.2:=bJ e;exact d w' (by rw [<- q']; exact Ie)
theorem zcf {E:Value->Shared->Prop} {i:Nat} {x:Str} {u:Value} {Q:Unit->Shared->Prop} (I:Inv X pv σ H s) (hN:X.N.Nodup) (hi:X.N[i]? = some x) (hx:Loc X.env.scope x) (r:RelV v u)
  (h:∀ s',Inv X pv #[Vs] H s'->Q () s') (hf:X.fn x=true\/X.env.scope.names.lookup x=some .local:=by first | exact .inl rfl | exact .inr rfl | assumption):wpAny M A (storeName X.env x u) Q E s :=
 zgx I hN hi hx r (fun s' I' _=>h s' I') hf
theorem Inv.O6 {ch:List Addr} (I:Inv X pv σ H s) (ho:s'.os=s.os) (u:Un (frs X.stack) ch H H' s.heap s'.heap) (hok:HOk X.prog X.w H' s'.heap) (hg:AllBare s'.gens)
  (wB:∀ b∈ch,(b∈X.ex\/X.s₀.heap.objs.size<=b)/\b≠X.env.locals/\(∀ x c,X.env.cells.lookup x=some c->c≠b)/\∀ p∈X.pn++pv,p.1≠b):Inv X pv σ H' s':=by
 obtain⟨h',g',d',t',o'⟩:=s';have e:o'=s.os:=ho;subst e;exact I.call (g':=g') (t':=t') (d':=d') u hok hg wB
end
abbrev XK:=Value->Option Addr->Hp->Prop
abbrev St:=List (Option V)
abbrev VK:=V->Hp->Prop
abbrev TE:=St->Hp->VK->Prop
abbrev TT:=St->Hp->(Bool->Hp->Prop)->Prop
abbrev TA:=St->Hp->(List V->Hp->Prop)->Prop
structure Ends where
 nx:St->Hp->Prop
 rt:VK
 bk:St->Hp->Prop:=fun _ _=>False
 ct:St->Hp->Prop:=fun _ _=>False
abbrev TS:=Ends->St->Hp->Prop
def EP (X:Cx) (pv:List (Addr×Obj)) (σ:St) (Q:VK) (u:Value) (s':Shared):Prop:=∃ v H',Inv X pv σ H' s'/\RelV v u/\Q v H'
def TP (X:Cx) (pv:List (Addr×Obj)) (σ:St) (Q:Bool->Hp->Prop) (b:Bool) (s':Shared):Prop:=∃ H',Inv X pv σ H' s'/\Q b H'
def AP (X:Cx) (pv:List (Addr×Obj)) (σ:St) (Q:List V->Hp->Prop) (us:List Value) (s':Shared):Prop:=∃ vs H',Inv X pv σ H' s'/\zR vs us/\Q vs H'
def SP (X:Cx) (pv:List (Addr×Obj)) (D:Ends) (f:Flow) (s':Shared):Prop :=
 match f with
 | .next=>∃ σ' H',Inv X pv σ' H' s'/\D.nx σ' H'
 | .brk=>∃ σ' H',Inv X pv σ' H' s'/\D.bk σ' H'
 | .cont=>∃ σ' H',Inv X pv σ' H' s'/\D.ct σ' H'
 | .ret u=>∃ v σ' H',Inv X pv σ' H' s'/\RelV v u/\D.rt v H'
def PE (X:Cx) (e:Expr) (t:TE):Prop :=
 ∀ (pv:List (Addr×Obj)) (s:Shared) (σ:St) (H:Hp) (Q:VK),Inv X pv σ H s->t σ H Q->wpAny #[ss] X.A #[Vn] #[Qd] X.xe s
def PT (X:Cx) (e:Expr) (t:TT):Prop :=
 ∀ (pv:List (Addr×Obj)) (s:Shared) (σ:St) (H:Hp) (Q:Bool->Hp->Prop),Inv X pv σ H s->t σ H Q->wpAny #[ss] X.A (isTrue e X.env #[Vn]) #[Vq] X.xe s
def PW (X:Cx) (e:Expr) (t:TT):Prop :=
 ∀ (whole:Sem Value) (pv:List (Addr×Obj)) (s:Shared) (σ:St) (H:Hp) (Q:Bool->Hp->Prop),Inv X pv σ H s->t σ H Q->wpAny #[ss] X.A (isTrue e X.env whole) #[Vq] X.xe s
theorem PW.pt {X:Cx} {e:Expr} {t:TT} (h:PW X e t):PT X e t:=h _
def PA (X:Cx) (es:List Expr) (t:TA):Prop :=
 ∀ (pos:Pos) (pv:List (Addr×Obj)) (s:Shared) (σ:St) (H:Hp) (Q:List V->Hp->Prop),Inv X pv σ H s->t σ H Q->wpAny #[ss] X.A (spliced #[Op]) (AP X pv σ Q) X.xe s
def PS (X:Cx) (st:Stmt) (t:TS):Prop :=
 ∀ (pv:List (Addr×Obj)) (s:Shared) (σ:St) (H:Hp) (D:Ends),Inv X pv σ H s->t D σ H->wpAny #[ss] X.A (exec st X.env) #[U4] X.xe s
def PSs (X:Cx) (st:List Stmt) (t:TS):Prop :=
 ∀ (pv:List (Addr×Obj)) (s:Shared) (σ:St) (H:Hp) (D:Ends),Inv X pv σ H s->t D σ H->wpAny #[ss] X.A (execs st X.env) #[U4] X.xe s
theorem thn {α:Type} {t:Sem α} {Q Q':α->Shared->Prop} {E:Value->Shared->Prop} (h:wpAny M A t Q E s) (hQ:∀ a s,Q a s->Q' a s):wpAny M A t Q' E s:=dN h hQ fun _ _ x=>x
section
variable {X:Cx}
def zrw (i:Nat):TE:=fun σ H Q=>∃ v,σ[i]? = some (some v)/\Q v H
def tC (v:V):TE:=fun _ H Q=>Q v H
theorem zql {i:Nat} {x:Str} (hN:X.N[i]? = some x) (hv:Vis X.env.scope x) (hd:(x == ("__debug__" : Str))=false:=by decide) (vc:(x == ("__classdict__" : Str))=false:=by decide):PE X #[ST] (zrw i):=by
 intro pv s σ H Q I h;obtain⟨v,e,h⟩:=h;obtain⟨m,hn,hl⟩:=I.loc;obtain⟨u,r,l⟩:=hl i x v hN e hv;have fin:EP X pv σ Q u s:=⟨v,H,I,r,h⟩;rcases l with ⟨hk,hm⟩ | ⟨hk,c,hc,sU⟩
 ·exact oD (lX I.ok.kind hk hn hm fin) hd
 ·rcases hk with hk | hk
  ·exact oD (mR I.ok.kind hk hc sU fin) hd
  ·exact oD (wpAny_loadName_free I.ok.kind hk hc sU fin vc) hd
theorem zf {i j pos}:PE X (.Constant (.int i) j pos) (tC (.int i)):=fun _ _ _ H _ I h=>wpAny_Constant_int ⟨.int i,H,I.tok _,⟨_,rfl⟩,h⟩
theorem zdQ {b j pos}:PE X (.Constant (.bool b) j pos) (tC (.bl b)):=fun _ _ _ H _ I h=>Constant_bool ⟨.bl b,H,I,rfl,h⟩
theorem zer {j pos}:PE X (.Constant .none j pos) (tC .non):=fun _ _ _ H _ I h=>Constant_none ⟨.non,H,I,rfl,h⟩
theorem zdE {x j pos}:PE X (.Constant (.str x) j pos) (tC (.str x)):=fun _ _ _ H _ I h=>Calls.Constant_str ⟨.str x,H,I.tok _,⟨_,rfl⟩,h⟩
def Gl (X:Cx) (x:Str):Prop:=X.env.kindOf x=some .globalImplicit
theorem zcs {E:Value->Shared->Prop} {σ:St} {x:Str} {u:Value} {Q:Value->Shared->Prop} (I:Inv X pv σ H s) (hg:Gl X x) (hm:X.mg x=some u) (h:Q u s)
  (hd:(x == ("__debug__" : Str))=false:=by decide):wpAny #[ss] X.A (eval #[ST] X.env) Q E s :=
 kb I.ok.kind hg (Calls.loadGlobal_global (by rw [I.ok.glob]; exact I.mod.glob.keeps I.bk) hm h) hd
theorem za4 {E:Value->Shared->Prop} {σ:St} {x:Str} {u:Value} {Q:Value->Shared->Prop} (I:Inv X pv σ H s) (hg:Gl X x) (hm:X.mg x=none) (hv:bootBuiltins x=some u) (h:Q u s)
  (hn:x≠"__name__":=by decide) (hd:(x == ("__debug__" : Str))=false:=by decide):wpAny #[ss] X.A (eval #[ST] X.env) Q E s:=by
 obtain⟨mb,h1,h2⟩:=I.mod.blt;exact kb I.ok.kind hg (Calls.loadGlobal_builtin (by rw [I.ok.glob]; exact I.mod.glob.keeps I.bk) hm (by rw [I.ok.blt]; exact h1.keeps I.bk) ((h2 x hn).trans hv) h) hd
theorem zbb {x:Str} {v:V} {u:Value} {pos:Pos} (hg:Gl X x) (hm:X.mg x=some u) (r:RelV v u) (hd:(x == ("__debug__" : Str))=false:=by decide):PE X #[ST] (tC v) :=
 fun _ _ _ H _ I h=>zcs I hg hm ⟨v,H,I,r,h⟩ hd
theorem zj8 {x:Str} {v:V} {u:Value} {pos:Pos} (hg:Gl X x) (hm:X.mg x=none) (hv:bootBuiltins x=some u) (r:RelV v u) (hn:x≠"__name__":=by decide) (hd:(x == ("__debug__" : Str))=false:=by decide):PE X #[ST] (tC v) :=
 fun _ _ _ H _ I h=>za4 I hg hm hv ⟨v,H,I,r,h⟩ hn hd
variable {a b:Expr} {ta tb:TE} {pos:Pos}
def tB (t:TE):TT:=fun σ H Q=>t σ H fun x H1=>∃ c,x = .bl c/\Q c H1
theorem zfo {e:Expr} {t:TE} (h:PE X e t) (he:∀ whole,isTrue e X.env whole=(do let v <- whole; standAt e.pos; holding [v] (truthy v)):=by intro _; rfl):PT X e (tB t):=by
 intro pv s σ H Q I hw;refine isTrue_plain (thn #[Uo] fun v s1 ⟨x,H1,I1,r1,q1⟩=>?_) (he _);obtain⟨d,rfl,q⟩:=q1;cases r1;exact fL ⟨H1,I1,q⟩
variable {tA GU:TT} {rest:List Expr}
def zsg (t u:TT):TT:=fun σ H Q=>t σ H fun c H1=>if c=true then u σ H1 Q else Q false H1
def tOr (t u:TT):TT:=fun σ H Q=>t σ H fun c H1=>if c=true then Q true H1 else u σ H1 Q
def zsh (t:TT):TT:=fun σ H Q=>t σ H fun c H1=>Q (!c) H1
theorem zj9 (ha:PT X a tA):PW X (.BoolOp .And [a] pos) tA:=by
 intro wh pv s σ H Q I h;refine isTrue_and (thn (ha pv s σ H Q I h) fun c s1 e=>?_);cases c with
 | true=>exact isTrue_and_nil e
 | false=>exact e
theorem zjl (ha:PT X a tA):PW X (.BoolOp .Or [a] pos) tA:=by
 intro wh pv s σ H Q I h;refine isTrue_or (thn (ha pv s σ H Q I h) fun c s1 e=>?_);cases c with
 | false=>exact isTrue_or_nil e
 | true=>exact e
theorem zmk (ha:PT X a tA) (hb:PW X (.BoolOp .And (b :: rest) pos) GU):PW X (.BoolOp .And (a :: b :: rest) pos) (zsg tA GU):=by
 intro wh pv s σ H Q I h;refine isTrue_and (thn #[Qm] fun c s1 ⟨H1,I1,q1⟩=>?_);cases c with
 | true=>exact hb wh pv s1 σ H1 Q I1 q1
 | false=>exact⟨H1,I1,q1⟩
theorem zml (ha:PT X a tA) (hb:PW X (.BoolOp .Or (b :: rest) pos) GU):PW X (.BoolOp .Or (a :: b :: rest) pos) (tOr tA GU):=by
 intro wh pv s σ H Q I h;refine isTrue_or (thn #[Qm] fun c s1 ⟨H1,I1,q1⟩=>?_);cases c with
 | true=>exact⟨H1,I1,q1⟩
 | false=>exact hb wh pv s1 σ H1 Q I1 q1
theorem zcS (ha:PT X a tA):PT X (.UnaryOp .Not a pos) (zsh tA):=by
 intro pv s σ H Q I h;exact isTrue_not (ha pv s σ H (fun c H1=>Q (!c) H1) I h)
def tIf (t:TT) (ta tb:TE):TE:=fun σ H Q=>t σ H fun c H1=>if c=true then ta σ H1 Q else tb σ H1 Q
theorem zmm {c:Expr} (hc:PT X c tA) (ha:PE X a ta) (hb:PE X b tb):PE X (.IfExp c a b pos) (tIf tA ta tb):=by
 intro pv s σ H Q I h;refine wpAny_IfExp (thn (hc pv s σ H _ I h) fun d s1 ⟨H1,I1,q1⟩=>?_);cases d with
 | true=>exact ha pv s1 σ H1 Q I1 q1
 | false=>exact hb pv s1 σ H1 Q I1 q1
end
def pA (K:aD) (H:Hp) (a:Addr) (xs:List V):Prop :=
 Rd H a #[Q8] \/
  ∃ (o:Obj) (pC:Array Value) (n:Nat),K.lookup a=some o/\o.cls = .type "list"/\o.dict=none/\o.data = .seq pC n/\pC.size<=sizeLine/\zR xs pC.toList
def pK (K:aD) (H:Hp) (a:Addr) (xs:List V):Prop :=
 Rd H a #[Sc] \/
  ∃ (o:Obj) (pC:Array Value) (n:Nat),K.lookup a=some o/\o.cls = .type "tuple"/\o.data = .seq pC n/\pC.size<=sizeLine/\zR xs pC.toList
def zsi:Value->Option V
 | .none=>some .non
 | .bool b=>some (.bl b)
 | .int i _=>some (.int i)
 | .str x _=>some (.str x)
 | .bytes b _=>some (.byt b)
 | .float b _=>some (.flt b)
 | .ref a=>some #[QK]
 | .type n=>some (.ty n)
 | _=>none
theorem RelV.abs {x:V} {u:Value} (r:RelV x u):zsi u=some x:=by
 cases x with
 | non=>cases r; rfl
 | bl _=>cases r; rfl
 | int _=>obtain⟨t,rfl⟩:=r; rfl
 | str _=>obtain⟨t,rfl⟩:=r; rfl
 | byt _=>obtain⟨t,rfl⟩:=r; rfl
 | flt _=>obtain⟨t,rfl⟩:=r; rfl
 | ref _=>cases r; rfl
 | ty _=>cases r; rfl
theorem RelV.inj {x:V} {u:Value} (r:RelV x u) (q:RelV y u):x=y:=bJ (r.abs.symm.trans q.abs)
theorem zR.inj:∀ {xs ys:List V} {us:List Value},zR xs us->zR ys us->xs=ys
 | _,_,_,.nil,.nil=>rfl
 | _,_,_,.cons r t,.cons r' t'=>by rw [r.inj r',zR.inj t t']
section
variable {X:Cx} {pv:List (Addr×Obj)} {σ:St} {H:Hp} {s:Shared} {a:Addr} {xs ys:List V}
theorem pA.of (h:H a=some #[Q8]):pA K H a xs:=.inl (.inl h)
theorem pK.of (h:H a=some #[Sc]):pK K H a xs:=.inl (.inl h)
theorem Inv.list (I:Inv X pv σ H s) (h:pA X.K H a xs):∃ pC:List Value,zR xs pC/\PlainL s.heap a pC.toArray/\xs.length<=sizeLine:=by
 rcases h with h | ⟨o,pC,n,hk,hc,hd,hs,hz,r⟩
 ·obtain⟨z,pC,n,r,e⟩:=h.ok I.hok;exact⟨pC,r,⟨_,n,e,rfl,rfl,rfl⟩,z⟩
 ·refine⟨pC.toList,r,⟨o,n,I.kIn a o hk,hc,hd,by simpa using hs⟩,?_⟩;have e:=r.length;simp only [cC] at e;lia
theorem Inv.tuple (I:Inv X pv σ H s) (h:pK X.K H a xs):∃ pC:List Value,zR xs pC/\IsTup s.heap a pC.toArray/\xs.length<=sizeLine:=by
 rcases h with h | ⟨o,pC,n,hk,hc,hs,hz,r⟩
 ·obtain⟨z,pC,r,p⟩:=h.ok I.hok;exact⟨pC,r,p,z⟩
 ·refine⟨pC.toList,r,⟨o,I.kIn a o hk,hc,n,by simpa using hs⟩,?_⟩;have e:=r.length;simp only [cC] at e;lia
theorem Inv.LC (I:Inv X pv σ H s) (h:pA X.K H a xs) (h':pA X.K H a ys):xs=ys:=by
 obtain⟨pC,r,⟨o,n,e,_,_,d⟩,_⟩:=I.list h;obtain⟨its',r',⟨o',n',e',_,_,d'⟩,_⟩:=I.list h';rw [e] at e'; cases e';rw [d] at d';injection d' with d1 _
 have:pC=its':=by simpa using congrArg o9 d1
 subst this;exact r.inj r'
theorem Inv.LK (I:Inv X pv σ H s) (h:pK X.K H a xs) (h':pK X.K H a ys):xs=ys:=by
 obtain⟨pC,r,⟨o,e,_,n,d⟩,_⟩:=I.tuple h;obtain⟨its',r',⟨o',e',_,n',d'⟩,_⟩:=I.tuple h';rw [e] at e'; cases e';rw [d] at d';injection d' with d1 _
 have:pC=its':=by simpa using congrArg o9 d1
 subst this;exact r.inj r'
end
abbrev Cx.NR (X:Cx) (E:Value->Shared->Prop):Cx:={ X with xe:=E }
abbrev Cx.nox (X:Cx):Cx:=X.NR fun _ _=>False
theorem Cx.Ok.NR (ok:X.Ok) (E:Value->Shared->Prop):(X.NR E).Ok :=
 ⟨ok.mod,ok.kind,ok.glob,ok.blt,ok.above,ok.inj,ok.has,ok.cab,ok.hd,ok.frames,ok.stk,ok.exf,ok.bs,ok.bsz,ok.O0,ok.Pa,ok.NS,ok.frf⟩
theorem Cx.Ok.Ld {E:Value->Shared->Prop} (ok:(X.NR E).Ok):X.Ok :=
 ⟨ok.mod,ok.kind,ok.glob,ok.blt,ok.above,ok.inj,ok.has,ok.cab,ok.hd,ok.frames,ok.stk,ok.exf,ok.bs,ok.bsz,ok.O0,ok.Pa,ok.NS,ok.frf⟩
section
variable {X:Cx} {pv:List (Addr×Obj)} {σ:St} {H:Hp} {s:Shared} {E:Value->Shared->Prop}
theorem Inv.NR (I:Inv X pv σ H s) (E:Value->Shared->Prop):Inv (X.NR E) pv σ H s:=⟨I.ok.NR E,I.os,I.bare,I.base,I.loc,I.cell,I.free,I.LI,I.pin,I.hok,I.len⟩
theorem Inv.Ld (I:Inv (X.NR E) pv σ H s):Inv X pv σ H s:=⟨I.ok.Ld,I.os,I.bare,I.base,I.loc,I.cell,I.free,I.LI,I.pin,I.hok,I.len⟩
theorem SP.Ld {D:Ends} {f:Flow} (h:SP (X.NR E) pv D f s'):SP X pv D f s':=by
 cases f with
 | next=>obtain⟨σ',H',I,q⟩:=h; exact⟨σ',H',I.Ld,q⟩
 | brk=>obtain⟨σ',H',I,q⟩:=h; exact⟨σ',H',I.Ld,q⟩
 | cont=>obtain⟨σ',H',I,q⟩:=h; exact⟨σ',H',I.Ld,q⟩
 | ret u=>obtain⟨v,σ',H',I,r,q⟩:=h; exact⟨v,σ',H',I.Ld,r,q⟩
theorem PSs.nox {st:List Stmt} {t:TS} (h:PSs X.nox st t):PSs X st t:=fun pv s σ H D I hw =>
 dN (h pv s σ H D (I.NR _) hw) (fun _ _ q=>q.Ld) fun _ _ z=>dX z
end
section
variable {X:Cx} {st:Stmt} {rest:List Stmt} {t u:TS} {e:Expr} {te:TE} {pos:Pos}
def zrx:TS:=fun D σ H=>D.nx σ H
def zbe (t u:TS):TS:=fun D σ H=>t { D with nx:=u D } σ H
theorem zan:PSs X [] zrx:=fun _ _ σ H _ I h=>gd ⟨σ,H,I,h⟩
theorem ze (h1:PS X st t) (h2:PSs X rest u):PSs X (st :: rest) (zbe t u):=by
 intro pv s σ H D I h;refine kG (thn (h1 pv s σ H { D with nx:=u D } I h) fun f s1 q=>?_);cases f with
 | next =>
  obtain⟨σ',H',I',q⟩:=q;exact h2 pv s1 σ' H' D I' q
 | ret v=>exact q
 | brk=>exact q
 | cont=>exact q
theorem zl (h1:PS X st t):PSs X [st] t:=by
 intro pv s σ H D I h;refine kG (thn (h1 pv s σ H D I h) fun f s1 q=>?_);cases f with
 | next=>exact gd q
 | ret v=>exact q
 | brk=>exact q
 | cont=>exact q
theorem Inv.quiet {σ:St} (I:Inv X pv σ H s):interactive X.env=false:=by simp [interactive,I.ok.kind]
def zry (te:TE):TS:=fun D σ H=>te σ H fun _ H1=>D.nx σ H1
theorem zct (he:PE X e te) (hs:swapsWith e none pos.line X.env=pure false:=by rfl):PS X (.Expr e pos) (zry te):=by
 intro pv s σ H D I h;exact wpAny_Expr_any (thn #[Q4] fun v s1 ⟨x,H1,I1,r1,q1⟩=>⟨σ,H1,I1,q1⟩) I.quiet hs
def zsj (te:TE):TS:=fun D σ H=>te σ H D.rt
theorem zB (he:PE X e te):PS X (.Return (some e) pos) (zsj te):=by
 intro pv s σ H D I h;exact wpAny_Return_some (thn #[Q4] fun v s1 ⟨x,H1,I1,r1,q1⟩=>⟨x,σ,H1,I1,r1,q1⟩)
def zsk (c:TT) (t u:TS):TS:=fun D σ H=>c σ H fun b H1=>if b=true then t D σ H1 else u D σ H1
theorem za3 {c:Expr} {a b:List Stmt} {tc:TT} (hc:PT X c tc) (ha:PSs X a t) (hb:PSs X b u):PS X (.If c a b pos) (zsk tc t u):=by
 intro pv s σ H D I h;refine wpAny_If (thn (hc pv s σ H _ I h) fun d s1 ⟨H1,I1,q1⟩=>?_);cases d with
 | true=>exact ha pv s1 σ H1 D I1 q1
 | false=>exact hb pv s1 σ H1 D I1 q1
def zqm:TS:=fun _ _ _=>False
theorem zk8 {tP:List Stmt}:PSs X tP zqm:=fun _ _ _ _ _ _ h=>h.elim
end
abbrev TG:=V->St->Hp->(St->Hp->Prop)->Prop
abbrev TGs:=List V->St->Hp->(St->Hp->Prop)->Prop
def PG (X:Cx) (target:Expr) (t:TG):Prop :=
 ∀ (pv:List (Addr×Obj)) (s:Shared) (σ:St) (H:Hp) (v:V) (u:Value) (Q:St->Hp->Prop),Inv X pv σ H s->RelV v u->t v σ H Q ->
  wpAny #[ss] X.A (assign target X.env u) (fun _ s'=>∃ σ' H',Inv X pv σ' H' s'/\Q σ' H') X.xe s
def PGs (X:Cx) (ts:List Expr) (t:TGs):Prop :=
 ∀ (pv:List (Addr×Obj)) (s:Shared) (σ:St) (H:Hp) (vs:List V) (us:List Value) (Q:St->Hp->Prop),Inv X pv σ H s->zR vs us->t vs σ H Q ->
  wpAny #[ss] X.A (assignInOrder ((assignEach ts X.env).map (·.2)) us) (fun _ s'=>∃ σ' H',Inv X pv σ' H' s'/\Q σ' H') X.xe s
abbrev zqn:=V->V->V->Hp->(Hp->Prop)->Prop
def zrz (X:Cx) (t:zqn):Prop :=
 ∀ (pv:List (Addr×Obj)) (s:Shared) (σ:St) (H:Hp) (o i v:V) (ov iv u:Value) (Q:Hp->Prop),Inv X pv σ H s->RelV o ov->RelV i iv->RelV v u->t o i v H Q ->
  wpAny #[ss] X.A (setItem ov iv u) (fun _ s'=>∃ H',Inv X pv σ H' s'/\Q H') X.xe s
abbrev TIp:=V->V->Hp->VK->Prop
def PIp (X:Cx) (op:Operator) (t:TIp):Prop :=
 ∀ (pv:List (Addr×Obj)) (s:Shared) (σ:St) (H:Hp) (x y:V) (v u:Value) (Q:VK),Inv X pv σ H s->RelV x v->RelV y u->t x y H Q ->
  wpAny #[ss] X.A (inplaceOp op v u) #[Qd] X.xe s
section
variable {X:Cx} {pos:Pos}
def zaI (i:Nat):TG:=fun v σ H Q=>Q #[Vs] H
theorem zg {i:Nat} {x:Str} (hN:X.N.Nodup) (hi:X.N[i]? = some x) (hx:Loc X.env.scope x) (hf:X.fn x=true\/X.env.scope.names.lookup x=some .local:=by first | exact .inl rfl | exact .inr rfl | assumption):PG X #[ST] (zaI i):=by
 intro pv s σ H v u Q I r h;exact wpAny_assign_Name (zcf I hN hi hx r (fun s' I'=>⟨_,H,I',h⟩) hf)
def zjm:TGs:=fun vs σ H Q=>vs = []/\Q σ H
def zcg (t:TG) (u:TGs):TGs:=fun vs σ H Q=>∃ v r,vs=v :: r/\t v σ H fun σ' H'=>u r σ' H' Q
theorem zF:PGs X [] zjm:=by
 intro pv s σ H vs us Q I r h;obtain⟨e,h⟩:=h;subst e;cases r;exact assignInOrder_nil ⟨σ,H,I,h⟩
theorem zi {e:Expr} {es:List Expr} {t:TG} {u:TGs} (h1:PG X e t) (h2:PGs X es u)
  (hs:(assignEach (e :: es) X.env).map (·.2)=assign e X.env :: #[Rx].map (·.2):=by rfl):PGs X (e :: es) (zcg t u):=by
 intro pv s σ H vs us Q I r h;obtain⟨v,vr,e1,h⟩:=h;subst e1;cases r with
 | cons r rr =>
  rw [hs];refine assignInOrder_cons (thn (h1 pv s σ H _ _ _ I r h) fun _ s1 ⟨σ1,H1,I1,q1⟩=>?_);exact h2 pv s1 σ1 H1 _ _ Q I1 rr q1
def zh1 (K:aD) (n:Nat) (t:TGs):TG:=fun v σ H Q=>∃ a xs,v = .ref a/\pK K H a xs/\xs.length=n/\t xs σ H Q
theorem zaW {es:List Expr} {k:Nat} {t:TGs} {n:Nat} (hc:X.calm=true) (h:PGs X es t)
  (hn:#[Rx].length=n:=by rfl) (qw:#[Rx].findIdx? (·.1)=none:=by rfl):PG X #[Q9] (zh1 X.K n t):=by
 intro pv s σ H v u Q I r hw;obtain⟨a,xs,e1,hq,hl,hw⟩:=hw;subst e1;cases r;obtain⟨pC,rv,ht,hz⟩:=I.tuple hq;refine assign_Tuple_tuple #[Qn] ht (by simp [hn,<- hl,rv.length]) qw fun h' hx=>?_
 have I1:Inv X pv σ H { s with heap:=h' }:=I.kept (t':=s.toks) fun b o e=>hx b o (bT (aW e)) e
 exact h pv _ σ H xs _ Q I1 (by simpa using rv) hw
def zsl (to ti:TE) (t:zqn):TG:=fun v σ H Q=>to σ H fun o H1=>ti σ H1 fun i H2=>t o i v H2 fun H3=>Q σ H3
theorem zmn {o i:Expr} {to ti:TE} {t:zqn} (ho:PE X o to) (hi:PE X i ti) (hs:zrz X t)
  (ha:∀ v,assign (.Subscript o i pos) X.env v=(do
   let ov <- holding [v] #[Vm]
   let iv <- holding [v,ov] (eval i X.env)
   standAt pos
   holding [v,ov,iv] (setItem ov iv v)
   release [v,ov,iv] []):=by intro _; rfl):PG X (.Subscript o i pos) (zsl to ti t):=by
 intro pv s σ H v u Q I r h;rw [ha];refine aB (cX (thn #[SV] fun ov s1 ⟨x,H1,I1,r1,q1⟩=>?_));refine aB (cX (thn (hi pv s1 σ H1 _ I1 q1) fun iv s2 ⟨y,H2,I2,r2,q2⟩=>?_));refine aB (ik (aB (cX (thn (hs pv s2 σ H2 x y v ov iv u _ I2 r1 r2 r q2) fun _ s3 ⟨H3,I3,q3⟩=>?_))));exact wpAny_release ⟨σ,H3,I3,q3⟩
def zgh (te:TE) (g:TG):TS:=fun D σ H=>te σ H fun x H1=>g x σ H1 D.nx
theorem za5 {tg e:Expr} {te:TE} {g:TG} (he:PE X e te) (hg:PG X tg g) (hs:swapsWithSole [tg] e pos.line X.env=pure false:=by rfl) (hw:swappedStores [tg] e X.env=pure none:=by rfl)
  (h1:(assignEach [tg] X.env).map (·.2) = [assign tg X.env]:=by rfl):PS X (.Assign [tg] e pos) (zgh te g):=by
 intro pv s σ H D I h;refine wpAny_Assign_stores (thn #[Q4] fun v s1 ⟨x,H1,I1,r1,q1⟩=>?_) hs hw;rw [h1];exact thn (hg pv s1 σ H1 x v _ I1 r1 q1) fun _ s2 q=>q
theorem zn {i:Nat} {x:Str} {e:Expr} {te:TE} {pos':Pos} (hN:X.N.Nodup) (hi:X.N[i]? = some x) (hx:Loc X.env.scope x) (he:PE X e te) (hs:swapsWith e #[VS] pos.line X.env=pure false:=by rfl) (hf:X.fn x=true\/X.env.scope.names.lookup x=some .local:=by first | exact .inl rfl | exact .inr rfl | assumption) :
  PS X (.Assign [.Name x pos'] e pos) (zgh te (zaI i)):=by
 intro pv s σ H D I h;refine wpAny_Assign_Name (thn #[Q4] fun v s1 ⟨y,H1,I1,r1,q1⟩=>?_) hs;exact zcf I1 hN hi hx r1 (fun s2 I2=>⟨_,H1,I2,q1⟩) hf
def zsm (i:Nat) (te:TE) (ti:TIp):TS:=fun D σ H=>∃ x,σ[i]? = some (some x)/\te σ H fun y H1=>ti x y H1 fun z H2=>D.nx (σ.set i (some z)) H2
theorem zjn {i:Nat} {x:Str} {e:Expr} {te:TE} {op:Operator} {ti:TIp} {pos':Pos} (hN:X.N.Nodup) (hi:X.N[i]? = some x) (hx:Loc X.env.scope x) (he:PE X e te) (ho:PIp X op ti) (hf:X.fn x=true\/X.env.scope.names.lookup x=some .local:=by first | exact .inl rfl | exact .inr rfl | assumption) :
  PS X (.AugAssign #[Q3] op e pos) (zsm i te ti):=by
 intro pv s σ H D I h;obtain⟨v,e1,h⟩:=h;obtain⟨m,hn,hl⟩:=I.loc;have vis:Vis X.env.scope x:=by rcases hx with k | k; exact .inl k; exact .inr (.inl k)
 obtain⟨u,r,l⟩:=hl i x v hi e1 vis;refine wpAny_AugAssign_Name ?_;have go:wpAny #[ss] X.A #[Vn] (fun w s₂=>wpAny #[ss] X.A (inplaceOp op u w) (fun r s₃=>wpAny #[ss] X.A (storeName X.env x r) (fun _=>SP X pv D .next) X.xe s₃) X.xe s₂) X.xe s:=by
  refine thn #[Q4] fun w s1 ⟨y,H1,I1,r1,q1⟩=>?_
  refine thn (ho pv s1 σ H1 v y u w _ I1 r r1 q1) fun z s2 ⟨zv,H2,I2,r2,q2⟩=>?_
  exact zcf I2 hN hi hx r2 (fun s3 I3=>⟨_,H2,I3,q2⟩) hf
 rcases l with ⟨hk,hm⟩ | ⟨hk,c,hc,sU⟩
 ·exact lX I.ok.kind hk hn hm go
 ·rcases hk with hk | hk
  ·exact mR I.ok.kind hk hc sU go
  ·rcases hx with k | k
   ·have:X.env.scope.names.lookup x=some .free:=hk;rw [k] at this; cases this
   ·have:X.env.scope.names.lookup x=some .free:=hk;rw [k] at this; cases this
def zmo (c:TT) (tb:TS):TS:=fun D σ H=>∃ W:Nat->St->Hp->Prop,(∃ m,W m σ H)/\∀ m σ H,W m σ H ->
 c σ H fun b H1=>if b=true then ∃ N:St->Hp->Prop,(∀ σ' H',N σ' H'->∃ m',m' < m/\W m' σ' H')/\tb { D with nx:=N,ct:=N,bk:=D.nx } σ H1 else D.nx σ H1
theorem zh2 {c:Expr} {body:List Stmt} {tc:TT} {tb:TS} (hp:PassesOwn #[ss] X.A X.env X.xe) (hc:PT X c tc) (hb:PSs X body tb):PS X (.While c body [] pos) (zmo tc tb):=by
 intro pv s σ H D I h;obtain⟨W,⟨m0,w0⟩,turn⟩:=h;refine wpAny_While (codeAny_whileLoop (fun n s'=>∃ σ' H',Inv X pv σ' H' s'/\W n σ' H') ?_ m0 ⟨σ,H,I,w0⟩);rintro n s1 ⟨σ1,H1,I1,w1⟩;refine ge hp (thn (hc pv s1 σ1 H1 _ I1 (turn n σ1 H1 w1)) fun b s2 ⟨H2,I2,q2⟩=>?_);cases b with
 | true =>
  obtain⟨N,hN,q2⟩:=q2;rw [if_pos rfl];refine ge hp (thn (hb pv s2 σ1 H2 _ I2 q2) fun f s3 q3=>?_);cases f with
  | next =>
   obtain⟨σ3,H3,I3,n3⟩:=q3;obtain⟨m',hm,w3⟩:=hN σ3 H3 n3;exact⟨m',hm,σ3,H3,I3,w3⟩
  | cont =>
   obtain⟨σ3,H3,I3,n3⟩:=q3;obtain⟨m',hm,w3⟩:=hN σ3 H3 n3;exact⟨m',hm,σ3,H3,I3,w3⟩
  | brk=>exact q3
  | ret v=>exact q3
 | false =>
  rw [if_neg bK];exact gd ⟨σ1,H2,I2,q2⟩
end
structure It where
 go:Nat->Hp->Prop
 yld:Nat->Hp->V->Hp->Prop
 stop:Nat->Hp->Prop
def zb8 (X:Cx) (pv:List (Addr×Obj)) (H:Hp) (b:Addr):Prop :=
 H b=none/\b≠X.env.locals/\b∉X.fs/\(b∈X.ex\/X.s₀.heap.objs.size<=b)/\(∀ x c,X.env.cells.lookup x=some c->c≠b)/\∀ p∈X.pn++pv,p.1≠b
theorem Inv.Ny {σ:St} {b:Addr} (I:Inv X pv σ H s) (hb:s.heap.objs.size<=b) (hn:H' b=none):zb8 X pv H' b:=by
 refine⟨hn,iH (cA I.lt hb),I.PK hb,.inr (bR I.sz hb),fun x c e z=>?_,fun p hp z=>?_⟩
 ·obtain⟨v,q⟩:=I.cell x c e;exact absurd (cA q.lt (by rw [z]; exact hb)) (dI _)
 ·exact absurd (cA (aW (I.pin p hp).1) (by rw [z]; exact hb)) (dI _)
structure Turn (P:Program) (w:World) (K:aD) (tg:Expr) (J:It) (fp:List Addr) (it:Addr) (tn:Nat->Heap->Prop):Prop where
 mem:it∈fp
 obj:∀ i h,tn i h->∀ b∈fp,∃ o,h.get? b=some o/\∀ v,o.data≠.cell v
 keep:∀ i h h',tn i h->(∀ b∈fp,∀ o,h.get? b=some o->h'.get? b=some o)->tn i h'
 item:∀ (X:Cx),X.prog=P->X.w=w->X.K=K->X.calm=true->∀ (i:Nat) (pv:List (Addr×Obj)) (s:Shared) (σ:St) (H:Hp) (E:Value->Shared->Prop),Inv X pv σ H s->(∀ b∈fp,zb8 X pv H b)->tn i s.heap->J.go i H ->
  wpAny #[S0] X.A #[Tc] (fun r s1=>∃ u,r=some u /\
   wpAny #[S0] X.A #[WX] (fun _ s2=>∃ x H',Inv X pv σ H' s2/\RelV x u/\J.yld i H x H'/\tn (i+1) s2.heap/\∀ b∈fp,H' b=none) E s1) E s
 done:∀ (X:Cx),X.prog=P->X.w=w->X.K=K->X.calm=true->∀ (i:Nat) (pv:List (Addr×Obj)) (s:Shared) (σ:St) (H:Hp) (E:Value->Shared->Prop),Inv X pv σ H s->(∀ b∈fp,zb8 X pv H b)->tn i s.heap->J.stop i H ->
  wpAny #[S0] X.A #[Tc] (fun r s1=>r=none/\Inv X pv σ H s1) E s
 self:∀ (A:Around) (i:Nat) (s:Shared) (Q:Value->Shared->Prop) (E:Value->Shared->Prop),tn i s.heap->Q #[QT] s->wpAny #[S0] A (pyIter #[QT]) Q E s
abbrev TI:=St->Hp->(It->Hp->Prop)->Prop
def PIE (X:Cx) (pv:List (Addr×Obj)) (σ:St) (tg:Expr) (R:It->Hp->Prop) (CW:Value) (s2:Shared):Prop :=
 ∃ (it:Addr) (fp:List Addr) (tn:Nat->Heap->Prop) (J:It) (H':Hp),CW = .ref it/\Inv X pv σ H' s2/\Turn X.prog X.w X.K tg J fp it tn/\tn 0 s2.heap/\(∀ b∈fp,zb8 X pv H' b)/\R J H'
def PI (X:Cx) (tg iter:Expr) (wi:TI):Prop :=
 ∀ (pv:List (Addr×Obj)) (s:Shared) (σ:St) (H:Hp) (R:It->Hp->Prop),Inv X pv σ H s->wi σ H R ->
  wpAny #[ss] X.A (eval iter X.env) (fun v s1=>wpAny #[ss] X.A (pyIter v) (PIE X pv σ tg R) X.xe s1) X.xe s
theorem zfp {E:Value->Shared->Prop} {u:Value} {o:Obj} {n:String} {vs:Array Value} {Q:Unit->Shared->Prop} (ho:s.heap.get? it=some o) (hc:o.cls = .type n) (hd:o.data = .fields vs)
  (hn:["enumerate","zip","dict_itemiterator","dict_reverseitemiterator","odict_iterator","itertools.zip_longest","itertools.pairwise"].contains n=false) (hQ:Q () s):wpAny M A #[WX] Q E s:=by
 unfold letOwnedTupleGo;cases tg <;> first
  | exact aI hQ
  | (cases u <;> first
    | exact aI hQ
    | (refine aB (wpAny_load ho ?_)
       rw [hc,hd];show wpAny M A (if (["enumerate","zip","dict_itemiterator","dict_reverseitemiterator","odict_iterator","itertools.zip_longest","itertools.pairwise"].contains n && vs[0]? == some (rawInt _))=true then _ else _) Q E s;rw [if_neg (by intro h; rw [hn,Bool.false_and] at h; cases h)];exact aI hQ))
def Itl (K:aD) (a:Addr):It :=
 ⟨fun i H=>∃ xs x,pA K H a xs/\xs[i]? = some x,fun i H x H'=>H'=H/\∀ xs,pA K H a xs->xs[i]? = some x,fun i H=>∃ xs,pA K H a xs/\xs.length<=i⟩
def Itt (K:aD) (a:Addr):It :=
 ⟨fun i H=>∃ xs x,pK K H a xs/\xs[i]? = some x,fun i H x H'=>H'=H/\∀ xs,pK K H a xs->xs[i]? = some x,fun i H=>∃ xs,pK K H a xs/\xs.length<=i⟩
def Itr (lo:Int) (n:Nat):It:=⟨fun i _=>i < n,fun i H x H'=>H'=H/\x = .int (lo+i),fun i _=>n<=i⟩
theorem zgy {w:World} (a it:Addr):Turn P w K tg #[Wg] [it] it (fun i h=>h.IsListIter it a i) where
 mem:=by simp
 obj:=fun i h st b hb=>by
  have e:b=it:=by simpa using hb
  subst e;obtain⟨o,e,c,d⟩:=st;exact⟨o,e,fun v z=>by rw [d] at z; cases z⟩
 keep:=fun i h h' st k=>st.at fun o e=>k it #[M] o e
 item:=by
  intro X hP hw hK hc i pv s σ H E I hf st hg;subst hP hw hK;obtain⟨xs,x,hq,hx⟩:=hg;obtain⟨pC,rv,p,hz⟩:=I.list hq;obtain⟨u,hu,ru⟩:=rv.get hx;obtain⟨f0,f1,f2,f3,f4,f5⟩:=hf it #[M];refine wpAny_pyNext_list_item st p.isList (x:=u) (by simpa using hu) fun h' pE sb=>?_
  have I1:Inv X pv σ H { s with heap:=h' }:=I.turned (t':=s.toks) (fun b o hb e=>(sb.2 b hb).trans e) f0 f1 f3 f4 f5;obtain⟨o,e,c,d⟩:=id pE;exact⟨u,rfl,zfp (s:={ s with heap:=h' }) e c d #[D] ⟨x,H,I1,ru,⟨rfl,fun ys hy=>by rw [I.LC hy hq]; exact hx⟩,pE,fun b hb=>#[Ux].1⟩⟩
 done:=by
  intro X hP hw hK hc i pv s σ H E I hf st hg;subst hP hw hK;obtain⟨xs,hq,hx⟩:=hg;obtain⟨pC,rv,p,hz⟩:=I.list hq;obtain⟨f0,f1,f2,f3,f4,f5⟩:=hf it #[M];have hl:=rv.length;exact wpAny_pyNext_list_end #[Qn] st p.isList (by simp; lia) fun h' eb=>#[wp]
 self:=fun _ _ _ _ _ st h=>wpAny_pyIter_listiter st h
theorem zfq {w:World} (a it:Addr):Turn P w K tg #[Wf] [it] it (fun i h=>h.IsTupleIter it a i) where
 mem:=by simp
 obj:=fun i h st b hb=>by
  have e:b=it:=by simpa using hb
  subst e;obtain⟨o,e,c,d⟩:=st;exact⟨o,e,fun v z=>by rw [d] at z; cases z⟩
 keep:=fun i h h' st k=>st.at fun o e=>k it #[M] o e
 item:=by
  intro X hP hw hK hc i pv s σ H E I hf st hg;subst hP hw hK;obtain⟨xs,x,hq,hx⟩:=hg;obtain⟨pC,rv,p,hz⟩:=I.tuple hq;obtain⟨u,hu,ru⟩:=rv.get hx;obtain⟨f0,f1,f2,f3,f4,f5⟩:=hf it #[M];refine wpAny_pyNext_tuple_item st (show s.heap.IsTuple a pC.toArray from p) (x:=u) (by simpa using hu) fun h' pE sb=>?_
  have I1:Inv X pv σ H { s with heap:=h' }:=I.turned (t':=s.toks) (fun b o hb e=>(sb.2 b hb).trans e) f0 f1 f3 f4 f5;obtain⟨o,e,c,d⟩:=id pE;exact⟨u,rfl,zfp (s:={ s with heap:=h' }) e c d #[D] ⟨x,H,I1,ru,⟨rfl,fun ys hy=>by rw [I.LK hy hq]; exact hx⟩,pE,fun b hb=>#[Ux].1⟩⟩
 done:=by
  intro X hP hw hK hc i pv s σ H E I hf st hg;subst hP hw hK;obtain⟨xs,hq,hx⟩:=hg;obtain⟨pC,rv,p,hz⟩:=I.tuple hq;obtain⟨f0,f1,f2,f3,f4,f5⟩:=hf it #[M];have hl:=rv.length;exact wpAny_pyNext_tuple_end #[Qn] st (show s.heap.IsTuple a pC.toArray from p) (by simp; lia) fun h' eb=>#[wp]
 self:=fun _ _ _ _ _ st h=>wpAny_pyIter_tupleiter st h
theorem zjo {w:World} (it:Addr) (lo:Int) (n:Nat):Turn P w K tg (Itr lo n) [it] it (fun i h=>IsRangeIter h it (lo+(i:Nat)*1) ((n:Int) - (i:Nat)) 1) where
 mem:=by simp
 obj:=fun i h st b hb=>by
  have e:b=it:=by simpa using hb
  subst e;exact⟨_,st,fun v z=>by
   have z':lq _=Data.cell v:=z;cases z'⟩
 keep:=fun i h h' st k=>k it #[M] _ st
 item:=by
  intro X hP hw hK hc i pv s σ H E I hf st hg;subst hP hw hK;obtain⟨f0,f1,f2,f3,f4,f5⟩:=hf it #[M];have W:=Walks.range (prog:=X.prog) (w:=X.w) #[Qn] it lo 1 n;refine W.item i s _ _ hg st fun v h' tk hv pE kk=>?_
  obtain⟨t,rfl⟩:=hv;have I1:Inv X pv σ H { s with heap:=h',toks:=tk }:=I.turned (fun b o hb e=>kk b o (by simpa using hb) e) f0 f1 f3 f4 f5;refine⟨_,rfl,zfp (s:={ s with heap:=h',toks:=tk }) (n:="range_iterator") pE rfl rfl #[D] ⟨.int (lo+i),H,I1,⟨t,?_⟩,⟨rfl,rfl⟩,pE,fun b hb=>#[Ux].1⟩⟩;rw [nW]
 done:=by
  intro X hP hw hK hc i pv s σ H E I hf st hg;subst hP hw hK;obtain⟨f0,f1,f2,f3,f4,f5⟩:=hf it #[M];exact lr #[Qn] st (by have:n<=i:=hg; lia) fun h' eb=>#[wp]
 self:=fun _ _ _ _ _ st h=>jc st h
section
variable {X:Cx} {tg:Expr}
def zpM (K:aD) (tl:TE):TI:=fun σ H R=>tl σ H fun x H1=>∃ a,x = .ref a/\(∃ xs,pA K H1 a xs)/\R #[Wg] H1
def zrA (K:aD) (tl:TE):TI:=fun σ H R=>tl σ H fun x H1=>∃ a,x = .ref a/\(∃ xs,pK K H1 a xs)/\R #[Wf] H1
theorem z0 {l:Expr} {tl:TE} (hl:PE X l tl):PI X tg l (zpM X.K tl):=by
 intro pv s σ H R I h;refine thn #[SW] fun v s1 ⟨x,H1,I1,r1,q1⟩=>?_
 obtain⟨a,e,⟨xs,hq⟩,q⟩:=q1;subst e;cases r1;obtain⟨pC,rv,p,hz⟩:=I1.list hq;refine gT p.isList ?_;refine⟨s1.heap.objs.size,[s1.heap.objs.size],_,_,H1,rfl,I1.kept (t':=s1.toks) fun b o e=>aH _ e,zgy a _,⟨_,aY _ rfl,rfl,rfl⟩,fun b hb=>?_,q⟩;have e:b=s1.heap.objs.size:=by simpa using hb
 subst e;exact I1.Ny (aG _) #[PZ]
theorem zmp {l:Expr} {tl:TE} (hl:PE X l tl):PI X tg l (zrA X.K tl):=by
 intro pv s σ H R I h;refine thn #[SW] fun v s1 ⟨x,H1,I1,r1,q1⟩=>?_
 obtain⟨a,e,⟨xs,hq⟩,q⟩:=q1;subst e;cases r1;obtain⟨pC,rv,p,hz⟩:=I1.tuple hq;refine gL (show s1.heap.IsTuple a pC.toArray from p) ?_;refine⟨s1.heap.objs.size,[s1.heap.objs.size],_,_,H1,rfl,I1.kept (t':=s1.toks) fun b o e=>aH _ e,zfq a _,⟨_,aY _ rfl,rfl,rfl⟩,fun b hb=>?_,q⟩;have e:b=s1.heap.objs.size:=by simpa using hb
 subst e;exact I1.Ny (aG _) #[PZ]
theorem zh3 {σ:St} {R:It->Hp->Prop} {E:Value->Shared->Prop} {lo hi:Int} {t u v:Tok} (I:Inv X pv σ H s) (h1:-(2 ^ 62)<=lo) (h2:lo < 2 ^ 62) (h3:-(2 ^ 62)<=hi) (h4:hi < 2 ^ 62)
  (q:R (Itr lo (hi - lo).toNat) H):wpAny #[ss] X.A (pyIter #[ww]) (PIE X pv σ tg R) E { s with heap:=s.heap.push { cls:=.type "range",data:=.fields #[PY] },toks:=tk }:=by
 refine wpAny_pyIter_range (IsRange.new ..) (small_one h1 h2 h3 h4) ?_;have I1:Inv X pv σ H { s with heap:=s.heap.push { cls:=.type "range",data:=.fields #[PY] },toks:=tk }:=I.kept fun b o e=>aH _ e
 refine⟨(s.heap.push { cls:=.type "range",data:=.fields #[PY] }).objs.size,[(s.heap.push { cls:=.type "range",data:=.fields #[PY] }).objs.size],_,_,H,rfl,
  I1.kept (t':=tk) fun b o e=>aH _ e,zjo _ lo (hi - lo).toNat,?_,fun b hb=>?_,q⟩
 ·have e1:lo+((0:Nat):Int)*1=lo:=by simp
  have e2:(((hi - lo).toNat:Nat):Int) - ((0:Nat):Int)=cN lo hi 1:=by rw [rangeSize_one]; split <;> lia
  show IsRangeIter _ _ (lo+((0:Nat):Int)*1) ((((hi - lo).toNat:Nat):Int) - ((0:Nat):Int)) 1;rw [e1,e2];exact aY _ rfl
 ·have e:b=(s.heap.push { cls:=.type "range",data:=.fields #[PY] }).objs.size:=by simpa using hb
  subst e;exact I1.Ny (aG _) #[PZ]
def zrB (ta:TA):TI:=fun σ H R=>ta σ H fun vs H1=>∃ j:Int,vs = [.int j]/\-(2 ^ 62)<=j/\j < 2 ^ 62/\R (Itr 0 j.toNat) H1
def zrC (ta:TA):TI:=fun σ H R=>ta σ H fun vs H1=>∃ i j:Int,vs = [.int i,.int j]/\(-(2 ^ 62)<=i/\i < 2 ^ 62/\-(2 ^ 62)<=j/\j < 2 ^ 62)/\R (Itr i (j - i).toNat) H1
theorem zae {a:Expr} {ta:TA} {p pos:Pos} (hg:Gl X "range") (hm:X.mg "range" = none) (ha:PA X [a] ta) (hs:starEach [a] X.env = [#[GM]]:=by rfl):PI X tg (.Call (.Name "range" p) [a] [] pos) (zrB ta):=by
 intro pv s σ H R I h;refine Call_ (za4 I hg hm lY (cD (thn #[Cl] fun us s1 ⟨vs,H1,I1,r1,q1⟩=>?_) hs rfl));obtain⟨j,e,q1,q2,q⟩:=q1;subst e;cases r1 with
 | cons r rr =>
  cases rr;obtain⟨t,rfl⟩:=r;exact call_range_1 (zh3 I1 #[O] #[O] q1 q2 (by simpa using q))
theorem zgz {a b:Expr} {ta:TA} {p pos:Pos} (hg:Gl X "range") (hm:X.mg "range" = none) (ha:PA X [a,b] ta) (hs:starEach [a,b] X.env = [#[GM],#[IN]]:=by rfl) (rG:starEach [b] X.env = [#[IN]]:=by rfl) :
  PI X tg (.Call (.Name "range" p) [a,b] [] pos) (zrC ta):=by
 intro pv s σ H R I h;refine Call_ (za4 I hg hm lY (cD (thn #[Cl] fun us s1 ⟨vs,H1,I1,r1,q1⟩=>?_) (by rw [hs,rG]) (by rw [rG]; rfl)));obtain⟨i,j,e,⟨q1,q2,q3,q4⟩,q⟩:=q1;subst e;cases r1 with
 | cons r rr =>
  cases rr with
  | cons r' rr =>
   cases rr;obtain⟨t,rfl⟩:=r;obtain⟨t',rfl⟩:=r';exact call_range_2 (zh3 I1 q1 q2 q3 q4 q)
def zsn (wi:TI) (g:TG) (tb:TS):TS:=fun D σ H=>wi σ H fun J H1=>∃ W:Nat->Nat->St->Hp->Prop,(∃ m,W 0 m σ H1)/\∀ i m σ H,W i m σ H ->
 (J.stop i H/\D.nx σ H)\/(J.go i H/\∃ N:St->Hp->Prop,(∀ σ' H',N σ' H'->∃ m',m' < m/\W (i+1) m' σ' H')/\∀ x H',J.yld i H x H'->g x σ H' fun σ2 H2=>tb { D with nx:=N,ct:=N,bk:=D.nx } σ2 H2)
def zcT (fp:List Addr) (h:Heap):List (Addr×Obj):=fp.filterMap fun b=>(h.get? b).map fun o=>(b,o)
theorem zcu {b:Addr} {o:Obj} (hb:b∈fp) (e:h.get? b=some o):(b,o)∈zcT fp h:=nj.mpr ⟨b,hb,by rw [e]; rfl⟩
theorem zgA {p:Addr×Obj} (hp:p∈zcT fp h):p.1∈fp/\h.get? p.1=some p.2:=by
 obtain⟨b,hb,e⟩:=nj.mp hp;cases q:h.get? b with
 | none=>rw [q] at e; cases e
 | some o =>
  rw [q] at e;have e':(b,o)=p:=bJ e;subst e';exact⟨hb,q⟩
theorem Inv.pinned {σ:St} (I:Inv X pv σ H s) (hf:∀ b∈fp,zb8 X pv H b) (ho:∀ b∈fp,∃ o,s.heap.get? b=some o/\∀ v,o.data≠.cell v):Inv X (pv++zcT fp s.heap) σ H s :=
 I.Ni fun p hp=>(bQ.mp hp).elim (fun z=>I.pin p (bH _ z)) fun z=>by
  obtain⟨hb,e⟩:=zgA z;obtain⟨f0,f1,f2,_⟩:=hf p.1 hb;obtain⟨o,e',d⟩:=ho p.1 hb;rw [e] at e'; cases e';exact⟨e,f0,f1,f2,d⟩
theorem Inv.Nf {pl:List (Addr×Obj)} {σ:St} (I:Inv X (pv++pl) σ H s):Inv X pv σ H s:=I.Ni fun p hp=>I.pin p (bH _ (bV _ hp))
theorem zaX {iter:Expr} {body:List Stmt} {wi:TI} {g:TG} {tb:TS} {pos:Pos} (hp:PassesOwn #[ss] X.A X.env X.xe) (hc:X.calm=true) (hi:PI X tg iter wi) (hg:PG X tg g) (hb:PSs X body tb)
  (hs:∀ x,foldedSetIterable iter X.env x=pure x:=by intro _; rfl):PS X (.For tg iter body [] pos) (zsn wi g tb):=by
 intro pv s σ H D I h;refine wpAny_For (thn #[Um] fun v s1 h1=>thn h1 fun CW s2 h2=>?_) hs;obtain⟨it,fp,tn,J,H2,e,I2,T,qi,f2,W,⟨m0,w0⟩,turn⟩:=h2;subst e;have CY:∀ {H':Hp},(∀ b∈fp,H' b=none)->∀ b∈fp,zb8 X pv H' b:=fun hn b hb=>⟨hn b hb,(f2 b hb).2⟩
 refine codeAny_forLoop_any (fun n s'=>∃ i σ' H',Inv X pv σ' H' s'/\tn i s'.heap/\(∀ b∈fp,H' b=none)/\W i n σ' H') ?_ m0 ⟨0,σ,H2,I2,qi,fun b hb=>(f2 b hb).1,w0⟩;rintro n s3 ⟨i,σ3,H3,I3,Aa,fr3,w3⟩;rcases turn i n σ3 H3 w3 with ⟨stop,qn⟩ | ⟨go,N,hN,step⟩
 ·refine ge hp (thn (T.done X rfl rfl rfl hc i pv s3 σ3 H3 X.xe I3 (CY fr3) Aa stop) fun r s4 ⟨hr,I4⟩=>?_);subst hr;exact gd ⟨σ3,H3,I4,qn⟩
 ·refine ge hp (thn (T.item X rfl rfl rfl hc i pv s3 σ3 H3 X.xe I3 (CY fr3) Aa go) fun r s4 ⟨u,hr,h4⟩=>?_);subst hr;refine ge hp (thn h4 fun _ s5 ⟨x,H5,I5,r5,y5,Em,fr5⟩=>?_);have I5':=I5.pinned (CY fr5) (T.obj _ _ Em);refine ge hp (thn (hg _ s5 σ3 H5 x u _ I5' r5 (step x H5 y5)) fun _ s6 ⟨σ6,H6,I6,q6⟩=>?_);refine ge hp (thn (hb _ s6 σ6 H6 _ I6 q6) fun f s7 q7=>?_);have again:∀ {σ7:St} {H7:Hp},Inv X (pv++zcT fp s5.heap) σ7 H7 s7->N σ7 H7->∃ m,m < n/\∃ i σ' H',Inv X pv σ' H' s7/\tn i s7.heap/\(∀ b∈fp,H' b=none)/\W i m σ' H':=fun {σ7 H7} I7 n7=>by
   obtain⟨m',hm,w7⟩:=hN σ7 H7 n7;refine⟨m',hm,i+1,σ7,H7,I7.Nf,T.keep _ _ _ Em fun b hb o e=>(I7.pin (b,o) #[R3]).1,fun b hb=>?_,w7⟩;obtain⟨o,e,d⟩:=T.obj _ _ Em b hb;exact (I7.pin (b,o) #[R3]).2.1
  cases f with
  | next=>obtain⟨σ7,H7,I7,n7⟩:=q7; exact again I7 n7
  | cont=>obtain⟨σ7,H7,I7,n7⟩:=q7; exact again I7 n7
  | brk=>obtain⟨σ7,H7,I7,q7⟩:=q7; exact⟨σ7,H7,I7.Nf,q7⟩
  | ret v=>obtain⟨x7,σ7,H7,I7,r7,q7⟩:=q7; exact⟨x7,σ7,H7,I7.Nf,r7,q7⟩
end
theorem zmq {a:Addr} {xs:List V} {g:TG} {tb:TS} {D:Ends} {σ:St} (Pv:Nat->St->Hp->Prop) (h0:Pv 0 σ H) (hl:∀ i σ H,i<=xs.length->Pv i σ H->pA K H a xs)
  (hs:∀ i x σ H,xs[i]? = some x->Pv i σ H->g x σ H fun σ2 H2=>tb { D with nx:=Pv (i+1),ct:=Pv (i+1),bk:=D.nx } σ2 H2) (hd:∀ σ H,Pv xs.length σ H->D.nx σ H) :
  ∃ W:Nat->Nat->St->Hp->Prop,(∃ m,W 0 m σ H)/\∀ i m σ H,W i m σ H ->
   (#[Wg].stop i H/\D.nx σ H)\/(#[Wg].go i H/\∃ N:St->Hp->Prop,(∀ σ' H',N σ' H'->∃ m',m' < m/\W (i+1) m' σ' H')/\∀ x H',#[Wg].yld i H x H'->g x σ H' fun σ2 H2=>tb { D with nx:=N,ct:=N,bk:=D.nx } σ2 H2):=by
 refine⟨fun i m σ H=>m=xs.length - i/\i<=xs.length/\Pv i σ H,⟨xs.length,#[M],cB _,h0⟩,?_⟩;rintro i m σ H ⟨rfl,hi,p⟩;have q:=hl i σ H hi p;by_cases pT:i < xs.length
 ·refine .inr ⟨⟨xs,xs[i],q,by simp [pT]⟩,Pv (i+1),fun σ' H' p'=>⟨xs.length - (i+1),#[O],rfl,pT,p'⟩,fun x H' y=>?_⟩;obtain⟨e,y⟩:=y;subst e;exact hs i x σ _ (y xs q) p
 ·have e:i=xs.length:=by lia
  subst e;exact .inl ⟨⟨xs,q,aG _⟩,hd σ H p⟩
theorem zor {a:Addr} {xs:List V} {g:TG} {tb:TS} {D:Ends} {σ:St} (Pv:Nat->St->Hp->Prop) (h0:Pv 0 σ H) (hl:∀ i σ H,i<=xs.length->Pv i σ H->pK K H a xs)
  (hs:∀ i x σ H,xs[i]? = some x->Pv i σ H->g x σ H fun σ2 H2=>tb { D with nx:=Pv (i+1),ct:=Pv (i+1),bk:=D.nx } σ2 H2) (hd:∀ σ H,Pv xs.length σ H->D.nx σ H) :
  ∃ W:Nat->Nat->St->Hp->Prop,(∃ m,W 0 m σ H)/\∀ i m σ H,W i m σ H ->
   (#[Wf].stop i H/\D.nx σ H)\/(#[Wf].go i H/\∃ N:St->Hp->Prop,(∀ σ' H',N σ' H'->∃ m',m' < m/\W (i+1) m' σ' H')/\∀ x H',#[Wf].yld i H x H'->g x σ H' fun σ2 H2=>tb { D with nx:=N,ct:=N,bk:=D.nx } σ2 H2):=by
 refine⟨fun i m σ H=>m=xs.length - i/\i<=xs.length/\Pv i σ H,⟨xs.length,#[M],cB _,h0⟩,?_⟩;rintro i m σ H ⟨rfl,hi,p⟩;have q:=hl i σ H hi p;by_cases pT:i < xs.length
 ·refine .inr ⟨⟨xs,xs[i],q,by simp [pT]⟩,Pv (i+1),fun σ' H' p'=>⟨xs.length - (i+1),#[O],rfl,pT,p'⟩,fun x H' y=>?_⟩;obtain⟨e,y⟩:=y;subst e;exact hs i x σ _ (y xs q) p
 ·have e:i=xs.length:=by lia
  subst e;exact .inl ⟨⟨xs,q,aG _⟩,hd σ H p⟩
theorem zk9 {lo:Int} {n:Nat} {g:TG} {tb:TS} {D:Ends} {σ:St} (Pv:Nat->St->Hp->Prop) (h0:Pv 0 σ H)
  (hs:∀ i σ H,i < n->Pv i σ H->g (.int (lo+i)) σ H fun σ2 H2=>tb { D with nx:=Pv (i+1),ct:=Pv (i+1),bk:=D.nx } σ2 H2) (hd:∀ σ H,Pv n σ H->D.nx σ H) :
  ∃ W:Nat->Nat->St->Hp->Prop,(∃ m,W 0 m σ H)/\∀ i m σ H,W i m σ H ->
   ((Itr lo n).stop i H/\D.nx σ H)\/((Itr lo n).go i H/\∃ N:St->Hp->Prop,(∀ σ' H',N σ' H'->∃ m',m' < m/\W (i+1) m' σ' H')/\∀ x H',(Itr lo n).yld i H x H'->g x σ H' fun σ2 H2=>tb { D with nx:=N,ct:=N,bk:=D.nx } σ2 H2):=by
 refine⟨fun i m σ H=>m=n - i/\i<=n/\Pv i σ H,#[Si],?_⟩;rintro i m σ H ⟨rfl,hi,p⟩;by_cases pT:i < n
 ·refine .inr #[TW];obtain⟨e,y⟩:=y;subst e y;exact hs i σ _ pT p
 ·have e:i=n:=by lia
  subst e;exact .inl ⟨aG _,hd σ H p⟩
theorem zmr {c:TT} {tb:TS} {D:Ends} {σ:St} (Pv:St->Hp->Prop) (μ:St->Hp->Nat) (h0:Pv σ H)
  (hs:∀ σ H,Pv σ H->c σ H fun b H1=>if b=true then tb { D with nx:=fun σ' H'=>Pv σ' H'/\μ σ' H' < μ σ H,ct:=fun σ' H'=>Pv σ' H'/\μ σ' H' < μ σ H,bk:=D.nx } σ H1 else D.nx σ H1)
  (mono:∀ σ H Q Q',(∀ b H1,Q b H1->Q' b H1)->c σ H Q->c σ H Q'):zmo c tb D σ H:=by
 refine⟨fun m σ H=>m=μ σ H/\Pv σ H,⟨_,rfl,h0⟩,?_⟩;rintro m σ H ⟨rfl,p⟩;refine mono σ H _ _ (fun b H1 q=>?_) (hs σ H p);cases b with
 | true=>exact⟨_,fun σ' H' ⟨p',l⟩=>⟨_,l,rfl,p'⟩,q⟩
 | false=>exact q
abbrev R2:=V->V->Hp->VK->Prop
def OpR (X:Cx) (f:Value->Value->Sem Value) (r:R2):Prop :=
 ∀ (pv:List (Addr×Obj)) (s:Shared) (σ:St) (H:Hp) (x y:V) (v u:Value) (Q:VK),Inv X pv σ H s->RelV x v->RelV y u->r x y H Q ->
  wpAny #[ss] X.A (f v u) #[Qd] X.xe s
def UnR (X:Cx) (f:Value->Sem Value) (r:V->Hp->VK->Prop):Prop :=
 ∀ (pv:List (Addr×Obj)) (s:Shared) (σ:St) (H:Hp) (x:V) (v:Value) (Q:VK),Inv X pv σ H s->RelV x v->r x H Q ->
  wpAny #[ss] X.A (f v) #[Qd] X.xe s
def zbh (X:Cx) (f:Value) (r:List V->Hp->VK->Prop):Prop :=
 ∀ (pv:List (Addr×Obj)) (s:Shared) (σ:St) (H:Hp) (xs:List V) (us:List Value) (Q:VK),Inv X pv σ H s->zR xs us->r xs H Q ->
  wpAny #[ss] X.A (call f us) #[Qd] X.xe s
def zso (X:Cx) (r:V->Hp->(Bool->Hp->Prop)->Prop):Prop :=
 ∀ (pv:List (Addr×Obj)) (s:Shared) (σ:St) (H:Hp) (x:V) (v:Value) (Q:Bool->Hp->Prop),Inv X pv σ H s->RelV x v->r x H Q ->
  wpAny #[ss] X.A (truthy v) #[Vq] X.xe s
def tOp (r:R2) (ta tb:TE):TE:=fun σ H Q=>ta σ H fun x H1=>tb σ H1 fun y H2=>r x y H2 Q
def tUn (r:V->Hp->VK->Prop) (ta:TE):TE:=fun σ H Q=>ta σ H fun x H1=>r x H1 Q
def rI (C:Int->Int->Prop) (g:Int->Int->V):R2:=fun x y H Q=>∃ i j,x = .int i/\y = .int j/\C i j/\Q (g i j) H
def rI0 (g:Int->Int->V):R2:=fun x y H Q=>∃ i j,x = .int i/\y = .int j/\Q (g i j) H
def rU (g:Int->V):V->Hp->VK->Prop:=fun x H Q=>∃ i,x = .int i/\Q (g i) H
section
variable {X:Cx} {a b c:Expr} {ta tb tc:TE} {pos:Pos}
theorem zqo (ha:PE X a ta) (hb:PE X b tb) {σ:St} {R:V->V->Hp->Prop} (I:Inv X pv σ H s)
  (h:ta σ H fun x H1=>tb σ H1 fun y H2=>R x y H2) {Q:Value->Shared->Prop} {f:Value->Value->Sem Value}
  (hf:∀ v u s2 x y H2,Inv X pv σ H2 s2->RelV x v->RelV y u->R x y H2->wpAny #[ss] X.A (f v u) Q X.xe s2) :
  wpAny #[ss] X.A (eval a X.env) (fun v s₁=>wpAny #[ss] X.A (eval b X.env) (fun u s₂=>wpAny #[ss] X.A (f v u) Q X.xe s₂) X.xe s₁) X.xe s:=by
 refine thn #[Qm] fun v s1 ⟨x,H1,I1,r1,q1⟩=>?_
 refine thn #[Tn] fun u s2 ⟨y,H2,I2,r2,q2⟩=>?_
 exact hf v u s2 x y H2 I2 r1 r2 q2
theorem zj {op:Operator} {r:R2} (ho:OpR X (binaryOp op) r) (ha:PE X a ta) (hb:PE X b tb):PE X (.BinOp a op b pos) #[Wi]:=by
 intro pv s σ H Q I h;exact wpAny_BinOp (zqo ha hb I h fun v u s2 x y H2 I2 rx ry q=>ho pv s2 σ H2 x y v u Q I2 rx ry q)
theorem zpN {op:UnaryOp} {r:V->Hp->VK->Prop} (ho:UnR X (unaryOp op) r) (ha:PE X a ta):PE X (.UnaryOp op a pos) (tUn r ta):=by
 intro pv s σ H Q I h;exact UnaryOp_ (thn #[Qm] fun v s1 ⟨x,H1,I1,r1,q1⟩=>ho pv s1 σ H1 x v Q I1 r1 q1)
theorem opI {f:Value->Value->Sem Value} {C:Int->Int->Prop} {g:Int->Int->Int}
  (rule:∀ (i j:Int) (t u:Tok) (s:Shared) (Q:Value->Shared->Prop) (E:Value->Shared->Prop),C i j->Q (.int (g i j) s.toks) { s with toks:=s.toks+1 }->wpAny #[ss] X.A #[Tx] Q E s) :
  OpR X f (rI C fun i j=>.int (g i j)):=by
 intro pv s σ H x y v u Q I rx ry h;obtain⟨i,j,rfl,rfl,hc,q⟩:=h;obtain⟨t,rfl⟩:=rx;obtain⟨t',rfl⟩:=ry;exact rule i j t t' s _ _ hc #[V8]
theorem zqp {f:Value->Value->Sem Value} {g:Int->Int->Int}
  (rule:∀ (i j:Int) (t u:Tok) (s:Shared) (Q:Value->Shared->Prop) (E:Value->Shared->Prop),Q (.int (g i j) s.toks) { s with toks:=s.toks+1 }->wpAny #[ss] X.A #[Tx] Q E s) :
  OpR X f (rI0 fun i j=>.int (g i j)):=by
 intro pv s σ H x y v u Q I rx ry h;obtain⟨i,j,rfl,rfl,q⟩:=h;obtain⟨t,rfl⟩:=rx;obtain⟨t',rfl⟩:=ry;exact rule i j t t' s _ _ #[V8]
theorem zos {f:Value->Value->Sem Value} {g:Int->Int->Bool}
  (rule:∀ (i j:Int) (t u:Tok) (s:Shared) (Q:Value->Shared->Prop) (E:Value->Shared->Prop),Q (.bool (g i j)) s->wpAny #[ss] X.A #[Tx] Q E s) :
  OpR X f (rI0 fun i j=>.bl (g i j)):=by
 intro pv s σ H x y v u Q I rx ry h;obtain⟨i,j,rfl,rfl,q⟩:=h;obtain⟨t,rfl⟩:=rx;obtain⟨t',rfl⟩:=ry;exact rule i j t t' s _ _ ⟨.bl (g i j),H,I,rfl,q⟩
def zrD (i j:Int):Prop:=0 < j/\j < 1073741824
def zsp (i j:Int):Prop:=0<=j/\j<=1000000/\i.natAbs < 2 ^ 64
def zqq (i j:Int):Prop:=(-(2 ^ 64) < i/\i < 2 ^ 64)\/(-(2 ^ 64) < j/\j < 2 ^ 64)
theorem zqq.ok {i j:Int} (h:zqq i j):IntMulOk i j:=by
 rcases h with ⟨h1,h2⟩ | ⟨h1,h2⟩
 ·exact .of_left (intBits_le_64 h1 h2)
 ·exact .of_right (intBits_le_64 h1 h2)
theorem zY:OpR X #[Tk] (rI0 fun i j=>.int (i+j)):=zqp fun _ _ _ _ _ _ _ q=>add_int q
theorem zaF:OpR X (binaryOp .Sub) (rI0 fun i j=>.int (i - j)):=zqp fun _ _ _ _ _ _ _ q=>sub_int q
theorem z8:OpR X (binaryOp .Mult) (rI zqq fun i j=>.int (i*j)):=opI fun _ _ _ _ _ _ _ hc q=>mul_int q hc.ok
theorem zcv:OpR X (binaryOp .FloorDiv) (rI zrD fun i j=>.int (i / j)):=opI fun i j _ _ _ _ _ hc q=>by
 have h1:(0:Int) < j:=hc.1;have h2:j < 1073741824:=hc.2;exact floordiv_int #[O] (by rw [kd i #[O]]; exact q) (.inl (lx #[O]))
theorem zL:OpR X (binaryOp .Mod) (rI (fun _ j=>0 < j) fun i j=>.int (i % j)):=opI fun i j _ _ _ _ _ hc q=>by
 have h1:(0:Int) < j:=hc;exact mod_int' #[O] (by rw [Int.fmod_eq_emod_of_nonneg i #[O]]; exact q)
theorem zqr:OpR X (binaryOp .Pow) (rI zsp fun i j=>.int (i ^ j.toNat)):=opI fun _ _ _ _ _ _ _ hc q=>pow_int_small hc.1 hc.2.1 hc.2.2 q
theorem zot:OpR X (inplaceOp .Add) (rI0 fun i j=>.int (i+j)):=zqp fun _ _ _ _ _ _ _ q=>iadd_int q
theorem zms:OpR X (inplaceOp .FloorDiv) (rI zrD fun i j=>.int (i / j)):=opI fun i j _ _ _ _ _ hc q=>by
 have h1:(0:Int) < j:=hc.1;have h2:j < 1073741824:=hc.2;exact ifloordiv_int #[O] (by rw [kd i #[O]]; exact q) (.inl (lx #[O]))
theorem unI {f:Value->Sem Value} {g:Int->Int}
  (rule:∀ (i:Int) (t:Tok) (s:Shared) (Q:Value->Shared->Prop) (E:Value->Shared->Prop),Q (.int (g i) s.toks) { s with toks:=s.toks+1 }->wpAny #[ss] X.A (f (.int i t)) Q E s) :
  UnR X f (rU fun i=>.int (g i)):=by
 intro pv s σ H x v Q I rx h;obtain⟨i,rfl,q⟩:=h;obtain⟨t,rfl⟩:=rx;exact rule i t s _ _ ⟨.int (g i),H,I.tok _,⟨_,rfl⟩,q⟩
theorem zmt:UnR X (unaryOp .USub) (rU fun i=>.int (-i)):=unI fun _ _ _ _ _ q=>neg_int q
end
def zqs:V->V->Bool
 | .non,.non=>true | .non,.int _=>true | .int _,.non=>true | .non,.bl _=>true | .bl _,.non=>true | .non,.str _=>true | .str _,.non=>true
 | .int _,.int _=>true | .bl _,.bl _=>true | .str _,.str _=>true | .byt _,.byt _=>true
 | .int _,.str _=>true | .str _,.int _=>true | .bl _,.str _=>true | .str _,.bl _=>true
 | _,_=>false
def rEq:R2:=fun x y H Q=>zqs x y=true/\Q (.bl (decide (x=y))) H
def rNe:R2:=fun x y H Q=>zqs x y=true/\Q (.bl (!decide (x=y))) H
theorem zka {i j:Int}:decide (V.int i=V.int j)=(i == j):=by
 rw [fz];simp
theorem zmu {i j:Bool}:decide (V.bl i=V.bl j)=(i == j):=by
 rw [fz];simp
theorem zkb {i j:Str}:decide (V.str i=V.str j)=(i == j):=by
 rw [fz];simp
theorem zkc {i j:Array UInt8}:decide (V.byt i=V.byt j)=(i.toList == j.toList):=by
 rw [fz];cases i;cases j;simp
section
variable {X:Cx} {a b c:Expr} {ta tb tc:TE} {pos:Pos}
theorem zac {σ:St} {Q:VK} {k k':Bool} (I:Inv X pv σ H s) (q:Q (.bl k) H) (e:k=k'):EP X pv σ Q (.bool k') s:=by
 subst e;exact⟨.bl k,H,I,rfl,q⟩
theorem zeF:OpR X (compareOp .Eq) rEq:=by
 intro pv s σ H x y v u Q I rx ry h;obtain⟨hs,q⟩:=h;cases x with
 | non =>
  cases rx;cases y with
  | non=>cases ry; exact PySem.EqNone.eq_none_none #[GE]
  | bl j=>cases ry; exact PySem.EqNone.eq_none_bool #[GE]
  | int j=>obtain⟨t',rfl⟩:=ry; exact PySem.EqNone.eq_none_int #[GE]
  | str j=>obtain⟨t',rfl⟩:=ry; exact PySem.EqNone.eq_none_str #[GE]
  | _=>exact absurd (show false=true from hs) bK
 | bl i =>
  cases rx;cases y with
  | non=>cases ry; exact PySem.EqNone.eq_bool_none #[GE]
  | bl j=>cases ry; exact eq_bool (zac I q zmu)
  | str j=>obtain⟨t',rfl⟩:=ry; exact PySem.EqMixed.eq_bool_str #[GE]
  | _=>exact absurd (show false=true from hs) bK
 | int i =>
  obtain⟨t,rfl⟩:=rx;cases y with
  | non=>cases ry; exact PySem.EqNone.eq_int_none #[GE]
  | int j=>obtain⟨t',rfl⟩:=ry; exact eq_int (zac I q zka)
  | str j=>obtain⟨t',rfl⟩:=ry; exact PySem.EqMixed.eq_int_str #[GE]
  | _=>exact absurd (show false=true from hs) bK
 | str i =>
  obtain⟨t,rfl⟩:=rx;cases y with
  | non=>cases ry; exact PySem.EqNone.eq_str_none #[GE]
  | bl j=>cases ry; exact PySem.EqMixed.eq_str_bool #[GE]
  | int j=>obtain⟨t',rfl⟩:=ry; exact PySem.EqMixed.eq_str_int #[GE]
  | str j=>obtain⟨t',rfl⟩:=ry; exact eq_str (zac I q zkb)
  | _=>exact absurd (show false=true from hs) bK
 | byt i =>
  obtain⟨t,rfl⟩:=rx;cases y with
  | byt j=>obtain⟨t',rfl⟩:=ry; exact PySem.W.eq_bytes (zac I q zkc)
  | _=>exact absurd (show false=true from hs) bK
 | _=>cases y <;> exact absurd (show false=true from hs) bK
theorem zh4:OpR X (compareOp .NotEq) rNe:=by
 intro pv s σ H x y v u Q I rx ry h;obtain⟨hs,q⟩:=h;cases x with
 | non =>
  cases rx;cases y with
  | non=>cases ry; exact PySem.EqNone.ne_none_none #[GE]
  | bl j=>cases ry; exact PySem.EqNone.ne_none_bool #[GE]
  | int j=>obtain⟨t',rfl⟩:=ry; exact PySem.EqNone.ne_none_int #[GE]
  | str j=>obtain⟨t',rfl⟩:=ry; exact PySem.EqNone.ne_none_str #[GE]
  | _=>exact absurd (show false=true from hs) bK
 | bl i =>
  cases rx;cases y with
  | non=>cases ry; exact PySem.EqNone.ne_bool_none #[GE]
  | bl j=>cases ry; exact ne_bool (zac I q (congrArg not zmu))
  | str j=>obtain⟨t',rfl⟩:=ry; exact PySem.EqMixed.ne_bool_str #[GE]
  | _=>exact absurd (show false=true from hs) bK
 | int i =>
  obtain⟨t,rfl⟩:=rx;cases y with
  | non=>cases ry; exact PySem.EqNone.ne_int_none #[GE]
  | int j=>obtain⟨t',rfl⟩:=ry; exact ne_int (zac I q (congrArg not zka))
  | str j=>obtain⟨t',rfl⟩:=ry; exact PySem.EqMixed.ne_int_str #[GE]
  | _=>exact absurd (show false=true from hs) bK
 | str i =>
  obtain⟨t,rfl⟩:=rx;cases y with
  | non=>cases ry; exact PySem.EqNone.ne_str_none #[GE]
  | bl j=>cases ry; exact PySem.EqMixed.ne_str_bool #[GE]
  | int j=>obtain⟨t',rfl⟩:=ry; exact PySem.EqMixed.ne_str_int #[GE]
  | str j=>obtain⟨t',rfl⟩:=ry; exact ne_str (zac I q (congrArg not zkb))
  | _=>exact absurd (show false=true from hs) bK
 | byt i =>
  obtain⟨t,rfl⟩:=rx;cases y with
  | byt j=>obtain⟨t',rfl⟩:=ry; exact PySem.W.ne_bytes (zac I q (congrArg not zkc))
  | _=>exact absurd (show false=true from hs) bK
 | _=>cases y <;> exact absurd (show false=true from hs) bK
theorem zh5:OpR X (compareOp .Lt) (rI0 fun i j=>.bl (decide (i < j))):=zos fun _ _ _ _ _ _ _ q=>lt_int q
theorem zpO:OpR X (compareOp .LtE) (rI0 fun i j=>.bl (decide (i<=j))):=zos fun _ _ _ _ _ _ _ q=>le_int q
theorem zkd:OpR X (compareOp .Gt) (rI0 fun i j=>.bl (decide (j < i))):=zos fun _ _ _ _ _ _ _ q=>gt_int q
theorem zgB:OpR X (compareOp .GtE) (rI0 fun i j=>.bl (decide (j<=i))):=zos fun _ _ _ _ _ _ _ q=>ge_int q
theorem zou:OpR X (compareOp .IsNot) (fun x y H Q=>y = .non/\Q (.bl (!decide (x = .non))) H):=by
 intro pv s σ H x y v u Q I rx ry h;obtain⟨rfl,q⟩:=h;cases ry;refine isnot_none_gen (zac I q ?_);cases x <;> first
  | (cases rx; rfl)
  | (obtain⟨t,rfl⟩:=rx; rfl)
theorem zad (b:Expr) {op:CmpOp} (h:op≠.In:=by decide) (h2:op≠.NotIn:=by decide):behindInMarks op b=false:=by
 have e1:(op == CmpOp.In)=false:=by cases op <;> first | rfl | exact absurd rfl h
 have e2:(op == CmpOp.NotIn)=false:=by cases op <;> first | rfl | exact absurd rfl h2
 cases b <;> simp [behindInMarks,e1,e2]
theorem zov {op:CmpOp} {r:R2} (ho:OpR X (compareOp op) r) (ha:PE X a ta) (hb:PE X b tb) (hm:behindInMarks op b=false):PE X (.Compare a [op] [b] pos) #[Wi]:=by
 intro pv s σ H Q I h;exact wpAny_Compare1 (zqo ha hb I h fun v u s2 x y H2 I2 rx ry q=>ho pv s2 σ H2 x y v u Q I2 rx ry q) hm
def zpP (t:TE):TT:=fun σ H Q=>t σ H fun x H'=>∃ k,x = .bl k/\Q k H'
theorem zZ {op:CmpOp} {r:R2} (ho:OpR X (compareOp op) r) (ha:PE X a ta) (hb:PE X b tb) (hm:behindInMarks op b=false):PT X (.Compare a [op] [b] pos) (zpP #[Wi]):=by
 intro pv s σ H Q I h;refine wpAny_isTrue_Compare1 (thn #[Qm] fun v s1 ⟨x,H1,I1,r1,q1⟩=>thn #[Tn] fun u s2 ⟨y,H2,I2,r2,q2⟩ =>
  thn #[TR] fun c s3 ⟨z,H3,I3,r3,k,e,q3⟩=>?_) hm
 subst e;cases r3;exact fL ⟨H3,I3,q3⟩
def zqt (r r':R2) (ta tb tc:TE):TE:=fun σ H Q=>ta σ H fun x H1=>tb σ H1 fun y H2=>r x y H2 fun z H3=>∃ k,z = .bl k /\
 (if k=true then tc σ H3 fun w' H4=>r' y w' H4 Q else Q (.bl false) H3)
theorem zmv {op Ig:CmpOp} {r r':R2} (ho:OpR X (compareOp op) r) (vE:OpR X (compareOp Ig) r') (ha:PE X a ta) (hb:PE X b tb) (hc:PE X c tc)
  (hm:lastMarks [op,Ig] [b,c]=false:=by with_unfolding_all rfl):PT X (.Compare a [op,Ig] [b,c] pos) (zpP (zqt r r' ta tb tc)):=by
 intro pv s σ H Q I h;refine isTrue_chain (thn #[Qm] fun v s1 ⟨x,H1,I1,r1,q1⟩=>test_link (thn #[Tn] fun u s2 ⟨y,H2,I2,r2,q2⟩ =>
  thn #[TR] fun d s3 ⟨z,H3,I3,r3,k,e,q3⟩=>?_)) hm
 subst e;cases r3;refine fL ?_;cases k with
 | false =>
  obtain⟨k',e',q'⟩:=q3;cases e';exact ite_ff ⟨H3,I3,q'⟩
 | true =>
  refine ite_tt (test_last (thn (hc pv s3 σ H3 _ I3 q3) fun w' s4 ⟨z',H4,I4,r4,q4⟩=>thn (vE pv s4 σ H4 y z' u w' _ I4 r2 r4 q4) fun d' s5 ⟨z2,H5,I5,r5,k2,e2,q5⟩=>?_));subst e2;cases r5;exact fL ⟨H5,I5,q5⟩
def zrE (K:aD) (x:V) (H:Hp) (k:Bool):Prop :=
 match x with
 | .non=>k=false
 | .bl b=>k=b
 | .int i=>k=(i != 0)
 | .str y=>y.length<=sizeLine/\k=((y.length:Int) != 0)
 | .byt y=>y.size<=sizeLine/\k=((y.size:Int) != 0)
 | .ref p=>(∃ xs,pA K H p xs/\k = !xs.isEmpty)\/(∃ xs,pK K H p xs/\k = !xs.isEmpty)\/∃ pD,H p=some #[VQ]/\k = !pD.isEmpty
 | _=>False
theorem zjp {κ:Type} {pD:List (κ×V)} {vs:List (κ×Value)} (r:KV pD vs):(!vs.isEmpty) = !pD.isEmpty:=by
 cases r <;> rfl
theorem zfr {xs:List V} (r:zR xs pC):(!pC.toArray.isEmpty) = !xs.isEmpty:=by
 cases r <;> simp
theorem zfs:(sizeLine:Nat) < 2 ^ 63:=by rw [bO]; decide
theorem zqu:zso X (fun x H Q=>∃ k,zrE X.K x H k/\Q k H):=by
 intro pv s σ H x v Q I rx h;obtain⟨k,e,q⟩:=h;have hl:=zfs;have hs:sizeLine=16777216:=bO;cases x with
 | non =>
  cases rx;have e':k=false:=e;subst e';exact truthy_none ⟨H,I,q⟩
 | bl b =>
  cases rx;have e':k=b:=e;subst e';exact fL ⟨H,I,q⟩
 | int i =>
  obtain⟨t,rfl⟩:=rx;have e':k=(i != 0):=e;subst e';exact PySem.P.truthy_int ⟨H,I,q⟩
 | str y =>
  obtain⟨t,rfl⟩:=rx;obtain⟨hy,e'⟩:y.length<=sizeLine/\k=((y.length:Int) != 0):=e;subst e';exact PySem.P.truthy_str #[O] ⟨H,I.tok _,q⟩
 | byt y =>
  obtain⟨t,rfl⟩:=rx;obtain⟨hy,e'⟩:y.size<=sizeLine/\k=((y.size:Int) != 0):=e;subst e';exact PySem.W.truthy_bytes #[O] ⟨H,I.tok _,q⟩
 | ref p =>
  cases rx;have e':(∃ xs,pA X.K H p xs/\k = !xs.isEmpty)\/(∃ xs,pK X.K H p xs/\k = !xs.isEmpty)\/∃ pD,H p=some #[VQ]/\k = !pD.isEmpty:=e;rcases e' with ⟨xs,hx,e'⟩ | ⟨xs,hx,e'⟩ | ⟨pD,hx,e'⟩
  ·subst e';obtain⟨pC,r,pl,hz⟩:=I.list hx;have pI:=r.length;exact wpAny_truthy_list pl.isList (by simp only [aO]; lia) ⟨H,I.tok _,by rw [zfr r]; exact q⟩
  ·subst e';obtain⟨pC,r,pl,hz⟩:=I.tuple hx;have pI:=r.length;exact truthy_tuple pl (by simp only [aO]; lia) ⟨H,I.tok _,by rw [zfr r]; exact q⟩
  ·subst e';obtain⟨hz,hS,vs,r,m⟩:pD.length<=sizeLine/\(p == sysModules)=false/\∃ vs,KV pD vs/\s.heap.DictOf #[WH] p vs:=I.hok p _ hx;have pI:pD.length=vs.length:=bM r;exact wpAny_truthy_dict hS m #[O] ⟨H,I.tok _,by rw [zjp r]; exact q⟩
 | _=>exact (show False from e).elim
theorem zh6 (ha:PE X a ta) (he:∀ whole,isTrue a X.env whole=(do let v <- whole; standAt a.pos; holding [v] (truthy v))) :
  PT X a (fun σ H Q=>ta σ H fun x H'=>∃ k,zrE X.K x H' k/\Q k H'):=by
 intro pv s σ H Q I h;exact isTrue_plain (thn #[Qm] fun v s1 ⟨x,H1,I1,r1,q1⟩=>zqu pv s1 σ H1 x v Q I1 r1 q1) (he _)
theorem vals1 {x:V} (r:zR [x] us):∃ u,us = [u]/\RelV x u:=by
 cases r with
 | cons r1 r2=>cases r2; exact⟨_,rfl,r1⟩
theorem vals2 {x:V} (r:zR [x,y] us):∃ u w',us = [u,w']/\RelV x u/\RelV y w':=by
 cases r with
 | cons r1 r2 =>
  cases r2 with
  | cons r3 r4=>cases r4; exact⟨_,_,rfl,r1,r3⟩
theorem zes (hc:X.calm=true):zbh X (.builtin "min") (fun xs H Q=>∃ i j,xs = [.int i,.int j]/\Q (.int (if j < i then j else i)) H):=by
 intro pv s σ H xs us Q I r h;obtain⟨i,j,rfl,q⟩:=h;obtain⟨u,w',rfl,⟨t,rfl⟩,⟨t',rfl⟩⟩:=vals2 r;refine min_two_ints #[Qn] fun h' tk k=>⟨_,H,I.kept k,?_,q⟩
 by_cases hj:j < i
 ·rw [if_pos hj,if_pos hj]; exact⟨_,rfl⟩
 ·rw [if_neg hj,if_neg hj]; exact⟨_,rfl⟩
end
structure Pu (h:Heap) (x dx C:Addr) (mA:Str->Option Value):Prop where
 obj:h.get? x=some (kY C dx)
 ns:h.Ns1 dx mA
 ne:dx≠x
theorem zla {dx:Addr} {mA:Str->Option Value} (n:h.Ns1 dx mA):∃ od,h.get? dx=some od/\∀ name,lI name od=some (mA name):=by
 obtain⟨o,es,ep,ho,hd,hk,_,hm⟩:=n;refine⟨o,ho,fun name=>?_⟩;have e:=hm name;unfold nsFind findBy at e;rw [<- Array.find?_toList] at e;unfold lI;rw [hd];dsimp only;split
 ·rename_i y q
  rw [q] at e;exact congrArg some e
 ·rename_i q
  rw [q] at e;have a:es.toList.any (·.refKey)=false:=by
   rw [kq];intro y hy;obtain⟨z,t,sH⟩:=hk y (Array.mem_toList_iff.mp hy);simp [DictEntry.refKey,sH]
  have a':¬ es.toList.any (·.refKey)=true:=by rw [a]; exact bK
  rw [if_neg a'];exact congrArg some e
theorem Pu.look {x dx:Addr} {mA:Str->Option Value} (I:Pu h x dx C mA):∃ od,PySem.W.InstAt h x (kY C dx) C (some od)/\∀ name,lI name od=some (mA name) :=
 let ⟨od,ho,hl⟩:=zla I.ns
 ⟨od,⟨I.obj,rfl,rfl,ho⟩,hl⟩
section
variable {P:Program} {w:World} {H H':Hp} {h h':Heap} {a C dx:Addr} {fs fs':List (Str×V)}
theorem zow (hok:HOk P w H h) (e:H a=some (.ins C dx fs)):∃ mA,Pu h a dx C mA/\(∀ f,zg6 (fs.lookup f) (mA f))/\o8 mA (fs.map (·.1))/\fs.length<=1000/\H dx=some (.own a):=by
 obtain⟨d,z,ne,ob,mA,n,r,q⟩:=(show zah P w H h a (.ins C dx fs) from hok a _ e);exact⟨mA,⟨ob,n,ne⟩,r,q,z,d⟩
end
structure Cls (K:aD) (C:Addr):Prop where
 pg:n8 K C Str.empty=true
 hd:PySem.W.hasDictIn K C=true
 po:PySem.W.plainOver K C=true
 sa:dH K #[Qq] "__setattr__" = some (some (.builtin "object.__setattr__"))
theorem Cls.get (c:Cls K C) (f:Str):n8 K C f=true:=c.pg
section
variable {X:Cx} {pv:List (Addr×Obj)} {σ:St} {H:Hp} {s:Shared} {A:Around} {E:Value->Shared->Prop} {Q:Value->Shared->Prop} {c:Value} {b:Bool}
inductive Ou (K:aD) (H:Hp):V->Value->Prop where
 | non:Ou K H .non (.type "NoneType")
 | bl (x:Bool):Ou K H (.bl x) (.type "bool")
 | int (i:Int):Ou K H (.int i) (.type "int")
 | str (x:Str):Ou K H (.str x) (.type "str")
 | flt (x:UInt64):Ou K H (.flt x) (.type "float")
 | lst {a:Addr} {xs:List V} (e:H a=some #[Q8]):Ou K H #[QK] (.type "list")
 | frz {a:Addr} {o:Obj} {xs:List V} (e:H a=some (.frz o #[Q8])):Ou K H #[QK] (.type "list")
 | tup {a:Addr} {xs:List V} (e:H a=some #[Sc]):Ou K H #[QK] (.type "tuple")
 | dK {a:Addr} {pD:List (Key×V)} (e:H a=some #[VQ]):Ou K H #[QK] (.type "dict")
 | dT {a:Addr} {pD:List (List Key×V)} (e:H a=some #[TZ]):Ou K H #[QK] (.type "dict")
 | ins {a C dx:Addr} {fs:List (Str×V)} (e:H a=some (.ins C dx fs)) (cl:Cls K C) (ha:dH K #[Qq] "__class__" = some (some (.builtin "object.__class__")))
   (hn:PySem.W.specialIn K (.builtin "object.__class__") "__get__" = some (some (.builtin "getset_descriptor.__get__"))) (htk:PySem.W.takesIn K (.builtin "object.__class__")=some true)
   (hm:du K C (.type "object")=some true):Ou K H #[QK] #[Qq]
theorem zlb {x:V} {u t:Value} (I:Inv X pv σ H s) (rx:RelV x u) (ty:Ou X.K H x t) (e:bN X.K t c=some b) (h:∀ tk,Q (.bool b) { s with toks:=tk }) :
  wpAny #[ss] A (call (.builtin "isinstance") [u,c]) Q E s:=by
 cases ty with
 | non=>cases (show u=eI from rx); exact dJ PySem.W.kitx_none I.kIn gr e (fun z=>nomatch z) h
 | bl y=>cases (show u=hU y from rx); exact dJ PySem.W.kitx_bool I.kIn gr e (fun z=>nomatch z) h
 | int i=>obtain⟨t,q⟩:=(show ∃ t,u=ju i t from rx); cases q; exact dJ PySem.W.kitx_int I.kIn gr e (fun z=>nomatch z) h
 | str y=>obtain⟨t,q⟩:=(show ∃ t,u=nc y t from rx); cases q; exact dJ PySem.W.kitx_str I.kIn gr e (fun z=>nomatch z) h
 | flt y=>obtain⟨t,q⟩:=(show ∃ t,u=Value.float y t from rx); cases q; exact dJ PySem.W.kitx_float I.kIn gr e (fun z=>nomatch z) h
 | @lst a xs ea =>
  cases (show u=bP a from rx);obtain⟨_,_,n,_,h1⟩:=(show zah X.prog X.w H s.heap a #[Q8] from I.hok a _ ea);exact dJ nN I.kIn ⟨_,h1,rfl⟩ e (fun z=>nomatch z) h
 | @frz a ob xs ea =>
  cases (show u=bP a from rx);obtain⟨_,_,_,n,_,h1⟩:=(show zah X.prog X.w H s.heap a (.frz ob #[Q8]) from I.hok a _ ea);exact dJ nN I.kIn ⟨_,h1,rfl⟩ e (fun z=>nomatch z) h
 | @tup a xs ea =>
  cases (show u=bP a from rx);obtain⟨_,_,_,p⟩:=(show zah X.prog X.w H s.heap a #[Sc] from I.hok a _ ea);obtain⟨o,h1,h2,_⟩:=p;exact dJ PySem.W.kitx_tuple I.kIn ⟨o,h1,h2⟩ e (fun z=>nomatch z) h
 | @dK a pD ea =>
  cases (show u=bP a from rx);obtain⟨_,_,vs,_,p⟩:=(show zah X.prog X.w H s.heap a #[VQ] from I.hok a _ ea);obtain⟨o,es,ep,h1,h2,_⟩:=p;exact dJ nO I.kIn ⟨o,h1,h2.1⟩ e (fun z=>nomatch z) h
 | @dT a pD ea =>
  cases (show u=bP a from rx);obtain⟨_,_,xs,_,o,es,ep,h1,h2,_⟩:=(show zah X.prog X.w H s.heap a #[TZ] from I.hok a _ ea);exact dJ nO I.kIn ⟨o,h1,h2.1⟩ e (fun z=>nomatch z) h
 | @ins a C dx fs ea cl ha hn htk hm =>
  cases (show u=bP a from rx);obtain⟨mA,O,_⟩:=zow I.hok ea;obtain⟨od,J,_⟩:=O.look;exact dJ (PySem.W.kitx_own (cl.get _) cl.hd ha hn htk hm) I.kIn J e (fun z=>nomatch z) h
end
structure M8 (k:Nat) (A:Around):Prop where
 hd:A.handled=none
 dp:A.depth+3*k+5 < recursionLimit
 un:A.units+16*k+200 < cLine
theorem M8.mono (r:M8 k A) (h:j<=k):M8 j A:=⟨r.hd,by have:=r.dp; lia,by have:=r.un; lia⟩
theorem M8.deeper (r:M8 (k+1) A) (env:Env):M8 k (A.deeper env) :=
 ⟨r.hd,by have:=r.dp; show A.depth+1+3*k+5 < _; lia,by have:=r.un; show A.units+3+16*k+200 < _; lia⟩
theorem M8.depth (r:M8 k A):A.depth < recursionLimit:=by have:=r.dp; lia
theorem M8.units (r:M8 k A):A.units+64 < cLine:=by have:=r.un; lia
def zqv:TA:=fun _ H Q=>Q [] H
def zke (ta:TE) (tr:TA):TA:=fun σ H Q=>ta σ H fun x H1=>tr σ H1 fun xs H2=>Q (x :: xs) H2
section
variable {X:Cx} {e:Expr} {es:List Expr} {te:TE} {t:TA} {pos:Pos}
theorem zd:PA X [] zqv:=fun _ _ _ _ H Q I h=>gU ⟨[],H,I,.nil,h⟩
theorem za (ha:PE X e te) (hr:PA X es t) (hs:starEach (e :: es) X.env=#[Ix] :: starEach es X.env:=by rfl):PA X (e :: es) (zke te t):=by
 intro pos pv s σ H Q I h;rw [hs];show wpAny _ _ (spliced (#[Ix] :: backTo pos (starEach es X.env))) _ _ s;refine fZ (thn #[Qm] fun u s1 ⟨x,H1,I1,r1,q1⟩=>?_);exact thn (hr pos pv s1 σ H1 _ I1 q1) fun us s2 ⟨xs,H2,I2,r2,q2⟩=>⟨x :: xs,H2,I2,.cons r1 r2,q2⟩
theorem ya {X:Cx} {e:Expr} {te:TE} (a:PE X e te) (b:starEach [e] X.env=#[Ix] :: starEach [] X.env):PA X [e] (zke te zqv):=za a zd b
def zsq (t:TA):TE:=fun σ H Q=>t σ H fun xs H1=>xs.length<=sizeLine/\∀ p,H1 p=none->Q #[Wy] (pB H1 p #[Sc])
def zjq (t:TA):TE:=fun σ H Q=>t σ H fun xs H1=>xs.length<=sizeLine/\∀ p,H1 p=none->Q #[Wy] (pB H1 p #[Q8])
theorem zai {x1} (h:PA X es t):PE X (.Tuple es x1 pos) (zsq t):=by
 intro pv s σ H Q I hq;refine wpAny_Tuple_spliced (thn (h pos pv s σ H _ I hq) fun us s1 ⟨xs,H1,I1,r,z,q⟩=>⟨by rw [<- r.length]; exact z,?_⟩);have hf:H1 s1.heap.objs.size=none:=I1.hok.fresh (aG _);refine⟨.ref s1.heap.objs.size,pB H1 s1.heap.objs.size #[Sc],I1.laid (t':=s1.toks) (fun b u e=>aH _ e) (aG _) ?_,rfl,q _ hf⟩;exact⟨z,us,r,⟨_,aY _ rfl,rfl,_,rfl⟩⟩
theorem z9 (h:PA X es t):PE X (.List es pos) (zjq t):=by
 intro pv s σ H Q I hq;refine wpAny_List_spliced (thn (h pos pv s σ H _ I hq) fun us s1 ⟨xs,H1,I1,r,z,q⟩=>⟨by rw [<- r.length]; exact z,?_⟩);have hf:H1 s1.heap.objs.size=none:=I1.hok.fresh (aG _);refine⟨.ref s1.heap.objs.size,pB H1 s1.heap.objs.size #[Q8],I1.laid (t':=s1.toks) (fun b u e=>aH _ e) (aG _) ?_,rfl,q _ hf⟩;exact⟨z,us,0,r,aY _ rfl⟩
end
abbrev Sp:=List V->Hp->VK->XK->Prop
abbrev CXT:=List Env->Hp->Shared->XK->Value->Shared->Prop
structure Pb (P:Program) (w:World) (K:aD) (mg:Str->Option Value) (base:Heap) (A:Around) (outer:List Env) (s:Shared) (H:Hp):Prop where
 frames:A.frames=some outer
 mod:Mod K mg base
 bs:∀ b o,base.get? b=some o->s.heap.get? b=some o/\H b=none
 bsz:base.objs.size<=s.heap.objs.size
 NS:s.heap.FunFrames base outer
 frf:∀ b∈frs outer,H b=none
 hok:HOk P w H s.heap
 bare:AllBare s.gens
def CE (outer:List Env) (P:Program) (w:World) (H:Hp) (s:Shared) (Q:VK) (u:Value) (s':Shared):Prop :=
 ∃ v H',s'.os=s.os/\AllBare s'.gens/\Un (frs outer) [] H H' s.heap s'.heap/\HOk P w H' s'.heap/\RelV v u/\Q v H'
def CR (CX:CXT) (outer:List Env) (P:Program) (w:World) (H:Hp) (s:Shared) (Q:VK) (E:XK) (r:Result) (s':Shared):Prop :=
 match r with
 | .ok (.ret u)=>CE outer P w H s Q u s'
 | .ok _=>False
 | .error e=>CX outer H s E e s'
structure Lf (P:Program) (w:World) (K:aD) (mg:Str->Option Value) (base:Heap) (CX:CXT) (k:Nat) (f:Addr) (fd:FuncData) (ps:List Str) (sp:Sp):Prop where
 len:∀ vs H Q E,sp vs H Q E->vs.length=ps.length
 run:∀ (A:Around) (outer:List Env) (s:Shared) (H:Hp) (args:Args) (us:List Value) (vs:List V) (Q:VK) (E:XK),M8 k A->Pb P w K mg base A outer s H->BindsTo s fd args #[U2]->zR vs us->sp vs H Q E ->
  codeAny #[S0] A (.call #[Tt] args) (CR CX outer P w H s Q E) s
section
variable {X:Cx} {pv:List (Addr×Obj)} {σ:St} {H:Hp} {s s':Shared}
theorem Inv.Pr (I:Inv X pv σ H s):Pb X.prog X.w X.K X.mg X.base X.A X.stack s H :=
 ⟨I.ok.frames,I.ok.mod,I.bs,bR I.ok.bsz I.sz,I.stack,I.MO,I.hok,I.bare⟩
theorem Inv.after {Q:VK} {u:Value} (I:Inv X pv σ H s) (h:CE X.stack X.prog X.w H s Q u s'):EP X pv σ Q u s':=by
 obtain⟨v,H',os,bare,un,hok,r,q⟩:=h;obtain⟨hh,g,d,t,os'⟩:=s';obtain rfl:os'=s.os:=os;exact⟨v,H',I.call (h':=hh) (g':=g) (d':=d) (t':=t) (ch:=[]) un hok bare #[TK],r,q⟩
end
def zmw (sp:Sp) (wN:List V) (E:XK) (t:TA):TE:=fun σ H Q=>t σ H fun vs H1=>sp (vs++wN) H1 Q E
def Binds (K:aD) (fd:FuncData) (ps:List Str) (ds:List Value):Prop :=
 ∀ (s:Shared) (us:List Value),K.In s.heap->(us++ds).length=ps.length->BindsTo s fd ⟨us,[]⟩ (ps.zip (us++ds))
theorem Binds.all {ps:List Str} (h:∀ us:List Value,us.length=ps.length->bindArgs fd ⟨us,[]⟩=pure #[U2]):Binds K fd ps []:=fun s us _ hl=>by
 rw [dn] at hl |-;exact .of_eq (h us hl)
def zft (CX:CXT) (X:Cx) (E:XK):Prop:=∀ (pv:List (Addr×Obj)) (σ:St) (H:Hp) (s:Shared) (e:Value) (s':Shared),Inv X pv σ H s->CX X.stack H s E e s'->X.xe e s'
section
variable {X:Cx} {CX:CXT} {k:Nat} {f C:Addr} {fd:FuncData} {ps:List Str} {sp:Sp} {wN:List V} {ds:List Value} {E:XK} {x m:Str} {p pos apos:Pos} {e o:Expr} {es:List Expr} {ta:TE} {t:TA}
theorem zqw {σ:St} {Q:VK} {vs:List V} (F:Lf X.prog X.w X.K X.mg X.base CX k f fd ps sp) (hr:M8 k X.A) (hb:Binds X.K fd ps ds) (hd:zR wN ds) (hx:zft CX X E)
  (I:Inv X pv σ H s) (r:zR vs us) (h:sp (vs++wN) H Q E):wpAny #[ss] X.A (call #[Tt] us) #[Qd] X.xe s:=by
 have r2:zR (vs++wN) (us++ds):=r.append hd;have hl:(us++ds).length=ps.length:=by rw [<- r2.length]; exact F.len _ _ _ _ h
 refine jz (jA (F.run X.A X.stack s H ⟨us,[]⟩ (us++ds) (vs++wN) Q E hr I.Pr (hb s us I.kIn hl) r2 h) fun r s' hq=>?_);cases r with
 | error e=>exact hx pv σ H s e s' I hq
 | ok fl =>
  cases fl with
  | ret u=>exact I.after hq
  | next=>exact dX hq
  | brk=>exact dX hq
  | cont=>exact dX hq
theorem zp (F:Lf X.prog X.w X.K X.mg X.base CX k f fd ps sp) (hr:M8 k X.A) (hg:Gl X x) (hm:X.mg x=some #[Tt]) (hk:gv X.K #[Tt]=true) (hb:Binds X.K fd ps ds) (hd:zR wN ds) (hx:zft CX X E)
  (ha:PA X (e :: es) t) (Av:(x == ("__debug__" : Str))=false:=by decide) (he:starEach (e :: es) X.env=#[Ix] :: starEach es X.env:=by rfl) (qh:#[Op].any (·.1)=false:=by rfl) :
  PE X (.Call #[U5] (e :: es) [] pos) (zmw sp wN E t):=by
 intro pv s σ H Q I h;refine f9 #[UL];refine j2 (h₀:=X.base) I.ok.mod.kin hk (thn #[Cl] fun us s1 ⟨vs,H1,I1,r,q⟩=>⟨I1.kIn,?_⟩) he qh;exact zqw F hr hb hd hx I1 r q
end
structure KE (N P:List Str) (sc:Scope):Prop where
 kind:sc.kind = .function
 co:sc.isCoroutine=false
 gen:sc.isGenerator=false
 nd:N.Nodup
 pre:N.take P.length=P
 par:∀ x∈P,sc.names.lookup x=some .local\/sc.names.lookup x=some .cell
 Pd:∀ y∈sc.names,y.2≠.free
theorem zgC {kindOf:Str->Option NameKind} {x:Str}:∀ {binds:List (Str×Value)} {m:Str->Option Value},(∀ v,(x,v)∉binds)->bindL kindOf binds m x=m x
 | [],_,_=>rfl
 | (n,v) :: r,m,h=>by
  unfold bindL;rw [zgC fun w hw=>h w (aV _ hw)];split
  ·have:x≠n:=by rintro rfl; exact h v bG
   simp [this]
  ·rfl
theorem zgD {kindOf:Str->Option NameKind} {x:Str}:∀ {binds:List (Str×Value)} {m:Str->Option Value},(∀ v,(x,v)∉binds)->bindC kindOf binds m x=m x
 | [],_,_=>rfl
 | (n,v) :: r,m,h=>by
  unfold bindC;rw [zgD fun w hw=>h w (aV _ hw)];split
  ·rfl
  ·have:x≠n:=by rintro rfl; exact h v bG
   simp [this]
theorem zgE {kindOf:Str->Option NameKind} {x:Str} {v:Value}:∀ {P:List Str} {vs:List Value} {i:Nat} {m:Str->Option Value},P.Nodup->P[i]? = some x->vs[i]? = some v->kindOf x=some .local ->
  bindL kindOf (P.zip vs) m x=some v
 | [],_,_,_,_,h,_,_=>by simp at h
 | _ :: _,[],_,_,_,_,h,_=>by simp at h
 | p :: P,w :: vs,0,m,nd,h1,h2,hk=>by
  simp at h1 h2; subst h1; subst h2;show bindL kindOf #[Ts] m p=_;unfold bindL;rw [zgC fun v hv=>(gf.mp nd).1 (iD hv).1,if_pos hk];simp
 | p :: P,w :: vs,i+1,m,nd,h1,h2,hk=>by
  show bindL kindOf #[Ts] m x=_;unfold bindL;exact zgE (i:=i) (gf.mp nd).2 (by simpa using h1) (by simpa using h2) hk
theorem zgF {kindOf:Str->Option NameKind} {x:Str} {v:Value}:∀ {P:List Str} {vs:List Value} {i:Nat} {m:Str->Option Value},P.Nodup->P[i]? = some x->vs[i]? = some v->kindOf x≠some .local ->
  bindC kindOf (P.zip vs) m x=some v
 | [],_,_,_,_,h,_,_=>by simp at h
 | _ :: _,[],_,_,_,_,h,_=>by simp at h
 | p :: P,w :: vs,0,m,nd,h1,h2,hk=>by
  simp at h1 h2; subst h1; subst h2;show bindC kindOf #[Ts] m p=_;unfold bindC;rw [zgD fun v hv=>(gf.mp nd).1 (iD hv).1,if_neg hk];simp
 | p :: P,w :: vs,i+1,m,nd,h1,h2,hk=>by
  show bindC kindOf #[Ts] m x=_;unfold bindC;exact zgF (i:=i) (gf.mp nd).2 (by simpa using h1) (by simpa using h2) hk
def start (N:List Str) (vs:List V):St:=vs.map some++aQ (N.length - vs.length) none
noncomputable def zb1 (CX:CXT) (P:Program) (w:World) (K:aD) (mg:Str->Option Value) (base:Heap) (N:List Str) (qual:Str) (scope:Scope) (f:Addr) (cd:Value) (A:Around) (outer:List Env) (s:Shared) (H:Hp) (E:XK):Cx where
 prog:=P
 w:=w
 K:=K
 mg:=mg
 base:=base
 A:=A.deeper #[KM]
 N:=N
 s₀:=s
 H₀:=H
 env:=envOfC qual scope s.heap.objs.size f cd
 outer:=outer
 stack:=envOfC qual scope s.heap.objs.size f cd :: outer
 ex:=[]
 calm:=true
 fn:=fun _=>true
 pn:=[]
 xe:=fun e s'=>wpAny #[S0] (A.deeper #[KM]) (leaving #[KM] e) (fun _ E7=>CX outer H s E e E7) (fun e' E7=>CX outer H s E e' E7) s'
theorem zh7 {sc:Scope} {n:Nat} {x:Str} (h:sc.names.lookup x=some .cell):∃ c,(cellsFrom n sc.names []).lookup x=some c:=by
 have q:=jd sc.names n [] (.inl h);exact Option.isSome_iff_exists.mp q
theorem zgG {w:World} {base:Heap} {ps:List Str} {f:Addr} {outer:List Env} {E:XK} {vs:List V}
  (S:KE N ps scope) (hd:A.handled=none) (e0:Pb P w K mg base A outer s H) (hl:vs.length=ps.length) (r:zR vs us)
  (x:InCallC s s.heap.objs.size (bindL #[KM].kindOf #[U2] fun _=>none) (cellsFrom #[Ev] scope.names []) (bindC #[KM].kindOf #[U2] fun _=>none) s1) :
  Inv #[Sr] [] #[Rr] H s1:=by
 have qh:ps.length<=N.length:=by have:=congrArg iq S.pre; rw [bD] at this; lia
 obtain⟨h1,tk,rfl,hk⟩:=x.done;have CZ:∀ b:Addr,b∉#[Sr].ex:=fun b z=>absurd (show b∈([]:List Addr) from z) #[M]
 refine⟨⟨e0.mod,S.kind,rfl,rfl,aG _,fun y z c h1 h2=>?_,fun y hy=>?_,fun y c _ h=>?_,fun _=>hd,Around.frames_deeper e0.frames,.inr ⟨rfl,rfl⟩,fun b z=>absurd z (CZ b),e0.bs,e0.bsz,fun b _ _=>CZ b,fun b z=>absurd z (CZ b),e0.NS,e0.frf⟩,
  rfl,e0.bare,Un.kept hk,⟨_,x.toInCall.ns,fun i y v h1 h2 h3=>?_⟩,fun y c h=>⟨_,x.cell y c h⟩,e0.hok.fresh (aG _),fun y c h=>?_,fun p hp=>absurd (show p∈([]:List (Addr×Obj)) from hp) #[M],e0.hok.kept hk,?_⟩
 ·exact name_of_addr x.apart (gG h1) (gG h2)
 ·have hy:scope.names.lookup y=some .cell\/scope.names.lookup y=some .free:=hy;rcases hy with hy | hy
  ·exact zh7 hy
  ·exact absurd rfl (S.Pd _ (gG hy))
 ·exact kF (x.above y c (gG h))
 ·have hi:i < vs.length:=by
   unfold start at h2;by_cases hi:i < vs.length
   ·exact hi
   ·rw [cS (by simpa using hi)] at h2;rw [fO] at h2;split at h2 <;> cases h2
  have ha:vs[i]? = some v:=by
   unfold start at h2;rw [dA (by simpa using hi),aF] at h2;cases e:vs[i]? with
   | none=>rw [e] at h2; cases h2
   | some a=>rw [e] at h2; cases h2; rfl
  obtain⟨u,hu,rv⟩:=r.get ha;have hp:ps[i]? = some y:=by
   rw [<- S.pre,dL #[O]]; exact h1
  have ndP:ps.Nodup:=by rw [<- S.pre]; exact S.nd.sublist (d9 _ _)
  refine⟨u,rv,?_⟩;rcases S.par y (aU hp) with k | k
  ·exact .inl ⟨k,zgE ndP hp hu k⟩
  ·obtain⟨c,e⟩:=zh7 (n:=s.heap.objs.size+1) k;refine .inr ⟨.inl k,c,e,?_⟩;have q:=x.cell y c e;rw [zgF ndP hp hu (by show scope.names.lookup y≠_; rw [k]; decide)] at q;exact q
 ·exact e0.hok.fresh (kF (x.above y c (gG h)))
 ·unfold start;show _=N.length;rw [aL,aA,bW];lia
theorem zpQ {w:World} {base:Heap} {f:Addr} {name:Str} {params:Arguments} {body:List Stmt} {dV kV:Value} 
  {ps:List Str} (lk:K.lookup f=some ⟨oc,od,.func #[KK],Ab⟩) (vc:gW K pR qual=true) (S:KE N ps scope)
  (len:∀ vs H Q E,sp vs H Q E->vs.length=ps.length)
  (rW:∀ (A:Around) (outer:List Env) (s:Shared) (H:Hp) (vs:List V) (Q:VK) (E:XK),M8 k #[SL]->sp vs H Q E ->
   ∃ t,PSs #[Qp] body t/\t { nx:=fun _ H'=>Q .non H',rt:=Q } #[Rr] H) :
  Lf P w K mg base CX (k+1) f #[KK] ps sp:=by
 refine#[So];have hl:=len _ _ _ _ vL;have KX:K.In s.heap:=e0.mod.kin.keeps fun b o e=>#[Wl].1
 have lim:s.heap.NoLimit:=e0.mod.nolimit.keeps fun b o e=>#[Wl].1
 have tQ:∀ y∈ps.zip us,scope.names.lookup y.1=some .local\/(scope.names.lookup y.1=some .cell/\((cellsFrom #[Ev] scope.names []).lookup y.1).isSome=true):=fun ⟨n,v⟩ hy=>by
  rcases S.par n (iD hy).1 with q | q
  ·exact .inl q
  ·exact .inr ⟨q,jd _ _ _ (.inl q)⟩
 refine lJ hr.depth (KX _ _ lk) rfl S.co S.gen rfl (nk KX vc) (hb _ _ _ _ ?_);refine kf S.kind tQ fun env he s1 x=>?_
 subst he;refine#[Ta];obtain⟨t,ht,hq⟩:=rW A outer s H vs Q E (hr.deeper _) vL;have I:Inv #[Qp] [] #[Rr] H s1:=zgG S hr.hd e0 hl r x;refine dN (ht [] s1 #[Rr] H _ I hq) (fun fl s' hs=>?_) fun e s' hs=>hs
 have fin:∀ {σ':St} {H':Hp} {v:V} {u:Value},Inv #[Qp] [] σ' H' s'->RelV v u->Q v H'->CE outer P w H s Q u s' :=
  fun {σ' H' v u} J rv q=>⟨v,H',J.os,J.bare,J.base,J.hok,rv,q⟩
 cases fl with
 | ret u =>
  obtain⟨v,σ',H',J,rv,q⟩:=hs;exact fin J rv q
 | next =>
  obtain⟨σ',H',J,q⟩:=hs;exact fin (v:=V.non) (u:=eI) J rfl q
 | brk =>
  obtain⟨_,_,_,q⟩:=hs;exact dX q
 | cont =>
  obtain⟨_,_,_,q⟩:=hs;exact dX q
section
variable {X:Cx} {x:Str} {p pos:Pos} {e:Expr} {es:List Expr} {t:TA} {id T:String} {r:List V->Hp->VK->Prop}
def tCB (r:List V->Hp->VK->Prop) (t:TA):TE:=fun σ H Q=>t σ H fun vs H1=>r vs H1 Q
theorem zq (hc:zbh X #[R8] r) (hg:Gl X x) (hm:X.mg x=none) (hv:bootBuiltins x=some #[R8]) (ha:PA X (e :: es) t) (hn:x≠"__name__":=by decide) (Av:(x == ("__debug__" : Str))=false:=by decide)
  (he:starEach (e :: es) X.env=#[Ix] :: starEach es X.env:=by rfl) (qh:#[Op].any (·.1)=false:=by rfl):PE X (.Call #[U5] (e :: es) [] pos) (tCB r t):=by
 intro pv s σ H Q I h;refine f9 #[W7];exact PyProof.Rows.callWith_builtin1 (thn #[Cl] fun us s1 ⟨vs,H1,I1,r1,q1⟩=>hc pv s1 σ H1 vs us Q I1 r1 q1) he qh
theorem zao (hc:zbh X (.type T) r) (hg:Gl X x) (hm:X.mg x=none) (hv:bootBuiltins x=some (.type T)) (ha:PA X (e :: es) t) (hn:x≠"__name__":=by decide) (Av:(x == ("__debug__" : Str))=false:=by decide)
  (he:starEach (e :: es) X.env=#[Ix] :: starEach es X.env:=by rfl) (qh:#[Op].any (·.1)=false:=by rfl):PE X (.Call #[U5] (e :: es) [] pos) (tCB r t):=by
 intro pv s σ H Q I h;refine f9 #[W7];exact cD (thn #[Cl] fun us s1 ⟨vs,H1,I1,r1,q1⟩=>hc pv s1 σ H1 vs us Q I1 r1 q1) he qh
end
end L2
namespace HT
open PySem PyProof.Rows
section
variable {prog:Program} {w:World} {A:Around} {E:Value->Shared->Prop} {s:Shared}
theorem O5 {t b:Addr} {vs ws:List Value} {Q:Value->Shared->Prop} (ht:IsTup s.heap t vs.toArray) (hb:IsTup s.heap b ws.toArray) (hv:vs≠[])
  (h1:ws = []->Q (.ref t) s) (h2:ws≠[]->Q #[ww] { s with heap:=s.heap.push { cls:=.type "tuple",data:=.seq (vs++ws).toArray } })
  (hsz:vs.length+ws.length<=sizeLine):wpAny #[ul] A (binaryOp .Add (.ref t) #[Wz]) Q E s:=by
 obtain⟨⟨cls,dd,data,sl⟩,ho,hc,n,hd⟩:=id ht;obtain⟨⟨Ih,GV,data2,xX⟩,xF,C0,n2,hd2⟩:=id hb;simp only at hc hd C0 hd2;subst hc hd C0 hd2;have e:vs.toArray++ws.toArray=(vs++ws).toArray:=by simp
 by_cases hw:ws = []
 ·exact nr ⟨_,ho,rfl⟩ ⟨_,xF,rfl⟩ kH mJ je iX (iI _ _)
   (tuple_addW1 t b vs.toArray ws.toArray n n2 dd GV sl xX (by simpa using hv) (by simp [hw])) ⟨ho,xF,h1 hw⟩
 ·refine nr ⟨_,ho,rfl⟩ ⟨_,xF,rfl⟩ kH mJ je iX (iI _ _)
   (tuple_addW2 t b vs.toArray ws.toArray n n2 dd GV sl xX (by simpa using hv) (by simpa using hw) (by rw [aO,aO]; exact hsz)) ⟨ho,xF,?_⟩
  rw [e];exact h2 hw
def sIx (n d:Nat):Option Int->Nat
 | none=>d
 | some v=>if v < 0 then (v+(n:Int)).toNat else min v.toNat n
theorem Nh (n d:Nat):sIx n d none=d:=rfl
theorem MP (n d k:Nat):sIx n d (some (k:Int))=min k n:=by
 show (if (k:Int) < 0 then ((k:Int)+(n:Int)).toNat else min (k:Int).toNat n)=min k n;rw [if_neg #[O],dq]
end
end HT
namespace L2
open PySem PySem.Spec PyProof.Rows
variable {A:Around} {H:Hp} {j t':Nat} {ns:List Int} {pC us:List Value} {pv:List (Addr×Obj)} {s:Shared} {y:V} {ys:List V}
abbrev TO:=St->Hp->(Option Int->Hp->Prop)->Prop
def PO (X:Cx) (e:Option Expr) (t:TO):Prop :=
 ∀ (pv:List (Addr×Obj)) (s:Shared) (σ:St) (H:Hp) (Q:Option Int->Hp->Prop),Inv X pv σ H s->t σ H Q ->
  wpAny #[ss] X.A (evalPart e X.env) (fun u s'=>∃ o H',Inv X pv σ H' s'/\IsPart u o/\Q o H') X.xe s
def zox:TO:=fun _ H Q=>Q none H
def zrF (t:TE):TO:=fun σ H Q=>t σ H fun x H1=>∃ i,x = .int i/\Q (some i) H1
theorem intsAre_of:∀ {us:List Value},zR #[EQ] us->IntsAre us ns:=by
 induction ns with
 | nil=>intro us r; rw [iJ] at r; cases r; exact .nil
 | cons n ns ih =>
  intro us r;rw [bX] at r;cases r with
  | cons r1 r2 =>
   obtain⟨t,e⟩:=r1;subst e;exact .cons n t (ih r2)
section
variable {X:Cx} {e:Expr} {te:TE} {lo hi:Option Expr} {tl th:TO} {pos p2:Pos}
theorem zcw:PO X none zox:=by
 intro pv s σ H Q I h;rw [evalPart_none];exact aI ⟨none,H,I,.none,h⟩
theorem zbP (h:PE X e te):PO X (some e) (zrF te):=by
 intro pv s σ H Q I hw;rw [evalPart_some];refine thn #[Uo] fun u s1 ⟨x,H1,I1,r1,q1⟩=>?_
 obtain⟨i,rfl,q⟩:=q1;obtain⟨t,rfl⟩:=r1;exact⟨some i,H1,I1,.int i t,q⟩
noncomputable def SlR (X:Cx) (r:V->Option Int->Option Int->Hp->VK->Prop):Prop :=
 ∀ (pv:List (Addr×Obj)) (s:Shared) (σ:St) (H:Hp) (x:V) (v vl vu:Value) (lo hi:Option Int) (sl:Addr) (Q:VK),Inv X pv σ H s->RelV x v->s.heap.IsSliceOf sl vl vu .none->IsPart vl lo->IsPart vu hi->r x lo hi H Q ->
  ∃ T id,typeLookup (.type T) "__getitem__" = pure (some #[R8])/\s.TypeIs v T/\wpAny #[ss] X.A (getItem v (.ref sl)) #[Qd] X.xe s
def tSl (r:V->Option Int->Option Int->Hp->VK->Prop) (te:TE) (tl th:TO):TE:=fun σ H Q=>te σ H fun x H1=>tl σ H1 fun l H2=>th σ H2 fun u H3=>r x l u H3 Q
theorem zbC {r:V->Option Int->Option Int->Hp->VK->Prop} (hr:SlR X r) (he:PE X e te) (hl:PO X lo tl) (hu:PO X hi th):PE X (.Subscript e (.Slice lo hi none p2) pos) (tSl r te tl th):=by
 intro pv s σ H Q I h;refine Subscript_ (thn #[Q4] fun v s1 ⟨x,H1,I1,r1,q1⟩=>?_);refine wpAny_Slice (thn (hl pv s1 σ H1 _ I1 q1) fun vl s2 ⟨l,H2,I2,pl,q2⟩=>thn (hu pv s2 σ H2 _ I2 q2) fun vu s3 ⟨u,H3,I3,pu,q3⟩=>?_);rw [evalPart_none];refine aI ?_;have I4:Inv X pv σ H3 { s3 with heap:=s3.heap.push { cls:=.type "slice",data:=.fields #[vl,vu,.none] } }:=I3.kept (t':=s3.toks) fun b ob q=>aH _ q
 obtain⟨T,id,hT,ht,hg⟩:=hr pv { s3 with heap:=s3.heap.push { cls:=.type "slice",data:=.fields #[vl,vu,.none] } } σ H3 x v vl vu l u s3.heap.objs.size Q I4 r1 (Heap.IsSliceOf.new ..) pl pu q3;show wpAny #[ss] X.A (subscriptTail e (.Slice lo hi none p2) v (.ref s3.heap.objs.size)) #[Qd] X.xe { s3 with heap:=s3.heap.push { cls:=.type "slice",data:=.fields #[vl,vu,.none] } };exact tail_any (ops:=[.ref s3.heap.objs.size,v]) ht hT hg (by with_unfolding_all rfl)
def zcQ (xs:List V) (lo hi:Option Int):List V:=(xs.drop (HT.sIx xs.length 0 lo)).take #[Sb]
theorem zh8 (xs:List V) (lo hi:Option Int):(zcQ xs lo hi).length<=xs.length:=by
 unfold zcQ;rw [bD,fm];lia
def zrG (K:aD):R2:=fun x y H Q=>∃ a b xs ys,x = .ref a/\y = .ref b/\pK K H a xs/\pK K H b ys/\xs≠[]/\xs.length+ys.length<=sizeLine /\
 (ys = []->Q #[QK] H)/\(ys≠[]->∀ p,H p=none->Q #[Wy] (pB H p (.tup (xs++ys))))
theorem zR.Nk {xs:List V} (r:zR xs us):us = []↔xs = []:=by
 cases r with
 | nil=>simp
 | cons _ _=>simp
theorem zoy:OpR X #[Tk] (zrG X.K):=by
 intro pv s σ H x y v u Q I rx ry h;obtain⟨a,b,xs,ys,rfl,rfl,ha,hb,hx,hz,q1,q2⟩:=h;cases rx;cases ry;obtain⟨pC,r1,p1,_⟩:=I.tuple ha;obtain⟨p4,r2,p2,_⟩:=I.tuple hb;refine HT.O5 p1 p2 (fun z=>hx (r1.Nk.mp z)) (fun z=>⟨.ref a,H,I,rfl,q1 (r2.Nk.mp z)⟩) (fun z=>?_) (by rw [<- r1.length,<- r2.length]; exact hz);refine⟨.ref s.heap.objs.size,_,I.laid (t':=s.toks) (o:=.tup (xs++ys)) (fun b ob q=>aH _ q) (aG _) ?_,rfl,q2 (fun w=>z (r2.Nk.mpr w)) _ #[S6]⟩;exact⟨by rw [aL]; exact hz,_,r1.append r2,IsTup.new _ _⟩
end
def ixN (n:Nat) (i:Int):Option Nat:=if 0<=i then (if i < n then some i.toNat else none) else if -(n:Int)<=i then some (i+n).toNat else none
def atI {α:Type} (xs:List α) (i:Int):Option α:=(ixN xs.length i).bind fun j=>xs[j]?
theorem zkf {n:Nat} {i:Int} (h:ixN n i=some j):seqIndex? i n=some j/\j < n/\-(n:Int)<=i/\i < n:=by
 unfold ixN at h;by_cases h0:0<=i
 ·rw [if_pos h0] at h;by_cases h1:i < n
  ·rw [if_pos h1] at h;have e:i.toNat=j:=bJ h;exact⟨by rw [jX h0 h1,e],#[O],#[O],h1⟩
  ·rw [if_neg h1] at h; cases h
 ·rw [if_neg h0] at h;by_cases h1:-(n:Int)<=i
  ·rw [if_pos h1] at h;have e:(i+n).toNat=j:=bJ h;exact⟨by rw [nu #[O] h1,e],#[O],h1,#[O]⟩
  ·rw [if_neg h1] at h; cases h
theorem zkg {α:Type} {xs:List α} {i:Int} {v:α} (h:atI xs i=some v):∃ j,seqIndex? i xs.length=some j/\xs[j]? = some v/\j < xs.length/\-(xs.length:Int)<=i/\i < xs.length:=by
 unfold atI at h;cases e:ixN xs.length i with
 | none=>rw [e] at h; cases h
 | some j =>
  rw [e] at h;obtain⟨h1,h2,h3,h4⟩:=zkf e;exact⟨j,h1,h,h2,h3,h4⟩
theorem zay {α:Type} {xs:List α} {v:α} (h:xs[j]? = some v):atI xs (j:Int)=some v:=by
 have hj:j < xs.length:=(aP.mp h).1;have e:ixN xs.length (j:Int)=some j:=by
  unfold ixN;rw [if_pos #[O],if_pos #[O]]; simp
 unfold atI; rw [e]; exact h
def zoz (b:Expr):Prop:=∀ o i,subscripted b false o i=operate [o,i] (getItem o i)
def IxR (X:Cx) (r:R2):Prop :=
 ∀ (value slice:Expr) (pv:List (Addr×Obj)) (s:Shared) (σ:St) (H:Hp) (x y:V) (v u:Value) (Q:VK),Inv X pv σ H s->RelV x v->RelV y u->r x y H Q ->
  subscripted slice false v u=operate [v,u] (getItem v u)->wpAny #[ss] X.A (subscriptTail value slice v u) #[Qd] X.xe s
def MtR (X:Cx) (id:String) (r:V->List V->Hp->VK->Prop):Prop :=
 ∀ (pv:List (Addr×Obj)) (s:Shared) (σ:St) (H:Hp) (x:V) (xs:List V) (v:Value) (us:List Value) (Q:VK),Inv X pv σ H s->RelV x v->zR xs us->r x xs H Q ->
  wpAny #[ss] X.A (call #[R8] (v :: us)) #[Qd] X.xe s
section
variable {X:Cx} {a b:Expr} {ta tb:TE} {pos:Pos}
theorem zU {r:R2} (hr:IxR X r) (ha:PE X a ta) (hb:PE X b tb) (hs:zoz b):PE X (.Subscript a b pos) #[Wi]:=by
 intro pv s σ H Q I h;exact Subscript_ (zqo ha hb I h fun v u s2 x y H2 I2 rx ry q=>hr a b pv s2 σ H2 x y v u Q I2 rx ry q (hs _ _))
def zrH (K:aD):R2:=fun x y H Q=>∃ p xs i v,x = .ref p/\y = .int i/\pA K H p xs/\atI xs i=some v/\Q v H
def zsr (K:aD):R2:=fun x y H Q=>∃ p xs i v,x = .ref p/\y = .int i/\pK K H p xs/\atI xs i=some v/\Q v H
theorem zI:IxR X (zrH X.K):=by
 intro value slice pv s σ H x y v u Q I rx ry h hs;obtain⟨p,xs,i,z,rfl,rfl,hq,he,q⟩:=h;cases rx;obtain⟨t,rfl⟩:=ry;obtain⟨pC,r,pl,hz⟩:=I.list hq;obtain⟨j,h1,h2,h3,h4,h5⟩:=zkg he;obtain⟨w,ew,C1⟩:=r.get h2;have hl:=r.length;have hn:=zfs;have fin:EP X pv σ Q w s:=⟨z,H,I,C1,q⟩;by_cases h0:0<=i
 ·have hj:i.toNat=j:=by
   rw [jX h0 h5] at h1;exact bJ h1
  exact item_listR pl.isList h0 #[O] (by rw [hj]; simpa using ew) fin hs
 ·have hj:(i+(pC.toArray.size:Int)).toNat=j:=by
   rw [nu #[O] h4] at h1;rw [aO,<- hl];exact bJ h1
  exact ly (x:=w) pl.isList.typeIs slot_list_getitem.lookup
   (wpAny_getItem_list_neg (Q:=fun r s'=>r=w/\EP X pv σ Q r s') pl.isList #[O] (by rw [aO] <;> lia) #[O] (by rw [hj]; simpa using ew) ⟨rfl,fin⟩) hs
theorem zcU:IxR X (zsr X.K):=by
 intro value slice pv s σ H x y v u Q I rx ry h hs;obtain⟨p,xs,i,z,rfl,rfl,hq,he,q⟩:=h;cases rx;obtain⟨t,rfl⟩:=ry;obtain⟨pC,r,pl,hz⟩:=I.tuple hq;obtain⟨j,h1,h2,h3,h4,h5⟩:=zkg he;obtain⟨w,ew,C1⟩:=r.get h2;have hl:=r.length;have hn:=zfs;have fin:EP X pv σ Q w s:=⟨z,H,I,C1,q⟩;exact ly (x:=w) pl.typeIs slot_tuple_getitem.lookup
  (getItem_tuple (j:=j) (Q:=fun r s'=>r=w/\EP X pv σ Q r s') pl #[O] #[O] (by rw [aO,<- hl]; exact h1) (by simpa using ew) ⟨rfl,fin⟩) hs
theorem zjr (pC:List Value) (n j:Nat) (u:Value):fA (·.setIfInBounds j u) { cls:=.type "list",data:=.seq pC.toArray n } = { cls:=.type "list",data:=.seq (pC.set j u).toArray n }:=by
 simp [fA]
theorem Inv.lst {pv:List (Addr×Obj)} {σ:St} {H:Hp} {s:Shared} {p:Addr} {xs:List V} (I:Inv X pv σ H s) (h:H p=some #[Q8]) :
  ∃ (pC:List Value) (n:Nat),zR xs pC/\s.heap.get? p=some { cls:=.type "list",data:=.seq pC.toArray n }/\xs.length<=sizeLine:=by
 obtain⟨z,pC,n,r,e⟩:=I.hok p _ h;exact⟨pC,n,r,e,z⟩
theorem Inv.Pj {σ:St} {p:Addr} {xs:List V} {its':List Value} {n n':Nat} {f:Obj->Obj} (I:Inv X pv σ H s) (h:H p=some #[Q8])
  (ho:s.heap.get? p=some { cls:=.type "list",data:=.seq pC.toArray n }) (hf:f { cls:=.type "list",data:=.seq pC.toArray n } = { cls:=.type "list",data:=.seq its'.toArray n' }) (r:zR ys its') (hz:ys.length<=sizeLine) (t:Nat) :
  Inv X pv σ (pB H p #[T3]) { s with heap:=s.heap.update p f,toks:=t }:=by
 have e:(s.heap.update p f).get? p=some { cls:=.type "list",data:=.seq its'.toArray n' }:=by
  rw [eR f ho (by rw [hf] <;> rfl),hf]
 refine I.write (x:=p) (e:=p) (by rw [h]; trivial) #[QP] (fun b u hb q=>(dZ _ _ (eG hb)).trans q) ⟨_,e⟩ ?_;exact⟨hz,its',n',r,e⟩
def zrI:V->V->V->Hp->(Hp->Prop)->Prop:=fun o i v H Q=>∃ p xs k j,o = .ref p/\i = .int k/\H p=some #[Q8]/\ixN xs.length k=some j/\Q (pB H p (.lst (xs.set j v)))
theorem set_list:zrz X zrI:=by
 intro pv s σ H o i v ov iv u Q I ro ri rv h;obtain⟨p,xs,k,j,rfl,rfl,hp,hj,q⟩:=h;cases ro;obtain⟨t,rfl⟩:=ri;obtain⟨pC,n,r,ho,hz⟩:=I.lst hp;obtain⟨h1,h2,h3,h4⟩:=zkf hj;have hl:=r.length;have hn:=zfs;have I':Inv X pv σ (pB H p (.lst (xs.set j v))) { s with heap:=s.heap.update p (fA (·.setIfInBounds j u)) } :=
  I.Pj hp ho (zjr pC n j u) (r.set rv j) (by rw [kZ]; exact hz) s.toks
 by_cases h0:0<=k
 ·have hk:k.toNat=j:=by
   rw [jX h0 h4] at h1;exact bJ h1
  exact PySem.W.ki_setAt ho h0 #[O] (by rw [aO,<- hl]; exact h4) (by rw [hk]; exact⟨_,I',q⟩)
 ·have hk:(k+(pC.toArray.size:Int)).toNat=j:=by
   rw [nu #[O] h3] at h1;rw [aO,<- hl];exact bJ h1
  exact PySem.W.ki_setBack ho #[O] (by rw [aO,<- hl]; exact h3) #[O] (by rw [hk]; exact⟨_,I',q⟩)
theorem zg8 (lo hi:Option Int) (n:Nat):#[S8].1=((HT.sIx n 0 lo:Nat):Int)/\#[S8].2.1=((HT.sIx n n hi:Nat):Int)/\#[S8].2.2=1:=by
 refine⟨?_,?_,rfl⟩
 ·cases lo with
  | none=>simp [sliceBounds,HT.sIx]
  | some i =>
   simp only [sliceBounds,HT.sIx,n9,show (1:Int) > 0 by decide,if_true];by_cases h:i < 0
   ·simp only [h,if_true] <;> lia
   ·simp only [h,if_false] <;> lia
 ·cases hi with
  | none=>simp [sliceBounds,HT.sIx]
  | some i =>
   simp only [sliceBounds,HT.sIx,n9,show (1:Int) > 0 by decide,if_true];by_cases h:i < 0
   ·simp only [h,if_true] <;> lia
   ·simp only [h,if_false] <;> lia
theorem zgi (pC:List Value) (lo hi:Option Int):slicePick pC.toArray lo hi none=((pC.drop (HT.sIx pC.length 0 lo)).take (HT.sIx pC.length pC.length hi - HT.sIx pC.length 0 lo)).toArray:=by
 obtain⟨h1,h2,h3⟩:=zg8 lo hi pC.toArray.size;unfold slicePick;rw [h1,h2,h3];simp only [sliceRange_one,pick_run,aO] <;> rfl
def zrJ (K:aD):V->Option Int->Option Int->Hp->VK->Prop:=fun x lo hi H Q=>∃ a xs,x = .ref a/\pA K H a xs/\∀ p,H p=none->Q #[Wy] (pB H p (.lst (zcQ xs lo hi)))
theorem zcx:SlR X (zrJ X.K):=by
 intro pv s σ H x v vl vu lo hi sl Q I rx hs pl pu h;obtain⟨a,xs,rfl,hx,q⟩:=h;cases rx;obtain⟨pC,r,ht,hz⟩:=I.list hx;have pI:=r.length;refine⟨"list",_,slot_list_getitem.lookup,ht.isList.typeIs,?_⟩;refine wpAny_getItem_list_slice ht.isList hs pl pu .none #[M] ?_ (by rw [aO] <;> lia);rw [zgi,<- pI];refine⟨.ref s.heap.objs.size,_,I.laid (t':=s.toks) (o:=.lst (zcQ xs lo hi)) (fun b ob q=>aH _ q) (aG _) ?_,rfl,q _ #[S6]⟩;exact⟨bR (zh8 xs lo hi) hz,_,0,(r.drop (HT.sIx xs.length 0 lo)).take #[Sb],aY _ rfl⟩
def zgH:V->Bool
 | .non=>true
 | .bl _=>true
 | .int _=>true
 | .str _=>true
 | _=>false
def eqV:V->V->Bool
 | .non,.non=>true
 | .bl a,.bl b=>a == b
 | .bl a,.int b=>(if a then 1 else 0) == b
 | .int a,.bl b=>a == (if b then 1 else 0)
 | .int a,.int b=>a == b
 | .str a,.str b=>a == b
 | _,_=>false
theorem zqx {x:V} {u v:Value} (ry:RelV y u) (rx:RelV x v) (fy:zgH y=true) (fx:zgH x=true):oE A s u v (eqV y x):=by
 cases y with
 | non =>
  cases ry;cases x with
  | non=>cases rx; exact oF _
  | bl b=>cases rx; exact SeqAt.EqAt.none_bool b
  | int b=>obtain⟨t,rfl⟩:=rx; exact SeqAt.EqAt.none_int b t
  | str b=>obtain⟨t,rfl⟩:=rx; exact SeqAt.EqAt.none_str b t
  | _=>exact absurd (show false=true from fx) bK
 | bl a =>
  cases ry;cases x with
  | non=>cases rx; exact SeqAt.EqAt.bool_none a
  | bl b=>cases rx; exact SeqAt.EqAt.bool_bool a b
  | int b=>obtain⟨t,rfl⟩:=rx; exact SeqAt.EqAt.bool_int a b t
  | str b=>obtain⟨t,rfl⟩:=rx; exact SeqAt.EqAt.bool_str a b t
  | _=>exact absurd (show false=true from fx) bK
 | int a =>
  obtain⟨t',rfl⟩:=ry;cases x with
  | non=>cases rx; exact SeqAt.EqAt.int_none a t'
  | bl b=>cases rx; exact SeqAt.EqAt.int_bool a t' b
  | int b=>obtain⟨t,rfl⟩:=rx; exact SeqAt.EqAt.int_int a t' b t
  | str b=>obtain⟨t,rfl⟩:=rx; exact ng a t' b t
  | _=>exact absurd (show false=true from fx) bK
 | str a =>
  obtain⟨t',rfl⟩:=ry;cases x with
  | non=>cases rx; exact SeqAt.EqAt.str_none a t'
  | bl b=>cases rx; exact SeqAt.EqAt.str_bool a t' b
  | int b=>obtain⟨t,rfl⟩:=rx; exact nh a t' b t
  | str b=>obtain⟨t,rfl⟩:=rx; exact SeqAt.EqAt.str_str a t' b t
  | _=>exact absurd (show false=true from fx) bK
 | _=>exact absurd (show false=true from fy) bK
theorem zJ:zbh X (.builtin "len") (fun xs H Q=>∃ p ys,xs = [.ref p]/\(pA X.K H p ys\/pK X.K H p ys)/\Q (.int ys.length) H):=by
 intro pv s σ H xs us Q I r h;obtain⟨p,ys,rfl,hq,q⟩:=h;obtain⟨u,rfl,rx⟩:=vals1 r;cases rx;have hn:=zfs;rcases hq with hq | hq
 ·obtain⟨pC,r',pl,hz⟩:=I.list hq;have pI:=r'.length;exact Calls.call_len_list pl.isList (by simp only [aO] <;> lia) ⟨.int ys.length,H,I.tok _,⟨s.toks+1,by rw [aO,pI]⟩,q⟩
 ·obtain⟨pC,r',pl,hz⟩:=I.tuple hq;have pI:=r'.length;exact len_tuple pl (by simp only [aO] <;> lia) ⟨.int ys.length,H,I.tok _,⟨s.toks+1,by rw [aO,pI]⟩,q⟩
theorem zbQ:zbh X (.type "list") (fun xs H Q=>∃ p ys,xs = [.ref p]/\(pA X.K H p ys\/pK X.K H p ys)/\∀ l,H l=none->Q #[Qy] (pB H l #[T3])):=by
 intro pv s σ H xs us Q I r h;obtain⟨p,ys,rfl,hq,q⟩:=h;obtain⟨u,rfl,rx⟩:=vals1 r;cases rx;have fin:∀ (pC:List Value),zR ys pC->ys.length<=sizeLine->∀ (h':Heap) (c':Nat),(∀ b o',s.heap.get? b=some o'->h'.get? b=some o') ->
   h'.get? s.heap.objs.size=some { cls:=.type "list",dict:=none,data:=.seq pC.toArray c',slots:=#[] }->EP X pv σ Q #[ww] { s with heap:=h' }:=fun pC r' hz h' c' kp e =>
  ⟨.ref s.heap.objs.size,_,I.laid (t':=s.toks) kp (aG _) (show zah X.prog X.w _ h' _ #[T3] from ⟨hz,pC,c',r',e⟩),rfl,q _ #[S6]⟩
 rcases hq with hq | hq
 ·obtain⟨pC,r',pl,hz⟩:=I.list hq;have pI:=r'.length;obtain⟨o,ho,hc,n,hd⟩:=pl.isList;exact call_list_seq p #[QP] ho hc hd #[Ty] (by simp only [aO] <;> lia)
 ·obtain⟨pC,r',pl,hz⟩:=I.tuple hq;have pI:=r'.length;obtain⟨o,ho,hc,n,hd⟩:=pl;exact call_list_seq p (.inr rfl) ho hc hd #[Ty] (by simp only [aO] <;> lia)
theorem zaT:zbh X (.type "tuple") (fun xs H Q=>∃ p ys,xs = [.ref p]/\((pA X.K H p ys/\∀ l,H l=none->Q #[Qy] (pB H l (.tup ys)))\/(pK X.K H p ys/\Q #[Wy] H))):=by
 intro pv s σ H xs us Q I r h;obtain⟨p,ys,rfl,h⟩:=h;obtain⟨u,rfl,rx⟩:=vals1 r;cases rx;rcases h with ⟨hq,q⟩ | ⟨hq,q⟩
 ·obtain⟨pC,r',pl,hz⟩:=I.list hq;have pI:=r'.length;refine call_tuple_list pl.isList (fun h' kp=>?_) (by simp only [aO] <;> lia);have I1:Inv X pv σ H { s with heap:=h' }:=I.kept (t':=s.toks) kp;have I2:Inv X pv σ (pB H h'.objs.size (.tup ys)) { s with heap:=h'.push { cls:=.type "tuple",data:=.seq pC.toArray } } :=
   I1.laid (t':=s.toks) #[Vz] (aG _) (show zah X.prog X.w _ _ _ (.tup ys) from ⟨hz,pC,r',IsTup.new _ _⟩)
  exact⟨.ref h'.objs.size,_,I2,rfl,q _ #[PZ]⟩
 ·obtain⟨pC,r',pl,hz⟩:=I.tuple hq;exact call_tuple_same pl ⟨.ref p,H,I,rfl,q⟩
def tyV (K:aD) (T:String) (x:V) (H:Hp):Prop:=match x with
 | .str _=>T = "str"
 | .int _=>T = "int"
 | .ref p=>(T = "list"/\∃ xs,pA K H p xs)\/(T = "tuple"/\∃ o,K.lookup p=some o/\o.cls = .type "tuple"/\o.dict=none) \/
   (T = "dict"/\((∃ pD,H p=some #[VQ])\/∃ pD,H p=some #[TZ]))\/(T = "set"/\∃ S n,H p=some (.set S n))
 | _=>False
theorem zqy {σ:St} {T:String} {x:V} {v:Value} (I:Inv X pv σ H s) (r:RelV x v) (ty:tyV X.K T x H) :
  s.TypeIs v T/\∀ a,v = .ref a->∃ ob,s.heap.get? a=some ob/\ob.dict=none:=by
 cases x with
 | str z =>
  obtain⟨t,rfl⟩:=r;cases (show T = "str" from ty);exact⟨typeIs_str s z t,fun _ e=>nomatch e⟩
 | int i =>
  obtain⟨t,rfl⟩:=r;cases (show T = "int" from ty);exact⟨oG s i t,fun _ e=>nomatch e⟩
 | ref p =>
  cases r;rcases ty with ⟨rfl,xs,hq⟩ | ⟨rfl,o,hk,hc,hd⟩ | ⟨rfl,hk⟩ | ⟨rfl,S,n,hk⟩
  ·obtain⟨pC,_,pl,_⟩:=I.list hq;refine⟨pl.isList.typeIs,fun a e=>?_⟩;cases e;obtain⟨o,n,e,c,hd,_⟩:=pl;exact⟨o,e,hd⟩
  ·refine⟨⟨o,I.kIn p o hk,hc⟩,fun a e=>?_⟩;cases e;exact⟨o,I.kIn _ o hk,hd⟩
  ·have z:∃ o,s.heap.get? p=some o/\o.ExactDict:=by
    rcases hk with ⟨pD,hk⟩ | ⟨pD,hk⟩
    ·obtain⟨_,_,_,_,o,_,_,e,ex,_⟩:=I.hok p _ hk;exact⟨o,e,ex⟩
    ·obtain⟨_,_,_,_,o,_,_,e,ex,_⟩:=I.hok p _ hk;exact⟨o,e,ex⟩
   obtain⟨o,e,ex⟩:=z;refine⟨⟨o,e,ex.1⟩,fun a e2=>?_⟩;cases e2;exact⟨o,e,ex.2.1⟩
  ·obtain⟨o,_,_,_,e,ex,_⟩:=I.hok p _ hk;refine⟨⟨o,e,ex.1⟩,fun a e2=>?_⟩;cases e2;exact⟨o,e,ex.2.1⟩
 | _=>exact dX ty
def tBM (K:aD) (T:String) (r:V->List V->Hp->VK->Prop) (to:TE) (t:TA):TE:=fun σ H Q=>to σ H fun x H1=>tyV K T x H1/\t σ H1 fun xs H2=>r x xs H2 Q
variable {o e:Expr} {es:List Expr} {to:TE} {t:TA} {name:Str} {apos qj:Pos} {T id:String} {r:V->List V->Hp->VK->Prop}
theorem zeG (pa:PlainAttrs T) (slot:Slot T name id) (Ii:typeOf #[R8]=pure (.type "method_descriptor")) (hm:MtR X id r) (ho:PE X o to) (ha:PA X (e :: es) t)
  (Aw:attributeBase o name X.env #[Vm]=eval o X.env:=by rfl)
  (C2:(#[Uv].all (fun x=>!x.1) && (backToKw qj (keywordEach [] X.env)).all (fun x=>x.1.isSome)
   && decide ((e :: es).length+([]:List Keyword).length+(if ([]:List Keyword).isEmpty then 0 else 1) < 30))=true:=by rfl)
  (Ax:(apos.endLine == qj.line)=true:=by rfl) (hs:starEach (e :: es) X.env=#[Ix] :: starEach es X.env:=by rfl) (wO:#[Sm].any (·.1)=false:=by rfl) :
  PE X (.Call (.Attribute o name apos) (e :: es) [] qj) (tBM X.K T r to t):=by
 intro pv s σ H Q I h;refine wpAny_Call_method_late Aw C2 Ax rfl (thn #[SV] fun v s1 ⟨x,H1,I1,r1,ty,q1⟩=>?_);obtain⟨h1,h2⟩:=zqy I1 r1 ty;refine⟨T,id,pa,slot,Ii,h1,h2,?_⟩;have hA:=ha qj pv s1 σ H1 _ I1 q1;rw [hs] at hA |-;refine lA (by show (false || #[Sm].any (·.1))=false; rw [wO] <;> rfl) (jB ?_);exact thn hA fun us s2 ⟨vs,H2,I2,r2,q2⟩=>hm pv s2 σ H2 x vs v us Q I2 r1 r2 q2
end
def MtM (X:Cx) (id:String) (r:V->List V->Hp->VK->Prop):Prop :=
 ∀ (pv:List (Addr×Obj)) (s:Shared) (σ:St) (H:Hp) (x:V) (xs:List V) (v:Value) (us:List Value) (Q:VK),Inv X pv σ H s->RelV x v->zR xs us->r x xs H Q ->
  wpAny #[ss] X.A (call #[R8] (v :: us)) #[Qd] X.xe s
theorem zR.one:∀ {x:V} {us:List Value},zR [x] us->∃ u,us = [u]/\RelV x u
 | _,_,.cons r .nil=>⟨_,rfl,r⟩
theorem zR.eraseIdx:∀ {xs:List V} {us:List Value} (i:Nat),zR xs us->zR (xs.eraseIdx i) (us.eraseIdx i)
 | _,_,_,.nil=>.nil
 | _,_,0,.cons _ t=>t
 | _,_,i+1,.cons r t=>.cons r (zR.eraseIdx i t)
theorem zR.rep {xs:List V} {us:List Value} (h:zR xs us):∀ k:Nat,zR (aQ k xs).flatten (aQ k us).flatten
 | 0=>.nil
 | k+1=>by
  rw [d8,d8,gm,gm];exact zR.append h (zR.rep h k)
theorem zgI {α:Type}:∀ (l:List α) (i:Nat),(l.eraseIdx i).length<=l.length
 | [],_=>aG _
 | _ :: _,0=>ir _
 | _ :: r,i+1=>hX (zgI r i)
theorem foldl_rep (pC:List Value):∀ (k:Nat) (acc:List Value),
  oH #[V1] acc.toArray (aQ k pC.toArray)=(acc++(aQ k pC).flatten).toArray
 | 0,acc=>by simp
 | k+1,acc=>by
  have e:acc.toArray++pC.toArray=(acc++pC).toArray:=by simp
  have e2:(acc++pC)++(aQ k pC).flatten=acc++(aQ (k+1) pC).flatten:=by
   rw [d8,gm,cK]
  rw [<- e2,<- foldl_rep pC k (acc++pC),<- e,d8,k6]
section
variable {X:Cx} {pv:List (Addr×Obj)} {σ:St} {H:Hp} {s:Shared} {l b:Addr} {xs ys zs:List V}
theorem Inv.Pq {its':List Value} {n:Nat} {f:Array Value->Array Value} (I:Inv X pv σ H s) (hH:H l=some #[Q8])
  (e:s.heap.get? l=some { cls:=.type "list",data:=.seq pC.toArray n }) (hf:f pC.toArray=its'.toArray) (hv:zR ys its') (hz:ys.length<=sizeLine) :
  Inv X pv σ (pB H l #[T3]) { s with heap:=s.heap.update l (fA f),toks:=t' }:=by
 have q:=og e f;rw [hf] at q;refine I.write (x:=l) (e:=l) (by rw [hH]; exact trivial) #[QP] (fun b' u hb hu=>(dZ s.heap (fA f) (eG hb)).trans hu) ⟨_,q⟩ ?_;exact⟨hz,its',_,hv,q⟩
theorem Inv.Pw (I:Inv X pv σ H s) (hv:zR ys pC) (hz:ys.length<=sizeLine) :
  Inv X pv σ (pB H s.heap.objs.size #[T3]) { s with heap:=s.heap.push { cls:=.type "list",data:=.seq pC.toArray },toks:=t' } :=
 I.laid (fun _ _ q=>aH _ q) (aG _) ⟨hz,pC,0,hv,aY _ rfl⟩
theorem Inv.fresh (I:Inv X pv σ H s):H s.heap.objs.size=none:=I.hok.fresh (aG _)
theorem Inv.OT (I:Inv X pv σ H s) (hH:H l=some #[Q8]):xs.length<=sizeLine/\∃ (pC:List Value) (n:Nat),zR xs pC/\xs.length=pC.length/\s.heap.get? l=some { cls:=.type "list",data:=.seq pC.toArray n }:=by
 obtain⟨z,pC,n,r,e⟩:=I.hok l _ hH;exact⟨z,pC,n,r,r.length,e⟩
theorem zh9 {n:Nat} (h:n<=sizeLine):gB n=false:=by
 unfold gB;exact decide_eq_false #[O]
end
section
variable {X:Cx}
def zoA:V->List V->Hp->VK->Prop:=fun x vs H Q=>∃ l xs y,x = .ref l/\vs = [y]/\H l=some #[Q8]/\xs.length < sizeLine/\Q .non (pB H l (.lst (xs++[y])))
theorem zci:MtM X "list.append" zoA:=by
 intro pv s σ H x vs v us Q I rx rv h;obtain⟨l,xs,y,rfl,rfl,hH,hz,q⟩:=h;cases rx;obtain⟨u,rfl,ru⟩:=rv.one;obtain⟨z,pC,n,r,hl,e⟩:=I.OT hH;refine gu nA ⟨_,e,rfl⟩ mS (lZ _ _) (nP l pC.toArray n u (by rw [aO]; lia)) ⟨e,?_⟩;refine⟨.non,_,I.Pq (its':=pC++[u]) hH e #[M] (r.append (.cons ru .nil)) ?_,rfl,q⟩;rw [aL,gX];lia
def zqz:V->List V->Hp->VK->Prop:=fun x vs H Q=>∃ l xs i k y,x = .ref l/\vs = [.int i]/\H l=some #[Q8]/\-(2 ^ 63)<=i/\i < 2 ^ 63/\seqIndex? i xs.length=some k/\xs[k]? = some y/\Q y (pB H l (.lst (xs.eraseIdx k)))
theorem zmx:MtM X "list.pop" zqz:=by
 intro pv s σ H x vs v us Q I rx rv h;obtain⟨l,xs,i,k,y,rfl,rfl,hH,h1,h2,hk,hy,q⟩:=h;cases rx;obtain⟨u,rfl,ru⟩:=rv.one;obtain⟨t,rfl⟩:=ru;obtain⟨z,pC,n,r,hl,e⟩:=I.OT hH;obtain⟨w,hw,C1⟩:=r.get hy;refine gu F.slot_list_pop ⟨_,e,rfl⟩ F.entry_list_pop (F.args_list_pop_2 _ _)
  (MeetsSeq.list_pop_at l pC.toArray n i t k w (fitsIndex_both h1 h2) (by rw [aO,<- hl]; exact hk) (by rw [<- cL]; exact hw) (by rw [aO]; lia)) ⟨e,?_⟩
 refine⟨y,_,I.Pq (its':=pC.eraseIdx k) hH e ?_ (r.eraseIdx k) ?_,C1,q⟩
 ·show pC.toArray.eraseIdxIfInBounds k=(pC.eraseIdx k).toArray;rw [List.eraseIdxIfInBounds_toArray]
 ·have:=zgI xs k;lia
def zss:R2:=fun x y H Q=>∃ l b xs zs,x = .ref l/\y = .ref b/\H l=some #[Q8]/\H b=some (.lst zs)/\xs.length+zs.length<=sizeLine/\∀ p,H p=none->Q #[Wy] (pB H p (.lst (xs++zs)))
theorem zbK:OpR X #[Tk] zss:=by
 intro pv s σ H x y v u Q I rx ry h;obtain⟨l,b,xs,zs,rfl,rfl,hH,hB,hz,q⟩:=h;cases rx;cases ry;obtain⟨z,pC,n,r,hl,e⟩:=I.OT hH;obtain⟨z2,p4,n2,r2,rX,e2⟩:=I.OT hB;refine PySem.P.add_list e e2 ?_ (by rw [aO,aO]; lia);have ea:pC.toArray++p4.toArray=(pC++p4).toArray:=by simp
 rw [ea];exact⟨.ref _,_,I.Pw (t':=s.toks) (r.append r2) (by rw [aL]; lia),rfl,q _ I.fresh⟩
def zrK:R2:=fun x y H Q=>∃ l k xs,x = .ref l/\y = .int k/\H l=some #[Q8]/\-(2 ^ 63)<=k/\k < 2 ^ 63/\xs.length*k.toNat<=sizeLine /\
 ∀ p,H p=none->Q #[Wy] (pB H p (.lst (aQ k.toNat xs).flatten))
theorem len_rep {α:Type} (xs:List α) (k:Nat):(aQ k xs).flatten.length=k*xs.length:=by
 induction k with
 | zero=>simp
 | succ k ih=>rw [d8,gm,aL,ih,kJ,Nat.add_comm]
theorem zdF:OpR X (binaryOp .Mult) zrK:=by
 intro pv s σ H x y v u Q I rx ry h;obtain⟨l,k,xs,rfl,rfl,hH,h1,h2,hz,q⟩:=h;cases rx;obtain⟨t,rfl⟩:=ry;obtain⟨z,pC,n,r,hl,e⟩:=I.OT hH;have pI:pC.toArray.size*k.toNat<=sizeLine:=by rw [aO,<- hl]; exact hz
 have Ij:¬ pC.toArray.size*k.toNat > (2 ^ 63 - 1) / 8:=by
  have:(sizeLine:Nat)<=(2 ^ 63 - 1) / 8:=by decide
  lia
 have Ik:¬ (!Builtin.List.listFitsIndex k)=true:=by
  rw [fitsIndex_both h1 h2];exact bK
 have Ay:¬ gB (pC.toArray.size*k.toNat)=true:=by
  rw [zh9 pI];exact bK
 have Il:oH #[V1] #[] (aQ (if pC.toArray.isEmpty=true then 0 else k.toNat) pC.toArray)=(aQ k.toNat pC).flatten.toArray:=by
  have f0:∀ m:Nat,oH #[V1] #[] (aQ m pC.toArray)=(aQ m pC).flatten.toArray:=fun m=>by
   have:=foldl_rep pC m [];rw [oI] at this;exact this
  rw [f0];cases pC with
  | nil=>simp
  | cons a r'=>rw [if_neg #[M]]
 refine wpAny_binaryOp_repeat_ref (T:="list") (U:="int") #[D] ⟨_,e,rfl⟩ (fun s'=>oG s' k t) noFill_list_mul F.fills_int_mul F.slot_int_rmul repeat_list F.slot_int_index.lookup
  (gu F.slot_int_rmul (oG s k t) F.entry_int_rmul (F.args_int_rmul_2 _ _) (int___rmul___int_list k t l pC.toArray n)
   ⟨e,rfl,⟨_,e,rfl⟩,gu F.slot_list_mul ⟨_,e,rfl⟩ F.entry_list_mul (F.args_list_mul_2 _ _) (AutoListH.list___mul___list_int_3 l pC.toArray n k t Ik Ij Ay) ⟨e,?_⟩⟩)
 rw [Il];exact⟨.ref _,_,I.Pw (t':=s.toks) (r.rep k.toNat) (by rw [len_rep,iK]; exact hz),rfl,q _ I.fresh⟩
end
end L2
namespace Att
open PySem PySem.W PySem.Calls PyProof.Rows
theorem zeR {P:Params} {h:Heap}:∀ (ns:List Int) (vs:List Value),WellAll P h vs (ns.map WData.int)->IntsAre vs ns:=by
 intro ns;induction ns with
 | nil =>
  intro vs w;rw [iJ] at w;cases w;exact .nil
 | cons n ns ih =>
  intro vs w;rw [bX] at w;cases w with
  | cons a b =>
   cases a;exact .cons _ _ (ih _ b)
theorem zlc {l:OpenLaw} {n:Nat} (hn:l.most=some n) {P:Params} {h:Heap} {args:List WData} {vals:List Value}
  (BA:l.row.toRowW.claim.pre args=true) (C3:WellAll P h vals args) :
  ∃ a vs ns,vals = [bP a]/\args = [WData.list (ns.map WData.int)]/\h.get? a=some { cls:=.type "list",data:=.seq vs.toArray }/\IntsAre vs ns/\ns.length<=n:=by
 have hsh:WShape.hasAll [] args [.list .int]=true:=(pre_splitW BA).1;have hc:l.pre.holds [] { args:=args }=true:=(pre_splitW BA).2;obtain⟨d,r,rfl,h1,h2⟩:=hasAllW_cons hsh;obtain rfl:=hasAllW_nil h2;obtain⟨xs,rfl,h3⟩:=hasW_list h1;obtain⟨ns,rfl⟩:=items_int h3;have pI:ns.length<=n:=by
  unfold OpenLaw.pre at hc;have h4:(WTm.not (.lt (.lit (.int (n:Int))) (.len (.arg 0)))).holds [] { args:=[.list (ns.map .int)] }=true:=by
   have h4:=(holds_andW hc).1;rw [hn] at h4;exact h4
  have h5:=condW_of h4 (w_not (w_lt w_lit (w_len_list (w_arg rfl))));rw [aA] at h5;refine oh fun q=>?_
  have q':(n:Int) < ((ns.length:Nat):Int):=by lia
  first
   | (rw [decide_eq_true q'] at h5; exact absurd h5 #[D])
   | (simp at h5; lia)
 cases C3 with
 | cons w1 w2 =>
  cases w2;cases w1 with
  | list ho uv=>exact⟨_,_,ns,rfl,rfl,ho,zeR ns _ uv,pI⟩
theorem zld (l:OpenLaw) (args:List WData):l.row.toRowW.claim.post args #[Sd] args=true :=
 postW_of (r:=l.row.toRowW) (X:=(true == true))
  (show WShape.has [] #[Sd] .bool=true by first | rfl | decide | simp [WShape.has,WShape.arms,WShape.armsAll])
  (show (WTm.eq .res (.lit #[Sd])).value [] { args:=args,res:=some #[Sd],after:=args }=some (.bool (true == true)) from w_eq_bool (w_res rfl) w_lit) rfl
theorem N0 {l:OpenLaw} {n:Nat} {q:Program} {loose:List Str} {XP:#[VC]->Heap->Prop} {YP:World->Heap->Prop} {d:DefRec}
  (hn:l.most=some n) (E8:d.params.defaults = [])
  (call:∀ (w:World) (s₀ s₁:Shared) (mg mb:Str->Option Value) (fa:Addr) (o:Obj) (pm cd doc:Value) (a:Addr) (vs:List Value) (ns:List Int),
   Ground q loose [] XP w s₀ mg mb s₁.heap->YP w s₁.heap ->
   s₁.heap.get? fa=some o->o.data = .func (docDef d.name d.params d.body d.scope pm cd doc)->s₁.heap.CodeRec cd d.name->mg d.name=some (.ref fa) ->
   s₁.heap.get? a=some { cls:=.type "list",data:=.seq vs.toArray }->IntsAre vs ns->ns.length<=n->s₁.gens = #[] ->
   codeAny (model l.prog w) callerA (.call (.ref fa) ⟨[.ref a],[]⟩) (fun r s'=>r = .ok (.ret #[Sd])/\OldK s₁.heap s'.heap/\s'.os=s₁.os/\AllBare s'.gens) s₁) :
  WalkO q loose XP YP l.row.toRowW d [] #[Vy]:=by
 intro w s₀ s₁ mg mb G Y fa o pm cd doc dV kV ho hd vc hD xY hg args vals as BA hlay hrd C3 tR;obtain rfl:dV = .none:=Dflts.none hD E8;obtain rfl:kV = .none:=Dflts.noKw hD;obtain⟨a,vs,ns,rfl,rfl,C4,hints,pI⟩:=zlc hn BA C3;refine enter_call (jA (call w s₀ s₁ mg mb fa o pm cd doc a vs ns G Y ho (fd_plain hd) vc xY C4 hints pI hg) fun r s' hq=>?_);obtain⟨rfl,h2,h3,h4⟩:=hq;exact⟨.inl ⟨.bool true,.bool true,[],rfl,fun _=>rfl,.bool true,zld l _,fun _=>⟨kr,fun _ hm=>(nomatch hm)⟩⟩,h2,h3,h4⟩
end Att
namespace L2
open PySem PySem.Spec PyProof.Rows
variable {Ab:Array #[Sf]} {CX:CXT} {H H' H1 H2:Hp} {K:aD} {N:List Str} {P:Program} {an od:Option Addr} {ct doc oc pR pm:Value} {fd:FuncData} {k:Nat} {mg:Str->Option Value} {ns:List Int} {qual:Str} {sp:Sp} {vs:List Value}
theorem zgJ:∀ {vs:List Value} {ns:List Int},IntsAre vs ns->zR #[EQ] vs
 | _,_,.nil=>.nil
 | _,_,.cons n t h=>.cons ⟨t,rfl⟩ (zgJ h)
def zqA (H:Hp):Prop:=∀ b,H b=none\/∃ o xs,H b=some (.frz o #[Q8])
theorem zmy {w:World} {mb:Str->Option Value} {fa a:Addr} {x:Str} {s₁:Shared} 
  (KX:K.In s₁.heap) (wC:s₁.heap.Ns mainGlobals mg) (hb:s₁.heap.Ns builtinsNs mb) (hbb:∀ x:Str,x≠"__name__"->mb x=bootBuiltins x) (Im:s₁.heap.NoLimit) (hg:s₁.gens = #[])
  (ha:s₁.heap.get? a=some { cls:=.type "list",data:=.seq vs.toArray }) (hi:IntsAre vs ns) (hl:ns.length<=sizeLine) (hr:M8 k callerA)
  (F:∀ base:Heap,K.In base->base.Ns mainGlobals mg->Lf P w K mg base CX k fa fd [x] sp) (E9:∀ (s:Shared) (u:Value),BindsTo s fd ⟨[u],[]⟩ [(x,u)])
  (vL:∀ H:Hp,zqA H->pA K H a #[EQ]->sp [.ref a] H (fun v _=>v = .bl true) fun _ _ _=>False)
  (Io:∀ H e s',CX [] H s₁ (fun _ _ _=>False) e s'->False) :
  codeAny #[S0] callerA (.call (.ref fa) ⟨[.ref a],[]⟩) (fun r s'=>r = .ok (.ret #[Sd])/\OldK s₁.heap s'.heap/\s'.os=s₁.os/\AllBare s'.gens) s₁:=by
 have rv:=zgJ hi;have Ip:=hi.length;have core:∀ H:Hp,zqA H->pA K H a #[EQ]->HOk P w H s₁.heap->(∀ b,H b≠none->b=a)->(H a≠none->K.lookup a=none) ->
   codeAny #[S0] callerA (.call (.ref fa) ⟨[.ref a],[]⟩) (fun r s'=>r = .ok (.ret #[Sd])/\OldK s₁.heap s'.heap/\s'.os=s₁.os/\AllBare s'.gens) s₁:=by
  intro H hO hS hok hA hK;have xG:∀ {b:Addr} {o:Obj},s₁.heap.get? b=some o->H b=none->#[SG].get? b=some o:=fun e n=>zmj e n
  have CZ:∀ {b:Addr} {o:Obj} {es:Array DictEntry} {ep:Nat},s₁.heap.get? b=some o->o.data = .dict es ep->H b=none:=fun {b o es ep} e d=>by
   cases q:H b with
   | none=>rfl
   | some u =>
    have e':b=a:=hA b (by rw [q]; simp);subst e';rw [ha] at e; cases e;have d':Data.seq vs.toArray _=Data.dict es ep:=d;cases d'
  have GW:∀ {b:Addr} {m:Str->Option Value},s₁.heap.Ns b m->#[SG].Ns b m:=fun {b m} ⟨o,es,ep,e,d,r⟩=>⟨o,es,ep,xG e (CZ e d),d,r⟩
  have hKb:K.In #[SG]:=fun b o e=>xG (KX b o e) (by
   cases q:H b with
   | none=>rfl
   | some u =>
    have e':b=a:=hA b (by rw [q]; simp);subst e';rw [hK (by rw [q]; simp)] at e; cases e)
  have hM:Mod K mg #[SG]:=⟨hKb,GW wC,⟨mb,GW hb,hbb⟩,let ⟨mc,h1,h2⟩:=Im; ⟨mc,GW h1,h2⟩⟩;have e0:Pb P w K mg #[SG] callerA [] s₁ H:=⟨rfl,hM,fun b o e=>zoq e,Nat.le_of_eq (zk7 _ _),trivial,fun b hb=>absurd (show b∈([]:List Addr) from hb) #[M],hok,.of_eq hg⟩;refine jA ((F _ hKb (GW wC)).run callerA [] s₁ H ⟨[.ref a],[]⟩ [.ref a] [.ref a] _ _ hr e0 (E9 s₁ #[QK]) (.cons rfl .nil) (vL H hO hS)) fun r s' h=>?_
  cases r with
  | error e=>exact (Io H e s' h).elim
  | ok fl =>
   cases fl with
   | next=>exact dX h
   | brk=>exact dX h
   | cont=>exact dX h
   | ret u =>
    obtain⟨v,H',os,bare,un,Iq,r',q⟩:=h;have q':v = .bl true:=q;subst q';obtain rfl:u=hU true:=r';refine⟨rfl,OldK.of_keep fun b o e=>?_,os,bare⟩;cases q:H b with
    | none=>exact un.keep b o e q (by intro z; exact absurd (show b∈([]:List Addr) from z) #[M]) #[M]
    | some u =>
     rcases hO b with z | ⟨ob,xs,z⟩
     ·rw [q] at z; cases z
     ·have z2:=un.M5 b ob _ z;obtain⟨e1,_⟩:=hok b _ z;obtain⟨e2,_⟩:=Iq b _ z2;rw [e] at e1; cases e1;exact e2
 cases hk:K.lookup a with
 | some o =>
  have e:=KX a o hk;rw [ha] at e;cases e;refine core (fun _=>none) (fun _=>.inl rfl) (.inr ⟨_,vs.toArray,_,hk,rfl,rfl,rfl,by rw [aO,Ip]; exact hl,by simpa using rv⟩) (fun b u z=>by have z':(none:Option HO)=some u:=z; cases z') (fun b z=>absurd rfl z) fun z=>absurd rfl z
 | none =>
  refine core (fun b=>if b=a then some (.frz { cls:=.type "list",data:=.seq vs.toArray } (.lst #[EQ])) else none) (fun b=>?_) (.inl (.inr ⟨{ cls:=.type "list",data:=.seq vs.toArray },if_pos rfl⟩)) (fun b u z=>?_) (fun b z=>?_) fun _=>hk
  ·by_cases hb:b=a
   ·exact .inr ⟨_,_,if_pos hb⟩
   ·exact .inl (if_neg hb)
  ·by_cases hb:b=a
   ·have z':=(if_pos hb).symm.trans z;cases z';subst hb;exact⟨ha,by rw [aA]; exact hl,vs,_,rv,ha⟩
   ·have z':=(if_neg hb).symm.trans z;cases z'
  ·by_cases hb:b=a
   ·exact hb
   ·exact absurd (if_neg hb) z
theorem zoB {l:k7} {n:Nat} {q:Program} {loose:List Str} {XP:#[VC]->Heap->Prop} {YP:World->Heap->Prop} {d:DefRec} {K:Params->aD} {CX:World->CXT} {sp:World->Sp} {x:Str}
  (hn:l.most=some n) (wD:n<=sizeLine) (E8:d.params.defaults = []) (hr:M8 k callerA)
  (hY:∀ (w:World) (h:Heap),YP w h->#[Rt].In h)
  (F:∀ (w:World) (mg:Str->Option Value) (fa:Addr) (h:Heap),#[Rt].In h->h.Ns mainGlobals mg->mg d.name=some (.ref fa) ->
   ∃ fd:FuncData,(∀ (s:Shared) (u:Value),BindsTo s fd ⟨[u],[]⟩ [(x,u)]) /\
    ∀ base:Heap,#[Rt].In base->base.Ns mainGlobals mg->Lf l.prog w #[Rt] mg base (CX w) k fa fd [x] (sp w))
  (vL:∀ (w:World) (H:Hp) (a:Addr) (ns:List Int),ns.length<=n->zqA H->pA #[Rt] H a #[EQ]->sp w [.ref a] H (fun v _=>v = .bl true) fun _ _ _=>False)
  (Io:∀ (w:World) (H:Hp) (s:Shared) (e:Value) (s':Shared),CX w [] H s (fun _ _ _=>False) e s'->False) :
  o6 q loose XP YP l.row.toRowW d [] #[Vy]:=by
 refine Att.N0 hn E8 fun w s₀ s₁ mg mb fa o pm cd doc a vs ns G Y ho hd vc xY C4 hints pI hg=>?_
 have KX:=hY w _ Y;obtain⟨fd,hb,hF⟩:=F w mg fa _ KX G.T.g xY;exact zmy KX G.T.g G.T.b G.T.builtins G.T.nolimit hg C4 hints (bR pI wD) hr hF hb (fun H hO hS=>vL w H a ns pI hO hS) fun H e s'=>Io w H s₁ e s'
def zb2 (s:Stmt):Arguments:=match s with
 | .FunctionDef _ a _ _ _ _ _ _ _ _=>a
 | _=>{ posonlyargs:=[],args:=[],vararg:=none,kwonlyargs:=[],kw_defaults:=[],kwarg:=none,defaults:=[] }
def zbl (s:Stmt):List Stmt:=match s with
 | .FunctionDef _ _ b _ _ _ _ _ _ _=>b
 | _=>[]
def zh (s:Stmt):Scope:=match s with
 | .FunctionDef _ _ _ _ _ _ sc _ _ _=>sc
 | _=>{ kind:=.function,names:=[],isGenerator:=false,isCoroutine:=false }
abbrev CX0:CXT:=fun _ _ _ _ _ _=>False
abbrev E0:XK:=fun _ _ _=>False
theorem zM {X:Cx}:zft CX0 X E0:=fun _ _ _ _ _ _ _ h=>h.elim
structure Fun (K:aD) (x qual:Str) (st:Stmt) (f:Addr) (fd:FuncData):Prop where
 ex:∃ (oc:Value) (od:Option Addr) (kV doc pm:Value) (an:Option Addr) (pR ct:Value) (Ab:Array #[Sf]),
  fd=eU x qual (zb2 st) (zbl st) (zh st) .none kV doc pm an pR ct/\K.lookup f=some ⟨oc,od,.func fd,Ab⟩/\gW K pR qual=true
 kp:gv K #[Tt]=true
section
variable {P:Program} {w:World} {K:aD} {mg:Str->Option Value} {base:Heap}
theorem Fun.ok {x:Str} {st:Stmt} {f:Addr} {ps:List Str} (F:Fun K x qual st f fd) (S:KE N ps (zh st)) (len:∀ vs H Q E,sp vs H Q E->vs.length=ps.length)
  (rW:∀ (pR:Value) (A:Around) (outer:List Env) (s:Shared) (H:Hp) (vs:List V) (Q:VK) (E:XK),M8 k #[Qu]->sp vs H Q E ->
   ∃ t,PSs (zb1 CX0 P w K mg base N qual (zh st) f pR A outer s H E).nox (zbl st) t/\t { nx:=fun _ H'=>Q .non H',rt:=Q } #[Rr] H):Lf P w K mg base CX0 (k+1) f fd ps sp:=by
 obtain⟨oc,od,kV,doc,pm,an,pR,ct,Ab,rfl,lk,vc⟩:=F.ex;refine zpQ lk vc S len fun A outer s H vs Q E hr vL=>?_
 obtain⟨t,h,q⟩:=rW pR A outer s H vs Q E hr vL;exact⟨t,h.nox,q⟩
theorem Fun.binds {x:Str} {st:Stmt} {f:Addr} {ps:List Str} (F:Fun K x qual st f fd)
  (h:∀ (kV doc pm:Value) (an:Option Addr) (pR ct:Value) (us:List Value),us.length=ps.length->bindArgs #[Qb] ⟨us,[]⟩=pure #[U2]):Binds K fd ps []:=by
 obtain⟨oc,od,kV,doc,pm,an,pR,ct,Ab,rfl,lk,vc⟩:=F.ex;exact .all (h kV doc pm an pR ct)
theorem zmz {x:Str} {st:Stmt} {f:Addr} {kV:Value} (l:K.lookup f=some ⟨oc,od,.func #[Qb],Ab⟩)
  (c:gW K pR qual=true) (k:gv K #[Tt]=true):Fun K x qual st f #[Qb]:=⟨⟨oc,od,kV,doc,pm,an,pR,ct,Ab,rfl,l,c⟩,k⟩
end
theorem zeS {A B:Prop} (h:B):if false=true then A else B:=by
 rw [if_neg bK];exact h
theorem zmA {A B:Prop} (h:A):if true=true then A else B:=by
 rw [if_pos rfl];exact h
theorem za6 {c A B:Prop} [Decidable c] (h1:c->A) (h2:¬ c->B):if c then A else B:=by
 by_cases h:c
 ·rw [if_pos h];exact h1 h
 ·rw [if_neg h];exact h2 h
def zr (H H':Hp):Prop:=∀ b o,H b=some o->H' b=some o
theorem zr.trans (a:zr H H1) (b:zr H1 H2):zr H H2:=fun c o h=>b c o (a c o h)
theorem zr.free (e:zr H H') {l:Addr} (h:H' l=ph):H l=ph:=by
 cases q:H l with
 | none=>rfl
 | some o =>
  rw [e l o q] at h;cases h
theorem zr.seq {a:Addr} {xs:List V} (e:zr H H') (h:pA K H a xs):pA K H' a xs:=by
 rcases h with (h | ⟨o,h⟩) | h
 ·exact .inl (.inl (e _ _ h))
 ·exact .inl (.inr ⟨o,e _ _ h⟩)
 ·exact .inr h
end L2
section
namespace L2
open PySem
abbrev Ends.n (D:Ends) (N:St->Hp->Prop):Ends:={ D with nx:=N }
section
variable {r1 r2 r3 r4 r5 r6 r7 r8 r9 r10 r11 r12 r13 r14 r15:TS} {D:Ends} {σ:St} {H:Hp}
theorem zgj (h:let N2:=r2 D; r1 (D.n N2) σ H):(zbe r1 r2) D σ H:=h
theorem zfu (h:let N3:=r3 D; let N2:=r2 (D.n N3); r1 (D.n N2) σ H):(zbe r1 (zbe r2 r3)) D σ H:=h
theorem zg9 (h:let N4:=r4 D; let N3:=r3 (D.n N4); let N2:=r2 (D.n N3); r1 (D.n N2) σ H):(zbe r1 (zbe r2 (zbe r3 r4))) D σ H:=h
theorem zmB (h:let N5:=r5 D; let N4:=r4 (D.n N5); let N3:=r3 (D.n N4); let N2:=r2 (D.n N3); r1 (D.n N2) σ H):(zbe r1 (zbe r2 (zbe r3 (zbe r4 r5)))) D σ H:=h
theorem zqB (h:let N6:=r6 D; let N5:=r5 (D.n N6); let N4:=r4 (D.n N5); let N3:=r3 (D.n N4); let N2:=r2 (D.n N3); r1 (D.n N2) σ H):(zbe r1 (zbe r2 (zbe r3 (zbe r4 (zbe r5 r6))))) D σ H:=h
theorem zrL (h:let N7:=r7 D; let N6:=r6 (D.n N7); let N5:=r5 (D.n N6); let N4:=r4 (D.n N5); let N3:=r3 (D.n N4); let N2:=r2 (D.n N3); r1 (D.n N2) σ H):(zbe r1 (zbe r2 (zbe r3 (zbe r4 (zbe r5 (zbe r6 r7)))))) D σ H:=h
theorem zst (h:let N8:=r8 D; let N7:=r7 (D.n N8); let N6:=r6 (D.n N7); let N5:=r5 (D.n N6); let N4:=r4 (D.n N5); let N3:=r3 (D.n N4); let N2:=r2 (D.n N3); r1 (D.n N2) σ H):(zbe r1 (zbe r2 (zbe r3 (zbe r4 (zbe r5 (zbe r6 (zbe r7 r8))))))) D σ H:=h
theorem zaz {X0:Cx} {B:List PySem.Stmt} (h:let X:=X0; ∃ t,PSs X B t/\t D σ H):∃ t,PSs X0 B t/\t D σ H:=h
end
end L2
end
section
namespace L2
open PySem PySem.Spec PyProof.Rows
variable {A:Around} {H:Hp} {J:It} {M:Model} {X:Cx} {env:Env} {pv:List (Addr×Obj)} {qual:Str} {s:Shared} {scope:Scope} {te:TE} {ts:TT}
def zas (cs:List (Str×Addr)):List (Str×NameKind)->List (Str×Addr)->List (Str×Addr)
 | [],acc=>acc
 | (n,k) :: r,acc=>if k == .free then zas cs r ((n,(cs.lookup n).getD 0) :: acc) else zas cs r acc
theorem zds (h:∀ y∈scope.names,y.2 = .free->∃ c,env.cells.lookup y.1=some c) :
  closureFor scope env=pure (zas env.cells scope.names []):=by
 have go:∀ (names:List (Str×NameKind)) (acc:List (Str×Addr)),(∀ y∈names,y.2 = .free->∃ c,env.cells.lookup y.1=some c) ->
   (forIn names acc (fun (x:Str×NameKind) (cs:List (Str×Addr))=>(if (x.2 == dW)=true then do
    let a <- cellOf env x.1
    pure (eL ((x.1,a) :: cs)) else pure (eL cs):Sem (ForInStep (List (Str×Addr))))))=(pure (zas env.cells names acc):Sem _):=by
  intro names;induction names with
  | nil=>intro acc _; rfl
  | cons y r ih =>
   intro acc hy;obtain⟨n,k⟩:=y;rw [gg];cases hk:(k == dW) with
   | true =>
    obtain⟨c,hc⟩:=hy (n,k) bG (by simpa using hk);have sU:cellOf env n=pure c:=by
     unfold cellOf;have pL:env.cells.lookup n=some c:=hc;rw [pL]
    simp only [hk,if_true,sU];have e:=ih ((n,c) :: acc) fun y Fb=>hy y (aV _ Fb)
    have pL:env.cells.lookup n=some c:=hc;simp only [zas,hk,if_true,pL,jk];exact e
   | false =>
    simp only [hk,cG,if_false];have e:=ih acc fun y Fb=>hy y (aV _ Fb)
    simp only [zas,hk,cG,if_false];exact e
 have e:=go scope.names [] h;unfold closureFor;show (forIn scope.names [] _ >>= fun cs=>pure cs)=_
 first
  | (rw [e]; rfl)
  | (simp only []; rw [e]; rfl)
  | (have e':=e; simp at e' |-; exact e')
theorem zb9 {cs:List (Str×Addr)}:∀ (names:List (Str×NameKind)) (acc:List (Str×Addr)),
  (∀ y∈names,y.2 = .free->∃ c,cs.lookup y.1=some c)->(∀ x c,acc.lookup x=some c->cs.lookup x=some c) ->
  ∀ x c,(zas cs names acc).lookup x=some c->cs.lookup x=some c
 | [],acc,_,h,x,c,e=>h x c e
 | (n,k) :: r,acc,hy,h,x,c,e=>by
  have hr:∀ y∈r,y.2 = .free->∃ c,cs.lookup y.1=some c:=fun y Fb=>hy y (aV _ Fb)
  unfold zas at e;cases hk:(k == dW) with
  | false =>
   rw [hk] at e;exact zb9 r acc hr h x c e
  | true =>
   rw [hk] at e;obtain⟨d,hd⟩:=hy (n,k) bG (by simpa using hk);have Ek:cs.lookup n=some d:=hd;refine zb9 r _ hr (fun x c e'=>?_) x c e;rw [Ek,jk,cI] at e';cases hx:(x == n) with
   | true =>
    rw [hx] at e';have:x=n:=by simpa using hx
    subst this;rw [Ek];exact e'
   | false =>
    rw [hx] at e';exact h x c e'
theorem zcy {cs:List (Str×Addr)}:∀ (names:List (Str×NameKind)) (acc:List (Str×Addr)) (x:Str),
  ((∃ c,acc.lookup x=some c)\/(x,dW)∈names)->∃ c,(zas cs names acc).lookup x=some c
 | [],acc,x,h=>by
  rcases h with h | h
  ·exact h
  ·cases h
 | (n,k) :: r,acc,x,h=>by
  unfold zas;cases hk:(k == dW) with
  | false =>
   refine zcy r acc x ?_;rcases h with h | h
   ·exact .inl h
   ·rcases aR.mp h with h | h
    ·cases h;exact absurd hk #[D]
    ·exact .inr h
  | true =>
   refine zcy r _ x ?_;cases hx:(x == n) with
   | true=>exact .inl ⟨_,by rw [cI,hx]⟩
   | false =>
    rcases h with ⟨c,h⟩ | h
    ·exact .inl ⟨c,by rw [cI,hx]; exact h⟩
    ·rcases aR.mp h with h | h
     ·cases h;simp at hx
     ·exact .inr h
theorem lookup_mem {α:Type}:∀ {l:List (Str×α)} {x:Str} {k:α},l.lookup x=some k->(x,k)∈l
 | [],x,k,h=>by simp at h
 | (n,j) :: r,x,k,h=>by
  rw [cI] at h;cases hx:(x == n) with
  | true =>
   rw [hx] at h;have:x=n:=by simpa using hx
   subst this;cases h;exact bG
  | false =>
   rw [hx] at h;exact aV _ (lookup_mem h)
theorem zbN {env:Env}:∀ {names:List (Str×NameKind)} {x:Str},names.lookup x=some .free ->
  (names.map fun (n,k)=>if (k == dW && env.scope.kind == .function && env.kindOf n == some .cell) then (n,fh) else (n,k)).lookup x=some .cell \/
  (names.map fun (n,k)=>if (k == dW && env.scope.kind == .function && env.kindOf n == some .cell) then (n,fh) else (n,k)).lookup x=some .free
 | [],_,h=>by simp at h
 | (n,k) :: r,x,h=>by
  have ih:=@zbN env r x;simp only [bX];cases hx:x == n with
  | true =>
   simp only [cI,hx] at h; cases h;by_cases hc:(dW == dW && env.scope.kind == .function && env.kindOf n == some .cell)=true
   ·rw [if_pos hc]; left; simp only [cI,hx]
   ·rw [if_neg hc]; right; simp only [cI,hx]
  | false =>
   simp only [cI,hx] at h; rcases nB ((k == dW && env.scope.kind == .function && env.kindOf n == some .cell)=true) with hc | hc
   ·exact (by rw [if_pos hc]; simp only [cI,hx]; exact ih h)
   ·exact (by rw [if_neg hc]; simp only [cI,hx]; exact ih h)
theorem zdR {env:Env}:∀ {names:List (Str×NameKind)} {x:Str},
  ((names.map fun (n,k)=>if (k == dW && env.scope.kind == .function && env.kindOf n == some .cell) then (n,fh) else (n,k)).lookup x=some .cell \/
  (names.map fun (n,k)=>if (k == dW && env.scope.kind == .function && env.kindOf n == some .cell) then (n,fh) else (n,k)).lookup x=some .free) ->
  names.lookup x=some .free\/names.lookup x=some .cell
 | [],_,h=>by simp at h
 | (n,k) :: r,x,h=>by
  have ih:=@zdR env r x;simp only [bX] at h;cases hx:x == n with
  | true =>
   rcases nB ((k == dW && env.scope.kind == .function && env.kindOf n == some .cell)=true) with hc | hc
   ·have hk:k = .free:=by
     simp only [ic] at hc; simpa using hc.1.1
    subst hk;exact .inl (by simp only [cI,hx])
   ·rw [if_neg hc] at h;simp only [cI,hx] at h |-;rcases h with h | h
    ·exact .inr h
    ·exact .inl h
  | false =>
   rcases nB ((k == dW && env.scope.kind == .function && env.kindOf n == some .cell)=true) with hc | hc
   ·rw [if_pos hc] at h;simp only [cI,hx] at h |-;exact ih h
   ·rw [if_neg hc] at h;simp only [cI,hx] at h |-;exact ih h
theorem zha:∀ (names:List (Str×NameKind)) (n:Nat) (acc:List (Str×Addr)) (x:Str),(x,fh)∉names->(cellsFrom n names acc).lookup x=acc.lookup x
 | [],_,_,_,_=>rfl
 | (y,k) :: r,n,acc,x,h=>by
  have hr:(x,fh)∉r:=fun z=>h (aV _ z)
  unfold cellsFrom;split
  ·rename_i hk
   have xZ:k = .cell:=by simpa using hk
   rw [zha r _ _ x hr,cI];cases hx:(x == y) with
   | true =>
    have:x=y:=by simpa using hx
    subst this;subst xZ;exact absurd bG h
   | false=>rfl
  ·exact zha r _ _ x hr
theorem zhb:∀ (names:List (Str×NameKind)) (n:Nat) (acc:List (Str×Addr)) (x:Str),(x,fh)∈names->∃ c,(cellsFrom n names acc).lookup x=some c/\n<=c
 | (y,k) :: r,n,acc,x,h=>by
  by_cases hr:(x,fh)∈r
  ·unfold cellsFrom;split
   ·obtain⟨c,e,l⟩:=zhb r (n+1) ((y,n) :: acc) x hr;exact⟨c,e,#[O]⟩
   ·exact zhb r n acc x hr
  ·rcases aR.mp h with e | e
   ·cases e;unfold cellsFrom;rw [if_pos #[D],zha r _ _ _ hr,cI,beq_self_eq_true];exact⟨n,rfl,aG _⟩
   ·exact absurd e hr
structure CO (h:Heap) (lo:Nat) (old cs:List (Str×Addr)):Prop where
 each:∀ x c,cs.lookup x=some c->(h.IsCell c none/\lo<=c)\/(old.lookup x=some c/\c < lo)
 inj:∀ x y c,cs.lookup x=some c->cs.lookup y=some c->x=y
theorem zmC {lo:Nat} {old:List (Str×Addr)}:∀ (names:List (Str×NameKind)) (h:Heap) (acc:List (Str×Addr)),CO h lo old acc->lo<=h.objs.size->CO (pushCells h names) lo old (cellsFrom h.objs.size names acc)
 | [],_,_,a,_=>a
 | (y,k) :: r,h,acc,a,hl=>by
  unfold pushCells cellsFrom;split
  ·have lt:∀ x c,acc.lookup x=some c->c < h.objs.size:=fun x c e=>(a.each x c e).elim (fun z=>z.1.lt) fun z=>cA z.2 hl
   have key:∀ x c,jY x ((y,h.objs.size) :: acc)=some c->(x=y/\c=h.objs.size)\/acc.lookup x=some c:=fun x c e=>by
    rw [cI] at e;cases hx:(x == y) with
    | true =>
     rw [hx] at e;exact .inl ⟨by simpa using hx,(bJ e).symm⟩
    | false =>
     rw [hx] at e;exact .inr e
   have:=zmC (lo:=lo) (old:=old) r (h.push { cls:=.type "cell",data:=.cell none }) ((y,h.objs.size) :: acc) ⟨fun x c e=>?_,fun x z c e1 e2=>?_⟩ (by rw [cZ]; lia)
   ·rw [cZ] at this;exact this
   ·rcases key x c e with ⟨_,rfl⟩ | e
    ·exact .inl ⟨⟨_,aY _ rfl,rfl⟩,hl⟩
    ·rcases a.each x c e with z | z
     ·exact .inl ⟨z.1.keeps fun b o e=>aH _ e,z.2⟩
     ·exact .inr z
   ·rcases key x c e1 with ⟨p1,q1⟩ | f1 <;> rcases key z c e2 with ⟨p2,q2⟩ | f2
    ·exact p1.trans p2.symm
    ·exact absurd (lt _ _ f2) (by rw [q1]; exact dI _)
    ·exact absurd (lt _ _ f1) (by rw [q2]; exact dI _)
    ·exact a.inj x z c f1 f2
  ·exact zmC r h acc a hl
theorem zle {E:Value->Shared->Prop} {globals:Addr} {closure:List (Str×Addr)} {Q:Env->Shared->Prop}
  (h:Q (newEnv scope s.heap.objs.size globals (cellsFrom #[Ev] scope.names closure) qual none .none (some env) builtinsNs) { s with heap:=pushCells (s.heap.push { cls:=.type "dict",data:=.dict #[] }) scope.names }) :
  wpAny M A (newFunctionEnv scope globals closure [] qual none .none (some env)) Q E s:=by
 (simp only [newFunctionEnv,nC,if_true])
 (refine aB (wpAny_alloc ?_))
 (refine aB (wpAny_layCells _ (fun name kind cells=>by cases Ir:kind == fh <;> simp [Ir]) _ _ _ _ ?_))
 rw [show ({ s with heap:=s.heap.push { cls:=.type "dict",data:=.dict #[] } }:Shared).heap.objs.size=s.heap.objs.size+1 from cZ ..]
 (exact aB (aI (aI h)))
abbrev zV (X:Cx) (N':List Str) (scope:Scope) (s₃:Shared) (H₃:Hp) (ex:List Addr) (pv:List (Addr×Obj)):Cx :=
 { X with N:=N',s₀:=s₃,H₀:=H₃,env:=compEnvC scope (cellsFrom (s₃.heap.objs.size+1) scope.names (zas X.env.cells scope.names [])) s₃.heap.objs.size X.env,outer:=X.stack,stack:=X.stack,ex:=ex,fn:=fun x=>scope.names.lookup x == some .cell,pn:=X.pn++pv,xe:=fun _ _=>False }
def zjs (ifs:List Expr) (env:Env):Sem Bool :=
 forIn ifs true fun c r=>if r=true then do let ok <- isTrue c env (eval c env); pure (eL ok) else pure (eL r)
def zdS (X:Cx) (ifs:List Expr) (t:TT):Prop :=
 ∀ (pv:List (Addr×Obj)) (s:Shared) (σ:St) (H:Hp) (Q:Bool->Hp->Prop),Inv X pv σ H s->t σ H Q->wpAny #[ss] X.A (zjs ifs X.env) #[Vq] X.xe s
def zoC:TT:=fun _ H Q=>Q true H
theorem zw {X:Cx}:zdS X [] zoC:=fun _ _ _ H _ I h=>aI ⟨H,I,h⟩
theorem zbD {X:Cx} {c:Expr} {t:TT} (h:PT X c t):zdS X [c] t:=by
 intro pv s σ H Q I hw;unfold zjs;rw [gg];simp only [if_true];exact aB (aB (thn #[Uo] fun b s1 q=>aI (aI q)))
structure K7 (X:Cx) (N':List Str) (ix:List #[Os]) (scope:Scope):Prop where
 kind:scope.kind = .function
 cells:∀ y∈scope.names,y.2 = .cell->scope.names.lookup y.1=some .cell
 names:∀ y∈scope.names,y.2 = .local->scope.names.lookup y.1=some .local
 free:∀ y∈scope.names,y.2 = .free->X.env.kindOf y.1=some .cell\/X.env.kindOf y.1=some .free
 len:N'.length=ix.length
 cap:∀ j i:Nat,ix[j]? = some (some i)->∃ x,N'[j]? = some x/\X.N[i]? = some x/\scope.names.lookup x=some .free
noncomputable def zkh (En:Scope) (oN N':List Str) (ix:List #[Os]) (scope:Scope):Bool :=
 (scope.kind == .function) && (scope.names.all fun y=>y.2 != .cell || scope.names.lookup y.1 == some .cell) && (scope.names.all fun y=>y.2 != .local || scope.names.lookup y.1 == some .local) &&
 (scope.names.all fun y=>y.2 != .free || (En.names.lookup y.1 == some .cell || En.names.lookup y.1 == some .free)) && (N'.length == ix.length) &&
 ((bA ix.length).all fun j=>match ix[j]? with
  | some (some i)=>(match N'[j]? with
   | some x=>oN[i]? == some x && scope.names.lookup x == some .free
   | none=>false)
  | _=>true)
theorem K7.of {N':List Str} {ix:List #[Os]} (En:Scope) (oN:List Str) (h1:X.env.scope=En) (h2:X.N=oN) (hb:zkh En oN N' ix scope=true):K7 X N' ix scope:=by
 unfold zkh at hb;simp only [ic,ie] at hb;obtain⟨⟨⟨⟨⟨a,b⟩,c⟩,d⟩,e⟩,f⟩:=hb;refine⟨?_,fun y hy hl=>?_,fun y hy hl=>?_,fun y hy hf=>?_,by simpa using e,fun j i hj=>?_⟩
 ·revert a
  cases scope.kind <;> first | (intro _; rfl) | (intro h; exact absurd h #[D])
 ·have:=b y hy;rw [hl] at this;simpa using this
 ·have:=c y hy;rw [hl] at this;simpa using this
 ·have:=d y hy;rw [hf] at this;have e1:X.env.kindOf y.1=En.names.lookup y.1:=by rw [<- h1]; rfl
  rw [e1];simpa using this
 ·have pT:j < ix.length:=(aP.mp hj).1;have:=f j (bU.mpr pT);rw [hj] at this;cases hN:N'[j]? with
  | none =>
   rw [hN] at this;simp at this
  | some x =>
   rw [hN] at this;refine⟨x,rfl,?_⟩;rw [h2];simpa using this
def zdT (ix:List #[Os]) (σ:St):St:=ix.map fun o=>match o with
 | none=>none
 | some i=>(σ[i]?).join
theorem Inv.OP {σ:St} {D:Addr} {o:HO} (I:Inv X pv σ H s) (hn:H D=none) (hs:X.s₀.heap.objs.size<=D) (hL:X.env.locals≠D)
  (hC:∀ x c,X.env.cells.lookup x=some c->c≠D) (hp:∀ p∈X.pn++pv,p.1≠D) (ok:zah X.prog X.w (pB H D o) s.heap D o):Inv X pv σ (pB H D o) s:=by
 have ne:∀ b u,H b=some u->b≠D:=fun b u e=>zu e hn
 refine⟨I.ok,I.os,I.bare,#[QJ],I.loc,I.cell,?_,fun x c e=>?_,fun p uw=>?_,fun b u e=>?_,I.len⟩
 ·have:b≠D:=bT (cA (aW e) hs);rw [zm this];exact I.base.free b u e n hx
 ·have:=I.base.ML b xs e;rw [zm (ne b _ this)];exact this
 ·have:=I.base.M5 b u xs e;rw [zm (ne b _ this)];exact this
 ·obtain⟨more,q⟩:=I.base.Na b ps e;exact⟨more,by rw [zm (ne b _ q)]; exact q⟩
 ·rw [zm hL];exact I.free
 ·rw [zm (hC x c e)];exact I.LI x c e
 ·obtain⟨a1,a2,a3⟩:=I.pin p uw;exact⟨a1,by rw [zm (hp p uw)]; exact a2,a3⟩
 ·by_cases hb:b=D
  ·subst hb;rw [zc] at e;cases e;exact ok
  ·rw [zm hb] at e;exact #[Ug].NI (fun c v _ q=>q) (fun c q=>by rw [zm (ne c _ q)]; exact q) fun c xs q=>by rw [zm (ne c _ q)]; exact q
noncomputable def cGo (g:TG) (ts:TT) (te:TE) (σ0:St) (J:It) (Q:VK) (H1:Hp):Prop :=
 ∃ W:Nat->Nat->List V->Hp->Prop,(∃ m,W 0 m [] H1)/\∀ i m ys H,W i m ys H ->
  (J.stop i H/\∀ D,H D=none->Q #[QE] (pB H D #[T3])) \/
  (J.go i H/\∃ N:List V->Hp->Prop,(∀ vF H',N vF H'->∃ m',m' < m/\W (i+1) m' vF H')/\∀ x H',J.yld i H x H'->g x σ0 H' fun σ2 H2=>ts σ2 H2 fun b H3 =>
   if b=true then te σ2 H3 fun y H4=>ys.length < sizeLine/\N (ys++[y]) H4 else N ys H3)
def zpR (ix:List #[Os]) (wi:TI) (g:TG) (ts:TT) (te:TE):TE:=fun σ H Q=>wi σ H fun J H1=>cGo g ts te #[WD] J Q H1
theorem ze5 {n:Nat} {g:TG} {σ0:St} {Q:VK} (Pv:Nat->List V->Hp->Prop) (h0:Pv 0 [] H) (BB:∀ i ys H,i < n->Pv i ys H->J.go i H) (qw:∀ ys H,Pv n ys H->J.stop n H)
  (hs:∀ i x ys H H',i < n->Pv i ys H->J.yld i H x H'->g x σ0 H' fun σ2 H2=>ts σ2 H2 fun b H3=>if b=true then te σ2 H3 fun y H4=>ys.length < sizeLine/\Pv (i+1) (ys++[y]) H4 else Pv (i+1) ys H3)
  (hd:∀ ys H D,Pv n ys H->H D=none->Q #[QE] (pB H D #[T3])):cGo g ts te σ0 J Q H:=by
 refine⟨fun i m ys H=>m=n - i/\i<=n/\Pv i ys H,#[Si],?_⟩;rintro i m ys H ⟨rfl,hi,p⟩;by_cases pT:i < n
 ·exact .inr #[Rq]
 ·have e:i=n:=by lia
  subst e;exact .inl ⟨qw ys H p,fun D hD=>hd ys H D p hD⟩
theorem zqC {n:Nat} {g:TG} {tb:TS} {D:Ends} {σ:St} (Pv:Nat->St->Hp->Prop) (h0:Pv 0 σ H) (BB:∀ i σ H,i < n->Pv i σ H->J.go i H) (qw:∀ σ H,Pv n σ H->J.stop n H)
  (hs:∀ i x σ H H',i < n->Pv i σ H->J.yld i H x H'->g x σ H' fun σ2 H2=>tb { D with nx:=Pv (i+1),ct:=Pv (i+1),bk:=D.nx } σ2 H2) (hd:∀ σ H,Pv n σ H->D.nx σ H) :
  ∃ W:Nat->Nat->St->Hp->Prop,(∃ m,W 0 m σ H)/\∀ i m σ H,W i m σ H ->
   (J.stop i H/\D.nx σ H)\/(J.go i H/\∃ N:St->Hp->Prop,(∀ σ' H',N σ' H'->∃ m',m' < m/\W (i+1) m' σ' H')/\∀ x H',J.yld i H x H'->g x σ H' fun σ2 H2=>tb { D with nx:=N,ct:=N,bk:=D.nx } σ2 H2):=by
 refine⟨fun i m σ H=>m=n - i/\i<=n/\Pv i σ H,#[Si],?_⟩;rintro i m σ H ⟨rfl,hi,p⟩;by_cases pT:i < n
 ·exact .inr ⟨BB i σ H pT p,Pv (i+1),fun σ' H' p'=>#[QI],fun x H' y=>hs i x σ H H' pT p y⟩
 ·have e:i=n:=by lia
  subst e;exact .inl ⟨qw σ H p,hd σ H p⟩
end L2
end
section
namespace L2
open PySem
variable {H:Hp} {J:It} {te:TE} {ts:TT}
abbrev Lp (J:It) (g:TG) (tb:TS) (D:Ends) (σ:St) (H:Hp):Prop:=∃ W:Nat->Nat->St->Hp->Prop,(∃ m,W 0 m σ H)/\∀ i m σ H,W i m σ H->(J.stop i H/\D.nx σ H)\/(J.go i H/\∃ N:St->Hp->Prop,(∀ σ' H',N σ' H'->∃ m',m' < m/\W (i+1) m' σ' H')/\∀ x H',J.yld i H x H'->g x σ H' fun σ2 H2=>tb { D with nx:=N,ct:=N,bk:=D.nx } σ2 H2)
abbrev Ends.l (D:Ends) (Pv:Nat->St->Hp->Prop) (i:Nat):Ends:={ D with nx:=Pv (i+1),ct:=Pv (i+1),bk:=D.nx }
section
variable {g:TG} {tb:TS} {D:Ends} {σ:St} {H:Hp} (Pv:Nat->St->Hp->Prop) {n:Nat} {K:aD} {a:Addr} {xs:List V}
theorem zhc (h0:Pv 0 σ H) (BB:∀ i σ H,i < n->Pv i σ H->J.go i H) (qw:∀ σ H,Pv n σ H->J.stop n H) (hs:let N:=D.l Pv; let T:=tb; ∀ i x σ H H',i < n->Pv i σ H->J.yld i H x H'->g x σ H' (T (N i))) (hd:∀ σ H,Pv n σ H->D.nx σ H):Lp J g tb D σ H:=zqC Pv h0 BB qw hs hd
theorem zbU (h0:Pv 0 σ H) (hl:∀ i σ H,i<=xs.length->Pv i σ H->pA K H a xs) (hs:let N:=D.l Pv; let T:=tb; ∀ i x σ H,xs[i]? = some x->Pv i σ H->g x σ H (T (N i))) (hd:∀ σ H,Pv xs.length σ H->D.nx σ H):Lp #[Wg] g tb D σ H:=zmq Pv h0 hl hs hd
theorem zmD (h0:Pv 0 σ H) (hl:∀ i σ H,i<=xs.length->Pv i σ H->pK K H a xs) (hs:let N:=D.l Pv; let T:=tb; ∀ i x σ H,xs[i]? = some x->Pv i σ H->g x σ H (T (N i))) (hd:∀ σ H,Pv xs.length σ H->D.nx σ H):Lp #[Wf] g tb D σ H:=zor Pv h0 hl hs hd
theorem zaQ {lo:Int} (h0:Pv 0 σ H) (hs:let N:=D.l Pv; let T:=tb; ∀ i σ H,i < n->Pv i σ H->g (.int (lo+i)) σ H (T (N i))) (hd:∀ σ H,Pv n σ H->D.nx σ H):Lp (Itr lo n) g tb D σ H:=zk9 Pv h0 hs hd
end
theorem zW {n:Nat} {g:TG} {σ0:St} {Q:VK} (Pv:Nat->List V->Hp->Prop) (h0:Pv 0 [] H) (BB:∀ i ys H,i < n->Pv i ys H->J.go i H) (qw:∀ ys H,Pv n ys H->J.stop n H)
  (hs:let S:=σ0; let T:=ts; let E:=te; ∀ i x ys H H',i < n->Pv i ys H->J.yld i H x H'->g x S H' fun σ2 H2=>T σ2 H2 fun b H3=>if b=true then E σ2 H3 fun y H4=>ys.length < sizeLine/\Pv (i+1) (ys++[y]) H4 else Pv (i+1) ys H3)
  (hd:∀ ys H D,Pv n ys H->H D=none->Q #[QE] (pB H D #[T3])):cGo g ts te σ0 J Q H:=ze5 Pv h0 BB qw hs hd
end L2
end
section
namespace L2
theorem pz {α β:Type} {a:β} {f:α->β} {B:α->Prop} {v:α} (h:a=f v) (hb:B v):∃ v,a=f v/\B v:=⟨v,h,hb⟩
theorem pF {α β γ δ:Type} {a:γ} {b:δ} {f:α->γ} {g:β->δ} {B:α->β->Prop} {v:α} {w:β} (h:a=f v) (h':b=g w) (hb:B v w):∃ v w,a=f v/\b=g w/\B v w:=⟨v,w,h,h',hb⟩
theorem ex3 {A0 A1 A2:Type} {P:A0->A1->A2->Prop} (x0:A0) (x1:A1) (x2:A2) (h:P x0 x1 x2):∃ x0 x1 x2,P x0 x1 x2:=⟨x0,x1,x2,h⟩
theorem ex4 {A0 A1 A2 A3:Type} {P:A0->A1->A2->A3->Prop} (x0:A0) (x1:A1) (x2:A2) (x3:A3) (h:P x0 x1 x2 x3):∃ x0 x1 x2 x3,P x0 x1 x2 x3:=⟨x0,x1,x2,x3,h⟩
theorem ex5 {A0 A1 A2 A3 A4:Type} {P:A0->A1->A2->A3->A4->Prop} (x0:A0) (x1:A1) (x2:A2) (x3:A3) (x4:A4) (h:P x0 x1 x2 x3 x4):∃ x0 x1 x2 x3 x4,P x0 x1 x2 x3 x4:=⟨x0,x1,x2,x3,x4,h⟩
theorem ex6 {A0 A1 A2 A3 A4 A5:Type} {P:A0->A1->A2->A3->A4->A5->Prop} (x0:A0) (x1:A1) (x2:A2) (x3:A3) (x4:A4) (x5:A5) (h:P x0 x1 x2 x3 x4 x5):∃ x0 x1 x2 x3 x4 x5,P x0 x1 x2 x3 x4 x5:=⟨x0,x1,x2,x3,x4,x5,h⟩
theorem ex7 {A0 A1 A2 A3 A4 A5 A6:Type} {P:A0->A1->A2->A3->A4->A5->A6->Prop} (x0:A0) (x1:A1) (x2:A2) (x3:A3) (x4:A4) (x5:A5) (x6:A6) (h:P x0 x1 x2 x3 x4 x5 x6):∃ x0 x1 x2 x3 x4 x5 x6,P x0 x1 x2 x3 x4 x5 x6:=⟨x0,x1,x2,x3,x4,x5,x6,h⟩
theorem ex8 {A0 A1 A2 A3 A4 A5 A6 A7:Type} {P:A0->A1->A2->A3->A4->A5->A6->A7->Prop} (x0:A0) (x1:A1) (x2:A2) (x3:A3) (x4:A4) (x5:A5) (x6:A6) (x7:A7) (h:P x0 x1 x2 x3 x4 x5 x6 x7):∃ x0 x1 x2 x3 x4 x5 x6 x7,P x0 x1 x2 x3 x4 x5 x6 x7:=⟨x0,x1,x2,x3,x4,x5,x6,x7,h⟩
theorem ex9 {A0 A1 A2 A3 A4 A5 A6 A7 A8:Type} {P:A0->A1->A2->A3->A4->A5->A6->A7->A8->Prop} (x0:A0) (x1:A1) (x2:A2) (x3:A3) (x4:A4) (x5:A5) (x6:A6) (x7:A7) (x8:A8) (h:P x0 x1 x2 x3 x4 x5 x6 x7 x8):∃ x0 x1 x2 x3 x4 x5 x6 x7 x8,P x0 x1 x2 x3 x4 x5 x6 x7 x8:=⟨x0,x1,x2,x3,x4,x5,x6,x7,x8,h⟩
theorem zrM {A0 A1 A2 A3 A4 A5 A6 A7 A8 A9 Fc Fd:Type} {P:A0->A1->A2->A3->A4->A5->A6->A7->A8->A9->Fc->Fd->Prop} (x0:A0) (x1:A1) (x2:A2) (x3:A3) (x4:A4) (x5:A5) (x6:A6) (x7:A7) (x8:A8) (x9:A9) (BC:Fc) (BD:Fd) (h:P x0 x1 x2 x3 x4 x5 x6 x7 x8 x9 BC BD):∃ x0 x1 x2 x3 x4 x5 x6 x7 x8 x9 BC BD,P x0 x1 x2 x3 x4 x5 x6 x7 x8 x9 BC BD:=⟨x0,x1,x2,x3,x4,x5,x6,x7,x8,x9,BC,BD,h⟩
theorem zrN {A0 A1 A2 A3 A4 A5 A6 A7 A8 A9 Fc Fd A12 A13:Type} {P:A0->A1->A2->A3->A4->A5->A6->A7->A8->A9->Fc->Fd->A12->A13->Prop} (x0:A0) (x1:A1) (x2:A2) (x3:A3) (x4:A4) (x5:A5) (x6:A6) (x7:A7) (x8:A8) (x9:A9) (BC:Fc) (BD:Fd) (GX:A12) (GY:A13) (h:P x0 x1 x2 x3 x4 x5 x6 x7 x8 x9 BC BD GX GY):∃ x0 x1 x2 x3 x4 x5 x6 x7 x8 x9 BC BD GX GY,P x0 x1 x2 x3 x4 x5 x6 x7 x8 x9 BC BD GX GY:=⟨x0,x1,x2,x3,x4,x5,x6,x7,x8,x9,BC,BD,GX,GY,h⟩
end L2
end
section
namespace L2
open PySem PySem.Spec PyProof.Rows
variable {A:Around} {H H' H2:Hp} {J:It} {K:aD} {P:Program} {R:Result->Shared->Prop} {X:Cx} {elt i1 t1 tg:Expr} {env:Env} {f1:List Expr} {fp:List Addr} {h:Heap} {it:Addr} {js:List Nat} {k t':Nat} {pC:List Value} {pos:Pos} {pv sS:List (Addr×Obj)} {s s':Shared} {scope:Scope} {te:TE} {wi:TI} {ys:List V}
abbrev TM:=List V->St->Hp->(List V->Hp->Prop)->Prop
abbrev zeT (pC:List Value) (nn:Nat):Obj:={ cls:=.type "list",data:=.seq pC.toArray nn }
structure AccAt (Y:Cx) (pv:List (Addr×Obj)) (H:Hp) (s:Shared) (D:Addr) (ys:List V) (pC:List Value) (nn:Nat):Prop where
 fp:zb8 Y pv H D
 here:s.heap.get? D=some (zeT pC nn)
 vals:zR ys pC
 len:ys.length<=sizeLine
def zhd (js:List Nat) (σ:St):Prop:=∀ j∈js,∀ v,σ[j]?≠some (some v)
def Kp (js:List Nat) (σ σ2:St):Prop:=σ2.length=σ.length/\∀ j,j∉js->σ2[j]? = σ[j]?
theorem Kp.refl {σ:St}:Kp js σ σ:=#[Ui]
theorem Kp.set {σ σ2:St} {i:Nat} {v:Option V} (hi:i∈js) (h:Kp js σ σ2):Kp js σ (σ2.set i v):=by
 refine⟨by rw [kZ]; exact h.1,fun j hj=>?_⟩;rw [gq (fun z=>hj (by rw [<- z]; exact hi))];exact h.2 j hj
def GS (js:List Nat) (g:TG):Prop:=∀ (σ σ1:St) (x:V) (H:Hp) (Q:St->Hp->Prop),Kp js σ σ1->g x σ1 H Q->g x σ1 H fun σ2 H2=>Kp js σ σ2/\Q σ2 H2
def GSs (js:List Nat) (g:TGs):Prop:=∀ (σ σ1:St) (xs:List V) (H:Hp) (Q:St->Hp->Prop),Kp js σ σ1->g xs σ1 H Q->g xs σ1 H fun σ2 H2=>Kp js σ σ2/\Q σ2 H2
theorem zdU {i:Nat} (hi:i∈js):GS js (zaI i):=fun σ σ1 x H Q hw h=>⟨hw.set hi,h⟩
theorem zdV:GSs js zjm:=fun σ σ1 xs H Q hw h=>⟨h.1,hw,h.2⟩
theorem zbm {i:Nat} {u:TGs} (hi:i∈js) (h2:GSs js u):GSs js (zcg (zaI i) u):=fun σ σ1 xs H Q hw h=>by
 obtain⟨v,r,e,h⟩:=h;exact⟨v,r,e,h2 σ _ r H Q (hw.set hi) h⟩
theorem zfv {n:Nat} {t:TGs} (h:GSs js t):GS js (zh1 K n t):=fun σ σ1 x H Q hw hg=>by
 obtain⟨a,xs,e,hq,hl,hg⟩:=hg;exact⟨a,xs,e,hq,hl,h σ σ1 xs H Q hw hg⟩
theorem Inv.OI {σ:St} (I:Inv X pv σ H s) (h:∀ p∈sS,p∈pv):Inv X sS σ H s :=
 I.Ni fun p hp=>I.pin p (bH _ (h p hp))
section
variable {Y:Cx} {pv:List (Addr×Obj)} {σ:St} {H:Hp} {s:Shared} {D:Addr} {ys:List V} {pC:List Value} {nn:Nat}
theorem AccAt.pin (a:AccAt Y pv H s D ys pC nn) (I:Inv Y pv σ H s):Inv Y (pv++[#[RJ]]) σ H s :=
 I.Ni fun p hp=>by
  rcases (bQ.mp hp) with hp | hp
  ·exact I.pin p (bH _ hp)
  ·obtain rfl:p=(D,zeT pC nn):=by simpa using hp
   obtain⟨a0,a1,a2,_⟩:=a.fp;exact⟨a.here,a0,a1,a2,fun v z=>by cases z⟩
theorem AccAt.back {σ':St} (a:AccAt Y pv H s D ys pC nn) (I:Inv Y sS σ' H' s') (hm:#[RJ]∈sS):AccAt Y pv H' s' D ys pC nn:=by
 have p:=I.pin #[RJ] (bH _ hm);exact⟨⟨p.2.1,a.fp.2⟩,p.1,a.vals,a.len⟩
end
noncomputable def PM (Y:Cx) (D:Addr) (js:List Nat) (mk:Sem Fin->Sem Fin) (tm:TM):Prop :=
 ∀ (last:Sem Fin) (pv:List (Addr×Obj)) (s:Shared) (σ:St) (H:Hp) (ys:List V) (pC:List Value) (nn:Nat) (Q:List V->Hp->Prop) (Φ:Fin->Shared->Prop),Inv Y pv σ H s->AccAt Y pv H s D ys pC nn->zhd js σ->tm ys σ H Q ->
  (∀ (s':Shared) (vF:List V) (its':List Value) (C6:Nat) (H':Hp),Inv Y pv σ H' s'->AccAt Y pv H' s' D vF its' C6->Q vF H'->wpAny #[Ru] Y.A last Φ #[Ry] s') ->
  wpAny #[Ru] Y.A (mk last) Φ #[Ry] s
def zgK (elt:Expr) (acc:Value) (env:Env) (last:Sem Fin):Sem Fin:=(eval elt env >>= fun x=>call (.builtin "list.append") [acc,x] >>= fun _=>pure ()) >>= fun _=>last
def zki (e iter:Expr) (d:Nat) (acc:Value) (env:Env) (last:Sem Fin):Sem Fin :=
 eval iter env >>= fun x=>standAt iter.pos >>= fun _=>foldedSetIterable iter env x >>= fun x=>holding [x] (pyIter x) >>= fun CW=>runOwn (.compStart e d CW acc env) env >>= fun _=>last
def zkj (te:TE):TM:=fun ys σ H Q=>te σ H fun y H4=>ys.length < sizeLine/\Q (ys++[y]) H4
noncomputable def cIn (g:TG) (ts:TT) (tm:TM) (σ:St) (J:It) (Q:List V->Hp->Prop) (ys:List V) (H1:Hp):Prop :=
 ∃ W:Nat->Nat->List V->Hp->Prop,(∃ m,W 0 m ys H1)/\∀ i m ys H,W i m ys H ->
  (J.stop i H/\Q ys H) \/
  (J.go i H/\∃ N:List V->Hp->Prop,(∀ vF H',N vF H'->∃ m',m' < m/\W (i+1) m' vF H')/\∀ x H',J.yld i H x H'->g x σ H' fun σ2 H2=>ts σ2 H2 fun b H3 =>
   if b=true then tm ys σ2 H3 N else N ys H3)
def zkk (wi:TI) (g:TG) (ts:TT) (tm:TM):TM:=fun ys σ H Q=>wi σ H fun J H1=>cIn g ts tm σ J Q ys H1
def zhe (ix:List #[Os]) (wi:TI) (g:TG) (ts:TT) (tm:TM):TE:=fun σ H Q=>wi σ H fun J H1=>cIn g ts tm #[WD] J (fun ys H'=>∀ D,H' D=none->Q #[QE] #[R1]) [] H1
theorem thx {α:Type} {m:Sem α} {P Q:α->Shared->Prop} {E:Value->Shared->Prop} (hx:X.xe=fun _ _=>False) (h:wpAny #[ss] X.A m P X.xe s) (k:∀ a s',P a s'->Q a s'):wpAny #[ss] X.A m Q E s :=
 dN h k fun _ _ z=>by rw [hx] at z; exact z.elim
theorem zjt {Y:Cx} {D:Addr} (hx:Y.xe=fun _ _=>False) (he:PE Y elt te):PM Y D [] (zgK elt #[QE] Y.env) (zkj te):=by
 intro last pv s σ H ys pC nn Q Φ I a no h k;unfold zgK;refine aB (aB (thx hx (he (pv++[#[RJ]]) s σ H _ (a.pin I) h) fun yv s1 ⟨y,H1,I1,r1,hz,q1⟩=>aB ?_));have a1:=a.back I1 (bH _ bG);have J1:Inv Y pv σ H1 s1:=I1.OI fun p hp=>bV _ hp
 have sE:=a1.vals.length;refine gu nA ⟨_,a1.here,rfl⟩ mS (lZ _ _) (nP D pC.toArray nn yv (by rw [aO]; lia)) ⟨a1.here,?_⟩;refine aI ?_;have q:=og a1.here (·.push yv);have k10:∀ b o,b≠D->s1.heap.get? b=some o->(s1.heap.update D (fA (·.push yv))).get? b=some o:=fun b o hb e=>(dZ s1.heap (fA (·.push yv)) (eG hb)).trans e
 obtain⟨b0,b1,b2,b3,b4,b5⟩:=a1.fp;have I11:Inv Y pv σ H1 { s1 with heap:=s1.heap.update D (fA (·.push yv)) }:=J1.turned (t':=s1.toks) k10 b0 b1 b3 b4 b5;have e1:pC.toArray.push yv=(pC++[yv]).toArray:=by simp
 rw [e1] at q;refine k _ (ys++[y]) (pC++[yv]) _ H1 I11 ⟨a1.fp,q,a1.vals.append (.cons r1 .nil),?_⟩ q1;rw [aL,gX];lia
section
variable {Y:Cx} {D:Addr} {js js':List Nat} {elt:Expr} {gens:List Comprehension} {scope:Scope} {pos:Pos} {d:Nat} {tg:Expr} {ifs:List Expr} {p:Pos} {mk:Sem Fin->Sem Fin} {g:TG} {ts:TT} {tm:TM}
def zcz (tg:Expr) (ifs:List Expr) (p:Pos) (mk:Sem Fin->Sem Fin) (c:Code) (it:Value) (env:Env):Sem Fin :=
 standAt p >>= fun _=>pyNext it >>= fun r=>match r with
  | none=>pure (.done .next)
  | some v=>letOwnedTupleGo tg it v >>= fun _=>assign tg env v >>= fun _=>zjs ifs env >>= fun ok=>if ok=true then mk (again c) else again c
theorem zkl (hc:Y.calm=true) (hx:Y.xe=fun _ _=>False) (BE:GS js g) (sI:∀ j∈js,j∉js') (hg:PG Y tg g) (ht:zdS Y ifs ts) (hm:PM Y D js' mk tm)
  (rY:∀ it,compTurn #[xL] d it #[QE] Y.env=zcz tg ifs p mk #[VF] it Y.env)
  {σ:St} {s2:Shared} {tn:Nat->Heap->Prop} {Q:List V->Hp->Prop} {nn:Nat}
  (I2:Inv Y pv σ H2 s2) (a2:AccAt Y pv H2 s2 D ys pC nn) (no:zhd (js++js') σ) (T:Turn Y.prog Y.w Y.K tg J fp it tn) (qi:tn 0 s2.heap) (f2:∀ b∈fp,zb8 Y pv H2 b) (fD:∀ b∈fp,b≠D) (q:cIn g ts tm σ J Q ys H2)
  (hR:∀ (s':Shared) (vF:List V) (its':List Value) (C6:Nat) (H':Hp),Inv Y pv σ H' s'->AccAt Y pv H' s' D vF its' C6->Q vF H'->R (.ok .next) s') :
  codeAny #[Ru] Y.A #[Vf] R s2:=by
 obtain⟨W,⟨m0,w0⟩,turn⟩:=q;have Eo:∀ {H':Hp} {pC:List Value} {nn:Nat},(∀ b∈fp,H' b=none)->∀ b∈fp,zb8 Y (pv++[#[RJ]]) H' b:=fun {H' pC nn} hn b hb=>by
  obtain⟨_,a1,a2,a3,a4,a5⟩:=f2 b hb;refine⟨hn b hb,a1,a2,a3,a4,fun p hp=>?_⟩;rcases (bQ.mp hp) with hp | hp
  ·exact a5 p (bV _ hp)
  ·rcases (bQ.mp hp) with hp | hp
   ·exact a5 p (bH _ hp)
   ·obtain rfl:p=(D,zeT pC nn):=by simpa using hp
    exact (fD b hb).symm
 refine codeAny_loop rfl (fun n s'=>∃ i ys H' pC nn,Inv Y pv σ H' s'/\tn i s'.heap/\(∀ b∈fp,H' b=none)/\AccAt Y pv H' s' D ys pC nn/\W i n ys H') ?_ m0
  ⟨0,ys,H2,pC,nn,I2,qi,fun b hb=>(f2 b hb).1,a2,w0⟩
 rintro n s5 ⟨i,ys,H5,pC,nn,I5,Em,fr5,a5,w5⟩;show wpAny _ Y.A ((compTurn #[xL] d #[QT] #[QE] Y.env).onRaise (fun x=>do noteFrame x Y.env; theTreesLotGoes x)) _ _ s5;refine wpAny_noted ?_;rw [rY];unfold zcz;have I5p:=a5.pin I5
 (refine aB (ik (aB ?_)))
 rcases turn i n ys H5 w5 with ⟨stop,qn⟩ | ⟨go,N,hN,step⟩
 ·refine dN (T.done Y rfl rfl rfl hc i _ s5 _ H5 #[Ry] I5p (Eo fr5) Em stop) (fun r s6 ⟨hr,I6⟩=>?_) fun _ _ z=>z.elim
  subst hr;exact aI (hR s6 ys pC nn H5 (I6.OI fun p hp=>bV _ hp) (a5.back I6 (bH _ bG)) qn)
 ·refine dN (T.item Y rfl rfl rfl hc i _ s5 _ H5 #[Ry] I5p (Eo fr5) Em go) (fun r s6 ⟨u,hr,h6⟩=>?_) fun _ _ z=>z.elim
  subst hr;refine aB (dN h6 (fun _ s7 ⟨x,H7,I7,r7,y7,Iu,fr7⟩=>?_) fun _ _ z=>z.elim);have I7':=I7.pinned (Eo fr7) (T.obj _ _ Iu);refine aB (thx hx (hg _ s7 _ H7 x u _ I7' r7 (BE σ σ x H7 _ Kp.refl (step x H7 y7))) fun _ s8 ⟨σ8,H8,I8,kp,q8⟩=>?_);refine aB (thx hx (ht _ s8 σ8 H8 _ I8 q8) fun ok s9 ⟨H9,I9,q9⟩=>?_);have mD:#[RJ]∈(pv++[#[RJ]])++zcT fp s7.heap:=bV _ (bH _ bG);have a9:=a5.back I9 mD;have K9:Inv Y #[UN] σ8 H9 s9:=I9.OI fun p hp=>(bQ.mp hp).elim (fun z=>bV _ (bV _ z)) fun z=>bH _ z
  have wk:∀ (j:Nat) v,σ[j]? = some (some v)->σ8[j]? = some (some v):=fun j v e=>by
   have hj:j∉js:=fun z=>no j (bV _ z) v e
   rw [kp.2 j hj];exact e
  have back:∀ {H':Hp} {s':Shared},Inv Y #[UN] σ8 H' s'->Inv Y pv σ H' s'/\tn (i+1) s'.heap/\∀ b∈fp,H' b=none:=fun {H' s'} I'=>by
   refine⟨(I'.OI fun p hp=>bV _ hp).weak kp.1.symm wk,T.keep _ _ _ Iu fun b hb o e=>(I'.pin (b,o) #[R3]).1,fun b hb=>?_⟩;obtain⟨o,e,d⟩:=T.obj _ _ Iu b hb;exact (I'.pin (b,o) #[R3]).2.1
  cases ok with
  | false =>
   rw [if_neg bK] at q9 |-;obtain⟨m',Fe,w9⟩:=hN _ _ q9;obtain⟨b1,b2,b3⟩:=back K9;exact aI ⟨rfl,m',Fe,i+1,ys,H9,pC,nn,b1,b2,b3,a9,w9⟩
  | true =>
   rw [if_pos rfl] at q9 |-;have a9':AccAt Y #[UN] H9 s9 D ys pC nn:=by
    obtain⟨b0,b1,b2,b3,b4,b5⟩:=a9.fp;refine⟨⟨b0,b1,b2,b3,b4,fun p hp=>?_⟩,a9.here,a9.vals,a9.len⟩;rcases (bQ.mp hp) with hp | hp
    ·exact b5 p (bV _ hp)
    ·rcases (bQ.mp hp) with hp | hp
     ·exact b5 p (bH _ hp)
     ·exact fD _ (zgA hp).1
   have no':zhd js' σ8:=fun j hj v e=>by
    have sJ:j∉js:=fun z=>sI j z hj
    rw [kp.2 j sJ] at e;exact no j (bH _ hj) v e
   refine dN (hm (again _) _ s9 σ8 H9 ys pC nn N (fun fin s'=>match fin with | .done f=>R (.ok f) s' | .again c'=>c'=_/\∃ m,m < n/\_) K9 a9' no' q9 fun s' vF its' C6 H' I' a' n'=>?_) (fun _ _ z=>z) fun _ _ z=>z.elim
   obtain⟨m',Fe,w'⟩:=hN _ _ n';obtain⟨b1,b2,b3⟩:=back I';obtain⟨c0,c1,c2,c3,c4,c5⟩:=a'.fp;refine aI ⟨rfl,m',Fe,i+1,vF,H',its',C6,b1,b2,b3,⟨⟨c0,c1,c2,c3,c4,fun p hp=>?_⟩,a'.here,a'.vals,a'.len⟩,w'⟩;rcases (bQ.mp hp) with hp | hp
   ·exact c5 p (bV _ hp)
   ·exact c5 p (bH _ (bV _ hp))
theorem zia {prog:Program} {w:World} {iter:Expr} {it acc:Value} (hd:gens[d]? = some ⟨tg,iter,ifs,0⟩)
  (h0:codeAny #[ul] A (.compLoop #[xL] d it acc env) R s)
  (h:wpAny #[ul] A (pyIter it) (fun Iv s'=>codeAny #[ul] A (.compLoop #[xL] d Iv acc env) R s') #[Ry] s) :
  codeAny #[ul] A (.compStart #[xL] d it acc env) R s:=by
 refine codeAny_of_tree ?_;show wpAny _ _ ((compStart #[xL] d it acc env).onRaise (fun x=>do noteFrame x env; standAt theWindowsPlace)) _ _ s;refine wpAny_notedAt ?_;unfold compStart;have e1:(clausesOf #[xL])[d]? = some ⟨tg,iter,ifs,0⟩:=hd;rw [e1]
 (show wpAny _ _ (ask >>= _) _ _ s)
 (refine aB (wpAny_askSetting (wpAny_ite ?_)))
 split
 ·first
   | (exact aB (aI (aI ⟨rfl,h0⟩)))
   | (exact aI ⟨rfl,h0⟩)
 ·first
   | exact aB (dO (aB (ik (aB (dN h #[UD] fun _ _ x=>x.elim)))))
   | (refine aB (dO ?_); show wpAny _ _ (standAt iter.pos >>= _) _ _ s; exact aB (ik (aB (dN h #[UD] fun _ _ x=>x.elim))))
theorem zqD {iter:Expr} (hc:Y.calm=true) (hx:Y.xe=fun _ _=>False) (BE:GS js g) (sI:∀ j∈js,j∉js') (hi:PI Y tg iter wi) (hg:PG Y tg g) (ht:zdS Y ifs ts) (hm:PM Y D js' mk tm) (hd:gens[d]? = some ⟨tg,iter,ifs,0⟩)
  (rY:∀ it,compTurn #[xL] d it #[QE] Y.env=zcz tg ifs p mk #[VF] it Y.env)
  (hs:∀ x,foldedSetIterable iter Y.env x=pure x:=by intro _; rfl) :
  PM Y D (js++js') (zki #[xL] iter d #[QE] Y.env) (zkk wi g ts tm):=by
 intro last pv s σ H ys pC nn Q Φ I a no h k;unfold zki;refine aB (thx hx (hi (pv++[#[RJ]]) s σ H _ (a.pin I) h) fun v s1 h1=>aB (ik (aB ?_)));rw [hs v];refine aI (aB (cX (thx hx h1 fun CW s2 h2=>?_)));obtain⟨it,fp,tn,J,H2,e,I2,T,qi,f2,q⟩:=h2;subst e;have a2:=a.back I2 (bH _ bG);have J2:Inv Y pv σ H2 s2:=I2.OI fun p hp=>bV _ hp
 have Iw:∀ b∈fp,zb8 Y pv H2 b:=fun b hb=>by
  obtain⟨c0,c1,c2,c3,c4,c5⟩:=f2 b hb;refine⟨c0,c1,c2,c3,c4,fun p hp=>?_⟩;rcases (bQ.mp hp) with hp | hp
  ·exact c5 p (bV _ hp)
  ·exact c5 p (bH _ (bV _ hp))
 have fD:∀ b∈fp,b≠D:=fun b hb=>((f2 b hb).2.2.2.2.2 #[RJ] (bH _ (bH _ bG))).symm
 have loop:codeAny #[Ru] Y.A #[Vf] (fun r s'=>match r with | .ok f=>wpAny #[Ru] Y.A last Φ #[Ry] s' | .error e=>cameBackBy #[Ru] Y.A Y.env #[Ry] e s') s2 :=
  zkl hc hx BE sI hg ht hm rY J2 a2 no T qi Iw fD q fun s' vF its' C6 H' I' a' q'=>k s' vF its' C6 H' I' a' q'
 exact aB (wpAny_runOwn (zia hd loop (T.self _ 0 _ _ _ qi loop)))
end
section
variable {X:Cx} {elt tg iter:Expr} {ifs:List Expr} {gs:List Comprehension} {scope:Scope} {pos:Pos} {N':List Str} {ix:List #[Os]} {js js':List Nat} {g:TG} {ts:TT} {tm:TM} {mk:Addr->Env->Sem Fin->Sem Fin}
theorem zeH {σ:St} {s2:Shared} {tn:Nat->Heap->Prop} {Q:VK} {E:Value->Shared->Prop} {RR:Value->Addr->Result->Shared->Prop}
  (SC:K7 X N' ix scope) (hc:X.calm=true) (BE:GS js g) (sI:∀ j∈js,j∉js') (wQ:∀ j∈js++js',ix[j]? = some none)
  (hg:∀ s₃ H₃ ex pv,PG #[re] tg g) (ht:∀ s₃ H₃ ex pv,zdS #[re] ifs ts) (hm:∀ s₃ H₃ ex pv D,PM #[re] D js' (mk D #[re].env) tm)
  (rY:∀ it D env,compTurn #[wf] 0 it #[QE] env=zcz tg ifs iter.pos (mk D env) #[Sn] it env)
  (I2:Inv X pv σ H2 s2) (T:Turn X.prog X.w X.K tg J fp it tn) (qi:tn 0 s2.heap) (f2:∀ b∈fp,zb8 X pv H2 b) (q:cIn g ts tm #[WD] J (fun ys H'=>∀ D,H' D=none->Q #[QE] #[R1]) [] H2)
  (hRR:∀ (D C:Addr) (s':Shared) (ys:List V) (H':Hp) (m:Str->Option Value),Inv X pv σ #[R1] s'->zb8 X pv #[R1] C->s'.heap.Ns C m->Q #[QE] #[R1]->RR #[QE] C (.ok .next) s') :
  wpAny #[ss] X.A (newList []) (fun acc s₃=>wpAny #[ss] X.A (newFunctionEnv scope X.env.globals (zas X.env.cells scope.names []) [] X.env.qual none .none (some X.env)) (fun Ff s₄ =>
   codeAny #[ss] X.A (.compStart #[wf] 0 #[QT] acc { Ff with scope:=relabel scope X.env }) (RR acc Ff.locals) s₄) E s₃) E s2:=by
 have BF:∀ y∈scope.names,y.2 = .free->∃ c,X.env.cells.lookup y.1=some c:=fun y hy hf=>I2.ok.has y.1 #[V2]
 have uM:∀ x c,(zas X.env.cells scope.names []).lookup x=some c->X.env.cells.lookup x=some c:=zb9 scope.names [] BF (fun x c e=>by simp at e);refine ed (zle ?_);have I3:Inv X pv σ H2 { s2 with heap:=s2.heap.push { cls:=.type "list",dict:=none,data:=.seq ([]:List Value).toArray } }:=I2.kept (t':=s2.toks) fun b o e=>aH _ e
 have Bn:(s2.heap.push { cls:=.type "list",dict:=none,data:=.seq ([]:List Value).toArray }).get? s2.heap.objs.size=some { cls:=.type "list",dict:=none,data:=.seq ([]:List Value).toArray }:=aY _ rfl;have Fg:tn 0 (s2.heap.push { cls:=.type "list",dict:=none,data:=.seq ([]:List Value).toArray }):=T.keep _ _ _ qi fun b hb o e=>aH _ e
 have Fh:(s2.heap.push { cls:=.type "list",dict:=none,data:=.seq ([]:List Value).toArray }).objs.size=s2.heap.objs.size+1:=cZ _ _;generalize hh3:s2.heap.push { cls:=.type "list",dict:=none,data:=.seq ([]:List Value).toArray }=h3 at *;have Iy:=T.obj _ _ qi;have Cq:∀ b∈fp,b < s2.heap.objs.size:=fun b hb=>by obtain⟨o,e,_⟩:=Iy b hb; exact aW e
 have stk:∀ b∈frs X.stack,b=X.env.locals\/b∈X.fs:=fun b hb=>aR.mp (I2.Ow b hb)
 have Fi:zb8 X pv H2 s2.heap.objs.size:=I2.Ny (aG _) I2.fresh;have yb:∀ b∈s2.heap.objs.size :: fp,zb8 X pv H2 b:=fun b hb=>by
  rcases (aR.mp hb) with e | hb
  ·rw [e]; exact Fi
  ·exact f2 b hb
 have C7:∀ b∈s2.heap.objs.size :: fp,b < h3.objs.size:=fun b hb=>by
  rw [Fh];rcases (aR.mp hb) with e | hb; · rw [e]; exact oj _
  ·exact gn (Cq b hb)
 have Cr:∀ b∈s2.heap.objs.size :: fp,b∉frs X.stack:=fun b hb z=>by
  obtain⟨_,a1,a2,_⟩:=yb b hb;rcases stk b z with e | e
  ·exact a1 e
  ·exact a2 e
 have hns₁:(pushCells (h3.push { cls:=.type "dict",data:=.dict #[] }) scope.names).Ns h3.objs.size (fun _=>none):=(Heap.Ns.new h3 (.type "dict")).keeps (pushCells_keeps _ _);have old:∀ b o,h3.get? b=some o->(pushCells (h3.push { cls:=.type "dict",data:=.dict #[] }) scope.names).get? b=some o:=fun b o e=>pushCells_keeps _ _ b o (aH _ e)
 have Iz:∀ x c,X.env.cells.lookup x=some c->c < h3.objs.size:=fun x c e=>by
  obtain⟨v,q⟩:=I3.cell x c e;exact q.lt
 have co:CO (pushCells (h3.push { cls:=.type "dict",data:=.dict #[] }) scope.names) #[Q5] (zas X.env.cells scope.names []) (cellsFrom #[Q5] scope.names (zas X.env.cells scope.names [])):=by
  have:=zmC (lo:=h3.objs.size+1) (old:=zas X.env.cells scope.names []) scope.names (h3.push { cls:=.type "dict",data:=.dict #[] }) (zas X.env.cells scope.names [])
   ⟨fun x c e=>.inr ⟨e,gn (Iz x c (uM x c e))⟩,fun x y c e1 e2=>I2.ok.inj x y c (uM x c e1) (uM y c e2)⟩ (by rw [cZ]; exact aG _)
  rw [cZ] at this;exact this
 generalize pushCells (h3.push { cls:=.type "dict",data:=.dict #[] }) scope.names=h₁ at hns₁ old co |-;have IA:∀ {x c},(cellsFrom #[Q5] scope.names (zas X.env.cells scope.names [])).lookup x=some c->(h₁.IsCell c none/\h3.objs.size+1<=c)\/X.env.cells.lookup x=some c:=fun {x c} e=>(co.each x c e).elim .inl fun z=>.inr (uM x c z.1)
 have cfr:∀ x,scope.names.lookup x=some .free->(cellsFrom #[Q5] scope.names (zas X.env.cells scope.names [])).lookup x=(zas X.env.cells scope.names []).lookup x:=fun x hx=>zha _ _ _ _ fun z=>by
  have:=SC.cells _ z rfl;rw [hx] at this;cases this
 let s3:Shared:={ s2 with heap:=h3 }
 let Y:Cx:=zV X N' scope s3 H2 (s2.heap.objs.size :: fp) pv
 have Ac:Inv X pv σ H2 s3:=I3;have okY:Y.Ok:=by
  refine⟨I2.ok.mod,SC.kind,I2.ok.glob,I2.ok.blt,aG _,co.inj,fun x hx=>?_,fun x c z e=>?_,I2.ok.hd,I2.ok.frames,.inl rfl,fun b hb=>?_,fun b o e=>Ac.bs b o e,?_,fun b o e hb=>?_,Cr,Ac.stack,Ac.MO⟩
  ·have xH:=zdR (env:=X.env) (names:=scope.names) (x:=x) hx;rcases xH with xH | xH
   ·obtain⟨c,e⟩:=zcy (cs:=X.env.cells) scope.names [] x (.inr (lookup_mem xH));exact⟨c,(cfr x xH).trans e⟩
   ·obtain⟨c,e,_⟩:=zhb scope.names #[Q5] (zas X.env.cells scope.names []) x (lookup_mem xH);exact⟨c,e⟩
  ·obtain⟨c',e',l'⟩:=zhb scope.names #[Q5] (zas X.env.cells scope.names []) x (lookup_mem (by have z':(scope.names.lookup x == some fh)=true:=z; simpa using z'));have e2:(cellsFrom #[Q5] scope.names (zas X.env.cells scope.names [])).lookup x=some c:=e;rw [e'] at e2;cases e2;exact kt l'
  ·refine⟨bT (C7 b hb),fun x c e=>(IA e).elim (fun z y=>?_) fun z=>(yb b hb).2.2.2.2.1 x c z⟩;subst y;exact dI _ (cA (C7 _ hb) (kt z.2))
  ·exact bR I2.ok.bsz Ac.sz
  ·obtain⟨_,_,_,a3,_⟩:=yb b hb;rcases a3 with z | z
   ·exact I2.ok.O0 b o e z
   ·have:=(I2.ok.bs b o e).1;exact absurd (cA (aW this) z) (dI _)
 have IB:Inv Y [] #[WD] H2 { s3 with heap:=h₁ }:=by
  refine⟨okY,rfl,I2.bare,Un.kept old,⟨_,hns₁,fun j x v e1 e2 e3=>?_⟩,fun x c e=>?_,Ac.fresh,fun x c e=>(IA e).elim (fun z=>Ac.hok.fresh (kt z.2)) fun z=>I2.LI x c z,fun p hp=>?_,Ac.hok.kept old,?_⟩
  ·unfold zdT at e2;rw [aF] at e2;cases hj:ix[j]? with
   | none=>rw [hj] at e2; simp at e2
   | some oi =>
    rw [hj] at e2;cases oi with
    | none=>simp at e2
    | some i =>
     obtain⟨y,h1,h2,GZ⟩:=SC.cap j i hj;have hxy:y=x:=by
      have e1':N'[j]? = some x:=e1;rw [h1] at e1';exact bJ e1'
     subst hxy;have Fj:(σ[i]?).join=some v:=by simpa using e2
     have IC:σ[i]? = some (some v):=by
      cases hs:σ[i]? with
      | none=>rw [hs] at Fj; simp at Fj
      | some w=>rw [hs] at Fj; simp at Fj; rw [Fj]
     obtain⟨m,hn,hl⟩:=Ac.loc;have hk:=SC.free (y,.free) (lookup_mem GZ) rfl;have ID:Vis X.env.scope y:=hk.elim (fun z=>.inr (.inl z)) fun z=>.inr (.inr z)
     obtain⟨u,r,l⟩:=hl i y v h2 IC ID;refine⟨u,r,.inr ⟨zbN GZ,?_⟩⟩;obtain⟨c,qz⟩:=zcy (cs:=X.env.cells) scope.names [] y (.inr (lookup_mem GZ));refine⟨c,(cfr y GZ).trans qz,?_⟩;rcases l with ⟨xZ,_⟩ | ⟨_,c',pL,sU⟩
     ·rcases hk with hk | hk
      ·have vM:X.env.kindOf y=some .cell:=hk;rw [vM] at xZ; cases xZ
      ·have vM:X.env.kindOf y=some .free:=hk;rw [vM] at xZ; cases xZ
     ·have:=uM y c qz;rw [pL] at this;cases this;obtain⟨o,ho,hd⟩:=sU;exact⟨o,old _ _ ho,hd⟩
  ·rcases IA e with z | z
   ·exact⟨_,z.1⟩
   ·obtain⟨v,o,ho,hd⟩:=Ac.cell x c z;exact⟨v,o,old _ _ ho,hd⟩
  ·have uw:p∈X.pn++pv:=by
    have:p∈(X.pn++pv)++([]:List (Addr×Obj)):=hp;simpa using this
   obtain⟨a1,a2,a3,a4,a5⟩:=Ac.pin p uw;exact⟨old _ _ a1,a2,bT (aW a1),fun z=>(stk _ z).elim a3 a4,a5⟩
  ·unfold zdT;rw [aA];exact SC.len.symm
 have Eo:∀ {H':Hp},(∀ b∈s2.heap.objs.size :: fp,H' b=none)->∀ b∈s2.heap.objs.size :: fp,zb8 Y [] H' b:=fun {H'} hn b hb=>by
  obtain⟨_,a1,a2,a3,a4,a5⟩:=yb b hb;refine⟨hn b hb,bT (C7 b hb),Cr b hb,.inl hb,(okY.exf b hb).2,fun p hp=>?_⟩;have:p∈(X.pn++pv)++([]:List (Addr×Obj)):=hp;exact a5 p (by simpa using this)
 have nn2:∀ b∈s2.heap.objs.size :: fp,H2 b=none:=fun b hb=>(yb b hb).1
 have CZ:zhd (js++js') #[WD]:=fun j hj v e=>by
  unfold zdT at e;rw [aF,wQ j hj] at e;simp at e
 have loop:∀ s₅:Shared,s₅ = { s2 with heap:=h₁ } ->
   codeAny #[ss] X.A (.compLoop #[wf] 0 #[QT] (.ref s2.heap.objs.size) (compEnvC scope (cellsFrom #[Q5] scope.names (zas X.env.cells scope.names [])) h3.objs.size X.env)) (RR (.ref s2.heap.objs.size) h3.objs.size) s₅:=by
  rintro s₅ rfl;refine zkl (Y:=Y) (pv:=[]) (σ:=zdT ix σ) (pC:=[]) (nn:=0) hc rfl BE sI (hg s3 H2 _ pv) (ht s3 H2 _ pv) (hm s3 H2 _ pv s2.heap.objs.size) (fun it=>rY it _ _) IB ⟨Eo nn2 _ bG,old _ _ Bn,.nil,cB _⟩ CZ T (T.keep _ _ _ Fg fun b hb o e=>old b o e)
   (fun b hb=>Eo nn2 b (aV _ hb)) (fun b hb=>bT (Cq b hb)) q fun s6 ys pC nn H5 I6 a6 qn=>?_
  have dn5:H5 s2.heap.objs.size=none:=a6.fp.1;have I7:Inv X pv σ H5 s6:=by
   refine Ac.O6 (s':=s6) (ch:=s2.heap.objs.size :: fp) I6.os I6.base I6.hok I6.bare fun b hb=>?_
   obtain⟨_,a1,a2,a3,a4,a5⟩:=yb b hb;exact⟨a3,a1,a4,a5⟩
  have I8:Inv X pv σ (pB H5 s2.heap.objs.size #[T3]) s6:=by
   obtain⟨_,a1,a2,a3,a4,a5⟩:=Fi;exact I7.OP dn5 I2.sz (eG a1) a4 a5 ⟨a6.len,pC,nn,a6.vals,a6.here⟩
  obtain⟨mm,hmm,_⟩:=I6.loc;have dne:h3.objs.size≠s2.heap.objs.size:=by rw [Fh]; exact jl _
  refine hRR _ _ s6 ys H5 mm I8 (Ac.Ny (H':=pB H5 s2.heap.objs.size #[T3]) (aG _) ?_) hmm (qn _ dn5);show pB H5 s2.heap.objs.size #[T3] h3.objs.size=none;rw [zm dne];exact I6.free
 exact zia rfl (loop _ rfl) (T.self _ 0 _ _ _ (T.keep _ _ _ Fg fun b hb o e=>old b o e) (loop _ rfl))
theorem zib (SC:K7 X N' ix scope) (hc:X.calm=true) (BE:GS js g) (sI:∀ j∈js,j∉js') (wQ:∀ j∈js++js',ix[j]? = some none) (hi:PI X tg iter wi)
  (hg:∀ s₃ H₃ ex pv,PG #[re] tg g) (ht:∀ s₃ H₃ ex pv,zdS #[re] ifs ts) (hm:∀ s₃ H₃ ex pv D,PM #[re] D js' (mk D #[re].env) tm)
  (rY:∀ it D env,compTurn #[wf] 0 it #[QE] env=zcz tg ifs iter.pos (mk D env) #[Sn] it env)
  (hs:∀ x,foldedSetIterable iter X.env x=pure x:=by intro _; rfl):PE X #[wf] (zhe ix wi g ts tm):=by
 intro pv s σ H Q I h;rw [eval_ListComp];have BF:∀ y∈scope.names,y.2 = .free->∃ c,X.env.cells.lookup y.1=some c:=fun y hy hf=>I.ok.has y.1 #[V2]
 refine kK (use:=none) rfl hs (zds BF) SC.kind SC.names (thn #[Um] fun v s1 h1=>thn h1 fun CW s2 h2=>?_);obtain⟨it,fp,tn,J,H2,e,I2,T,qi,f2,q⟩:=h2;subst e;refine zeH (RR:=fun acc C=>compPost #[ss] X.A X.xe none #[Qd] acc C) SC hc BE sI wQ hg ht hm rY I2 T qi f2 q ?_;intro D C s' ys H' m I' IE hm q';refine⟨m,hm,fun Ad qN=>⟨.ref D,_,?_,rfl,q'⟩⟩;obtain⟨f0,f1,Iw,f3,f4,f5⟩:=IE;exact I'.turned (t':=s'.toks) (fun b o hb e=>qN.extBut b o hb e) f0 f1 f3 f4 f5
theorem zeI {i:Nat} {x:Str} {pos' rZ:Pos} (hN:X.N.Nodup) (BG:X.N[i]? = some x) (hx:Loc X.env.scope x) (SC:K7 X N' ix scope) (hc:X.calm=true) (BE:GS js g) (sI:∀ j∈js,j∉js') (wQ:∀ j∈js++js',ix[j]? = some none) (hi:PI X tg iter wi)
  (hg:∀ s₃ H₃ ex pv,PG #[re] tg g) (ht:∀ s₃ H₃ ex pv,zdS #[re] ifs ts) (hm:∀ s₃ H₃ ex pv D,PM #[re] D js' (mk D #[re].env) tm)
  (rY:∀ it D env,compTurn #[wf] 0 it #[QE] env=zcz tg ifs iter.pos (mk D env) #[Sn] it env)
  (Fk:swapsWith #[wf] #[VS] rZ.line X.env=pure true:=by rfl)
  (hs:∀ x,foldedSetIterable iter X.env x=pure x:=by intro _; rfl) (hf:X.fn x=true\/X.env.scope.names.lookup x=some .local:=by first | exact .inl rfl | exact .inr rfl | assumption) :
  PS X (.Assign [.Name x pos'] #[wf] rZ) (zgh (zhe ix wi g ts tm) (zaI i)):=by
 intro pv s σ H D I h;have BF:∀ y∈scope.names,y.2 = .free->∃ c,X.env.cells.lookup y.1=some c:=fun y hy hf=>I.ok.has y.1 #[V2]
 rw [exec_Assign_Name_used _ _ _ _ Fk]; refine aB (ik (aB ?_));show wpAny _ X.A (do let _ <- comprehension #[wf] scope X.env _ (newList []) false (eval iter X.env) (some #[UO])) _ _ s;refine aB (dN (kK (use:=some #[UO]) (Q:=fun _ s'=>SP X pv D .next s') rfl hs (zds BF) SC.kind SC.names
  (thn #[Um] fun v s1 h1=>thn h1 fun CW s2 h2=>?_)) (fun _ s' hq=>aI (aI hq)) fun _ _ e=>e)
 obtain⟨it,fp,tn,J,H2,e,I2,T,qi,f2,q⟩:=h2;subst e;refine zeH (Q:=fun x H1=>zaI i x σ H1 D.nx) (RR:=fun acc C=>compPost #[ss] X.A X.xe (some #[UO]) (fun _ s'=>SP X pv D .next s') acc C) SC hc BE sI wQ hg ht hm rY I2 T qi f2 q ?_;intro Da C s' ys H' m I' IE hm q';show wpAny _ X.A (assign #[Q3] X.env (.ref Da)) _ _ _;refine wpAny_assign_Name (zgx I' hN BG hx (show RelV (.ref Da) (.ref Da) from rfl) (fun E7 I'' ⟨a,qO,ha⟩=>?_) hf);obtain⟨f0,f1,Iw,f3,f4,f5⟩:=IE;have hCa:C≠a:=by
  rcases ha with e | e
  ·rw [e]; exact f1
  ·exact eG (f4 x a e)
 refine⟨m,hm.sameBut qO hCa,fun h₃ hs₃=>⟨_,_,?_,q'⟩⟩;exact I''.turned (t':=E7.toks) (fun b o hb e=>hs₃.extBut b o hb e) f0 f1 f3 f4 f5
end
theorem zmE {t2 i2:Expr} {f2:List Expr} (it:Value) (D:Addr) (env:Env):compTurn (.ListComp elt [⟨t1,i1,f1,0⟩,⟨t2,i2,f2,0⟩] scope pos) 0 it #[QE] env =
  zcz t1 f1 i1.pos (zki (.ListComp elt [⟨t1,i1,f1,0⟩,⟨t2,i2,f2,0⟩] scope pos) i2 1 #[QE] env) (.compLoop (.ListComp elt [⟨t1,i1,f1,0⟩,⟨t2,i2,f2,0⟩] scope pos) 0 it #[QE] env) it env:=by rfl
theorem zqE {t2 i2:Expr} {f2:List Expr} (it:Value) (D:Addr) (env:Env):compTurn (.ListComp elt [⟨t1,i1,f1,0⟩,⟨t2,i2,f2,0⟩] scope pos) 1 it #[QE] env =
  zcz t2 f2 i2.pos (zgK elt #[QE] env) (.compLoop (.ListComp elt [⟨t1,i1,f1,0⟩,⟨t2,i2,f2,0⟩] scope pos) 1 it #[QE] env) it env:=by rfl
def zet (ix:List #[Os]):List Nat:=(bA ix.length).filter fun j=>ix[j]? == some none
theorem zcA {ix:List #[Os]} {i:Nat}:i∈zet ix↔ix[i]? = some none:=by
 unfold zet;rw [cV,bU,beq_iff_eq];exact⟨fun h=>h.2,fun h=>⟨(aP.mp h).1,h⟩⟩
def GK (ix:List #[Os]) (g:TG):Prop:=GS (zet ix) g
def GKs (ix:List #[Os]) (g:TGs):Prop:=GSs (zet ix) g
theorem zam {ix:List #[Os]} {i:Nat} (hi:ix[i]? = some none):GK ix (zaI i):=zdU (zcA.2 hi)
theorem zap {ix:List #[Os]}:GKs ix zjm:=zdV
theorem zy {ix:List #[Os]} {i:Nat} {u:TGs} (hi:ix[i]? = some none) (h2:GKs ix u):GKs ix (zcg (zaI i) u):=zbm (zcA.2 hi) h2
theorem zaJ {ix:List #[Os]} {K:aD} {n:Nat} {t:TGs} (h:GKs ix t):GK ix (zh1 K n t):=zfv h
theorem zlf {ix:List #[Os]} {g:TG} {u:TGs} (h1:GK ix g) (h2:GKs ix u) (mono:∀ (x:V) (σ:St) (H:Hp) (Q Q':St->Hp->Prop),(∀ σ' H',Q σ' H'->Q' σ' H')->g x σ H Q->g x σ H Q'):GKs ix (zcg g u):=fun σ σ1 xs H Q hw h=>by
 obtain⟨v,r,e,h⟩:=h;refine⟨v,r,e,mono v σ1 H _ _ (fun σ' H' q=>?_) (h1 σ σ1 v H _ hw h)⟩;exact h2 σ σ' r H' Q q.1 q.2
theorem zpS (it:Value) (D:Addr) (env:Env):compTurn (.ListComp elt [⟨t1,i1,f1,0⟩] scope pos) 0 it #[QE] env =
  zcz t1 f1 i1.pos (zgK elt #[QE] env) (.compLoop (.ListComp elt [⟨t1,i1,f1,0⟩] scope pos) 0 it #[QE] env) it env:=by rfl
section
variable {X:Cx} {elt tg iter:Expr} {ifs:List Expr} {scope:Scope} {pos:Pos} {N':List Str} {ix:List #[Os]} {g:TG} {ts:TT} {te:TE}
theorem zO {wi:TI} (SC:K7 X N' ix scope) (hc:X.calm=true) (hk:GK ix g) (hi:PI X tg iter wi)
  (hg:∀ s₃ H₃ ex pv,PG #[re] tg g) (ht:∀ s₃ H₃ ex pv,zdS #[re] ifs ts) (he:∀ s₃ H₃ ex pv,PE #[re] elt te)
  (hs:∀ x,foldedSetIterable iter X.env x=pure x:=by intro _; rfl):PE X (.ListComp elt [⟨tg,iter,ifs,0⟩] scope pos) (zpR ix wi g ts te) :=
 zib (mk:=fun D env=>zgK elt #[QE] env) (js:=zet ix) (js':=[]) SC hc hk (fun _ _ h=>nomatch h) (fun j h=>zcA.1 (by simpa using h)) hi hg ht #[SO] (fun _ _ _=>zpS _ _ _) hs
theorem zbs {wi:TI} {i:Nat} {x:Str} {pos' rZ:Pos} (hN:X.N.Nodup) (BG:X.N[i]? = some x) (hx:Loc X.env.scope x) (SC:K7 X N' ix scope) (hc:X.calm=true) (hk:GK ix g) (hi:PI X tg iter wi)
  (hg:∀ s₃ H₃ ex pv,PG #[re] tg g) (ht:∀ s₃ H₃ ex pv,zdS #[re] ifs ts) (he:∀ s₃ H₃ ex pv,PE #[re] elt te)
  (Fk:swapsWith (.ListComp elt [⟨tg,iter,ifs,0⟩] scope pos) #[VS] rZ.line X.env=pure true:=by rfl)
  (hs:∀ x,foldedSetIterable iter X.env x=pure x:=by intro _; rfl) (hf:X.fn x=true\/X.env.scope.names.lookup x=some .local:=by first | exact .inl rfl | exact .inr rfl | assumption) :
  PS X (.Assign [.Name x pos'] (.ListComp elt [⟨tg,iter,ifs,0⟩] scope pos) rZ) (zgh (zpR ix wi g ts te) (zaI i)) :=
 zeI (mk:=fun D env=>zgK elt #[QE] env) (js:=zet ix) (js':=[]) hN BG hx SC hc hk (fun _ _ h=>nomatch h) (fun j h=>zcA.1 (by simpa using h)) hi hg ht #[SO] (fun _ _ _=>zpS _ _ _) Fk hs hf
end
section
variable {X:Cx} {pv:List (Addr×Obj)} {σ:St} {H:Hp} {s:Shared} {h':Heap}
theorem Inv.Ml {ch:List Addr} (I:Inv X pv σ H s) (k:∀ b o,b∉ch->s.heap.get? b=some o->h'.get? b=some o) (hf:∀ b∈ch,zb8 X pv H b)
  (th:∀ b∈ch,∃ o,h'.get? b=some o):Inv X pv σ H { s with heap:=h',toks:=t' }:=by
 have vK:∀ b u,H b=some u->b∉ch:=fun b u e z=>by rw [(hf b z).1] at e; cases e
 refine I.step (g':=s.gens) (d':=s.drawn) (ch:=ch) (fun b hb=>?_) (fun b o _ _ hc e _=>k b o hc e) (fun b o _ _ hc e _=>⟨o.slots,k b o hc e⟩) #[Rz]
  (fun b o hc e=>⟨o,k b o hc e⟩) #[Rl] #[Sh] (fun b ps e=>⟨#[],by rw [e]; simp⟩) #[Td] (fun b u e=>?_) I.bare
 ·obtain⟨_,a1,_,a3,a4,a5⟩:=hf b hb;exact⟨a3,a1,a4,a5⟩
 ·obtain⟨o,es,ep,ho,r⟩:=hm;exact⟨o,es,ep,k _ o (fun z=>(hf _ z).2.1 rfl) ho,r⟩
 ·refine #[Ug].NI (fun c v hc q=>k c v ?_ q) #[Sv] fun _ _ q=>q
  rcases hc with z | z
  ·rw [z]; exact vK b u e
  ·exact vK c _ z
theorem Inv.LJ {ch:List Addr} {T:Addr} {o:HO} (I:Inv X pv σ H s) (k:∀ b o,b∉ch->s.heap.get? b=some o->h'.get? b=some o) (hf:∀ b∈ch,zb8 X pv H b)
  (th:∀ b∈ch,∃ o,h'.get? b=some o) (hT:s.heap.objs.size<=T) (ok:zah X.prog X.w (pB H T o) h' T o):Inv X pv σ (pB H T o) { s with heap:=h',toks:=t' }:=by
 have I1:Inv X pv σ H { s with heap:=h',toks:=t' }:=I.Ml k hf th;have hn:H T=none:=I.hok.fresh hT;obtain⟨_,a1,a2,a3,a4,a5⟩:=I.Ny (H':=H) hT hn;exact I1.OP hn (bR I.sz hT) (eG a1) a4 a5 ok
end
def zmF (Sq:Hp->Addr->List V->Prop) (a:Addr):It :=
 ⟨fun i H=>∃ xs x,Sq H a xs/\xs[i]? = some x,fun i H x H'=>∃ T v,H T=none/\x = .ref T/\H'=pB H T (.tup [.int i,v])/\∀ xs,Sq H a xs->xs[i]? = some v,fun i H=>∃ xs,Sq H a xs/\xs.length<=i⟩
theorem zbt {T:Addr} {a b:Value} (e:h.get? T=some { cls:=.type "tuple",data:=.seq #[a,b] }):IsTup h T ([a,b]:List Value).toArray:=⟨_,e,rfl,_,rfl⟩
theorem zaO:2<=sizeLine:=by rw [bO]; decide
theorem zju {w:World} {es:List Expr} (a it e:Addr) (Ep:e≠it):Turn P w K #[Q9] (zmF (pA K) a) [e,it] e (fun i h=>(∃ old,IsEnum h e it i old)/\h.IsListIter it a i) where
 mem:=by simp
 obj:=fun i h st b hb=>by
  obtain⟨⟨old,he⟩,o,ho,hc,hd⟩:=st;rcases aR.mp hb with z | z
  ·subst z;exact⟨_,he,fun v z=>by cases z⟩
  ·have z:b=it:=by simpa using z
   subst z;exact⟨o,ho,fun v z=>by rw [hd] at z; cases z⟩
 keep:=fun i h h' st kk=>⟨st.1.imp fun old he=>kk e #[M] _ he,st.2.at fun o eo=>kk it #[M] o eo⟩
 item:=by
  intro X hP hw hK hc i pv s σ H E I hf st hg;subst hP hw hK;obtain⟨xs,x,hq,hx⟩:=hg;obtain⟨⟨old,he⟩,hit⟩:=st;obtain⟨pC,rv,p,hz⟩:=I.list hq;obtain⟨u,hu,ru⟩:=rv.get hx;have yd:e < s.heap.objs.size:=aW he;have hits:it < s.heap.objs.size:=by obtain⟨o,ho,_⟩:=hit; exact aW ho
  refine wpAny_pyNext_enum_item he hit p.isList (x:=u) (by simpa using hu) Ep fun h' vE ux hT hsz kk=>?_
  have k1:∀ b o,b∉[e,it]->s.heap.get? b=some o->h'.get? b=some o:=fun b o hb eo=>kk b o (fun z=>hb (by simp [z])) (fun z=>hb (by simp [z])) eo
  have BH:∀ b∈[e,it],∃ o,h'.get? b=some o:=fun b hb=>by
   rcases aR.mp hb with z | z
   ·subst z; exact⟨_,vE⟩
   ·have z:b=it:=by simpa using z
    subst z;obtain⟨o,eo,_⟩:=ux;exact⟨o,eo⟩
  have I1:Inv X pv σ (pB H s.heap.objs.size (.tup [.int i,x])) { s with heap:=h',toks:=s.toks+1 } :=
   I.LJ k1 hf BH (aG _) ⟨zaO,_,.cons ⟨s.toks,rfl⟩ (.cons ru .nil),zbt hT⟩
  refine⟨_,rfl,il vE fun Ad uy qN=>?_⟩;have fr:∀ b∈[e,it],pB H s.heap.objs.size (.tup [.int i,x]) b=none:=fun b hb=>by
   have pT:b < s.heap.objs.size:=by
    rcases aR.mp hb with z | z
    ·subst z; exact yd
    ·have z:b=it:=by simpa using z
     subst z; exact hits
   rw [zm (bT pT)];exact #[Ux].1
  have I2:Inv X pv σ (pB H s.heap.objs.size (.tup [.int i,x])) { s with heap:=Ad,toks:=s.toks+1 } :=
   Inv.Ml (s:={ s with heap:=h',toks:=s.toks+1 }) (ch:=[e]) (t':=s.toks+1) I1 (fun b o hb eo=>qN.extBut b o (by simpa using hb) eo) (fun b hb=>by
    have z:b=e:=by simpa using hb
    subst z;exact⟨fr b #[M],(hf b #[M]).2⟩) (fun b hb=>by
    have z:b=e:=by simpa using hb
    subst z;exact⟨_,uy⟩)
  refine⟨.ref s.heap.objs.size,_,I2,rfl,⟨_,x,I.fresh,rfl,rfl,fun ys hy=>by rw [I.LC hy hq]; exact hx⟩,⟨⟨_,by simpa using uy⟩,ux.extBut qN.extBut (eG Ep)⟩,fr⟩
 done:=by
  intro X hP hw hK hc i pv s σ H E I hf st hg;subst hP hw hK;obtain⟨xs,hq,hx⟩:=hg;obtain⟨⟨old,he⟩,hit⟩:=st;obtain⟨pC,rv,p,hz⟩:=I.list hq;have hl:=rv.length;obtain⟨f0,f1,f2,f3,f4,f5⟩:=hf it #[M];exact wpAny_pyNext_enum_end #[Qn] he hit p.isList (by simp; lia) fun h' eb=>#[wp]
 self:=fun _ _ _ _ _ st h=>by
  obtain⟨⟨old,he⟩,_⟩:=st;exact gp he h
def iEn (Sq:Hp->Addr->List V->Prop) (ta:TA):TI:=fun σ H R=>ta σ H fun vs H1=>∃ a xs,vs = [.ref a]/\Sq H1 a xs/\R (zmF Sq a) H1
theorem zfw {X:Cx} {es:List Expr} {k:Nat} {rj p pos:Pos} {a:Expr} {ta:TA} (hg:Gl X "enumerate") (hm:X.mg "enumerate" = none) (ha:PA X [a] ta) (hs:starEach [a] X.env = [#[GM]]:=by rfl) :
  PI X #[QM] (.Call (.Name "enumerate" p) [a] [] pos) (iEn #[Vg] ta):=by
 intro pv s σ H R I h;refine Call_ (za4 I hg hm lK (cD (thn #[Cl] fun us s1 ⟨vs,H1,I1,r1,q1⟩=>?_) hs rfl));obtain⟨l,xs,e,hq,q⟩:=q1;subst e;cases r1 with
 | cons r rr =>
  cases rr;cases r;obtain⟨pC,rv,pl,hz⟩:=I1.list hq;refine call_enumerate_list pl.isList fun h' he hi hsz kk=>?_
  have I2:Inv X pv σ H1 { s1 with heap:=h' }:=I1.kept (t':=s1.toks) kk;refine gp he ?_; refine⟨_,[s1.heap.objs.size+1,s1.heap.objs.size],_,zmF #[Vg] l,H1,rfl,I2,zju l s1.heap.objs.size (s1.heap.objs.size+1) (jl _),⟨⟨_,he⟩,hi⟩,fun b hb=>?_,q⟩;have hle:s1.heap.objs.size<=b:=by
   rcases aR.mp hb with z | z
   ·rw [z]; exact ir _
   ·have z:b=s1.heap.objs.size:=by simpa using z
    rw [z]; exact aG _
  exact I1.Ny hle #[Rv]
def zlg (uN uO:Hp->Addr->List V->Prop) (a b:Addr):It :=
 ⟨fun i H=>∃ xs ys x y,uN H a xs/\uO H b ys/\xs[i]? = some x/\ys[i]? = some y,
  fun i H x H'=>∃ T u v,H T=none/\x = .ref T/\H'=pB H T (.tup [u,v])/\(∀ xs,uN H a xs->xs[i]? = some u)/\∀ ys,uO H b ys->ys[i]? = some v,
  fun i H=>∃ xs ys,uN H a xs/\uO H b ys/\(xs.length<=i\/ys.length<=i)⟩
theorem zlh {w:World} {es:List Expr} (a b:Addr) (n:Nat) (ha:a < n) (hb:b < n):Turn P w K #[Q9] (zlg (pA K) (pA K) a b) [n+4,n+2,n+3,n,n+1] (n+4)
  (fun i h=>IsZip h (n+4) (n+2) (n+3) .none/\IsPair h (n+2) (.ref n) #[UI]/\(∃ u v,IsPair h (n+3) u v)/\h.IsListIter n a i/\h.IsListIter (n+1) b i) where
 mem:=by simp
 obj:=fun i h st c hc=>by
  obtain⟨h1,h2,⟨u,v,h3⟩,⟨o4,e4,_,d4⟩,⟨o5,e5,_,d5⟩⟩:=st;simp only [aR,bS,or_false] at hc;rcases hc with z | z | z | z | z <;> subst z
  ·exact⟨_,h1,fun v z=>by cases z⟩
  ·exact⟨_,h2,fun v z=>by cases z⟩
  ·exact⟨_,h3,fun v z=>by cases z⟩
  ·exact⟨_,e4,fun v z=>by rw [d4] at z; cases z⟩
  ·exact⟨_,e5,fun v z=>by rw [d5] at z; cases z⟩
 keep:=fun i h h' st kk=>by
  obtain⟨h1,h2,⟨u,v,h3⟩,h4,h5⟩:=st;exact⟨kk _ #[M] _ h1,kk _ #[M] _ h2,#[T6],h4.at fun o eo=>kk _ #[M] o eo,h5.at fun o eo=>kk _ #[M] o eo⟩
 item:=by
  intro X hP hw hK hc i pv s σ H E I hf st hg;subst hP hw hK;obtain⟨xs,ys,x,y,sL,qZ,hx,hy⟩:=hg;obtain⟨h1,h2,⟨u0,v0,h3⟩,h4,h5⟩:=st;obtain⟨qb,uP,p1,uQ⟩:=I.list sL;obtain⟨p4,vd,p2,vG⟩:=I.list qZ;obtain⟨u,hu,ru⟩:=uP.get hx;obtain⟨v,hv,rv⟩:=vd.get hy;have hzs:n+4 < s.heap.objs.size:=aW h1;refine wpAny_pyNext_zip_item #[Ti] h1 h2 h3 h4 h5 p1.isList p2.isList (x:=u) (y:=v) (by simpa using hu) (by simpa using hv) fun h' a1 a2 a3 a4 a5 a6 kk=>?_
  have k1:∀ c o,c∉[n+4,n+3,n,n+1]->s.heap.get? c=some o->h'.get? c=some o:=fun c o pL eo =>
   kk c o (fun z=>pL (by simp [z])) (fun z=>pL (by simp [z])) (fun z=>pL (by simp [z])) (fun z=>pL (by simp [z])) eo
  have sub:∀ c∈[n+4,n+3,n,n+1],c∈[n+4,n+2,n+3,n,n+1]:=fun c pL=>by
   simp only [aR,bS,or_false] at pL |-;rcases pL with z | z | z | z <;> subst z <;> simp
  have BH:∀ c∈[n+4,n+3,n,n+1],∃ o,h'.get? c=some o:=fun c pL=>by
   simp only [aR,bS,or_false] at pL;rcases pL with z | z | z | z <;> subst z
   ·exact⟨_,a1⟩
   ·exact⟨_,a2⟩
   ·obtain⟨o,e,_⟩:=a3; exact⟨o,e⟩
   ·obtain⟨o,e,_⟩:=a4; exact⟨o,e⟩
  have I1:Inv X pv σ (pB H s.heap.objs.size (.tup [x,y])) { s with heap:=h' } :=
   I.LJ (t':=s.toks) k1 (fun c pL=>hf c (sub c pL)) BH (aG _) ⟨zaO,_,.cons ru (.cons rv .nil),zbt a5⟩
  refine⟨_,rfl,wpAny_letOwnedTupleGo_zip a1 fun Ad Az qN=>?_⟩;have fr:∀ c∈[n+4,n+2,n+3,n,n+1],pB H s.heap.objs.size (.tup [x,y]) c=none:=fun c pL=>by
   have pT:c < s.heap.objs.size:=by
    simp only [aR,bS,or_false] at pL;rcases pL with z | z | z | z | z <;> subst z <;> lia
   rw [zm (bT pT)];exact (hf c pL).1
  have I2:Inv X pv σ (pB H s.heap.objs.size (.tup [x,y])) { s with heap:=Ad } :=
   Inv.Ml (s:={ s with heap:=h' }) (ch:=[n+4]) (t':=s.toks) I1 (fun c o pL eo=>qN.extBut c o (by simpa using pL) eo) (fun c pL=>by
    have z:c=n+4:=by simpa using pL
    subst z;exact⟨fr _ #[M],(hf _ #[M]).2⟩) (fun c pL=>by
    have z:c=n+4:=by simpa using pL
    subst z;exact⟨_,Az⟩)
  refine⟨.ref s.heap.objs.size,_,I2,rfl,⟨_,x,y,I.fresh,rfl,rfl,fun zs hz=>by rw [I.LC hz sL]; exact hx,fun zs hz=>by rw [I.LC hz qZ]; exact hy⟩,
   ⟨Az,qN.extBut _ _ #[Ti].TIz (kk _ _ #[Ti].TIz #[Ti].TITO #[Ti].TIi1 #[Ti].TIi2 h2),⟨_,_,qN.extBut _ _ #[Ti].TOz a2⟩,a3.extBut qN.extBut #[Ti].i1z,a4.extBut qN.extBut #[Ti].i2z⟩,fr⟩
 done:=by
  intro X hP hw hK hc i pv s σ H E I hf st hg;subst hP hw hK;obtain⟨xs,ys,sL,qZ,hx⟩:=hg;obtain⟨h1,h2,⟨u0,v0,h3⟩,h4,h5⟩:=st;obtain⟨qb,uP,p1,uQ⟩:=I.list sL;obtain⟨p4,vd,p2,vG⟩:=I.list qZ;have wF:=uP.length;have rX:=vd.length;refine wpAny_pyNext_zip_end #[Qn] #[Ti] h1 h2 h3 h4 h5 p1.isList p2.isList ?_ fun h' kk=>#[Uc]
  ·rcases hx with z | z
   ·exact .inl (by simp; lia)
   ·exact .inr (by simp; lia)
  ·have hth:∀ c∈[n+4,n+3,n,n+1],c∈[n+4,n+2,n+3,n,n+1]:=fun c pL=>by
    simp only [aR,bS,or_false] at pL |-;rcases pL with z | z | z | z <;> subst z <;> simp
   refine I.step (g':=s.gens) (d':=s.drawn) (t':=s.toks) (ch:=[n+4,n+3,n,n+1]) #[VY] (fun c o _ _ qz e _=>kk c o (fun z=>qz (by simp [z])) (fun z=>qz (by simp [z])) (fun z=>qz (by simp [z])) (fun z=>qz (by simp [z])) e)
    (fun c o _ _ qz e _=>⟨o.slots,kk c o (fun z=>qz (by simp [z])) (fun z=>qz (by simp [z])) (fun z=>qz (by simp [z])) (fun z=>qz (by simp [z])) e⟩) #[Rz]
    (fun c o qz e=>⟨o,kk c o (fun z=>qz (by simp [z])) (fun z=>qz (by simp [z])) (fun z=>qz (by simp [z])) (fun z=>qz (by simp [z])) e⟩) #[Rl] #[Sh] (fun c ps e=>⟨#[],by rw [e]; simp⟩) #[Td] #[U9] I.bare
   ·obtain⟨_,a1,_,a3,a4,a5⟩:=hf c (hth c pL);exact⟨a3,a1,a4,a5⟩
   ·obtain⟨o,y9,ep,ho,r⟩:=hm;have ne:∀ c∈[n+4,n+2,n+3,n,n+1],X.env.locals≠c:=fun c pL=>eG (hf c pL).2.1
    exact⟨o,y9,ep,kk _ o (ne _ #[M]) (ne _ #[M]) (ne _ #[M]) (ne _ #[M]) ho,r⟩
   ·have vK:∀ d u',H d=some u'->∀ c∈[n+4,n+2,n+3,n,n+1],d≠c:=fun d u' e' c pL z=>by rw [z,(hf c pL).1] at e'; cases e'
    refine #[Wn].NI (fun d v' hd q=>kk d v' ?_ ?_ ?_ ?_ q) #[Sv] fun _ _ q=>q
    all_goals
     rcases hd with z | z
     ·rw [z]; exact vK c u e _ #[M]
     ·exact vK d _ z _ #[M]
 self:=fun _ _ _ _ _ st h=>jm st.1 h
def iZp (uN uO:Hp->Addr->List V->Prop) (ta:TA):TI:=fun σ H R=>ta σ H fun vs H1=>∃ a b xs ys,vs = [.ref a,.ref b]/\uN H1 a xs/\uO H1 b ys/\R (zlg uN uO a b) H1
theorem zdW {X:Cx} {es:List Expr} {k:Nat} {rj p pos:Pos} {a b:Expr} {ta:TA} (hg:Gl X "zip") (hm:X.mg "zip" = none) (ha:PA X [a,b] ta) (hs:starEach [a,b] X.env = [#[GM],#[IN]]:=by rfl) (rG:starEach [b] X.env = [#[IN]]:=by rfl) :
  PI X #[QM] (.Call (.Name "zip" p) [a,b] [] pos) (iZp #[Vg] #[Vg] ta):=by
 intro pv s σ H R I h;refine Call_ (za4 I hg hm om (cD (thn #[Cl] fun us s1 ⟨vs,H1,I1,r1,q1⟩=>?_) (by rw [hs,rG]) (by rw [rG]; rfl)));obtain⟨l1,l2,xs,ys,e,sL,qZ,q⟩:=q1;subst e;cases r1 with
 | cons r rr =>
  cases rr with
  | cons r' rr =>
   cases rr;cases r;cases r';obtain⟨qb,uP,AA,uQ⟩:=I1.list sL;obtain⟨p4,vd,Bo,vG⟩:=I1.list qZ;have tF:l1 < s1.heap.objs.size:=by obtain⟨_,_,e,_⟩:=AA; exact aW e
   have tG:l2 < s1.heap.objs.size:=by obtain⟨_,_,e,_⟩:=Bo; exact aW e
   refine call_zip_2 AA.isList Bo.isList fun h' b1 b2 b3 b4 b5 b6 kk=>?_
   have I2:Inv X pv σ H1 { s1 with heap:=h' }:=I1.kept (t':=s1.toks) kk;refine jm b1 ?_;refine⟨_,_,_,zlg #[Vg] #[Vg] l1 l2,H1,rfl,I2,zlh l1 l2 s1.heap.objs.size tF tG,⟨b1,b2,⟨_,_,b3⟩,b4,b5⟩,fun c hc=>?_,q⟩;have hle:s1.heap.objs.size<=c:=by
    simp only [aR,bS,or_false] at hc;rcases hc with z | z | z | z | z <;> subst z <;> lia
   exact I1.Ny hle #[Rv]
def zic (Sq:Hp->Addr->List V->Prop) (a:Addr) (n:Nat):It :=
 ⟨fun i H=>i < n/\∃ xs,Sq H a xs/\xs.length=n,fun i H x H'=>H'=H/\∀ xs,Sq H a xs->xs[n - 1 - i]? = some x,fun i H=>n<=i⟩
theorem zli {w:World} (a it:Addr) (n:Nat):Turn P w K tg (zic (pA K) a n) [it] it (fun i h=>i<=n/\h.IsRevIter it a ((n:Int) - 1 - (i:Int))) where
 mem:=by simp
 obj:=fun i h st b hb=>by
  have z:b=it:=by simpa using hb
  subst z;obtain⟨_,o,e,c,d⟩:=st;exact⟨o,e,fun v z=>by rw [d] at z; cases z⟩
 keep:=fun i h h' st k=>⟨st.1,st.2.at fun o e=>k it #[M] o e⟩
 item:=by
  intro X hP hw hK hc i pv s σ H E I hf st hg;subst hP hw hK;obtain⟨wG,xs,hq,hl⟩:=hg;obtain⟨pC,rv,p,hz⟩:=I.list hq;have pI:=rv.length;obtain⟨x,hx⟩:∃ x,xs[n - 1 - i]? = some x:=⟨xs[n - 1 - i]'#[O],#[M]⟩;obtain⟨u,hu,ru⟩:=rv.get hx;obtain⟨f0,f1,f2,f3,f4,f5⟩:=hf it #[M];have e:(n:Int) - 1 - (i:Int)=((n - 1 - i:Nat):Int):=by lia
  have hit:=st.2;rw [e] at hit;refine wpAny_pyNext_rev_item hit p.isList (x:=u) (by simpa using hu) fun h' pE sb=>?_
  have I1:Inv X pv σ H { s with heap:=h' }:=I.turned (t':=s.toks) (fun b o hb e=>(sb.2 b hb).trans e) f0 f1 f3 f4 f5;have e2:((n - 1 - i:Nat):Int) - 1=(n:Int) - 1 - ((i+1:Nat):Int):=by lia
  rw [e2] at pE;obtain⟨o,eo,c,d⟩:=id pE;exact⟨u,rfl,zfp (s:={ s with heap:=h' }) eo c d #[D] ⟨x,H,I1,ru,⟨rfl,fun ys hy=>by rw [I.LC hy hq]; exact hx⟩,⟨wG,pE⟩,fun b hb=>#[Ux].1⟩⟩
 done:=by
  intro X hP hw hK hc i pv s σ H E I hf st hg;subst hP hw hK;obtain⟨f0,f1,f2,f3,f4,f5⟩:=hf it #[M];have wG:n<=i:=hg;have e:(n:Int) - 1 - (i:Int) = -1:=by have:=st.1; lia
  have hit:=st.2;rw [e] at hit;exact wpAny_pyNext_rev_end #[Qn] hit fun h' eb=>#[wp]
 self:=fun _ _ _ _ _ st h=>me st.2 h
end L2
end
section
namespace PySem
namespace F
theorem zgL:Manifest.owners.lookup (String.ofList ['d','e','s','r','e','v','e','r'].reverse)=some Manifest.sig_reversed:=by kernel_rfl
theorem Lc:Slot "reversed" "__next__" "reversed.__next__" :=
 .of (owner:="reversed") (n:="__next__") (by rw [gh,eS]; kernel_rfl) #[N] #[N] #[N] (by first | exact .inl #[N] | exact .inr #[N]) (by rw [iQ]; kernel_rfl)
theorem L6:entryFor table "reversed.__next__" = some Builtin.«reversed.__next__»:=entryFor_of_tree (by kernel_rfl)
theorem LQ (a:Value):argsOk "reversed.__next__" ⟨[a],[]⟩:=by
 unfold argsOk; rw [signature?_of (id:="reversed.__next__") (n:=['_','_','t','x','e','n','_','_']) (o:=['d','e','s','r','e','v','e','r']) (by kernel_rfl) zgL]; kernel_rfl
theorem Mf:Slot "reversed" "__iter__" "reversed.__iter__" :=
 .of (owner:="reversed") (n:="__iter__") (by rw [gh,eS]; kernel_rfl) #[N] #[N] #[N] (by first | exact .inl #[N] | exact .inr #[N]) (by rw [iQ]; kernel_rfl)
theorem M0 (a:Value):argsOk "reversed.__iter__" ⟨[a],[]⟩:=by
 unfold argsOk; rw [signature?_of (id:="reversed.__iter__") (n:=['_','_','r','e','t','i','_','_']) (o:=['d','e','s','r','e','v','e','r']) (by kernel_rfl) zgL]; kernel_rfl
theorem M6:entryFor table "reversed.__iter__" = some Builtin.«dict_keyiterator.__iter__»:=entryFor_alias (id':="dict_keyiterator.__iter__") (by kernel_rfl) (by first | rfl | decide +kernel | (unfold String.splitOn; simp +decide [String.splitOnAux])) #[N] (by kernel_rfl)
theorem zgk:Slot "reversed" "__init__" "object.__init__":=.of (owner:="object") (n:="__init__") (by rw [gh,eS]; kernel_rfl) #[N] #[N] #[N] (by first | exact .inl #[N] | exact .inr #[N]) (by rw [iQ]; kernel_rfl)
theorem Ot:TypeCalled "reversed" "reversed.__new__" "object.__init__" :=
 ⟨#[N],#[N],⟨_,_,mro_reversed⟩,made_reversed,#[N],by rw [iQ]; kernel_rfl,zgk⟩
theorem NT:typeLookup (.type "tuple") "__reversed__" = pure none:=by rw [gh,eS]; kernel_rfl
end F
def zhf (l:Addr) (i:Int):Obj:={ cls:=.type "reversed",data:=.fields #[.ref l,rawInt i] }
def Heap.M3 (h:Heap) (a l:Addr) (i:Int):Prop:=∃ o,h.get? a=some o/\o.cls = .type "reversed"/\o.data = .fields #[.ref l,rawInt i]
theorem Heap.M3.typeIs {s:Shared} {a l:Addr} {i:Int} (x:s.heap.M3 a l i):s.TypeIs #[QK] "reversed":=let ⟨o,ho,hc,_⟩:=x; ⟨o,ho,hc⟩
theorem Heap.M3.at {h h':Heap} {a l:Addr} {i:Int} (x:h.M3 a l i) (e:∀ o,h.get? a=some o->h'.get? a=some o):h'.M3 a l i:=let ⟨o,ho,r⟩:=x; ⟨o,e _ ho,r⟩
open PyProof.Rows in
theorem zgl (l:Addr) (items:Array Value) :
  Meets (Builtin.«reversed.__new__» ⟨[.type "reversed",.ref l],[]⟩) (fun _ R s=>IsTup s.heap l items/\(items.size:Int) < 2 ^ 63 /\
   R (.ok (.ret #[ww])) { s with heap:=s.heap.push (zhf l ((items.size:Int) - 1)),toks:=s.toks+1+1 }) :=
 .of_wp fun prog w A R s h=>by
  obtain⟨hl,hsz,h⟩:=h;unfold Builtin.«reversed.__new__»; refine aB #[Wt]
  try dsimp only
  iterate 2 refine aB (dR (a:=()) (by first | rfl | kernel_rfl) ?_)
  try dsimp only
  refine aB (jC hl.typeIs F.NT ?_)
  try dsimp only
  refine aB (aB (m:=isInstance #[Qy] (.type "dict")) (gC hl.typeIs F.sub_tuple_dict ?_));simp only [cG,if_false]; refine aB (m:=specialOf #[Qy] "__getitem__") #[Te];refine aI ?_
  try dsimp only
  try simp only [Bool.not_true,cG,if_false]
  refine aB (len_tuple hl hsz ?_);refine aB (m:=asInt? _) (dR (a:=some (items.size:Int)) rfl ?_)
  try dsimp only
  refine aB (m:=oT _ _) ?_;show wpAny _ _ (newObj (.type "reversed") (.fields #[.ref l,rawInt ((items.size:Int) - 1)]) none) _ _ _;refine ed ?_;exact aI ⟨_,rfl,h⟩
section
variable {prog:Program} {w:World} {A:Around} {E:Value->Shared->Prop} {s:Shared}
open PyProof.Rows
theorem zfx {l:Addr} {items:Array Value} {Q:Value->Shared->Prop} (hl:IsTup s.heap l items) (hsz:(items.size:Int) < 2 ^ 63)
  (h:Q #[ww] { s with heap:=s.heap.push (zhf l ((items.size:Int) - 1)),toks:=s.toks+1+1 }):wpAny #[ul] A (call (.type "reversed") [.ref l]) Q E s:=by
 refine kL F.Ot #[D] (lL _) (mf _) #[Vx] mh (zgl l items) ⟨hl,hsz,?_⟩; exact⟨⟨_,aY _ rfl,rfl⟩,h⟩
theorem zcR {it l:Addr} {i:Nat} {items:Array Value} {x:Value} {Q:Option Value->Shared->Prop} (hit:s.heap.M3 it l (i:Int)) (hl:IsTup s.heap l items) (hx:items[i]? = some x) (hi:(i:Int) < 2 ^ 62)
  (hQ:∀ h',h'.M3 it l ((i:Int) - 1)->cM it s.heap h'->Q (some x) { s with heap:=h',toks:=s.toks+1 }):wpAny #[ul] A #[Tc] Q E s:=by
 obtain⟨o,ho,hc,hd⟩:=id hit; unfold pyNext;refine aB (eh (cP (name:=cQ "__next__") hit.typeIs F.Lc
  (cU F.Lc hit.typeIs F.L6 ?_ (F.LQ _))))
 unfold Builtin.«reversed.__next__»;refine aB (dR (a:=(bP it,[])) rfl ?_); try dsimp only
 refine aB #[Xe]; refine aB (cT ho hd (x:=rawInt (i:Int)) rfl ?_);show wpAny _ _ (if (i:Int) < 0 then _ else _) _ _ s; rw [if_neg #[O]];refine aB #[Te]
 try simp only [Option.isNone_some,cG,if_false]
 refine aB (wpAny_mkInt ?_); have pT:i < items.size:=by
  obtain⟨h1,_⟩:=fj.mp hx;exact h1
 refine aB (eh (getItem_tuple (j:=i) hl #[O] #[O] (by rw [jX #[O] #[O]]; simp) hx ?_))
 try dsimp only
 refine aB (cT (s:={ s with toks:=s.toks+1 }) ho hd (x:=rawInt (i:Int)) rfl ?_);show wpAny _ _ (setField #[QT] 1 (rawInt ((i:Int) - 1)) >>= _) _ _ _;refine aB (gw (s:={ s with toks:=s.toks+1 }) ho hd #[M] (aI ⟨x,rfl,aI (hQ _ ?_ (fg ..))⟩));exact⟨_,eR _ ho (gZ (fo hd _)),(ku ..).trans hc,by rw [fo hd]; simp⟩
theorem zcV {it l:Addr} {Q:Option Value->Shared->Prop} (hh:A.handled=none) (hit:s.heap.M3 it l (-1)) (hQ:∀ h',nX it s.heap h'->Q none { s with heap:=h' }):wpAny #[ul] A #[Tc] Q E s:=by
 obtain⟨o,ho,hc,hd⟩:=id hit; unfold pyNext;refine aB (eh (cP (name:=cQ "__next__") hit.typeIs F.Lc
  (cU F.Lc hit.typeIs F.L6 ?_ (F.LQ _))))
 unfold Builtin.«reversed.__next__»;refine aB (dR (a:=(bP it,[])) rfl ?_); try dsimp only
 refine aB #[Xe]; refine aB (cT ho hd (x:=rawInt (-1)) rfl ?_);show wpAny _ _ (if (-1:Int) < 0 then _ else _) _ _ s; rw [if_pos #[D]];refine aB (dO ?_);refine aB (aB (m:=setField #[QT] 1 (rawInt (-1))) #[Tw]);have hd2:=fo hd (·.setIfInBounds 1 (rawInt (-1)));have xF:=eR (kg (·.setIfInBounds 1 (rawInt (-1)))) ho (gZ hd2);refine gw xF hd2 #[M] ?_
 try dsimp only
 refine aB ?_; show wpAny _ _ (newExc (.type "StopIteration") [] >>= _) _ _ _;refine aB ?_;simp only [newExc,newTuple];refine aB (ed ?_ (by size_fits)); refine aB (m:=firstArgMember _ _) (dR (a:=eI) (by first | rfl | (simp only [firstArgMember]; rfl)) ?_);refine ed ?_ (by size_fits); simp only [raiseNew];refine aB (mK ?_); first | rw [show A.in1.handled=none from hh] | rw [hh]
 refine aB (aI (nY ?_)); refine aB (gC (T:="StopIteration") (b:=true) ⟨_,aY _ rfl,rfl⟩ iR ?_);exact aI (hQ _ ((((fg ..).extBut.trans (fg ..).extBut).push _).push _))
theorem zcj {it l:Addr} {i:Int} {Q:Value->Shared->Prop} (hit:s.heap.M3 it l i) (h:Q #[QT] s):wpAny #[ul] A (pyIter #[QT]) Q E s:=by
 refine kx hit.typeIs F.Mf (cU F.Mf hit.typeIs F.M6 ?_ (F.M0 _));show wpAny _ _ (ret #[QT]) _ _ s; exact aI ⟨_,rfl,"reversed",_,hit.typeIs,F.Lc.lookup,h⟩
end
section
variable {prog:Program} {w:World} {A:Around} {E:Value->Shared->Prop} {s:Shared}
theorem zid {it t:Addr} {i:Nat} {items:Array Value} {x:Value} {Q:Value->Shared->Prop} (hit:s.heap.IsTupleIter it t i) (ht:s.heap.IsTuple t items) (hx:items[i]? = some x)
  (hQ:∀ h',h'.IsTupleIter it t (i+1)->cM it s.heap h'->Q x { s with heap:=h' }):wpAny #[ul] A (cF #[QT]) Q E s:=by
 obtain⟨o,ho,hc,hd⟩:=id hit; obtain⟨ot,IF,_,nt,IG⟩:=ht;unfold cF; refine aB (cP (name:=cQ "__next__") hit.typeIs gk #[VN]);show wpAny _ _ (field #[QT] 0 >>= _) _ _ s; refine aB #[Xd]; show wpAny _ _ (if (bP t == eI)=true then _ else _) _ _ _; rw [if_neg (by exact bK)];refine aB #[Wv]; refine aB (m:=seqItems? _) (et IF IG ?_); simp only [dq,hx];have hn:=eR (kg (·.setIfInBounds 1 (rawInt ((i+1:Nat):Int)))) ho (gZ (fo hd _));refine aB (gw ho hd #[M] (aI ⟨x,rfl,aI (hQ _ ⟨_,hn,(ku ..).trans hc,?_⟩ (fg ..))⟩)); rw [fo hd]; simp [rawInt]
theorem zeJ {it t:Addr} {i:Nat} {items:Array Value} {Q:Value->Shared->Prop} (hh:A.handled=none) (hit:s.heap.IsTupleIter it t i) (ht:s.heap.IsTuple t items) (hx:items[i]? = none)
  (hE:∀ h' e,nX it s.heap h'->(∃ o,h'.get? e=some o/\o.cls = .type "StopIteration")->E #[SQ] { s with heap:=h' }):wpAny #[ul] A (cF #[QT]) Q E s:=by
 obtain⟨o,ho,hc,hd⟩:=id hit; obtain⟨ot,IF,_,nt,IG⟩:=ht;unfold cF; refine aB (cP (name:=cQ "__next__") hit.typeIs gk #[VN]);show wpAny _ _ (field #[QT] 0 >>= _) _ _ s; refine aB #[Xd]; show wpAny _ _ (if (bP t == eI)=true then _ else _) _ _ _; rw [if_neg (by exact bK)];refine aB #[Wv]; refine aB (m:=seqItems? _) (et IF IG ?_); simp only [dq,hx];refine aB (dO (aB #[Tw])); show wpAny _ _ (newExc (.type "StopIteration") [] >>= _) _ _ _; refine aB ?_;simp only [newExc,newTuple]; refine aB (ed ?_ (by size_fits)); refine aB (m:=firstArgMember _ _) (dR (a:=eI) (by first | rfl | (simp only [firstArgMember]; rfl)) ?_);refine ed ?_ (by size_fits); simp only [raiseNew]; refine aB (mK ?_); first | rw [show A.in1.handled=none from hh] | rw [hh]
 refine aB (aI (nY ?_)); exact hE _ _ (((fg ..).extBut.push _).push _) ⟨_,aY _ rfl,rfl⟩
end
theorem Draws.tuple {prog:Program} {w:World} {A:Around} (hh:A.handled=none) (it t:Addr) (p7:t≠it) (items:Array Value):Draws prog w A it [it,t] items.size (fun i v=>items[i]? = some v) (fun i h=>h.IsTupleIter it t i/\h.IsTuple t items) where
 live:=fun i h st=>st.1.imp fun o r=>r.1
 frame:=fun i h h' st kk=>⟨st.1.at fun o=>kk it #[M] o,st.2.at fun o=>kk t #[M] o⟩
 item:=fun i s Q E hi st hQ=>zid st.1 st.2 (x:=items[i]) (by simp [hi]) fun h' a b=>hQ _ h' s.toks (by simp [hi]) ⟨a,st.2.extBut b.extBut p7⟩ b
 done:=fun s Q E st hE=>zeJ hh st.1 st.2 #[M] hE
def zbO (t:Addr):Obj:={ cls:=.type "tuple_iterator",data:=.fields #[.ref t,.int 0 0] }
def zhg (it:Addr):Obj:={ cls:=.type "enumerate",data:=.fields #[.none,.bool false,.ref it,rawInt 0,.none,.none] }
open AutoSeq1 (wpAny_loadPart') in
theorem zie (l:Addr) (items:Array Value) (n:Nat) (IH:Option Addr) (sl:Array #[Sf]) :
  Meets (Builtin.«enumerate.__new__» ⟨[.type "enumerate",.ref l],[]⟩) (fun _ R s=>s.heap.get? l=some { cls:=.type "tuple",dict:=IH,data:=.seq items n,slots:=sl } /\
   R (.ok (.ret (.ref #[SM].objs.size))) { s with heap:=#[SM].push (zhg s.heap.objs.size) }) :=
 .of_wp fun prog w A R s h=>by
  obtain⟨hp,g,d,tk,os⟩:=s; obtain⟨hl,h⟩:=h; have hT:Heap.IsTuple #[Vw] l items:=⟨_,hl,rfl,n,rfl⟩;have AB:=sub_enumerate; wp_walk using gM hl;refine wpAny_stack_any fun st=>aI ?_; split
  ·rename_i c _ _ _ _ _; cases (c == oC "enumerate") <;> (wp_walk using gM hl,gL hT; exact⟨_,rfl,h⟩)
  ·wp_walk using gM hl,gL hT; exact⟨_,rfl,h⟩
theorem zcW {prog:Program} {w:World} {A:Around} {E:Value->Shared->Prop} {s:Shared} {l:Addr} {items:Array Value} {Q:Value->Shared->Prop} (hL:s.heap.IsTuple l items)
  (h:∀ h',IsEnum h' #[Ev] s.heap.objs.size 0 .none->h'.IsTupleIter s.heap.objs.size l 0->h'.objs.size=s.heap.objs.size+2 ->
   (∀ b o,s.heap.get? b=some o->h'.get? b=some o)->Q (.ref #[Ev]) { s with heap:=h' }):wpAny #[ul] A (call (.type "enumerate") [.ref l]) Q E s:=by
 obtain⟨⟨c,IH,dt,sl⟩,hl,hc,n,hd⟩:=hL; replace hc:c = .type "tuple":=hc; replace hd:dt = .seq items n:=hd; subst hc hd;refine kL nE #[D] (lC _) (lM _) #[Vx] lN (zie l items n IH sl) ⟨hl,?_⟩;have hz:#[SM].objs.size=s.heap.objs.size+1:=cZ ..;have he:=aY #[SM] (o:=zhg s.heap.objs.size) rfl;show _/\_;rw [hz] at he |-;exact⟨⟨_,he,rfl⟩,h _ he ⟨_,aH _ (aY _ rfl),rfl,rfl⟩ (by rw [cZ,hz]) fun b o x=>aH _ (aH _ x)⟩
end PySem
namespace L2
open PySem PySem.Spec PyProof.Rows
variable {H1:Hp} {K:aD} {P:Program} {X:Cx} {j k:Nat} {pos rj:Pos} {pv:List (Addr×Obj)} {s1:Shared} {tg:Expr} {us:List Value}
theorem zlj {w:World} (a it:Addr) (n:Nat):Turn P w K tg (zic (pK K) a n) [it] it (fun i h=>i<=n/\h.M3 it a ((n:Int) - 1 - (i:Int))) where
 mem:=by simp
 obj:=fun i h st b hb=>by
  have z:b=it:=by simpa using hb
  subst z;obtain⟨_,o,e,c,d⟩:=st;exact⟨o,e,fun v z=>by rw [d] at z; cases z⟩
 keep:=fun i h h' st k=>⟨st.1,st.2.at fun o e=>k it #[M] o e⟩
 item:=by
  intro X hP hw hK hc i pv s σ H E I hf st hg;subst hP hw hK;obtain⟨wG,xs,hq,hl⟩:=hg;obtain⟨pC,rv,p,hz⟩:=I.tuple hq;have pI:=rv.length;have qP:=bO;obtain⟨x,hx⟩:∃ x,xs[n - 1 - i]? = some x:=⟨xs[n - 1 - i]'#[O],#[M]⟩;obtain⟨u,hu,ru⟩:=rv.get hx;obtain⟨f0,f1,f2,f3,f4,f5⟩:=hf it #[M];have e:(n:Int) - 1 - (i:Int)=((n - 1 - i:Nat):Int):=by lia
  have hit:=st.2;rw [e] at hit;refine zcR hit p (x:=u) (by simpa using hu) #[O] fun h' pE sb=>?_
  have I1:Inv X pv σ H { s with heap:=h',toks:=s.toks+1 }:=I.turned (t':=s.toks+1) (fun b o hb e=>(sb.2 b hb).trans e) f0 f1 f3 f4 f5;have e2:((n - 1 - i:Nat):Int) - 1=(n:Int) - 1 - ((i+1:Nat):Int):=by lia
  rw [e2] at pE;obtain⟨o,eo,c,d⟩:=id pE;exact⟨u,rfl,zfp (s:={ s with heap:=h',toks:=s.toks+1 }) eo c d #[D] ⟨x,H,I1,ru,⟨rfl,fun ys hy=>by rw [I.LK hy hq]; exact hx⟩,⟨wG,pE⟩,fun b hb=>#[Ux].1⟩⟩
 done:=by
  intro X hP hw hK hc i pv s σ H E I hf st hg;subst hP hw hK;obtain⟨f0,f1,f2,f3,f4,f5⟩:=hf it #[M];have wG:n<=i:=hg;have e:(n:Int) - 1 - (i:Int) = -1:=by have:=st.1; lia
  have hit:=st.2;rw [e] at hit;exact zcV #[Qn] hit fun h' eb=>#[wp]
 self:=fun _ _ _ _ _ st h=>zcj st.2 h
theorem zhh {σ:St} {R:It->Hp->Prop} {l:Addr} {xs:List V} (I1:Inv X pv σ H1 s1) (hq:pK X.K H1 l xs) (q:R (zic #[Wx] l xs.length) H1) :
  wpAny #[ss] X.A (call (.type "reversed") [.ref l]) #[RV] X.xe s1:=by
 obtain⟨pC,rv,pl,hz⟩:=I1.tuple hq;have pI:=rv.length;have qP:=bO;refine zfx pl (by rw [aO]; lia) ?_;have I2:Inv X pv σ H1 { s1 with heap:=s1.heap.push (zhf l ((pC.toArray.size:Int) - 1)),toks:=s1.toks+1+1 }:=I1.kept fun b o e=>aH _ e
 have hr:(s1.heap.push (zhf l ((pC.toArray.size:Int) - 1))).M3 s1.heap.objs.size l ((xs.length:Int) - 1 - ((0:Nat):Int)):=by
  refine⟨_,aY _ rfl,rfl,?_⟩;have e1:(pC.toArray.size:Int) - 1=(xs.length:Int) - 1 - ((0:Nat):Int):=by rw [aO,pI]; lia
  show lq #[.ref l,rawInt ((pC.toArray.size:Int) - 1)]=_;rw [e1]
 refine zcj hr ?_;refine⟨_,[s1.heap.objs.size],_,zic #[Wx] l xs.length,H1,rfl,I2,zlj l s1.heap.objs.size xs.length,⟨cB _,hr⟩,fun b hb=>?_,q⟩;have z:b=s1.heap.objs.size:=by simpa using hb
 subst z;exact I1.Ny (aG _) #[PZ]
theorem zif {σ:St} {R:It->Hp->Prop} {l:Addr} {xs:List V} (I1:Inv X pv σ H1 s1) (hq:pA X.K H1 l xs) (q:R (zic #[Vg] l xs.length) H1) :
  wpAny #[ss] X.A (call (.type "reversed") [.ref l]) #[RV] X.xe s1:=by
 obtain⟨pC,rv,pl,hz⟩:=I1.list hq;have pI:=rv.length;refine call_reversed_list pl.isList ?_;have I2:Inv X pv σ H1 { s1 with heap:=s1.heap.push (revObj l ((pC.toArray.size:Int) - 1)) }:=I1.kept (t':=s1.toks) fun b o e=>aH _ e
 have hr:(s1.heap.push (revObj l ((pC.toArray.size:Int) - 1))).IsRevIter s1.heap.objs.size l ((xs.length:Int) - 1 - ((0:Nat):Int)):=by
  refine⟨_,aY _ rfl,rfl,?_⟩;have e1:(pC.toArray.size:Int) - 1=(xs.length:Int) - 1 - ((0:Nat):Int):=by rw [aO,pI]; lia
  show lq #[.ref l,rawInt ((pC.toArray.size:Int) - 1)]=_;rw [e1]
 refine me hr ?_;refine⟨_,[s1.heap.objs.size],_,zic #[Vg] l xs.length,H1,rfl,I2,zli l s1.heap.objs.size xs.length,⟨cB _,hr⟩,fun b hb=>?_,q⟩;have z:b=s1.heap.objs.size:=by simpa using hb
 subst z;exact I1.Ny (aG _) #[PZ]
def zsu (K:aD) (ta:TA):TI:=fun σ H R=>ta σ H fun vs H1=>∃ a xs,vs = [.ref a]/\((pA K H1 a xs/\R (zic (pA K) a xs.length) H1)\/(pK K H1 a xs/\R (zic (pK K) a xs.length) H1))
theorem zqF {X:Cx} {tg:Expr} {p pos:Pos} {a:Expr} {ta:TA} (hg:Gl X "reversed") (hm:X.mg "reversed" = none) (ha:PA X [a] ta) (hs:starEach [a] X.env = [#[GM]]:=by rfl) :
  PI X tg (.Call (.Name "reversed" p) [a] [] pos) (zsu X.K ta):=by
 intro pv s σ H R I h;refine Call_ (za4 I hg hm boot_reversed (cD (thn #[Cl] fun us s1 ⟨vs,H1,I1,r1,q1⟩=>?_) hs rfl));obtain⟨l,xs,e,hq⟩:=q1;subst e;cases r1 with
 | cons r rr =>
  cases rr;cases r;rcases hq with ⟨hq,q⟩ | ⟨hq,q⟩
  ·exact zif I1 hq q
  ·exact zhh I1 hq q
theorem zjv {w:World} {es:List Expr} (a it e:Addr) (Ep:e≠it) (hai:a≠it) (hae:a≠e):Turn P w K #[Q9] (zmF (pK K) a) [e,it] e (fun i h=>(∃ old,IsEnum h e it i old)/\h.IsTupleIter it a i) where
 mem:=by simp
 obj:=fun i h st b hb=>by
  obtain⟨⟨old,he⟩,o,ho,hc,hd⟩:=st;rcases aR.mp hb with z | z
  ·subst z;exact⟨_,he,fun v z=>by cases z⟩
  ·have z:b=it:=by simpa using z
   subst z;exact⟨o,ho,fun v z=>by rw [hd] at z; cases z⟩
 keep:=fun i h h' st kk=>⟨st.1.imp fun old he=>kk e #[M] _ he,st.2.at fun o eo=>kk it #[M] o eo⟩
 item:=by
  intro X hP hw hK hc i pv s σ H E I hf st hg;subst hP hw hK;obtain⟨xs,x,hq,hx⟩:=hg;obtain⟨⟨old,he⟩,hit⟩:=st;obtain⟨pC,rv,p,hz⟩:=I.tuple hq;obtain⟨u,hu,ru⟩:=rv.get hx;have yd:e < s.heap.objs.size:=aW he;have hits:it < s.heap.objs.size:=by obtain⟨o,ho,_⟩:=hit; exact aW ho
  have pT:i < pC.toArray.size:=by
   have:=(aP.mp hu).1;simpa using this
  have hh:X.A.in1.handled=none:=by simp [I.ok.hd hc]
  refine wpAny_pyNext_enum_itemD (Draws.tuple hh it a hai pC.toArray) he ⟨hit,(show s.heap.IsTuple a pC.toArray from p)⟩ pT Ep (by simp [Ep,eG hae]) fun u' h' tk hPu vE ye hT hsz kk=>?_
  obtain⟨ux,htup'⟩:=ye;have eu:u'=u:=by
   have e1:pC[i]? = some u':=by simpa using hPu
   rw [hu] at e1;exact (bJ e1).symm
  subst eu;have k1:∀ b o,b∉[e,it]->s.heap.get? b=some o->h'.get? b=some o:=fun b o hb eo=>kk b o (fun z=>hb (by simp [z])) (fun z=>hb (by simp [z])) eo
  have BH:∀ b∈[e,it],∃ o,h'.get? b=some o:=fun b hb=>by
   rcases aR.mp hb with z | z
   ·subst z; exact⟨_,vE⟩
   ·have z:b=it:=by simpa using z
    subst z;obtain⟨o,eo,_⟩:=ux;exact⟨o,eo⟩
  have I1:Inv X pv σ (pB H s.heap.objs.size (.tup [.int i,x])) { s with heap:=h',toks:=tk+1 } :=
   I.LJ k1 hf BH (aG _) ⟨zaO,_,.cons ⟨tk,rfl⟩ (.cons ru .nil),zbt hT⟩
  refine⟨_,rfl,il vE fun Ad uy qN=>?_⟩;have fr:∀ b∈[e,it],pB H s.heap.objs.size (.tup [.int i,x]) b=none:=fun b hb=>by
   have pT:b < s.heap.objs.size:=by
    rcases aR.mp hb with z | z
    ·subst z; exact yd
    ·have z:b=it:=by simpa using z
     subst z; exact hits
   rw [zm (bT pT)];exact #[Ux].1
  have I2:Inv X pv σ (pB H s.heap.objs.size (.tup [.int i,x])) { s with heap:=Ad,toks:=tk+1 } :=
   Inv.Ml (s:={ s with heap:=h',toks:=tk+1 }) (ch:=[e]) (t':=tk+1) I1 (fun b o hb eo=>qN.extBut b o (by simpa using hb) eo) (fun b hb=>by
    have z:b=e:=by simpa using hb
    subst z;exact⟨fr b #[M],(hf b #[M]).2⟩) (fun b hb=>by
    have z:b=e:=by simpa using hb
    subst z;exact⟨_,uy⟩)
  refine⟨.ref s.heap.objs.size,_,I2,rfl,⟨_,x,I.fresh,rfl,rfl,fun ys hy=>by rw [I.LK hy hq]; exact hx⟩,⟨⟨_,by simpa using uy⟩,ux.extBut qN.extBut (eG Ep)⟩,fr⟩
 done:=by
  intro X hP hw hK hc i pv s σ H E I hf st hg;subst hP hw hK;obtain⟨xs,hq,hx⟩:=hg;obtain⟨⟨old,he⟩,hit⟩:=st;obtain⟨pC,rv,p,hz⟩:=I.tuple hq;have hl:=rv.length;obtain⟨f0,f1,f2,f3,f4,f5⟩:=hf it #[M];have hT:s.TypeIs #[SQ] "enumerate":=⟨_,he,rfl⟩; have hh:X.A.in1.handled=none:=by simp [I.ok.hd hc]
  unfold pyNext; refine aB (eh (cP (name:=cQ "__next__") hT fq #[TN]));show wpAny _ _ (field #[SQ] 2 >>= _) _ _ _; refine aB (cT he rfl (x:=.ref it) rfl ?_);refine aB (zeJ hh hit (show s.heap.IsTuple a pC.toArray from p) (by simp; lia) fun h' x BI xH=>?_);obtain⟨o,ho,hc⟩:=xH;refine aB (gC (T:="StopIteration") (b:=true) ⟨o,ho,hc⟩ iR ?_); exact aI ⟨rfl,I.turned (t':=s.toks) (fun b o hb e=>BI b o hb e) f0 f1 f3 f4 f5⟩
 self:=fun _ _ _ _ _ st h=>by
  obtain⟨⟨old,he⟩,_⟩:=st;exact gp he h
theorem zmG {es:List Expr} {p:Pos} {a:Expr} {ta:TA} (hg:Gl X "enumerate") (hm:X.mg "enumerate" = none) (ha:PA X [a] ta) (hs:starEach [a] X.env = [#[GM]]:=by rfl) :
  PI X #[QM] (.Call (.Name "enumerate" p) [a] [] pos) (iEn #[Wx] ta):=by
 intro pv s σ H R I h;refine Call_ (za4 I hg hm lK (cD (thn #[Cl] fun us s1 ⟨vs,H1,I1,r1,q1⟩=>?_) hs rfl));obtain⟨l,xs,e,hq,q⟩:=q1;subst e;cases r1 with
 | cons r rr =>
  cases rr;cases r;obtain⟨pC,rv,pl,hz⟩:=I1.tuple hq;have pT:l < s1.heap.objs.size:=by obtain⟨_,e,_⟩:=pl; exact aW e
  refine zcW (show s1.heap.IsTuple l pC.toArray from pl) fun h' he hi hsz kk=>?_
  have I2:Inv X pv σ H1 { s1 with heap:=h' }:=I1.kept (t':=s1.toks) kk;refine gp he ?_; refine⟨_,[s1.heap.objs.size+1,s1.heap.objs.size],_,zmF #[Wx] l,H1,rfl,I2,zjv l s1.heap.objs.size (s1.heap.objs.size+1) (jl _) (bT pT) (bT (gn pT)),⟨⟨_,he⟩,hi⟩,fun b hb=>?_,q⟩;have hle:s1.heap.objs.size<=b:=by
   rcases aR.mp hb with z | z
   ·rw [z]; exact ir _
   ·have z:b=s1.heap.objs.size:=by simpa using z
    rw [z]; exact aG _
  exact I1.Ny hle #[Rv]
inductive EqD (K:aD) (H:Hp):Nat->V->V->Bool->Prop where
 | flat {d:Nat} {x y:V} (hx:zgH x=true) (hy:zgH y=true):EqD K H d x y (eqV x y)
 | same {d:Nat} {a:Addr}:EqD K H d #[QK] #[QK] true
 | lists {d:Nat} {a b:Addr} {xs ys:List V} {e:Nat->Bool} (p7:a≠b) (ha:pA K H a xs) (hb:pA K H b ys) (hl:xs.length=ys.length)
   (he:∀ (j:Nat) x y,xs[j]? = some x->ys[j]? = some y->EqD K H d x y (e j)):EqD K H (d+1) #[QK] #[Wz] (#[Vo].all e)
 | lens {d:Nat} {a b:Addr} {xs ys:List V} (p7:a≠b) (ha:pA K H a xs) (hb:pA K H b ys) (hl:xs.length≠ys.length):EqD K H (d+1) #[QK] #[Wz] false
 | ML {d:Nat} {a b:Addr} {xs ys:List V} {e:Nat->Bool} (p7:a≠b) (ha:pK K H a xs) (hb:pK K H b ys)
   (he:∀ (j:Nat) x y,xs[j]? = some x->ys[j]? = some y->EqD K H d x y (e j)):EqD K H (d+1) #[QK] #[Wz] ((bA #[W9]).all e && xs.length == ys.length)
theorem zR.OM {xs:List V} (r:zR xs us) (h:j < us.toArray.size):∃ x,xs[j]? = some x/\RelV x us.toArray[j]:=by
 have hl:=r.length;have hj:j < xs.length:=by rw [hl]; simpa using h
 obtain⟨u,hu,ru⟩:=r.get (i:=j) (x:=xs[j]) #[M];refine⟨xs[j],#[M],?_⟩;have:us.toArray[j]=u:=by
  have h2:j < us.length:=by simpa using h
  rw [aJ h2] at hu;simpa using bJ hu
 rw [this];exact ru
theorem EqD.at {X:Cx} {pv:List (Addr×Obj)} {σ:St} {H:Hp} {s:Shared} (I:Inv X pv σ H s) {d:Nat} {x y:V} {b:Bool} (h:EqD X.K H d x y b) :
  ∀ (A:Around) (u v:Value),RelV x u->RelV y v->A.units+d < cLine->oE A s u v b:=by
 induction h with
 | flat hx hy=>exact fun A u v rx ry _=>zqx rx ry hx hy
 | same=>intro A u v rx ry _; cases rx; cases ry; exact oF _
 | lists p7 ha hb hl he ih =>
  intro A u v rx ry hu;cases rx; cases ry;obtain⟨C8,r1,p1,_⟩:=I.list ha;obtain⟨C9,r2,p2,_⟩:=I.list hb;have l1:=r1.length;have l2:=r2.length;refine j4 p7 ?_;have q:=SeqAt.RcAt.lists (A:=A) p1.isList p2.isList (by simp only [aO]; lia) #[O] fun j h1 h2=>by
   obtain⟨x,hx,rx⟩:=r1.OM h1;obtain⟨y,hy,ry⟩:=r2.OM h2;exact ih j x y hx hy A.in1 _ _ rx ry (by simp only [gD]; lia)
  rw [aO,<- l1] at q;exact q
 | lens p7 ha hb hl =>
  intro A u v rx ry hu;cases rx; cases ry;obtain⟨C8,r1,p1,_⟩:=I.list ha;obtain⟨C9,r2,p2,_⟩:=I.list hb;have l1:=r1.length;have l2:=r2.length;exact j4 p7 (SeqAt.RcAt.lists_lengths p1.isList p2.isList (by simp only [aO,bne_iff_ne]; lia) #[O])
 | ML p7 ha hb he ih =>
  intro A u v rx ry hu;cases rx; cases ry;obtain⟨C8,r1,p1,_⟩:=I.tuple ha;obtain⟨C9,r2,p2,_⟩:=I.tuple hb;have l1:=r1.length;have l2:=r2.length;refine j4 p7 ?_;have q:=SeqAt.RcAt.tuples (A:=A) (s:=s) p1 p2 #[O] fun j h1 h2=>by
   obtain⟨x,hx,rx⟩:=r1.OM h1;obtain⟨y,hy,ry⟩:=r2.OM h2;exact ih j x y hx hy A.in1 _ _ rx ry (by simp only [gD]; lia)
  rw [aO,aO,<- l1,<- l2] at q;exact q
noncomputable def zrO (K:aD) (neg:Bool):R2:=fun x y H Q=>∃ a b xs ys,x = .ref a/\y = .ref b/\((pA K H a xs/\pA K H b ys)\/(pK K H a xs/\pK K H b ys)) /\
 ((xs.length≠ys.length/\(∀ (j:Nat) x y,xs[j]? = some x->ys[j]? = some y->∃ c,EqD K H 8 x y c)/\Q (.bl neg) H) \/
  (xs.length=ys.length/\∃ e:Nat->Bool,(∀ (j:Nat) x y,xs[j]? = some x->ys[j]? = some y->EqD K H 8 x y (e j))/\Q (.bl (if neg then !#[Vo].all e else #[Vo].all e)) H))
theorem zmH {X:Cx} (hu:X.A.units+20 < cLine):OpR X (compareOp .NotEq) (zrO X.K true):=by
 intro pv s σ H x y v u Q I rx ry h;obtain⟨a,b,xs,ys,rfl,rfl,hk,h⟩:=h;cases rx; cases ry;rcases hk with ⟨ha,hb⟩ | ⟨ha,hb⟩
 ·obtain⟨C8,r1,p1,_⟩:=I.list ha;obtain⟨C9,r2,p2,_⟩:=I.list hb;have l1:=r1.length;have l2:=r2.length;rcases h with ⟨hl,_,q⟩ | ⟨hl,e,he,q⟩
  ·exact SeqAt.RcNeAt.lists_lengths p1.isList p2.isList (by simp only [aO,bne_iff_ne]; lia) #[O] _ _ _ _ ⟨.bl true,H,I,rfl,q⟩
  ·refine SeqAt.RcNeAt.lists p1.isList p2.isList (e:=e) (by simp only [aO]; lia) #[O] #[WL] _ _ _ _ #[Vr]
   ·obtain⟨x,hx,rx⟩:=r1.OM h1;obtain⟨y,hy,ry⟩:=r2.OM h2;exact (he j x y hx hy).at I _ _ _ rx ry (by simp only [gD]; lia)
   ·rw [aO,<- l1];exact q
 ·obtain⟨C8,r1,p1,_⟩:=I.tuple ha;obtain⟨C9,r2,p2,_⟩:=I.tuple hb;have l1:=r1.length;have l2:=r2.length;rcases h with ⟨hl,he,q⟩ | ⟨hl,e,he,q⟩
  ·have BI:∀ j:Nat,∃ c:Bool,∀ x y,xs[j]? = some x->ys[j]? = some y->EqD X.K H 8 x y c:=fun j=>by
    cases hx:xs[j]? with
    | none=>exact⟨true,fun x y z=>by cases z⟩
    | some x =>
     cases hy:ys[j]? with
     | none=>exact⟨true,fun x y _ z=>by cases z⟩
     | some y =>
      obtain⟨c,hc⟩:=he j x y hx hy;exact⟨c,fun x' y' z1 z2=>by cases z1; cases z2; exact hc⟩
   obtain⟨e,uy⟩:=Classical.axiomOfChoice BI;refine mT (s:=s) p1 p2 (e:=e) #[O] #[WL] _ _ _ _ #[Vr]
   ·obtain⟨x,hx,rx⟩:=r1.OM h1;obtain⟨y,hy,ry⟩:=r2.OM h2;exact (uy j x y hx hy).at I _ _ _ rx ry (by simp only [gD]; lia)
   ·have vN:(C8.toArray.size == C9.toArray.size)=false:=by
     rw [aO,aO]; exact beq_eq_false_iff_ne.mpr #[O]
    rw [vN,oU];exact q
  ·refine mT (s:=s) p1 p2 (e:=e) #[O] #[WL] _ _ _ _ #[Vr]
   ·obtain⟨x,hx,rx⟩:=r1.OM h1;obtain⟨y,hy,ry⟩:=r2.OM h2;exact (he j x y hx hy).at I _ _ _ rx ry (by simp only [gD]; lia)
   ·have vN:(C8.toArray.size == C9.toArray.size)=true:=by
     rw [aO,aO]; exact beq_iff_eq.mpr #[O]
    have II:min C8.toArray.size C9.toArray.size=xs.length:=by rw [aO,aO]; lia
    rw [vN,Bool.and_true,II];exact q
theorem zig {X:Cx}:zbh X (.builtin "isinstance") (fun xs H Q=>∃ x t n b,xs = [x,.ty n]/\Ou X.K H x t/\bN X.K t (.type n)=some b/\Q (.bl b) H):=by
 intro pv s σ H xs us Q I r h;obtain⟨x,t,n,b,rfl,ty,hk,q⟩:=h;obtain⟨u,u',rfl,rx,r2⟩:=vals2 r;cases r2;exact zlb I rx ty hk fun tk=>⟨.bl b,H,I.tok tk,rfl,q⟩
theorem zih {X:Cx}:zbh X (.type "range") (fun xs H Q=>∃ j:Int,xs = [.int j]/\∀ l,H l=none->Q #[Qy] (pB H l (.rng 0 j))):=by
 intro pv s σ H xs us Q I r h;obtain⟨j,rfl,q⟩:=h;obtain⟨u,rfl,t,rfl⟩:=vals1 r;refine call_range_1 ?_;exact⟨.ref s.heap.objs.size,_,I.laid (o:=.rng 0 j) #[Vz] (aG _) ⟨_,_,_,aY _ rfl⟩,rfl,q _ I.fresh⟩
def zca (lo:Int) (n:Nat):List Int:=(bA n).map fun (i:Nat)=>lo+(i:Int)
theorem zdt (lo:Int) (n:Nat):(zca lo n).length=n:=by simp [zca]
theorem zgm {acc:Array Value} {lo:Int} {n:Nat} (h:ItemsOf (fun i v=>∃ t,v = .int (lo+(i:Nat)*1) t) acc n):zR ((zca lo n).map V.int) acc.toList:=by
 obtain⟨hsz,hv⟩:=h;have go:∀ (us:List Value) (k:Nat),(∀ (j:Nat) v,us[j]? = some v->∃ t,v = .int (lo+((k+j:Nat):Int)) t)->zR (((bA us.length).map fun (i:Nat)=>V.int (lo+((k+i:Nat):Int)))) us:=by
  intro us;induction us with
  | nil=>intro k _; exact .nil
  | cons u us ih =>
   intro k hu;rw [dM,gR,bX,cR];refine .cons ?_ ?_
   ·obtain⟨t,e⟩:=hu 0 u rfl;exact⟨t,e⟩
   ·have:=ih (k+1) fun j v e=>by
     obtain⟨t,z⟩:=hu (j+1) v (by simpa using e);exact⟨t,by rw [z]; congr 1; lia⟩
    have e2:(fun (i:Nat)=>V.int (lo+((k+1+i:Nat):Int)))=((fun (i:Nat)=>V.int (lo+((k+i:Nat):Int))) ∘ oo):=by
     funext i;show V.int _=V.int _;congr 2;show ((k+1+i:Nat):Int)=((k+(i+1):Nat):Int);lia
    rw [<- e2];exact this
 have h1:=go acc.toList 0 fun j v e=>by
  obtain⟨t,z⟩:=hv j v (by simpa using e);exact⟨t,by rw [z]; simp⟩
 have e1:acc.toList.length=n:=by simpa using hsz
 rw [e1] at h1;unfold zca;rw [cR];have e2:(V.int ∘ fun (i:Nat)=>lo+(i:Int))=fun (i:Nat)=>V.int (lo+((0+i:Nat):Int)):=by
  funext i;show V.int (lo+(i:Int))=V.int (lo+((0+i:Nat):Int));rw [eC]
 rw [e2];exact h1
theorem zgn {X:Cx} (hc:X.calm=true):zbh X (.type "list") (fun xs H Q=>∃ p hi,xs = [.ref p]/\H p=some (.rng 0 hi)/\0<=hi/\hi<=1000/\∀ l,H l=none->Q #[Qy] (pB H l (.lst ((zca 0 hi.toNat).map V.int)))):=by
 intro pv s σ H xs us Q I r h;obtain⟨p,hi,rfl,hp,h0,h1,q⟩:=h;obtain⟨u,rfl,rx⟩:=vals1 r;cases rx;obtain⟨t,u',v,e⟩:=(show zah X.prog X.w H s.heap p (.rng 0 hi) from I.hok p _ hp);have qP:=bO;refine call_list_range (n:=hi.toNat) #[Qn] (show IsRange s.heap p 0 hi 1 t u' v from e) (small_one #[O] #[O] #[O] #[O]) (by rw [rangeSize_one]; split <;> lia) #[O] fun h' tk IJ c' kk ho AD=>?_
 have hv:=zgm (lo:=0) (n:=hi.toNat) AD;refine⟨.ref s.heap.objs.size,_,I.laid kk (aG _) ?_,rfl,q _ I.fresh⟩;exact⟨by rw [aA,zdt]; lia,IJ.toList,c',hv,by simpa using ho⟩
def zsv (K:aD) (tl:TE):TI:=fun σ H R=>tl σ H fun x H1=>∃ a,x = .ref a/\(((∃ xs,pA K H1 a xs)/\R #[Wg] H1)\/((∃ xs,pK K H1 a xs)/\R #[Wf] H1))
theorem zmI {X:Cx} {tg l:Expr} {tl:TE} (hl:PE X l tl):PI X tg l (zsv X.K tl):=by
 intro pv s σ H R I h;refine thn #[SW] fun v s1 ⟨x,H1,I1,r1,q1⟩=>?_
 obtain⟨a,e,q⟩:=q1;subst e;cases r1;rcases q with ⟨⟨xs,hq⟩,q⟩ | ⟨⟨xs,hq⟩,q⟩
 ·obtain⟨pC,rv,p,hz⟩:=I1.list hq;refine gT p.isList ?_;refine⟨s1.heap.objs.size,[s1.heap.objs.size],_,_,H1,rfl,I1.kept (t':=s1.toks) fun b o e=>aH _ e,zgy a _,⟨_,aY _ rfl,rfl,rfl⟩,fun b hb=>?_,q⟩;have e:b=s1.heap.objs.size:=by simpa using hb
  subst e;exact I1.Ny (aG _) #[PZ]
 ·obtain⟨pC,rv,p,hz⟩:=I1.tuple hq;refine gL (show s1.heap.IsTuple a pC.toArray from p) ?_;refine⟨s1.heap.objs.size,[s1.heap.objs.size],_,_,H1,rfl,I1.kept (t':=s1.toks) fun b o e=>aH _ e,zfq a _,⟨_,aY _ rfl,rfl,rfl⟩,fun b hb=>?_,q⟩;have e:b=s1.heap.objs.size:=by simpa using hb
  subst e;exact I1.Ny (aG _) #[PZ]
def intsOf:List Expr->Option #[At]
 | []=>some []
 | .Constant (.int i) _ _ :: r=>(intsOf r).map (i :: ·)
 | _=>none
def zgM (ns:List Int):TA:=fun _ H Q=>Q #[EQ] H
theorem zmJ:∀ (es:List Expr) (ns:List Int),intsOf es=some ns->PA X es (zgM ns):=by
 intro es;induction es with
 | nil =>
  intro ns h;have e:ns = []:=(bJ h).symm;subst e;exact zd
 | cons e r ih =>
  intro ns h;unfold intsOf at h;split at h
  ·rename_i heq
   cases heq
  ·rename_i i j p r' heq
   injection heq with e1 e2
   subst e1 e2;cases hr:intsOf r with
   | none=>rw [hr] at h; cases h
   | some ms =>
    rw [hr] at h;have e:i :: ms=ns:=bJ h;subst e;exact za zf (ih ms hr)
  ·cases h
theorem zoD {X:Cx} {es:List Expr} {ns:List Int} (h:intsOf es=some ns):PA X es (zgM ns):=zmJ es ns h
theorem zdu {X:Cx} {i:Int} {j:Nat} {p:Pos} {es:List Expr} {t:TA} (hr:PA X es t):PA X (.Constant (.int i) j p :: es) (zke (tC (.int i)) t):=za zf hr
theorem zmK {X:Cx} {i:Nat} {x:Str} {pos' qB rZ:Pos} {rest:List Stmt} {u:TS} {es:List Expr} {ns:List Int} (h:intsOf es=some ns) (hN:X.N.Nodup) (hi:X.N[i]? = some x) (hx:Loc X.env.scope x)
  (hf:X.fn x=true\/X.env.scope.names.lookup x=some .local) (hr:PSs X rest u):PSs X (.Assign [.Name x pos'] #[Tq] rZ :: rest) (zbe (zgh (zjq (zgM ns)) (zaI i)) u):=by
 have h1:PE X #[Tq] (zjq (zgM ns)):=@z9 X es (zgM ns) qB (@zoD X es ns h);have h2:PS X (.Assign [.Name x pos'] #[Tq] rZ) (zgh (zjq (zgM ns)) (zaI i)):=zn hN hi hx h1 (by rfl) hf;exact ze h2 hr
section
variable {X:Cx} {K:aD}
theorem za7 (hK:X.K=K):IxR X (zrH K):=by subst hK; exact zI
theorem zii (hK:X.K=K):SlR X (zrJ K):=by subst hK; exact zcx
def zrP (K:aD):List V->Hp->VK->Prop:=fun xs H Q=>∃ p ys,xs = [.ref p]/\(pA K H p ys\/pK K H p ys)/\Q (.int ys.length) H
theorem zaU (hK:X.K=K):zbh X (.builtin "len") (zrP K):=by subst hK; exact zJ
theorem zaf {es:List Expr} {k:Nat} {t:TGs} {n:Nat} {pos:Pos} (hK:X.K=K) (hc:X.calm=true) (h:PGs X es t)
  (hn:#[Rx].length=n:=by rfl) (qw:#[Rx].findIdx? (·.1)=none:=by rfl):PG X #[Q9] (zh1 K n t):=by subst hK; exact zaW hc h hn qw
theorem zqG {o e:Expr} {es:List Expr} {to:TE} {t:TA} {name:Str} {apos qj:Pos} {T id:String} {r:V->List V->Hp->VK->Prop} (hK:X.K=K) (pa:PlainAttrs T) (slot:Slot T name id) (Ii:typeOf #[R8]=pure (.type "method_descriptor")) (hm:MtR X id r) (ho:PE X o to) (ha:PA X (e :: es) t)
  (Aw:attributeBase o name X.env #[Vm]=eval o X.env:=by rfl)
  (C2:(#[Uv].all (fun x=>!x.1) && (backToKw qj (keywordEach [] X.env)).all (fun x=>x.1.isSome)
   && decide ((e :: es).length+([]:List Keyword).length+(if ([]:List Keyword).isEmpty then 0 else 1) < 30))=true:=by rfl)
  (Ax:(apos.endLine == qj.line)=true:=by rfl) (hs:starEach (e :: es) X.env=#[Ix] :: starEach es X.env:=by rfl) (wO:#[Sm].any (·.1)=false:=by rfl) :
  PE X (.Call (.Attribute o name apos) (e :: es) [] qj) (tBM K T r to t):=by subst hK; exact zeG pa slot Ii hm ho ha Aw C2 Ax hs wO
end
end L2
end
section
namespace My
variable {done pJ:List (Int×Int)} {q:Int×Int}
def Cg (p a b:Int):Prop:=∃ k,a=b+p*k
theorem Cg.refl (p a:Int):Cg p a a:=⟨0,by grind⟩
theorem Cg.symm {p a b:Int} (h:Cg p a b):Cg p b a:=by obtain⟨k,e⟩:=h; exact⟨-k,by grind⟩
theorem Cg.trans {p a b c:Int} (h:Cg p a b) (h':Cg p b c):Cg p a c:=by
 obtain⟨k,e⟩:=h; obtain⟨l,e'⟩:=h'; exact⟨k+l,by grind⟩
theorem Cg.add {p a b c d:Int} (h:Cg p a b) (h':Cg p c d):Cg p (a+c) (b+d):=by
 obtain⟨k,e⟩:=h; obtain⟨l,e'⟩:=h'; exact⟨k+l,by grind⟩
theorem Cg.sub {p a b c d:Int} (h:Cg p a b) (h':Cg p c d):Cg p (a - c) (b - d):=by
 obtain⟨k,e⟩:=h; obtain⟨l,e'⟩:=h'; exact⟨k - l,by grind⟩
theorem Cg.mul {p a b c d:Int} (h:Cg p a b) (h':Cg p c d):Cg p (a*c) (b*d):=by
 obtain⟨k,e⟩:=h; obtain⟨l,e'⟩:=h';exact⟨k*d+b*l+p*k*l,by subst e e'; grind⟩
theorem Cg.of_eq {p a b:Int} (h:a=b):Cg p a b:=h ▸ Cg.refl p a
theorem Cg.emod (p a:Int):Cg p (a % p) a:=⟨-(a / p),by have:=Int.emod_add_mul_ediv a p; grind⟩
theorem Cg.mod_eq {p a b:Int} (h:Cg p a b):a % p=b % p:=by
 obtain⟨k,e⟩:=h; rw [e,Int.add_mul_emod_self_left]
theorem Cg.Oy {p a b:Int} (h:a % p=b % p):Cg p a b:=(Cg.emod p a).symm.trans (h ▸ Cg.emod p b)
theorem Cg.eq {p a b:Int} (h:Cg p a b) (ha:0<=a) (ha':a < p) (hb:0<=b) (vN:b < p):a=b:=by
 have:=h.mod_eq
 rwa [fc ha ha',fc hb vN] at this
def zA (p x:Int):List Int->Int
 | []=>0
 | c :: r=>(c+x*zA p x r) % p
theorem zbR {p x:Int} (hp:0 < p):∀ l,0<=zA p x l
 | []=>dB 0
 | _ :: _=>bL _ #[O]
theorem zbS {p x:Int} (hp:0 < p):∀ l,zA p x l < p
 | []=>hp
 | _ :: _=>bE _ hp
theorem zaj (p x c:Int) (r:List Int):Cg p (zA p x (c :: r)) (c+x*zA p x r):=Cg.emod _ _
def lv (p x:Int):Int->Int->List Int->Int
 | pM,_,[]=>pM
 | pM,power,c :: r=>lv p x ((pM+c*power) % p) (power*x % p) r
theorem zpT {p x:Int}:∀ (l:List Int) (pM power:Int),Cg p (lv p x pM power l) (pM+power*zA p x l)
 | [],pM,power=>Cg.of_eq (by show pM=pM+power*0; grind)
 | c :: r,pM,power=>by
  have h1:=zpT (p:=p) (x:=x) r ((pM+c*power) % p) (power*x % p);refine h1.trans ?_;have h2:Cg p ((pM+c*power) % p+power*x % p*zA p x r) (pM+c*power+power*x*zA p x r):=#[Qv].add ((Cg.emod p (power*x)).mul #[QF]);refine h2.trans ?_;have h3:Cg p (pM+power*(c+x*zA p x r)) (pM+power*zA p x (c :: r)):=#[QF].add (#[QF].mul (zaj p x c r).symm);refine #[R7].trans h3;grind
theorem zmL {p x:Int} (hp:0 < p):∀ (l:List Int) (pM power:Int),0<=pM->pM < p->0<=lv p x pM power l/\lv p x pM power l < p
 | [],pM,power,h1,h2=>⟨h1,h2⟩
 | c :: r,pM,power,h1,h2=>zmL hp r _ _ (bL _ #[O]) (bE _ hp)
theorem zkm {p x:Int} (hp:0 < p) (l:List Int):lv p x 0 1 l=zA p x l:=by
 obtain⟨a,b⟩:=zmL (x:=x) hp l 0 1 (dB _) hp;exact ((zpT l 0 1).trans (Cg.of_eq (by grind))).eq a b (zbR hp l) (zbS hp l)
def zt:List Int:=[5,7,11,13,17,19,23,29,31,37,41,43,47,53,59,61,67,71,73,79,83,89,97]
def zda (p:Int):Nat->Int->Int->Int->Int
 | 0,prod,_,_=>prod
 | n+1,prod,sq,left=>if 0 < left then zda p n (if left % 2=1 then prod*sq % p else prod) (sq*sq % p) (left / 2) else prod
def inv (p h:Int):Int:=zda p 7 1 (h % p) (p - 2)
def zsw:Bool:=zt.all fun p=>(bA p.toNat).all fun h=>h == 0 || (inv p h*h) % p == 1
theorem zlk:zsw=true:=by decide +kernel
theorem zC {p:Int} (hp:p∈zt):5<=p/\p<=97:=by
 have:zt.all (fun p=>decide (5<=p/\p<=97))=true:=by decide +kernel
 have:=ie.mp this p hp;simpa using this
theorem zeu {p h:Int} (hp:p∈zt) (h0:0 < h) (h1:h < p):Cg p (inv p h*h) 1:=by
 have e:=ie.mp (ie.mp zlk p hp) h.toNat (bU.mpr #[O]);have hh:((h.toNat:Nat):Int)=h:=by lia
 have:h.toNat≠0:=by lia
 simp only [Bool.or_eq_true,beq_iff_eq,hh,this,false_or] at e;have hr:=zC hp;exact Cg.Oy (by rw [e,fc #[O] #[O]])
theorem zij {p a b:Int} (hp:p∈zt) (h:Cg p (a*b) 0):Cg p a 0\/Cg p b 0:=by
 have hr:=zC hp;by_cases ha:a % p=0
 ·exact .inl (Cg.Oy (by rw [ha]; simp))
 ·right;have h0:0 < a % p:=by have:=bL a (show p≠0 by lia); lia
  have hi:=zeu hp h0 (bE a #[O]);have h1:Cg p (inv p (a % p)*(a*b)) 0:=(#[QF].mul h).trans (Cg.of_eq (by grind));have h2:Cg p (inv p (a % p)*(a % p)*b) (1*b):=hi.mul (Cg.refl p b);have h3:Cg p (inv p (a % p)*(a*b)) (inv p (a % p)*(a % p)*b):=by
   have:=((Cg.refl p (inv p (a % p))).mul (Cg.emod p a).symm).mul (Cg.refl p b);exact (Cg.of_eq (by grind)).trans this
  exact ((Cg.of_eq (by grind)).trans (h2.symm.trans (h3.symm.trans h1)))
def trF (p r:Int) (high low:Int):Int:=(high - r*low) % p
def zck (p r:Int) (v:List Int):List Int:=cJ (trF p r) (0 :: v) (v++[0])
theorem zpU {p r z:Int}:∀ (v:List Int) (h:Int),Cg p (zA p z (cJ (trF p r) (h :: v) (v++[0]))) (h+(z - r)*zA p z v)
 | [],h=>by
  show Cg p ((trF p r h 0+z*0) % p) (h+(z - r)*0);refine #[Qv].trans ?_;have:Cg p (trF p r h 0) (h - r*0):=Cg.emod p _;exact (this.add (Cg.refl p (z*0))).trans (Cg.of_eq (by grind))
 | c :: w,h=>by
  show Cg p ((trF p r h c+z*zA p z (cJ (trF p r) (c :: w) (w++[0]))) % p) (h+(z - r)*zA p z (c :: w));have ih:=zpU (p:=p) (r:=r) (z:=z) w c;have h1:Cg p (trF p r h c) (h - r*c):=Cg.emod p _;refine #[Qv].trans ((h1.add ((Cg.refl p z).mul ih)).trans ?_);have h2:Cg p (h+(z - r)*(c+z*zA p z w)) (h+(z - r)*zA p z (c :: w)):=(Cg.refl p h).add (#[QF].mul (zaj p z c w).symm);exact (Cg.of_eq (by grind)).trans h2
theorem zoE {p r z:Int} (v:List Int):Cg p (zA p z (zck p r v)) ((z - r)*zA p z v):=(zpU v 0).trans (Cg.of_eq (by grind))
theorem zdb (p r:Int) (v:List Int):(zck p r v).length=v.length+1:=by simp [zck]
theorem zfy {α β γ:Type} {f:α->β->γ}:∀ {as:List α} {bs:List β} {c:γ},c∈cJ f as bs->∃ a b,c=f a b
 | [],_,c,h=>by simp at h
 | _ :: _,[],c,h=>by simp at h
 | a :: as,b :: bs,c,h=>by
  rcases aR.mp h with e | e
  ·exact⟨a,b,e⟩
  ·exact zfy e
theorem zmM {p r:Int} (hp:0 < p) (v:List Int):∀ c∈zck p r v,0<=c/\c < p:=by
 intro c hc;obtain⟨a,b,e⟩:=zfy hc;rw [e]; exact⟨bL _ #[O],bE _ hp⟩
def ad (p f:Int):List Int->List Int->List Int
 | c :: cs,v :: vs=>(c+f*v) % p :: ad p f cs vs
 | cs,[]=>cs
 | [],_ :: _=>[]
theorem zgN (p f:Int):∀ (cs vs:List Int),#[Vp].length=cs.length
 | _ :: cs,_ :: vs=>by show #[Vp].length+1=_; rw [zgN p f cs vs]; rfl
 | [],[]=>rfl
 | _ :: _,[]=>rfl
 | [],_ :: _=>rfl
theorem zmN {p f:Int} (hp:0 < p):∀ (cs vs:List Int),(∀ c∈cs,0<=c/\c < p)->∀ c∈ad p f cs vs,0<=c/\c < p
 | c :: cs,v :: vs,h,d,hd=>by
  rcases aR.mp hd with e | e
  ·rw [e]; exact⟨bL _ #[O],bE _ hp⟩
  ·exact zmN hp cs vs (fun c hc=>h c (aV _ hc)) d e
 | [],[],h,d,hd=>h d hd
 | _ :: _,[],h,d,hd=>h d hd
 | [],_ :: _,h,d,hd=>by cases hd
theorem zkn {p f z:Int}:∀ (cs vs:List Int),vs.length<=cs.length->Cg p (zA p z #[Vp]) (zA p z cs+f*zA p z vs)
 | c :: cs,v :: vs,h=>by
  have ih:=zkn (p:=p) (f:=f) (z:=z) cs vs (by simpa using h);show Cg p (((c+f*v) % p+z*zA p z #[Vp]) % p) (zA p z (c :: cs)+f*zA p z (v :: vs));refine #[Qv].trans (((Cg.emod p (c+f*v)).add ((Cg.refl p z).mul ih)).trans ?_);have h2:Cg p ((c+z*zA p z cs)+f*(v+z*zA p z vs)) (zA p z (c :: cs)+f*zA p z (v :: vs)):=(zaj p z c cs).symm.add ((Cg.refl p f).mul (zaj p z v vs).symm);exact (Cg.of_eq (by grind)).trans h2
 | [],[],_=>Cg.of_eq (by show (0:Int)=0+f*0; grind)
 | c :: cs,[],_=>Cg.of_eq (by show zA p z (c :: cs)=zA p z (c :: cs)+f*0; grind)
 | [],_ :: _,h=>by simp at h
def zcX (p:Int) (s:List Int×List Int) (q:Int×Int):List Int×List Int :=
 (ad p ((q.2 - zA p q.1 s.1)*inv p (zA p q.1 s.2) % p) s.1 s.2,zck p q.1 s.2)
def zrQ (p:Int) (n:Nat) (pJ:List (Int×Int)):List Int×List Int:=pJ.foldl (zcX p) (aQ n 0,[1])
def thr (p:Int) (pJ:List (Int×Int)):List Int:=(zrQ p pJ.length pJ).1
def zcY (z:Int):List (Int×Int)->Int
 | []=>1
 | q :: r=>(z - q.1)*zcY z r
theorem zfz (z:Int) (q:Int×Int):∀ l,zcY z (l++[q])=zcY z l*(z - q.1)
 | []=>by show (z - q.1)*1=1*(z - q.1); grind
 | a :: l=>by show (z - a.1)*zcY z (l++[q])=(z - a.1)*zcY z l*(z - q.1); rw [zfz z q l]; grind
theorem zfA {z:Int}:∀ {l:List (Int×Int)},(∃ q∈l,q.1=z)->zcY z l=0
 | [],h=>by obtain⟨q,hq,_⟩:=h; cases hq
 | a :: l,h=>by
  show (z - a.1)*zcY z l=0;obtain⟨q,hq,e⟩:=h;rcases aR.mp hq with hq | hq
  ·subst hq; rw [e]; simp
  ·rw [zfA ⟨q,hq,e⟩]; simp
theorem zik {p z:Int} (hp:p∈zt) (hz:0<=z) (Dc:z < p):∀ {l:List (Int×Int)},(∀ q∈l,0<=q.1/\q.1 < p/\q.1≠z)->¬ Cg p (zcY z l) 0
 | [],_,h=>by
  have hr:=zC hp;have:=h.mod_eq;have e1:(zcY z []:Int)=1:=rfl;rw [e1,fc #[O] #[O]] at this;simp at this
 | a :: l,hl,h=>by
  rcases zij hp (show Cg p ((z - a.1)*zcY z l) 0 from h) with h | h
  ·obtain⟨h1,h2,h3⟩:=hl a bG;have:Cg p z a.1:=by
    have:=h.add (Cg.refl p a.1);exact (Cg.of_eq (by grind)).trans (this.trans (Cg.of_eq (by grind)))
   exact h3 (this.eq hz Dc h1 h2).symm
  ·exact zik hp hz Dc (fun q hq=>hl q (aV _ hq)) h
structure Nw (p:Int) (n:Nat) (done:List (Int×Int)) (s:List Int×List Int):Prop where
 lc:s.1.length=n
 lv:s.2.length=done.length+1
 rc:∀ c∈s.1,0<=c/\c < p
 rv:∀ c∈s.2,0<=c/\c < p
 van:∀ z,Cg p (zA p z s.2) (zcY z done)
 hit:∀ q∈done,zA p q.1 s.1=q.2
theorem zil {p:Int} (hp:p∈zt) (n:Nat):Nw p n [] (aQ n 0,[1]):=by
 have hr:=zC hp;refine⟨#[M],rfl,fun c hc=>?_,fun c hc=>?_,fun z=>?_,fun q hq=>by cases hq⟩
 ·obtain⟨_,e⟩:=List.mem_replicate.mp hc;lia
 ·have:c=1:=by simpa using hc
  lia
 ·show Cg p ((1+z*0) % p) 1;exact #[Qv].trans (Cg.of_eq (by grind))
theorem zko {p:Int} {n:Nat} {s:List Int×List Int} (hp:p∈zt) (h:Nw p n done s) (q0:0<=q.1) (q1:q.1 < p) (hd:∀ a∈done,0<=a.1/\a.1 < p/\a.1≠q.1) :
  0 < zA p q.1 s.2/\zA p q.1 s.2 < p:=by
 have hr:=zC hp;refine⟨?_,zbS #[O] _⟩;have h0:=zbR (x:=q.1) (show 0 < p by lia) s.2;by_cases e:zA p q.1 s.2=0
 ·exact absurd ((h.van q.1).symm.trans (Cg.of_eq e)) (zik hp q0 q1 hd)
 ·lia
theorem zll {p:Int} {n:Nat} {s:List Int×List Int} (hp:p∈zt) (h:Nw p n done s) (q0:0<=q.1) (q1:q.1 < p) (hd:∀ a∈done,0<=a.1/\a.1 < p/\a.1≠q.1) :
  Cg p ((q.2 - zA p q.1 s.1)*inv p (zA p q.1 s.2) % p*zA p q.1 s.2) (q.2 - zA p q.1 s.1):=by
 obtain⟨h0,h1⟩:=zko hp h q0 q1 hd;have hi:=zeu hp h0 h1;refine (#[Qv].mul #[QF]).trans ?_;have:=(Cg.refl p (q.2 - zA p q.1 s.1)).mul hi;exact (Cg.of_eq (by grind)).trans (this.trans (Cg.of_eq (by grind)))
theorem zkp {p:Int} {n:Nat} {s:List Int×List Int} (hp:p∈zt) (h:Nw p n done s) (hn:done.length < n) (q0:0<=q.1) (q1:q.1 < p) (q2:0<=q.2) (q3:q.2 < p)
  (hd:∀ a∈done,0<=a.1/\a.1 < p/\a.1≠q.1/\0<=a.2/\a.2 < p):Nw p n (done++[q]) (zcX p s q):=by
 have hr:=zC hp;have Ek:∀ a∈done,0<=a.1/\a.1 < p/\a.1≠q.1:=fun a ha=>⟨(hd a ha).1,(hd a ha).2.1,(hd a ha).2.2.1⟩
 have hlv:=h.lv;have hlc:=h.lc;have hle:s.2.length<=s.1.length:=by lia
 refine⟨by show (ad _ _ _ _).length=n; rw [zgN,h.lc],by show (zck _ _ _).length=_; rw [zdb,h.lv,aL,gX],zmN #[O] _ _ h.rc,zmM #[O] _,fun z=>?_,fun a ha=>?_⟩
 ·rw [zfz];exact (zoE s.2).trans ((#[QF].mul (h.van z)).trans (Cg.of_eq (by grind)))
 ·have hv:=zkn (p:=p) (f:=(q.2 - zA p q.1 s.1)*inv p (zA p q.1 s.2) % p) (z:=a.1) s.1 s.2 hle; rcases bQ.mp ha with ha | ha
  ·obtain⟨b0,b1,b2,b3,b4⟩:=hd a ha;have hz:Cg p (zA p a.1 s.2) 0:=(h.van a.1).trans (Cg.of_eq (zfA ⟨a,ha,rfl⟩));have h2:Cg p (zA p a.1 (ad p ((q.2 - zA p q.1 s.1)*inv p (zA p q.1 s.2) % p) s.1 s.2)) (zA p a.1 s.1):=hv.trans (((Cg.refl p (zA p a.1 s.1)).add (#[QF].mul hz)).trans (Cg.of_eq (by rw [jE,g7])));rw [h.hit a ha] at h2;exact h2.eq (zbR #[O] _) (zbS #[O] _) b3 b4
  ·have e:a=q:=by simpa using ha
   subst e;have h2:Cg p (zA p a.1 (ad p ((a.2 - zA p a.1 s.1)*inv p (zA p a.1 s.2) % p) s.1 s.2)) a.2:=hv.trans (((Cg.refl p (zA p a.1 s.1)).add (zll hp h q0 q1 Ek)).trans #[P5]);exact h2.eq (zbR #[O] _) (zbS #[O] _) q2 q3
structure Pts (p:Int) (pJ:List (Int×Int)):Prop where
 nd:(pJ.map (·.1)).Nodup
 rg:∀ q∈pJ,0<=q.1/\q.1 < p/\0<=q.2/\q.2 < p
theorem Pts.apart {p:Int} {rest:List (Int×Int)} (h:Pts p (done++q :: rest)):∀ a∈done,0<=a.1/\a.1 < p/\a.1≠q.1/\0<=a.2/\a.2 < p:=fun a ha=>by
 obtain⟨r1,r2,r3,r4⟩:=h.rg a (bV _ ha);refine⟨r1,r2,fun e=>?_,r3,r4⟩;have nd:=h.nd;rw [aN,gV] at nd;exact nd.2.2 a.1 (aZ.mpr ⟨a,ha,rfl⟩) q.1 #[M] e
theorem zmO {p:Int} (hp:p∈zt) {n:Nat}:∀ (rest done:List (Int×Int)) (s:List Int×List Int),Pts p (done++rest)->(done++rest).length=n->Nw p n done s->Nw p n (done++rest) (rest.foldl (zcX p) s)
 | [],done,s,_,_,h=>by rw [dn]; exact h
 | q :: rest,done,s,hP,hn,h=>by
  have Au:done.length < n:=by rw [<- hn]; simp
  obtain⟨a,b,c,d⟩:=hP.rg q #[M];have hs:=zkp hp h (q:=q) Au a b c d hP.apart;have e:done++q :: rest=(done++[q])++rest:=by simp
  rw [e] at hP hn |-;exact zmO hp rest (done++[q]) _ hP hn hs
theorem zmP {p:Int} (hp:p∈zt) (hP:Pts p pJ):(thr p pJ).length=pJ.length/\(∀ c∈thr p pJ,0<=c/\c < p)/\∀ q∈pJ,zA p q.1 (thr p pJ)=q.2:=by
 have h:=zmO hp (n:=pJ.length) pJ [] _ (by simpa using hP) #[M] (zil hp pJ.length);exact⟨h.lc,h.rc,h.hit⟩
end My
end
section
namespace My
open PySem L2 PyProof.Rows
theorem szq{n:Nat}(h:Nat.ble n 99=true:=by rfl):n<=sizeLine:=by rw[bO];have:=Nat.le_of_ble_eq_true h;lia
variable {H H':Hp} {K:aD} {as cs ns:List Int} {j k:Nat} {te:TE} {ts:TT} {y:V} {σ0:L2.St}
section
variable {K:aD}
theorem zmQ {k:Int} (h0:0<=k) (h1:k < ns.length):∃ c:Int,ns[k.toNat]? = some c/\atI #[EQ] k=some (.int c):=by
 have pT:k.toNat < ns.length:=by lia
 have e:atI #[EQ] ((k.toNat:Nat):Int)=some (.int ns[k.toNat]):=zay (by simp [aF,aJ pT]);have hk:((k.toNat:Nat):Int)=k:=by lia
 rw [hk] at e;exact⟨ns[k.toNat],#[M],e⟩
theorem ze6 {k:Int} (h0:0<=k) (h1:k < ns.length):∃ c:Int,atI #[EQ] k=some (.int c):=let ⟨c,_,e⟩:=zmQ h0 h1; ⟨c,e⟩
theorem zb {a:Addr} {o:HO} (h:H a=none):zr H #[Th]:=fun b u e=>by rw [zm (zu e h)]; exact e
theorem zak {a:Addr} {o:HO} (s:zr H H') (h:H a=none):zr H (pB H' a o):=fun b u e=>by rw [zm (zu e h)]; exact s b u e
theorem zaq {n:Nat} (h:n<=10000):n < sizeLine:=by rw [bO]; lia
def zlm (K:aD):Sp:=fun vs H Q _=>∃ (a:Addr) (ns:List Int) (k:Int),vs = [.ref a,.int k]/\pA K H a #[EQ]/\ns.length<=63/\0<=k/\k<=1000/\∀ c:Int,Q (.int c) H
def zhi (many:Nat) (base:Int) (ds:List Int):Prop:=ds.length=many/\∀ d∈ds,0<=d/\d < base
def zjw (K:aD):Sp:=fun vs H Q _=>∃ (a:Addr) (ns:List Int) (k many base:Int),vs = [.ref a,.int k,.int many,.int base]/\pA K H a #[EQ]/\ns.length<=63/\0<=k/\k<=1000/\0<=many/\many<=1000/\0 < base/\base < 1073741824 /\
 ∀ (l:Addr) (ds:List Int) (H':Hp),H l=none->zr H H'->zhi many.toNat base ds->H' l=some #[VW]->Q #[Qy] H'
abbrev zoF:List V:=[.int 2147483647,.int 2147483629,.int 2147483587,.int 2147483579,.int 2147483563,.int 2147483549,.int 2147483543,.int 2147483497]
theorem zoG {m:Int} (h0:0<=m) (h1:m < 8):∃ q:Int,atI zoF m=some (.int q)/\0 < q/\q < 2147483648:=by
 have:m=0\/m=1\/m=2\/m=3\/m=4\/m=5\/m=6\/m=7:=by lia
 rcases this with e | e | e | e | e | e | e | e <;> subst e <;> exact⟨_,rfl,#[D],#[D]⟩
theorem zfB (j:Int):∃ q:Int,atI zoF (j % 8)=some (.int q)/\0 < q/\q < 2147483648:=zoG (bL _ #[D]) (bE _ #[D])
theorem gY {i:Nat} {x:V} {σ:L2.St} {A B:L2.St->Hp->Prop} (h:A #[Qh] H):zaI i x σ H (fun σ2 H2=>zoC σ2 H2 fun b H3=>if b=true then A σ2 H3 else B σ2 H3):=by
 show (if true=true then A #[Qh] H else B #[Qh] H);rw [if_pos rfl];exact h
structure Pl (mk mn p k:Int) (pl:List Int):Prop where
 pr:p∈zt
 k1:1<=k
 kk:k<=mk
 kl:k<=pl.length
 ln:(pl.length:Int)<=mn
 nd:pl.Nodup
 rg:∀ x∈pl,0<=x/\x < p
def zln (K:aD):Sp:=fun vs H Q _=>∃ (a:Addr) (ns:List Int) (at' mk mn:Int),vs = [.ref a,.int at',.int mk,.int mn]/\pA K H a #[EQ]/\ns.length<=63/\0<=at'/\at'<=1000/\1<=mk/\mk<=5/\mk<=mn/\mn<=16 /\
 ∀ (c tt:Addr) (p k:Int) (pl:List Int) (H':Hp),H c=none->zr H H'->Pl mk mn p k pl->H' c=some (.tup [.int p,.int k,.ref tt])->H' tt=some (.tup #[Se])->Q (.ref c) H'
theorem zqH {x y m:Int} (h0:0<=m) (h1:m < 2):∃ z:Int,atI [V.int x,V.int y] m=some (.int z)/\(z=x\/z=y):=by
 have:m=0\/m=1:=by lia
 rcases this with e | e <;> subst e
 ·exact⟨x,rfl,.inl rfl⟩
 ·exact⟨y,rfl,.inr rfl⟩
theorem zmR {k:Int} (h0:0<=k) (h1:k < ns.length):∃ c:Int,c∈ns/\atI #[EQ] k=some (.int c):=by
 obtain⟨c,e,h⟩:=zmQ h0 h1;exact⟨c,aU e,h⟩
theorem zgO {α β:Type} (f:α->β):∀ (l:List α) (k:Nat),(l.map f).eraseIdx k=(l.eraseIdx k).map f
 | [],_=>rfl
 | _ :: _,0=>rfl
 | a :: l,k+1=>by show f a :: (l.map f).eraseIdx k=f a :: (l.eraseIdx k).map f; rw [zgO f l k]
theorem zfC {α:Type}:∀ {l:List α} {k:Nat} {x:α},l[k]? = some x->(x :: l.eraseIdx k).Perm l
 | [],_,_,h=>by simp at h
 | a :: l,0,x,h=>by
  have e:a=x:=by simpa using h
  subst e;exact List.Perm.refl _
 | a :: l,k+1,x,h=>by
  have ih:=zfC (l:=l) (k:=k) (x:=x) (by simpa using h);exact (List.Perm.swap a x _).trans (ih.cons a)
theorem zoH {p:Int} {xs ls:List Int} {x:Int} (h:ls[k]? = some x) (nd:(xs++ls).Nodup) (rg:∀ y∈xs++ls,0<=y/\y < p):((xs++[x])++ls.eraseIdx k).Nodup/\∀ y∈(xs++[x])++ls.eraseIdx k,0<=y/\y < p:=by
 have hp:((xs++[x])++ls.eraseIdx k).Perm (xs++ls):=by
  rw [cK];exact (zfC h).append_left xs
 exact⟨hp.nodup_iff.mpr nd,fun y hy=>rg y (hp.mem_iff.mp hy)⟩
theorem zlo (p:Int):(zca 0 p.toNat).Nodup/\∀ y∈zca 0 p.toNat,0<=y/\y < p:=by
 unfold zca;constructor
 ·rw [fk,dE];exact (fk.mp (kM (n:=p.toNat))).imp fun {a b} G0=>by lia
 ·intro y hy;obtain⟨i,hi,e⟩:=aZ.mp hy;have:=bU.mp hi;lia
def zeK (K:aD):Sp:=fun vs H Q _=>∃ (p x:Int) (a:Addr) (cs:List Int),vs = [.int p,.ref a,.int x]/\(pA K H a #[RG]\/pK K H a #[RG])/\0 < p/\p<=97/\0<=x/\x < p/\Q (.int (zA p x cs)) H
def zjx (K:aD):Sp:=zeK K
theorem zgP {i:Nat} {c:Int} (hi:i < cs.length) (h:cs[cs.length - 1 - i]? = some c):cs.drop (cs.length - (i+1))=c :: cs.drop (cs.length - i):=by
 have e:cs.length - (i+1)=cs.length - 1 - i:=by lia
 have pT:cs.length - 1 - i < cs.length:=by lia
 rw [e,eP pT];have:cs[cs.length - 1 - i]=c:=by
  rw [aJ pT] at h;exact bJ h
 rw [this];congr 2;lia
theorem zaC {x:V} (h:#[RG][j]? = some x):∃ c,x = .int c/\cs[j]? = some c:=by
 rw [aF] at h;cases e:cs[j]? with
 | none=>rw [e] at h; cases h
 | some c=>rw [e] at h; exact⟨c,(bJ h).symm,rfl⟩
theorem zkq {p x pM power c:Int} {i:Nat} (h:cs[i]? = some c):lv p x pM power (cs.drop i)=lv p x ((pM+c*power) % p) (power*x % p) (cs.drop (i+1)):=by
 obtain⟨pT,e⟩:=aP.mp h;rw [eP pT,e];rfl
def zjy (K:aD):Sp:=fun vs H Q _=>∃ (p h:Int),vs = [.int p,.int h]/\p∈zt/\0<=h/\h < p/\Q (.int (inv p h)) H
def zqI (σ:L2.St):Nat:=match (σ[4]?:Option (Option V)) with
 | some (some (V.int l))=>l.toNat
 | _=>0
theorem zhj {p prod sq left:Int} {n:Nat} (h0:0 < left) (h1:left < 2 ^ (n+1)):zda p (n+1) prod sq left=zda p n (if left % 2=1 then prod*sq % p else prod) (sq*sq % p) (left / 2):=by
 show (if 0 < left then _ else _)=_;rw [if_pos h0]
theorem zim {p prod sq:Int}:∀ n,zda p n prod sq 0=prod
 | 0=>rfl
 | n+1=>by show (if (0:Int) < 0 then _ else prod)=prod; rw [if_neg #[D]]
theorem gY2 {i:Nat} {T:Addr} {x:V} {σ:L2.St} {A B:L2.St->Hp->Prop} (hT:pK K H T [x,y]) (h:A (#[Qh].set j (some y)) H) :
  zh1 K 2 #[SH] (.ref T) σ H (fun σ2 H2=>zoC σ2 H2 fun b H3=>if b=true then A σ2 H3 else B σ2 H3):=by
 refine⟨T,_,rfl,hT,rfl,x,_,rfl,y,_,rfl,rfl,?_⟩;show (if true=true then A (#[Qh].set j (some y)) H else B (#[Qh].set j (some y)) H);rw [if_pos rfl];exact h
theorem zin {f:Int->Int->Int} {bs:List Int} {i:Nat} {x y:Int} (hx:as[i]? = some x) (hy:bs[i]? = some y):#[T5].take (i+1)=#[T5].take i++[f x y]:=by
 have e:#[T5][i]? = some (f x y):=by rw [lO,hx,hy]
 rw [kz,e,mL]
def zpV (K:aD) (H:Hp) (a:Addr) (pJ:List (Int×Int)):Prop:=∃ bs:List Addr,pA K H a #[Ch]/\bs.length=pJ.length/\∀ (i:Nat) (b:Addr) (q:Int×Int),bs[i]? = some b->pJ[i]? = some q->H b=some (.tup [.int q.1,.int q.2])
theorem zio (n:Nat):(aQ n [V.int 0]).flatten=(aQ n (0:Int)).map V.int:=by
 induction n with
 | zero=>rfl
 | succ n ih=>rw [d8,gm,ih,d8]; rfl
theorem zoI {n:Nat} (h:j < n):ixN n (j:Int)=some j:=by
 unfold ixN;rw [if_pos #[O],if_pos #[O]];rfl
theorem zQ {bs:List Addr} {i:Nat} {x:V} (h:#[Ch][i]? = some x):∃ b,x = .ref b/\bs[i]? = some b:=by
 rw [aF] at h;cases e:bs[i]? with
 | none=>rw [e] at h; cases h
 | some b=>rw [e] at h; exact⟨b,(bJ h).symm,rfl⟩
theorem take_snoc {α:Type} {l:List α} {i:Nat} {x:α} (h:l[i]? = some x):l.take (i+1)=l.take i++[x]:=by
 rw [kz,h,mL]
theorem zfD {α:Type} {l:List α} {i:Nat} {x:α} (h:l[i]? = some x):l=l.take i++x :: l.drop (i+1):=by
 obtain⟨hi,e⟩:=aP.mp h; have:=dP i l;rw [eP hi,e] at this;exact this.symm
theorem zmS {f:Int->Int->Int} {bs:List Int} {n:Nat} (h1:n<=as.length) (h2:n<=bs.length) (h3:as.length<=n\/bs.length<=n):#[T5].length=n:=by
 rw [iw];lia
theorem zew {a b:Addr} {bs:List Int} {n:Nat} {f:Int->Int->Int} {g:TG} {Q:VK} (ha:H a=some (.lst (as.map V.int))) (hb:H b=some (.lst (bs.map V.int))) (h1:n<=as.length) (h2:n<=bs.length) (h3:as.length<=n\/bs.length<=n) (hn:n<=10000)
  (hs:∀ (i:Nat) (x y:Int) (H1:Hp) (T:Addr) (R:VK) (B:L2.St->Hp->Prop),as[i]? = some x->bs[i]? = some y->zr H H1->H1 T=none->R (.int (f x y)) (pB H1 T (.tup [.int x,.int y]))->g (.ref T) σ0 (pB H1 T (.tup [.int x,.int y])) fun σ2 H2=>ts σ2 H2 fun b H3=>if b=true then te σ2 H3 R else B σ2 H3)
  (hd:∀ D H1,zr H H1->H1 D=none->Q #[QE] (pB H1 D (.lst (#[T5].map V.int)))):cGo g ts te σ0 (zlg (pA K) (pA K) a b) Q H:=by
 have hl:=zmS (f:=f) h1 h2 h3;refine ze5 (n:=n) (fun i ys H'=>ys=(#[T5].take i).map V.int/\zr H H') ⟨#[M],fun _ _ e=>e⟩ ?_ ?_ ?_ ?_
 ·rintro i ys H3 hi ⟨_,s3⟩;obtain⟨x,hx⟩:∃ x,as[i]? = some x:=⟨as[i]'#[O],#[M]⟩;obtain⟨y,hy⟩:∃ y,bs[i]? = some y:=⟨bs[i]'#[O],#[M]⟩;exact⟨_,_,.int x,.int y,pA.of (s3 _ _ ha),pA.of (s3 _ _ hb),by rw [aF,hx]; rfl,by rw [aF,hy]; rfl⟩
 ·rintro ys H3 ⟨_,s3⟩;exact⟨_,_,pA.of (s3 _ _ ha),pA.of (s3 _ _ hb),by rw [aA,aA]; exact h3⟩
 ·rintro i x ys H3 H4 hi ⟨rfl,s3⟩ ⟨T,u,v,hT,rfl,rfl,hu,hv⟩;obtain⟨x,rfl,hx⟩:=zaC (hu _ (pA.of (s3 _ _ ha)));obtain⟨y,rfl,hy⟩:=zaC (hv _ (pA.of (s3 _ _ hb)));refine hs i x y H3 T _ _ hx hy s3 hT ⟨zaq ?_,?_,s3.trans (zb hT)⟩
  ·rw [aA];exact bR (iz _ _) #[O]
  ·rw [zin hx hy,aN];rfl
 ·rintro ys H3 D ⟨rfl,s3⟩ hD;rw [bC #[O]];exact hd D H3 s3 hD
theorem zbi {a:Addr} {xs fs:List V} {g:TG} {Q:VK} (ha:pA K H a xs) (hl:fs.length=xs.length) (hn:xs.length<=10000)
  (hs:∀ (i:Nat) (x y:V) (R:VK) (B:L2.St->Hp->Prop),xs[i]? = some x->fs[i]? = some y->R y H->g x σ0 H fun σ2 H2=>ts σ2 H2 fun b H3=>if b=true then te σ2 H3 R else B σ2 H3)
  (hd:∀ D,H D=none->Q #[QE] (pB H D (.lst fs))):cGo g ts te σ0 #[Wg] Q H:=by
 refine ze5 (n:=xs.length) (fun i ys H'=>ys=fs.take i/\H'=H) ⟨#[M],rfl⟩ ?_ ?_ ?_ ?_
 ·rintro i ys H3 hi ⟨_,rfl⟩;exact⟨_,xs[i],ha,#[M]⟩
 ·rintro ys H3 ⟨_,rfl⟩;exact⟨_,ha,aG _⟩
 ·rintro i x ys H3 H4 hi ⟨rfl,rfl⟩ ⟨rfl,hx⟩;have hy:fs[i]? = some fs[i]:=by simp
  refine hs i x fs[i] _ _ (hx _ ha) hy #[W5];rw [take_snoc hy]
 ·rintro ys H3 D ⟨rfl,rfl⟩ hD;rw [bC #[O]];exact hd D hD
theorem zgQ {a:Addr} {xs fs:List V} {g:TG} {Q:VK} (ha:pK K H a xs) (hl:fs.length=xs.length) (hn:xs.length<=10000)
  (hs:∀ (i:Nat) (x y:V) (R:VK) (B:L2.St->Hp->Prop),xs[i]? = some x->fs[i]? = some y->R y H->g x σ0 H fun σ2 H2=>ts σ2 H2 fun b H3=>if b=true then te σ2 H3 R else B σ2 H3)
  (hd:∀ D,H D=none->Q #[QE] (pB H D (.lst fs))):cGo g ts te σ0 #[Wf] Q H:=by
 refine ze5 (n:=xs.length) (fun i ys H'=>ys=fs.take i/\H'=H) ⟨#[M],rfl⟩ ?_ ?_ ?_ ?_
 ·rintro i ys H3 hi ⟨_,rfl⟩;exact⟨_,xs[i],ha,#[M]⟩
 ·rintro ys H3 ⟨_,rfl⟩;exact⟨_,ha,aG _⟩
 ·rintro i x ys H3 H4 hi ⟨rfl,rfl⟩ ⟨rfl,hx⟩;have hy:fs[i]? = some fs[i]:=by simp
  refine hs i x fs[i] _ _ (hx _ ha) hy #[W5];rw [take_snoc hy]
 ·rintro ys H3 D ⟨rfl,rfl⟩ hD;rw [bC #[O]];exact hd D hD
theorem ziq (ds:List Int) (lo hi:Option Int):∃ ms:List Int,zcQ #[Qc] lo hi=ms.map V.int/\ms.length<=ds.length:=by
 refine⟨(ds.drop (HT.sIx #[Qc].length 0 lo)).take (HT.sIx #[Qc].length #[Qc].length hi - HT.sIx #[Qc].length 0 lo),?_,?_⟩
 ·unfold zcQ; rw [im,kh]
 ·rw [bD,fm];lia
theorem zir {ms:List Int} {f:Int->V} {i:Nat} {x:V} (hx:#[QL][i]? = some x) (hy:(ms.map f)[i]? = some y):∃ c,ms[i]? = some c/\x = .int c/\y=f c:=by
 obtain⟨c,rfl,hc⟩:=zaC hx;rw [aF,hc] at hy;exact⟨c,hc,rfl,(bJ hy).symm⟩
def zhk (K:aD):Sp:=fun vs H Q _=>∃ (a:Addr) (ns:List Int),vs = [.ref a]/\pA K H a #[EQ]/\ns.length<=63/\∀ H',Q (.bl true) H'
end
end My
end
section
namespace PySem
abbrev IsZ (h:Heap) (z TI TO:Addr) (f0 f1:Value):Prop:=h.get? z=some { cls:=.type "zip",dict:=none,data:=.fields #[f0,f1,.bool false,.ref TI,.ref TO],slots:=#[] }
def ZF (f0 f1:Value):Prop:=(f0 = .none\/∃ a t,f0 = .int a t)/\∃ b,f1 = .bool b
structure Zap (z TI TO i1 i2:Addr) (uq ur:List Addr):Prop where
 zTI:TI≠z
 zTO:TO≠z
 z1:i1≠z
 z2:i2≠z
 TT:TI≠TO
 T1:TI≠i1
 T2:TI≠i2
 O1:TO≠i1
 O2:TO≠i2
 ii:i1≠i2
 a1:z∉uq
 a2:TO∉uq
 a3:i2∉uq
 b1:z∉ur
 b2:TO∉ur
 b3:i1∉ur
section
variable {prog:Program} {w:World} {A:Around} {E:Value->Shared->Prop} {s:Shared}
theorem zlp {a:Addr} {Q:Option Obj->Shared->Prop} (h:Q (s.heap.get? a) s):wpAny #[ul] A (loadIfAlive a) Q E s:=fun _ _ _=>h
theorem zmT {z TI TO:Addr} {f0 f1:Value} {Q:Bool->Shared->Prop} (hz:IsZ s.heap z TI TO f0 f1) (hf:ZF f0 f1) (h1:Q true s)
  (h2:∀ h',IsZ h' z TI TO f0 #[Sd]->cM z s.heap h'->Q false { s with heap:=h' }):wpAny #[ul] A (dC #[RX]) Q E s:=by
 obtain⟨hf,b,rfl⟩:=hf;unfold dC; rcases hf with rfl | ⟨a,t,rfl⟩
 ·exact aB (cT hz rfl (x:=.none) rfl (aI h1))
 ·refine aB (cT hz rfl (x:=.int a t) rfl ?_);refine aB (zlp ?_);cases s.heap.get? a.toNat with
  | none=>exact aI h1
  | some o =>
   refine aB (cT hz rfl (x:=.bool b) rfl ?_);cases b with
   | true=>exact aI (h2 s.heap hz #[Ui])
   | false=>exact aB (dv hz #[M] fun h' a' b'=>aI (h2 h' a' b'))
theorem zkr {z TI TO i1 i2:Addr} {uq ur:List Addr} {n1 n2 k1 k2:Nat} {P1 P2:Nat->Value->Prop} {S1 S2:Nat->Heap->Prop} {f0 f1 a b:Value} {Q:Value->Shared->Prop} (D1:Draws prog w A i1 uq n1 P1 S1) (D2:Draws prog w A i2 ur n2 P2 S2) (Z:Zap z TI TO i1 i2 uq ur)
  (hz:IsZ s.heap z TI TO f0 f1) (hf:ZF f0 f1) (yf:IsPair s.heap TI #[Tg] #[Tf]) (Ae:IsPair s.heap TO a b) (rK:S1 k1 s.heap) (qi:S2 k2 s.heap) (l1:k1 < n1) (l2:k2 < n2)
  (hQ:∀ x y h' tk g0 g1 a' b',P1 k1 x->P2 k2 y->IsZ h' z TI TO g0 g1->ZF g0 g1->IsPair h' TI #[Tg] #[Tf]->IsPair h' TO a' b'->S1 (k1+1) h'->S2 (k2+1) h'->IsPair h' s.heap.objs.size x y->h'.objs.size=s.heap.objs.size+1 ->
   (∀ c o,c≠z->c≠TO->c≠i1->c≠i2->s.heap.get? c=some o->h'.get? c=some o)->Q #[ww] { s with heap:=h',toks:=tk }):wpAny #[ul] A (Builtin.«zip.__next__» ⟨[.ref z],[]⟩) (fun fin s'=>∃ v,fin = .done (.ret v)/\Q v s') E s:=by
 obtain⟨hp,g,d,G1,os⟩:=s;show wpAny _ _ (field #[RX] 2 >>= _) _ _ _; refine aB #[Vd]; show wpAny _ _ (field #[RX] 3 >>= _) _ _ _;refine aB #[Wu]; refine aB (et yf rfl ?_);show wpAny _ _ (dC #[RX] >>= _) _ _ _; refine aB (zmT hz hf ?_ fun h0 hz0 wH=>?_)
 ·simp only [if_true];refine aB #[UE];refine aB (dv hz #[M] fun ha Cs vO=>?_);replace Cs:IsZ ha z TI TO .ellipsis f1:=Cs;replace vO:cM z hp ha:=vO;refine aB ?_;simp only [oq,oK,gg,iS]; refine aB (aB (jh ?_)); show wpAny _ _ (cF #[Tg] >>= _) _ _ _;refine aB (D1.item k1 _ _ _ l1 (D1.frame _ _ _ rK fun c hc o e=>vO.extBut c o (fun q=>Z.a1 (q ▸ hc)) e) fun x hb Fl px Fm qO=>aI ?_);replace qO:cM i1 ha hb:=qO;have AE:IsPair hb TO a b:=qO.extBut _ _ Z.O1 (vO.extBut _ _ Z.zTO Ae);refine aB (et AE rfl (aB (jF AE fun hc BJ yg=>?_)));replace BJ:IsPair hc TO x b:=BJ;replace yg:cM TO hb hc:=yg;refine aB (gS (aI (aB (aB (jh ?_))))); show wpAny _ _ (cF #[Tf] >>= _) _ _ _;refine aB (D2.item k2 _ _ _ l2 (D2.frame _ _ _ qi fun c tH o e=>yg.extBut c o (fun q=>Z.b2 (q ▸ tH)) (qO.extBut c o (fun q=>Z.b3 (q ▸ tH)) (vO.extBut c o (fun q=>Z.b1 (q ▸ tH)) e))) fun y hd IK py IL uR=>aI ?_);replace uR:cM i2 hc hd:=uR;have BK:IsPair hd TO x b:=uR.extBut _ _ Z.O2 BJ;refine aB (et BK rfl (aB (jF BK fun he BL Dd=>?_)));replace BL:IsPair he TO x y:=BL;replace Dd:cM TO hd he:=Dd;refine aB (gS #[VV]); refine aB (et BL rfl (aB (jS ?_)));have hsz:he.objs.size=hp.objs.size:=by rw [Dd.1,uR.1,yg.1,qO.1,vO.1]
  have hze:IsZ he z TI TO .ellipsis f1:=Dd.extBut _ _ Z.zTO.symm (uR.extBut _ _ Z.z2.symm #[Ss]);have kk:∀ c o,c≠z->c≠TO->c≠i1->c≠i2->hp.get? c=some o->he.get? c=some o:=fun c o c1 c2 c3 c4 e=>Dd.extBut _ _ c2 (uR.extBut _ _ c4 (yg.extBut _ _ c2 (qO.extBut _ _ c3 (vO.extBut _ _ c1 e))))
  have IM:S1 (k1+1) he:=D1.frame _ _ _ Fm fun c tH o e=>Dd.extBut c o (fun q=>Z.a2 (q ▸ tH)) (uR.extBut c o (fun q=>Z.a3 (q ▸ tH)) (yg.extBut c o (fun q=>Z.a2 (q ▸ tH)) e))
  have IP:S2 (k2+1) he:=D2.frame _ _ _ IL fun c tH o e=>Dd.extBut c o (fun q=>Z.b2 (q ▸ tH)) e
  have zlt:z < he.objs.size:=aW hze;show wpAny _ _ (eX #[RX] (.ref he.objs.size) >>= _) _ _ _;refine aB ?_;unfold eX; have yh:IsZ (he.push { cls:=.type "tuple",data:=.seq #[x,y] }) z TI TO .ellipsis f1:=aH _ hze;refine aB (dv yh #[M] fun h7 IQ Ct=>?_);replace IQ:IsZ h7 z TI TO (rawInt he.objs.size) f1:=IQ;refine dv IQ #[M] fun h8 G2 IS=>aI ⟨_,rfl,?_⟩
  replace G2:IsZ h8 z TI TO (rawInt he.objs.size) #[Wq]:=G2;have up:∀ c o,c≠z->he.get? c=some o->h8.get? c=some o:=fun c o c1 e=>IS.extBut _ _ c1 (Ct.extBut _ _ c1 (aH _ e))
  have Fn:IsPair h8 he.objs.size x y:=IS.extBut _ _ (iH zlt) (Ct.extBut _ _ (iH zlt) (aY _ rfl));have AF:h8.objs.size=he.objs.size+1:=by rw [IS.1,Ct.1,cZ]
  show Q (.ref he.objs.size) _;rw [hsz] at G2 Fn AF |-;exact hQ x y h8 IK _ _ _ _ px py G2 ⟨.inr ⟨_,_,rfl⟩,_,rfl⟩ (up _ _ Z.zTI #[UV]) (up _ _ Z.zTO BL) (D1.frame _ _ _ IM fun c tH o e=>up c o (fun q=>Z.a1 (q ▸ tH)) e) (D2.frame _ _ _ IP fun c tH o e=>up c o (fun q=>Z.b1 (q ▸ tH)) e) Fn AF fun c o c1 c2 c3 c4 e=>up c o c1 (kk c o c1 c2 c3 c4 e)
 ·simp only [cG,if_false]; replace wH:cM z hp h0:=wH;rw [show (#[bP i1,bP i2]:Array Value) = [bP i1,bP i2].toArray from rfl];simp only [nF,gg,iS];refine aB (aB (aB (cX ?_))); show wpAny _ _ (cF #[Tg] >>= _) _ _ _;refine aB (D1.item k1 _ _ _ l1 (D1.frame _ _ _ rK fun c hc o e=>wH.extBut c o (fun q=>Z.a1 (q ▸ hc)) e) fun x hb Fl px Fm qO=>aI (aI ?_));replace qO:cM i1 h0 hb:=qO;refine aB (aB (cX ?_)); show wpAny _ _ (cF #[Tf] >>= _) _ _ _;refine aB (D2.item k2 _ _ _ l2 (D2.frame _ _ _ qi fun c tH o e=>qO.extBut c o (fun q=>Z.b3 (q ▸ tH)) (wH.extBut c o (fun q=>Z.b1 (q ▸ tH)) e)) fun y hd IK py IL uR=>aI #[VV]);replace uR:cM i2 hb hd:=uR;show wpAny _ _ (newTuple [x,y] >>= _) _ _ _;refine aB (jS (aI ⟨_,rfl,?_⟩));have hsz:hd.objs.size=hp.objs.size:=by rw [uR.1,qO.1,wH.1]
  have kk:∀ c o,c≠z->c≠TO->c≠i1->c≠i2->hp.get? c=some o->hd.get? c=some o:=fun c o c1 c2 c3 c4 e=>uR.extBut _ _ c4 (qO.extBut _ _ c3 (wH.extBut _ _ c1 e))
  have G3:IsZ hd z TI TO f0 #[Sd]:=uR.extBut _ _ Z.z2.symm (qO.extBut _ _ Z.z1.symm hz0);have BK:IsPair hd TO a b:=uR.extBut _ _ Z.O2 (qO.extBut _ _ Z.O1 (wH.extBut _ _ Z.zTO Ae));have IT:S1 (k1+1) hd:=D1.frame _ _ _ Fm fun c tH o e=>uR.extBut c o (fun q=>Z.a3 (q ▸ tH)) e
  have up:∀ c o,hd.get? c=some o->(hd.push { cls:=.type "tuple",data:=.seq #[x,y] }).get? c=some o:=fun c o e=>aH _ e
  have Fn:IsPair (hd.push { cls:=.type "tuple",data:=.seq #[x,y] }) hd.objs.size x y:=aY _ rfl;have AF:(hd.push { cls:=.type "tuple",data:=.seq #[x,y] }).objs.size=hd.objs.size+1:=cZ ..;show Q (.ref hd.objs.size) _;rw [hsz] at Fn AF |-;exact hQ x y _ IK _ _ _ _ px py (up _ _ G3) ⟨hf.1,_,rfl⟩ (up _ _ #[UV]) (up _ _ BK) (D1.frame _ _ _ IT fun c _ o e=>up c o e) (D2.frame _ _ _ IL fun c _ o e=>up c o e) Fn AF fun c o c1 c2 c3 c4 e=>up c o (kk c o c1 c2 c3 c4 e)
theorem zmU {z TI TO i1 i2:Addr} {uq ur:List Addr} {n1 n2 k1 k2:Nat} {P1 P2:Nat->Value->Prop} {S1 S2:Nat->Heap->Prop} {f0 f1 a b:Value} {Q:Fin->Shared->Prop} (D1:Draws prog w A i1 uq n1 P1 S1) (D2:Draws prog w A i2 ur n2 P2 S2) (Z:Zap z TI TO i1 i2 uq ur)
  (hz:IsZ s.heap z TI TO f0 f1) (hf:ZF f0 f1) (yf:IsPair s.heap TI #[Tg] #[Tf]) (Ae:IsPair s.heap TO a b) (rK:S1 k1 s.heap) (qi:S2 k2 s.heap) (l1:k1=n1\/(k1 < n1/\k2=n2))
  (hE:∀ h' tk e,(∀ c o,c≠z->c≠TO->c≠i1->c≠i2->s.heap.get? c=some o->h'.get? c=some o)->(∃ o,h'.get? e=some o/\o.cls = .type "StopIteration")->E #[SQ] { s with heap:=h',toks:=tk }):wpAny #[ul] A (Builtin.«zip.__next__» ⟨[.ref z],[]⟩) Q E s:=by
 obtain⟨hp,g,d,G1,os⟩:=s;have nz:∀ {h:Heap} {e:Addr} {o:Obj} {x y:Value},IsZ h z TI TO x y->h.get? e=some o->o.cls = .type "StopIteration"->e≠z:=fun h1 h2 h3 q=>by subst q; rw [h1] at h2; cases h2; simp at h3
 show wpAny _ _ (field #[RX] 2 >>= _) _ _ _; refine aB #[Vd]; show wpAny _ _ (field #[RX] 3 >>= _) _ _ _;refine aB #[Wu]; refine aB (et yf rfl ?_);show wpAny _ _ (dC #[RX] >>= _) _ _ _; refine aB (zmT hz hf ?_ fun h0 hz0 wH=>?_)
 ·simp only [if_true];refine aB #[UE];refine aB (dv hz #[M] fun ha Cs vO=>?_);replace Cs:IsZ ha z TI TO .ellipsis f1:=Cs;replace vO:cM z hp ha:=vO;refine aB ?_;simp only [oq,oK,gg,iS]; refine aB (aB (jh ?_)); show wpAny _ _ (cF #[Tg] >>= _) _ _ _;have AG:S1 k1 ha:=D1.frame _ _ _ rK fun c hc o e=>vO.extBut c o (fun q=>Z.a1 (q ▸ hc)) e
  rcases l1 with rfl | ⟨l1,rfl⟩
  ·refine aB (D1.done _ _ _ AG fun hb e qO ⟨oe,Fo,Fp⟩=>?_);have hzb:IsZ hb z TI TO .ellipsis f1:=qO _ _ Z.z1.symm Cs;exact dv hzb #[M] fun h3 _ wI=>hE h3 G1 e (fun c o c1 _ c3 _ x=>wI.extBut _ _ c1 (qO _ _ c3 (vO.extBut _ _ c1 x))) ⟨oe,wI.extBut _ _ (nz hzb Fo Fp) Fo,Fp⟩
  ·refine aB (D1.item k1 _ _ _ l1 AG fun x hb Fl px Fm qO=>aI ?_);replace qO:cM i1 ha hb:=qO;have AE:IsPair hb TO a b:=qO.extBut _ _ Z.O1 (vO.extBut _ _ Z.zTO Ae);refine aB (et AE rfl (aB (jF AE fun hc BJ yg=>?_)));replace yg:cM TO hb hc:=yg;refine aB (gS (aI (aB (aB (jh ?_))))); show wpAny _ _ (cF #[Tf] >>= _) _ _ _;refine aB (D2.done _ _ _ (D2.frame _ _ _ qi fun c tH o e=>yg.extBut c o (fun q=>Z.b2 (q ▸ tH)) (qO.extBut c o (fun q=>Z.b3 (q ▸ tH)) (vO.extBut c o (fun q=>Z.b1 (q ▸ tH)) e))) fun hd e uR ⟨oe,Fo,Fp⟩=>?_);have G3:IsZ hd z TI TO .ellipsis f1:=uR _ _ Z.z2.symm #[Ss];exact dv G3 #[M] fun h3 _ wI=>hE h3 Fl e (fun c o c1 c2 c3 c4 x=>wI.extBut _ _ c1 (uR _ _ c4 (yg.extBut _ _ c2 (qO.extBut _ _ c3 (vO.extBut _ _ c1 x))))) ⟨oe,wI.extBut _ _ (nz G3 Fo Fp) Fo,Fp⟩
 ·simp only [cG,if_false]; replace wH:cM z hp h0:=wH;rw [show (#[bP i1,bP i2]:Array Value) = [bP i1,bP i2].toArray from rfl];simp only [nF,gg,iS];refine aB (aB (aB (cX ?_))); show wpAny _ _ (cF #[Tg] >>= _) _ _ _;have AG:S1 k1 h0:=D1.frame _ _ _ rK fun c hc o e=>wH.extBut c o (fun q=>Z.a1 (q ▸ hc)) e
  rcases l1 with rfl | ⟨l1,rfl⟩
  ·exact aB (D1.done _ _ _ AG fun hb e qO he=>hE hb G1 e (fun c o c1 _ c3 _ x=>qO _ _ c3 (wH.extBut _ _ c1 x)) he)
  ·refine aB (D1.item k1 _ _ _ l1 AG fun x hb Fl px Fm qO=>aI (aI ?_));replace qO:cM i1 h0 hb:=qO;refine aB (aB (cX ?_)); show wpAny _ _ (cF #[Tf] >>= _) _ _ _;exact aB (D2.done _ _ _ (D2.frame _ _ _ qi fun c tH o e=>qO.extBut c o (fun q=>Z.b3 (q ▸ tH)) (wH.extBut c o (fun q=>Z.b1 (q ▸ tH)) e)) fun hd e uR he=>hE hd Fl e (fun c o c1 _ c3 c4 x=>uR _ _ c4 (qO.extBut _ _ c3 (wH.extBut _ _ c1 x))) he)
theorem zoJ {e z TI TO i1 i2:Addr} {uq ur:List Addr} {n1 n2 i:Nat} {P1 P2:Nat->Value->Prop} {S1 S2:Nat->Heap->Prop} {f0 f1 a b old:Value} {Q:Option Value->Shared->Prop} (D1:Draws prog w A.in1.in1 i1 uq n1 P1 S1) (D2:Draws prog w A.in1.in1 i2 ur n2 P2 S2) (Z:Zap z TI TO i1 i2 uq ur)
  (he:IsEnum s.heap e z i old) (ez:e≠z) (eT:e≠TI) (eO:e≠TO) (e1:e≠i1) (e2:e≠i2) (ef1:e∉uq) (ef2:e∉ur)
  (hz:IsZ s.heap z TI TO f0 f1) (hf:ZF f0 f1) (yf:IsPair s.heap TI #[Tg] #[Tf]) (Ae:IsPair s.heap TO a b) (rK:S1 i s.heap) (qi:S2 i s.heap) (l1:i < n1) (l2:i < n2)
  (hQ:∀ x y h' tk g0 g1 a' b',P1 i x->P2 i y->IsEnumOut h' e z ((i:Int)+1) #[ww] #[Ev]->IsZ h' z TI TO g0 g1->ZF g0 g1->IsPair h' TI #[Tg] #[Tf]->IsPair h' TO a' b'->S1 (i+1) h'->S2 (i+1) h'->IsPair h' s.heap.objs.size x y ->
   IsPair h' #[Ev] (.int i tk) #[ww]->h'.objs.size=s.heap.objs.size+2 ->
   (∀ c o,c≠e->c≠z->c≠TO->c≠i1->c≠i2->s.heap.get? c=some o->h'.get? c=some o)->Q (some (.ref #[Ev])) { s with heap:=h',toks:=tk+1 }):wpAny #[ul] A (pyNext #[SQ]) Q E s:=by
 have hT:s.TypeIs #[SQ] "enumerate":=⟨_,he,rfl⟩; have yi:s.TypeIs #[RX] "zip":=⟨_,hz,rfl⟩;unfold pyNext;refine aB (eh (cP (name:=cQ "__next__") hT fq #[TN]));obtain⟨hp,g,d,G1,os⟩:=s;show wpAny _ _ (field #[SQ] 2 >>= _) _ _ _; refine aB #[VP];unfold cF; refine aB (cP (name:=cQ "__next__") yi fC #[Sa]);refine zkr D1 D2 Z hz hf yf Ae rK qi l1 l2 fun x y h1 tk g0 g1 a' b' px py uQ IU De Df Dh Di wR Dj kk=>aI ?_
 have Cu:IsEnum h1 e z i old:=kk _ _ ez eO e1 e2 he;have elt:e < hp.objs.size:=aW he;show wpAny _ _ (field #[SQ] 3 >>= _) _ _ ⟨h1,g,d,tk,os⟩; refine aB (cT Cu rfl (x:=rawInt i) rfl ?_);show wpAny _ _ (field #[SQ] 4 >>= _) _ _ ⟨h1,g,d,tk,os⟩; refine aB (cT Cu rfl (x:=.none) rfl ?_);show wpAny _ _ (mkInt i >>= _) _ _ ⟨h1,g,d,tk,os⟩; refine aB (wpAny_mkInt ?_);show wpAny _ _ (setField #[SQ] 3 (rawInt ((i:Int)+1)) >>= _) _ _ ⟨h1,g,d,tk+1,os⟩; refine aB (dv Cu #[M] fun h2 IV rG=>?_);replace rG:cM e h1 h2:=rG;replace IV:IsEnum h2 e z ((i:Int)+1) old:=IV;show wpAny _ _ (setField #[SQ] 4 .none >>= _) _ _ ⟨h2,g,d,tk+1,os⟩; refine aB (dv IV #[M] fun h3 Cv wI=>?_);replace wI:cM e h2 h3:=wI;replace Cv:IsEnum h3 e z ((i:Int)+1) old:=Cv;show wpAny _ _ (newTuple [.int i tk,.ref hp.objs.size] >>= _) _ _ ⟨h3,g,d,tk+1,os⟩; refine aB (jS ?_);have z3:h3.objs.size=hp.objs.size+1:=by rw [wI.1,rG.1]; exact Dj
 rw [z3];have G4:IsEnum (h3.push { cls:=.type "tuple",data:=.seq #[Qs] }) e z ((i:Int)+1) old:=aH _ Cv;have IW:=aY h3 (o:={ cls:=.type "tuple",data:=.seq #[Qs] }) rfl;rw [z3] at IW;have k4:∀ c o,c≠e->h1.get? c=some o->(h3.push { cls:=.type "tuple",data:=.seq #[Qs] }).get? c=some o:=fun c o ce x=>aH _ (wI.extBut c o ce (rG.extBut c o ce x))
 have z4:(h3.push { cls:=.type "tuple",data:=.seq #[Qs] }).objs.size=hp.objs.size+2:=by rw [cZ,z3]
 generalize h3.push { cls:=.type "tuple",data:=.seq #[Qs] }=h4 at G4 IW k4 z4 |-;show wpAny _ _ (dC #[SQ] >>= _) _ _ ⟨h4,g,d,tk+1,os⟩;refine aB ?_;unfold dC; refine aB (cT G4 rfl (x:=.none) rfl (aI ?_));simp only [if_true]; refine aB (dO (aB (cT G4 rfl (x:=old) rfl ?_)));refine aB (dv G4 #[M] fun h5 Er G5=>?_);replace G5:cM e h4 h5:=G5;replace Er:IsEnum h5 e z ((i:Int)+1) #[UR]:=Er;show wpAny _ _ (eX #[SQ] (.ref (hp.objs.size+1)) >>= _) _ _ ⟨h5,g,d,tk+1,os⟩;refine aB ?_;unfold eX; refine aB (dv Er #[M] fun h6 IX G6=>?_);replace G6:cM e h5 h6:=G6;replace IX:IsEnumOut h6 e z ((i:Int)+1) #[UR] (hp.objs.size+1):=IX;refine dv IX #[M] fun h7 IY Ct=>?_
 replace Ct:cM e h6 h7:=Ct;replace IY:IsEnumOut h7 e z ((i:Int)+1) #[UR] (hp.objs.size+1):=IY;have up:∀ c o,c≠e->h4.get? c=some o->h7.get? c=some o:=fun c o ce x=>Ct.extBut c o ce (G6.extBut c o ce (G5.extBut c o ce x))
 have z7:h7.objs.size=hp.objs.size+2:=by rw [Ct.1,G6.1,G5.1,z4]
 refine aB (gS (aI ⟨_,rfl,aI ?_⟩));exact hQ x y h7 tk g0 g1 a' b' px py IY (up _ _ ez.symm (k4 _ _ ez.symm uQ)) IU (up _ _ eT.symm (k4 _ _ eT.symm De)) (up _ _ eO.symm (k4 _ _ eO.symm Df))
  (D1.frame _ _ _ Dh fun c hc o x=>up c o (fun q=>ef1 (q ▸ hc)) (k4 c o (fun q=>ef1 (q ▸ hc)) x)) (D2.frame _ _ _ Di fun c hc o x=>up c o (fun q=>ef2 (q ▸ hc)) (k4 c o (fun q=>ef2 (q ▸ hc)) x))
  (up _ _ (iH elt) (k4 _ _ (iH elt) wR)) (up _ _ (iH (gn elt)) IW) z7 fun c o ce cz cO c1 c2 x=>up c o ce (k4 c o ce (kk c o cz cO c1 c2 x))
theorem zqJ {e z TI TO i1 i2:Addr} {uq ur:List Addr} {n1 n2 k:Nat} {i:Int} {P1 P2:Nat->Value->Prop} {S1 S2:Nat->Heap->Prop} {f0 f1 a b old:Value} {Q:Option Value->Shared->Prop} (D1:Draws prog w A.in1.in1 i1 uq n1 P1 S1) (D2:Draws prog w A.in1.in1 i2 ur n2 P2 S2) (Z:Zap z TI TO i1 i2 uq ur)
  (he:IsEnum s.heap e z i old) (hz:IsZ s.heap z TI TO f0 f1) (hf:ZF f0 f1) (yf:IsPair s.heap TI #[Tg] #[Tf]) (Ae:IsPair s.heap TO a b) (rK:S1 k s.heap) (qi:S2 k s.heap) (l1:k=n1\/(k < n1/\k=n2))
  (hQ:∀ h' tk,(∀ c o,c≠z->c≠TO->c≠i1->c≠i2->s.heap.get? c=some o->h'.get? c=some o)->Q none { s with heap:=h',toks:=tk }):wpAny #[ul] A (pyNext #[SQ]) Q E s:=by
 have hT:s.TypeIs #[SQ] "enumerate":=⟨_,he,rfl⟩; have yi:s.TypeIs #[RX] "zip":=⟨_,hz,rfl⟩;unfold pyNext;refine aB (eh (cP (name:=cQ "__next__") hT fq #[TN]));show wpAny _ _ (field #[SQ] 2 >>= _) _ _ _; refine aB #[VP];unfold cF; refine aB (cP (name:=cQ "__next__") yi fC #[Sa]);refine zmU D1 D2 Z hz hf yf Ae rK qi l1 fun h' tk x kk ⟨o,ho,hc⟩=>?_
 exact aB (gC (T:="StopIteration") (b:=true) ⟨o,ho,hc⟩ iR (aI (hQ h' tk kk)))
end
def zhl (x y:Value):Obj:={ cls:=.type "tuple",data:=.seq #[x,y] }
def zrR (a b:Addr):Obj:={ cls:=.type "zip",data:=.fields #[.none,.bool false,.bool false,.ref a,.ref b] }
def itO (C:String) (l:Addr):Obj:={ cls:=.type C,data:=.fields #[.ref l,.int 0 0] }
abbrev zt2 (C:String) (h:Heap) (l1 l2:Addr):Heap:=#[WK].push (itO C l2)
abbrev zt4 (C:String) (h:Heap) (l1 l2:Addr):Heap:=((zt2 C h l1 l2).push (zhl (.ref h.objs.size) (.ref #[WK].objs.size))).push (zhl .none .none)
abbrev zt5 (C:String) (h:Heap) (l1 l2:Addr):Heap:=(zt4 C h l1 l2).push (zrR (zt2 C h l1 l2).objs.size ((zt2 C h l1 l2).push (zhl (.ref h.objs.size) (.ref #[WK].objs.size))).objs.size)
def ItC (C:String) (h:Heap) (a l:Addr) (i:Nat):Prop:=∃ o,h.get? a=some o/\o.cls = .type C/\o.data = .fields #[.ref l,.int i 0]
structure SkH (C:String) (Is:Heap->Addr->Array Value->Prop):Prop where
 it:∀ {prog:Program} {w:World} {A:Around} {E:Value->Shared->Prop} {s:Shared} {l:Addr} {items:Array Value} {Q:Value->Shared->Prop},Is s.heap l items->Q #[ww] { s with heap:=s.heap.push (itO C l) }->wpAny #[ul] A (pyIter #[Qy]) Q E s
 pu:∀ {h:Heap} {l:Addr} {items:Array Value} (o:Obj),Is h l items->Is (h.push o) l items
 dr:∀ {prog:Program} {w:World} {A:Around},A.handled=none->∀ (it l:Addr),l≠it->∀ (items:Array Value),Draws prog w A it [it,l] items.size (fun i v=>items[i]? = some v) fun i h=>ItC C h it l i/\Is h l items
theorem skL:SkH "list_iterator" Heap.IsList:=⟨fun h q=>gT h q,fun o h=>Heap.IsList.push h o,fun hh it l ne items=>iT hh it l ne items⟩
theorem zis {C:String} {Is:Heap->Addr->Array Value->Prop} (S:SkH C Is) (l1 l2:Addr) (xs ys:Array Value):Meets (Builtin.«zip.__new__» ⟨[.type "zip",.ref l1,.ref l2],[]⟩) (fun _ R s=>s.heap.IsTuple l1 xs/\Is s.heap l2 ys/\R (.ok (.ret (.ref #[Uj].objs.size))) { s with heap:=zt5 C s.heap l1 l2 }) :=
 .of_wp fun prog w A R s h=>by
  obtain⟨hp,g,d,tk,os⟩:=s; obtain⟨wF,rX,h⟩:=h; have AB:=sub_zip;have AH:Heap.IsTuple #[Vw] l1 xs:=wF;have Cw:Is (lB ⟨hp.push { cls:=.type "tuple_iterator",data:=.fields #[.ref l1,.int 0 0] },g,d,tk,os⟩) l2 ys:=S.pu _ rX
  wp_walk using gL AH,S.it Cw
  exact⟨_,rfl,h⟩
section
variable {prog:Program} {w:World} {A:Around} {E:Value->Shared->Prop} {s:Shared}
theorem zfE {C:String} {Is:Heap->Addr->Array Value->Prop} (S:SkH C Is) {l1 l2:Addr} {xs ys:Array Value} {Q:Value->Shared->Prop} (wF:s.heap.IsTuple l1 xs) (rX:Is s.heap l2 ys)
  (h:∀ h' n,n=s.heap.objs.size->IsZ h' (n+4) (n+2) (n+3) .none #[Wq]->IsPair h' (n+2) (.ref n) #[UI]->IsPair h' (n+3) .none .none->h'.IsTupleIter n l1 0->ItC C h' (n+1) l2 0->h'.objs.size=n+5 ->
   (∀ c o,s.heap.get? c=some o->h'.get? c=some o)->Q #[UH] { s with heap:=h' }):wpAny #[ul] A (call (.type "zip") [.ref l1,.ref l2]) Q E s:=by
 refine kL F.called_zip #[D] (F.typeCall_zip_2 _ _) (F.newCall_zip_2 _ _) (fun obj=>F.args_object_init_3 obj _ _) F.entry_zip_new (zis S l1 l2 xs ys) ⟨wF,rX,?_⟩;have z1:#[P8].objs.size=s.heap.objs.size+1:=cZ ..;have z2:#[Ql].objs.size=s.heap.objs.size+2:=by rw [cZ,z1]
 have z3:(#[Ql].push (zhl #[ww] (.ref #[P8].objs.size))).objs.size=s.heap.objs.size+3:=by rw [cZ,z2]
 have z4:#[Uj].objs.size=s.heap.objs.size+4:=by rw [cZ,z3]
 have g5:=aY #[Uj] (o:=zrR #[Ql].objs.size (#[Ql].push (zhl #[ww] (.ref #[P8].objs.size))).objs.size) rfl;have g4:#[Qk].get? _=some _:=aH _ (aY (#[Ql].push (zhl #[ww] (.ref #[P8].objs.size))) (o:=zhl .none .none) rfl);have g3:#[Qk].get? _=some _:=aH _ (aH _ (aY #[Ql] (o:=zhl #[ww] (.ref #[P8].objs.size)) rfl));have g2:#[Qk].get? _=some _:=aH _ (aH _ (aH _ (aY #[P8] (o:=itO C l2) rfl)));have g1:#[Qk].get? s.heap.objs.size=some (zbO l1):=aH _ (aH _ (aH _ (aH _ (aY _ rfl))));have z5:#[Qk].objs.size=s.heap.objs.size+5:=by rw [cZ,z4]
 have k5:∀ c o,s.heap.get? c=some o->#[Qk].get? c=some o:=fun c o x=>aH _ (aH _ (aH _ (aH _ (aH _ x))))
 show _/\_;rw [z4] at g5 |-;rw [z3] at g4;rw [z2] at g3;rw [z1] at g2;refine⟨⟨_,g5,rfl⟩,h _ _ rfl ?_ ?_ g4 ⟨_,g1,rfl,rfl⟩ ⟨_,g2,rfl,rfl⟩ z5 k5⟩
 ·have:IsZ #[Qk] (s.heap.objs.size+4) #[Ql].objs.size (#[Ql].push (zhl #[ww] (.ref #[P8].objs.size))).objs.size .none #[Wq]:=g5;rw [z2,z3] at this;exact this
 ·have:IsPair #[Qk] (s.heap.objs.size+2) #[ww] (.ref #[P8].objs.size):=g3;rw [z1] at this;exact this
theorem zjz {l1 l2:Addr} {xs ys:Array Value} {Q:Value->Shared->Prop} (wF:s.heap.IsTuple l1 xs) (rX:s.heap.IsList l2 ys)
  (h:∀ h' n,n=s.heap.objs.size->IsZ h' (n+4) (n+2) (n+3) .none #[Wq]->IsPair h' (n+2) (.ref n) #[UI]->IsPair h' (n+3) .none .none->h'.IsTupleIter n l1 0->h'.IsListIter (n+1) l2 0->h'.objs.size=n+5 ->
   (∀ c o,s.heap.get? c=some o->h'.get? c=some o)->Q #[UH] { s with heap:=h' }):wpAny #[ul] A (call (.type "zip") [.ref l1,.ref l2]) Q E s:=zfE skL wF rX h
end
open AutoSeq1 (wpAny_loadPart') in
theorem zit (z TI TO:Addr) (f0:Value):Meets (Builtin.«enumerate.__new__» ⟨[.type "enumerate",.ref z],[]⟩) (fun _ R s=>IsZip s.heap z TI TO f0/\R (.ok (.ret #[ww])) { s with heap:=s.heap.push (zhg z) }) :=
 .of_wp fun prog w A R s h=>by
  obtain⟨hp,g,d,tk,os⟩:=s; obtain⟨hz,h⟩:=h;have hZ:IsZip #[Vw] z TI TO f0:=hz;have AB:=sub_enumerate; wp_walk using gM hz;refine wpAny_stack_any fun st=>aI ?_; split
  ·rename_i c _ _ _ _ _; cases (c == oC "enumerate") <;> (wp_walk using gM hz,jm hZ; exact⟨_,rfl,h⟩)
  ·wp_walk using gM hz,jm hZ; exact⟨_,rfl,h⟩
theorem zjA {prog:Program} {w:World} {A:Around} {E:Value->Shared->Prop} {s:Shared} {z TI TO:Addr} {f0:Value} {Q:Value->Shared->Prop} (hz:IsZip s.heap z TI TO f0)
  (h:∀ h',IsEnum h' s.heap.objs.size z 0 .none->h'.objs.size=s.heap.objs.size+1->(∀ b o,s.heap.get? b=some o->h'.get? b=some o)->Q #[ww] { s with heap:=h' }):wpAny #[ul] A (call (.type "enumerate") [.ref z]) Q E s:=by
 refine kL nE #[D] (lC _) (lM _) #[Vx] lN (zit z TI TO f0) ⟨hz,?_⟩;have he:=aY s.heap (o:=zhg z) rfl;exact⟨⟨_,he,rfl⟩,h _ he (cZ ..) fun b o x=>aH _ x⟩
end PySem
end
section
namespace L2
open PySem PySem.Spec PyProof.Rows
variable {K:aD} {P:Program} {j k:Nat} {pos:Pos}
noncomputable def zoK (uN uO:Hp->Addr->List V->Prop) (a b:Addr):It :=
 ⟨fun i H=>∃ xs ys x y,uN H a xs/\uO H b ys/\xs[i]? = some x/\ys[i]? = some y,
  fun i H x H'=>∃ T1 T2 u v,H T1=none/\H T2=none/\T1≠T2/\x = .ref T2/\H'=pB (pB H T1 (.tup [u,v])) T2 (.tup [.int i,.ref T1])/\(∀ xs,uN H a xs->xs[i]? = some u)/\∀ ys,uO H b ys->ys[i]? = some v,
  fun i H=>∃ xs ys,uN H a xs/\uO H b ys/\xs.length=i⟩
abbrev zfF (n:Nat):List Addr:=[n+5,n+4,n+2,n+3,n,n+1]
abbrev zqK (n a b:Nat) (i:Nat) (h:Heap):Prop:=(∃ old,IsEnum h (n+5) (n+4) i old)/\(∃ f0 f1,IsZ h (n+4) (n+2) (n+3) f0 f1/\ZF f0 f1)/\IsPair h (n+2) (.ref n) #[UI]/\(∃ u v,IsPair h (n+3) u v)/\h.IsTupleIter n a i/\h.IsListIter (n+1) b i
theorem nq {x y:Nat} (h:x≠y):@Ne Addr x y:=h
theorem nl {x y:Nat} (h:x < y):@LT.lt Nat _ x y:=h
theorem nm2 {c x y:Nat} (h1:c≠x) (h2:c≠y):¬ @Membership.mem Addr (List Addr) _ [x,y] c:=fun h=>by
 rcases aR.mp h with e | e
 ·exact h1 e
 ·exact h2 (bF.mp e)
theorem zdc {n a b:Nat} (ha:a < n) (hb:b < n):Zap (n+4) (n+2) (n+3) n (n+1) [n,a] [n+1,b] :=
 ⟨nq #[O],nq #[O],nq #[O],nq #[O],nq #[O],nq #[O],nq #[O],nq #[O],nq #[O],nq #[O],nm2 #[O] #[O],nm2 #[O] #[O],nm2 #[O] #[O],nm2 #[O] #[O],nm2 #[O] #[O],nm2 #[O] #[O]⟩
theorem zoL {w:World} {es:List Expr} (a b n:Nat) (ha:a < n) (hb:b < n):Turn P w K #[Q9] (zoK (pK K) (pA K) a b) (zfF n) (n+5) (zqK n a b) where
 mem:=by simp
 obj:=fun i h st c hc=>by
  obtain⟨⟨old,h0⟩,⟨f0,f1,h1,_⟩,h2,⟨u,v,h3⟩,⟨o4,e4,_,d4⟩,⟨o5,e5,_,d5⟩⟩:=st;simp only [zfF,aR,bS,or_false] at hc;rcases hc with z | z | z | z | z | z <;> subst z
  ·exact⟨_,h0,fun v z=>by cases z⟩
  ·exact⟨_,h1,fun v z=>by cases z⟩
  ·exact⟨_,h2,fun v z=>by cases z⟩
  ·exact⟨_,h3,fun v z=>by cases z⟩
  ·exact⟨_,e4,fun v z=>by rw [d4] at z; cases z⟩
  ·exact⟨_,e5,fun v z=>by rw [d5] at z; cases z⟩
 keep:=fun i h h' st kk=>by
  obtain⟨⟨old,h0⟩,⟨f0,f1,h1,hf⟩,h2,⟨u,v,h3⟩,h4,h5⟩:=st;exact⟨⟨old,kk _ #[M] _ h0⟩,⟨f0,f1,kk _ #[M] _ h1,hf⟩,kk _ #[M] _ h2,#[T6],h4.at fun o eo=>kk _ #[M] o eo,h5.at fun o eo=>kk _ #[M] o eo⟩
 item:=by
  intro X hP hw hK hc i pv s σ H E I hf st hg;subst hP hw hK;obtain⟨xs,ys,x,y,sL,qZ,hx,hy⟩:=hg;obtain⟨⟨old,h0⟩,⟨f0,f1,h1,yh⟩,h2,⟨u0,v0,h3⟩,h4,h5⟩:=st;obtain⟨qb,uP,p1,uQ⟩:=I.tuple sL;obtain⟨p4,vd,p2,vG⟩:=I.list qZ;obtain⟨u,hu,ru⟩:=uP.get hx;obtain⟨v,hv,rv⟩:=vd.get hy;have yd:n+5 < s.heap.objs.size:=aW h0;have hh:X.A.in1.in1.handled=none:=by simp [I.ok.hd hc]
  have tF:i < qb.toArray.size:=by have:=(aP.mp hu).1; simpa using this
  have tG:i < p4.toArray.size:=by have:=(aP.mp hv).1; simpa using this
  refine zoJ #[Qj] #[WY] #[UY] h0 #[Ro] #[Ro] #[Ro] #[Ro] #[Ro] (nm2 #[O] #[O]) (nm2 #[O] #[O]) h1 yh h2 h3 ⟨h4,(show s.heap.IsTuple a qb.toArray from p1)⟩ ⟨h5,p2.isList⟩ tF tG
   fun x' y' h' tk g0 g1 a' b' px py eo ez Fq e2 e3 t4 t5 pp pe hsz kk=>?_
  have eu:x'=u:=by
   have e1:qb[i]? = some x':=by simpa using px
   rw [hu] at e1; exact (bJ e1).symm
  have ev:y'=v:=by
   have e1:p4[i]? = some y':=by simpa using py
   rw [hv] at e1; exact (bJ e1).symm
  subst eu ev;have ch:∀ c∈[n+5,n+4,n+3,n,n+1],c∈zfF n:=fun c pL=>by
   simp only [zfF,aR,bS,or_false] at pL |-;rcases pL with z | z | z | z | z <;> subst z <;> simp
  have k1:∀ c o,c∉[n+5,n+4,n+3,n,n+1]->s.heap.get? c=some o->h'.get? c=some o:=fun c o pL eo=>by
   simp only [aR,bS,or_false,not_or] at pL;exact kk c o pL.1 pL.2.1 pL.2.2.1 pL.2.2.2.1 pL.2.2.2.2 eo
  have BH:∀ c∈[n+5,n+4,n+3,n,n+1],∃ o,h'.get? c=some o:=fun c pL=>by
   simp only [aR,bS,or_false] at pL;rcases pL with z | z | z | z | z <;> subst z
   ·exact⟨_,eo⟩
   ·exact⟨_,ez⟩
   ·exact⟨_,e3⟩
   ·obtain⟨o,e,_⟩:=t4.1; exact⟨o,e⟩
   ·obtain⟨o,e,_⟩:=t5.1; exact⟨o,e⟩
  have I1:Inv X pv σ (pB H s.heap.objs.size (.tup [x,y])) { s with heap:=h',toks:=tk+1 } :=
   I.LJ k1 (fun c pL=>hf c (ch c pL)) BH (aG _) #[T9]
  have wD:H #[Ev]=none:=I.hok.fresh (ir _);have IZ:pB H s.heap.objs.size (.tup [x,y]) #[Ev]=none:=by rw [zm (jl _)]; exact wD
  obtain⟨_,a1,a2,a3,a4,a5⟩:=I.Ny (H':=H) (ir s.heap.objs.size) wD;have I1':Inv X pv σ (pB (pB H s.heap.objs.size (.tup [x,y])) #[Ev] (.tup [.int i,.ref s.heap.objs.size])) { s with heap:=h',toks:=tk+1 } :=
   I1.OP IZ (bR I.sz (ir _)) (eG a1) a4 a5 ⟨zaO,_,.cons ⟨tk,rfl⟩ (.cons rfl .nil),zbt pe⟩
  refine⟨_,rfl,il eo fun Ad uy qN=>?_⟩;have fr:∀ c∈zfF n,pB (pB H s.heap.objs.size (.tup [x,y])) #[Ev] (.tup [.int i,.ref s.heap.objs.size]) c=none:=fun c pL=>by
   have pT:c < s.heap.objs.size:=by
    simp only [zfF,aR,bS,or_false] at pL;rcases pL with z | z | z | z | z | z <;> subst z <;> exact nl #[O]
   rw [zm (bT (gn pT)),zm (bT pT)];exact (hf c pL).1
  have I2:Inv X pv σ (pB (pB H s.heap.objs.size (.tup [x,y])) #[Ev] (.tup [.int i,.ref s.heap.objs.size])) { s with heap:=Ad,toks:=tk+1 } :=
   Inv.Ml (s:={ s with heap:=h',toks:=tk+1 }) (ch:=[n+5]) (t':=tk+1) I1' (fun c o pL eo=>qN.extBut c o (by simpa using pL) eo) (fun c pL=>by
    have z:c=n+5:=by simpa using pL
    subst z;exact⟨fr _ #[M],(hf _ #[M]).2⟩) (fun c pL=>by
    have z:c=n+5:=by simpa using pL
    subst z;exact⟨_,uy⟩)
  have up:∀ c o,c≠n+5->h'.get? c=some o->Ad.get? c=some o:=fun c o pL e=>qN.extBut c o pL e
  exact⟨.ref #[Ev],_,I2,rfl,⟨_,_,x,y,I.fresh,wD,bT (oj _),rfl,rfl,fun zs hz=>by rw [I.LK hz sL]; exact hx,fun zs hz=>by rw [I.LC hz qZ]; exact hy⟩,
   ⟨⟨_,by simpa using uy⟩,⟨g0,g1,up _ _ #[Ro] ez,Fq⟩,up _ _ #[Ro] e2,⟨_,_,up _ _ #[Ro] e3⟩,t4.1.at fun o e=>up _ o #[Ro] e,t5.1.at fun o e=>up _ o #[Ro] e⟩,fr⟩
 done:=by
  intro X hP hw hK hc i pv s σ H E I hf st hg;subst hP hw hK;obtain⟨xs,ys,sL,qZ,hx⟩:=hg;obtain⟨⟨old,h0⟩,⟨f0,f1,h1,yh⟩,h2,⟨u0,v0,h3⟩,h4,h5⟩:=st;obtain⟨qb,uP,p1,uQ⟩:=I.tuple sL;obtain⟨p4,vd,p2,vG⟩:=I.list qZ;have hh:X.A.in1.in1.handled=none:=by simp [I.ok.hd hc]
  have wF:=uP.length;refine zqJ #[Qj] #[WY] #[UY] h0 h1 yh h2 h3 ⟨h4,(show s.heap.IsTuple a qb.toArray from p1)⟩ ⟨h5,p2.isList⟩ (.inl (by rw [aO]; lia)) fun h' tk kk=>#[Uc]
  have sub:∀ c∈[n+4,n+3,n,n+1],c∈zfF n:=fun c pL=>by
   simp only [zfF,aR,bS,or_false] at pL |-;rcases pL with z | z | z | z <;> subst z <;> simp
  have k1:∀ c o,c∉[n+4,n+3,n,n+1]->s.heap.get? c=some o->h'.get? c=some o:=fun c o pL e=>by
   simp only [aR,bS,or_false,not_or] at pL;exact kk c o pL.1 pL.2.1 pL.2.2.1 pL.2.2.2 e
  have vK:∀ d u',H d=some u'->d∉[n+4,n+3,n,n+1]:=fun d u' e' hd=>by rw [(hf d (sub d hd)).1] at e'; cases e'
  refine I.step (g':=s.gens) (d':=s.drawn) (t':=tk) (ch:=[n+4,n+3,n,n+1]) #[VY] #[RT] #[QS] #[Rz]
   (fun c o qz e=>⟨o,k1 c o qz e⟩) #[Rl] #[Sh] (fun c ps e=>⟨#[],by rw [e]; simp⟩) #[Td] #[U9] I.bare
  ·obtain⟨_,a1,_,a3,a4,a5⟩:=hf c (sub c pL);exact⟨a3,a1,a4,a5⟩
  ·obtain⟨o,y9,ep,ho,r⟩:=hm;exact⟨o,y9,ep,k1 _ o (fun z=>(hf _ (sub _ z)).2.1 rfl) ho,r⟩
  ·refine #[Wn].NI #[SJ] #[Sv] fun _ _ q=>q
   rcases hd with z | z
   ·rw [z]; exact vK c u e
   ·exact vK d _ z
 self:=fun _ _ _ _ _ st h=>by
  obtain⟨⟨old,he⟩,_⟩:=st;exact gp he h
def iEZ (uN uO:Hp->Addr->List V->Prop) (ta:TA):TI:=fun σ H R=>ta σ H fun vs H1=>∃ a b xs ys,vs = [.ref a,.ref b]/\uN H1 a xs/\uO H1 b ys/\R (zoK uN uO a b) H1
theorem zjB {X:Cx} {es:List Expr} {k:Nat} {rj p p2 pos qB:Pos} {a b:Expr} {ta:TA} (hg:Gl X "enumerate") (hm:X.mg "enumerate" = none) (BM:Gl X "zip") (wJ:X.mg "zip" = none) (ha:PA X [a,b] ta) (hs:starEach [a,b] X.env = [#[GM],#[IN]]:=by rfl) (rG:starEach [b] X.env = [#[IN]]:=by rfl)
  (wI:starEach [.Call (.Name "zip" p2) [a,b] [] qB] X.env = [(false,eval (.Call (.Name "zip" p2) [a,b] [] qB) X.env)]:=by rfl) :
  PI X #[QM] (.Call (.Name "enumerate" p) [.Call (.Name "zip" p2) [a,b] [] qB] [] pos) (iEZ #[Wx] #[Vg] ta):=by
 intro pv s σ H R I h;refine Call_ (za4 I hg hm lK (cD ?_ wI rfl));rw [wI];show wpAny _ _ (spliced ((false,eval (.Call (.Name "zip" p2) [a,b] [] qB) X.env) :: [])) _ _ s;refine fZ ?_;refine Call_ (za4 I BM wJ om (cD (thn (ha qB pv s σ H _ I h) fun us s1 ⟨vs,H1,I1,r1,q1⟩=>?_) (by rw [hs,rG]) (by rw [rG]; rfl)));obtain⟨l1,l2,xs,ys,e,sL,qZ,q⟩:=q1;subst e;cases r1 with
 | cons r rr =>
  cases rr with
  | cons r' rr =>
   cases rr;cases r;cases r';obtain⟨qb,uP,AA,uQ⟩:=I1.tuple sL;obtain⟨p4,vd,Bo,vG⟩:=I1.list qZ;have tF:l1 < s1.heap.objs.size:=by obtain⟨_,e,_⟩:=AA; exact aW e
   have tG:l2 < s1.heap.objs.size:=by obtain⟨_,_,e,_⟩:=Bo; exact aW e
   refine zjz (show s1.heap.IsTuple l1 qb.toArray from AA) Bo.isList fun h' n hn b1 b2 b3 b4 b5 b6 kk=>?_
   refine gU ?_;refine zjA b1 fun h2 he hsz Bp=>?_
   have I2:Inv X pv σ H1 { s1 with heap:=h2 }:=I1.kept (t':=s1.toks) fun c o e=>Bp c o (kk c o e)
   refine gp he ?_; have e5:h'.objs.size=n+5:=b6;have BI:IsEnum h2 (n+5) (n+4) 0 .none:=by rw [<- e5]; exact he
   refine⟨_,zfF n,zqK n l1 l2,zoK #[Wx] #[Vg] l1 l2,H1,rfl,I2,?_,⟨⟨_,BI⟩,⟨_,_,Bp _ _ b1,.inl rfl,_,rfl⟩,Bp _ _ b2,⟨_,_,Bp _ _ b3⟩,b4.at fun o e=>Bp _ o e,b5.at fun o e=>Bp _ o e⟩,fun c hc=>?_,q⟩
   ·show Turn X.prog X.w X.K #[QM] (zoK #[Wx] #[Vg] l1 l2) (zfF n) h'.objs.size (zqK n l1 l2);rw [e5];exact zoL l1 l2 n (by rw [hn]; exact tF) (by rw [hn]; exact tG)
   ·have hle:s1.heap.objs.size<=c:=by
     simp only [zfF,aR,bS,or_false] at hc;rw [<- hn];rcases hc with z | z | z | z | z | z <;> subst z
     all_goals first | exact kN _ _ | exact aG _
    exact I1.Ny hle #[Rv]
theorem zdX:∀ (bs:List Bool),(bA bs.length).all (fun i=>bs.getD i false)=bs.all id
 | []=>rfl
 | b :: bs=>by
  rw [dM,gR,mM,List.all_map,mM];have ih:=zdX bs;have e:((fun i=>(b :: bs).getD i false) ∘ oo)=fun i=>bs.getD i false:=by funext i; rfl
  rw [e,ih];rfl
theorem zlq {X:Cx} (hc:X.calm=true):zbh X (.builtin "all") (fun xs H Q=>∃ (p:Addr) (bs:List Bool),xs = [.ref p]/\pA X.K H p #[Wm]/\Q (.bl (bs.all id)) H):=by
 intro pv s σ H xs us Q I r h;obtain⟨p,bs,rfl,hq,q⟩:=h;obtain⟨u,rfl,rx⟩:=vals1 r;cases rx;obtain⟨pC,rv,pl,hz⟩:=I.list hq;have hl:=rv.length;rw [aA] at hl;have pT:p < s.heap.objs.size:=by obtain⟨_,_,e,_⟩:=pl; exact aW e
 refine call_all_walk (gT pl.isList ?_);refine⟨s.heap.objs.size,_,_,pC.toArray.size,_,_,fun i=>bs.getD i false,rfl,oM (by simp [I.ok.hd hc]) s.heap.objs.size p (bT pT) pC.toArray,⟨⟨_,aY _ rfl,rfl,rfl⟩,pl.isList.push _⟩,fun i v s' Q' E' hP hQ=>?_,fun h' tk kk=>?_⟩
 ·have e1:pC[i]? = some v:=by simpa using hP
  obtain⟨hi,_⟩:=aP.mp e1;have qF:i < bs.length:=by lia
  obtain⟨u,hu,ru⟩:=rv.get (i:=i) (x:=V.bl bs[i]) (by rw [aF,aJ qF]; rfl);rw [e1] at hu;cases hu;have ru:v=hU bs[i]:=ru;subst ru;have e2:bs.getD i false=bs[i]:=by simp [qF]
  have hQ:Q' (bs.getD i false) s':=hQ;rw [e2] at hQ;exact fL hQ
 ·rw [aO,<- hl,zdX];exact⟨.bl (bs.all id),H,I.kept fun b o e=>kk b o (fun z=>by
   have z:b=s.heap.objs.size:=by simpa using z
   exact absurd (aW e) (by rw [z]; exact dI _)) (aH _ e),rfl,q⟩
theorem zjC {i:Nat}:∀ (x:V) (σ:St) (H:Hp) (Q Q':St->Hp->Prop),(∀ σ' H',Q σ' H'->Q' σ' H')->zh1 K 2 #[SH] x σ H Q->zh1 K 2 #[SH] x σ H Q':=fun x σ H Q Q' hq ⟨a,xs,e1,h1,h2,v,r,e3,v2,r2,e4,e5,h⟩=>⟨a,xs,e1,h1,h2,v,r,e3,v2,r2,e4,e5,hq _ _ h⟩
end L2
end
section
namespace My
open PySem L2 PyProof.Rows
variable {H H':Hp} {j:Nat} {pl:List Int} {rw:List #[IO]}
section
variable {K:aD}
def zsF (H:Hp):V->Option (List V)
 | .ref a=>match H a with
  | some #[Q8]=>some xs
  | _=>none
 | _=>none
def zbu (H:Hp) (c tt:Addr) (p k:Int) (pl:List Int):Prop:=H c=some (.tup [.int p,.int k,.ref tt])/\H tt=some (.tup #[Se])
theorem zbu.same {c tt:Addr} {p k:Int} (s:zr H H') (h:zbu H c tt p k pl):zbu H' c tt p k pl:=⟨s _ _ h.1,s _ _ h.2⟩
def tS:Option Int->V
 | none=>.non
 | some i=>.int i
def zgR (p:Int) (pl:List Int) (rw:List #[IO]) (qc:List Int) (j:Nat):Bool:=match pl[j]?,rw[j]? with
 | some x,some (some i)=>decide (i=zA p x qc)
 | _,_=>false
def zeU (p:Int) (pl:List Int) (rw:List #[IO]) (qc:List Int) (n:Nat):List Int:=((bA n).filter (zgR p pl rw qc)).map fun (j:Nat)=>(j:Int)
theorem zgS {p:Int} {qc:List Int} {n:Nat}:zeU p pl rw qc (n+1)=zeU p pl rw qc n++if zgR p pl rw qc n then [(n:Int)] else []:=by
 unfold zeU;rw [fE,eE,aN];congr 1;by_cases h:zgR p pl rw qc n=true
 ·rw [if_pos h]; simp [h]
 ·rw [if_neg h]; simp [h]
theorem ziu (p:Int) (pl:List Int) (rw:List #[IO]) (qc:List Int) (n:Nat):(zeU p pl rw qc n).length<=n:=by
 unfold zeU;rw [aA];exact bR (dQ _ _) (by rw [bI]; exact aG _)
theorem zkt {x:V} (h:(rw.map tS)[j]? = some x):∃ o,x=tS o/\rw[j]? = some o:=by
 rw [aF] at h;cases e:rw[j]? with
 | none=>rw [e] at h; cases h
 | some c=>rw [e] at h; exact⟨c,(bJ h).symm,rfl⟩
def hide (H:Hp) (a:Addr):Hp:=fun b=>if b=a then none else H b
theorem zmV (H:Hp) (a:Addr):zr (hide H a) H:=fun b o e=>by
 unfold hide at e;split at e
 ·cases e
 ·exact e
theorem ze7 {a b:Addr} {o:HO} (h:H b=some o) (p7:b≠a):hide H a b=some o:=by unfold hide; rw [if_neg p7]; exact h
noncomputable def zoM (K:aD):Sp:=fun vs H Q _=>∃ (c tt ra po:Addr) (p k:Int) (pl qc:List Int) (rw:List #[IO]),vs = [.ref c,.ref ra,.ref po]/\zbu H c tt p k pl/\H ra=some #[Qa]/\rw.length=pl.length/\H po=some (.tup (qc.map V.int))/\0 < p/\p<=97/\(∀ x∈pl,0<=x/\x < p)/\pl.length<=100 /\
 ∀ (l:Addr) (H':Hp),H l=none->zr H H'->H' l=some (.lst ((zeU p pl rw qc pl.length).map V.int))->Q #[Qy] H'
theorem zmW (o:Option Int) (z:Int):zqs (tS o) (.int z)=true:=by cases o <;> rfl
theorem zmX {p:Int} {qc:List Int} {x:Int} {o:Option Int} (hx:pl[j]? = some x) (ho:rw[j]? = some o):zgR p pl rw qc j=decide (tS o = .int (zA p x qc)):=by
 unfold zgR;rw [hx,ho];cases o with
 | none=>rfl
 | some i=>simp [tS]
end
end My
end
section
namespace PySem
section
variable {prog:Program} {w:World} {A:Around} {E:Value->Shared->Prop} {s:Shared}
theorem zku {z TI TO i1 i2:Addr} {uq ur:List Addr} {n1 n2 k1 k2:Nat} {P1 P2:Nat->Value->Prop} {S1 S2:Nat->Heap->Prop} {f0 f1 a b:Value} {Q:Option Value->Shared->Prop} (D1:Draws prog w A.in1 i1 uq n1 P1 S1) (D2:Draws prog w A.in1 i2 ur n2 P2 S2) (Z:Zap z TI TO i1 i2 uq ur)
  (hz:IsZ s.heap z TI TO f0 f1) (hf:ZF f0 f1) (yf:IsPair s.heap TI #[Tg] #[Tf]) (Ae:IsPair s.heap TO a b) (rK:S1 k1 s.heap) (qi:S2 k2 s.heap) (l1:k1 < n1) (l2:k2 < n2)
  (hQ:∀ x y h' tk g0 g1 a' b',P1 k1 x->P2 k2 y->IsZ h' z TI TO g0 g1->ZF g0 g1->IsPair h' TI #[Tg] #[Tf]->IsPair h' TO a' b'->S1 (k1+1) h'->S2 (k2+1) h'->IsPair h' s.heap.objs.size x y->h'.objs.size=s.heap.objs.size+1 ->
   (∀ c o,c≠z->c≠TO->c≠i1->c≠i2->s.heap.get? c=some o->h'.get? c=some o)->Q (some #[ww]) { s with heap:=h',toks:=tk }):wpAny #[ul] A (pyNext #[RX]) Q E s:=by
 have yi:s.TypeIs #[RX] "zip":=⟨_,hz,rfl⟩;unfold pyNext;refine aB (eh (cP (name:=cQ "__next__") yi fC #[Sa]));exact zkr D1 D2 Z hz hf yf Ae rK qi l1 l2 fun x y h1 tk g0 g1 a' b' px py uQ IU De Df Dh Di wR Dj kk=>aI (hQ x y h1 tk g0 g1 a' b' px py uQ IU De Df Dh Di wR Dj kk)
theorem zmY {z TI TO i1 i2:Addr} {uq ur:List Addr} {n1 n2 k1 k2:Nat} {P1 P2:Nat->Value->Prop} {S1 S2:Nat->Heap->Prop} {f0 f1 a b:Value} {Q:Option Value->Shared->Prop} (D1:Draws prog w A.in1 i1 uq n1 P1 S1) (D2:Draws prog w A.in1 i2 ur n2 P2 S2) (Z:Zap z TI TO i1 i2 uq ur)
  (hz:IsZ s.heap z TI TO f0 f1) (hf:ZF f0 f1) (yf:IsPair s.heap TI #[Tg] #[Tf]) (Ae:IsPair s.heap TO a b) (rK:S1 k1 s.heap) (qi:S2 k2 s.heap) (l1:k1=n1\/(k1 < n1/\k2=n2))
  (hQ:∀ h' tk,(∀ c o,c≠z->c≠TO->c≠i1->c≠i2->s.heap.get? c=some o->h'.get? c=some o)->Q none { s with heap:=h',toks:=tk }):wpAny #[ul] A (pyNext #[RX]) Q E s:=by
 have yi:s.TypeIs #[RX] "zip":=⟨_,hz,rfl⟩;unfold pyNext;refine aB (eh (cP (name:=cQ "__next__") yi fC #[Sa]));refine zmU D1 D2 Z hz hf yf Ae rK qi l1 fun h' tk x kk ⟨o,ho,hc⟩=>?_
 exact aB (gC (T:="StopIteration") (b:=true) ⟨o,ho,hc⟩ iR (aI (hQ h' tk kk)))
theorem zhm {z TI TO:Addr} {f0 f1:Value} {Q:Value->Shared->Prop} (hz:IsZ s.heap z TI TO f0 f1) (h:Q #[RX] s):wpAny #[ul] A (pyIter #[RX]) Q E s:=by
 have hT:s.TypeIs #[RX] "zip":=⟨_,hz,rfl⟩; refine kx hT F.slot_zip_iter (cU F.slot_zip_iter hT F.entry_zip_iter ?_ (F.args_zip_iter_1 _));show wpAny _ _ (ret #[RX]) _ _ s; exact aI ⟨_,rfl,"zip",_,hT,F.slot_zip_next.lookup,h⟩
theorem zrS {elts:List Expr} {x1} {pos:Pos} {z TI TO T:Addr} {f0 f1:Value} {Q:Unit->Shared->Prop} (hz:IsZ s.heap z TI TO f0 f1) (hf:ZF f0 f1)
  (hQ:∀ h' g0,IsZ h' z TI TO g0 f1->ZF g0 f1->cM z s.heap h'->Q () { s with heap:=h' }):wpAny #[ul] A (letOwnedTupleGo (.Tuple elts x1 pos) #[RX] (.ref T)) Q E s:=by
 unfold letOwnedTupleGo; refine aB (wpAny_load hz ?_);show wpAny _ _ (if _ then _ else _) Q E s;split
 ·refine aB (dO ?_); show wpAny _ _ (setField #[RX] 0 .none) Q E s;exact dv hz #[M] fun h' Dc qG=>hQ h' .none Dc ⟨.inl rfl,hf.2⟩ qG
 ·exact aI (hQ s.heap f0 hz hf #[Ui])
end
end PySem
namespace L2
open PySem PySem.Spec PyProof.Rows
variable {A:Around} {Ab:Array #[Sf]} {C:Addr} {H H':Hp} {K:aD} {M:Model} {N:List Str} {P:Program} {R:Result->Shared->Prop} {X:Cx} {an od:Option Addr} {ct doc oc pR pm:Value} {env:Env} {fd:FuncData} {h h':Heap} {k t' tk:Nat} {pD:List (List Key×V)} {pos rj:Pos} {pv:List (Addr×Obj)} {qual:Str} {s:Shared} {scope:Scope} {sp:Sp} {tg:Expr} {us vs:List Value} {v y:V}
def zqL (uN uO:Hp->Addr->List V->Prop) (a b:Addr):It :=
 ⟨(zlg uN uO a b).go,(zlg uN uO a b).yld,fun i H=>∃ xs ys,uN H a xs/\uO H b ys/\(xs.length=i\/(i < xs.length/\ys.length=i))⟩
abbrev zcb (n:Nat):List Addr:=[n+4,n+2,n+3,n,n+1]
abbrev zrT (C:String) (n a b:Nat) (i:Nat) (h:Heap):Prop:=(∃ f0 f1,IsZ h (n+4) (n+2) (n+3) f0 f1/\ZF f0 f1)/\IsPair h (n+2) (.ref n) #[UI]/\(∃ u v,IsPair h (n+3) u v)/\h.IsTupleIter n a i/\ItC C h (n+1) b i
structure Sk (C:String) (Is:Heap->Addr->Array Value->Prop) (Sq:aD->Hp->Addr->List V->Prop):Prop where
 h:SkH C Is
 inv:∀ {X:Cx} {pv:List (Addr×Obj)} {σ:St} {H:Hp} {s:Shared} {a:Addr} {xs:List V},Inv X pv σ H s->Sq X.K H a xs->∃ pC:List Value,zR xs pC/\Is s.heap a pC.toArray/\a < s.heap.objs.size
 inj:∀ {X:Cx} {pv:List (Addr×Obj)} {σ:St} {H:Hp} {s:Shared} {a:Addr} {xs ys:List V},Inv X pv σ H s->Sq X.K H a xs->Sq X.K H a ys->xs=ys
theorem sqL:Sk "list_iterator" Heap.IsList pA:=⟨skL,fun I h=>let ⟨pC,r,p,_⟩:=I.list h; ⟨pC,r,p.isList,by obtain⟨_,_,e,_⟩:=p; exact aW e⟩,fun I h h'=>I.LC h h'⟩
theorem zmZ {C:String} {Is:Heap->Addr->Array Value->Prop} {Sq:aD->Hp->Addr->List V->Prop} (S:Sk C Is Sq) {w:World} {es:List Expr} (a b n:Nat) (ha:a < n) (hb:b < n):Turn P w K #[Q9] (zqL (pK K) (Sq K) a b) (zcb n) (n+4) (zrT C n a b) where
 mem:=by simp
 obj:=fun i h st c hc=>by
  obtain⟨⟨f0,f1,h1,_⟩,h2,⟨u,v,h3⟩,⟨o4,e4,_,d4⟩,⟨o5,e5,_,d5⟩⟩:=st;simp only [zcb,aR,bS,or_false] at hc;rcases hc with z | z | z | z | z <;> subst z
  ·exact⟨_,h1,fun v z=>by cases z⟩
  ·exact⟨_,h2,fun v z=>by cases z⟩
  ·exact⟨_,h3,fun v z=>by cases z⟩
  ·exact⟨_,e4,fun v z=>by rw [d4] at z; cases z⟩
  ·exact⟨_,e5,fun v z=>by rw [d5] at z; cases z⟩
 keep:=fun i h h' st kk=>by
  obtain⟨⟨f0,f1,h1,hf⟩,h2,⟨u,v,h3⟩,h4,h5⟩:=st;obtain⟨o5,e5,r5⟩:=h5;exact⟨⟨f0,f1,kk _ #[M] _ h1,hf⟩,kk _ #[M] _ h2,#[T6],h4.at fun o eo=>kk _ #[M] o eo,o5,kk _ #[M] _ e5,r5⟩
 item:=by
  intro X hP hw hK hc i pv s σ H E I hf st hg;subst hP hw hK;obtain⟨xs,ys,x,y,sL,qZ,hx,hy⟩:=hg;obtain⟨⟨f0,f1,h1,yh⟩,h2,⟨u0,v0,h3⟩,h4,h5⟩:=st;obtain⟨qb,uP,p1,uQ⟩:=I.tuple sL;obtain⟨p4,vd,p2,_⟩:=S.inv I qZ;obtain⟨u,hu,ru⟩:=uP.get hx;obtain⟨v,hv,rv⟩:=vd.get hy;have yd:n+4 < s.heap.objs.size:=aW h1;have hh:X.A.in1.handled=none:=by simp [I.ok.hd hc]
  have tF:i < qb.toArray.size:=by have:=(aP.mp hu).1; simpa using this
  have tG:i < p4.toArray.size:=by have:=(aP.mp hv).1; simpa using this
  refine zku #[Qj] #[VE] #[UY] h1 yh h2 h3 ⟨h4,(show s.heap.IsTuple a qb.toArray from p1)⟩ ⟨h5,p2⟩ tF tG
   fun x' y' h' tk g0 g1 a' b' px py ez Fq e2 e3 t4 t5 pp hsz kk=>?_
  have eu:x'=u:=by
   have e1:qb[i]? = some x':=by simpa using px
   rw [hu] at e1; exact (bJ e1).symm
  have ev:y'=v:=by
   have e1:p4[i]? = some y':=by simpa using py
   rw [hv] at e1; exact (bJ e1).symm
  subst eu ev;have ch:∀ c∈[n+4,n+3,n,n+1],c∈zcb n:=fun c pL=>by
   simp only [zcb,aR,bS,or_false] at pL |-;rcases pL with z | z | z | z <;> subst z <;> simp
  have k1:∀ c o,c∉[n+4,n+3,n,n+1]->s.heap.get? c=some o->h'.get? c=some o:=fun c o pL eo=>by
   simp only [aR,bS,or_false,not_or] at pL;exact kk c o pL.1 pL.2.1 pL.2.2.1 pL.2.2.2 eo
  have BH:∀ c∈[n+4,n+3,n,n+1],∃ o,h'.get? c=some o:=fun c pL=>by
   simp only [aR,bS,or_false] at pL;rcases pL with z | z | z | z <;> subst z
   ·exact⟨_,ez⟩
   ·exact⟨_,e3⟩
   ·obtain⟨o,e,_⟩:=t4.1; exact⟨o,e⟩
   ·obtain⟨o,e,_⟩:=t5.1; exact⟨o,e⟩
  have I1:Inv X pv σ (pB H s.heap.objs.size (.tup [x,y])) { s with heap:=h',toks:=tk } :=
   I.LJ k1 (fun c pL=>hf c (ch c pL)) BH (aG _) #[T9]
  refine⟨_,rfl,zrS (s:={ s with heap:=h',toks:=tk }) ez Fq fun Ad g2 Az Fs qN=>?_⟩;have fr:∀ c∈zcb n,pB H s.heap.objs.size (.tup [x,y]) c=none:=fun c pL=>by
   have pT:c < s.heap.objs.size:=by
    simp only [zcb,aR,bS,or_false] at pL;rcases pL with z | z | z | z | z <;> subst z <;> exact nl #[O]
   rw [zm (bT pT)];exact (hf c pL).1
  have I2:Inv X pv σ (pB H s.heap.objs.size (.tup [x,y])) { s with heap:=Ad,toks:=tk } :=
   Inv.Ml (s:={ s with heap:=h',toks:=tk }) (ch:=[n+4]) (t':=tk) I1 (fun c o pL eo=>qN.extBut c o (by simpa using pL) eo) (fun c pL=>by
    have z:c=n+4:=by simpa using pL
    subst z;exact⟨fr _ #[M],(hf _ #[M]).2⟩) (fun c pL=>by
    have z:c=n+4:=by simpa using pL
    subst z;exact⟨_,Az⟩)
  have up:∀ c o,c≠n+4->h'.get? c=some o->Ad.get? c=some o:=fun c o pL e=>qN.extBut c o pL e
  exact⟨.ref s.heap.objs.size,_,I2,rfl,⟨_,x,y,I.fresh,rfl,rfl,fun zs hz=>by rw [I.LK hz sL]; exact hx,fun zs hz=>by rw [S.inj I hz qZ]; exact hy⟩,
   ⟨⟨g2,g1,Az,Fs⟩,up _ _ #[Ro] e2,⟨_,_,up _ _ #[Ro] e3⟩,t4.1.at fun o e=>up _ o #[Ro] e,⟨t5.1.choose,up _ _ #[Ro] t5.1.choose_spec.1,t5.1.choose_spec.2⟩⟩,fr⟩
 done:=by
  intro X hP hw hK hc i pv s σ H E I hf st hg;subst hP hw hK;obtain⟨xs,ys,sL,qZ,hx⟩:=hg;obtain⟨⟨f0,f1,h1,yh⟩,h2,⟨u0,v0,h3⟩,h4,h5⟩:=st;obtain⟨qb,uP,p1,uQ⟩:=I.tuple sL;obtain⟨p4,vd,p2,_⟩:=S.inv I qZ;have hh:X.A.in1.handled=none:=by simp [I.ok.hd hc]
  have wF:=uP.length;have rX:=vd.length;refine zmY #[Qj] #[VE] #[UY] h1 yh h2 h3 ⟨h4,(show s.heap.IsTuple a qb.toArray from p1)⟩ ⟨h5,p2⟩ (by rw [aO,aO]; lia) fun h' tk kk=>#[Uc]
  have sub:∀ c∈[n+4,n+3,n,n+1],c∈zcb n:=fun c pL=>by
   simp only [zcb,aR,bS,or_false] at pL |-;rcases pL with z | z | z | z <;> subst z <;> simp
  have k1:∀ c o,c∉[n+4,n+3,n,n+1]->s.heap.get? c=some o->h'.get? c=some o:=fun c o pL e=>by
   simp only [aR,bS,or_false,not_or] at pL;exact kk c o pL.1 pL.2.1 pL.2.2.1 pL.2.2.2 e
  have vK:∀ d u',H d=some u'->d∉[n+4,n+3,n,n+1]:=fun d u' e' hd=>by rw [(hf d (sub d hd)).1] at e'; cases e'
  refine I.step (g':=s.gens) (d':=s.drawn) (t':=tk) (ch:=[n+4,n+3,n,n+1]) #[VY] #[RT] #[QS] #[Rz]
   (fun c o qz e=>⟨o,k1 c o qz e⟩) #[Rl] #[Sh] (fun c ps e=>⟨#[],by rw [e]; simp⟩) #[Td] #[U9] I.bare
  ·obtain⟨_,a1,_,a3,a4,a5⟩:=hf c (sub c pL);exact⟨a3,a1,a4,a5⟩
  ·obtain⟨o,y9,ep,ho,r⟩:=hm;exact⟨o,y9,ep,k1 _ o (fun z=>(hf _ (sub _ z)).2.1 rfl) ho,r⟩
  ·refine #[Wn].NI #[SJ] #[Sv] fun _ _ q=>q
   rcases hd with z | z
   ·rw [z]; exact vK c u e
   ·exact vK d _ z
 self:=fun _ _ _ _ _ st h=>by
  obtain⟨⟨f0,f1,hz,_⟩,_⟩:=st;exact zhm hz h
def iZq (uN uO:Hp->Addr->List V->Prop) (ta:TA):TI:=fun σ H R=>ta σ H fun vs H1=>∃ a b xs ys,vs = [.ref a,.ref b]/\uN H1 a xs/\uO H1 b ys/\R (zqL uN uO a b) H1
theorem zm0 {C:String} {Is:Heap->Addr->Array Value->Prop} {Sq:aD->Hp->Addr->List V->Prop} (S:Sk C Is Sq) {es:List Expr} {p:Pos} {a b:Expr} {ta:TA} (hg:Gl X "zip") (hm:X.mg "zip" = none) (ha:PA X [a,b] ta) (hs:starEach [a,b] X.env = [#[GM],#[IN]]:=by rfl) (rG:starEach [b] X.env = [#[IN]]:=by rfl) :
  PI X #[QM] (.Call (.Name "zip" p) [a,b] [] pos) (iZq #[Wx] (Sq X.K) ta):=by
 intro pv s σ H R I h;refine Call_ (za4 I hg hm om (cD (thn #[Cl] fun us s1 ⟨vs,H1,I1,r1,q1⟩=>?_) (by rw [hs,rG]) (by rw [rG]; rfl)));obtain⟨l1,l2,xs,ys,e,sL,qZ,q⟩:=q1;subst e;cases r1 with
 | cons r rr =>
  cases rr with
  | cons r' rr =>
   cases rr;cases r;cases r';obtain⟨qb,uP,AA,uQ⟩:=I1.tuple sL;obtain⟨p4,vd,Bo,tG⟩:=S.inv I1 qZ;have tF:l1 < s1.heap.objs.size:=by obtain⟨_,e,_⟩:=AA; exact aW e
   refine zfE S.h (show s1.heap.IsTuple l1 qb.toArray from AA) Bo fun h' n hn b1 b2 b3 b4 b5 b6 kk=>?_
   have I2:Inv X pv σ H1 { s1 with heap:=h' }:=I1.kept (t':=s1.toks) kk;refine zhm b1 ?_;refine⟨_,zcb n,zrT C n l1 l2,zqL #[Wx] (Sq X.K) l1 l2,H1,rfl,I2,zmZ S l1 l2 n (by rw [hn]; exact tF) (by rw [hn]; exact tG),⟨⟨_,_,b1,.inl rfl,_,rfl⟩,b2,⟨_,_,b3⟩,b4,b5⟩,fun c hc=>?_,q⟩;have hle:s1.heap.objs.size<=c:=by
    simp only [zcb,aR,bS,or_false] at hc;rw [<- hn];rcases hc with z | z | z | z | z <;> subst z
    all_goals first | exact kN _ _ | exact aG _
   exact I1.Ny hle #[Rv]
theorem zm1 {X:Cx} {es:List Expr} {k:Nat} {rj p pos:Pos} {a b:Expr} {ta:TA} (hg:Gl X "zip") (hm:X.mg "zip" = none) (ha:PA X [a,b] ta) (hs:starEach [a,b] X.env = [#[GM],#[IN]]:=by rfl) (rG:starEach [b] X.env = [#[IN]]:=by rfl) :
  PI X #[QM] (.Call (.Name "zip" p) [a,b] [] pos) (iZq #[Wx] #[Vg] ta):=zm0 sqL hg hm ha hs rG
section
variable {prog:Program} {w:World} {A:Around} {h:Heap} {g:Array GenState} {d:Drawn} {tk:Nat} {os:OsState} {K:aD} {x C:Addr} {E:Value->Shared->Prop}
theorem zjD {tp:Value} (J:∀ M,ji M h #[TV] #[Qq]) (X:K.In h)
  (hm:du K C (.type "object")=some true) (q:R (.ok (.ret #[Qq])) ⟨h,g,d,tk,os⟩) :
  codeAny #[ul] A (Code.call (.builtin "getset_descriptor.__get__") { pos:=[.builtin "object.__class__",.ref x,tp] }) R ⟨h,g,d,tk,os⟩:=by
 refine jG PySem.W.KF.slot_gs.plain PySem.W.KF.entry_gs (PySem.W.KF.slot_gs.check _ _ _ _ _ _ _ _ ?_ (PySem.W.KF.args_gs _ _ _) ?_)
 ·exact jv
 ·unfold Builtin.«getset_descriptor.__get__» nQ;rw [PySem.W.dga_obj];refine aB (aI ?_)
  try dsimp only
  unfold m8
  try dsimp only
  refine aB ?_;unfold lD lH
  try dsimp only
  rw [PySem.W.KF.owner_class];refine aB (aI ?_)
  try dsimp only
  unfold isInstance;refine aB (aB ((J _).at ((jQ X hm).at ?_)));refine fe rfl (aI ?_);unfold again;refine aI ⟨Code.quiet_builtin _ #[N],?_⟩;refine gi PySem.W.KF.entry_class ?_;unfold Builtin.«object.__class__»
  try dsimp only
  unfold shownTypeOf;refine aB (aB ((J _).at ?_));refine fe rfl (aI ?_);unfold ret;exact aI q
theorem zlr {Cy:Value} {Q:Unit->Shared->Prop} (J:∀ M,ji M h #[TV] #[Qq]) (X:K.In h) (hm:du K C (.type "BaseException")=some true) (q:Q () ⟨h,g,d,tk,os⟩) :
  wpAny M A (checkBuiltinCall "BaseException.__getattribute__" { pos:=[.ref x,Cy] }) Q E ⟨h,g,d,tk,os⟩:=by
 have hk:builtinKind "BaseException.__getattribute__" = some pi:=#[N];have hs:splitId "BaseException.__getattribute__" = some ("BaseException","__getattribute__"):=by decide +kernel
 unfold checkBuiltinCall;rw [hk,hs]
 try dsimp only
 unfold isInstance;refine aB (aB ((J _).at ((jQ X hm).at ?_)));refine fe rfl ?_;have ok:=F.args_bexc_ga (.ref x) Cy;unfold argsOk at ok;generalize mU "BaseException.__getattribute__" = sg at ok |-;cases sg with
 | none=>exact aI q
 | some sig =>
  dsimp only at ok |-;rw [ok];exact aI q
theorem zls {Q:Option Value->Shared->Prop} (J:∀ M,ji M h #[TV] #[Qq]) (X:K.In h)
  (F1:dH K #[Qq] "__getattribute__" = some (some (.builtin "BaseException.__getattribute__"))) (F2:dH K #[Qq] "__getattr__" = some none)
  (F3:dH K #[Qq] "__class__" = some (some (.builtin "object.__class__"))) (hm:du K C (.type "object")=some true) (hb:du K C (.type "BaseException")=some true)
  (q:Q (some #[Qq]) ⟨h,g,d,tk+1,os⟩):wpAny #[ul] A (getAttr? (.ref x) "__class__") Q E ⟨h,g,d,tk,os⟩:=by
 unfold getAttr?
 (refine aB (wpAny_mkText ?_))
 unfold getAttrBy?
 (refine aB (eh ?_))
 unfold getAttrBy;refine cX (aB ((J _).at (aB ((mi X F1).at ?_))))
 try dsimp only
 refine fe rfl ?_;unfold getAttrByItsOwn;refine aB ((PySem.W.looks_hook (mc:=.ref C) X (r:=none) (by rw [show onTheHeap (bP C)=true from rfl,if_pos rfl]; exact F2)).at ?_)
 (refine aB (eh (cX ?_)))
 unfold callGetattribute;refine fe rfl ?_;unfold boundAndCalled;rw [F.attrBase_ValueError.ga.bind];refine aB (aI ?_)
 try dsimp only
 refine jz ?_;refine jG F.attrBase_ValueError.ga.plain F.entry_bexc_ga (zlr J X hb ?_)
 (unfold Builtin.«object.__getattribute__»)
 refine aB ?_;unfold slotArgs
 try dsimp only
 refine fe rfl (fe rfl (aI ?_))
 try dsimp only
 unfold oZ
 try dsimp only
 refine aB (aI (aB ((J _).at (aB ?_))));unfold pf;refine aB ((mi X F3).at ?_);unfold pc
 try dsimp only
 refine aB (mV jv F.slot_gs_get.lookup ?_);unfold nR
 try dsimp only
 refine aB ?_;unfold oO;refine aB (aB (mV jv F.slot_gs_set.lookup ?_));refine jT rfl (aI ?_);refine jT rfl (aI ?_)
 try dsimp only
 (refine aB (dO (aI ?_)))
 try dsimp only
 unfold o7
 try dsimp only
 refine aB (cX (jz (zjD J X hm ?_)))
 try dsimp only
 unfold ret;refine aI ?_
 try dsimp only
 unfold handedOut
 try dsimp only
 refine aI ?_
 try dsimp only
 exact aI q
end
structure Xc (K:aD) (C:Addr):Prop where
 f1:dH K #[Qq] "__getattribute__" = some (some (.builtin "BaseException.__getattribute__"))
 f2:dH K #[Qq] "__getattr__" = some none
 f3:dH K #[Qq] "__class__" = some (some (.builtin "object.__class__"))
 ob:du K C (.type "object")=some true
 bb:du K C (.type "BaseException")=some true
 kc:ft K #[Qq] #[Qq]=some true
theorem zfG {x:Addr} (e:∃ o,h.get? x=some o/\o.cls = .ref C) (M:Model):ji M h #[TV] #[Qq]:=by
 obtain⟨o,e,c⟩:=e;intro A Q E s k q;obtain⟨h',g,d,t,os⟩:=s;unfold typeOf;refine aB (wpAny_loadPart_at (k _ _ e) (aI ?_));rw [c];exact q
theorem zqM {b:Value} {r:Bool} (m:du K C b=some r):∃ oc dd cd sl,K.lookup C=some ⟨oc,dd,.cls cd,sl⟩:=by
 unfold du PySem.W.clsIn at m;cases e:jY C K with
 | none=>rw [e] at m; cases m
 | some o =>
  obtain⟨oc,dd,da,sl⟩:=o;cases da with
  | cls cd=>exact⟨oc,dd,cd,sl,rfl⟩
  | _=>rw [e] at m; cases m
theorem ziv {x:Addr} (c:Xc K C):PySem.W.KitX K (.ref x) #[Qq] (fun h=>∃ o,h.get? x=some o/\o.cls = .ref C):=by
 refine⟨fun M h _ e=>zfG e M,fun M h X e=>(oP X c.kc).2.1,fun h tp dd pC n sl X e=>?_,fun {prog w A E Q s} X e q=>?_⟩
 ·obtain⟨oc,Dk,cd,GP,l⟩:=zqM c.ob;have e2:=X _ _ l;have ne:C≠tp:=fun z=>by
   rw [z,e] at e2;cases e2
  exact decide_eq_false fun z=>ne (by injection z)
 ·obtain⟨h,g,d,tk,os⟩:=s;exact zls (fun M=>zfG e M) X c.f1 c.f2 c.f3 c.ob c.bb q
def zm2 (a C:Addr):HO:=.ext fun h=>∃ o,h.get? a=some o/\o.cls = .ref C
theorem zag {X:Cx}:zbh X (.builtin "isinstance") (fun xs H Q=>∃ a C y b,xs = [.ref a,y]/\H a=some (zm2 a C)/\Xc X.K C/\((∃ D,y = .ref D/\bN X.K #[Qq] #[QE]=some b)\/∃ n,y = .ty n/\bN X.K #[Qq] (.type n)=some b)/\Q (.bl b) H):=by
 intro pv s σ H xs us Q I r h;obtain⟨a,C,y,b,rfl,ha,c,hy,q⟩:=h;obtain⟨u,u',rfl,rx,r2⟩:=vals2 r;cases rx;obtain⟨he,_,_⟩:=(show zah X.prog X.w H s.heap a (zm2 a C) from I.hok a _ ha);rcases hy with ⟨D,rfl,hk⟩ | ⟨n,rfl,hk⟩
 ·cases r2;exact dJ (ziv c) I.kIn he hk (fun z=>nomatch z) fun tk=>⟨.bl b,H,I.tok tk,rfl,q⟩
 ·cases r2;exact dJ (ziv c) I.kIn he hk (fun z=>nomatch z) fun tk=>⟨.bl b,H,I.tok tk,rfl,q⟩
abbrev zjE:List Value:=[.type "ValueError",.type "Exception",.type "BaseException",.type "object"]
structure PU (C:Addr) (h:Heap) (bmB:List Value) (newId:String):Prop where
 ex:∃ nm q N bs bm hdct sn sub ab col dd k0 k1 k2 k3 k5,∃ mN:Str->Option Value,h.get? C=some (excClassObj nm q C N bs bm hdct sn sub ab col dd k0 k1 k2 k3 k5 newId)/\h.Ns N mN/\mN "__init__" = none/\OwnTail h bmB bm
theorem zlu {bmB:List Value} {newId:String} (X:K.In h) (e:gJ K C bmB newId=true):PU C h bmB newId:=by
 unfold gJ at e;split at e
 ·rename_i dict cd sl hl
  split at e
  ·rename_i C' bm a0 a1 a2 a3 n a5 hm hs
   simp only [ic,beq_iff_eq] at e;obtain⟨⟨⟨⟨⟨rfl,rfl⟩,Dl⟩,ht⟩,hn⟩,hi⟩:=e;obtain⟨sll⟩:=sl;have hs:sll = [a0,a1,a2,a3,some (ki n),a5]:=hs;subst hs;have ho:=X _ _ hl;cases cd;dsimp only at hm hn hi Dl;subst hm;simp only [nS] at Dl;subst Dl;exact⟨_,_,_,_,_,_,_,_,_,_,_,_,_,_,_,_,_,ho,Heap.Ns.of_isNs (PySem.W.isNs_of_in X hn),PySem.W.nsMap_none_of_in X hn hi,PySem.W.tail_of_in X ht⟩
  ·cases e
 ·cases e
theorem zeL {h h' base B:Heap} (k:∀ b o,h.get? b=some o->h'.get? b=some o):∀ {l:List Env},h.FunFrames base l->(∀ b∈frs l,B.get? b=none)->h'.FunFrames B l
 | [],_,_=>trivial
 | env :: r,hl,hb=>by
  obtain⟨hk,⟨L,o,hf,hn,ho,hd⟩,hr⟩:=hl;have e:frs (env :: r)=L :: frs r:=by unfold frs; rw [fS,hf]
  rw [e] at hb;exact⟨hk,⟨L,o,hf,hb L #[M],k _ _ ho,hd⟩,zeL k hr fun b z=>hb b (aV _ z)⟩
structure Xl (P:Program) (w:World) (outer:List Env) (H:Hp) (h:Heap) (H':Hp) (h' B:Heap) (e C:Addr):Prop where
 new:h.get? e=none
 hok:HOk P w H' B
 fly:∃ t,B.FlyingW outer e #[Qq] t h'
 keep:∀ b o,h.get? b=some o->H b=none->b∉frs outer->B.get? b=some o
 slot:∀ b o,h.get? b=some o->H b=none->b∈frs outer->∃ sl,h'.get? b=some { o with slots:=sl }
 free:∀ b o,h.get? b=some o->H b=none->H' b=none
 there:∀ b o,h.get? b=some o->b∉frs outer->∃ o',B.get? b=some o'
 ML:∀ b xs,H b=some #[Sc]->H' b=some #[Sc]
 M5:∀ b o u,H b=some #[Vl]->H' b=some #[Vl]
 Na:∀ b ps,H b=some (.tbl ps)->∃ more,H' b=some (.tbl (ps++more))
def CX1 (P:Program) (w:World):CXT:=fun outer H s E ev s'=>∃ (e C:Addr) (H':Hp) (B:Heap),ev = .ref e/\s'.os=s.os/\AllBare s'.gens/\Xl P w outer H s.heap H' s'.heap B e C/\E #[Qq] none H'
section
variable {P:Program} {w:World} {outer:List Env} {H H':Hp} {h h' B:Heap} {e C:Addr}
theorem zm3 {o:HO} {a:Addr} (x:zah P w H h a o):∃ ob,h.get? a=some ob:=by
 cases o with
 | lst xs=>obtain⟨_,_,_,_,e⟩:=x; exact⟨_,e⟩
 | tup xs=>obtain⟨_,_,_,o,e,_⟩:=x; exact⟨_,e⟩
 | dK pD=>obtain⟨_,_,_,_,o,_,_,e,_⟩:=x; exact⟨_,e⟩
 | dT pD=>obtain⟨_,_,_,_,o,_,_,e,_⟩:=x; exact⟨_,e⟩
 | set S n=>obtain⟨o,_,_,_,e,_⟩:=x; exact⟨_,e⟩
 | ins C dx fs=>obtain⟨_,_,_,e,_⟩:=x; exact⟨_,e⟩
 | own y=>obtain⟨_,e⟩:=x; exact⟨_,e⟩
 | xd fs=>obtain⟨_,⟨_,_,_,e,_⟩,_⟩:=x; exact⟨_,e⟩
 | rng lo hi=>obtain⟨_,_,_,e⟩:=x; exact⟨_,e⟩
 | frz ob u=>obtain⟨e,_⟩:=x; exact⟨_,e⟩
 | tbl ps=>exact⟨_,(show h.get? a=some _ from x)⟩
 | met f y=>exact⟨_,(show h.get? a=some _ from x)⟩
 | ext φ=>obtain⟨_,⟨_,e⟩,_⟩:=x; exact⟨_,e⟩
theorem Xl.fresh (x:Xl P w outer H h H' h' B e C):H' e=none:=by
 obtain⟨t,_,hb,_⟩:=x.fly;cases q:H' e with
 | none=>rfl
 | some u =>
  obtain⟨ob,z⟩:=zm3 (x.hok e u q);rw [hb] at z;cases z
theorem Xl.un (x:Xl P w outer H h H' h' B e C) (hf:∀ b∈frs outer,H b=none):Un (frs outer) [] H H' h h' where
 keep:=fun b o q n hb _=>by
  obtain⟨t,st,_⟩:=x.fly;exact st _ _ (x.keep b o q n hb)
 slot:=fun b o q n hb _=>x.slot b o q n hb
 free:=fun b o q n _=>x.free b o q n
 there:=fun b o q _=>by
  by_cases hb:b∈frs outer
  ·obtain⟨sl,z⟩:=x.slot b o q #[Ux] hb;exact⟨_,z⟩
  ·obtain⟨o',z⟩:=x.there b o q hb;obtain⟨t,st,_⟩:=x.fly;exact⟨o',st _ _ z⟩
 ML:=x.ML
 M5:=x.M5
 Na:=x.Na
end
section
variable {X:Cx} {σ:St} {H:Hp} {s:Shared} {pv:List (Addr×Obj)}
theorem Inv.hid (I:Inv X pv σ H s):HOk X.prog X.w H (gc s.heap (frs X.stack)):=fun a o q =>
 (I.hok a o q).NI (fun b u hb z=>iu _ z fun m=>by
  have n:=I.MO b m;rcases hb with rfl | hb
  ·rw [q] at n; cases n
  ·rw [hb] at n; cases n) (fun _ z=>z) fun _ _ z=>z
theorem ziw {outer:List Env} {L:Addr} (hf:env.frame=some L):frs (env :: outer)=L :: frs outer:=by unfold frs; rw [fS,hf]
theorem Inv.Nj (I:Inv X pv σ H s) {b:Addr} {o:Obj} (q:X.s₀.heap.get? b=some o):b≠X.env.locals:=bT (cA (aW q) I.ok.above)
end
section
variable {P:Program} {w:World} {K:aD} {mg:Str->Option Value} {base:Heap} {N:List Str} {qual:Str} {scope:Scope} {f:Addr} {cd:Value} {A:Around} {outer:List Env} {s₀:Shared} {H₀:Hp} {E:XK}
abbrev cxX (P:Program) (w:World) (K:aD) (mg:Str->Option Value) (base:Heap) (N:List Str) (qual:Str) (scope:Scope) (f:Addr) (cd:Value) (A:Around) (outer:List Env) (s:Shared) (H:Hp) (E:XK):Cx:=zb1 #[Vi] P w K mg base N qual scope f cd A outer s H E
theorem zdG {σ:St} {h1:Heap} {e:Addr} (I:Inv #[wv] pv σ H s) (m:s.heap.MadeExcOf h1 e #[Qq] vs) (q:E #[Qq] none H) :
  (cxX P w K mg base N qual scope f cd A outer s₀ H₀ E).xe #[SQ] { s with heap:=h1 }:=by
 have Es:frs #[wv].stack=s₀.heap.objs.size :: frs outer:=ziw rfl;obtain⟨t,he,_,_⟩:=m.there;have stays:(gc s.heap (frs #[wv].stack)).StaysIn h1:=fun b o z=>m.keeps _ _ (j1 _ z)
 have ve:(gc s.heap (frs #[wv].stack)).get? e=none:=by
  cases z:(gc s.heap (frs #[wv].stack)).get? e with
  | none=>rfl
  | some o=>have:=j1 _ z; rw [m.new] at this; cases this
 refine wpAny_leaving_firstW (base:=gc s.heap (frs #[wv].stack)) (outer:=outer) I.ok.frames (zeL m.keeps I.stack fun b z=>lW _ z) rfl he stays ve rfl rfl rfl fun h2 left=>?_
 obtain⟨qi,ff2,tr2,xX⟩:=left;refine⟨e,C,H,gc s.heap (frs #[wv].stack),rfl,I.os,I.bare,⟨?_,I.hid,⟨_,qi,ve,ff2.2.2,tr2⟩,fun b o z n hb=>?_,fun b o z n hb=>?_,fun b o z n=>I.base.free b o z n (by simp [cxX,zb1]),fun b o z hb=>?_,I.base.ML,I.base.M5,I.base.Na⟩,q⟩
 ·cases z:s₀.heap.get? e with
  | none=>rfl
  | some o =>
   obtain⟨o',z'⟩:=I.base.there e o z (by simp [cxX,zb1]);rw [m.new] at z'; cases z'
 ·refine iu _ (I.base.keep b o z n hb (by simp [cxX,zb1])) fun hm=>?_
  rw [Es] at hm;rcases aR.mp hm with z' | z'
  ·exact I.Nj z z'
  ·exact hb z'
 ·obtain⟨sl,z1⟩:=I.base.slot b o z n hb (by simp [cxX,zb1]);obtain⟨_,ob,zo,nd⟩:=I.ok.NS.mem hb;have eo:ob=o:=by
   have z3:s₀.heap.get? b=some ob:=zo;rw [z] at z3; exact (bJ z3).symm
  subst eo;obtain⟨GP,z2⟩:=xX b _ (m.keeps _ _ z1) nd;exact⟨GP,z2⟩
 ·obtain⟨o',z1⟩:=I.base.there b o z (by simp [cxX,zb1]);refine⟨o',iu _ z1 fun hm=>?_⟩;rw [Es] at hm;rcases aR.mp hm with z' | z'
  ·exact I.Nj z z'
  ·exact hb z'
theorem zcB:zft #[Vi] #[wv] E:=by
 intro pv σ H s ev s' I hq;obtain⟨e,C,H',B,rfl,os,bare,L,q⟩:=hq;have Es:frs #[wv].stack=s₀.heap.objs.size :: frs outer:=ziw rfl;obtain⟨t,fl⟩:=L.fly;show wpAny _ _ (leaving _ _) _ _ _;unfold leaving;refine aB (k8 (base:=B) (outer:=outer) I.ok.frames rfl fl fun h2 held u2=>?_);refine nG held fun h3 BN u3=>?_
 obtain⟨Aa,ve,ff3,tr3⟩:=BN;refine⟨e,C,H',B,rfl,os.trans I.os,bare,⟨?_,L.hok,⟨_,Aa,ve,ff3.2.2,tr3⟩,fun b o z n hb=>?_,fun b o z n hb=>?_,fun b o z n=>?_,fun b o z hb=>?_,fun b xs z=>L.ML b xs (I.base.ML b xs z),fun b o u z=>L.M5 b o u (I.base.M5 b o u z),fun b ps z=>?_⟩,q⟩
 ·cases z:s₀.heap.get? e with
  | none=>rfl
  | some o =>
   obtain⟨o',z'⟩:=I.base.there e o z (by simp [cxX,zb1]);rw [L.new] at z'; cases z'
 ·refine L.keep b o (I.base.keep b o z n hb (by simp [cxX,zb1])) (I.base.free b o z n (by simp [cxX,zb1])) fun hm=>?_
  rw [Es] at hm;rcases aR.mp hm with z' | z'
  ·exact I.Nj z z'
  ·exact hb z'
 ·obtain⟨sl,z1⟩:=I.base.slot b o z n hb (by simp [cxX,zb1]);obtain⟨_,ob,zo,nd⟩:=I.ok.NS.mem hb;have eo:ob=o:=by
   have z3:s₀.heap.get? b=some ob:=zo;rw [z] at z3; exact (bJ z3).symm
  subst eo;obtain⟨xX,z2⟩:=L.slot b _ z1 (I.base.free b _ z n (by simp [cxX,zb1])) (by rw [Es]; exact aV _ hb);obtain⟨sl3,z3⟩:=u2 b _ z2 nd;obtain⟨sl4,z4⟩:=u3 b _ z3 nd;exact⟨sl4,z4⟩
 ·obtain⟨o',z'⟩:=I.base.there b o z (by simp [cxX,zb1]);exact L.free b o' z' (I.base.free b o z n (by simp [cxX,zb1]))
 ·obtain⟨o',z'⟩:=I.base.there b o z (by simp [cxX,zb1]);refine L.there b o' z' fun hm=>?_
  rw [Es] at hm;rcases aR.mp hm with z' | z'
  ·exact I.Nj z z'
  ·exact hb z'
 ·obtain⟨m1,e1⟩:=I.base.Na b ps z;obtain⟨m2,e2⟩:=L.Na b _ e1;exact⟨m1++m2,by rw [e2,ni]⟩
theorem Fun.okX {x:Str} {st:Stmt} {ps:List Str} (F:Fun K x qual st f fd) (S:KE N ps (zh st)) (len:∀ vs H Q E,sp vs H Q E->vs.length=ps.length)
  (rW:∀ (pR:Value) (A:Around) (outer:List Env) (s:Shared) (H:Hp) (vs:List V) (Q:VK) (E:XK),M8 k #[Qu]->sp vs H Q E ->
   ∃ t,PSs (cxX P w K mg base N qual (zh st) f pR A outer s H E) (zbl st) t/\t { nx:=fun _ H'=>Q .non H',rt:=Q } #[Rr] H):Lf P w K mg base #[Vi] (k+1) f fd ps sp:=by
 obtain⟨oc,od,kV,doc,pm,an,pR,ct,Ab,rfl,lk,vc⟩:=F.ex;exact zpQ lk vc S len fun A outer s H vs Q E hr vL=>rW pR A outer s H vs Q E hr vL
end
section
variable {X:Cx} {x:Str} {C:Addr} {e:Expr} {te:TE} {np qj pos:Pos} {E:XK}
def zm4 (X:Cx) (E:XK):Prop:=∀ (pv:List (Addr×Obj)) (σ:St) (H:Hp) (s:Shared) (h1:Heap) (e C:Addr) (vs:List Value),Inv X pv σ H s->s.heap.MadeExcOf h1 e #[Qq] vs->E #[Qq] none H->X.xe #[SQ] { s with heap:=h1 }
def zqN (C:Addr) (E:XK) (te:TE):TS:=fun _ σ H=>zke te zqv σ H fun vs H1=>vs.length=1/\E #[Qq] none H1
theorem zfH (hx:zm4 X E) (hc:X.calm=true) (hg:Gl X x) (hm:X.mg x=some #[Qq]) (xc:gJ X.K C zjE "ValueError.__new__" = true) (he:PE X e te) (hd:(x == ("__debug__" : Str))=false:=by decide)
  (qh:((backTo qj (starEach [e] X.env)).any fun x=>x.fst)=false:=by rfl) (qw:starEach [e] X.env=#[Ix] :: starEach [] X.env:=by rfl) :
  PS X (.Raise (some (.Call (.Name x np) [e] [] qj)) none pos) (zqN C E te):=by
 intro pv s σ H D I h;obtain⟨nm,q,N,bs,bm,hdct,sn,sub,ab,col,dd,k0,k1,k2,k3,k5,mN,hob,wC,wG,rH⟩:=(zlu I.mod.kin xc).ex;refine wpAny_Raise_call_subU (nm:=nm) (q:=q) (N:=N) (bs:=bs) (hdct:=hdct) (sn:=sn) (sub:=sub) (ab:=ab) (col:=col) (dd:=dd) (k0:=k0) (k1:=k1) (k2:=k2) (k3:=k3) (k5:=k5) (bm:=bm) (bmB:=zjE) (bmN:=zjE) mj rfl mj (OwnTail.hasType rH rfl) #[Qn] qh wG (zcs I hg hm #[Uc] hd);have pa:PA X [e] (zke te zqv):=za he zd qw;have go:=pa qj pv s σ H (fun vs H1=>vs.length=1/\E #[Qq] none H1) I h;rw [qw] at go |-;refine jB (thn go fun us s2 ⟨vs,H2,I2,r2,ql,q2⟩=>⟨rfl,?_,I2.bk _ _ hob,wC.keeps I2.bk,rH.keeps I2.bk,fun h1 ea m=>hx pv σ H2 s2 h1 ea C _ I2 m q2⟩);have:=r2.length;have qP:1<=sizeLine:=by decide
 show us.length<=sizeLine;lia
end
def zrU (X:Cx) (pv:List (Addr×Obj)) (σ:St) (e:Expr) (t:TE):Prop:=∀ (s:Shared) (H:Hp) (Q:VK),Inv X pv σ H s->t σ H Q->wpAny #[ss] X.A #[Vn] #[Qd] X.xe s
def zrV (X:Cx) (pv:List (Addr×Obj)) (σ:St) (st:Stmt) (t:TS):Prop:=∀ (s:Shared) (H:Hp) (D:Ends),Inv X pv σ H s->t D σ H->wpAny #[ss] X.A (exec st X.env) #[U4] X.xe s
def zm5 (X:Cx) (pv:List (Addr×Obj)) (σ:St) (st:List Stmt) (t:TS):Prop:=∀ (s:Shared) (H:Hp) (D:Ends),Inv X pv σ H s->t D σ H->wpAny #[ss] X.A (execs st X.env) #[U4] X.xe s
def zdY (CX:CXT) (X:Cx) (pv:List (Addr×Obj)) (σ:St) (E:XK):Prop:=∀ (H:Hp) (s:Shared) (e:Value) (s':Shared),Inv X pv σ H s->CX X.stack H s E e s'->X.xe e s'
section
variable {X:Cx} {pv:List (Addr×Obj)} {σ:St} {CX:CXT} {k:Nat} {f C:Addr} {fd:FuncData} {ps:List Str} {sp:Sp} {wN:List V} {ds:List Value} {E:XK} {x m:Str} {p pos apos:Pos} {e o:Expr} {es:List Expr} {ta te:TE} {t:TA}
theorem zlv {Q:VK} {vs:List V} (F:Lf X.prog X.w X.K X.mg X.base CX k f fd ps sp) (hr:M8 k X.A) (hb:Binds X.K fd ps ds) (hd:zR wN ds) (hx:zdY CX X pv σ E)
  (I:Inv X pv σ H s) (r:zR vs us) (h:sp (vs++wN) H Q E):wpAny #[ss] X.A (call #[Tt] us) #[Qd] X.xe s:=by
 have r2:zR (vs++wN) (us++ds):=r.append hd;have hl:(us++ds).length=ps.length:=by rw [<- r2.length]; exact F.len _ _ _ _ h
 refine jz (jA (F.run X.A X.stack s H ⟨us,[]⟩ (us++ds) (vs++wN) Q E hr I.Pr (hb s us I.kIn hl) r2 h) fun r s' hq=>?_);cases r with
 | error e=>exact hx H s e s' I hq
 | ok fl =>
  cases fl with
  | ret u=>exact I.after hq
  | next=>exact dX hq
  | brk=>exact dX hq
  | cont=>exact dX hq
theorem zfI (F:Lf X.prog X.w X.K X.mg X.base CX k f fd ps sp) (hr:M8 k X.A) (hg:Gl X x) (hm:X.mg x=some #[Tt]) (hk:gv X.K #[Tt]=true) (hb:Binds X.K fd ps ds) (hd:zR wN ds) (hx:zdY CX X pv σ E)
  (ha:PA X (e :: es) t) (Av:(x == ("__debug__" : Str))=false:=by decide) (he:starEach (e :: es) X.env=#[Ix] :: starEach es X.env:=by rfl) (qh:#[Op].any (·.1)=false:=by rfl) :
  zrU X pv σ (.Call #[U5] (e :: es) [] pos) (zmw sp wN E t):=by
 intro s H Q I h;refine f9 #[UL];refine j2 (h₀:=X.base) I.ok.mod.kin hk (thn #[Cl] fun us s1 ⟨vs,H1,I1,r,q⟩=>⟨I1.kIn,?_⟩) he qh;exact zlv F hr hb hd hx I1 r q
theorem zgT {i:Nat} {pos':Pos} (hN:X.N.Nodup) (hi:X.N[i]? = some x) (hx:Loc X.env.scope x) (he:zrU X pv σ e te) (hs:swapsWith e #[VS] pos.line X.env=pure false:=by rfl) (hf:X.fn x=true\/X.env.scope.names.lookup x=some .local:=by first | exact .inl rfl | exact .inr rfl | assumption) :
  zrV X pv σ (.Assign [.Name x pos'] e pos) (zgh te (zaI i)):=by
 intro s H D I h;refine wpAny_Assign_Name (thn (he s H _ I h) fun v s1 ⟨y,H1,I1,r1,q1⟩=>?_) hs;exact zcf I1 hN hi hx r1 (fun s2 I2=>⟨_,H1,I2,q1⟩) hf
theorem zfJ {st:Stmt} {ts:TS} (h:zrV X pv σ st ts):zm5 X pv σ [st] ts:=by
 intro s H D I h1;refine kG (thn (h s H D I h1) fun f s1 q=>?_);cases f with
 | next=>exact gd q
 | ret v=>exact q
 | brk=>exact q
 | cont=>exact q
end
section
variable {X:Cx} {σ:St} {H:Hp} {s:Shared} {pv:List (Addr×Obj)}
theorem zlw {E:Value->Shared->Prop} {i:Nat} {x:Str} {Q:Unit->Shared->Prop} (I:Inv X pv σ H s) (hN:X.N.Nodup) (hi:X.N[i]? = some x) (hk:X.env.scope.names.lookup x=some .local) (hv:σ[i]? = some (some v))
  (h:∀ s',Inv X pv #[Uy] H s'->Q () s'):wpAny M A (unbindName X.env x) Q E s:=by
 obtain⟨m,hn,hl⟩:=id I.loc;have As:(X.env.scope.kind == .class || (X.env.scope.kind == .module && X.env.locals != X.env.globals))=false:=by rw [I.ok.kind]; rfl
 have hiσ:i < σ.length:=by rw [I.len]; exact (aP.mp hi).1
 have cne:=I.cne;obtain⟨u,r,lk⟩:=hl i x v hi hv (.inl hk);have hm:m x=some u:=by
  rcases lk with ⟨_,z⟩ | ⟨z,_⟩
  ·exact z
  ·have z:X.env.scope.names.lookup x=some .cell\/X.env.scope.names.lookup x=some .free:=z;rw [hk] at z;rcases z with z | z <;> cases z
 refine wpAny_unbindName_local hk hn hm As fun h' u' Au hs=>?_
 obtain⟨oL,_,_,El,_⟩:=id hn;refine h _ ⟨I.ok,I.os,I.bare,#[Fa],#[V7],fun y c e=>?_,I.free,I.LI,fun p hp=>?_,fun b ob e=>?_,by simpa using I.len⟩
 ·exact (hs.2 b #[Qi]).trans #[Rj]
 ·obtain⟨sl,e1⟩:=I.base.slot b o e n hb hx;exact⟨sl,(hs.2 b #[Qi]).trans e1⟩
 ·obtain⟨o',e1⟩:=I.base.there b o e hx;exact⟨o',(hs.2 b #[Qi]).trans e1⟩
 ·by_cases hj:j=i
  ·subst hj;rw [fX hiσ] at e2;cases e2
  ·rw [gq (eG hj)] at e2;obtain⟨u',r',q⟩:=hl j y v' e1 e2 e3;refine⟨u',r',?_⟩;rcases q with ⟨k,e⟩ | ⟨k,c,e,z⟩
   ·refine .inl ⟨k,?_⟩;have:y≠x:=fun e=>hj (zfn hN e1 (e ▸ hi))
    simp [this,e]
   ·exact .inr #[V6]
 ·obtain⟨w',z⟩:=I.cell y c e;exact#[VI]
 ·obtain⟨e,n,ne,nf,d⟩:=I.pin p hp;exact⟨(hs.2 p.1 ne).trans e,n,ne,nf,d⟩
 ·refine (I.hok b ob e).NI (fun c w' hc q=>(hs.2 c ?_).trans q) #[Sv] fun _ _ q=>q
  rintro rfl;rcases hc with rfl | hc
  ·rw [I.free] at e; cases e
  ·rw [I.free] at hc; cases hc
theorem Inv.Pc {a:Addr} {o:HO} (I:Inv X pv σ H s) (hn:H a=none) (h0:X.s₀.heap.get? a=none) (hL:a≠X.env.locals) (hc:∀ x c,X.env.cells.lookup x=some c->c≠a) (hp:∀ p∈X.pn++pv,p.1≠a) (new:zah X.prog X.w #[Th] s.heap a o) :
  Inv X pv σ #[Th] s:=by
 have hok:HOk X.prog X.w #[Th] s.heap:=fun b u e=>by
  by_cases hb:b=a
  ·subst hb;rw [zc] at e;cases e;exact new
  ·rw [zm hb] at e;exact #[Ug].NI (fun c v _ q=>q) (fun c q=>by rw [zm (zu q hn)]; exact q) fun c xs q=>by rw [zm (zu q hn)]; exact q
 refine⟨I.ok,I.os,I.bare,#[QJ],I.loc,I.cell,?_,fun x c e=>?_,fun p G7=>?_,hok,I.len⟩
 ·rw [zm (fun z=>by rw [z,h0] at e; cases e)];exact I.base.free b u e n hx
 ·have:=I.base.ML b xs e;rw [zm (zu this hn)]; exact this
 ·have:=I.base.M5 b u xs e;rw [zm (zu this hn)]; exact this
 ·obtain⟨m1,this⟩:=I.base.Na b ps e;exact⟨m1,by rw [zm (zu this hn)]; exact this⟩
 ·rw [zm (eG hL)]; exact I.free
 ·rw [zm (hc x c e)]; exact I.LI x c e
 ·obtain⟨e,n,ne,nf,d⟩:=I.pin p G7;exact⟨e,by rw [zm (hp p G7)]; exact n,ne,nf,d⟩
end
abbrev Cx.L3 (X:Cx) (e:Addr):Cx:={ X with A:=X.A.mark (some #[SQ]),calm:=false,xe:=fun _ _=>False }
section
variable {X:Cx} {pv:List (Addr×Obj)} {σ:St} {H:Hp} {s:Shared} {e:Addr}
theorem Cx.Ok.L3 (ok:X.Ok) (e:Addr):(X.L3 e).Ok :=
 ⟨ok.mod,ok.kind,ok.glob,ok.blt,ok.above,ok.inj,ok.has,ok.cab,fun z=>(by cases z),ok.frames,ok.stk,ok.exf,ok.bs,ok.bsz,ok.O0,ok.Pa,ok.NS,ok.frf⟩
theorem Inv.L3 (I:Inv X pv σ H s) (e:Addr):Inv (X.L3 e) pv σ H s:=⟨I.ok.L3 e,I.os,I.bare,I.base,I.loc,I.cell,I.free,I.LI,I.pin,I.hok,I.len⟩
theorem Inv.NM (I:Inv (X.L3 e) pv σ H s) (ok:X.Ok):Inv X pv σ H s:=⟨ok,I.os,I.bare,I.base,I.loc,I.cell,I.free,I.LI,I.pin,I.hok,I.len⟩
theorem zeM {E:Value->Shared->Prop} {g:Array GenState} {d:Drawn} {os:OsState} {S:Addr} {Q:Bool->Shared->Prop} (X:K.In h) (he:∃ o,h.get? e=some o/\o.cls = .ref C) (hk:ft K #[Qq] (.ref S)=some true)
  (hs:du K S (.type "BaseException")=some true) (q:Q true ⟨h,g,d,tk,os⟩):wpAny M A (excMatches #[SQ] (.ref S)) Q E ⟨h,g,d,tk,os⟩:=by
 obtain⟨l1,l2,l3⟩:=oP (M:=M) X hk;unfold excMatches isInstance;refine aB (aB (l1.at ?_));rw [tc_notTuple];refine aI (fe rfl (aB (aI ?_)));dsimp only
 (simp only [gg,iS])
 refine aB (aB (aB ?_));unfold isExcClass;refine aB (l2.at (jT rfl ((jQ X hs).at ?_)));refine fe rfl #[VV];refine aB ((zfG he M).at ?_);refine aB (aB (aB (l3.at (jT rfl #[VV]))));exact aI q
end
def Ends.but (D:Ends) (i:Nat):Ends:={ nx:=fun σ H=>D.nx #[Uy] H,rt:=D.rt,bk:=fun σ H=>D.bk #[Uy] H,ct:=fun σ H=>D.ct #[Uy] H }
def zsx (K:aD) (S:Addr) (i:Nat) (tb:XK->TS) (th:TS):TS:=fun D σ H =>
 tb (fun cls _ H'=>∃ C,cls = .ref C/\ft K #[Qq] (.ref S)=some true/\∀ e,H' e=none->th (D.but i) (σ.set i (some #[SQ])) (pB H' e (zm2 e C))) D σ H
section
variable {X:Cx} {x n:Str} {S:Addr} {i:Nat} {body tT:List Stmt} {b₀:Stmt} {tb:XK->TS} {th:TS} {np vf pos:Pos}
theorem zqO (hex:X.ex = []) (AI:X.stack=X.env :: X.outer) (BF:X.env.frame=some X.env.locals) (hg:Gl X x) (hm:X.mg x=some (.ref S)) (hS:du X.K S (.type "BaseException")=some true)
  (hN:X.N.Nodup) (hi:X.N[i]? = some n) (hk:X.env.scope.names.lookup n=some .local)
  (hb:∀ (xe:Value->Shared->Prop) (pv:List (Addr×Obj)) (σ:St) (E:XK),zdY (CX1 X.prog X.w) (X.NR xe) pv σ E->zm5 (X.NR xe) pv σ body (tb E))
  (hh:∀ e:Addr,PSs (X.L3 e) (b₀ :: tT) th) (hd:(x == ("__debug__" : Str))=false:=by decide) :
  PS X (.Try body [.ExceptHandler (some (.Name x np)) (some n) (b₀ :: tT) vf] [] [] pos) (zsx X.K S i tb th):=by
 intro pv s σ H D I h;refine wpAny_Try_except ?_;refine dN (hb (fun ev s1=>wpAny #[ss] X.A (noteFrame ev X.env) (fun _ s₂=>wpAny #[ss] X.A (setFlight ev none) (fun _ s₃=>wpAny #[ss] X.A (handleBy ev X.env [j5 (some (Expr.Name x np)) (some n) (b₀ :: tT) vf]) #[U4] X.xe s₃) X.xe s₂) X.xe s1) pv σ _ ?_ s H D (I.NR _) h) (fun f s1 q=>?_) fun ev s1 z=>z
 ·
  intro H1 s1 ev s2 I1 hq;have I1:=I1.Ld;obtain⟨e,C,H',B,rfl,os,bare,L,C',hC,uM,q⟩:=hq;cases hC;obtain⟨t,fl⟩:=L.fly;have rk:∀ b∈frs X.stack,H1 b=none:=I1.MO;show wpAny _ _ (noteFrame _ _) _ _ _;have Ja:B.FlyingW #[Tl] e #[Qq] t s2.heap:=by rw [<- AI]; exact fl
  refine k8 (base:=B) (outer:=X.outer) (by rw [<- AI]; exact I1.ok.frames) BF Ja fun h2 held u2=>?_
  refine nG held fun h3 BN u3=>?_
  have Aa:∀ (h4:Heap),B.FlyingW #[Tl] e #[Qq] t h4->s2.heap.UpToSlots h4->∀ (tk:Nat),Inv X pv σ H' ⟨h4,s2.gens,s2.drawn,tk,s2.os⟩:=by
   intro h4 Af u4 tk;refine I1.O6 (s':=⟨h4,s2.gens,s2.drawn,tk,s2.os⟩) (ch:=[]) os ?_ (L.hok.kept Af.1) bare #[TK];have U:=L.un rk;refine⟨fun b o z nn hb _=>Af.1 _ _ (L.keep b o z nn hb),fun b o z nn hb _=>?_,U.free,fun b o z _=>?_,L.ML,L.M5,L.Na⟩
   ·obtain⟨sl,z1⟩:=L.slot b o z nn hb;obtain⟨_,ob,zo,nd⟩:=I1.stack.mem hb;rw [z] at zo;cases zo;obtain⟨xX,z2⟩:=u4 b _ z1 nd;exact⟨xX,z2⟩
   ·by_cases hb:b∈frs X.stack
    ·obtain⟨sl,z1⟩:=L.slot b o z (rk b hb) hb;obtain⟨_,ob,zo,nd⟩:=I1.stack.mem hb;rw [z] at zo;cases zo;obtain⟨xX,z2⟩:=u4 b _ z1 nd;exact⟨_,z2⟩
    ·obtain⟨o',z1⟩:=L.there b o z hb;exact⟨o',Af.1 _ _ z1⟩
  have I3:=Aa h3 BN #[Wh] s2.toks;refine mW (lP ?_) (by intro z; cases z);refine zcs (X:=X.L3 e) (I3.L3 e) hg hm ?_ hd;refine zeM I3.kIn BN.there uM hS ?_;rw [if_pos rfl]
  (refine codeAny_handlers_suite_as ?_)
  refine kD BN fun h4 Af u4=>?_
  have I4:=Aa h4 Af (#[Wh].trans u4) s2.toks;have ne:H' e=none:=L.fresh;have e0:X.s₀.heap.get? e=none:=by
   cases z:X.s₀.heap.get? e with
   | none=>rfl
   | some o =>
    obtain⟨o',z'⟩:=I1.base.there e o z (by rw [hex]; simp);rw [L.new] at z'; cases z'
  have I5:Inv X pv σ (pB H' e (zm2 e C)) ⟨h4,s2.gens,s2.drawn,s2.toks,s2.os⟩:=by
   refine I4.Pc ne e0 (fun z=>?_) (fun y c hc z=>?_) (fun p hp z=>?_) ?_
   ·obtain⟨m,⟨o,_,_,ho,_⟩,_⟩:=I1.loc;rw [<- z,L.new] at ho;cases ho
   ·obtain⟨v,o,ho,_⟩:=I1.cell y c hc;rw [z,L.new] at ho;cases ho
   ·have:=(I1.pin p hp).1;rw [z,L.new] at this;cases this
   ·obtain⟨ob,ho,As⟩:=Af.there;exact⟨⟨ob,ho,As⟩,⟨ob,ho⟩,fun h1 h2 ⟨o,z,c⟩ k=>⟨o,k o z,c⟩⟩
  refine zcf (X:=X.L3 e) (v:=.ref e) (I5.L3 e) hN hi (.inl hk) rfl (fun s6 I6=>?_) (.inr hk);refine dN (hh e pv s6 _ _ (D.but i) I6 (q e ne)) (fun f s7 q7=>?_) fun _ _ z=>z.elim
  have fin:∀ {σ':St} {H7:Hp} {R:Shared->Prop},Inv (X.L3 e) pv σ' H7 s7->(∀ s8,Inv X pv (σ'.set i none) H7 s8->R s8)->wpAny #[ss] X.A (do bindName X.env n eI; unbindBehindTheSuite X.env n vf) (fun _ s8=>R s8) X.xe s7:=by
   intro σ' H7 R I7 hR;have I7:=I7.NM I.ok;refine aB (wpAny_bindName (zcf (v:=.non) I7 hN hi (.inl hk) rfl (fun s8 I8=>?_) (.inr hk)));unfold unbindBehindTheSuite;refine jh ?_;have G8:i < σ'.length:=by rw [I7.len]; exact (aP.mp hi).1
   refine zlw (v:=.non) I8 hN hi hk (by rw [fX G8]) fun s9 I9=>hR s9 ?_
   rw [List.set_set] at I9;exact I9
  cases f with
  | next =>
   obtain⟨σ',H7,I7,q8⟩:=q7;exact fin I7 fun s8 I8=>⟨_,_,I8,q8⟩
  | brk =>
   obtain⟨σ',H7,I7,q8⟩:=q7;exact fin I7 fun s8 I8=>⟨_,_,I8,q8⟩
  | cont =>
   obtain⟨σ',H7,I7,q8⟩:=q7;exact fin I7 fun s8 I8=>⟨_,_,I8,q8⟩
  | ret v =>
   obtain⟨u,σ',H7,I7,r,q8⟩:=q7;exact fin I7 fun s8 I8=>⟨u,_,_,I8,r,q8⟩
 ·cases f with
  | next=>exact gd (SP.Ld q)
  | ret v=>exact SP.Ld q
  | brk=>exact SP.Ld q
  | cont=>exact SP.Ld q
end
structure M7 (k:Nat) (A:Around):Prop where
 dp:A.depth+3*k+5 < recursionLimit
 un:A.units+16*k+200 < cLine
theorem M7.of {e:Addr} (r:M8 k A):M7 k (A.mark (some #[SQ])):=⟨r.dp,r.un⟩
theorem M7.deeper (r:M7 (k+1) A) (env:Env):M7 k (A.deeper env) :=
 ⟨by have:=r.dp; show A.depth+1+3*k+5 < _; lia,by have:=r.un; show A.units+3+16*k+200 < _; lia⟩
structure OV (P:Program) (w:World) (K:aD) (mg:Str->Option Value) (base:Heap) (k:Nat) (f:Addr) (fd:FuncData) (ps:List Str) (sp:Sp):Prop where
 len:∀ vs H Q E,sp vs H Q E->vs.length=ps.length
 run:∀ (A:Around) (outer:List Env) (s:Shared) (H:Hp) (args:Args) (us:List Value) (vs:List V) (Q:VK) (E:XK),M7 k A->Pb P w K mg base A outer s H->BindsTo s fd args #[U2]->zR vs us->sp vs H Q E ->
  codeAny #[S0] A (.call #[Tt] args) (CR CX0 outer P w H s Q E) s
abbrev cxH (P:Program) (w:World) (K:aD) (mg:Str->Option Value) (base:Heap) (N:List Str) (qual:Str) (scope:Scope) (f:Addr) (cd:Value) (A:Around) (outer:List Env) (s:Shared) (H:Hp) (E:XK):Cx :=
 { zb1 CX0 P w K mg base N qual scope f cd A outer s H E with calm:=false,xe:=fun _ _=>False }
section
variable {P:Program} {w:World} {K:aD} {mg:Str->Option Value} {base:Heap}
theorem zqP {f:Addr} {name:Str} {params:Arguments} {body:List Stmt} {dV kV:Value} 
  {ps:List Str} (lk:K.lookup f=some ⟨oc,od,.func #[KK],Ab⟩) (vc:gW K pR qual=true) (S:KE N ps scope)
  (len:∀ vs H Q E,sp vs H Q E->vs.length=ps.length)
  (rW:∀ (A:Around) (outer:List Env) (s:Shared) (H:Hp) (vs:List V) (Q:VK) (E:XK),M7 k #[SL]->sp vs H Q E ->
   ∃ t,PSs #[QA] body t/\t { nx:=fun _ H'=>Q .non H',rt:=Q } #[Rr] H) :
  OV P w K mg base (k+1) f #[KK] ps sp:=by
 refine#[So];have hl:=len _ _ _ _ vL;have KX:K.In s.heap:=e0.mod.kin.keeps fun b o e=>#[Wl].1
 have lim:s.heap.NoLimit:=e0.mod.nolimit.keeps fun b o e=>#[Wl].1
 have tQ:∀ y∈ps.zip us,scope.names.lookup y.1=some .local\/(scope.names.lookup y.1=some .cell/\((cellsFrom #[Ev] scope.names []).lookup y.1).isSome=true):=fun ⟨n,v⟩ hy=>by
  rcases S.par n (iD hy).1 with q | q
  ·exact .inl q
  ·exact .inr ⟨q,jd _ _ _ (.inl q)⟩
 refine lJ (by have:=hr.dp; lia) (KX _ _ lk) rfl S.co S.gen rfl (nk KX vc) (hb _ _ _ _ ?_);refine kf S.kind tQ fun env he s1 x=>?_
 subst he;refine#[Ta];obtain⟨t,ht,hq⟩:=rW A outer s H vs Q E (hr.deeper _) vL;have e1:Pb P w K mg base { A with handled:=none } outer s H:=⟨e0.frames,e0.mod,e0.bs,e0.bsz,e0.NS,e0.frf,e0.hok,e0.bare⟩;have I0:Inv (zb1 CX0 P w K mg base N qual scope f pR { A with handled:=none } outer s H E) [] #[Rr] H s1:=zgG S rfl e1 hl r x;have I:Inv #[QA] [] #[Rr] H s1 :=
  ⟨⟨I0.ok.mod,I0.ok.kind,I0.ok.glob,I0.ok.blt,I0.ok.above,I0.ok.inj,I0.ok.has,I0.ok.cab,fun z=>(by cases z),I0.ok.frames,I0.ok.stk,I0.ok.exf,I0.ok.bs,I0.ok.bsz,I0.ok.O0,I0.ok.Pa,I0.ok.NS,I0.ok.frf⟩,I0.os,I0.bare,I0.base,I0.loc,I0.cell,I0.free,I0.LI,I0.pin,I0.hok,I0.len⟩
 refine dN (ht [] s1 #[Rr] H _ I hq) (fun fl s' hs=>?_) fun e s' hs=>hs.elim
 have fin:∀ {σ':St} {H':Hp} {v:V} {u:Value},Inv #[QA] [] σ' H' s'->RelV v u->Q v H'->CE outer P w H s Q u s' :=
  fun {σ' H' v u} J rv q=>⟨v,H',J.os,J.bare,J.base,J.hok,rv,q⟩
 cases fl with
 | ret u =>
  obtain⟨v,σ',H',J,rv,q⟩:=hs;exact fin J rv q
 | next =>
  obtain⟨σ',H',J,q⟩:=hs;exact fin (v:=V.non) (u:=eI) J rfl q
 | brk =>
  obtain⟨_,_,_,q⟩:=hs;exact dX q
 | cont =>
  obtain⟨_,_,_,q⟩:=hs;exact dX q
theorem Fun.okH {x:Str} {st:Stmt} {f:Addr} {ps:List Str} (F:Fun K x qual st f fd) (S:KE N ps (zh st)) (len:∀ vs H Q E,sp vs H Q E->vs.length=ps.length)
  (rW:∀ (pR:Value) (A:Around) (outer:List Env) (s:Shared) (H:Hp) (vs:List V) (Q:VK) (E:XK),M7 k #[Qu]->sp vs H Q E ->
   ∃ t,PSs (cxH P w K mg base N qual (zh st) f pR A outer s H E) (zbl st) t/\t { nx:=fun _ H'=>Q .non H',rt:=Q } #[Rr] H):OV P w K mg base (k+1) f fd ps sp:=by
 obtain⟨oc,od,kV,doc,pm,an,pR,ct,Ab,rfl,lk,vc⟩:=F.ex;exact zqP lk vc S len fun A outer s H vs Q E hr vL=>rW pR A outer s H vs Q E hr vL
end
section
variable {X:Cx} {k:Nat} {f:Addr} {fd:FuncData} {ps:List Str} {sp:Sp} {x:Str} {p pos:Pos} {e:Expr} {es:List Expr} {t:TA}
theorem zm6 (F:OV X.prog X.w X.K X.mg X.base k f fd ps sp) (hr:M7 k X.A) (hg:Gl X x) (hm:X.mg x=some #[Tt]) (hk:gv X.K #[Tt]=true) (hb:Binds X.K fd ps [])
  (ha:PA X (e :: es) t) (Av:(x == ("__debug__" : Str))=false:=by decide) (he:starEach (e :: es) X.env=#[Ix] :: starEach es X.env:=by rfl) (qh:#[Op].any (·.1)=false:=by rfl) :
  PE X (.Call #[U5] (e :: es) [] pos) (zmw sp [] E0 t):=by
 intro pv s σ H Q I h;refine f9 #[UL];refine j2 (h₀:=X.base) I.ok.mod.kin hk (thn #[Cl] fun us s1 ⟨vs,H1,I1,r,q⟩=>⟨I1.kIn,?_⟩) he qh;have r2:zR (vs++[]) (us++[]):=r.append .nil;have hl:(us++[]).length=ps.length:=by rw [<- r2.length]; exact F.len _ _ _ _ q
 refine jz (jA (F.run X.A X.stack s1 H1 ⟨us,[]⟩ (us++[]) (vs++[]) Q E0 hr I1.Pr (hb s1 us I1.kIn hl) r2 q) fun r s' hq=>?_);cases r with
 | error e=>exact hq.elim
 | ok fl =>
  cases fl with
  | ret u=>exact I1.after hq
  | next=>exact dX hq
  | brk=>exact dX hq
  | cont=>exact dX hq
end
theorem zdH:∀ {bs:List Bool} {us:List Value},zR #[Wm] us->us=bs.map hU
 | [],_,r=>by cases r; rfl
 | b :: bs,_,r=>by
  cases r with
  | cons r1 r2 =>
   rw [zdH r2];cases r1;rfl
theorem zeN {h:Heap}:∀ (bs:List Bool),∃ as,ReadsAll h (bs.map hU) (bs.map pj) as
 | []=>⟨_,.nil⟩
 | b :: bs=>by
  obtain⟨as,r⟩:=zeN (h:=h) bs;exact⟨_,.cons (by constructor) r⟩
theorem zeO:∀ (bs:List Bool),(bs.map pj).all Spec.Shape.bool.has=true
 | []=>rfl
 | _ :: bs=>by
  rw [bX,mM,zeO bs];rfl
theorem zix {bs:List Bool} (k:Bool) (y:Value) (hy:y∈bs.map hU) (A:Around) (s:Shared):oE A s y (.bool k) (isBoolOf k y):=by
 obtain⟨as,r⟩:=zeN (h:=s.heap) bs;exact eq_isBoolOf k r (zeO bs) y hy A s
theorem zdZ (k:Bool):∀ bs:List Bool,List.countP (isBoolOf k) (bs.map hU)=bs.count k
 | []=>rfl
 | b :: bs=>by
  rw [bX,List.countP_cons,List.count_cons,zdZ k bs];rfl
section
variable {X:Cx}
def zoN:V->List V->Hp->VK->Prop:=fun x vs H Q=>∃ (l:Addr) (bs:List Bool) (k:Bool),x = .ref l/\vs = [.bl k]/\H l=some (.lst #[Wm])/\Q (.int ((bs.count k:Nat):Int)) H
theorem zlx:MtM X "list.count" zoN:=by
 intro pv s σ H x vs v us Q I rx rv h;obtain⟨l,bs,k,rfl,rfl,hH,q⟩:=h;cases rx;obtain⟨u,rfl,ru⟩:=rv.one;cases ru;obtain⟨z,pC,n,r,hl,e⟩:=I.OT hH;have hi:=zdH r;subst hi;refine gu F.slot_list_count ⟨_,e,rfl⟩ F.entry_list_count (F.args_list_count_2 _ _) (SeqAt.list_countAt l _ n _ _ (.bool k) (isBoolOf k)) ⟨e,fun y hy=>zix (bs:=bs) k y (by simpa using hy) _ _,?_⟩;rw [List.toList_toArray,zdZ];exact⟨.int ((bs.count k:Nat):Int),H,I.tok _,⟨_,rfl⟩,q⟩
def zoO:V->List V->Hp->VK->Prop:=fun x vs H Q=>∃ (l:Addr) (bs:List Bool) (k:Bool) (j:Nat),x = .ref l/\vs = [.bl k]/\H l=some (.lst #[Wm])/\bs[j]? = some k/\(∀ m,m < j->bs[m]? = some (!k))/\j < 1000/\Q (.int (j:Int)) H
theorem zly:MtM X "list.index" zoO:=by
 intro pv s σ H x vs v us Q I rx rv h;obtain⟨l,bs,k,j,rfl,rfl,hH,hj,hm,h1000,q⟩:=h;cases rx;obtain⟨u,rfl,ru⟩:=rv.one;cases ru;obtain⟨z,pC,n,r,hl,e⟩:=I.OT hH;have hi:=zdH r;subst hi;obtain⟨hjl,hje⟩:=aP.mp hj;refine gu F.slot_list_index ⟨_,e,rfl⟩ F.entry_list_index (F.args_list_index_2 _ _) (SeqAt.list_indexAt l _ n _ _ (.bool k) (isBoolOf k) j (by simpa using hjl) #[O] ?_ ?_) ⟨e,fun y hy=>zix (bs:=bs) k y (by simpa using hy) _ _,?_⟩
 ·simp [isBoolOf,hje]
 ·intro m h1 h2;have:=hm m h2;obtain⟨_,hme⟩:=aP.mp this;simp [isBoolOf,hme]
 ·exact⟨.int (j:Int),H,I.tok _,⟨_,rfl⟩,q⟩
end
def zlz (hi:Int) (n:Nat):It:=⟨fun i _=>i < n,fun i H x H'=>H'=H/\x = .int (hi - i),fun i _=>n<=i⟩
theorem ziy {w:World} (it:Addr) (lo:Int) (n:Nat):Turn P w K tg (zlz lo n) [it] it (fun i h=>IsRangeIter h it (lo+(i:Nat)*(-1)) ((n:Int) - (i:Nat)) (-1)) where
 mem:=by simp
 obj:=fun i h st b hb=>by
  have e:b=it:=by simpa using hb
  subst e;exact⟨_,st,fun v z=>by
   have z':lq _=Data.cell v:=z;cases z'⟩
 keep:=fun i h h' st k=>k it #[M] _ st
 item:=by
  intro X hP hw hK hc i pv s σ H E I hf st hg;subst hP hw hK;obtain⟨f0,f1,f2,f3,f4,f5⟩:=hf it #[M];have W:=Walks.range (prog:=X.prog) (w:=X.w) #[Qn] it lo (-1) n;refine W.item i s _ _ hg st fun v h' tk hv pE kk=>?_
  obtain⟨t,rfl⟩:=hv;have I1:Inv X pv σ H { s with heap:=h',toks:=tk }:=I.turned (fun b o hb e=>kk b o (by simpa using hb) e) f0 f1 f3 f4 f5;refine⟨_,rfl,zfp (s:={ s with heap:=h',toks:=tk }) (n:="range_iterator") pE rfl rfl #[D] ⟨.int (lo - i),H,I1,⟨t,?_⟩,⟨rfl,rfl⟩,pE,fun b hb=>#[Ux].1⟩⟩;rw [show lo+(i:Int)*(-1)=lo - i by lia]
 done:=by
  intro X hP hw hK hc i pv s σ H E I hf st hg;subst hP hw hK;obtain⟨f0,f1,f2,f3,f4,f5⟩:=hf it #[M];exact lr #[Qn] st (by have:n<=i:=hg; lia) fun h' eb=>#[wp]
 self:=fun _ _ _ _ _ st h=>jc st h
section
variable {X:Cx} {tg:Expr}
theorem zjF {hi:Int} {n:Nat} {g:TG} {tb:TS} {D:Ends} {σ:St} (Pv:Nat->St->Hp->Prop) (h0:Pv 0 σ H)
  (hs:∀ i σ H,i < n->Pv i σ H->g (.int (hi - i)) σ H fun σ2 H2=>tb { D with nx:=Pv (i+1),ct:=Pv (i+1),bk:=D.nx } σ2 H2) (hd:∀ σ H,Pv n σ H->D.nx σ H) :
  ∃ W:Nat->Nat->St->Hp->Prop,(∃ m,W 0 m σ H)/\∀ i m σ H,W i m σ H ->
   ((zlz hi n).stop i H/\D.nx σ H)\/((zlz hi n).go i H/\∃ N:St->Hp->Prop,(∀ σ' H',N σ' H'->∃ m',m' < m/\W (i+1) m' σ' H')/\∀ x H',(zlz hi n).yld i H x H'->g x σ H' fun σ2 H2=>tb { D with nx:=N,ct:=N,bk:=D.nx } σ2 H2):=by
 refine⟨fun i m σ H=>m=n - i/\i<=n/\Pv i σ H,#[Si],?_⟩;rintro i m σ H ⟨rfl,hi,p⟩;by_cases pT:i < n
 ·refine .inr #[TW];obtain⟨e,y⟩:=y;subst e y;exact hs i σ _ pT p
 ·have e:i=n:=by lia
  subst e;exact .inl ⟨aG _,hd σ H p⟩
end
def strsOf:List Expr->Option (List Str)
 | []=>some []
 | .Constant (.str i) _ _ :: r=>(strsOf r).map (i :: ·)
 | _=>none
def ziz (ns:List Str):TA:=fun _ H Q=>Q (ns.map V.str) H
theorem zoP {X:Cx}:∀ (es:List Expr) (ns:List Str),strsOf es=some ns->PA X es (ziz ns):=by
 intro es;induction es with
 | nil =>
  intro ns h;have e:ns = []:=(bJ h).symm;subst e;exact zd
 | cons e r ih =>
  intro ns h;unfold strsOf at h;split at h
  ·rename_i heq
   cases heq
  ·rename_i i j p r' heq
   injection heq with e1 e2
   subst e1 e2;cases hr:strsOf r with
   | none=>rw [hr] at h; cases h
   | some ms =>
    rw [hr] at h;have e:i :: ms=ns:=bJ h;subst e;exact za zdE (ih ms hr)
  ·cases h
theorem zm7 {X:Cx} {i:Nat} {x:Str} {pos' qB rZ:Pos} {rest:List Stmt} {u:TS} {es:List Expr} {ns:List Str} (h:strsOf es=some ns) (hN:X.N.Nodup) (hi:X.N[i]? = some x) (hx:Loc X.env.scope x)
  (hf:X.fn x=true\/X.env.scope.names.lookup x=some .local) (hr:PSs X rest u):PSs X (.Assign [.Name x pos'] #[Tq] rZ :: rest) (zbe (zgh (zjq (ziz ns)) (zaI i)) u):=by
 have h1:PE X #[Tq] (zjq (ziz ns)):=@z9 X es (ziz ns) qB (@zoP X es ns h);have h2:PS X (.Assign [.Name x pos'] #[Tq] rZ) (zgh (zjq (ziz ns)) (zaI i)):=zn hN hi hx h1 (by rfl) hf;exact ze h2 hr
section
variable {κ:Type} [DecidableEq κ]
def zdI (pD:List (κ×V)) (k:κ):Option V:=(pD.find? fun kv=>decide (kv.1=k)).map (·.2)
def putK (pD:List (κ×V)) (k:κ) (v:V):List (κ×V) :=
 if (pD.any fun kv=>decide (kv.1=k))=true then pD.map (fun kv=>if kv.1=k then (kv.1,v) else kv) else pD++[(k,v)]
theorem zfK {p:κ×V} {r:List (κ×V)} {k:κ} (e:p.1=k):zdI (p :: r) k=some p.2:=by simp [zdI,gN,e]
theorem zfL {p:κ×V} {r:List (κ×V)} {k:κ} (e:¬ p.1=k):zdI (p :: r) k=zdI r k:=by simp [zdI,gN,e]
theorem zfM (k:κ):∀ pD:List (κ×V),(pD.any fun kv=>decide (kv.1=k))=(zdI pD k).isSome
 | []=>rfl
 | p :: r=>by
  rw [jj];by_cases e:p.1=k
  ·simp only [zfK e,decide_eq_true e,Bool.true_or,nC]
  ·rw [zfL e,decide_eq_false e,Bool.false_or]; exact zfM k r
theorem zcZ (pD:List (κ×V)) (k:κ) (v:V):#[RE].length<=pD.length+1:=by
 unfold putK;split
 ·rw [aA]; lia
 ·rw [aL,dM,k9]; lia
theorem zm8 {pD:List (κ×V)} {k:κ} (v:V) (h:zdI pD k=none):putK pD k v=pD++[(k,v)]:=by
 unfold putK;rw [zfM,h];exact if_neg #[D]
theorem zg6.OH {o:Option V} {u:Option Value} (r:zg6 o u):o.isSome=u.isSome:=by
 cases o with
 | none=>cases u with
  | none=>rfl
  | some _=>exact (show False from r).elim
 | some _=>cases u with
  | none=>exact (show False from r).elim
  | some _=>rfl
theorem zg6.getD {o:Option V} {u:Option Value} {d:V} {d':Value} (r:zg6 o u) (rd:RelV d d'):RelV (o.getD d) (u.getD d'):=by
 cases o with
 | none=>cases u with
  | none=>exact rd
  | some _=>exact (show False from r).elim
 | some _=>cases u with
  | none=>exact (show False from r).elim
  | some _=>exact r
theorem KV.val {pD:List (κ×V)} {vs:List (κ×Value)} (r:KV pD vs) (k:κ):zg6 (zdI pD k) (valueAt vs k):=by
 unfold KV at r;induction r with
 | nil=>exact gr
 | @cons p q ps qs h t ih =>
  obtain⟨h1,h2⟩:=h;by_cases e:p.1=k
  ·have e':q.1=k:=h1.symm.trans e;have b:valueAt (q :: qs) k=some q.2:=by simp [valueAt,gN,e']
   rw [zfK e,b]; exact h2
  ·have e':¬ q.1=k:=fun z=>e (h1.trans z)
   have b:valueAt (q :: qs) k=valueAt qs k:=by simp [valueAt,gN,e']
   rw [zfL e,b]; exact ih
theorem KV.any {pD:List (κ×V)} {vs:List (κ×Value)} (r:KV pD vs) (k:κ):(pD.any fun kv=>decide (kv.1=k))=vs.any fun kv=>decide (kv.1=k):=by
 unfold KV at r;induction r with
 | nil=>rfl
 | cons h t ih=>rw [jj,jj,ih,h.1]
theorem KV.Po {pD:List (κ×V)} {vs:List (κ×Value)} (r:KV pD vs) (k:κ) {u:Value} (ry:RelV y u) :
  KV (pD.map fun kv=>if kv.1=k then (kv.1,y) else kv) (vs.map fun kv=>if kv.1=k then (kv.1,u) else kv):=by
 unfold KV at r |-;induction r with
 | nil=>exact .nil
 | @cons p q ps qs h t ih =>
  rw [bX,bX];refine .cons ?_ ih;obtain⟨h1,h2⟩:=h;by_cases e:p.1=k
  ·rw [if_pos e,if_pos (h1.symm.trans e)]; exact⟨h1,ry⟩
  ·rw [if_neg e,if_neg (fun z=>e (h1.trans z))]; exact⟨h1,h2⟩
theorem KV.put {pD:List (κ×V)} {vs:List (κ×Value)} (r:KV pD vs) (k:κ) {u:Value} (ry:RelV y u):KV (putK pD k y) (stored vs k u):=by
 unfold putK stored;rw [r.any k];by_cases e:(vs.any fun kv=>decide (kv.1=k))=true
 ·rw [if_pos e,if_pos e]; exact r.Po k ry
 ·rw [if_neg e,if_neg e]; exact cY r ⟨rfl,ry⟩
theorem KV.length {pD:List (κ×V)} {vs:List (κ×Value)} (r:KV pD vs):pD.length=vs.length:=bM r
end
theorem zm9 {w:World} {k:Key} {u:Value} (r:RelV (kV k) u):(zaB P w).is k u=true:=by
 cases k with
 | inl i=>obtain⟨t,e⟩:=(show ∃ t,u=ju i t from r); subst e; exact zhZ P w i t
 | inr x=>obtain⟨t,e⟩:=(show ∃ t,u=nc x t from r); subst e; exact zh0 P w x t
theorem zgU {P:Program} {w:World}:∀ {ks:List Key} {us:List Value},zR (ks.map kV) us->ItemsAre (zaB P w) ks us
 | [],_,r=>by rw [iJ] at r; cases r; exact .nil
 | k :: ks,_,r=>by
  rw [bX] at r;cases r with
  | cons h t=>exact .cons (zm9 h) (zgU t)
abbrev KT (H:Hp):List (List Key×V)->List (List Key×Addr×Value)->Prop:=Paired fun p q=>p.1=q.1/\H q.2.1=some (.tup (p.1.map kV))/\RelV p.2 q.2.2
theorem KT.val {xs:List (List Key×Addr×Value)} (r:KT H pD xs) (k:List Key):zg6 (zdI pD k) ((atKey xs k).map (·.2)):=by
 induction r with
 | nil=>exact gr
 | @cons p q ps qs h t ih =>
  obtain⟨h1,_,h2⟩:=h;by_cases e:p.1=k
  ·have e':q.1=k:=h1.symm.trans e;have b:atKey (q :: qs) k=some q.2:=by simp [atKey,gN,e']
   rw [zfK e,b]; exact h2
  ·have e':¬ q.1=k:=fun z=>e (h1.trans z)
   have b:atKey (q :: qs) k=atKey qs k:=by simp [atKey,gN,e']
   rw [zfL e,b]; exact ih
theorem KT.Po {xs:List (List Key×Addr×Value)} (r:KT H pD xs) (k:List Key) {u:Value} (ry:RelV y u) :
  KT H (pD.map fun kv=>if kv.1=k then (kv.1,y) else kv) (xs.map (putAt k u)):=by
 induction r with
 | nil=>exact .nil
 | @cons p q ps qs h t ih =>
  rw [bX,bX];refine .cons ?_ ih;obtain⟨h1,h2,h3⟩:=h;unfold putAt;by_cases e:p.1=k
  ·rw [if_pos e,if_pos (h1.symm.trans e)]; exact⟨h1,h2,ry⟩
  ·rw [if_neg e,if_neg (fun z=>e (h1.trans z))]; exact⟨h1,h2,h3⟩
theorem KT.put {xs:List (List Key×Addr×Value)} (r:KT H pD xs) (k:List Key) {b:Addr} {u:Value} (hb:H b=some #[QV]) (ry:RelV y u) :
  KT H (putK pD k y) (storedH xs k b u):=by
 have e:(pD.any fun kv=>decide (kv.1=k))=(atKey xs k).isSome:=by
  rw [zfM,(r.val k).OH,Option.isSome_map]
 unfold putK storedH;rw [e];by_cases q:(atKey xs k).isSome=true
 ·rw [if_pos q,if_pos q]; exact r.Po k ry
 ·rw [if_neg q,if_neg q]; exact cY r ⟨rfl,hb,ry⟩
theorem KT.keeps {xs:List (List Key×Addr×Value)} (r:KT H pD xs) (ht:∀ b ys,H b=some (.tup ys)->H' b=some (.tup ys)):KT H' pD xs :=
 Paired.Pp r fun _ _ z=>⟨z.1,ht _ _ z.2.1,z.2.2⟩
section
variable {P:Program} {w:World} {H:Hp} {h:Heap} {a:Addr}
theorem zpW {u:HO} (ok:HOk P w H h) (e:Rd H a u):zah P w H h a u:=e.ok ok
theorem zna {pD:List (Key×V)} (ok:HOk P w H h) (e:Rd H a #[VQ]):pD.length<=sizeLine/\(a == sysModules)=false/\∃ vs,KV pD vs/\h.DictOf (zaB P w) a vs :=
 show zah P w H h a #[VQ] from zpW ok e
theorem zrW {pD:List (Key×V)} (ok:HOk P w H h) (e:H a=some #[VQ]):pD.length<=sizeLine/\(a == sysModules)=false/\∃ vs,KV pD vs/\h.DictOf (zaB P w) a vs:=zna ok (.inl e)
theorem zhn {ks:List Key} (ok:HOk P w H h) (e:H a=some (.tup (ks.map kV))):#[QZ].is h ks a:=by
 obtain⟨_,pC,r,o,h1,h2,n,h3⟩:=(show zah P w H h a (.tup (ks.map kV)) from ok a _ e);exact⟨o,pC.toArray,n,h1,h2,h3,by simpa using zgU r⟩
theorem znb (ok:HOk P w H h) (e:Rd H a #[TZ]):pD.length<=sizeLine/\(a == sysModules)=false /\
  ∃ xs,KT H pD xs/\h.DictOfH #[QZ] a xs:=by
 obtain⟨z,y,xs,r,o,es,ep,h1,h2,h3,h4,h5⟩:=(show zah P w H h a #[TZ] from zpW ok e);refine⟨z,y,xs,r,o,es,ep,h1,h2,h3,h4,fun x hx=>?_,h5⟩;have all:∀ {l:List (List Key×V)} {m:List (List Key×Addr×Value)},KT H l m->∀ x∈m,#[QZ].is h x.1 x.2.1:=by
  intro l m q;induction q with
  | nil=>intro x hx; exact nomatch hx
  | @cons p q ps qs hq t ih =>
   intro x hx;rcases aR.mp hx with e | hx
   ·subst e;exact zhn ok (by rw [<- hq.1]; exact hq.2.1)
   ·exact ih x hx
 exact all r x hx
theorem zpX (ok:HOk P w H h) (e:H a=some #[TZ]):pD.length<=sizeLine/\(a == sysModules)=false /\
  ∃ xs,KT H pD xs/\h.DictOfH #[QZ] a xs:=znb ok (.inl e)
end
def zrX (H:Hp) (a:Addr) (y:V) (r:Option V):Prop :=
 (∃ pD k,Rd H a #[VQ]/\y=kV k/\r=zdI pD k)\/∃ pD k b,Rd H a #[TZ]/\y = .ref b/\H b=some #[QV]/\r=zdI pD k
def znc (H:Hp) (a:Addr) (y v:V) (H':Hp):Prop :=
 (∃ pD k,H a=some #[VQ]/\y=kV k/\pD.length < sizeLine/\H'=pB H a (.dK #[RE])) \/
 ∃ pD k b,H a=some #[TZ]/\y = .ref b/\H b=some #[QV]/\pD.length < sizeLine/\H'=pB H a (.dT #[RE])
theorem znc.t {a b:Addr} {k:List Key} (e:H a=some #[TZ]) (eb:H b=some #[QV]) (hl:pD.length < sizeLine) :
  znc H a #[Wz] v (pB H a (.dT #[RE])):=.inr ⟨pD,k,b,e,rfl,eb,hl,rfl⟩
section
variable {X:Cx} {pv:List (Addr×Obj)} {σ:St} {H:Hp} {s:Shared} {a:Addr} {y v:V} {u r:Value} {o:Option V} {A:Around} {E:Value->Shared->Prop}
theorem Inv.big (I:Inv X pv σ H s):sysModules < s.heap.objs.size:=by
 have h:mainGlobals < s.heap.objs.size:=(I.mod.glob.keeps I.bk).lt;exact Nat.lt_trans #[D] h
theorem zho {ob:HO} (I:Inv X pv σ H s) (mu:Mut (H a)) (hs:cM a s.heap h') (he:∃ q,h'.get? a=some q) (new:zah X.prog X.w (pB H a ob) h' a ob) :
  Inv X pv σ (pB H a ob) { s with heap:=h',toks:=t' } :=
 I.write (x:=a) (e:=a) mu #[QP] (fun b q hb z=>(hs.2 b hb).trans z) he new
theorem zqQ {w:World} {pD:List (Key×V)} {vs:List (Key×Value)} (z:pD.length<=sizeLine) (hd:(a == sysModules)=false) (rel:KV pD vs) (dd:h'.DictOf (zaB P w) a vs) :
  zah P w H' h' a #[VQ]:=⟨z,hd,vs,rel,dd⟩
theorem zlA {Q:Unit->Shared->Prop} (hu:A.units+1 < cLine) (I:Inv X pv σ H s) (g:znc H a y v H') (ry:RelV y u) (rv:RelV v r) (h:∀ s',Inv X pv σ H' s'->Q () s') :
  wpAny #[ss] A (setItem #[QK] u r) Q E s:=by
 rcases g with ⟨pD,k,e,ey,l,eH⟩ | ⟨pD,k,b,e,ey,eb,l,eH⟩
 ·subst ey eH;obtain⟨z,hd,vs,rel,dd⟩:=zrW I.hok e;have hz:vs.length<=sizeLine:=by rw [<- rel.length]; exact z
  have hl:#[RE].length<=sizeLine:=by have:=zcZ pD k v; lia
  refine wpAny_setItem_pairs (hsz:=hz) (zm9 ry) dd fun h' Dk hs=>h _ ?_
  have he:∃ q,h'.get? a=some q:=let ⟨q,_,_,hq,_⟩:=Dk; ⟨q,hq⟩
  exact zho I (by rw [e]; exact gr) hs he (zqQ hl hd (rel.put k rv) Dk)
 ·subst ey eH;cases (show u=bP b from ry);obtain⟨z,hd,xs,rel,dd⟩:=zpX I.hok e;have hz:xs.length<=sizeLine:=by rw [<- bM rel]; exact z
  have hl:#[RE].length<=sizeLine:=by have:=zcZ pD k v; lia
  refine wpAny_setItem_heap (hsz:=hz) (j6 hu) (zhn I.hok eb) dd fun h' Dk hs=>h _ ?_
  obtain⟨q,es,ep,hq,h2,h3,h4,_,h5⟩:=Dk;refine zho I (by rw [e]; exact gr) hs ⟨q,hq⟩ ⟨hl,hd,_,(rel.put k eb rv).keeps fun c ys ec=>?_,q,es,ep,hq,h2,h3,h4,h5⟩;rw [zm (zpL ec e (fun z=>nomatch z))];exact ec
end
def zrY (td ty tv:TE):TS:=fun D σ H=>tv σ H fun v H1=>td σ H1 fun x H2=>ty σ H2 fun y H3=>∃ a H4,x = .ref a/\znc H3 a y v H4/\D.nx σ H4
section
variable {X:Cx} {o i e value:Expr} {pos pos' rj:Pos} {td ty tv:TE}
theorem zoQ (hu:X.A.units+1 < cLine) (ho:PE X o td) (hi:PE X i ty) (hv:PE X value tv) (hs:swapsWith value (some (.Subscript o i pos')) pos.line X.env=pure false) :
  PS X (.Assign [.Subscript o i pos'] value pos) (zrY td ty tv):=by
 intro pv s σ H D I h;refine wpAny_Assign_Subscript (thn (hv pv s σ H _ I h) fun r s1 ⟨v,H1,I1,rv,q1⟩=>thn (ho pv s1 σ H1 _ I1 q1) fun u s2 ⟨x,H2,I2,rx,q2⟩=>thn (hi pv s2 σ H2 _ I2 q2) fun iv s3 ⟨y,H3,I3,ry,a,H4,ex,g,q3⟩=>?_) hs;subst ex;obtain rfl:u=bP a:=rx;exact zlA hu I3 g ry rv fun s4 I4=>⟨σ,H4,I4,q3⟩
end
theorem ziA {w:World} (h:Heap) (hb:sysModules < h.objs.size):zah P w H (h.push { cls:=.type "dict",data:=.dict #[] }) h.objs.size (.dT []) :=
 ⟨cB _,beq_eq_false_iff_ne.mpr (eG (bT hb)),[],.nil,_,#[],0,aY _ rfl,⟨rfl,rfl,rfl⟩,rfl,rfl,oV⟩
def zqR:TE:=fun _ H Q=>∀ p,H p=none->Q #[Wy] (pB H p (.dT []))
section
variable {X:Cx} {pos:Pos}
theorem znd:PE X (.Dict [] [] pos) zqR:=fun pv s σ H Q I h =>
 wpAny_Dict_empty ⟨.ref s.heap.objs.size,_,I.laid (a:=s.heap.objs.size) (o:=.dT []) (t':=s.toks) (fun _ _ q=>aH _ q) (aG _) (ziA s.heap I.big),rfl,h _ #[S6]⟩
end
structure M2 (X:Cx) (o:Expr) (m:Str) (apos:Pos) (e f:Expr) (qj:Pos):Prop where
 base:attributeBase o m X.env #[Vm]=eval o X.env
 few:((backTo qj (starEach [e,f] X.env)).all (fun x=>!x.1) && (backToKw qj (keywordEach [] X.env)).all (fun x=>x.1.isSome)
  && decide (([e,f]:List Expr).length+([]:List Keyword).length+(if ([]:List Keyword).isEmpty then 0 else 1) < 30))=true
 line:(apos.endLine == qj.line)=true
 trees:backTo qj (starEach [e,f] X.env) = [#[Ix],(false,eval f X.env)]
def IsD (H:Hp) (a:Addr):Prop:=(∃ pD,Rd H a #[VQ])\/∃ pD,Rd H a #[TZ]
theorem zqS {σ:St} {a:Addr} (I:Inv X pv σ H s) (d:IsD H a) :
  s.TypeIs #[QK] "dict"/\(∀ b,bP a = .ref b->∃ ob,s.heap.get? b=some ob/\ob.dict=none)/\(a == sysModules)=false:=by
 rcases d with ⟨pD,e⟩ | ⟨pD,e⟩
 ·obtain⟨_,hd,vs,_,dd⟩:=zna I.hok e;refine⟨dd.typeIs,fun b q=>?_,hd⟩;cases q;obtain⟨ob,_,_,h1,h2,_⟩:=dd;exact⟨ob,h1,h2.2.1⟩
 ·obtain⟨_,hd,xs,_,dd⟩:=znb I.hok e;refine⟨dd.typeIs,fun b q=>?_,hd⟩;cases q;obtain⟨ob,_,_,h1,h2,_⟩:=dd;exact⟨ob,h1,h2.2.1⟩
section
variable {X:Cx} {pv:List (Addr×Obj)} {σ:St} {H:Hp} {s:Shared} {a:Addr} {y d:V} {u r:Value} {o:Option V} {A:Around} {E:Value->Shared->Prop}
theorem zqT {Q:Value->Shared->Prop} (hu:A.units+1 < cLine) (I:Inv X pv σ H s) (g:zrX H a y o) (ry:RelV y u) (rd:RelV d r) (h:∀ w' s',Inv X pv σ H s'->RelV (o.getD d) w'->Q w' s') :
  wpAny #[ss] A (call (.builtin "dict.get") [.ref a,u,r]) Q E s:=by
 rcases g with ⟨pD,k,e,ey,l⟩ | ⟨pD,k,b,e,ey,eb,l⟩
 ·subst ey;obtain⟨z,hd,vs,rel,dd⟩:=zna I.hok e;refine call_meetsIn jw dd.typeIs lE (kW _ _ _) (meets_dict_get_default #[WH] a (zm9 ry) hd r) ⟨_,dd.mapOf,h _ _ (I.tok _) ?_⟩;rw [l];exact (rel.val k).getD rd
 ·subst ey;cases (show u=bP b from ry);obtain⟨z,hd,xs,rel,dd⟩:=znb I.hok e;refine call_meetsIn jw dd.typeIs lE (kW _ _ _) (meetsH_dict_get_default (tupleKind #[WH]) a b hd r) ⟨j6 hu,k,xs,zhn I.hok eb,dd,h _ _ (I.tok _) ?_⟩;rw [l];exact (rel.val k).getD rd
end
def zqU (td ty tx:TE):TE:=fun σ H Q=>td σ H fun x H1=>∃ a,x = .ref a/\IsD H1 a/\ty σ H1 fun y H2=>tx σ H2 fun z H3=>∃ o,zrX H3 a y o/\Q (o.getD z) H3
section
variable {X:Cx} {o e f:Expr} {apos qj:Pos} {td ty tx:TE}
theorem zne (hu:X.A.units+1 < cLine) (ho:PE X o td) (he:PE X e ty) (hf:PE X f tx) (m:M2 X o "get" apos e f qj):PE X (.Call (.Attribute o "get" apos) [e,f] [] qj) (zqU td ty tx):=by
 intro pv s σ H Q I h;refine wpAny_Call_method m.base m.few m.line PySem.F.plainAttrs_dict jw PySem.F.type_dict_get (thn #[SV] fun u s1 ⟨x,H1,I1,rx,a,ex,d,q1⟩=>?_);subst ex;obtain rfl:u=bP a:=rx;obtain⟨t1,t2,_⟩:=zqS I1 d;refine⟨t1,t2,?_⟩;rw [m.trees];refine lA rfl (jB (fZ (thn (he pv s1 σ H1 _ I1 q1) fun iv s2 ⟨y,H2,I2,ry,q2⟩ =>
  fZ (thn (hf pv s2 σ H2 _ I2 q2) fun fv s3 ⟨z,H3,I3,rz,ov,g,q3⟩=>gU ?_))))
 exact zqT hu I3 g ry rz fun w' s4 I4 C1=>⟨_,H3,I4,C1,q3⟩
end
theorem ziB:∀ {ns:List Int} {us:List Value},zR #[EQ] us->∃ ps:List (Int×Tok),us=ps.map (fun p=>ju p.1 p.2)/\ps.map (·.1)=ns
 | [],_,r=>by cases r; exact⟨[],rfl,rfl⟩
 | n :: ns,_,r=>by
  cases r with
  | cons r1 r2 =>
   obtain⟨ps,e1,e2⟩:=ziB r2;obtain⟨t,rfl⟩:=r1;exact⟨(n,t) :: ps,by rw [e1]; rfl,by rw [<- e2]; rfl⟩
theorem zlB {X:Cx} (hc:X.calm=true):zbh X (.builtin "sum") (fun xs H Q=>∃ (p:Addr) (ns:List Int),xs = [.ref p]/\pA X.K H p #[EQ]/\Q (.int ns.sum) H):=by
 intro pv s σ H xs us Q I r h;obtain⟨p,ns,rfl,hq,q⟩:=h;obtain⟨u,rfl,rx⟩:=vals1 r;cases rx;obtain⟨pC,rv,pl,hz⟩:=I.list hq;obtain⟨ps,e1,e2⟩:=ziB rv;subst e1 e2;have hl:s.heap.IsList p (intItems ps.toArray):=by
  have:=pl.isList;simpa [intItems] using this
 refine sum_intListG (xs:=ps.toArray) (by simp [I.ok.hd hc]) hl fun h' tk t' kk=>⟨.int (ps.map (·.1)).sum,H,I.kept kk,⟨t',?_⟩,q⟩
 rw [preSum_eq,bC #[M]]
end L2
namespace PySem
open PyProof.Rows
end PySem
namespace L2
open PySem PySem.Spec PyProof.Rows
end L2
namespace My
open PySem L2 PyProof.Rows
section
variable {K:aD}
structure O7 (K:aD) (H:Hp) (r:Addr) (n:Nat) (rw:List #[IO]):Prop where
 at':pA K H r (rw.map tS)
 len:rw.length=n
end
end My
end
section
namespace Srt
open PySem PyProof.Rows
variable {arr:Array Keyed} {j pP:Nat} {st₀:SortSt}
def Vk (val:Keyed->Int) (xs:Array Keyed) (i:Nat):Int:=match xs[i]? with
 | some p=>val p
 | none=>0
theorem zar {val:Keyed->Int} {xs ys:Array Keyed} {i:Nat} (h:xs[i]? = ys[j]?):Vk val xs i=Vk val ys j:=by unfold Vk; rw [h]
theorem zab {val:Keyed->Int} {xs:Array Keyed} {i:Nat} {p:Keyed} (h:xs[i]? = some p):Vk val xs i=val p:=by unfold Vk; rw [h]
def SIn (val:Keyed->Int) (xs:Array Keyed) (lo hi:Nat):Prop:=∀ i j,lo<=i->i<=j->j < hi->Vk val xs i<=Vk val xs j
def DIn (val:Keyed->Int) (xs:Array Keyed) (lo hi:Nat):Prop:=∀ i j,lo<=i->i<=j->j < hi->Vk val xs j<=Vk val xs i
structure SB (κ:SortKind) (a₀:Array Keyed) (st:SortSt):Prop where
 perm:#[wE].Perm a₀
 kind:kindOf st=κ
 failed:failedOf st=none
theorem SB.size {κ:SortKind} {a₀:Array Keyed} {st:SortSt} (h:SB κ a₀ st):#[wE].size=a₀.size:=h.perm.size_eq
theorem SB.mem {κ:SortKind} {a₀:Array Keyed} {st:SortSt} (h:SB κ a₀ st) {i:Nat} (hi:i < a₀.size):∃ p,#[wE][i]? = some p/\p∈a₀.toList:=by
 (have qF:i < #[wE].size:=by rw [h.size]; exact hi)
 exact⟨#[wE][i],getElem?_pos _ i qF,(io.mp h.perm).mem_iff.mp #[M]⟩
structure SF (κ:SortKind) (a₀:Array Keyed) (lo:Nat) (st₀ st:SortSt):Prop where
 b:SB κ a₀ st
 low:∀ k,k < lo->#[wE][k]? = (arrOf st₀)[k]?
 pend:pendingOf st=pendingOf st₀
theorem SF.refl {κ:SortKind} {a₀:Array Keyed} {lo:Nat} {st:SortSt} (h:SB κ a₀ st):SF κ a₀ lo st st:=⟨h,fun _ _=>rfl,rfl⟩
theorem SF.setArr {κ:SortKind} {a₀:Array Keyed} {lo:Nat} {st₀ st:SortSt} (h:SF κ a₀ lo st₀ st) {xs:Array Keyed} (hp:xs.Perm #[wE]) (hl:∀ k,k < lo->xs[k]? = #[wE][k]?):SF κ a₀ lo st₀ (setArr st xs) :=
 ⟨⟨hp.trans h.b.perm,h.b.kind,h.b.failed⟩,fun k hk=>(hl k hk).trans (h.low k hk),h.pend⟩
section
variable {prog:Program} {w:World} {A:Around} {E:Value->Shared->Prop} {s:Shared} {a₀:Array Keyed} {κ:SortKind} {val:Keyed->Int}
def Cmp (prog:Program) (w:World) (A:Around) (s:Shared) (κ:SortKind) (val:Keyed->Int) (a₀:Array Keyed):Prop :=
 ∀ x y,x∈a₀.toList->y∈a₀.toList->∀ (Q:Bool->Shared->Prop) (E:Value->Shared->Prop),Q (decide (val x < val y)) s->wpAny #[ul] A (keyLt' κ x.1 y.1) Q E s
theorem znf {st:SortSt} {x y:Keyed} {Q:Option Bool->SortSt->Prop} (hC:Cmp prog w A s κ val a₀) (hk:kindOf st=κ) (hx:x∈a₀.toList) (hy:y∈a₀.toList) (h:Q (some (decide (val x < val y))) st) :
  wpS #[ul] A E s (lt' x y) Q st:=by
 rw [lt'_eq];refine aS (iU ?_);rw [hk];refine aS (jU (eh (hC x y hx hy _ _ #[Uc])));exact aT h
theorem zaa {st:SortSt} {i:Nat} {p:Keyed} {Q:Keyed->SortSt->Prop} (hi:arr[i]? = some p) (h:Q p st):wpS #[ul] A E s (elem' arr i) Q st:=by
 rw [elem'_eq,hi];exact aT h
theorem zfN {st:SortSt} {i:Nat} {Q:Option Bool->SortSt->Prop} (hC:Cmp prog w A s κ val a₀) (hB:SB κ a₀ st) (hi:i < a₀.size) (hj:j < a₀.size) (h:Q (some (decide (Vk val #[wE] i < Vk val #[wE] j))) st) :
  (wpS #[ul] A E s (ltAt' i j) Q st):=by
 obtain⟨x,ex,mx⟩:=hB.mem hi;obtain⟨y,ey,my⟩:=hB.mem hj;rw [ltAt'_eq];refine aS (iU ?_)
 (show wpS _ _ _ _ (do let x <- elem' #[wE] i; let y <- elem' #[wE] j; lt' x y) Q st)
 refine aS (zaa ex (aS (zaa ey (znf hC hB.kind mx my ?_))));rw [zab ex,zab ey] at h;exact h
theorem zkv {st:SortSt} {i:Nat} {Q:Unit->SortSt->Prop} (h:Q () (setArr st (mirror #[wE] i j ((j - i) / 2)))) :
  (wpS #[ul] A E s (reverseSlice' i j) Q st):=by
 ((rw [reverseSlice'_eq]; exact ig h))
theorem zfO {xs:Array Keyed} {i:Nat} (hj:j<=xs.size) (k:Nat):Vk val (mirror xs i j ((j - i) / 2)) k=if i<=k/\k < j then Vk val xs (i+j - 1 - k) else Vk val xs k:=by
 (have e:=mX (i:=i) hj k)
 by_cases h1:i<=k/\k < j
 ·rw [if_pos h1] at e |-; exact zar e
 ·rw [if_neg h1] at e |-; exact zar e
theorem zbE {xs:Array Keyed} {i:Nat} (hj:j<=xs.size) (heq:∀ k,i<=k->k < j->Vk val xs k=Vk val xs (j - 1)) (k:Nat):Vk val (mirror xs i j ((j - i) / 2)) k=Vk val xs k:=by
 rw [zfO hj];split
 ·(rw [heq _ #[O] #[O],heq k #[O] #[O]])
 ·rfl
theorem zcC {xs:Array Keyed} {lo i:Nat} (hj:j<=xs.size) (hi:lo<=i):∀ k,k < lo->(mirror xs i j ((j - i) / 2))[k]? = xs[k]?:=fun k hk=>by
 rw [mX hj,if_neg #[O]]
theorem zjG {xs:Array Keyed} {lo src d:Nat} (hs:src < xs.size) (hd:d<=src) (hl:lo<=src - d):∀ k,k < lo->(bubble xs src d)[k]? = xs[k]?:=fun k hk=>by
 rw [getElem?_bubble hs d hd,if_neg #[O],if_neg #[O]]
def zng (lo a pP:Nat):StateT SortSt Sem AscSt :=
 forIn [a:pP] ((none,a):AscSt) fun _ st=>do
  let x <- ltAt' (lo+st.snd) (lo+st.snd - 1)
  match x with
  | some vg=>if vg=true then pure (iV (none,st.snd)) else pure (eL (none,st.snd+1))
  | _=>pure (iV (some none,st.snd))
def ziC (lo n pP:Nat):StateT SortSt Sem #[Os]:=do
 reverseSlice' lo (lo+n)
 let st <- zng lo n pP
 match st.fst with
 | some r=>pure r
 | none=>pure (some st.snd)
noncomputable def zkw (lo n pP:Nat):StateT SortSt Sem DescSt :=
 forIn [n:pP] ((none,n,0):DescSt) fun _ st=>do
  let x <- ltAt' #[U8] (lo+st.snd.fst - 1)
  match x with
  | some vg =>
   if vg=true then
    if st.snd.snd > 0 then do
     reverseSlice' (lo+st.snd.fst - (st.snd.snd+1)) #[U8]
     pure (eL (none,st.snd.fst+1,0))
    else pure (eL (none,st.snd.fst+1,0))
   else do
    let x <- ltAt' (lo+st.snd.fst - 1) #[U8]
    match x with
    | some Dm =>
     if Dm=true then pure (iV (none,st.snd.fst,st.snd.snd))
     else pure (eL (none,st.snd.fst+1,st.snd.snd+1))
    | _=>pure #[UW]
  | _=>pure #[UW]
def ziD (lo n pP:Nat):StateT SortSt Sem #[Os]:=do
 liftM (rule "list.sort.descending-run"); let st <- zkw lo (n+1) pP
 match st.fst with
 | some r=>pure r
 | none =>
  if st.snd.snd > 0 then do
   reverseSlice' (lo+st.snd.fst - (st.snd.snd+1)) #[U8]
   ziC lo st.snd.fst pP
  else ziC lo st.snd.fst pP
theorem zhp (lo pP:Nat):countRun' lo pP=(do
  let st <- zng lo 1 pP
  match st.fst with
  | some r=>pure r
  | none =>
   if (st.snd == pP)=true then pure (some st.snd)
   else if st.snd > 1 then do
    let x <- ltAt' lo (lo+st.snd - 1)
    match x with
    | some Ft=>if Ft=true then pure (some st.snd) else do
      reverseSlice' lo (lo+st.snd)
      ziD lo st.snd pP
    | _=>pure none
   else ziD lo st.snd pP):=by
 rw [countRun'_eq];unfold ziD ziC zkw zng;dsimp only;refine congrArg (bind _) ?_;funext c;obtain⟨r,n⟩:=c;cases r with
 | some r=>rfl
 | none =>
  dsimp only;split
  ·rfl
  ·split
   ·congr 1;funext x;cases x with
    | none=>rfl
    | some Ft =>
     dsimp only;split
     ·rfl
     ·congr 1;funext _r;congr 1; funext _u; congr 1; congr 1; funext s2; obtain⟨r2,n2,q2⟩:=s2;cases r2 with
      | some r2=>rfl
      | none =>
       dsimp only;split
       ·congr 1; funext _v; congr 1; funext _w; congr 1; funext s3; obtain⟨r3,n3⟩:=s3; cases r3 <;> rfl
       ·congr 1; funext _w; congr 1; funext s3; obtain⟨r3,n3⟩:=s3; cases r3 <;> rfl
   ·congr 1; funext _u; congr 1; congr 1; funext s2; obtain⟨r2,n2,q2⟩:=s2;cases r2 with
    | some r2=>rfl
    | none =>
     dsimp only;split
     ·congr 1; funext _v; congr 1; funext _w; congr 1; funext s3; obtain⟨r3,n3⟩:=s3; cases r3 <;> rfl
     ·congr 1; funext _w; congr 1; funext s3; obtain⟨r3,n3⟩:=s3; cases r3 <;> rfl
theorem zpY {st:SortSt} {lo a:Nat} {Q:AscSt->SortSt->Prop} (hC:Cmp prog w A s κ val a₀) (hn:lo+pP<=a₀.size) (ha:1<=a) (han:a<=pP) (hB:SF κ a₀ lo st₀ st)
  (hs:SIn val #[wE] lo (lo+a))
  (h:∀ n,a<=n->n<=pP->SIn val #[wE] lo (lo+n)->(n=pP\/Vk val #[wE] (lo+n) < Vk val #[wE] (lo+n - 1))->Q (none,n) st) :
  wpS #[ul] A E s (zng lo a pP) Q st:=by
 unfold zng;refine eY (I:=fun x c pE=>pE=st/\c=(none,x)/\SIn val #[wE] lo (lo+x)) ?step ?fin ⟨rfl,rfl,hs⟩
 case fin =>
  rintro c pE ⟨rfl,rfl,qG⟩
  (rw [show max a pP=pP by lia] at qG |-)
  (exact h pP han (aG _) qG #[QP])
 case step =>
  (rintro x c pE Jb G9 ⟨rfl,rfl,qG⟩)
  dsimp only;refine aS (zfN hC hB.b #[O] #[O] ?_);by_cases qH:Vk val #[Do] (lo+x) < Vk val #[Do] (lo+x - 1)
  ·(simp only [qH,decide_true,if_true])
   (exact aT (h x Jb #[O] qG (.inr qH)))
  ·(simp only [qH,decide_false,cG,if_false])
   refine aT ⟨rfl,rfl,fun i j vP tU hj=>?_⟩;by_cases Fu:j < lo+x
   ·exact qG i j vP tU Fu
   ·have sJ:j=lo+x:=by lia
    subst sJ;by_cases qF:i=lo+x
    ·(subst qF; exact dB _)
    ·exact dF (qG i (lo+x - 1) vP #[O] #[O]) (Int.not_lt.mp qH)
theorem znh {st:SortSt} {lo n:Nat} {Q:Option Nat->SortSt->Prop} (hC:Cmp prog w A s κ val a₀) (hn:lo+pP<=a₀.size) (h1:1<=n) (AJ:n<=pP) (hB:SF κ a₀ lo st₀ st)
  (hs:DIn val #[wE] lo (lo+n)) (h:∀ m pE,SF κ a₀ lo st₀ pE->1<=m->m<=pP->SIn val #[Do] lo (lo+m)->Q (some m) pE) :
  wpS #[ul] A E s (ziC lo n pP) Q st:=by
 unfold ziC;have hsz:lo+n<=#[wE].size:=by rw [hB.b.size]; lia
 refine aS (zkv ?_);have rP:=hB.setArr (lF #[wE] lo (lo+n) ((lo+n - lo) / 2)) (zcC hsz (aG _));refine aS (zpY hC hn h1 AJ rP ?_ fun m Bq wJ Fv _=>aT (h m _ rP #[O] wJ Fv));intro i j vP tU hj;show Vk val (mirror #[wE] lo (lo+n) ((lo+n - lo) / 2)) i<=Vk val (mirror #[wE] lo (lo+n) ((lo+n - lo) / 2)) j;rw [zfO hsz,zfO hsz,if_pos #[O],if_pos #[O]];exact hs _ _ #[O] #[O] #[O]
theorem zqV {st:SortSt} {lo n:Nat} {Q:DescSt->SortSt->Prop} (hC:Cmp prog w A s κ val a₀) (hn:lo+pP<=a₀.size) (h1:1<=n) (AJ:n<=pP) (hB:SF κ a₀ lo st₀ st)
  (hs:DIn val #[wE] lo (lo+n))
  (h:∀ m wU pE,SF κ a₀ lo st₀ pE->n<=m->m<=pP->DIn val #[Do] lo (lo+m)->wU+1<=m->(∀ i,lo+m - (wU+1)<=i->i < lo+m->Vk val #[Do] i=Vk val #[Do] (lo+m - 1))->Q (none,m,wU) pE) :
  wpS #[ul] A E s (zkw lo n pP) Q st:=by
 unfold zkw;refine eY (I:=fun x c pE=>∃ wU,c=(none,x,wU)/\SF κ a₀ lo st₀ pE/\DIn val #[Do] lo (lo+x)/\wU+1<=x /\
   (∀ i,lo+x - (wU+1)<=i->i < lo+x->Vk val #[Do] i=Vk val #[Do] (lo+x - 1))) ?step ?fin ⟨0,rfl,hB,hs,#[O],fun i h1 h2=>by congr 1; lia⟩
 case fin =>
  (rintro c pE ⟨wU,rfl,rP,qG,hq,he⟩)
  (rw [show max n pP=pP by lia] at qG hq he |-)
  (exact h pP wU pE rP AJ (aG _) qG hq he)
 case step =>
  (rintro x c pE Jb G9 ⟨wU,rfl,rP,qG,hq,he⟩)
  dsimp only;have hsz:lo+x<=#[Do].size:=by rw [rP.b.size]; lia
  refine aS (zfN hC rP.b #[O] #[O] ?_);by_cases qH:Vk val #[Do] (lo+x) < Vk val #[Do] (lo+x - 1)
  ·(simp only [qH,decide_true,if_true])
   have step1:∀ xs:Array Keyed,(∀ k,Vk val xs k=Vk val #[Do] k)->DIn val xs lo (lo+(x+1)):=by
    intro xs hk i j vP tU hj;rw [hk,hk];by_cases Fu:j < lo+x
    ·exact qG i j vP tU Fu
    ·have sJ:j=lo+x:=by lia
     subst sJ;by_cases qF:i=lo+x
     ·(subst qF; exact dB _)
     ·exact dF (g8 qH) (qG i (lo+x - 1) vP #[O] #[O])
   by_cases AK:wU > 0
   ·rw [if_pos AK];refine aS (zkv (aT ⟨0,rfl,rP.setArr (lF _ _ _ _) (zcC hsz #[O]),step1 _ (zbE hsz he),#[O],fun i h1 h2=>by congr 1; lia⟩))
   ·rw [if_neg AK]
    (exact aT ⟨0,rfl,rP,step1 _ #[VU],#[O],fun i h1 h2=>by congr 1; lia⟩)
  ·(simp only [qH,decide_false,cG,if_false])
   refine aS (zfN hC rP.b #[O] #[O] ?_);by_cases xI:Vk val #[Do] (lo+x - 1) < Vk val #[Do] (lo+x)
   ·(simp only [xI,decide_true,if_true])
    (exact aT (h x wU pE rP Jb #[O] qG hq he))
   ·(simp only [xI,decide_false,cG,if_false])
    have Fw:Vk val #[Do] (lo+x)=Vk val #[Do] (lo+x - 1):=by lia
    refine aT ⟨wU+1,rfl,rP,fun i j vP tU hj=>?_,#[O],fun i h1 h2=>?_⟩
    ·by_cases Fu:j < lo+x
     ·exact qG i j vP tU Fu
     ·have sJ:j=lo+x:=by lia
      subst sJ;by_cases qF:i=lo+x
      ·(subst qF; exact dB _)
      ·rw [Fw]; exact qG i (lo+x - 1) vP #[O] #[O]
    ·rw [show lo+(x+1) - 1=lo+x by lia];by_cases hix:i=lo+x
     ·subst hix; rfl
     ·(rw [Fw]; exact he i #[O] #[O])
theorem zkx {st:SortSt} {lo n:Nat} {Q:Option Nat->SortSt->Prop} (hC:Cmp prog w A s κ val a₀) (hn:lo+pP<=a₀.size) (AJ:n+1<=pP) (hB:SF κ a₀ lo st₀ st)
  (hs:DIn val #[wE] lo (lo+(n+1))) (h:∀ m pE,SF κ a₀ lo st₀ pE->1<=m->m<=pP->SIn val #[Do] lo (lo+m)->Q (some m) pE) :
  wpS #[ul] A E s (ziD lo n pP) Q st:=by
 unfold ziD
 (refine aS #[QX])
 refine aS (zqV hC hn #[O] AJ hB hs fun m wU pE rP Bq wJ qG hq he=>?_);dsimp only;have hsz:lo+m<=#[Do].size:=by rw [rP.b.size]; lia
 by_cases AK:wU > 0
 ·rw [if_pos AK];refine aS (zkv (znh hC hn #[O] wJ (rP.setArr (lF _ _ _ _) (zcC hsz #[O])) ?_ h));intro i j vP tU hj;show Vk val (mirror #[Do] _ _ _) j<=Vk val (mirror #[Do] _ _ _) i;rw [zbE hsz he,zbE hsz he];exact qG i j vP tU hj
 ·rw [if_neg AK];exact znh hC hn #[O] wJ rP qG h
theorem zoR {st:SortSt} {lo:Nat} {Q:Option Nat->SortSt->Prop} (hC:Cmp prog w A s κ val a₀) (hn:lo+pP<=a₀.size) (h1:1<=pP) (hB:SF κ a₀ lo st₀ st)
  (h:∀ m pE,SF κ a₀ lo st₀ pE->1<=m->m<=pP->SIn val #[Do] lo (lo+m)->Q (some m) pE) :
  wpS #[ul] A E s (countRun' lo pP) Q st:=by
 rw [zhp];refine aS (zpY hC hn (aG 1) h1 hB (fun i j vP tU hj=>(by
   have e:i=j:=by lia
   rw [e];exact dB _)) fun n yj wD yk hor=>?_)
 dsimp only;by_cases AJ:n=pP
 ·(rw [if_pos (by simpa using AJ)])
  (exact aT (h n st hB yj wD yk))
 ·(rw [if_neg (by simpa using AJ)])
  have pT:Vk val #[wE] (lo+n) < Vk val #[wE] (lo+n - 1):=hor.resolve_left AJ;by_cases hgt:n > 1
  ·rw [if_pos hgt];refine aS (zfN hC hB.b #[O] #[O] ?_);by_cases Cz:Vk val #[wE] lo < Vk val #[wE] (lo+n - 1)
   ·(simp only [Cz,decide_true,if_true])
    (exact aT (h n st hB yj wD yk))
   ·(simp only [Cz,decide_false,cG,if_false])
    have hsz:lo+n<=#[wE].size:=by rw [hB.b.size]; lia
    have uv:∀ k,lo<=k->k < lo+n->Vk val #[wE] k=Vk val #[wE] (lo+n - 1):=by
     intro k Ag hk;have a1:=yk lo k (aG _) Ag hk;have a2:=yk k (lo+n - 1) Ag #[O] #[O];lia
    refine aS (zkv (zkx hC hn #[O] (hB.setArr (lF _ _ _ _) (zcC hsz (aG _))) ?_ h));intro i j vP tU hj;show Vk val (mirror #[wE] _ _ _) j<=Vk val (mirror #[wE] _ _ _) i;rw [zbE hsz uv,zbE hsz uv];by_cases hjn:j < lo+n
    ·(rw [uv i #[O] #[O],uv j #[O] hjn]; exact dB _)
    ·have sJ:j=lo+n:=by lia
     subst sJ;by_cases qF:i=lo+n
     ·(subst qF; exact dB _)
     ·(rw [uv i #[O] #[O]]; exact g8 pT)
  ·rw [if_neg hgt];have Jc:n=1:=by lia
   subst Jc;refine zkx hC hn #[O] hB ?_ h;intro i j vP tU hj;by_cases qF:i=j
   ·(subst qF; exact dB _)
   ·have Dp:i=lo:=by lia
    have Dq:j=lo+1:=by lia
    subst Dp; subst Dq;exact g8 pT
theorem ziE {xs:Array Keyed} {src d:Nat} (hs:src < xs.size) (hd:d<=src) (k:Nat) :
  Vk val (bubble xs src d) k=if k=src - d then Vk val xs src else if src - d < k/\k<=src then Vk val xs (k - 1) else Vk val xs k:=by
 (have e:=getElem?_bubble hs d hd k)
 by_cases h1:k=src - d
 ·rw [if_pos h1] at e |-; exact zar e
 ·rw [if_neg h1] at e |-
  (by_cases h2:src - d < k/\k<=src)
  ·rw [if_pos h2] at e |-; exact zar e
  ·rw [if_neg h2] at e |-; exact zar e
theorem zrZ {st:SortSt} {lo n ok:Nat} {Q:Bool->SortSt->Prop} (hC:Cmp prog w A s κ val a₀) (hn:lo+n<=a₀.size) (hok:ok<=n) (hB:SF κ a₀ lo st₀ st) (hs:SIn val #[wE] lo (lo+ok))
  (h:∀ pE,SF κ a₀ lo st₀ pE->SIn val #[Do] lo (lo+n)->Q true pE):wpS #[ul] A E s (binarySort' lo n ok) Q st:=by
 rw [binarySort'_eq];refine aS (fT (eY (I:=fun k c pE=>c=(none,())/\SF κ a₀ lo st₀ pE/\SIn val #[Do] lo (lo+min k n))
  (Q:=fun c pE=>c=(none,())/\SF κ a₀ lo st₀ pE/\SIn val #[Do] lo (lo+n)) ?step ?fin ?init) ?post)
 case post =>
  rintro c pE ⟨rfl,rP,qG⟩
  (exact aT (h pE rP qG))
 case init =>
  refine⟨rfl,hB,fun i j vP tU hj=>?_⟩;by_cases h1:ok=0
  ·have e:i=j:=by lia
   rw [e]; exact dB _
  ·exact hs i j vP tU #[O]
 case fin =>
  rintro c pE ⟨hc,rP,qG⟩;refine⟨hc,rP,?_⟩
  (rwa [show min (max (max ok 1) n) n=n by lia] at qG)
 case step =>
  (rintro k c pE hak Et ⟨rfl,rP,qG⟩)
  (rw [show min k n=k by lia] at qG)
  have hk:lo+k < a₀.size:=#[O]; refine aS (fT (eY (I:=fun x c rm=>rm=pE/\∃ l r,c=(none,l,r)/\l<=r/\r<=k/\r - l<=k - x /\
    (∀ i,i < l->Vk val #[Do] (lo+i)<=Vk val #[Do] (lo+k))/\(∀ i,r<=i->i < k->Vk val #[Do] (lo+k) < Vk val #[Do] (lo+i)))
   (Q:=fun c rm=>rm=pE/\∃ l r,c=(none,l,r)/\l<=k/\(∀ i,i < l->Vk val #[Do] (lo+i)<=Vk val #[Do] (lo+k))/\(∀ i,l<=i->i < k->Vk val #[Do] (lo+k) < Vk val #[Do] (lo+i))) ?istep ?ifin ?iinit) ?ipost)
  case iinit=>(exact⟨rfl,0,k,rfl,#[O],#[O],#[O],fun i hi=>by lia,fun i h1 h2=>by lia⟩)
  case ifin =>
   (rintro c rm ⟨rfl,l,r,rfl,Eu,Jd,hm,tR,BO⟩)
   have:l=r:=by lia
   subst this
   (exact⟨rfl,l,l,rfl,Jd,tR,BO⟩)
  case istep =>
   (rintro x c rm _ hxk ⟨rfl,l,r,rfl,Eu,Jd,hm,tR,BO⟩)
   dsimp only;by_cases sF:l>=r
   ·rw [if_pos sF];have:l=r:=by lia
    subst this
    (exact aT ⟨rfl,l,l,rfl,Jd,tR,BO⟩)
   ·rw [if_neg sF];refine aS (zfN hC rP.b hk #[O] ?_);by_cases qH:Vk val #[TD] (lo+k) < Vk val #[TD] (lo+(l+r) / 2)
    ·(simp only [qH,decide_true,if_true])
     (refine aT ⟨rfl,l,(l+r) / 2,rfl,#[O],#[O],#[O],tR,fun i h1 h2=>?_⟩)
     exact Int.lt_of_lt_of_le qH (qG _ _ #[O] #[O] #[O])
    ·(simp only [qH,decide_false,cG,if_false])
     (refine aT ⟨rfl,(l+r) / 2+1,r,rfl,#[O],#[O],#[O],fun i h1=>?_,BO⟩)
     exact dF (qG (lo+i) (lo+(l+r) / 2) #[O] #[O] #[O]) (Int.not_lt.mp qH)
  case ipost =>
   (rintro c rm ⟨rfl,l,r,rfl,hlk,tR,BO⟩)
   show wpS _ _ _ _ (do moveDown' (lo+k) (lo+l); pure (eL (none,()))) _ _;rw [moveDown'_eq];have Je:lo+k < #[TD].size:=by rw [rP.b.size]; exact hk
   refine aS (ig (aT ⟨rfl,rP.setArr (bubble_perm _ _ _) (zjG Je #[O] #[O]),?_⟩))
   (rw [show min (k+1) n=k+1 by lia])
   intro i j vP tU hj;show Vk val (bubble #[TD] (lo+k) (lo+k - (lo+l))) i<=Vk val (bubble #[TD] (lo+k) (lo+k - (lo+l))) j;rw [ziE Je #[O],ziE Je #[O],show lo+k - (lo+k - (lo+l))=lo+l by lia];have Jf:∀ i,lo<=i->i < lo+l->Vk val #[TD] i<=Vk val #[TD] (lo+k):=fun i h1 h2=>by
    have:=tR (i - lo) #[O]
    rwa [show lo+(i - lo)=i by lia] at this
   have Jg:∀ i,lo+l<=i->i < lo+k->Vk val #[TD] (lo+k) < Vk val #[TD] i:=fun i h1 h2=>by
    have:=BO (i - lo) #[O] #[O]
    rwa [show lo+(i - lo)=i by lia] at this
   repeat' split
   all_goals first
    | (exfalso; lia)
    | exact dB _
    | exact Jf _ #[O] #[O]
    | exact g8 (Jg _ #[O] #[O])
    | exact qG _ _ #[O] #[O] #[O]
end
end Srt
end
section
namespace Srt
open PySem PyProof.Rows
variable {A:Around} {M:Model} {arr:Array Keyed} {j:Nat} {key:Keyed} {s:Shared}
def zoS:Bool->Keyed->Array Keyed->Nat->Nat->Nat->StateT SortSt Sem #[Os]:=sortPriv% PySem.Builtin.gallop
def zni:Array Keyed->Array Keyed->StateT SortSt Sem (Array Keyed):=sortPriv% PySem.Builtin.mergeLo
def znj:Array Keyed->Array Keyed->StateT SortSt Sem (Array Keyed):=sortPriv% PySem.Builtin.mergeHi
def zdv:Nat->StateT SortSt Sem Unit:=sortPriv% PySem.Builtin.setMinGallop
theorem zhq {E:Value->Shared->Prop} {α:Type} {m:StateT SortSt Sem α} {Q:α->SortSt->Prop} {st:SortSt} (h:wpAny M A (m st) (fun r s'=>s'=s/\Q r.1 r.2) E s):wpS M A E s m Q st:=h
theorem zhr {E:Value->Shared->Prop} {α:Type} {m:StateT SortSt Sem α} {Q:α->SortSt->Prop} {st:SortSt} (h:wpS M A E s m Q st):wpAny M A (m st) (fun r s'=>s'=s/\Q r.1 r.2) E s:=h
section
variable {prog:Program} {w:World} {A:Around} {E:Value->Shared->Prop} {s:Shared} {a₀:Array Keyed} {κ:SortKind} {val:Keyed->Int}
def bB (val:Keyed->Int) (left:Bool) (key:Keyed) (arr:Array Keyed) (base i:Nat):Bool:=if left then decide (Vk val arr (base+i) < val key) else !decide (val key < Vk val arr (base+i))
theorem zd0 {left:Bool} {base n i:Nat} (hs:SIn val arr base (base+n)) (tU:i<=j) (hj:j < n) (h:bB val left key arr base j=true):bB val left key arr base i=true:=by
 have:=hs (base+i) (base+j) #[O] #[O] #[O];unfold bB at h |-;cases left <;> simp at h |- <;> lia
theorem zc0 {st:SortSt} {left:Bool} {base i:Nat} {Q:Option Bool->SortSt->Prop} {p:Keyed} (hC:Cmp prog w A s κ val a₀) (hk:kindOf st=κ) (sH:key∈a₀.toList) (he:arr[base+i]? = some p) (hp:p∈a₀.toList)
  (h:Q (some (bB val left key arr base i)) st):wpS #[ul] A E s (do
   let x <- elem' arr (base+i)
   if left then lt' x key else do
    let r <- lt' key x
    return r.map (!·)) Q st:=by
 refine aS (zaa he ?_);unfold bB at h;rw [zab he] at h;cases left with
 | true=>exact znf hC hk hp sH h
 | false=>exact aS (znf hC hk sH hp (aT h))
abbrev zoT:=Option #[Os]×Nat×Nat
theorem znk {st:SortSt} {left:Bool} {base n lo hi:Nat} {f:Nat->zoT->StateT SortSt Sem (ForInStep zoT)} (hs:SIn val arr base (base+n)) (hlh:lo<=hi) (hhn:hi<=n)
  (h1:∀ i,i < lo->bB val left key arr base i=true) (h2:∀ i,hi<=i->i < n->bB val left key arr base i=false)
  (hf:∀ (x l r:Nat) (R:ForInStep zoT->SortSt->Prop),r<=n->(l>=r->R (.done (none,l,r)) st)->(l < r->R (if bB val left key arr base (l+(r - l) / 2)=true then .yield (none,l+(r - l) / 2+1,r) else .yield (none,l,l+(r - l) / 2)) st)->wpS #[ul] A E s (f x (none,l,r)) R st) :
  wpS #[ul] A E s (forIn [0:n] ((none,lo,hi):zoT) f) (fun c pE=>pE=st/\∃ l,c=(none,l,l)/\l<=n/\(∀ i,i < l->bB val left key arr base i=true)/\(∀ i,l<=i->i < n->bB val left key arr base i=false)) st:=by
 refine eY (I:=fun x c pE=>pE=st/\∃ l r,c=(none,l,r)/\l<=r/\r<=n/\r - l<=n - x/\(∀ i,i < l->bB val left key arr base i=true)/\(∀ i,r<=i->i < n->bB val left key arr base i=false)) ?step ?fin ⟨rfl,lo,hi,rfl,hlh,hhn,#[O],h1,h2⟩
 case fin =>
  rintro c pE ⟨rfl,l,r,rfl,Eu,Dr,hm,a1,a2⟩;have:l=r:=by lia
  subst this;exact⟨rfl,l,rfl,Dr,a1,a2⟩
 case step =>
  rintro x c pE _ G9 ⟨rfl,l,r,rfl,Eu,Dr,hm,a1,a2⟩;refine hf x l r _ Dr (fun sF=>?_) #[VT]
  ·have:l=r:=by lia
   subst this;exact⟨rfl,l,rfl,Dr,a1,a2⟩
  ·cases hb:bB val left key arr base (l+(r - l) / 2) with
   | true =>
    rw [if_pos rfl];exact⟨rfl,l+(r - l) / 2+1,r,rfl,#[O],Dr,#[O],fun i hi=>zd0 hs #[O] #[O] hb,a2⟩
   | false =>
    rw [if_neg #[D]];refine⟨rfl,l,l+(r - l) / 2,rfl,#[O],#[O],#[O],a1,fun i hi wG=>?_⟩;cases e:bB val left key arr base i with
    | false=>rfl
    | true=>rw [zd0 hs hi wG e] at hb; cases hb
theorem zbF {st:SortSt} {left:Bool} {base n hint:Nat} {Q:Option Nat->SortSt->Prop} (hC:Cmp prog w A s κ val a₀) (hk:kindOf st=κ) (sH:key∈a₀.toList)
  (ha:∀ i,i < n->∃ p,arr[base+i]? = some p/\p∈a₀.toList) (hs:SIn val arr base (base+n)) (hh:hint < n)
  (h:∀ k,k<=n->(∀ i,i < k->bB val left key arr base i=true)->(∀ i,k<=i->i < n->bB val left key arr base i=false)->Q (some k) st) :
  wpS #[ul] A E s (zoS left key arr base n hint) Q st:=by
 refine zhq ?_
 wp_delta
 wp_delta
 refine zhr ?_;dsimp only;obtain⟨p,ep,mp⟩:=ha hint hh;refine aS #[Q6];dsimp only;have up:∀ {i j:Nat},i<=j->j < n->bB val left key arr base i=false->bB val left key arr base j=false:=fun {i j} tU hj h=>by
  cases e:bB val left key arr base j with
  | false=>rfl
  | true=>rw [zd0 hs tU hj e] at h; cases h
 cases hr:bB val left key arr base hint with
 | true =>
  simp only [if_true];refine aS (fT (eY (I:=fun x c pE=>pE=st/\∃ l o,c=(none,l,o)/\l < o/\x+1<=o/\hint+l < n/\bB val left key arr base (hint+l)=true)
   (Q:=fun c pE=>pE=st/\∃ l o,c=(none,l,o)/\l < o/\hint+l < n/\bB val left key arr base (hint+l)=true/\(hint+o < n->bB val left key arr base (hint+o)=false)) ?step ?fin ⟨rfl,0,1,rfl,#[O],#[O],hh,hr⟩) ?post)
  case fin =>
   rintro c pE ⟨rfl,l,o,rfl,tR,hx,hl,hb⟩;exact⟨rfl,l,o,rfl,tR,hl,hb,fun z=>by lia⟩
  case step =>
   rintro x c pE _ G9 ⟨rfl,l,o,rfl,tR,hx,hl,hb⟩;dsimp only;by_cases sF:o>=n - hint
   ·rw [if_pos sF];exact aT ⟨rfl,l,o,rfl,tR,hl,hb,fun z=>by lia⟩
   ·rw [if_neg sF];obtain⟨p,ep,mp⟩:=ha (hint+o) #[O];refine aS #[Q6];dsimp only;cases wK:bB val left key arr base (hint+o) with
    | true =>
     rw [if_neg #[D]];exact aT ⟨rfl,o,2*o+1,rfl,#[O],#[O],#[O],wK⟩
    | false =>
     rw [if_pos #[D]];exact aT ⟨rfl,l,o,rfl,tR,hl,hb,fun _=>wK⟩
  case post =>
   rintro c pE ⟨rfl,l,o,rfl,tR,hl,hb,wK⟩;dsimp only;refine aS (fT (znk (val:=val) (left:=left) (key:=key) (arr:=arr) (base:=base) hs #[O] #[O] (fun i hi=>zd0 hs #[O] hl hb) (fun i hi wG=>(by
    by_cases ho:hint+o < n
    ·exact up #[O] wG (wK ho)
    ·lia)) #[W2]) ?_)
   ·dsimp only;by_cases sF:l'>=r'
    ·rw [if_pos sF];exact aT (k1 sF)
    ·rw [if_neg sF];obtain⟨p,ep,mp⟩:=ha (l'+(r' - l') / 2) #[O];refine aS #[Q6];have k3:=k2 #[O];dsimp only;cases CA:bB val left key arr base (l'+(r' - l') / 2) with
     | true=>rw [CA] at k3; rw [if_pos rfl] at k3 |-; exact aT k3
     | false=>rw [CA] at k3; rw [if_neg #[D]] at k3 |-; exact aT k3
   ·rintro c rm ⟨rfl,l,rfl,hl,b1,b2⟩;exact aT (h l hl b1 b2)
 | false =>
  (simp only [cG,if_false])
  refine aS (fT (eY (I:=fun x c pE=>pE=st/\∃ l o,c=(none,l,o)/\l < o/\x+1<=o/\l<=hint/\bB val left key arr base (hint - l)=false)
   (Q:=fun c pE=>pE=st/\∃ l o,c=(none,l,o)/\l < o/\l<=hint/\bB val left key arr base (hint - l)=false/\(o<=hint->bB val left key arr base (hint - o)=true)) ?step ?fin ⟨rfl,0,1,rfl,#[O],#[O],#[O],hr⟩) ?post)
  case fin =>
   rintro c pE ⟨rfl,l,o,rfl,tR,hx,hl,hb⟩;exact⟨rfl,l,o,rfl,tR,hl,hb,fun z=>by lia⟩
  case step =>
   rintro x c pE _ G9 ⟨rfl,l,o,rfl,tR,hx,hl,hb⟩;dsimp only;by_cases sF:o>=hint+1
   ·rw [if_pos sF];exact aT ⟨rfl,l,o,rfl,tR,hl,hb,fun z=>by lia⟩
   ·rw [if_neg sF];obtain⟨p,ep,mp⟩:=ha (hint - o) #[O];refine aS #[Q6];dsimp only;cases wK:bB val left key arr base (hint - o) with
    | false =>
     rw [if_neg #[D]];exact aT ⟨rfl,o,2*o+1,rfl,#[O],#[O],#[O],wK⟩
    | true =>
     rw [if_pos rfl];exact aT ⟨rfl,l,o,rfl,tR,hl,hb,fun _=>wK⟩
  case post =>
   rintro c pE ⟨rfl,l,o,rfl,tR,hl,hb,wK⟩;dsimp only;refine aS (fT (znk (val:=val) (left:=left) (key:=key) (arr:=arr) (base:=base) hs #[O] #[O] (fun i hi=>(by
    by_cases ho:o<=hint
    ·exact zd0 hs #[O] #[O] (wK ho)
    ·lia)) (fun i hi wG=>up hi wG hb) #[W2]) ?_)
   ·dsimp only;by_cases sF:l'>=r'
    ·rw [if_pos sF];exact aT (k1 sF)
    ·rw [if_neg sF];obtain⟨p,ep,mp⟩:=ha (l'+(r' - l') / 2) #[O];refine aS #[Q6];have k3:=k2 #[O];dsimp only;cases CA:bB val left key arr base (l'+(r' - l') / 2) with
     | true=>rw [CA] at k3; rw [if_pos rfl] at k3 |-; exact aT k3
     | false=>rw [CA] at k3; rw [if_neg #[D]] at k3 |-; exact aT k3
   ·rintro c rm ⟨rfl,l,rfl,hl,b1,b2⟩;exact aT (h l hl b1 b2)
end
end Srt
end
section
namespace Srt
open PySem PyProof.Rows
variable {k:Nat}
abbrev zax (st:SortSt) (g:Nat):SortSt:=oQ (kindOf st) #[wE] #[S4] g (failedOf st)
theorem zex (g:Nat):zdv g=modify fun s=>zax s g:=rfl
def Le (val:Keyed->Int) (xs ys:List Keyed):Prop:=∀ x∈xs,∀ y∈ys,val x<=val y
def Ris (val:Keyed->Int) (xs:List Keyed):Prop:=xs.Pairwise fun x y=>val x<=val y
theorem zaH {val:Keyed->Int} {xs ys:List Keyed}:Ris val (xs++ys)↔Ris val xs/\Ris val ys/\Le val xs ys:=ml
structure MI (val:Keyed->Int) (T o l r:List Keyed):Prop where
 perm:(o++l++r).Perm T
 so:Ris val o
 sl:Ris val l
 sr:Ris val r
 ol:Le val o l
 or':Le val o r
def Good (val:Keyed->Int) (T res:List Keyed):Prop:=res.Perm T/\Ris val res
section
variable {val:Keyed->Int} {T o l l1 l2 r r1 r2:List Keyed}
theorem Le.left {xs ys zs:List Keyed} (h:Le val (xs++ys) zs):Le val xs zs:=fun x hx y hy=>h x (bV _ hx) y hy
theorem Le.right {xs ys zs:List Keyed} (h:Le val (xs++ys) zs):Le val ys zs:=fun x hx y hy=>h x (bH _ hx) y hy
theorem Le.app {xs ys zs:List Keyed} (h1:Le val xs zs) (h2:Le val ys zs):Le val (xs++ys) zs:=fun x hx y hy=>by
 rcases bQ.mp hx with h | h
 ·exact h1 x h y hy
 ·exact h2 x h y hy
theorem Le.Pn {xs ys zs:List Keyed} (h1:Le val xs ys) (h2:Le val xs zs):Le val xs (ys++zs):=fun x hx y hy=>by
 rcases bQ.mp hy with h | h
 ·exact h1 x hx y h
 ·exact h2 x hx y h
theorem Le.sub {xs ys zs:List Keyed} (h1:Le val xs (ys++zs)):Le val xs ys/\Le val xs zs:=⟨fun x hx y hy=>h1 x hx y (bV _ hy),fun x hx y hy=>h1 x hx y (bH _ hy)⟩
theorem MI.Ng (h:MI val T o (l1++l2) r) (hle:Le val l1 r):MI val T (o++l1) l2 r:=by
 obtain⟨a1,a2,a3⟩:=zaH.mp h.sl;obtain⟨b1,b2⟩:=h.ol.sub;exact⟨by have:=h.perm; simpa [cK] using this,zaH.mpr ⟨h.so,a1,b1⟩,a2,h.sr,b2.app a3,h.or'.app hle⟩
theorem MI.MN (h:MI val T o l (r1++r2)) (hle:Le val r1 l):MI val T (o++r1) l r2:=by
 obtain⟨a1,a2,a3⟩:=zaH.mp h.sr;obtain⟨b1,b2⟩:=h.or'.sub;refine⟨?_,zaH.mpr ⟨h.so,a1,b1⟩,h.sl,a2,h.ol.app hle,b2.app a3⟩;refine iE ?_ h.perm;have:(r1++l++r2).Perm (l++r1++r2):=List.perm_append_comm.append_right _;simpa [cK] using this.append_left o
theorem MI.Ms (h:MI val T o l []):Good val T (o++l):=⟨by have:=h.perm; simpa using this,zaH.mpr ⟨h.so,h.sl,h.ol⟩⟩
theorem MI.Mr (h:MI val T o [] r):Good val T (o++r):=⟨by have:=h.perm; simpa using this,zaH.mpr ⟨h.so,h.sr,h.or'⟩⟩
theorem MI.last (h:MI val T o l r) (hle:Le val r l):Good val T (o++r++l):=by
 refine⟨iE ?_ h.perm,?_⟩
 ·rw [cK,cK];exact List.perm_append_comm.append_left o
 ·exact zaH.mpr ⟨zaH.mpr ⟨h.so,h.sr,h.or'⟩,h.sl,h.ol.app hle⟩
end
section
variable {val:Keyed->Int} {T:List Keyed} {a b out:Array Keyed} {ia ib:Nat}
abbrev MA (val:Keyed->Int) (T:List Keyed) (a b out:Array Keyed) (ia ib:Nat):Prop:=MI val T out.toList (a.toList.drop ia) (b.toList.drop ib)
theorem ze8 {xs:Array Keyed} {i:Nat} {p:Keyed} (h:xs[i]? = some p):xs.toList.drop i=p :: xs.toList.drop (i+1):=by
 have hi:i < xs.toList.length:=by
  have:=(fj.mp h).1;simpa using this
 rw [eP hi];congr 1;have:=(fj.mp h).2;simpa using this
theorem zd1 {xs:Array Keyed} (h:SIn val xs 0 xs.size):∀ i,Ris val #[Sj]:=by
 have all:Ris val xs.toList:=by
  unfold Ris
  (rw [eQ])
  intro i j hi hj tU
  (have qF:i < xs.size:=by simpa using hi)
  (have sJ:j < xs.size:=by simpa using hj)
  have:=h i j (cB _) #[O] sJ;rw [zab (getElem?_pos xs i qF),zab (getElem?_pos xs j sJ)] at this;simpa using this
 exact fun i=>jx (List.drop_sublist _ _) all
theorem ze9 {xs:Array Keyed} {i:Nat} {p q:Keyed} (h:SIn val xs 0 xs.size) (hp:xs[i]? = some p) (hq:q∈xs.toList.drop i):val p<=val q:=by
 have:=zd1 h i;rw [ze8 hp] at this hq;rcases (aR.mp hq) with rfl | hq
 ·exact dB _
 ·exact List.rel_of_pairwise_cons this hq
theorem MA.NL {y x:Keyed} (h:MA val T a b out ia ib) (sa:SIn val a 0 a.size) (hy:b[ib]? = some y) (hx:a[ia]? = some x) (hle:val y<=val x):MA val T a b (out.push y) ia (ib+1):=by
 unfold MA at h |-;rw [ze8 hy] at h;have:=MI.MN (r1:=[y]) h fun p hp q hq=>by
  rw [bF.mp hp];exact dF hle (ze9 sa hx hq)
 simpa using this
theorem MA.Mu {y x:Keyed} (h:MA val T a b out ia ib) (sb:SIn val b 0 b.size) (hy:b[ib]? = some y) (hx:a[ia]? = some x) (hle:val x<=val y):MA val T a b (out.push x) (ia+1) ib:=by
 unfold MA at h |-;rw [ze8 hx] at h;have:=MI.Ng (l1:=[x]) h fun p hp q hq=>by
  rw [bF.mp hp];exact dF hle (ze9 sb hy hq)
 simpa using this
theorem znl (xs:Array Keyed) (i k:Nat):xs.toList.drop i=#[Vt].toList++xs.toList.drop (i+k):=by
 rw [fF];have:(xs.toList.extract i (i+k))=#[Sj].take k:=by
  simp [fw] <;> lia
 rw [this,<- lQ,dP]
theorem zfa {xs:Array Keyed} {i:Nat} {p:Keyed} (h:p∈#[Vt].toList):∃ j,j < k/\xs[i+j]? = some p:=by
 have e0:#[Vt].toList=#[Sj].take k:=by
  rw [fF];simp [fw] <;> lia
 rw [e0] at h
 (obtain⟨j,hj,e⟩:=gH h)
 have wL:j < k/\j < #[Sj].length:=by
  rw [bD] at hj;lia
 refine⟨j,wL.1,?_⟩;rw [<- cL,<- gO,aJ wL.2,<- e,nT]
theorem MA.Ng {y:Keyed} (h:MA val T a b out ia ib) (sb:SIn val b 0 b.size) (hy:b[ib]? = some y) (hle:∀ i,i < k->Vk val a (ia+i)<=val y):MA val T a b (out++a.extract ia (ia+k)) (ia+k) ib:=by
 unfold MA at h |-;rw [znl a ia k] at h;have:=MI.Ng h fun p hp q hq=>by
  obtain⟨j,hj,e⟩:=zfa hp;have:=hle j hj;rw [zab e] at this;exact dF this (ze9 sb hy hq)
 simpa using this
theorem MA.MN {x:Keyed} (h:MA val T a b out ia ib) (sa:SIn val a 0 a.size) (hx:a[ia]? = some x) (hle:∀ i,i < k->Vk val b (ib+i)<=val x):MA val T a b (out++b.extract ib (ib+k)) ia (ib+k):=by
 unfold MA at h |-;rw [znl b ib k] at h;have:=MI.MN h fun p hp q hq=>by
  obtain⟨j,hj,e⟩:=zfa hp;have:=hle j hj;rw [zab e] at this;exact dF this (ze9 sa hx hq)
 simpa using this
theorem zdd (xs:Array Keyed) (i:Nat):(xs.extract i xs.size).toList=xs.toList.drop i:=by
 rw [fF];simp only [fw]
 (exact bC #[M])
theorem MA.Mr (h:MA val T a b out ia ib) (e:ib=b.size):Good val T (out++a.extract ia a.size++b.extract ib b.size).toList:=by
 unfold MA at h;rw [show b.toList.drop ib = [] from fY (by simp [e])] at h;have:=h.Ms;rw [dz,dz,zdd,zdd,show b.toList.drop ib = [] from fY (by simp [e]),dn];exact this
theorem MA.Ms (h:MA val T a b out ia ib) (e:ia=a.size):Good val T (out++a.extract ia a.size++b.extract ib b.size).toList:=by
 unfold MA at h;rw [show a.toList.drop ia = [] from fY (by simp [e])] at h;have:=h.Mr;rw [dz,dz,zdd,zdd,show a.toList.drop ia = [] from fY (by simp [e]),dn];exact this
theorem MA.last (h:MA val T a b out ia ib) (e:ia+1=a.size) (hl:∀ i,i < b.size->Vk val b i<=Vk val a (a.size - 1)):Good val T (out++b.extract ib b.size++a.extract ia a.size).toList:=by
 unfold MA at h;have hx:a[ia]? = some (a[ia]'#[O]):=getElem?_pos a ia #[O];have:=h.last fun p hp q hq=>by
  rw [ze8 hx,show a.toList.drop (ia+1) = [] from fY (by simp [e])] at hq;rw [bF.mp hq];obtain⟨j,hj,ej⟩:=gH (mo hp);have sJ:j < b.size:=by simpa using hj
  have:=hl j sJ;rw [zab (getElem?_pos b j sJ),show a.size - 1=ia by lia,zab hx] at this;rw [<- ej];simpa using this
 rw [dz,dz,zdd,zdd];exact this
end
end Srt
end
section
namespace Srt
open PySem PyProof.Rows
variable {M:Model} {arr:Array Keyed} {key:Keyed}
section
variable {prog:Program} {w:World} {A:Around} {E:Value->Shared->Prop} {s:Shared} {a₀:Array Keyed} {κ:SortKind} {val:Keyed->Int}
theorem zd2 {st:SortSt} {g:Nat} {Q:Unit->SortSt->Prop} (h:Q () (zax st g)):wpS #[ul] A E s (zdv g) Q st:=by
 rw [zex];exact ig h
theorem zaG {g:Prop} {xs:Array Keyed} {i:Nat} (h:i < xs.size) (k:∀ p,xs[i]? = some p->p∈xs.toList->g):g:=k _ (getElem?_pos xs i h) #[M]
theorem zcD {base i:Nat} (h:bB val true key arr base i=true):Vk val arr (base+i) < val key:=by
 unfold bB at h;simpa using h
theorem zd3 {base i:Nat} (h:bB val false key arr base i=true):Vk val arr (base+i)<=val key:=by
 unfold bB at h;simp at h;lia
theorem zdJ {base i:Nat} (h:bB val true key arr base i=false):val key<=Vk val arr (base+i):=by
 unfold bB at h;simp at h;lia
theorem zfb {base i:Nat} (h:bB val false key arr base i=false):val key < Vk val arr (base+i):=by
 unfold bB at h;simp at h;exact h
theorem SIn.sub {xs:Array Keyed} {lo hi lo' qF:Nat} (h:SIn val xs lo hi) (h1:lo<=lo') (h2:qF<=hi):SIn val xs lo' qF:=fun i j a b c=>h i j #[O] b #[O]
theorem zG {σ α:Type} {c:Prop} {inst:Decidable c} {x y:StateT σ Sem α} {Q:α->σ->Prop} {st:σ} (h:c) (k:wpS M A E s x Q st):wpS M A E s #[UQ] Q st:=by rw [if_pos h]; exact k
theorem zH {σ α:Type} {c:Prop} {inst:Decidable c} {x y:StateT σ Sem α} {Q:α->σ->Prop} {st:σ} (h:¬ c) (k:wpS M A E s y Q st):wpS M A E s #[UQ] Q st:=by rw [if_neg h]; exact k
theorem dup {P X:Prop} (h:P->P->X) (k:P):X:=h k k
theorem zsy {P X:Prop} (h:(Unit->P)->(Unit->P)->X) (k:P):X:=h (fun _=>k) (fun _=>k)
theorem fr5 {σ β A1 A2 A3 A4 A5:Type} {lo hi:Nat} {f:Nat->β->StateT σ Sem (ForInStep β)} {Q:β->σ->Prop} {c:β} {st:σ} (xJ:A1->A2->A3->A4->A5->β) (AM:A1->A2->A3->A4->A5->σ) (J:Nat->A1->A2->A3->A4->A5->Prop) (start:∃ a1 a2 a3 a4 a5,st=AM a1 a2 a3 a4 a5/\c=xJ a1 a2 a3 a4 a5/\J lo a1 a2 a3 a4 a5) (fin:∀ a1 a2 a3 a4 a5,J (max lo hi) a1 a2 a3 a4 a5->Q #[UM] (AM a1 a2 a3 a4 a5))
  (step:∀ x a1 a2 a3 a4 a5,lo<=x->x < hi->J x a1 a2 a3 a4 a5->wpS M A E s (f x #[UM]) (fun r pE=>match r with | .done c'=>Q c' pE | .yield c'=>∃ a1 a2 a3 a4 a5,pE=AM a1 a2 a3 a4 a5/\c'=xJ a1 a2 a3 a4 a5/\J (x+1) a1 a2 a3 a4 a5) (AM a1 a2 a3 a4 a5)):wpS M A E s (forIn [lo:hi] c f) Q st:=by
 refine eY (I:=fun x c pE=>∃ a1 a2 a3 a4 a5,pE=AM a1 a2 a3 a4 a5/\c=xJ a1 a2 a3 a4 a5/\J x a1 a2 a3 a4 a5) ?_ ?_ start
 ·rintro x c pE h1 h2 ⟨a1,a2,a3,a4,a5,rfl,rfl,j⟩;exact step x _ _ _ _ _ h1 h2 j
 ·rintro c pE ⟨a1,a2,a3,a4,a5,rfl,rfl,j⟩;exact fin _ _ _ _ _ j
theorem fr7 {σ β A1 A2 A3 A4 A5 A6 A7:Type} {lo hi:Nat} {f:Nat->β->StateT σ Sem (ForInStep β)} {Q:β->σ->Prop} {c:β} {st:σ} (xJ:A1->A2->A3->A4->A5->A6->A7->β) (AM:A1->A2->A3->A4->A5->A6->A7->σ) (J:Nat->A1->A2->A3->A4->A5->A6->A7->Prop) (start:∃ a1 a2 a3 a4 a5 a6 a7,st=AM a1 a2 a3 a4 a5 a6 a7/\c=xJ a1 a2 a3 a4 a5 a6 a7/\J lo a1 a2 a3 a4 a5 a6 a7) (fin:∀ a1 a2 a3 a4 a5 a6 a7,J (max lo hi) a1 a2 a3 a4 a5 a6 a7->Q #[W8] #[Xf])
  (step:∀ x a1 a2 a3 a4 a5 a6 a7,lo<=x->x < hi->J x a1 a2 a3 a4 a5 a6 a7->wpS M A E s (f x #[W8]) (fun r pE=>match r with | .done c'=>Q c' pE | .yield c'=>∃ a1 a2 a3 a4 a5 a6 a7,pE=AM a1 a2 a3 a4 a5 a6 a7/\c'=xJ a1 a2 a3 a4 a5 a6 a7/\J (x+1) a1 a2 a3 a4 a5 a6 a7) #[Xf]):wpS M A E s (forIn [lo:hi] c f) Q st:=by
 refine eY (I:=fun x c pE=>∃ a1 a2 a3 a4 a5 a6 a7,pE=AM a1 a2 a3 a4 a5 a6 a7/\c=xJ a1 a2 a3 a4 a5 a6 a7/\J x a1 a2 a3 a4 a5 a6 a7) ?_ ?_ start
 ·rintro x c pE h1 h2 ⟨a1,a2,a3,a4,a5,a6,a7,rfl,rfl,j⟩;exact step x _ _ _ _ _ _ _ h1 h2 j
 ·rintro c pE ⟨a1,a2,a3,a4,a5,a6,a7,rfl,rfl,j⟩;exact fin _ _ _ _ _ _ _ j
theorem zpZ {σ α γ δ A1 A2 A3 A4 A5:Type} {x:StateT σ Sem (Option γ×δ)} {k:Option γ×δ->StateT σ Sem α} {R:α->σ->Prop} {st:σ} (xJ:A1->A2->A3->A4->A5->Option γ×δ) (G:γ->Prop) (J:A1->A2->A3->A4->A5->Prop) (Jh:σ) (hx:wpS M A E s x (fun c pE=>pE=Jh/\((∃ r o,c=(some r,o)/\G r)\/∃ a1 a2 a3 a4 a5,c=xJ a1 a2 a3 a4 a5/\J a1 a2 a3 a4 a5)) st) (h1:∀ r o,G r->wpS M A E s (k (some r,o)) R Jh) (h:∀ a1 a2 a3 a4 a5,J a1 a2 a3 a4 a5->wpS M A E s (k #[UM]) R Jh):wpS M A E s (x >>= k) R st:=by
 refine aS (fT hx ?_);rintro c pE ⟨rfl,⟨r,o,rfl,g⟩ | ⟨a1,a2,a3,a4,a5,rfl,j⟩⟩
 ·exact h1 _ _ g
 ·exact h _ _ _ _ _ j
theorem zbc {σ α:Type} {c:Prop} {inst:Decidable c} {x y:StateT σ Sem α} {Q:α->σ->Prop} {st:σ} (h:c->wpS M A E s x Q st) (k:¬ c->wpS M A E s y Q st):wpS M A E s #[UQ] Q st:=by
 by_cases hc:c
 ·rw [if_pos hc]; exact h hc
 ·rw [if_neg hc]; exact k hc
theorem zlC {st:SortSt} {a b:Array Keyed} {Q:Array Keyed->SortSt->Prop} (hC:Cmp prog w A s κ val a₀) (hk:kindOf st=κ) (ma:∀ p∈a.toList,p∈a₀.toList) (mb:∀ p∈b.toList,p∈a₀.toList)
  (sa:SIn val a 0 a.size) (sb:SIn val b 0 b.size) (h1:1<=a.size) (h2:1<=b.size) (hf:Vk val b 0<=Vk val a 0) (hl:∀ i,i < b.size->Vk val b i<=Vk val a (a.size - 1))
  (h:∀ out g,Good val #[xz] out.toList->Q out (zax st g)):wpS #[ul] A E s (zni a b) Q st:=by
 refine zhq ?_
 wp_delta
 wp_delta
 refine zhr ?_
 (refine aS #[QX])
 refine zaG (xs:=b) (i:=0) #[O] fun y0 Br Ji=>?_
 refine zaG (xs:=a) (i:=0) #[O] fun x0 Bs Jj=>?_
 refine aS (zaa Br ?_);have I0:MA val #[xz] a b #[] 0 0:=⟨#[M],kr,zd1 sa 0,zd1 sb 0,fun x hx=>by simp at hx,fun x hx=>by simp at hx⟩;have I1:MA val #[xz] a b #[y0] 0 1:=I0.NL sa Br Bs (by rw [zab Br,zab Bs] at hf; exact hf);dsimp only;by_cases vh:1=b.size
 ·refine zG (by simpa using vh) ?_;exact aT (h _ #[Uf] (I1.Mr vh))
 refine zH (by simpa using vh) ?_;by_cases Ah:0+1=a.size
 ·refine zG (by simpa using Ah) ?_;exact aT (h _ #[Uf] (I1.last #[O] hl))
 refine zH (by simpa using Ah) ?_;refine aS (iU ?_);refine aS (fT (fr5 (fun g out ia ib mg=>(none,out,ia,ib,mg)) (fun g out ia ib mg=>zax st g) (fun x g out ia ib mg=>MA val #[xz] a b out ia ib/\ia+1 < a.size/\ib < b.size/\x+1<=ia+ib)
  (Q:=fun c pE=>∃ g r o,pE=zax st g/\c=(some r,o)/\Good val #[xz] r.toList) ⟨gallopOf st,#[y0],0,1,gallopOf st,rfl,rfl,I1,#[O],#[O],#[O]⟩ ?fin ?step) ?post)
 case post =>
  rintro c pE ⟨g,r,o,rfl,rfl,hG⟩;exact aT (h _ g hG)
 case fin =>
  rintro g out ia ib mg ⟨hI,b1,b2,b3⟩;lia
 case step =>
  intro x g out ia ib mg hr0 hx J;have hI:=J.1;have b1:=J.2.1;have b2:=J.2.2.1;have b3:=J.2.2.2;dsimp only;refine zpZ #[VL] #[Wc] (fun pS qI qC ac bc=>MA val #[xz] a b pS qI qC/\qI+1 < a.size/\qC < b.size/\ia+ib+1<=qI+qC) (zax st g) (fr5 #[VL] (fun pS qI qC ac bc=>zax st g) (fun x pS qI qC ac bc=>MA val #[xz] a b pS qI qC/\qI+1 < a.size/\qC < b.size/\ia+ib+x<=qI+qC) ⟨out,ia,ib,0,0,rfl,rfl,hI,b1,b2,#[O]⟩ ?fin1 ?step1) #[Xb] ?post1
  case fin1 =>
   rintro pS qI qC ac bc ⟨hI,b1,b2,b3⟩;exact⟨rfl,.inr ⟨pS,qI,qC,ac,bc,rfl,hI,b1,b2,#[O]⟩⟩
  case step1 =>
   intro x1 pS qI qC ac bc Jk Bt J;have hI:=J.1;have b1:=J.2.1;have b2:=J.2.2.1;have b3:=J.2.2.2;dsimp only;refine zaG (xs:=b) (i:=qC) #[O] fun y ey my=>?_
   refine zaG (xs:=a) (i:=qI) #[O] fun z ez mz=>?_
   refine aS #[SK];dsimp only;by_cases Fx:val y < val z
   ·refine zG (by simpa using Fx) ?_;refine aS #[UZ];have sM:=hI.NL sa ey ez #[O];by_cases e1:qC+1=b.size
    ·refine zG (by simpa using e1) ?_;exact aT ⟨rfl,.inl ⟨_,_,rfl,sM.Mr e1⟩⟩
    refine zH (by simpa using e1) ?_;refine zbc #[FS] #[FS]
    ·exact aT ⟨rfl,.inr ⟨_,_,_,_,_,rfl,sM,b1,#[O],#[O]⟩⟩
    ·exact aT ⟨_,_,_,_,_,rfl,rfl,sM,b1,#[O],#[O]⟩
   ·refine zH (by simpa using Fx) ?_;refine aS #[Sz];have sM:=hI.Mu sb ey ez #[O];by_cases e1:qI+1+1=a.size
    ·refine zG (by simpa using e1) ?_;exact aT ⟨rfl,.inl ⟨_,_,rfl,sM.last e1 hl⟩⟩
    refine zH (by simpa using e1) ?_;refine zbc #[FS] #[FS]
    ·exact aT ⟨rfl,.inr ⟨_,_,_,_,_,rfl,sM,#[O],b2,#[O]⟩⟩
    ·exact aT ⟨_,_,_,_,_,rfl,rfl,sM,#[O],b2,#[O]⟩
  case post1 =>
   intro Ds Jl Jm Jn Jo J;have Jp:=J.1;have c1:=J.2.1;have c2:=J.2.2.1;have c3:=J.2.2.2;dsimp only
   (refine aS #[QX])
   refine aS (fT (fr7 (fun g pS qI qC mg ac bc=>(none,pS,qI,qC,mg,ac,bc)) (fun g pS qI qC mg ac bc=>zax st g) (fun x g pS qI qC mg ac bc=>MA val #[xz] a b pS qI qC/\qI+1 < a.size/\qC < b.size/\Jl+Jm<=qI+qC)
    (Q:=fun c pE=>∃ g,pE=zax st g/\((∃ r o,c=(some r,o)/\Good val #[xz] r.toList)\/∃ pS qI qC mg ac bc,c=(none,pS,qI,qC,mg,ac,bc)/\MA val #[xz] a b pS qI qC/\qI+1 < a.size/\qC < b.size/\Jl+Jm<=qI+qC)) ⟨g,Ds,Jl,Jm,_,Jn,Jo,rfl,rfl,Jp,c1,c2,aG _⟩ ?fin2 ?step2) ?post2)
   case fin2 =>
    rintro g pS qI qC mg ac bc ⟨hI,b1,b2,b3⟩;exact⟨g,rfl,.inr ⟨pS,qI,qC,mg,ac,bc,rfl,hI,b1,b2,b3⟩⟩
   case post2 =>
    rintro c pE ⟨g,rfl,hc⟩;rcases hc with ⟨r,o,rfl,hG⟩ | ⟨Dt,ia2,ib2,mg2,ac2,bc2,rfl,sM,d1,d2,d3⟩
    ·exact aT ⟨g,r,_,rfl,rfl,hG⟩
    dsimp only;refine aS (zd2 (aT ⟨_,Dt,ia2,ib2,_,rfl,rfl,sM,d1,d2,#[O]⟩))
   case step2 =>
    intro x2 g pS qI qC Du ac bc CB BP J;have hI:=J.1;have b1:=J.2.1;have b2:=J.2.2.1;have b3:=J.2.2.2;dsimp only;refine zaG (xs:=b) (i:=qC) #[O] fun y ey my=>?_
    apply dup
    ·intro k1 k2;by_cases xY:Du > 1
     ·refine zG xY ?_;clear xY;generalize Du - 1=m0
      revert m0
      exact k1
     ·refine zH xY ?_;clear xY;generalize Du=m0
      revert m0
      exact k2
    intro mg0;refine aS (zd2 (aS (zaa ey (aS (zbF hC hk (mb y my) (fun i hi=>(by
     refine zaG (xs:=a) (i:=qI+i) #[O] fun p ep mp=>?_
     exact⟨p,ep,ma p mp⟩)) (sa.sub #[O] #[O]) #[O] fun k G' vM CC=>?_)))))
    dsimp only;have sM:=hI.Ng (k:=k) sb ey fun i hi=>zd3 (vM i hi)
    by_cases Ag:k > 0
    ·refine zG Ag ?_;by_cases e1:qI+k+1=a.size
     ·refine zG (by simpa using e1) ?_;exact aT ⟨_,rfl,.inl ⟨_,_,rfl,sM.last e1 hl⟩⟩
     refine zH (by simpa using e1) ?_;by_cases e2:qI+k=a.size
     ·refine zG (by simpa using e2) ?_;exact aT ⟨_,rfl,.inl ⟨_,_,rfl,sM.Ms e2⟩⟩
     refine zH (by simpa using e2) ?_;refine aS #[UZ];refine zaG (xs:=a) (i:=qI+k) #[O] fun z ez mz=>?_
     have wV:=sM.NL sa ey ez (by have:=zfb (CC k (aG _) #[O]); rw [zab ez] at this; lia);by_cases e3:qC+1=b.size
     ·refine zG (by simpa using e3) ?_;exact aT ⟨_,rfl,.inl ⟨_,_,rfl,wV.Mr e3⟩⟩
     refine zH (by simpa using e3) ?_;refine aS (zaa ez (aS (zbF hC hk (ma z mz) (fun i hi=>(by
      refine zaG (xs:=b) (i:=qC+1+i) #[O] fun p ep mp=>?_
      exact⟨p,ep,mb p mp⟩)) #[TH] #[O] fun j Dq wL BQ=>?_)))
     dsimp only;have yl:=wV.MN (k:=j) sa ez fun i hi=>g8 (zcD (wL i hi))
     by_cases uz:j > 0
     ·refine zG uz ?_;by_cases e4:qC+1+j=b.size
      ·refine zG (by simpa using e4) ?_;exact aT ⟨_,rfl,.inl ⟨_,_,rfl,yl.Mr e4⟩⟩
      refine zH (by simpa using e4) ?_;refine zaG (xs:=b) (i:=qC+1+j) #[O] fun y2 tV BR=>?_
      refine aS #[Sz];have rQ:=yl.Mu sb tV ez (by have:=zdJ (BQ j (aG _) #[O]); rw [zab tV] at this; exact this);by_cases e9:qI+k+1+1=a.size
      ·refine zG (by simpa using e9) ?_;exact aT ⟨_,rfl,.inl ⟨_,_,rfl,rQ.last e9 hl⟩⟩
      refine zH (by simpa using e9) ?_;refine zbc #[FS] #[FS]
      ·exact aT #[P0]
      ·exact aT #[QC]
     ·refine zH uz ?_;have Dv:j=0:=by lia
      subst Dv;refine zaG (xs:=b) (i:=qC+1) #[O] fun y2 tV BR=>?_
      refine aS #[Sz];have rQ:=wV.Mu sb tV ez (by have:=zdJ (BQ 0 (aG _) #[O]); rw [f',zab tV] at this; exact this);by_cases e9:qI+k+1+1=a.size
      ·refine zG (by simpa using e9) ?_;exact aT ⟨_,rfl,.inl ⟨_,_,rfl,rQ.last e9 hl⟩⟩
      refine zH (by simpa using e9) ?_;refine zbc #[FS] #[FS]
      ·exact aT #[P0]
      ·exact aT #[QC]
    ·refine zH Ag ?_;have Jq:k=0:=by lia
     subst Jq;refine aS #[UZ];refine zaG (xs:=a) (i:=qI) #[O] fun z ez mz=>?_
     have wV:=hI.NL sa ey ez (by have:=zfb (CC 0 (aG _) #[O]); rw [f',zab ez] at this; lia);by_cases e3:qC+1=b.size
     ·refine zG (by simpa using e3) ?_;exact aT ⟨_,rfl,.inl ⟨_,_,rfl,wV.Mr e3⟩⟩
     refine zH (by simpa using e3) ?_;refine aS (zaa ez (aS (zbF hC hk (ma z mz) (fun i hi=>(by
      refine zaG (xs:=b) (i:=qC+1+i) #[O] fun p ep mp=>?_
      exact⟨p,ep,mb p mp⟩)) #[TH] #[O] fun j Dq wL BQ=>?_)))
     dsimp only;have yl:=wV.MN (k:=j) sa ez fun i hi=>g8 (zcD (wL i hi))
     by_cases uz:j > 0
     ·refine zG uz ?_;by_cases e4:qC+1+j=b.size
      ·refine zG (by simpa using e4) ?_;exact aT ⟨_,rfl,.inl ⟨_,_,rfl,yl.Mr e4⟩⟩
      refine zH (by simpa using e4) ?_;refine zaG (xs:=b) (i:=qC+1+j) #[O] fun y2 tV BR=>?_
      refine aS #[Sz];have rQ:=yl.Mu sb tV ez (by have:=zdJ (BQ j (aG _) #[O]); rw [zab tV] at this; exact this);by_cases e9:qI+1+1=a.size
      ·refine zG (by simpa using e9) ?_;exact aT ⟨_,rfl,.inl ⟨_,_,rfl,rQ.last e9 hl⟩⟩
      refine zH (by simpa using e9) ?_;refine zbc #[FS] #[FS]
      ·exact aT #[P0]
      ·exact aT #[QC]
     ·refine zH uz ?_;have Dv:j=0:=by lia
      subst Dv;refine zaG (xs:=b) (i:=qC+1) #[O] fun y2 tV BR=>?_
      refine aS #[Sz];have rQ:=wV.Mu sb tV ez (by have:=zdJ (BQ 0 (aG _) #[O]); rw [f',zab tV] at this; exact this);by_cases e9:qI+1+1=a.size
      ·refine zG (by simpa using e9) ?_;exact aT ⟨_,rfl,.inl ⟨_,_,rfl,rQ.last e9 hl⟩⟩
      refine zH (by simpa using e9) ?_;refine zbc #[FS] #[FS]
      ·exact aT #[P0]
      ·exact aT #[QC]
end
end Srt
end
section
namespace Srt
open PySem PyProof.Rows
structure MH (val:Keyed->Int) (T l r o:List Keyed):Prop where
 perm:(l++r++o).Perm T
 so:Ris val o
 sl:Ris val l
 sr:Ris val r
 lo:Le val l o
 ro:Le val r o
section
variable {val:Keyed->Int} {T o l l1 l2 r r1 r2:List Keyed}
theorem MH.Ng (h:MH val T (l1++l2) r o) (hle:Le val r l2):MH val T l1 r (l2++o):=by
 obtain⟨a1,a2,a3⟩:=zaH.mp h.sl;refine⟨?_,zaH.mpr ⟨a2,h.so,h.lo.right⟩,a1,h.sr,a3.Pn h.lo.left,hle.Pn h.ro⟩;refine iE ?_ h.perm;have:(r++l2).Perm (l2++r):=List.perm_append_comm;have:=(this.append_left l1).append_right o;simpa [cK] using this
theorem MH.MN (h:MH val T l (r1++r2) o) (hle:Le val l r2):MH val T l r1 (r2++o):=by
 obtain⟨a1,a2,a3⟩:=zaH.mp h.sr;exact⟨by have:=h.perm; simpa [cK] using this,zaH.mpr ⟨a2,h.so,h.ro.right⟩,h.sl,a1,hle.Pn h.lo,a3.Pn h.ro.left⟩
theorem MH.Ms (h:MH val T [] r o):Good val T (r++o):=⟨by have:=h.perm; simpa using this,zaH.mpr ⟨h.sr,h.so,h.ro⟩⟩
theorem MH.Mr (h:MH val T l [] o):Good val T (l++o):=⟨by have:=h.perm; simpa using this,zaH.mpr ⟨h.sl,h.so,h.lo⟩⟩
theorem MH.first (h:MH val T l r o) (hle:Le val r l):Good val T (r++l++o):=by
 refine⟨iE (List.perm_append_comm.append_right _) h.perm,?_⟩;exact zaH.mpr ⟨zaH.mpr ⟨h.sr,h.sl,hle⟩,h.so,h.ro.app h.lo⟩
end
section
variable {val:Keyed->Int} {T:List Keyed} {a b out:Array Keyed} {na nb:Nat}
abbrev MB (val:Keyed->Int) (T:List Keyed) (a b out:Array Keyed) (na nb:Nat):Prop:=MH val T (a.toList.take na) (b.toList.take nb) out.toList.reverse
theorem zky {xs:Array Keyed} {n:Nat} {p:Keyed} (h:xs[n]? = some p):xs.toList.take (n+1)=xs.toList.take n++[p]:=by
 rw [List.take_succ,cL,h];rfl
theorem ziF {xs:Array Keyed} (h:SIn val xs 0 xs.size) (i:Nat):Ris val (xs.toList.take i):=by
 have:=zd1 h 0;rw [g9] at this;exact jx (d9 _ _) this
theorem zfP {xs:Array Keyed} {n:Nat} {p:Keyed} (h:p∈xs.toList.take n):∃ j,j < n/\j < xs.size/\xs[j]? = some p:=by
 (obtain⟨j,hj,e⟩:=gH h)
 have wL:j < n/\j < xs.toList.length:=by
  rw [bD] at hj;lia
 refine⟨j,wL.1,by simpa using wL.2,?_⟩;rw [<- cL,aJ wL.2,<- e,nT]
theorem zfc {xs:Array Keyed} {n:Nat} {p q:Keyed} (h:SIn val xs 0 xs.size) (hp:xs[n]? = some p) (hq:q∈xs.toList.take (n+1)):val q<=val p:=by
 obtain⟨j,hj,wQ,e⟩:=zfP hq;have hn:=(fj.mp hp).1;have:=h j n (cB _) #[O] hn;rw [zab e,zab hp] at this;exact this
theorem MB.Mu {y x:Keyed} (h:MB val T a b out (na+1) nb) (sb:SIn val b 0 b.size) (hn:1<=nb) (hy:b[nb - 1]? = some y) (hx:a[na]? = some x) (hle:val y<=val x):MB val T a b (out.push x) na nb:=by
 unfold MB at h |-;rw [zky hx] at h;have:=MH.Ng h fun p hp q hq=>by
  rw [bF.mp hq];exact dF (zfc sb hy (by rw [show nb - 1+1=nb by lia]; exact hp)) hle
 simpa using this
theorem MB.NL {y x:Keyed} (h:MB val T a b out na (nb+1)) (sa:SIn val a 0 a.size) (hn:1<=na) (hy:b[nb]? = some y) (hx:a[na - 1]? = some x) (hle:val x<=val y):MB val T a b (out.push y) na nb:=by
 unfold MB at h |-;rw [zky hy] at h;have:=MH.MN h fun p hp q hq=>by
  rw [bF.mp hq];exact dF (zfc sa hx (by rw [show na - 1+1=na by lia]; exact hp)) hle
 simpa using this
theorem zkz (xs:Array Keyed) {i n:Nat} (h:i<=n):xs.toList.take n=xs.toList.take i++(xs.extract i n).toList:=by
 rw [fF];simp only [fw];rw [<- dP i (xs.toList.take n),oW,fG h,List.drop_take]
theorem MB.Ng {y:Keyed} {at':Nat} (h:MB val T a b out na nb) (sb:SIn val b 0 b.size) (qY:at'<=na) (hn:1<=nb) (hy:b[nb - 1]? = some y) (hle:∀ i,at'<=i->i < na->val y<=Vk val a i):MB val T a b (out++(a.extract at' na).reverse) at' nb:=by
 unfold MB at h |-;rw [zkz a qY] at h;have:=MH.Ng h fun p hp q hq=>by
  have qZ:q∈(a.extract at' (at'+(na - at'))).toList:=by rw [show at'+(na - at')=na by lia]; exact hq
  obtain⟨j,hj,e⟩:=zfa qZ;have:=hle (at'+j) #[O] #[O];rw [zab e] at this;exact dF (zfc sb hy (by rw [show nb - 1+1=nb by lia]; exact hp)) this
 simpa using this
theorem MB.MN {x:Keyed} {at':Nat} (h:MB val T a b out na nb) (sa:SIn val a 0 a.size) (qY:at'<=nb) (hn:1<=na) (hx:a[na - 1]? = some x) (hle:∀ i,at'<=i->i < nb->val x<=Vk val b i):MB val T a b (out++(b.extract at' nb).reverse) na at':=by
 unfold MB at h |-;rw [zkz b qY] at h;have:=MH.MN h fun p hp q hq=>by
  have qZ:q∈(b.extract at' (at'+(nb - at'))).toList:=by rw [show at'+(nb - at')=nb by lia]; exact hq
  obtain⟨j,hj,e⟩:=zfa qZ;have:=hle (at'+j) #[O] #[O];rw [zab e] at this;exact dF (zfc sa hx (by rw [show na - 1+1=na by lia]; exact hp)) this
 simpa using this
theorem zcl (xs:Array Keyed) (n:Nat):(xs.extract 0 n).toList=xs.toList.take n:=by
 rw [fF];simp [fw]
theorem MB.Ms (h:MB val T a b out na nb) (e:na=0):Good val T (a.extract 0 na++b.extract 0 nb++out.reverse).toList:=by
 unfold MB at h;subst e;have:=MH.Ms h;rw [dz,dz,zcl,zcl,gz,oI,jH];exact this
theorem MB.Mr (h:MB val T a b out na nb) (e:nb=0):Good val T (a.extract 0 na++b.extract 0 nb++out.reverse).toList:=by
 unfold MB at h;subst e;have:=MH.Mr h;rw [dz,dz,zcl,zcl,gz,dn,jH];exact this
theorem MB.first (h:MB val T a b out na nb) (e:nb=1) (sa:SIn val a 0 a.size) (h2:1<=b.size) (hf:Vk val b 0<=Vk val a 0):Good val T (b.extract 0 nb++a.extract 0 na++out.reverse).toList:=by
 unfold MB at h;subst e;have:=MH.first h fun p hp q hq=>by
  obtain⟨j,hj,wQ,ej⟩:=zfP hp;have uz:j=0:=by lia
  subst uz;obtain⟨i,hi,his,ei⟩:=zfP hq;have:=sa 0 i (cB _) (cB _) his;rw [zab ei] at this;rw [zab ej] at hf;lia
 rw [dz,dz,zcl,zcl,jH];exact this
end
section
variable {prog:Program} {w:World} {A:Around} {E:Value->Shared->Prop} {s:Shared} {a₀:Array Keyed} {κ:SortKind} {val:Keyed->Int}
theorem zlD {st:SortSt} {a b:Array Keyed} {Q:Array Keyed->SortSt->Prop} (hC:Cmp prog w A s κ val a₀) (hk:kindOf st=κ) (ma:∀ p∈a.toList,p∈a₀.toList) (mb:∀ p∈b.toList,p∈a₀.toList)
  (sa:SIn val a 0 a.size) (sb:SIn val b 0 b.size) (h1:1<=a.size) (h2:1<=b.size) (hf:Vk val b 0<=Vk val a 0) (hl:∀ i,i < b.size->Vk val b i<=Vk val a (a.size - 1))
  (h:∀ out g,Good val #[xz] out.toList->Q out (zax st g)):wpS #[ul] A E s (znj a b) Q st:=by
 refine zhq ?_
 wp_delta
 wp_delta
 refine zhr ?_
 (refine aS #[QX])
 refine zaG (xs:=a) (i:=a.size - 1) #[O] fun x0 Bs Jj=>?_
 refine zaG (xs:=b) (i:=b.size - 1) #[O] fun y0 Br Ji=>?_
 refine aS (zaa Bs ?_);have I0:MB val #[xz] a b #[] (a.size - 1+1) b.size:=by
  refine⟨?_,kr,ziF sa _,ziF sb _,fun x _ y hy=>by simp at hy,fun x _ y hy=>by simp at hy⟩;rw [show a.size - 1+1=a.size by lia,bC #[M],bC #[M]];simp
 have I1:MB val #[xz] a b #[x0] (a.size - 1) b.size:=I0.Mu sb h2 Br Bs (by have:=hl (b.size - 1) #[O]; rw [zab Br,zab Bs] at this; exact this);dsimp only;by_cases Ah:a.size - 1=0
 ·refine zG (by simpa using Ah) ?_;exact aT (h _ #[Uf] (I1.Ms Ah))
 refine zH (by simpa using Ah) ?_;by_cases vh:b.size=1
 ·refine zG (by simpa using vh) ?_;exact aT (h _ #[Uf] (I1.first vh sa h2 hf))
 refine zH (by simpa using vh) ?_;refine aS (iU ?_);refine aS (fT (fr5 (fun g out na nb mg=>(none,na,nb,out,mg)) (fun g out na nb mg=>zax st g) (fun x g out na nb mg=>MB val #[xz] a b out na nb/\1<=na/\2<=nb/\na<=a.size/\nb<=b.size/\x+na+nb+1<=a.size+b.size)
  (Q:=fun c pE=>∃ g r o,pE=zax st g/\c=(some r,o)/\Good val #[xz] r.toList) ⟨gallopOf st,#[x0],a.size - 1,b.size,gallopOf st,rfl,rfl,I1,#[O],#[O],#[O],#[O],#[O]⟩ ?fin ?step) ?post)
 case post =>
  rintro c pE ⟨g,r,o,rfl,rfl,hG⟩;exact aT (h _ g hG)
 case fin =>
  rintro g out na nb mg ⟨hI,b1,b2,b3⟩;lia
 case step =>
  intro x g out na nb mg hr0 hx J;have hI:=J.1;have b1:=J.2.1;have b2:=J.2.2.1;have b4:=J.2.2.2.1;have b5:=J.2.2.2.2.1;have b3:=J.2.2.2.2.2;dsimp only;refine zpZ #[VJ] #[Wc] (fun pS qV qW ac bc=>MB val #[xz] a b pS qV qW/\1<=qV/\2<=qW/\qV<=a.size/\qW<=b.size/\1+qV+qW<=na+nb) (zax st g) (fr5 #[VJ] (fun pS qV qW ac bc=>zax st g) (fun x pS qV qW ac bc=>MB val #[xz] a b pS qV qW/\1<=qV/\2<=qW/\qV<=a.size/\qW<=b.size/\x+qV+qW<=na+nb) ⟨out,na,nb,0,0,rfl,rfl,hI,b1,b2,b4,b5,#[O]⟩ ?fin1 ?step1) #[Xb] ?post1
  case fin1 =>
   rintro pS qV qW ac bc ⟨hI,b1,b2,b4,b5,b3⟩;exact⟨rfl,.inr ⟨pS,qV,qW,ac,bc,rfl,hI,b1,b2,b4,b5,#[O]⟩⟩
  case step1 =>
   intro x1 pS qV qW ac bc Jk Bt J;have hI:=J.1;have b1:=J.2.1;have b2:=J.2.2.1;have b4:=J.2.2.2.1;have b5:=J.2.2.2.2.1;have b3:=J.2.2.2.2.2;dsimp only;obtain⟨n1,rfl⟩:∃ n1,qV=n1+1:=⟨qV - 1,#[O]⟩;obtain⟨m1,rfl⟩:∃ m1,qW=m1+1:=⟨qW - 1,#[O]⟩;simp only [dw];refine zaG (xs:=b) (i:=m1) #[O] fun y ey my=>?_
   refine zaG (xs:=a) (i:=n1) #[O] fun z ez mz=>?_
   refine aS #[SK];dsimp only;by_cases Fx:val y < val z
   ·refine zG (by simpa using Fx) ?_;refine aS #[Sz];have sM:=hI.Mu sb #[O] ey ez #[O];by_cases e1:n1=0
    ·refine zG (by simpa using e1) ?_;exact aT ⟨rfl,.inl ⟨_,_,rfl,sM.Ms e1⟩⟩
    refine zH (by simpa using e1) ?_;refine zbc #[FS] #[FS]
    ·exact aT #[WN]
    ·exact aT ⟨_,_,_,_,_,rfl,rfl,sM,#[O],#[O],#[O],#[O],#[O]⟩
   ·refine zH (by simpa using Fx) ?_;refine aS #[UZ];have sM:=hI.NL sa #[O] ey ez #[O];by_cases e1:m1=1
    ·refine zG (by simpa using e1) ?_;exact aT ⟨rfl,.inl ⟨_,_,rfl,sM.first e1 sa h2 hf⟩⟩
    refine zH (by simpa using e1) ?_;refine zbc #[FS] #[FS]
    ·exact aT #[WN]
    ·exact aT ⟨_,_,_,_,_,rfl,rfl,sM,#[O],#[O],#[O],#[O],#[O]⟩
  case post1 =>
   intro Ds Jr Js Jn Jo J;have Jp:=J.1;have c1:=J.2.1;have c2:=J.2.2.1;have c4:=J.2.2.2.1;have c5:=J.2.2.2.2.1;have c3:=J.2.2.2.2.2;dsimp only
   (refine aS #[QX])
   refine aS (fT (fr7 (fun g pS qV qW mg ac bc=>(none,qV,qW,pS,mg,ac,bc)) (fun g pS qV qW mg ac bc=>zax st g) (fun x g pS qV qW mg ac bc=>MB val #[xz] a b pS qV qW/\1<=qV/\2<=qW/\qV<=a.size/\qW<=b.size/\qV+qW<=Jr+Js)
    (Q:=fun c pE=>∃ g,pE=zax st g/\((∃ r o,c=(some r,o)/\Good val #[xz] r.toList)\/∃ pS qV qW mg ac bc,c=(none,qV,qW,pS,mg,ac,bc)/\MB val #[xz] a b pS qV qW/\1<=qV/\2<=qW/\qV<=a.size/\qW<=b.size/\qV+qW<=Jr+Js)) ⟨g,Ds,Jr,Js,_,Jn,Jo,rfl,rfl,Jp,c1,c2,c4,c5,aG _⟩ ?fin2 ?step2) ?post2)
   case fin2 =>
    rintro g pS qV qW mg ac bc ⟨hI,b1,b2,b4,b5,b3⟩;exact⟨g,rfl,.inr ⟨pS,qV,qW,mg,ac,bc,rfl,hI,b1,b2,b4,b5,b3⟩⟩
   case post2 =>
    rintro c pE ⟨g,rfl,hc⟩;rcases hc with ⟨r,o,rfl,hG⟩ | ⟨Dt,na2,nb2,mg2,ac2,bc2,rfl,sM,d1,d2,d4,d5,d3⟩
    ·exact aT ⟨g,r,_,rfl,rfl,hG⟩
    dsimp only;refine aS (zd2 (aT ⟨_,Dt,na2,nb2,_,rfl,rfl,sM,d1,d2,d4,d5,#[O]⟩))
   case step2 =>
    intro x2 g pS qV qW Du ac bc CB BP J;have hI:=J.1;have b1:=J.2.1;have b2:=J.2.2.1;have b4:=J.2.2.2.1;have b5:=J.2.2.2.2.1;have b3:=J.2.2.2.2.2;dsimp only;obtain⟨m1,rfl⟩:∃ m1,qW=m1+1:=⟨qW - 1,#[O]⟩;simp only [dw];refine zaG (xs:=b) (i:=m1) #[O] fun y ey my=>?_
    apply dup
    ·intro k1 k2;by_cases xY:Du > 1
     ·refine zG xY ?_;clear xY;generalize Du - 1=m0
      revert m0
      exact k1
     ·refine zH xY ?_;clear xY;generalize Du=m0
      revert m0
      exact k2
    intro mg0;refine aS (zd2 (aS (zaa ey (aS (zbF hC hk (mb y my) (fun i hi=>(by
     refine zaG (xs:=a) (i:=0+i) #[O] fun p ep mp=>?_
     exact⟨p,ep,ma p mp⟩)) (sa.sub #[O] #[O]) #[O] fun k G' vM CC=>?_)))))
    dsimp only;have sM:=hI.Ng (at':=k) sb G' #[O] ey fun i h1 h2=>g8 (by have:=zfb (CC i h1 h2); rwa [eC] at this)
    by_cases Ag:qV - k > 0
    ·refine zG Ag ?_;by_cases e1:k=0
     ·refine zG (by simpa using e1) ?_;exact aT ⟨_,rfl,.inl ⟨_,_,rfl,sM.Ms e1⟩⟩
     refine zH (by simpa using e1) ?_;obtain⟨n1,rfl⟩:∃ n1,k=n1+1:=⟨k - 1,#[O]⟩;simp only [dw];refine aS #[UZ];refine zaG (xs:=a) (i:=n1) #[O] fun z ez mz=>?_
     have wV:=sM.NL sa #[O] ey (show a[n1+1 - 1]? = some z by rw [dw]; exact ez) (by have:=zd3 (vM n1 #[O]); rw [eC,zab ez] at this; exact this);by_cases e3:m1=1
     ·refine zG (by simpa using e3) ?_;exact aT ⟨_,rfl,.inl ⟨_,_,rfl,wV.first e3 sa h2 hf⟩⟩
     refine zH (by simpa using e3) ?_;refine aS (zaa ez (aS (zbF hC hk (ma z mz) (fun i hi=>(by
      refine zaG (xs:=b) (i:=0+i) #[O] fun p ep mp=>?_
      exact⟨p,ep,mb p mp⟩)) #[TH] #[O] fun j Dq wL BQ=>?_)))
     dsimp only;have yl:=wV.MN (at':=j) sa Dq #[O] (show a[n1+1 - 1]? = some z by rw [dw]; exact ez) fun i h1 h2=>(by have:=zdJ (BQ i h1 h2); rwa [eC] at this)
     by_cases uz:m1 - j > 0
     ·refine zG uz ?_;by_cases e4:j=1
      ·refine zG (by simpa using e4) ?_;exact aT ⟨_,rfl,.inl ⟨_,_,rfl,yl.first e4 sa h2 hf⟩⟩
      refine zH (by simpa using e4) ?_;by_cases e5:j=0
      ·refine zG (by simpa using e5) ?_;exact aT ⟨_,rfl,.inl ⟨_,_,rfl,yl.Mr e5⟩⟩
      refine zH (by simpa using e5) ?_;refine zaG (xs:=b) (i:=j - 1) #[O] fun y2 tV BR=>?_
      refine aS #[Sz];have rQ:=yl.Mu sb #[O] tV ez (by have:=zcD #[T8]; rw [eC,zab tV] at this; lia);by_cases e9:n1=0
      ·refine zG (by simpa using e9) ?_;exact aT ⟨_,rfl,.inl ⟨_,_,rfl,rQ.Ms e9⟩⟩
      refine zH (by simpa using e9) ?_;refine zbc #[FS] #[FS]
      ·exact aT #[LE]
      ·exact aT #[P9]
     ·refine zH uz ?_;have Jt:j=m1:=by lia
      subst Jt;refine zaG (xs:=b) (i:=j - 1) #[O] fun y2 tV BR=>?_
      refine aS #[Sz];have rQ:=wV.Mu sb #[O] tV ez (by have:=zcD #[T8]; rw [eC,zab tV] at this; lia);by_cases e9:n1=0
      ·refine zG (by simpa using e9) ?_;exact aT ⟨_,rfl,.inl ⟨_,_,rfl,rQ.Ms e9⟩⟩
      refine zH (by simpa using e9) ?_;refine zbc #[FS] #[FS]
      ·exact aT #[LE]
      ·exact aT #[P9]
    ·refine zH Ag ?_;have Et:k=qV:=by lia
     subst Et;obtain⟨n1,rfl⟩:∃ n1,k=n1+1:=⟨k - 1,#[O]⟩;simp only [dw];refine aS #[UZ];refine zaG (xs:=a) (i:=n1) #[O] fun z ez mz=>?_
     have wV:=hI.NL sa #[O] ey (show a[n1+1 - 1]? = some z by rw [dw]; exact ez) (by have:=zd3 (vM n1 #[O]); rw [eC,zab ez] at this; exact this);by_cases e3:m1=1
     ·refine zG (by simpa using e3) ?_;exact aT ⟨_,rfl,.inl ⟨_,_,rfl,wV.first e3 sa h2 hf⟩⟩
     refine zH (by simpa using e3) ?_;refine aS (zaa ez (aS (zbF hC hk (ma z mz) (fun i hi=>(by
      refine zaG (xs:=b) (i:=0+i) #[O] fun p ep mp=>?_
      exact⟨p,ep,mb p mp⟩)) #[TH] #[O] fun j Dq wL BQ=>?_)))
     dsimp only;have yl:=wV.MN (at':=j) sa Dq #[O] (show a[n1+1 - 1]? = some z by rw [dw]; exact ez) fun i h1 h2=>(by have:=zdJ (BQ i h1 h2); rwa [eC] at this)
     by_cases uz:m1 - j > 0
     ·refine zG uz ?_;by_cases e4:j=1
      ·refine zG (by simpa using e4) ?_;exact aT ⟨_,rfl,.inl ⟨_,_,rfl,yl.first e4 sa h2 hf⟩⟩
      refine zH (by simpa using e4) ?_;by_cases e5:j=0
      ·refine zG (by simpa using e5) ?_;exact aT ⟨_,rfl,.inl ⟨_,_,rfl,yl.Mr e5⟩⟩
      refine zH (by simpa using e5) ?_;refine zaG (xs:=b) (i:=j - 1) #[O] fun y2 tV BR=>?_
      refine aS #[Sz];have rQ:=yl.Mu sb #[O] tV ez (by have:=zcD #[T8]; rw [eC,zab tV] at this; lia);by_cases e9:n1=0
      ·refine zG (by simpa using e9) ?_;exact aT ⟨_,rfl,.inl ⟨_,_,rfl,rQ.Ms e9⟩⟩
      refine zH (by simpa using e9) ?_;refine zbc #[FS] #[FS]
      ·exact aT #[LE]
      ·exact aT #[P9]
     ·refine zH uz ?_;have Jt:j=m1:=by lia
      subst Jt;refine zaG (xs:=b) (i:=j - 1) #[O] fun y2 tV BR=>?_
      refine aS #[Sz];have rQ:=wV.Mu sb #[O] tV ez (by have:=zcD #[T8]; rw [eC,zab tV] at this; lia);by_cases e9:n1=0
      ·refine zG (by simpa using e9) ?_;exact aT ⟨_,rfl,.inl ⟨_,_,rfl,rQ.Ms e9⟩⟩
      refine zH (by simpa using e9) ?_;refine zbc #[FS] #[FS]
      ·exact aT #[LE]
      ·exact aT #[P9]
end
end Srt
end
section
namespace Srt
open PySem PyProof.Rows
variable {j k sa:Nat}
def wb (sa:Nat) (l:List (Keyed×Nat)) (xs:Array Keyed):Array Keyed:=l.foldl (fun a (p,j)=>a.setIfInBounds (sa+j) p) xs
theorem znm (sa:Nat):∀ (l:List Keyed) (n:Nat) (xs:Array Keyed) (k:Nat),sa+n+l.length<=xs.size->(wb sa (l.zipIdx n) xs)[k]? = if sa+n<=k/\k < sa+n+l.length then l[k - (sa+n)]? else xs[k]?
 | [],n,xs,k,h=>by
  rw [if_neg (by simp only [k9]; lia)];rfl
 | p :: l,n,xs,k,h=>by
  have hl:(p :: l).length=l.length+1:=rfl;rw [hl] at h |-;show (wb sa (l.zipIdx (n+1)) (xs.setIfInBounds (sa+n) p))[k]? = _;rw [znm sa l (n+1) _ k (by rw [Array.size_setIfInBounds]; lia)];by_cases h1:sa+(n+1)<=k/\k < sa+(n+1)+l.length
  ·rw [if_pos h1,if_pos #[O],show k - (sa+n)=k - (sa+(n+1))+1 by lia,fb]
  ·rw [if_neg h1,Array.getElem?_setIfInBounds];by_cases h2:sa+n=k
   ·rw [if_pos h2,if_pos #[O],if_pos #[O],show k - (sa+n)=0 by lia];rfl
   ·rw [if_neg h2,if_neg #[O]]
theorem zoU {m xs:Array Keyed} (h:sa+m.size<=xs.size):#[WS].toList=xs.toList.take sa++m.toList++xs.toList.drop (sa+m.size):=by
 have hm:m.toList.length=m.size:=by simp
 have hx:xs.toList.length=xs.size:=by simp
 refine fM fun k=>?_
 rw [cL,znm sa m.toList 0 xs k (by rw [hm]; lia),hm,f'];by_cases h1:k < sa
 ·rw [if_neg #[O],cK,dA (by rw [bD]; lia),dL h1,cL]
 ·by_cases h2:k < sa+m.size
  ·rw [if_pos #[O],cK,cS (by rw [bD]; lia),bD,hx,show min sa xs.size=sa by lia,dA #[O]]
  ·rw [if_neg #[O],cS (by rw [aL,bD]; lia),aL,bD,hx,show min sa xs.size=sa by lia,hm,gO,show sa+m.size+(k - (sa+m.size))=k by lia,cL]
theorem zlE (xs:List Keyed) {i:Nat} (h1:i<=j) (h2:j<=k):xs=xs.take i++((xs.drop i).take (j - i)++(xs.drop j).take (k - j))++xs.drop k:=by
 have e1:xs.drop i=(xs.drop i).take (j - i)++xs.drop j:=by
  have:=(dP (j - i) (xs.drop i)).symm
  rwa [lQ,show i+(j - i)=j by lia] at this
 have e2:xs.drop j=(xs.drop j).take (k - j)++xs.drop k:=by
  have:=(dP (k - j) (xs.drop j)).symm
  rwa [lQ,show j+(k - j)=k by lia] at this
 have e0:=(dP i xs).symm;rw [e1,e2] at e0;rw [cK,cK];exact e0
theorem zd4 (xs:Array Keyed) (i j:Nat):#[R0].toList=#[Sj].take (j - i):=by
 rw [fF]
theorem zoV {sb e:Nat} {m xs:Array Keyed} (h1:sa<=sb) (h2:sb<=e) (h3:e<=xs.size) (hp:m.toList.Perm ((xs.extract sa sb).toList++(xs.extract sb e).toList)):#[WS].Perm xs:=by
 have hms:m.size=e - sa:=by
  have:=hp.length_eq;rw [aL,zd4,zd4,bD,bD,fm,fm] at this;have hx:xs.toList.length=xs.size:=by simp
  have hm:m.toList.length=m.size:=by simp
  lia
 rw [io,zoU #[O],show sa+m.size=e by lia];refine iE ((hp.append_left _).append_right _) ?_;rw [zd4,zd4,<- zlE xs.toList h1 h2]
section
variable {prog:Program} {w:World} {A:Around} {E:Value->Shared->Prop} {s:Shared} {a₀:Array Keyed} {κ:SortKind} {val:Keyed->Int}
theorem zdK {xs:Array Keyed} {i:Nat} (h:k < j - i) (hj:j<=xs.size):#[R0][k]? = xs[i+k]?:=by
 rw [<- cL,zd4,dL h,gO,cL]
theorem zd5 {xs:Array Keyed} {i:Nat} (hj:j<=xs.size):#[R0].size=j - i:=by rw [Array.size_extract,fG hj]
theorem zkA {xs:Array Keyed} {i:Nat} (hj:j<=xs.size) (h:SIn val xs i j):SIn val #[R0] 0 #[R0].size:=by
 rw [zd5 hj];intro p q _ hpq hq;rw [zar (zdK #[O] hj),zar (zdK hq hj)];exact h _ _ #[O] #[O] #[O]
theorem zfd {xs:Array Keyed} {i:Nat} (hj:j<=xs.size) {p:Keyed} (h:p∈#[R0].toList):∃ k,i<=k/\k < j/\xs[k]? = some p:=by
 obtain⟨k,hk,e⟩:=gH h;have xZ:k < j - i:=by
  rwa [cC,zd5 hj] at hk
 refine⟨i+k,#[O],#[O],?_⟩;rw [<- zdK xZ hj,<- cL,aJ hk,e]
theorem zlF {st:SortSt} {i na pw sb nb pw2:Nat} {Q:Bool->SortSt->Prop} (hC:Cmp prog w A s κ val a₀) (hB:SB κ a₀ st) (e1:#[S4][i]? = some (sa,na,pw)) (e2:#[S4][i+1]? = some (sb,nb,pw2))
  (qO:sb=sa+na) (hna:1<=na) (hnb:1<=nb) (hsz:sb+nb<=a₀.size) (sA:SIn val #[wE] sa (sa+na)) (sB:SIn val #[wE] sb (sb+nb))
  (h:∀ pE,SB κ a₀ pE->pendingOf pE=(#[S4].setIfInBounds i (sa,na+nb,pw)).eraseIdxIfInBounds (i+1)->(∀ k,(k < sa\/sb+nb<=k)->#[Do][k]? = #[wE][k]?)->SIn val #[Do] sa (sb+nb)->Q true pE) :
  wpS #[ul] A E s (mergeAt' i) Q st:=by
 refine zhq ?_
 wp_delta
 wp_delta
 refine zhr ?_;refine aS (iU ?_);rw [e1,e2];dsimp only;have Fy:=hB.size;obtain⟨y0,Br,Ji⟩:=hB.mem (i:=sb) #[O];generalize Dw:(sortPriv% PySem.Builtin.SortState.mk) (kindOf st) #[wE] ((#[S4].setIfInBounds i (sa,na+nb,pw)).eraseIdxIfInBounds (i+1)) #[Uf] (failedOf st)=rK;have AN:SB κ a₀ rK:=by subst Dw; exact⟨hB.perm,hB.kind,hB.failed⟩
 have wR:pendingOf rK=(#[S4].setIfInBounds i (sa,na+nb,pw)).eraseIdxIfInBounds (i+1):=by subst Dw; rfl
 have Ah:arrOf rK=arrOf st:=by subst Dw; rfl
 have BS:∀ n,n < a₀.size->∃ p,#[wE][n]? = some p/\p∈a₀.toList:=fun n hn=>hB.mem hn
 refine aS (show wpS _ _ _ _ (set rK) _ st from ig (f:=fun _=>rK) ?_);refine aS (zaa Br (aS (zbF (arr:=arrOf st) hC AN.kind Ji (fun j hj=>BS (sa+j) #[O]) sA #[O] fun k G' vM CC=>?_)));dsimp only;have Fz:∀ j,sa<=j->j < sa+k->Vk val #[wE] j<=Vk val #[wE] sb:=fun j h1 h2=>by
  have:=zd3 (vM (j - sa) #[O])
  rwa [show sa+(j - sa)=j by lia,<- zab (val:=val) Br] at this
 by_cases Ag:na - k=0
 ·rw [if_pos (by simpa using Ag)];refine aT (h rK AN wR (fun _ _=>by rw [Ah]) ?_);rw [Ah];intro p q h1 h2 h3;by_cases hq:q < sa+na
  ·exact sA p q h1 h2 hq
  ·by_cases hp:p < sa+na
   ·exact dF (Fz p h1 #[O]) (sB sb q #[O] #[O] h3)
   ·exact sB p q #[O] h2 h3
 rw [if_neg (by simpa using Ag)];have FA:sa+k+(na - k) - 1=sa+na - 1:=by lia
 rw [FA];obtain⟨x0,Bs,Jj⟩:=hB.mem (i:=sa+na - 1) #[O];refine aS (zaa Bs (aS (zbF (arr:=arrOf st) hC AN.kind Jj (fun j hj=>BS (sb+j) #[O]) sB #[O] fun m Bq wJ FC=>?_)));dsimp only;have CD:∀ j,sb+m<=j->j < sb+nb->Vk val #[wE] (sa+na - 1)<=Vk val #[wE] j:=fun j h1 h2=>by
  have:=zdJ (FC (j - sb) #[O] #[O])
  rwa [show sb+(j - sb)=j by lia,<- zab (val:=val) Bs] at this
 have Ju:∀ j,sb<=j->j < sb+m->Vk val #[wE] j < Vk val #[wE] (sa+na - 1):=fun j h1 h2=>by
  have:=zcD (wJ (j - sb) #[O])
  rwa [show sb+(j - sb)=j by lia,<- zab (val:=val) Bs] at this
 by_cases hm0:m=0
 ·rw [if_pos (by simpa using hm0)];refine aT (h rK AN wR (fun _ _=>by rw [Ah]) ?_);rw [Ah];intro p q h1 h2 h3;by_cases hq:q < sa+na
  ·exact sA p q h1 h2 hq
  ·by_cases hp:p < sa+na
   ·exact dF (sA p (sa+na - 1) h1 #[O] #[O]) (CD q #[O] h3)
   ·exact sB p q #[O] h2 h3
 rw [if_neg (by simpa using hm0)];have zx:#[wE].size=a₀.size:=Fy;have z1:=zd5 (xs:=arrOf st) (i:=sa+k) (j:=sb) #[O];have z2:=zd5 (xs:=arrOf st) (i:=sb) (j:=sb+m) #[O];have hf:Vk val (#[wE].extract sb (sb+m)) 0<=Vk val (#[wE].extract (sa+k) sb) 0:=by
  rw [zar (zdK #[O] #[O]),zar (zdK (xs:=arrOf st) (i:=sa+k) (j:=sb) (k:=0) #[O] #[O])];have:=zfb (CC k (aG _) #[O]);rw [<- zab (val:=val) Br] at this;simp only [f'] at this |-;lia
 have hl:∀ j,j < (#[wE].extract sb (sb+m)).size->Vk val (#[wE].extract sb (sb+m)) j<=Vk val (#[wE].extract (sa+k) sb) ((#[wE].extract (sa+k) sb).size - 1):=by
  intro j hj;rw [z2] at hj;rw [z1,zar (zdK #[O] #[O]),zar (zdK (xs:=arrOf st) (i:=sa+k) (j:=sb) #[O] #[O])];have:=Ju (sb+j) #[O] #[O];rw [show sa+k+(sb - (sa+k) - 1)=sa+na - 1 by lia];lia
 have fin:∀ (out:Array Keyed) (g:Nat),Good val ((#[wE].extract (sa+k) sb).toList++(#[wE].extract sb (sb+m)).toList) out.toList ->
   wpS #[ul] A E s (do
    modify fun s=>setArr s (out.toList.zipIdx.foldl (fun a (p,j)=>a.setIfInBounds (sa+k+j) p) (arrOf s))
    let s' <- get
    pure (failedOf s').isNone) Q (zax rK g):=by
  intro out g hG;refine aS (ig (aS (iU ?_)));have hms:out.size=sb+m - (sa+k):=by
   have:=hG.1.length_eq;rw [aL] at this;have e1:out.toList.length=out.size:=by simp
   have e2:(#[wE].extract (sa+k) sb).toList.length=sb - (sa+k):=by rw [cC,z1]
   have e3:(#[wE].extract sb (sb+m)).toList.length=sb+m - sb:=by rw [cC,z2]
   lia
  have sd:=zoV (xs:=arrOf st) (sa:=sa+k) (sb:=sb) (e:=sb+m) #[O] #[O] #[O] hG.1;have qY:∀ n,#[Go][n]? = if sa+k<=n/\n < sb+m then out[n - (sa+k)]? else #[wE][n]?:=fun n=>by
   have:=znm (sa+k) out.toList 0 #[wE] n (by rw [cC]; lia);rw [cC,f',hms,show sa+k+(sb+m - (sa+k))=sb+m by lia,cL] at this;exact this
  have E6:(failedOf (setArr (zax rK g) #[Go])).isNone=true:=by
   show (failedOf rK).isNone=true;rw [AN.failed];rfl
  have Jv:arrOf (zax rK g)=arrOf st:=Ah;show wpS _ _ _ _ (pure (failedOf #[R6]).isNone) Q #[R6];rw [Jv,E6];refine aT (h _ ⟨sd.trans hB.perm,AN.kind,AN.failed⟩ wR (fun n hn=>?_) ?_)
  ·show #[Go][n]? = _;rw [qY,if_neg #[O]]
  ·show SIn val #[Go] sa (sb+nb);have wG:∀ n,sa+k<=n->n < sb+m->∃ q,sa+k<=q/\q < sb+m/\Vk val #[Go] n=Vk val #[wE] q:=fun n h1 h2=>by
    have ho:n - (sa+k) < out.size:=by lia
    have xF:out[n - (sa+k)]? = some out[n - (sa+k)]:=getElem?_pos out _ ho;have rn:out[n - (sa+k)]∈(#[wE].extract (sa+k) sb).toList++(#[wE].extract sb (sb+m)).toList:=hG.1.mem_iff.mp #[M];have hv:Vk val #[Go] n=val out[n - (sa+k)]:=zab (by rw [qY,if_pos ⟨h1,h2⟩,xF]);rcases bQ.mp rn with rn | rn
    ·obtain⟨q,q1,q2,q3⟩:=zfd #[O] rn;exact⟨q,q1,#[O],by rw [hv,zab q3]⟩
    ·obtain⟨q,q1,q2,q3⟩:=zfd #[O] rn;exact⟨q,#[O],q2,by rw [hv,zab q3]⟩
   have rR:∀ n,¬ (sa+k<=n/\n < sb+m)->Vk val #[Go] n=Vk val #[wE] n:=fun n hn=>zar (by rw [qY,if_neg hn])
   intro p q h1 h2 h3;by_cases hp:p < sa+k
   ·rw [rR p #[O]];by_cases hq:q < sa+k
    ·rw [rR q #[O]];exact sA p q h1 h2 #[O]
    ·have key:∀ q',sa+k<=q'->q' < sb+nb->Vk val #[wE] p<=Vk val #[wE] q':=fun q' a1 a2=>by
      by_cases rf:q' < sb
      ·exact sA p q' h1 #[O] #[O]
      ·exact dF (Fz p h1 hp) (sB sb q' #[O] #[O] a2)
     by_cases qZ:q < sb+m
     ·obtain⟨q',q1,q2,q3⟩:=wG q #[O] qZ;rw [q3];exact key q' q1 #[O]
     ·rw [rR q #[O]];exact key q #[O] h3
   ·by_cases uA:p < sb+m
    ·by_cases qZ:q < sb+m
     ·have FD:p - (sa+k) < out.size:=by lia
      have xF:q - (sa+k) < out.size:=by lia
      rw [zab (p:=out[p - (sa+k)]) (by rw [qY,if_pos #[O]]; exact getElem?_pos out _ FD),zab (p:=out[q - (sa+k)]) (by rw [qY,if_pos #[O]]; exact getElem?_pos out _ xF)];by_cases hpq:p=q
      ·subst hpq;exact dB _
      ·have:=eQ.mp hG.2 (p - (sa+k)) (q - (sa+k)) (by simpa using FD) (by simpa using xF) #[O];simpa using this
     ·obtain⟨p',p1,p2,p3⟩:=wG p #[O] uA;rw [p3,rR q #[O]];by_cases uw:p' < sb
      ·exact dF (sA p' (sa+na - 1) #[O] #[O] #[O]) (CD q #[O] h3)
      ·exact sB p' q #[O] #[O] h3
    ·rw [rR p #[O],rR q #[O]];exact sB p q #[O] h2 h3
 have ma:∀ p∈(#[wE].extract (sa+k) sb).toList,p∈a₀.toList:=fun p hp=>by
  obtain⟨q,q1,q2,q3⟩:=zfd #[O] hp;obtain⟨p',e,m'⟩:=BS q #[O];rw [q3] at e;cases e;exact m'
 have mb:∀ p∈(#[wE].extract sb (sb+m)).toList,p∈a₀.toList:=fun p hp=>by
  obtain⟨q,q1,q2,q3⟩:=zfd #[O] hp;obtain⟨p',e,m'⟩:=BS q #[O];rw [q3] at e;cases e;exact m'
 have ss1:=zkA (val:=val) (xs:=arrOf st) (i:=sa+k) (j:=sb) #[O] (sA.sub #[O] #[O]);have ss2:=zkA (val:=val) (xs:=arrOf st) (i:=sb) (j:=sb+m) #[O] (sB.sub #[O] #[O]);by_cases hle:na - k<=m
 ·rw [if_pos hle];exact aS (zlC (a:=#[wE].extract (sa+k) sb) (b:=#[wE].extract sb (sb+m)) hC AN.kind ma mb ss1 ss2 #[O] #[O] hf hl fin)
 ·rw [if_neg hle];exact aS (zlD (a:=#[wE].extract (sa+k) sb) (b:=#[wE].extract sb (sb+m)) hC AN.kind ma mb ss1 ss2 #[O] #[O] hf hl fin)
end
end Srt
end
section
namespace Srt
open PySem PyProof.Rows
variable {j:Nat}
def Runs (val:Keyed->Int) (xs:Array Keyed):List (Nat×Nat×Nat)->Nat->Nat->Prop
 | [],lo,hi=>lo=hi
 | (s,n,_) :: r,lo,hi=>s=lo/\1<=n/\SIn val xs lo (lo+n)/\Runs val xs r (lo+n) hi
section
variable {val:Keyed->Int}
theorem Runs.le {xs:Array Keyed}:∀ {p:List (Nat×Nat×Nat)} {lo hi:Nat},Runs val xs p lo hi->lo+p.length<=hi
 | [],lo,hi,h=>by
  have h:lo=hi:=h;simp only [k9];lia
 | (s,n,w) :: r,lo,hi,h=>by
  obtain⟨_,h1,_,h2⟩:=h;have:=h2.le;simp only [dM];lia
theorem Runs.append {xs:Array Keyed}:∀ {p q:List (Nat×Nat×Nat)} {lo hi:Nat},Runs val xs (p++q) lo hi↔∃ mid,Runs val xs p lo mid/\Runs val xs q mid hi
 | [],q,lo,hi=>⟨fun h=>⟨lo,rfl,h⟩,fun ⟨mid,h1,h2⟩=>by
   have h1:lo=mid:=h1;subst h1;exact h2⟩
 | (s,n,w) :: p,q,lo,hi=>by
  constructor
  ·rintro⟨h1,h2,h3,h4⟩;obtain⟨mid,h5,h6⟩:=Runs.append.mp h4;exact⟨mid,⟨h1,h2,h3,h5⟩,h6⟩
  ·rintro⟨mid,⟨h1,h2,h3,h5⟩,h6⟩;exact⟨h1,h2,h3,Runs.append.mpr ⟨mid,h5,h6⟩⟩
theorem Runs.keep {xs ys:Array Keyed}:∀ {p:List (Nat×Nat×Nat)} {lo hi:Nat},Runs val xs p lo hi->(∀ k,lo<=k->k < hi->ys[k]? = xs[k]?)->Runs val ys p lo hi
 | [],lo,hi,h,_=>h
 | (s,n,w) :: p,lo,hi,h,e=>by
  obtain⟨h1,h2,h3,h4⟩:=h;have:=h4.le;refine⟨h1,h2,fun i j a b c=>?_,h4.keep fun k a b=>e k #[O] b⟩;rw [zar (e i #[O] #[O]),zar (e j #[O] #[O])];exact h3 i j a b c
theorem znn {α:Type} (p q:List α) (x y v:α):((p++x :: y :: q).toArray.setIfInBounds p.length v).eraseIdxIfInBounds (p.length+1)=(p++v :: q).toArray:=by
 simp [Array.eraseIdxIfInBounds];rw [List.eraseIdx_append_of_length_le #[O],show p.length+1 - p.length=1 by lia];rfl
theorem zno {α:Type} (q:List α) (z:α) (f:α->α):(q++[z]).toArray.modify ((q++[z]).toArray.size - 1) f=(q++[f z]).toArray:=by
 apply Array.ext';simp;induction q with
 | nil=>rfl
 | cons a q ih =>
  show (a :: (q++[z])).modify (q.length+1) f=a :: (q++[f z]);rw [List.modify_succ_cons,ih]
theorem zkB {xs:Array Keyed} {p:List (Nat×Nat×Nat)} {n:Nat} (hl:p.length<=1) (hn:1<=n) (h:Runs val xs p 0 n):SIn val xs 0 n:=by
 match p,hl,h with
 | [],_,h =>
  have h:0=n:=h;lia
 | [(a,b,c)],_,h =>
  obtain⟨_,_,h3,h4⟩:=h;have h4:0+b=n:=h4;rw [<- h4];exact h3
 | _ :: _ :: _,hl,_=>simp at hl
theorem zlG {α:Type} {p:List α} (h:j+2<=p.length):∃ pre x y post,p=pre++x :: y :: post/\pre.length=j:=by
 refine⟨p.take j,p[j],p[j+1],p.drop (j+2),?_,by rw [bD]; lia⟩;have e1:=(dP j p).symm;rw [eP (show j < p.length by lia),eP (show j+1 < p.length by lia)] at e1;exact e1
end
section
variable {prog:Program} {w:World} {A:Around} {E:Value->Shared->Prop} {s:Shared} {a₀:Array Keyed} {κ:SortKind} {val:Keyed->Int}
theorem ziG {st:SortSt} {pre post:List (Nat×Nat×Nat)} {x y:Nat×Nat×Nat} {hi:Nat} {Q:Bool->SortSt->Prop} (hC:Cmp prog w A s κ val a₀) (hB:SB κ a₀ st) (hp:pendingOf st=(pre++x :: y :: post).toArray) (hR:Runs val #[wE] (pre++x :: y :: post) 0 hi) (BO:hi<=a₀.size)
  (h:∀ pE v,SB κ a₀ pE->pendingOf pE=(pre++v :: post).toArray->(∀ k,hi<=k->#[Do][k]? = #[wE][k]?)->Runs val #[Do] (pre++v :: post) 0 hi->Q true pE) :
  wpS #[ul] A E s (mergeAt' pre.length) Q st:=by
 obtain⟨sa,na,pw⟩:=x;obtain⟨sb,nb,pw2⟩:=y;obtain⟨mid,r1,r2⟩:=Runs.append.mp hR;obtain⟨rfl,q1,q2,rfl,q4,q5,r3⟩:=r2;have hle:=r3.le;refine zlF (i:=pre.length) (sa:=sa) (na:=na) (pw:=pw) (sb:=sa+na) (nb:=nb) (pw2:=pw2) hC hB (by rw [hp]; simp) (by rw [hp]; simp) rfl q1 q4 #[O] q2 q5 fun pE rP uw hk hs=>?_
 refine h pE (sa,na+nb,pw) rP (by rw [uw,hp,znn]) (fun k xZ=>hk k #[O]) ?_;refine Runs.append.mpr ⟨sa,r1.keep fun k _ b=>hk k #[O],rfl,#[O],?_,?_⟩
 ·rw [<- Nat.add_assoc];exact hs
 ·rw [<- Nat.add_assoc];exact r3.keep fun k a b=>hk k #[O]
theorem zoW {n:Nat} {c:Prop} [Decidable c] (h:¬ n<=1):(if c then n - 2 - 1 else n - 2)+2<=n:=by
 by_cases hc:c
 ·rw [if_pos hc];lia
 ·rw [if_neg hc];lia
theorem znp {st:SortSt} {p:List (Nat×Nat×Nat)} {hi:Nat} {Q:Bool->SortSt->Prop} (hj:j+2<=p.length) (hC:Cmp prog w A s κ val a₀) (hB:SB κ a₀ st) (hp:pendingOf st=p.toArray) (hR:Runs val #[wE] p 0 hi) (BO:hi<=a₀.size)
  (h:∀ pE p',SB κ a₀ pE->pendingOf pE=p'.toArray->Runs val #[Do] p' 0 hi->p'.length+1=p.length->Q true pE):wpS #[ul] A E s (mergeAt' j) Q st:=by
 obtain⟨pre,x,y,post,rfl,rfl⟩:=zlG hj;exact ziG hC hB hp hR BO fun pE v a b _ d=>h pE _ a b d (by simp only [aL,dM]; lia)
theorem zqW {st:SortSt} {Q:Unit->SortSt->Prop} (hC:Cmp prog w A s κ val a₀) (hB:SB κ a₀ st) (hp:pendingOf st = #[]) (h2:1<=a₀.size)
  (h:∀ pE,SB κ a₀ pE->SIn val #[Do] 0 a₀.size->Q () pE):wpS #[ul] A E s sortRuns' Q st:=by
 rw [sortRuns'_eq];refine aS (iU ?_);dsimp only;rw [hB.size];generalize minRun' a₀.size a₀.size 0=mr;refine aS (fT (eY (I:=fun x c pE=>∃ lo p,c=(none,lo)/\SB κ a₀ pE/\pendingOf pE=p.toArray/\Runs val #[Do] p 0 lo/\lo<=a₀.size/\min x a₀.size<=lo)
  (Q:=fun c pE=>∃ p,c=(none,a₀.size)/\SB κ a₀ pE/\pendingOf pE=p.toArray/\Runs val #[Do] p 0 a₀.size) ?step ?fin ⟨0,[],rfl,hB,hp,rfl,#[O],#[O]⟩) ?post)
 case fin =>
  rintro c pE ⟨lo,p,rfl,rP,uw,hR,tR,hx⟩;have:lo=a₀.size:=by lia
  subst this;exact⟨p,rfl,rP,uw,hR⟩
 case step =>
  rintro x c pE _ hx ⟨lo,p,rfl,rP,uw,hR,tR,FE⟩;dsimp only;by_cases sF:lo>=a₀.size
  ·rw [if_pos sF];have:lo=a₀.size:=by lia
   subst this;exact aT ⟨p,rfl,rP,uw,hR⟩
  rw [if_neg sF];refine aS (zoR hC #[O] #[O] (SF.refl rP) fun m rK hF1 Bq wJ hs1=>?_);dsimp only;apply zsy
  ·intro k1 k2;by_cases Jw:m < mr
   ·rw [if_pos Jw]
    (refine aS #[QX])
    refine aS (zrZ hC #[O] #[O] hF1 hs1 fun qi CF rG=>?_);rw [if_neg #[D]];have yj:1<=min #[WM] mr:=by lia
    have wD:lo+min #[WM] mr<=a₀.size:=by lia
    generalize min #[WM] mr=n at rG yj wD |-
    revert wD; revert yj; revert rG; revert CF; revert qi; revert n
    exact k1 ()
   ·rw [if_neg Jw];have wD:lo+m<=a₀.size:=by lia
    clear wJ Jw
    revert wD; revert Bq; revert hs1; revert hF1; revert rK; revert m
    exact k2 ()
  intro n qi CF rG yj wD;refine aS (iU ?_);have wR:pendingOf qi=p.toArray:=CF.pend.trans uw;have Ew:Runs val (arrOf qi) p 0 lo:=hR.keep fun k _ b=>CF.low k b
  rcases lR p with rfl | ⟨q,z,rfl⟩
  ·rw [wR];show wpS _ _ _ _ (do
    modify fun s=>setPending s ((pendingOf s).push (lo,n,0)); pure (eL (none,lo+n))) _ _
   refine aS (ig (aT ⟨lo+n,[(lo,n,0)],rfl,⟨CF.b.perm,CF.b.kind,CF.b.failed⟩,?_,?_,#[O],#[O]⟩))
   ·show #[RF].push _=_;rw [wR];rfl
   ·have h0:0=lo:=Ew;subst h0;exact⟨rfl,yj,rG,rfl⟩
  obtain⟨s1,n1,w1⟩:=z;rw [wR,jy,show ((q++[(s1,n1,w1)]).toArray).back? = some (s1,n1,w1) by simp];rw [jy] at wR Ew;dsimp only;generalize power' a₀.size (2*s1+n1) (2*s1+n1+n1+n) a₀.size=pw;refine aS (fT (eY (I:=fun _ c pE=>c=(none,())/\∃ q' z,SB κ a₀ pE/\pendingOf pE=(q'++[z]).toArray/\Runs val #[Do] (q'++[z]) 0 lo/\(∀ k,lo<=k->#[Do][k]? = (arrOf qi)[k]?))
   (Q:=fun c pE=>c=(none,())/\∃ q' z,SB κ a₀ pE/\pendingOf pE=(q'++[z]).toArray/\Runs val #[Do] (q'++[z]) 0 lo/\(∀ k,lo<=k->#[Do][k]? = (arrOf qi)[k]?)) ?_ (fun _ _ hh=>hh) ⟨rfl,q,(s1,n1,w1),CF.b,wR,Ew,fun _ _=>rfl⟩) ?_)
  ·rintro x2 c qi _ BP ⟨rfl,q',z,vQ,uA,AO,vM⟩;refine aS (iU ?_);rcases lR q' with rfl | ⟨q2,y,rfl⟩
   ·rw [uA,if_neg #[M]];exact aT ⟨rfl,[],z,vQ,uA,AO,vM⟩
   rw [jy,cK] at uA AO;have Hc:#[RF].size - 2=q2.length:=by rw [uA]; simp
   have eel:(if #[RF].size > 1 then #[RF][#[RF].size - 2]? else none)=some y:=by
    rw [if_pos (by rw [uA]; simp),Hc,uA];simp
   rw [eel];obtain⟨y1,y2,y3⟩:=y;dsimp only;by_cases ho:y3<=pw
   ·rw [if_pos ho];exact aT ⟨rfl,q2++[(y1,y2,y3)],z,vQ,by rw [uA,cK],by rw [cK]; exact AO,vM⟩
   ·rw [if_neg ho,Hc];refine aS (ziG hC vQ uA AO #[O] fun Aa v Jx Bu CC FF=>?_);rw [if_neg #[D]];exact aT ⟨rfl,q2,v,Jx,Bu,FF,fun k hk=>(CC k hk).trans (vM k hk)⟩
  ·rintro c qi ⟨rfl,q',z,vQ,uA,AO,vM⟩;obtain⟨z1,z2,z3⟩:=z;dsimp only;refine aS (ig (aS (ig (aT ⟨lo+n,q'++[(z1,z2,pw),(lo,n,0)],rfl,⟨vQ.perm,vQ.kind,vQ.failed⟩,?_,?_,#[O],#[O]⟩))))
   ·show (#[RF].modify (#[RF].size - 1) fun x=>(x.fst,x.2.fst,pw)).push (lo,n,0)=_;rw [uA,zno];simp
   ·show Runs val (arrOf qi) _ _ _;obtain⟨mid,r1,r2⟩:=Runs.append.mp AO;obtain⟨e1,e2,e3,e4⟩:=r2;have e4:mid+z2=lo:=e4;refine Runs.append.mpr ⟨mid,r1,e1,e2,e3,e4.symm,yj,?_,?_⟩
    ·intro i j a1 a2 a3;rw [zar (vM i #[O]),zar (vM j #[O])];exact rG i j #[O] a2 #[O]
    ·show mid+z2+n=lo+n;lia
 case post =>
  rintro c rK ⟨p,rfl,AN,wR,Ew⟩;dsimp only;have qh:=Ew.le;refine aS (fT (eY (I:=fun x c pE=>c=(none,())/\∃ p,SB κ a₀ pE/\pendingOf pE=p.toArray/\Runs val #[Do] p 0 a₀.size/\p.length<=max 1 (a₀.size - x))
   (Q:=fun c pE=>c=(none,())/\SB κ a₀ pE/\SIn val #[Do] 0 a₀.size) ?_ ?_ ⟨rfl,p,AN,wR,Ew,#[O]⟩) ?_)
  ·rintro x c qi _ hx ⟨rfl,p2,vQ,uA,AO,rX⟩;refine aS (iU ?_);have hsz:#[RF].size=p2.length:=by rw [uA]; simp
   rw [hsz];by_cases hle:p2.length<=1
   ·rw [if_pos hle];exact aT ⟨rfl,vQ,zkB hle h2 AO⟩
   rw [if_neg hle];refine aS (znp (p:=p2) (zoW hle) hC vQ uA AO (aG _) fun Aa p3 Jx Bu FF hl3=>?_);rw [if_neg #[D]];exact aT ⟨rfl,p3,Jx,Bu,FF,#[O]⟩
  ·rintro c qi ⟨rfl,p2,vQ,uA,AO,rX⟩;exact⟨rfl,vQ,zkB #[O] h2 AO⟩
  ·rintro c qi ⟨rfl,vQ,hS⟩;exact aT (h qi vQ hS)
end
end Srt
end
section
namespace Srt
open PySem PyProof.Rows
def num (B:Int):List Int->Int
 | []=>0
 | n :: r=>n*B ^ r.length+num B r
theorem MQ {B:Int} (hB:1<=B):∀ {ns:List Int},(∀ n∈ns,0<=n/\n < B)->0<=num B ns/\num B ns < B ^ ns.length
 | [],_=>by simp [num]
 | n :: r,h=>by
  obtain⟨h1,h2⟩:=MQ hB (ns:=r) fun m hm=>h m (aV _ hm)
  obtain⟨a,b⟩:=h n #[M];have hp:0 < B ^ r.length:=Int.pow_pos #[O];have e:B ^ (n :: r).length=B ^ r.length*B:=by rw [dM,jI]
  show 0<=n*B ^ r.length+num B r/\n*B ^ r.length+num B r < _;rw [e];have h3:0<=n*B ^ r.length:=Int.mul_nonneg a #[O];have h4:n*B ^ r.length<=(B - 1)*B ^ r.length:=fH #[O] #[O];have h5:(B - 1)*B ^ r.length=B ^ r.length*B - B ^ r.length:=by rw [Int.sub_mul,Int.one_mul,kO]
  lia
def ziH:List Int->List Int->Bool
 | [],[]=>false
 | [],_ :: _=>true
 | _ :: _,[]=>false
 | x :: xs,y :: ys=>if x=y then ziH xs ys else decide (x < y)
theorem zde (x y:Int) (xs ys:List Int):ziH (x :: xs) (y :: ys)=if x=y then ziH xs ys else decide (x < y):=rfl
theorem zkC {B:Int} (hB:1<=B):∀ {ms ns:List Int},ms.length=ns.length->(∀ n∈ms,0<=n/\n < B)->(∀ n∈ns,0<=n/\n < B)->ziH ms ns=decide (num B ms < num B ns)
 | [],[],_,_,_=>by simp [ziH,num]
 | [],_ :: _,h,_,_=>by simp at h
 | _ :: _,[],h,_,_=>by simp at h
 | m :: ms,n :: ns,hl,h1,h2=>by
  have GR:ms.length=ns.length:=by simpa using hl
  have ih:=zkC hB GR (fun x hx=>h1 x (aV _ hx)) (fun x hx=>h2 x (aV _ hx));obtain⟨a1,a2⟩:=MQ hB fun x hx=>h1 x (aV m hx)
  obtain⟨b1,b2⟩:=MQ hB fun x hx=>h2 x (aV n hx)
  rw [zde];show _=decide (m*B ^ ms.length+num B ms < n*B ^ ns.length+num B ns);rw [GR] at a2 |-;have hp:0 < B ^ ns.length:=Int.pow_pos #[O];by_cases e:m=n
  ·rw [if_pos e,ih,e];rw [fz];simp only [decide_eq_true_eq];lia
  ·rw [if_neg e,fz];simp only [decide_eq_true_eq];have key:∀ x y:Int,x < y->x*B ^ ns.length+B ^ ns.length<=y*B ^ ns.length:=fun x y hxy=>by
    have:=fH (show x+1<=y by lia) (show 0<=B ^ ns.length by lia);rw [Int.add_mul,Int.one_mul] at this;exact this
   constructor
   ·intro h;have:=key m n h;lia
   ·intro h;rcases nU m n with h3 | h3 | h3
    ·exact h3
    ·exact absurd h3 e
    ·have:=key n m h3;lia
section
variable {prog:Program} {w:World} {A:Around} {E:Value->Shared->Prop} {s:Shared}
theorem zkD {Q:Bool->Shared->Prop} {fin:Bool}:∀ {xs ys:List Value} {ms ns:List Int} (i:Nat),IntsAre xs ms->IntsAre ys ns->ms.length=ns.length->Q (if ms=ns then fin else ziH ms ns) s->PySem.W.KatLex prog w A true fin Q (xs.zip ys) i s
 | [],[],[],[],i,_,_,_,h=>PySem.W.kat_nil (by simpa using h)
 | _ :: _,_,[],_,_,hx,_,_,_=>by cases hx
 | [],_,_ :: _,_,_,hx,_,_,_=>by cases hx
 | _,[],_,_ :: _,_,_,hy,_,_=>by cases hy
 | _,_ :: _,_,[],_,_,hy,_,_=>by cases hy
 | x :: xs,y :: ys,m :: ms,n :: ns,i,hx,hy,hl,h=>by
  cases hx with
  | cons _ t hx =>
   cases hy with
   | cons _ u hy =>
    refine PySem.W.kat_cons (wpAny_eqBool_int ?_);by_cases e:m=n
    ·rw [show (m == n)=true by simpa using e];refine PySem.W.kat_yes (zkD (i+1) hx hy (by simpa using hl) ?_);subst e;rw [zde,if_pos rfl] at h;simpa using h
    ·rw [show (m == n)=false by simpa using e];have p7:¬ (m :: ms=n :: ns):=fun z=>e (mO z).1
     rw [if_neg p7,zde,if_neg e] at h;refine PySem.W.kat_no ?_;by_cases hi:i=0
     ·subst hi;exact oneLt_int h
     ·have hb:(true && i == 0)=false:=by simp [hi]
      rw [hb];exact PySem.W.kat_one _ _ (wpAny_lt_int h)
end
end Srt
end
section
namespace PySem
open PyProof.Rows
def zeV (h:Heap) (d:Addr) (es:Array DictEntry) (ep:Nat):Prop:=∃ o,h.get? d=some o/\o.ExactDict/\o.data = .dict es ep
theorem zeV.at' {h h':Heap} {d:Addr} {es:Array DictEntry} {ep:Nat} (x:zeV h d es ep) (e:∀ o,h.get? d=some o->h'.get? d=some o):zeV h' d es ep:=let ⟨o,ho,r⟩:=x; ⟨o,e _ ho,r⟩
theorem zeV.typeIs {s:Shared} {d:Addr} {es:Array DictEntry} {ep:Nat} (x:zeV s.heap d es ep):s.TypeIs (.ref d) "dict":=let ⟨o,ho,hc,_⟩:=x; ⟨o,ho,hc.1⟩
section
variable {prog:Program} {w:World} {A:Around} {E:Value->Shared->Prop} {s:Shared} {it d:Addr} {i ep:Nat} {es:Array DictEntry}
theorem ziI {Q:Value->Shared->Prop} (hd:(d == sysModules)=false) (hm:zeV s.heap d es ep) (hQ:Q #[ww] { s with heap:=s.heap.push { cls:=.type "dict_keyiterator",data:=.fields #[.ref d,.int 0 0,.int es.size 0,.int ep 0] } }):wpAny #[ul] A (pyIter (.ref d)) Q E s:=by
 have hT:=hm.typeIs;obtain⟨o,ho,hc,FG⟩:=id hm;refine kx hT ou (cU ou hT F.entry_dict_iter ?_ (F.args_dict_iter_1 _)); unfold Builtin.«dict.__iter__» Builtin.Dict.dictSlotNone;refine aB (aB (lS hT ?_)); show wpAny _ _ (pure (bP d)) _ _ s;refine aI ?_; show wpAny _ _ (lT d >>= _) _ _ s; unfold lT;rw [if_neg (show ¬ ((d == sysModules)=true) by rw [hd]; decide)];refine aB (aI (aB (kA ho FG (aB (la ho FG (aB (ed (aI ⟨_,rfl,"dict_keyiterator",_,⟨_,aY _ rfl,rfl⟩,F.slot_dict_keyiterator_next.lookup,?_⟩))))))));simpa [rawInt] using hQ
theorem ziJ {e:DictEntry} {Q:Option Value->Shared->Prop} (hit:s.heap.IsKeyIter it d i es.size ep) (hm:zeV s.heap d es ep) (he:es[i]? = some e)
  (hQ:∀ h',h'.IsKeyIter it d (i+1) es.size ep->cM it s.heap h'->Q (some e.key) { s with heap:=h' }):wpAny #[ul] A #[Tc] Q E s:=by
 (obtain⟨o,ho,hc,hd⟩:=id hit)
 obtain⟨od,FH,vc,FI⟩:=id hm;have pT:i < es.size:=(fj.mp he).1;have Dx:jV "dict_keyiterator" = false:=by decide +kernel
 unfold pyNext; refine aB (eh (cP (name:=cQ "__next__") hit.typeIs fU #[VO]));refine aB #[RW];simp only [Dx,cG,if_false]; show wpAny _ _ (if (bP d == eI)=true then _ else _) _ _ s;rw [if_neg (show ¬ ((bP d == eI)=true) from fun z=>bK z)];refine aB (aI (aB (kA FH FI ?_)));rw [if_neg (show ¬ ((((es.size:Nat):Int) != ((es.size:Nat):Int))=true) by simp)];refine aB (aI (aB (la FH FI ?_)));rw [if_neg #[M]]; refine aI ?_;simp only [show ¬ ((i:Int) < 0) by lia,if_false,dq,he];refine aB (aB (fN hit.typeIs (aI (aB (lU hit.typeIs ?_)))));show wpAny _ _ (setField #[QT] 1 (rawInt ((i:Int)+1)) >>= _) _ _ s; refine aB #[Tw];have ux:(s.heap.update it (kg (·.setIfInBounds 1 (rawInt ((i:Int)+1))))).IsKeyIter it d (i+1) es.size ep:=⟨_,eR _ ho (gZ (fo hd _)),(ku ..).trans hc,by rw [fo hd]; simp [rawInt]⟩;refine aB (cX (aB (lU (s:={ s with heap:=s.heap.update it (kg (·.setIfInBounds 1 (rawInt ((i:Int)+1)))) }) ux.typeIs ?_)));show wpAny _ _ (pure e.key) _ _ _; exact aI (aI ⟨_,rfl,aI (hQ _ ux (fg ..))⟩)
theorem zkE {Q:Option Value->Shared->Prop} (hh:A.handled=none) (hit:s.heap.IsKeyIter it d i es.size ep) (hm:zeV s.heap d es ep) (he:es.size<=i) (hQ:∀ h',nX it s.heap h'->Q none { s with heap:=h' }):wpAny #[ul] A #[Tc] Q E s:=by
 (obtain⟨o,ho,hc,hd⟩:=id hit)
 obtain⟨od,FH,vc,FI⟩:=id hm;have Dx:jV "dict_keyiterator" = false:=by decide +kernel
 unfold pyNext; refine aB (eh (cP (name:=cQ "__next__") hit.typeIs fU #[VO]));refine aB #[RW];simp only [Dx,cG,if_false]; show wpAny _ _ (if (bP d == eI)=true then _ else _) _ _ s;rw [if_neg (show ¬ ((bP d == eI)=true) from fun z=>bK z)];refine aB (aI (aB (kA FH FI ?_)));rw [if_neg (show ¬ ((((es.size:Nat):Int) != ((es.size:Nat):Int))=true) by simp)];refine aB (aI (aB (la FH FI ?_)));rw [if_neg #[M]]; refine aI ?_;simp only [show ¬ ((i:Int) < 0) by lia,if_false,dq,Array.getElem?_eq_none he];refine aB (aB (fN hit.typeIs (aI ?_)));show wpAny _ _ (setField #[QT] 0 .none >>= _) _ _ s; refine aB #[Tw];show wpAny _ _ (newExc (.type "StopIteration") [] >>= _) _ _ _; simp only [newExc,newTuple];refine aB (aB (ed (aB (m:=firstArgMember _ _) (dR (a:=eI) (by first | rfl | (simp only [firstArgMember]; rfl)) (ed ?_ (by size_fits)))) (by size_fits)));simp only [raiseNew]; refine aB (mK ?_); rw [show A.in1.handled=none from hh];refine aB (aI (nY ?_)); refine aB (gC (T:="StopIteration") (b:=true) ⟨_,aY _ rfl,rfl⟩ iR ?_)
 (exact aI (hQ _ (((fg ..).extBut.push _).push _)))
theorem zlH (hh:A.handled=none) (I d:Addr) (p7:d≠I) (es:Array DictEntry) (ep:Nat) :
  Walks prog w A I [I,d] [I] es.size (fun i v=>∃ e,es[i]? = some e/\v=e.key) (fun i h=>h.IsKeyIter I d i es.size ep/\zeV h d es ep) where
 sub:=(fun b hb=>by simp at hb; simp [hb])
 frame:=(fun _ _ _ st hk=>⟨st.1.at fun o e=>hk I #[M] o e,st.2.at' fun o e=>hk d #[M] o e⟩)
 item:=fun i s Q E hi st hQ=>ziJ st.1 st.2 (getElem?_pos es i hi) fun h' ux qG=>hQ _ h' s.toks ⟨es[i],getElem?_pos es i hi,rfl⟩ ⟨ux,st.2.at' fun o e=>qG.extBut d o p7 e⟩ fun b o hb e=>qG.extBut b o (fun h=>hb (by simp [h])) e
 done:=fun s Q E st hQ=>zkE hh st.1 st.2 (aG _) fun h' BI=>hQ h' s.toks fun b o hb e=>BI b o (fun h=>hb (by simp [h])) e
 self:=(fun _ _ _ _ st hQ=>mB st.1 hQ)
theorem zoX (lo:(d == sysModules)=false):PySem.W.KdlSrc prog w "dict" d d es.size (fun i v=>∃ e,es[i]? = some e/\v=e.key) (fun h=>zeV h d es ep) where
 type:=fun _ hm=>hm.typeIs
 there:=fun _ hm=>let ⟨_,ho,_⟩:=hm; ⟨aW ho,aW ho⟩
 keep:=(fun _ _ hm hk=>hm.at' fun o e=>hk d #[QP] o e)
 notList:=by decide
 notTuple:=by decide
 hint:=fun _ _ _ _ hm hq=>PySem.W.kdl_hint_dict hm.typeIs hq
 iter:=fun _ _ hh hm=>⟨_,_,(fun _ _ hq=>ziI lo hm hq),zlH hh _ d (by obtain⟨_,ho,_⟩:=id hm; exact bT (aW ho)) es ep,⟨⟨_,aY _ rfl,rfl,rfl⟩,hm.at' fun o e=>aH _ e⟩⟩
end
end PySem
end
section
namespace Srt
open PySem PyProof.Rows
variable {vs:List Value}
section
variable {prog:Program} {w:World} {A:Around} {E:Value->Shared->Prop} {s:Shared} {κ:SortKind} {val:Keyed->Int}
theorem zey {p:Keyed} (h:p∈#[Rs].toList):p.1∈vs/\p.2=p.1:=by
 rw [lV] at h;obtain⟨i,hi,e⟩:=gH h;rw [List.getElem_zip] at e;rw [<- e];exact⟨fV _,rfl⟩
theorem zqX {xs:Array Keyed} (hp:xs.Perm #[Rs]) (hs:SIn val xs 0 #[Rs].size):(xs.map (·.2)).toList.Perm vs/\(xs.map (·.2)).toList.Pairwise fun x y=>val (x,x)<=val (y,y):=by
 (have hl:xs.toList.Perm (vs.zip vs):=by rw [<- lV]; exact io.mp hp)
 have hm:∀ p∈xs.toList,p=(p.2,p.2):=fun p uw=>by
  have:=zey (by rw [lV]; exact hl.mem_iff.mp uw);exact pd this.2.symm rfl
 constructor
 ·rw [oz];refine (hl.map (·.2)).trans ?_;rw [show (vs.zip vs).map (·.2)=vs from List.map_snd_zip (aG _)]
 ·rw [oz,dE,eQ];intro i j hi hj tU
  (have qF:i < xs.size:=by simpa using hi)
  (have sJ:j < xs.size:=by simpa using hj)
  have h1:=hs i j (cB _) #[O] (by rw [<- hp.size_eq]; exact sJ);rw [zab (getElem?_pos xs i qF),zab (getElem?_pos xs j sJ)] at h1;have e1:=hm xs.toList[i] (fV _);have e2:=hm xs.toList[j] (fV _);rw [<- e1,<- e2];simpa using h1
theorem zlI {a:Addr} {n:Nat} {P:PySem.Fin->Shared->Prop} (ho:s.heap.get? a=some (seqObj "list" vs.toArray n)) (pI:vs.length<=sizeLine)
  (tQ:∀ h',(∀ b o,b≠a->s.heap.get? b=some o->h'.get? b=some o)->2<=vs.length->∀ (Q:SortKind->Shared->Prop) (E:Value->Shared->Prop),Q κ { s with heap:=h' }->wpAny #[ul] A (keyKind' vs.toArray) Q E { s with heap:=h' })
  (vR:∀ h',(∀ b o,b≠a->s.heap.get? b=some o->h'.get? b=some o)->Cmp prog w A { s with heap:=h' } κ val #[Rs])
  (h:∀ out:Array Value,out.toList.Perm vs->(out.toList.Pairwise fun x y=>val (x,x)<=val (y,y))->P (.done (.ret .none)) { s with heap:=sortedHeap s.heap a vs out }):wpAny #[ul] A (Builtin.«list.sort» ⟨[.ref a],[]⟩) P E s:=by
 rw [list_sort_plain]
 (have ha:a < s.heap.objs.size:=aW ho)
 have hz:vs.toArray.size=vs.length:=aO;refine aB (listItems_at ho rfl (aB (mP ho rfl ?_ (hsz:=by rw [hz]; exact pI))))
 (obtain⟨e1,FD⟩:∃ e1,(s.heap.update a (fA fun _=>#[])).get? a=some (seqObj "list" #[] e1):=⟨_,get?_update_seq ho (fun _=>#[])⟩)
 refine aB (nZ FD rfl (aB (jS (aB (wpAny_newList (cX ?_))) (hsz:=pI))));have Hd:(((s.heap.update a (fA fun _=>#[])).push (seqObj "tuple" vs.toArray 0)).push (seqObj "list" #[] 0)).get? a=some (seqObj "list" #[] e1):=aH _ (aH _ FD);have hk6:∀ b o,b≠a->s.heap.get? b=some o->(((s.heap.update a (fA fun _=>#[])).push (seqObj "tuple" vs.toArray 0)).push (seqObj "list" #[] 0)).get? b=some o:=fun b o hb e=>aH _ (aH _ ((mY _ _ _ _ hb).trans e))
 (show wpAny #[ul] A _ P E { s with heap:=((s.heap.update a (fA fun _=>#[])).push (seqObj "tuple" vs.toArray 0)).push (seqObj "list" #[] 0) })
 dsimp only;have hcm:=vR _ hk6;have fin:∀ pE:SortSt,SB κ #[Rs] pE\/(arrOf pE=pairsOf vs/\failedOf pE=none)->SIn val #[Do] 0 #[Rs].size ->
   P (.done (.ret .none)) { s with heap:=sortedHeap s.heap a vs (#[Do].map (·.2)) }:=fun pE hB hs=>by
  have hp:#[Do].Perm #[Rs]:=by
   rcases hB with hB | hB
   ·exact hB.perm
   ·rw [hB.1]
  obtain⟨b1,b2⟩:=zqX hp hs;exact h _ b1 b2
 (by_cases h2:vs.toArray.size < 2)
 ·rw [if_pos h2,if_pos h2];refine aB (aI ?_); rw [StateT.run_pure]; refine aB (aI ?_);dsimp only;refine aB (nZ Hd rfl (aB (mP Hd rfl ?_ (hsz2:=by rw [oX]; show #[Rs].size<=_; rw [kP]; lia))))
  (simp only [bne_self_eq_false,cG,if_false])
  refine aI (fin (oQ general' #[Wr] #[] 7 none) (.inr ⟨rfl,rfl⟩) fun i j _ tU hj=>?_);have e:i=j:=by rw [kP] at hj; lia
  rw [e];exact dB _
 ·rw [if_neg h2,if_neg h2];refine aB (tQ _ hk6 #[O] _ _ ?_);refine aB (dN (zqW (a₀:=pairsOf vs) (κ:=κ) (val:=val) (st:=oQ κ #[Wr] #[] 7 none) (Q:=fun _ pE=>SB κ #[Rs] pE/\SIn val #[Do] 0 #[Rs].size)
   hcm ⟨Array.Perm.refl _,rfl,rfl⟩ rfl (by rw [kP]; lia) fun pE a1 a2=>⟨a1,a2⟩) ?_ fun _ _ e=>e)
  rintro⟨⟨⟩,pE⟩ s' ⟨rfl,hB,hs⟩;dsimp only;refine aB (nZ Hd rfl (aB (mP Hd rfl ?_ (hsz2:=bR (Nat.le_of_eq ((oX ..).trans (hB.perm.size_eq.trans (kP _)))) #[O]))));rw [hB.failed]
  (simp only [bne_self_eq_false,cG,if_false])
  exact aI (fin pE (.inl hB) hs)
theorem zgV {v:Value} {Q:Value->Shared->Prop} (pI:vs.length<=sizeLine)
  (Jy:∀ R:List Value->Shared->Prop,(∀ (h':Heap) (tk:Nat),(∀ b o,s.heap.get? b=some o->h'.get? b=some o)->R vs { s with heap:=h',toks:=tk })->wpAny #[ul] A.in1 (collect v) R E s)
  (tQ:∀ s',(∀ b o,s.heap.get? b=some o->s'.heap.get? b=some o)->2<=vs.length->∀ (A':Around) (Q:SortKind->Shared->Prop) (E:Value->Shared->Prop),Q κ s'->wpAny #[ul] A' (keyKind' vs.toArray) Q E s')
  (vR:∀ s' A',(∀ b o,s.heap.get? b=some o->s'.heap.get? b=some o)->Cmp prog w A' s' κ val #[Rs])
  (h:∀ (h':Heap) (tk:Nat) (out:Array Value) (e:Nat) (D:Addr),(∀ b o,s.heap.get? b=some o->h'.get? b=some o)->(∀ b o,s.heap.get? b=some o->b < D)->h'.get? D=some (seqObj "list" out e)->out.toList.Perm vs->(out.toList.Pairwise fun x y=>val (x,x)<=val (y,y))->Q #[QE] { s with heap:=h',toks:=tk }) :
  wpAny #[ul] A (call (.builtin "sorted") [v]) Q E s:=by
 refine Calls.call_function_entry kind_sorted plain_sorted entry_sorted (args_sorted1 _) ?_; unfold Builtin.«sorted»;refine aB (m:=checkCount "sorted" 1 1 _) (aI (aB (dN (Jy (fun us s'=>us=vs/\∃ (h':Heap) (tk:Nat),s' = { s with heap:=h',toks:=tk }/\∀ b o,s.heap.get? b=some o->h'.get? b=some o) fun h' tk k=>⟨rfl,h',tk,rfl,k⟩) ?_ fun _ _ e=>e)));rintro us s' ⟨rfl,h1,tk,rfl,kk⟩;refine aB (wpAny_newList ?_ (hsz:=pI));have El:(h1.push (seqObj "list" us.toArray 0)).get? h1.objs.size=some (seqObj "list" us.toArray 0):=aY _ rfl;have kn:∀ b o,s.heap.get? b=some o->b≠h1.objs.size:=fun b o e=>bT (aW (kk b o e))
 refine aB (cX (cU slot_list_sort ⟨_,El,rfl⟩ entry_list_sort (zlI (κ:=κ) (val:=val) El pI (fun h' hk h2 Q E hq=>tQ _ (fun b o e=>hk b o (kn b o e) (aH _ (kk b o e))) h2 _ Q E hq) (fun h' hk=>vR _ _ fun b o e=>hk b o (kn b o e) (aH _ (kk b o e))) fun out a1 a2=>⟨_,rfl,?_⟩) (args_list_sort _)));obtain⟨e,he⟩:=sortedHeap_at (out:=out) El;refine aI ⟨_,rfl,h _ tk out e h1.objs.size (fun b o x=>?_) (fun b o x=>aW (kk _ _ x)) he a1 a2⟩;rw [sortedHeap_old (kn b o x) (by rw [cZ]; exact gn (aW (kk _ _ x)))];exact aH _ (kk _ _ x)
end
end Srt
end
section
namespace L2
open PySem PySem.Spec PyProof.Rows PySem.Builtin.Str
variable {H:Hp} {X:Cx} {h':Heap} {pv:List (Addr×Obj)} {s:Shared} {tk:Nat}
theorem Inv.above {σ:St} {D:Addr} {o:HO} (I:Inv X pv σ H s) (k:∀ b o,s.heap.get? b=some o->h'.get? b=some o) (hD:∀ b o,s.heap.get? b=some o->b < D)
  (new:zah X.prog X.w (pB H D o) h' D o):H D=none/\Inv X pv σ (pB H D o) { s with heap:=h',toks:=tk }:=by
 have hn:H D=none:=by
  cases e:H D with
  | none=>rfl
  | some u =>
   obtain⟨ob,z⟩:=zm3 (I.hok D u e);exact absurd (hD D ob z) (dI _)
 have hL:X.env.locals < D:=by
  obtain⟨m,⟨o,es,ep,ho,_⟩,_⟩:=I.loc;exact hD _ _ ho
 have I1:Inv X pv σ H { s with heap:=h',toks:=tk }:=I.kept k;refine⟨hn,I1.OP hn (kF (j7 I.ok.above hL)) (bT hL) (fun x c e z=>?_) (fun p hp z=>?_) new⟩
 ·obtain⟨v,oc,q,_⟩:=I.cell x c e;exact absurd (hD c oc q) (by rw [z]; exact dI _)
 ·exact absurd (hD p.1 _ (I.pin p hp).1) (by rw [z]; exact dI _)
end L2
end
section
namespace L2
open PySem PySem.Spec PyProof.Rows Srt
variable {H:Hp} {M:Model} {X:Cx} {h:Heap} {ns:List Int} {pD:List (List Key×V)} {pv:List (Addr×Obj)} {s s':Shared}
def znq (xs:List V):List Int:=xs.filterMap fun x=>match x with
 | .int n=>some n
 | _=>none
theorem zlJ (ns:List Int):znq #[EQ]=ns:=by
 unfold znq;rw [List.filterMap_map];induction ns with
 | nil=>rfl
 | cons n ns ih =>
  rw [fS];simp only [Function.comp];rw [ih]
def zdw (H:Hp) (v:Value):List Int:=match v with
 | .ref a=>(match H a with
  | some #[Sc]=>znq xs
  | _=>[])
 | _=>[]
theorem zfQ {a:Addr} (h:H a=some (.tup #[EQ])):zdw H #[QK]=ns:=by
 unfold zdw;simp only [h];exact zlJ ns
def znr (H:Hp) (k:Nat) (B:Int) (ps:List (Addr×List Int)):Prop:=∀ q∈ps,H q.1=some (.tup (q.2.map V.int))/\q.2.length=k/\∀ n∈q.2,0<=n/\n < B
theorem zgW:∀ {ps:List (Addr×List Int)} {us:List Value},zR (ps.map fun q=>V.ref q.1) us->us=ps.map fun q=>bP q.1
 | [],_,r=>by cases r; rfl
 | q :: ps,_,r=>by
  cases r with
  | cons r1 r2 =>
   cases r1;rw [zgW r2];rfl
theorem zcE:∀ (ps:List (Addr×List Int)),zR (ps.map fun q=>V.ref q.1) (ps.map fun q=>bP q.1)
 | []=>.nil
 | q :: ps=>.cons rfl (zcE ps)
section
variable {X:Cx} {pv:List (Addr×Obj)} {σ:St} {H:Hp} {s:Shared} {k:Nat} {B:Int} {ps:List (Addr×List Int)}
theorem zhs (I:Inv X pv σ H s) {q:Addr×List Int} (h:H q.1=some (.tup (q.2.map V.int))):∃ o pC n,s.heap.get? q.1=some o/\o.cls = .type "tuple"/\o.data = .seq pC n/\IntsAre pC.toList q.2:=by
 obtain⟨pC,r,⟨o,ho,hc,n,hd⟩,hz⟩:=I.tuple (pK.of h);exact⟨o,pC.toArray,n,ho,hc,hd,by simpa using intsAre_of r⟩
theorem zns (I:Inv X pv σ H s) (hT:znr H k B ps) (hk:1<=k) (kk:∀ b o,s.heap.get? b=some o->s'.heap.get? b=some o):∃ fs:List Value,PySem.W.KatTups s'.heap (ps.map fun q=>bP q.1) fs/\fs.length=ps.length/\∀ v∈fs,∃ n t,v=ju n t:=by
 induction ps with
 | nil=>exact⟨[],trivial,rfl,fun v hv=>by cases hv⟩
 | cons q ps ih =>
  obtain⟨fs,h1,h2,h3⟩:=ih fun q' rf=>hT q' (aV _ rf)
  obtain⟨hq,hl,_⟩:=hT q #[M];obtain⟨o,pC,n,ho,hc,hd,hi⟩:=zhs I hq;have pI:=hi.length;obtain⟨m,ms,e⟩:∃ m ms,q.2=m :: ms:=by
   cases e:q.2 with
   | nil=>rw [e] at hl; simp at hl; lia
   | cons m ms=>exact⟨m,ms,rfl⟩
  rw [e] at hi;cases e2:pC.toList with
  | nil=>rw [e2] at hi; cases hi
  | cons f fr =>
   rw [e2] at hi;cases hi with
   | cons _ t hi =>
    refine⟨.int m t :: fs,pq (kk _ _ ho) hc hd ?_ h1,by simp [h2],fun v hv=>?_⟩
    ·rw [<- cL,e2];rfl
    ·rcases (aR.mp hv) with rfl | hv
     ·exact⟨m,t,rfl⟩
     ·exact h3 v hv
theorem zgX:∀ ms:List Int,ziH ms ms=false
 | []=>rfl
 | m :: ms=>by rw [zde,if_pos rfl,zgX ms]
theorem znt (I:Inv X pv σ H s) (hT:znr H k B ps) (hB:1<=B) {A':Around} (kk:∀ b o,s.heap.get? b=some o->s'.heap.get? b=some o) :
  Cmp X.prog X.w A' s' (tuples' true) (fun p=>num B (zdw H p.1)) (pairsOf (ps.map fun q=>bP q.1)):=by
 intro x y hx hy Q E hQ;obtain⟨qx,mx,ex⟩:=aZ.mp (zey hx).1;obtain⟨qy,my,ey⟩:=aZ.mp (zey hy).1;obtain⟨Bt,BP,FJ⟩:=hT qx mx;obtain⟨He,Ex,hy3⟩:=hT qy my;obtain⟨ox,ix,nx,gx,cx,dx,ax⟩:=zhs I Bt;obtain⟨oy,iy,ny,gy,cy,dy,ay⟩:=zhs I He;have ev:decide ((fun p:Keyed=>num B (zdw H p.1)) x < (fun p:Keyed=>num B (zdw H p.1)) y)=ziH qx.2 qy.2:=by
  rw [zkC hB (BP.trans Ex.symm) FJ hy3,<- zfQ Bt,<- zfQ He];simp only [ex,ey]
 rw [ev] at hQ;rw [<- ex,<- ey];refine PySem.W.kat_lt (kk _ _ gx) dx (kk _ _ gy) dy (zkD 0 ax ay (BP.trans Ex.symm) ?_);have hsz:decide (ix.size < iy.size)=false:=by
  have e1:=ax.length;have e2:=ay.length;rw [cC] at e1 e2;exact decide_eq_false #[O]
 rw [hsz];by_cases e:qx.2=qy.2
 ·rw [if_pos e];rw [e,zgX] at hQ;exact hQ
 ·rw [if_neg e];exact hQ
theorem ziK (hT:znr H k B ps) {out:Array Value} (hp:out.toList.Perm (ps.map fun q=>bP q.1)) (hs:out.toList.Pairwise fun x y=>num B (zdw H x)<=num B (zdw H y)) :
  ∃ rS:List (Addr×List Int),rS.Perm ps/\(rS.Pairwise fun a b=>num B a.2<=num B b.2)/\out.toList=rS.map fun q=>bP q.1:=by
 let g:Value->Addr×List Int:=fun v=>match v with
  | .ref a=>(a,zdw H #[QK])
  | _=>(0,[])
 have hg:∀ q∈ps,g (.ref q.1)=q:=fun q hq=>pd rfl (zfQ (hT q hq).1)
 have hv:∀ v∈out.toList,∃ q∈ps,v = .ref q.1:=fun v hv=>by
  obtain⟨q,hq,e⟩:=aZ.mp (hp.mem_iff.mp hv);exact⟨q,hq,e.symm⟩
 refine⟨out.toList.map g,?_,?_,?_⟩
 ·refine (hp.map g).trans ?_;rw [cR];have:ps.map (g ∘ fun q=>bP q.1)=ps:=by
   conv=>rhs; rw [<- n4 ps]
   exact dD fun q hq=>hg q hq
  rw [this]
 ·rw [dE];refine iL (fun {x y} hx hy h=>?_) hs;obtain⟨q,hq,rfl⟩:=hv x hx;obtain⟨q',rf,rfl⟩:=hv y hy;exact h
 ·rw [cR]
  conv=>lhs; rw [<- n4 out.toList]
  refine dD fun v CG=>?_
  obtain⟨q,hq,rfl⟩:=hv v CG;rfl
end
theorem zgY {n:Int} {t:Tok}:ji M h (typeOf (.int n t)) (.type "int"):=PySem.W.Looks.of_pure rfl
theorem zoY {σ:St} {d:Addr} {qQ:List #[At]} (I:Inv X pv σ H s) (hd:H d=some #[TZ]) (hk:pD.map (·.1)=qQ.map (·.map ff)) :
  (d == sysModules)=false/\pD.length<=sizeLine/\∃ (ps:List (Addr×List Int)) (es:Array DictEntry) (ep:Nat),zeV s.heap d es ep/\es.toList.map (·.key)=(ps.map fun q=>bP q.1)/\ps.map (·.2)=qQ/\∀ q∈ps,H q.1=some (.tup (q.2.map V.int)):=by
 obtain⟨hz,hs,xs,hp,o,es,ep,ho,hx,he,yd,qM⟩:=I.hok d _ hd;refine⟨hs,hz,?_⟩;have key:∀ {pD:List (List Key×V)} {xs:List (List Key×Addr×Value)} {qQ:List #[At]},Paired (fun (p:List Key×V) (q:List Key×Addr×Value)=>p.1=q.1/\H q.2.1=some (.tup (p.1.map kV))/\RelV p.2 q.2.2) pD xs->pD.map (·.1)=qQ.map (·.map ff) ->
   ∃ ps:List (Addr×List Int),xs.map (fun x=>bP x.2.1)=(ps.map fun q=>bP q.1)/\ps.map (·.2)=qQ/\∀ q∈ps,H q.1=some (.tup (q.2.map V.int)):=by
  intro pD xs qQ hp;induction hp generalizing qQ with
  | nil =>
   intro e;cases qQ with
   | nil=>exact⟨[],rfl,rfl,fun q hq=>by cases hq⟩
   | cons m qQ=>simp at e
  | @cons x y l1 l2 h1 h2 ih =>
   intro e;cases qQ with
   | nil=>simp at e
   | cons m qQ =>
    rw [bX,bX] at e;obtain⟨e1,e2⟩:=mO e;obtain⟨ps,a1,a2,a3⟩:=ih e2;obtain⟨_,h12,_⟩:=h1;refine⟨(y.2.1,m) :: ps,by rw [bX,bX,a1],by rw [bX,a2],fun q hq=>?_⟩;rcases (aR.mp hq) with rfl | hq
    ·rw [h12,e1,cR];rfl
    ·exact a3 q hq
 obtain⟨ps,a1,a2,a3⟩:=key hp hk;refine⟨ps,es,ep,⟨o,ho,hx,he⟩,?_,a2,a3⟩;rw [yd,cR,<- a1];rfl
theorem zht {X:Cx} (hc:X.calm=true):zbh X (.builtin "sorted") (fun xs H Q=>∃ (d:Addr) (k:Nat) (B:Int) (pD:List (List Key×V)) (qQ:List #[At]),xs = [.ref d]/\H d=some #[TZ]/\pD.map (·.1)=qQ.map (·.map ff)/\(∀ ms∈qQ,ms.length=k/\∀ n∈ms,0<=n/\n < B)/\1<=k/\1<=B /\
  ∀ (l:Addr) (rS:List (Addr×List Int)),H l=none->(rS.map (·.2)).Perm qQ->(rS.Pairwise fun a b=>num B a.2<=num B b.2)->(∀ q∈rS,H q.1=some (.tup (q.2.map V.int)))->Q #[Qy] (pB H l (.lst (rS.map fun q=>V.ref q.1)))):=by
 intro pv s σ H xs us Q I r h;obtain⟨d,k,B,pD,qQ,rfl,hd,Dy,wW,hk,hB,q⟩:=h;obtain⟨u,rfl,rx⟩:=vals1 r;cases rx;obtain⟨hs,hz,ps,es,ep,AQ,hek,pV,hH⟩:=zoY I hd Dy;have hT:znr H k B ps:=fun q' rf=>⟨hH q' rf,wW q'.2 (by rw [<- pV]; exact iA rf)⟩
 have hlp:ps.length=pD.length:=by
  have e1:=congrArg iq pV;have e2:=congrArg iq Dy;rw [aA] at e1;rw [aA,aA] at e2;lia
 have yd:es.size=ps.length:=by
  have:=congrArg iq hek;rw [aA,aA,cC] at this;exact this
 refine zgV (vs:=ps.map fun q=>bP q.1) (κ:=tuples' true) (val:=fun p=>num B (zdw H p.1)) (by rw [aA]; lia) (fun R hR=>?_) #[Wa] #[Wb] fun h' tk out e D kk hD wX hp hs=>?_
 ·refine PySem.W.kdu_collect (zoX (es:=es) (ep:=ep) hs) (by simp [I.ok.hd hc]) AQ #[O] fun h' tk acc kk AD=>?_
  have:acc.toList=ps.map fun q=>bP q.1:=by
   rw [<- hek];refine fM fun j=>?_
   by_cases hj:j < es.size
   ·have hja:j < acc.size:=by rw [AD.1]; exact hj
    obtain⟨e',h1,h2⟩:=AD.2 j acc[j] (getElem?_pos acc j hja);rw [cL,getElem?_pos acc j hja,aF,cL,h1,h2];rfl
   ·rw [eD (by rw [cC,AD.1]; lia),eD (by rw [aA,cC]; lia)]
  rw [this];exact hR h' tk kk
 ·obtain⟨fs,k1,k2,k3⟩:=zns I hT hk kk;exact oA (T:=.type "int") k1 (by rw [aA] at h2; lia) (fun v hv=>by obtain⟨n,t,rfl⟩:=k3 v hv; exact zgY) rfl rf
 ·obtain⟨rS,p1,p2,p3⟩:=ziK hT hp hs;have hl:=p1.length_eq;obtain⟨hn,I2⟩:=I.above (tk:=tk) (D:=D) (o:=.lst (rS.map fun q=>V.ref q.1)) kk hD ⟨by rw [aA]; lia,rS.map fun q=>bP q.1,e,zcE rS,by rw [<- p3]; exact wX⟩;exact⟨.ref D,_,I2,rfl,q D rS hn (by rw [<- pV]; exact p1.map _) p2 fun q' rf=>(hT q' (p1.mem_iff.mp rf)).1⟩
theorem zhu {X:Cx}:zbh X (.builtin "sorted") (fun xs H Q=>∃ (p:Addr) (k:Nat) (B:Int) (ps:List (Addr×List Int)),xs = [.ref p]/\pA X.K H p (ps.map fun q=>V.ref q.1)/\znr H k B ps/\1<=k/\1<=B /\
  ∀ (l:Addr) (rS:List (Addr×List Int)),H l=none->rS.Perm ps->(rS.Pairwise fun a b=>num B a.2<=num B b.2)->Q #[Qy] (pB H l (.lst (rS.map fun q=>V.ref q.1)))):=by
 intro pv s σ H xs us Q I r h;obtain⟨p,k,B,ps,rfl,hq,hT,hk,hB,q⟩:=h;obtain⟨u,rfl,rx⟩:=vals1 r;cases rx;obtain⟨pC,rv,pl,hz⟩:=I.list hq;have ev:=zgW rv;subst ev;rw [aA] at hz;refine zgV (vs:=ps.map fun q=>bP q.1) (κ:=tuples' true) (val:=fun p=>num B (zdw H p.1)) (by rw [aA]; exact hz) (fun R hR=>?_) #[Wa] #[Wb] fun h' tk out e D kk hD wX hp hs=>?_
 ·exact collect_list pl.isList (hR _ _ fun b o e=>(mY _ _ _ _ (bT (aW e))).trans (aH _ e)) (by rw [aA]; exact hz)
 ·obtain⟨fs,k1,k2,k3⟩:=zns I hT hk kk;exact oA (T:=.type "int") k1 (by rw [aA] at h2; lia) (fun v hv=>by obtain⟨n,t,rfl⟩:=k3 v hv; exact zgY) rfl rf
 ·obtain⟨rS,p1,p2,p3⟩:=ziK hT hp hs;have hl:=p1.length_eq;obtain⟨hn,I2⟩:=I.above (tk:=tk) (D:=D) (o:=.lst (rS.map fun q=>V.ref q.1)) kk hD ⟨by rw [aA]; lia,rS.map fun q=>bP q.1,e,zcE rS,by rw [<- p3]; exact wX⟩;exact⟨.ref D,_,I2,rfl,q D rS hn p1 p2⟩
end L2
end
section
namespace L2
open PySem PySem.Spec PyProof.Rows
variable {H:Hp} {J:It} {ts:TT} {ys:List V}
section
variable {X:Cx} {elt t1 i1 t2 i2:Expr} {f1 f2:List Expr} {scope:Scope} {pos:Pos} {N':List Str} {ix:List #[Os]} {Ey BU:List Nat} {g1 g2:TG} {Hi Ez:TT} {te:TE} {Hj EA:TI}
theorem znu (hc:X.calm=true) (FK:GS BU g2) (FN:∀ s₃ H₃ ex pv,PI #[re] t2 i2 EA)
  (BM:∀ s₃ H₃ ex pv,PG #[re] t2 g2) (FO:∀ s₃ H₃ ex pv,zdS #[re] f2 Ez) (he:∀ s₃ H₃ ex pv,PE #[re] elt te)
  (rG:∀ s₃ H₃ ex pv x,foldedSetIterable i2 #[re].env x=pure x) :
  ∀ s₃ H₃ ex pv D,PM #[re] D BU ((fun D env=>zki (.ListComp elt [⟨t1,i1,f1,0⟩,⟨t2,i2,f2,0⟩] scope pos) i2 1 #[QE] env) D #[re].env) #[TJ]:=by
 intro s₃ H₃ ex pv D;have h:=zqD (Y:=zV X N' scope s₃ H₃ ex pv) (D:=D) (js:=BU) (js':=[]) (elt:=elt) (gens:=[⟨t1,i1,f1,0⟩,⟨t2,i2,f2,0⟩]) (scope:=scope) (pos:=pos) (d:=1) (p:=i2.pos) hc rfl FK (fun _ _ z=>by cases z) (FN s₃ H₃ ex pv) (BM s₃ H₃ ex pv) (FO s₃ H₃ ex pv) (zjt rfl (he s₃ H₃ ex pv)) rfl (fun it=>zqE it D _) (rG s₃ H₃ ex pv);rw [dn] at h;exact h
theorem zkF (SC:K7 X N' ix scope) (hc:X.calm=true) (Jz:GS Ey g1) (FK:GS BU g2) (sI:∀ j∈Ey,j∉BU) (wQ:∀ j∈Ey++BU,ix[j]? = some none) (JA:PI X t1 i1 Hj)
  (EB:∀ s₃ H₃ ex pv,PG #[re] t1 g1) (Hk:∀ s₃ H₃ ex pv,zdS #[re] f1 Hi) (FN:∀ s₃ H₃ ex pv,PI #[re] t2 i2 EA)
  (BM:∀ s₃ H₃ ex pv,PG #[re] t2 g2) (FO:∀ s₃ H₃ ex pv,zdS #[re] f2 Ez) (he:∀ s₃ H₃ ex pv,PE #[re] elt te)
  (hs:∀ x,foldedSetIterable i1 X.env x=pure x:=by intro _; rfl) (rG:∀ s₃ H₃ ex pv x,foldedSetIterable i2 #[re].env x=pure x:=by intros; rfl) :
  PE X (.ListComp elt [⟨t1,i1,f1,0⟩,⟨t2,i2,f2,0⟩] scope pos) (zhe ix Hj g1 Hi #[TJ]) :=
 zib SC hc Jz sI wQ JA EB Hk #[WP] #[W4] hs
theorem zfR {i:Nat} {x:Str} {pos' rZ:Pos} (hN:X.N.Nodup) (BG:X.N[i]? = some x) (hx:Loc X.env.scope x) (SC:K7 X N' ix scope) (hc:X.calm=true) (Jz:GS Ey g1) (FK:GS BU g2) (sI:∀ j∈Ey,j∉BU) (wQ:∀ j∈Ey++BU,ix[j]? = some none) (JA:PI X t1 i1 Hj)
  (EB:∀ s₃ H₃ ex pv,PG #[re] t1 g1) (Hk:∀ s₃ H₃ ex pv,zdS #[re] f1 Hi) (FN:∀ s₃ H₃ ex pv,PI #[re] t2 i2 EA)
  (BM:∀ s₃ H₃ ex pv,PG #[re] t2 g2) (FO:∀ s₃ H₃ ex pv,zdS #[re] f2 Ez) (he:∀ s₃ H₃ ex pv,PE #[re] elt te)
  (Fk:swapsWith (.ListComp elt [⟨t1,i1,f1,0⟩,⟨t2,i2,f2,0⟩] scope pos) #[VS] rZ.line X.env=pure true:=by rfl)
  (hs:∀ x,foldedSetIterable i1 X.env x=pure x:=by intro _; rfl) (rG:∀ s₃ H₃ ex pv x,foldedSetIterable i2 #[re].env x=pure x:=by intros; rfl) (hf:X.fn x=true\/X.env.scope.names.lookup x=some .local:=by first | exact .inl rfl | exact .inr rfl | assumption) :
  PS X (.Assign [.Name x pos'] (.ListComp elt [⟨t1,i1,f1,0⟩,⟨t2,i2,f2,0⟩] scope pos) rZ) (zgh (zhe ix Hj g1 Hi #[TJ]) (zaI i)) :=
 zeI hN BG hx SC hc Jz sI wQ JA EB Hk #[WP] #[W4] Fk hs hf
end
theorem zdx {n:Nat} {g:TG} {tm:TM} {σ0:St} {Q:List V->Hp->Prop} (Pv:Nat->List V->Hp->Prop) (h0:Pv 0 ys H) (BB:∀ i ys H,i < n->Pv i ys H->J.go i H) (qw:∀ ys H,Pv n ys H->J.stop n H)
  (hs:∀ i x ys H H',i < n->Pv i ys H->J.yld i H x H'->g x σ0 H' fun σ2 H2=>ts σ2 H2 fun b H3=>if b=true then tm ys σ2 H3 (Pv (i+1)) else Pv (i+1) ys H3)
  (hd:∀ ys H,Pv n ys H->Q ys H):cIn g ts tm σ0 J Q ys H:=by
 refine⟨fun i m ys H=>m=n - i/\i<=n/\Pv i ys H,#[Si],?_⟩;rintro i m ys H ⟨rfl,hi,p⟩;by_cases pT:i < n
 ·exact .inr #[Rq]
 ·have e:i=n:=by lia
  subst e;exact .inl ⟨qw ys H p,hd ys H p⟩
def zr0 (K:aD) (S:Addr) (tb:XK->TS) (th:TS):TS:=fun D σ H=>tb (fun cls _ H'=>∃ C,cls = .ref C/\ft K #[Qq] (.ref S)=some true/\th D σ H') D σ H
section
variable {X:Cx} {x:Str} {S:Addr} {body tT:List Stmt} {b₀:Stmt} {tb:XK->TS} {th:TS} {np vf pos:Pos}
theorem zoZ (hex:X.ex = []) (AI:X.stack=X.env :: X.outer) (BF:X.env.frame=some X.env.locals) (hg:Gl X x) (hm:X.mg x=some (.ref S)) (hS:du X.K S (.type "BaseException")=some true)
  (hb:∀ (xe:Value->Shared->Prop) (pv:List (Addr×Obj)) (σ:St) (E:XK),zdY (CX1 X.prog X.w) (X.NR xe) pv σ E->zm5 (X.NR xe) pv σ body (tb E))
  (hh:∀ e:Addr,PSs (X.L3 e) (b₀ :: tT) th) (hd:(x == ("__debug__" : Str))=false:=by decide) :
  PS X (.Try body [.ExceptHandler (some (.Name x np)) none (b₀ :: tT) vf] [] [] pos) (zr0 X.K S tb th):=by
 intro pv s σ H D I h;refine wpAny_Try_except ?_;refine dN (hb (fun ev s1=>wpAny #[ss] X.A (noteFrame ev X.env) (fun _ s₂=>wpAny #[ss] X.A (setFlight ev none) (fun _ s₃=>wpAny #[ss] X.A (handleBy ev X.env [j5 (some (Expr.Name x np)) none (b₀ :: tT) vf]) #[U4] X.xe s₃) X.xe s₂) X.xe s1) pv σ _ ?_ s H D (I.NR _) h) (fun f s1 q=>?_) fun ev s1 z=>z
 ·
  intro H1 s1 ev s2 I1 hq;have I1:=I1.Ld;obtain⟨e,C,H',B,rfl,os,bare,L,C',hC,uM,q⟩:=hq;cases hC;obtain⟨t,fl⟩:=L.fly;have rk:∀ b∈frs X.stack,H1 b=none:=I1.MO;show wpAny _ _ (noteFrame _ _) _ _ _;have Ja:B.FlyingW #[Tl] e #[Qq] t s2.heap:=by rw [<- AI]; exact fl
  refine k8 (base:=B) (outer:=X.outer) (by rw [<- AI]; exact I1.ok.frames) BF Ja fun h2 held u2=>?_
  refine nG held fun h3 BN u3=>?_
  have Aa:∀ (h4:Heap),B.FlyingW #[Tl] e #[Qq] t h4->s2.heap.UpToSlots h4->∀ (tk:Nat),Inv X pv σ H' ⟨h4,s2.gens,s2.drawn,tk,s2.os⟩:=by
   intro h4 Af u4 tk;refine I1.O6 (s':=⟨h4,s2.gens,s2.drawn,tk,s2.os⟩) (ch:=[]) os ?_ (L.hok.kept Af.1) bare #[TK];have U:=L.un rk;refine⟨fun b o z nn hb _=>Af.1 _ _ (L.keep b o z nn hb),fun b o z nn hb _=>?_,U.free,fun b o z _=>?_,L.ML,L.M5,L.Na⟩
   ·obtain⟨sl,z1⟩:=L.slot b o z nn hb;obtain⟨_,ob,zo,nd⟩:=I1.stack.mem hb;rw [z] at zo;cases zo;obtain⟨xX,z2⟩:=u4 b _ z1 nd;exact⟨xX,z2⟩
   ·by_cases hb:b∈frs X.stack
    ·obtain⟨sl,z1⟩:=L.slot b o z (rk b hb) hb;obtain⟨_,ob,zo,nd⟩:=I1.stack.mem hb;rw [z] at zo;cases zo;obtain⟨xX,z2⟩:=u4 b _ z1 nd;exact⟨_,z2⟩
    ·obtain⟨o',z1⟩:=L.there b o z hb;exact⟨o',Af.1 _ _ z1⟩
  have I3:=Aa h3 BN #[Wh] s2.toks;refine mW (lP ?_) (by intro z; cases z);refine zcs (X:=X.L3 e) (I3.L3 e) hg hm ?_ hd;refine zeM I3.kIn BN.there uM hS ?_;rw [if_pos rfl]
  (refine codeAny_handlers_suite ?_)
  refine kD BN fun h4 Af u4=>?_
  have I4:=Aa h4 Af (#[Wh].trans u4) s2.toks;refine dN (hh e pv _ _ _ D (I4.L3 e) q) (fun f s7 q7=>?_) fun _ _ z=>z.elim
  cases f with
  | next =>
   obtain⟨σ',H7,I7,q8⟩:=q7;exact⟨_,_,I7.NM I.ok,q8⟩
  | brk =>
   obtain⟨σ',H7,I7,q8⟩:=q7;exact⟨_,_,I7.NM I.ok,q8⟩
  | cont =>
   obtain⟨σ',H7,I7,q8⟩:=q7;exact⟨_,_,I7.NM I.ok,q8⟩
  | ret v =>
   obtain⟨u,σ',H7,I7,r,q8⟩:=q7;exact⟨u,_,_,I7.NM I.ok,r,q8⟩
 ·cases f with
  | next=>exact gd (SP.Ld q)
  | ret v=>exact SP.Ld q
  | brk=>exact SP.Ld q
  | cont=>exact SP.Ld q
end
def zqY (sc:Scope) (x:Str):Bool:=match sc.names.lookup x with
 | some .local=>true
 | some .cell=>true
 | some .free=>true
 | _=>false
theorem zo0 {sc:Scope} {x:Str} (h:zqY sc x=true):Vis sc x:=by
 unfold zqY at h;unfold Vis;cases e:sc.names.lookup x with
 | none=>rw [e] at h; cases h
 | some k=>cases k <;> simp_all
def pvB (N:List Str) (sc:Scope) (i:Nat) (x:Str):Bool:=decide (N[i]? = some x) && zqY sc x && !(x == ("__debug__" : Str)) && !(x == ("__classdict__" : Str))
theorem pvx {X:Cx} (i:Nat) {x:Str} {pos:Pos} (h:pvB X.N X.env.scope i x=true):PE X #[ST] (zrw i):=by
 unfold pvB at h;simp only [ic,nS,decide_eq_true_eq] at h;exact zql h.1.1.1 (zo0 h.1.1.2) h.1.2 h.2
end L2
end
section
namespace My
open PySem L2 PyProof.Rows
variable {H H':Hp} {j k:Nat} {pD:List (List Key×V)} {pJ pk:List (Int×Int)} {pl:List Int} {qs:List #[At]} {rs:List Addr} {rw:List #[IO]}
def nxt {α:Type} (xs:List α) (c:Nat×List α):List (Nat×List α):=(bA (xs.length - c.1)).map fun j=>(c.1+j+1,c.2++xs[c.1+j]?.toList)
def chs {α:Type} (xs:List α):Nat->List (Nat×List α)
 | 0=>[(0,[])]
 | m+1=>#[SE].flatMap (nxt xs)
theorem zhv {α:Type} (xs:List α) (c:Nat×List α):(nxt xs c).length=xs.length - c.1:=by unfold nxt; rw [aA,bI]
theorem zo1 {α:Type} {xs:List α} {c:Nat×List α} {x:α} (h:xs[c.1+j]? = some x):(nxt xs c)[j]? = some (c.1+j+1,c.2++[x]):=by
 have hj:j < xs.length - c.1:=by
  have:=(aP.mp h).1;lia
 unfold nxt;rw [aF,cH hj];simp [h]
theorem zkG:∀ r:Nat,((bA r).map fun j=>2 ^ (r - j - 1)).sum+1=2 ^ r
 | 0=>rfl
 | r+1=>by
  rw [gR,bX,ip,cR];have e:((bA r).map ((fun j=>2 ^ (r+1 - j - 1)) ∘ oo))=(bA r).map fun j=>2 ^ (r - j - 1):=dD fun j _=>by
   show 2 ^ (r+1 - (j+1) - 1)=2 ^ (r - j - 1);congr 1;lia
  rw [e];have:=zkG r;rw [nH];show 2 ^ (r+1 - 0 - 1)+_+1=_;rw [show r+1 - 0 - 1=r from by lia];lia
def pot {α:Type} (n:Nat) (cs:List (Nat×List α)):Nat:=(cs.map fun c=>2 ^ (n - c.1)).sum
theorem zo2 {α:Type} (xs:List α) (c:Nat×List α):pot xs.length (nxt xs c)<=2 ^ (xs.length - c.1):=by
 unfold pot nxt;rw [cR];have e:((bA (xs.length - c.1)).map ((fun c:Nat×List α=>2 ^ (xs.length - c.1)) ∘ fun j=>(c.1+j+1,c.2++xs[c.1+j]?.toList)))=(bA (xs.length - c.1)).map fun j=>2 ^ (xs.length - c.1 - j - 1):=dD fun j _=>by
  show 2 ^ (xs.length - (c.1+j+1))=_;congr 1;lia
 rw [e];have:=zkG (xs.length - c.1);lia
theorem ziL {α:Type} (xs:List α):∀ cs:List (Nat×List α),pot xs.length (cs.flatMap (nxt xs))<=pot xs.length cs
 | []=>aG _
 | c :: cs=>by
  have h1:=zo2 xs c;have h2:=ziL xs cs;rw [kB];unfold pot at h1 h2 |-;rw [aN,lb,bX,ip];lia
theorem zkH {α:Type} (n:Nat):∀ cs:List (Nat×List α),cs.length<=pot n cs
 | []=>aG _
 | c :: cs=>by
  have h:=zkH n cs;have:0 < 2 ^ (n - c.1):=Nat.pos_of_ne_zero #[M];unfold pot at h |-;rw [bX,ip,dM];lia
theorem zkI {α:Type} (xs:List α):∀ m,pot xs.length #[SE]<=2 ^ xs.length
 | 0=>by
  unfold chs pot;simp
 | m+1=>bR (ziL xs #[SE]) (zkI xs m)
theorem zo3 {α:Type} (xs:List α) (m:Nat):#[SE].length<=2 ^ xs.length:=bR (zkH _ _) (zkI xs m)
theorem zez {α:Type} {xs:List α} (m:Nat) (h:xs.length<=16):#[SE].length<=65536:=bR (zo3 xs m) (bR (mC #[D] h) #[D])
theorem zlK {α β:Type} {f:α->List β} {l:List α} {i:Nat} {c:α} (hc:l[i]? = some c) (hj:j < (f c).length):((l.take i).flatMap f).length+j < (l.flatMap f).length:=by
 have e:l.flatMap f=(l.take i).flatMap f++(f c++(l.drop (i+1)).flatMap f):=by
  conv=>lhs; rw [zfD hc]
  rw [iB,kB]
 rw [e,aL,aL];lia
theorem zlL {α β:Type} {f:α->List β} {l:List α} {i:Nat} {c:α} (hc:l[i]? = some c):(l.take (i+1)).flatMap f=(l.take i).flatMap f++f c:=by
 rw [take_snoc hc,iB,kB,List.flatMap_nil,dn]
theorem zqZ {α:Type} {xs:List α}:∀ {m:Nat} {c:Nat×List α},c∈chs xs m->c.1<=xs.length
 | 0,c,h=>by
  unfold chs at h;rw [bF] at h;subst h;exact cB _
 | m+1,c,h=>by
  unfold chs at h;obtain⟨c',_,hc⟩:=fW.mp h;unfold nxt at hc;obtain⟨j,hj,rfl⟩:=aZ.mp hc;have:=bU.mp hj;show c'.1+j+1<=xs.length;lia
theorem ziM {α:Type} {xs:List α}:∀ {m:Nat} {c:Nat×List α},c∈chs xs m->c.2.length<=m
 | 0,c,h=>by
  unfold chs at h;rw [bF] at h;subst h;exact aG _
 | m+1,c,h=>by
  unfold chs at h;obtain⟨c',hm,hc⟩:=fW.mp h;have:=ziM hm;unfold nxt at hc;obtain⟨j,hj,rfl⟩:=aZ.mp hc;show (c'.2++xs[c'.1+j]?.toList).length<=m+1;rw [aL];have:xs[c'.1+j]?.toList.length<=1:=by cases xs[c'.1+j]? <;> simp
  lia
theorem Paired.get {α β:Type} {F:α->β->Prop}:∀ {l₁:List α} {l₂:List β},Paired F l₁ l₂->∀ {i:Nat} {a:α},l₁[i]? = some a->∃ b,l₂[i]? = some b/\F a b
 | _,_,.nil,i,a,h=>by simp at h
 | _,_,.cons r t,0,a,h=>by
  (simp only [iZ,kC] at h)
  subst h;exact⟨_,rfl,r⟩
 | _,_,.cons r t,i+1,a,h=>by
  rw [fb] at h;obtain⟨b,hb,f⟩:=Paired.get t h;exact⟨b,by rw [fb]; exact hb,f⟩
def zo4 (H:Hp) (t:Addr) (c:Nat×List V):Prop:=∃ L,H t=some (.tup [.int (c.1:Int),.ref L])/\H L=some (.lst c.2)
theorem zo4.same (s:zr H H') {t:Addr} {c:Nat×List V} (h:zo4 H t c):zo4 H' t c:=let ⟨L,h1,h2⟩:=h; ⟨L,s _ _ h1,s _ _ h2⟩
def zfS (H:Hp):List Addr->List (Nat×List V)->Prop:=Paired (zo4 H)
theorem zfS.same (s:zr H H') {ts:List Addr} {cs:List (Nat×List V)} (h:zfS H ts cs):zfS H' ts cs:=eZ (fun _ _ z=>z.same s) h
def ziN (H:Hp):List Addr->List (List V)->Prop:=Paired fun l pk=>H l=some (.lst pk)
theorem ziN.same (s:zr H H') {ts:List Addr} {cs:List (List V)} (h:ziN H ts cs):ziN H' ts cs:=eZ #[RK] h
def zjH (K:aD):Sp:=fun vs H Q _=>∃ (a:Addr) (m:Nat) (xs:List V),vs = [.ref a,.int (m:Int)]/\pA K H a xs/\xs.length<=16/\m<=1000 /\
 ∀ (l:Addr) (ls:List Addr) (H':Hp),H l=none->zr H H'->H' l=some #[BT]->ziN H' ls (#[SE].map (·.2))->Q #[Qy] H'
def quo (p r:Int):List Int->List Int
 | []=>[]
 | [_]=>[]
 | _ :: d :: cs=>zA p r (d :: cs) :: quo p r (d :: cs)
theorem zkJ (p r:Int):∀ (c:Int) (cs:List Int),(quo p r (c :: cs)).length=cs.length
 | _,[]=>rfl
 | _,d :: cs=>by
  show #[Vu].length+1=cs.length+1;rw [zkJ p r d cs]
theorem znv {p r x:Int}:∀ d:List Int,Cg p (zA p x d - zA p r d) ((x - r)*zA p x (quo p r d))
 | []=>Cg.of_eq (by show (0:Int) - 0=(x - r)*0; lia)
 | [c]=>by
  have h1:Cg p (zA p x [c]) (c+x*0):=zaj p x c [];have h2:Cg p (zA p r [c]) (c+r*0):=zaj p r c [];refine (h1.sub h2).trans #[R7];show c+x*0 - (c+r*0)=(x - r)*0;lia
 | c :: d :: cs=>by
  have h1:=zaj p x c (d :: cs);have h2:=zaj p r c (d :: cs);have ih:=znv (p:=p) (r:=r) (x:=x) (d :: cs);have h3:Cg p (zA p x (quo p r (c :: d :: cs))) (zA p r (d :: cs)+x*zA p x #[Vu]):=zaj p x _ _;have h4:=(Cg.refl p (x - r)).mul h3;have h5:=#[Wp].mul ih;refine (h1.sub h2).trans (Cg.symm (h4.trans ?_));refine (Cg.of_eq (show _=(x - r)*zA p r (d :: cs)+x*((x - r)*zA p x #[Vu]) by grind)).trans ?_;refine ((Cg.refl p ((x - r)*zA p r (d :: cs))).add h5.symm).trans (Cg.of_eq (by grind))
theorem ziO {p r:Int}:∀ d:List Int,Cg p (zA p r d) 0->(∀ c∈quo p r d,Cg p c 0)->∀ c∈d,Cg p c 0
 | [],_,_,c,hc=>by cases hc
 | [a],h,_,c,hc=>by
  obtain rfl:c=a:=by simpa using hc
  have h1:Cg p (zA p r [c]) (c+r*0):=zaj p r c [];exact (#[P5].trans h1.symm).trans h
 | a :: d :: cs,h,hq,c,hc=>by
  have h0:Cg p (zA p r (d :: cs)) 0:=hq _ bG;rcases (aR.mp hc) with rfl | hc
  ·have h1:=zaj p r c (d :: cs);have h2:=(Cg.refl p r).mul h0;have h3:=(h1.symm.trans h).sub h2;exact #[P5].trans (h3.trans #[P5])
  ·exact ziO (d :: cs) h0 (fun c hc=>hq c (aV _ hc)) c hc
theorem zlM {p a y:Int} (hp:p∈zt) (ha0:a % p≠0) (h:Cg p (a*y) 0):Cg p y 0:=by
 have rp:=zC hp;have g0:=bL a (show p≠0 by lia);have g1:=bE a (show 0 < p by lia);have hi:=zeu hp (h:=a % p) #[O] g1;have h1:Cg p (inv p (a % p)*(a % p)*y) (1*y):=hi.mul (Cg.refl p y);have h2:Cg p (inv p (a % p)*(a % p)*y) (inv p (a % p)*(a*y)):=by
  have:=((Cg.refl p (inv p (a % p))).mul (Cg.emod p a)).mul (Cg.refl p y);exact this.trans (Cg.of_eq (by grind))
 have h3:=(Cg.refl p (inv p (a % p))).mul h;exact #[P5].trans (h1.symm.trans (h2.trans (h3.trans #[P5])))
theorem zdL {p:Int} (hp:p∈zt):∀ (n:Nat) (d xs:List Int),d.length=n->n<=xs.length->xs.Nodup->(∀ x∈xs,0<=x/\x < p)->(∀ x∈xs,Cg p (zA p x d) 0)->∀ c∈d,Cg p c 0
 | 0,d,xs,hd,_,_,_,_,c,hc=>by
  rw [gI] at hd;subst hd;cases hc
 | n+1,d,[],hd,hx,_,_,_,c,hc=>by simp at hx
 | n+1,[],r :: xs,hd,hx,_,_,_,c,hc=>by cases hc
 | n+1,a :: cs,r :: xs,hd,hx,qM,wW,hz,c,hc=>by
  have rp:=zC hp;obtain⟨r0,r1⟩:=wW r bG;have hr:=hz r bG;refine ziO (a :: cs) hr (zdL hp n (quo p r (a :: cs)) xs (by rw [zkJ]; simpa using hd) (by simpa using hx) (gf.mp qM).2 (fun x h=>wW x (aV _ h)) fun x h=>?_) c hc;obtain⟨x0,x1⟩:=wW x (aV _ h);have p7:x≠r:=fun e=>(gf.mp qM).1 (e ▸ h)
  have he:=znv (p:=p) (r:=r) (x:=x) (a :: cs);have h0:=(hz x (aV _ h)).sub hr;refine zlM hp (a:=x - r) (fun e=>?_) (he.symm.trans (h0.trans #[P5]));have:Cg p x r:=by
   have h1:Cg p (x - r) 0:=Cg.Oy (by rw [e]; simp);have h2:=h1.add (Cg.refl p r);exact #[P5].trans (h2.trans #[P5])
  exact p7 (this.eq x0 x1 r0 r1)
theorem ziP {p x:Int}:∀ {a b:List Int},a.length=b.length->Cg p (zA p x (cJ (· - ·) a b)) (zA p x a - zA p x b)
 | [],[],_=>Cg.of_eq rfl
 | c :: a,d :: b,h=>by
  have ih:=ziP (p:=p) (x:=x) (a:=a) (b:=b) (by simpa using h);have h1:=zaj p x c a;have h2:=zaj p x d b;have h3:Cg p (zA p x (cJ (· - ·) (c :: a) (d :: b))) (c - d+x*zA p x (cJ (· - ·) a b)):=zaj p x (c - d) _;refine h3.trans (((Cg.refl p (c - d)).add (#[Wp].mul ih)).trans (Cg.symm ((h1.sub h2).trans (Cg.of_eq (by grind)))))
 | [],_ :: _,h=>by simp at h
 | _ :: _,[],h=>by simp at h
theorem ziQ {p:Int}:∀ {a b:List Int},a.length=b.length->(∀ c∈a,0<=c/\c < p)->(∀ c∈b,0<=c/\c < p)->(∀ c∈cJ (· - ·) a b,Cg p c 0)->a=b
 | [],[],_,_,_,_=>rfl
 | c :: a,d :: b,h,ha,hb,hz=>by
  obtain⟨c0,c1⟩:=ha c bG;obtain⟨d0,d1⟩:=hb d bG;have h1:Cg p (c - d) 0:=hz _ bG;have h2:Cg p c d:=#[P5].trans ((h1.add (Cg.refl p d)).trans #[P5]);rw [h2.eq c0 c1 d0 d1,ziQ (by simpa using h) (fun c hc=>ha c (aV _ hc)) (fun c hc=>hb c (aV _ hc)) (fun c hc=>hz c (aV _ hc))]
 | [],_ :: _,h,_,_,_=>by simp at h
 | _ :: _,[],h,_,_,_=>by simp at h
theorem ziR {p:Int} (hp:p∈zt) {a b xs:List Int} (hl:a.length=b.length) (hx:a.length<=xs.length) (qM:xs.Nodup) (wW:∀ x∈xs,0<=x/\x < p) (ha:∀ c∈a,0<=c/\c < p) (hb:∀ c∈b,0<=c/\c < p)
  (he:∀ x∈xs,zA p x a=zA p x b):a=b:=by
 refine ziQ hl ha hb (zdL hp a.length _ xs (by rw [iw]; lia) hx qM wW fun x h=>?_);refine (ziP hl).trans #[R7];rw [he x h];lia
theorem zq0 {p:Int} (hp:p∈zt) (hP:Pts p pk) {q:List Int} (hl:q.length=pk.length) (hq:∀ c∈q,0<=c/\c < p) (hh:∀ a∈pk,zA p a.1 q=a.2):q=thr p pk:=by
 obtain⟨h1,h2,h3⟩:=zmP hp hP;refine ziR hp (xs:=pk.map (·.1)) #[O] (by rw [aA]; lia) hP.nd (fun x hx=>?_) hq h2 fun x hx=>?_
 ·obtain⟨a,ha,rfl⟩:=aZ.mp hx;exact⟨(hP.rg a ha).1,(hP.rg a ha).2.1⟩
 ·obtain⟨a,ha,rfl⟩:=aZ.mp hx;rw [hh a ha,h3 a ha]
theorem Pts.sub {p:Int} (h:Pts p pJ) (hs:pk.Sublist pJ):Pts p pk:=⟨(hs.map _).nodup h.nd,fun q hq=>h.rg q (hs.subset hq)⟩
theorem zkK {α:Type} {xs:List α}:∀ {m:Nat} {c:Nat×List α},c∈chs xs m->c.2.Sublist (xs.take c.1)/\c.2.length=m/\c.1<=xs.length
 | 0,c,h=>by
  unfold chs at h;rw [bF] at h;subst h;exact⟨kQ _,rfl,cB _⟩
 | m+1,c,h=>by
  unfold chs at h;obtain⟨c',hm,hc⟩:=fW.mp h;obtain⟨h1,h2,h3⟩:=zkK hm;unfold nxt at hc;obtain⟨j,hj,rfl⟩:=aZ.mp hc
  (have sJ:=bU.mp hj)
  have pT:c'.1+j < xs.length:=by lia
  have e:xs[c'.1+j]? = some xs[c'.1+j]:=aJ pT;dsimp only;rw [e];refine⟨?_,by rw [aL,h2]; rfl,#[O]⟩;rw [take_snoc e];refine List.Sublist.append (h1.trans ?_) (List.Sublist.refl _);have:xs.take c'.1=(xs.take (c'.1+j)).take c'.1:=by rw [oW]; congr 1; lia
  rw [this];exact d9 _ _
theorem sub_one {α:Type} {l:List α} {x:α} (h:l.Sublist [x]):l = []\/l = [x]:=by
 cases h with
 | cons _ h=>exact .inl (kR.mp h)
 | cons_cons _ h=>exact .inr (by rw [kR.mp h])
theorem zfe {α:Type} {xs:List α}:∀ {m n:Nat} {pk:List α},pk.Sublist (xs.take n)->pk.length=m->∃ s,s<=n/\(s,pk)∈chs xs m
 | 0,n,pk,h,hl=>by
  rw [gI] at hl;subst hl;exact⟨0,cB _,by unfold chs; exact bF.mpr rfl⟩
 | m+1,0,pk,h,hl=>by
  rw [gz] at h;rw [kR.mp h] at hl;simp at hl
 | m+1,n+1,pk,h,hl=>by
  cases e:xs[n]? with
  | none =>
   have:xs.take (n+1)=xs.take n:=by
    have:=dG.mp e;rw [bC #[O],bC this]
   rw [this] at h;obtain⟨s,h1,h2⟩:=zfe (m:=m+1) (n:=n) h hl;exact⟨s,#[O],h2⟩
  | some x =>
   rw [take_snoc e] at h;obtain⟨l1,l2,rfl,h1,h2⟩:=List.sublist_append_iff.mp h;rcases (sub_one h2) with rfl | rfl
   ·rw [dn] at hl |-;obtain⟨s,a1,a2⟩:=zfe (m:=m+1) (n:=n) h1 hl;exact⟨s,#[O],a2⟩
   ·obtain⟨s,a1,a2⟩:=zfe (m:=m) (n:=n) h1 (by simpa using hl);refine⟨n+1,aG _,?_⟩;unfold chs;refine fW.mpr ⟨(s,l1),a2,?_⟩;have pT:=(aP.mp e).1;unfold nxt;refine aZ.mpr ⟨n - s,bU.mpr (by show n - s < xs.length - s; lia),?_⟩;have es:s+(n - s)=n:=by lia
    dsimp only;rw [es,e];rfl
theorem zhw {α:Type} {xs pk:List α} {m:Nat}:pk∈#[SE].map (·.2)↔pk.Sublist xs/\pk.length=m:=by
 constructor
 ·intro h;obtain⟨c,hc,rfl⟩:=aZ.mp h;obtain⟨h1,h2,h3⟩:=zkK hc;exact⟨h1.trans (d9 _ _),h2⟩
 ·rintro⟨h1,h2⟩;obtain⟨s,_,hs⟩:=zfe (xs:=xs) (n:=xs.length) (by rw [d6]; exact h1) h2;exact aZ.mpr ⟨_,hs,rfl⟩
def hit (p:Int) (q:List Int) (a:Int×Int):Bool:=decide (zA p a.1 q=a.2)
def hits (p:Int) (q:List Int) (pJ:List (Int×Int)):Nat:=(pJ.filter #[Uw]).length
def IsP (p:Int) (k:Nat) (q:List Int):Prop:=q.length=k/\∀ c∈q,0<=c/\c < p
theorem zjI {p:Int} (hp:p∈zt) (hP:Pts p pJ) {q:List Int} {t n:Nat} (hq:IsP p k q) (hk:k<=t) (hn:pJ.length<=n+(t - k)) (ht:t<=hits p q pJ) :
  ∃ pk,pk∈(chs #[T4] k).map (·.2)/\q=thr p pk:=by
 have JB:hits p q pJ=(#[T4].filter #[Uw]).length+((pJ.drop n).filter #[Uw]).length:=by
  unfold hits
  conv=>lhs; rw [<- dP n pJ]
  rw [eE,aL]
 have hd:=dQ #[Uw] (pJ.drop n);rw [fm] at hd;have xZ:k<=(#[T4].filter #[Uw]).length:=by lia
 have hs:((#[T4].filter #[Uw]).take k).Sublist #[T4]:=(d9 _ _).trans (mZ);have hl:((#[T4].filter #[Uw]).take k).length=k:=by rw [bD]; lia
 refine⟨_,zhw.mpr ⟨hs,hl⟩,zq0 hp (hP.sub (hs.trans (d9 _ _))) (by rw [hl]; exact hq.1) hq.2 fun a ha=>?_⟩;have:=(cV.mp ((d9 _ _).subset ha)).2;simpa [hit] using this
theorem zkL {p:Int} (hp:p∈zt) (hP:Pts p pJ) (h:pk∈(chs pJ k).map (·.2)):IsP p k (thr p pk):=by
 obtain⟨h1,h2⟩:=zhw.mp h;obtain⟨a,b,_⟩:=zmP hp (hP.sub h1);exact⟨a.trans h2,b⟩
def pV:List Int->List #[IO]->List (Int×Int)
 | x :: pl,some y :: rw=>(x,y) :: pV pl rw
 | _ :: pl,none :: rw=>pV pl rw
 | _,_=>[]
theorem zfT:∀ {pl:List Int} {rw:List #[IO]} {i:Nat} {x:Int} {o:Option Int},pl[i]? = some x->rw[i]? = some o->pV (pl.take (i+1)) (rw.take (i+1))=pV (pl.take i) (rw.take i)++(match o with | some y=>[(x,y)] | none=>[])
 | [],_,i,x,o,h,_=>by simp at h
 | _ :: _,[],i,x,o,_,h=>by simp at h
 | a :: pl,b :: rw,0,x,o,h1,h2=>by
  simp only [iZ,kC] at h1 h2;subst h1 h2;cases b <;> rfl
 | a :: pl,b :: rw,i+1,x,o,h1,h2=>by
  rw [fb] at h1 h2;have ih:=zfT h1 h2;cases b with
  | none=>exact ih
  | some y =>
   show (a,y) :: pV (pl.take (i+1)) (rw.take (i+1))=(a,y) :: pV (pl.take i) (rw.take i)++_;rw [ih];rfl
theorem zcF:∀ (pl:List Int) (rw:List #[IO]),#[Fr].length<=pl.length
 | [],rw=>by unfold pV; simp
 | a :: pl,[]=>by unfold pV; simp
 | a :: pl,none :: rw=>by
  have:=zcF pl rw;show #[Fr].length<=pl.length+1;lia
 | a :: pl,some y :: rw=>by
  have:=zcF pl rw;show #[Fr].length+1<=pl.length+1;lia
theorem zdf:∀ {pl:List Int} {rw:List #[IO]} {a:Int×Int},a∈pV pl rw->a.1∈pl/\some a.2∈rw
 | [],_,a,h=>by unfold pV at h; cases h
 | _ :: _,[],a,h=>by unfold pV at h; cases h
 | x :: pl,none :: rw,a,h=>by
  obtain⟨h1,h2⟩:=zdf (pl:=pl) (rw:=rw) h;exact⟨aV _ h1,aV _ h2⟩
 | x :: pl,some y :: rw,a,h=>by
  rcases (aR.mp h) with rfl | h
  ·exact⟨bG,bG⟩
  ·obtain⟨h1,h2⟩:=zdf (pl:=pl) (rw:=rw) h;exact⟨aV _ h1,aV _ h2⟩
theorem zhx:∀ (pl:List Int) (rw:List #[IO]),(#[Fr].map (·.1)).Sublist pl
 | [],_=>by unfold pV; exact kQ _
 | _ :: _,[]=>by unfold pV; exact kQ _
 | x :: pl,none :: rw=>(zhx pl rw).cons _
 | x :: pl,some y :: rw=>(zhx pl rw).cons_cons _
theorem zff {p:Int} (h1:pl.Nodup) (h2:∀ x∈pl,0<=x/\x < p) (h3:∀ z,some z∈rw->0<=z/\z < p):Pts p #[Fr] :=
 ⟨(zhx pl rw).nodup h1,fun q hq=>⟨(h2 _ (zdf hq).1).1,(h2 _ (zdf hq).1).2,(h3 _ (zdf hq).2).1,(h3 _ (zdf hq).2).2⟩⟩
theorem ziS {p:Int} {pl:List Int} {rw:List #[IO]} {q:List Int} (hl:rw.length=pl.length):∀ n,n<=pl.length->(zeU p pl rw q n).length=hits p q (pV (pl.take n) (rw.take n))
 | 0,_=>by simp [zeU,hits,pV]
 | n+1,hn=>by
  have ih:=ziS (p:=p) (q:=q) hl n #[O];have e1:pl[n]? = some pl[n]:=aJ #[O];have e2:rw[n]? = some rw[n]:=aJ #[O];rw [zgS,aL,ih,zfT e1 e2];unfold hits;rw [eE,aL];congr 1;unfold zgR;rw [e1,e2];cases rw[n] with
  | none=>rfl
  | some y =>
   show (if decide (y=zA p pl[n] q)=true then [(n:Int)] else []).length=([(pl[n],y)].filter #[Uw]).length;by_cases e:y=zA p pl[n] q
   ·rw [fP (by simp [hit,e])];simp [e]
   ·rw [fQ (by simp [hit]; exact fun z=>e z.symm)];simp [e]
theorem zkM {p:Int} {q:List Int} (hl:rw.length=pl.length):(zeU p pl rw q pl.length).length=hits p q #[Fr]:=by
 have:=ziS (p:=p) (q:=q) hl pl.length (aG _);rw [d6,bC #[O]] at this;exact this
def zdr (p:Int) (k:Nat) (qs:List #[At]):Prop:=(∀ q∈qs,IsP p k q)/\qs.Pairwise fun a b=>Srt.num p a < Srt.num p b
theorem zkN {B:Int} (hB:1<=B):∀ {a b:List Int},a.length=b.length->(∀ n∈a,0<=n/\n < B)->(∀ n∈b,0<=n/\n < B)->Srt.num B a=Srt.num B b->a=b
 | [],[],_,_,_,_=>rfl
 | c :: a,d :: b,h,ha,hb,e=>by
  have h':a.length=b.length:=by simpa using h
  have ra:=Srt.MQ hB (ns:=a) fun n hn=>ha n (aV _ hn)
  have rb:=Srt.MQ hB (ns:=b) fun n hn=>hb n (aV _ hn)
  have e':c*B ^ a.length+Srt.num B a=d*B ^ b.length+Srt.num B b:=e;rw [<- h'] at e' rb;generalize B ^ a.length=M at e' ra rb;have hM:0 < M:=by lia
  have vc:c=d:=by
   have e2:(c - d)*M=Srt.num B b - Srt.num B a:=by
    rw [Int.sub_mul];lia
   rcases (nU c d) with pT | heq | hgt
   ·have:(c - d)*M<=(-1)*M:=fH #[O] #[O];lia
   ·exact heq
   ·have:1*M<=(c - d)*M:=fH #[O] #[O];lia
  subst vc;rw [zkN hB h' (fun n hn=>ha n (aV _ hn)) (fun n hn=>hb n (aV _ hn)) #[O]]
 | [],_ :: _,h,_,_,_=>by simp at h
 | _ :: _,[],h,_,_,_=>by simp at h
theorem zkO {p:Int} (hp:1<=p) (h1:∀ q∈qs,IsP p k q) (h2:qs.Nodup) (h3:qs.Pairwise fun a b=>Srt.num p a<=Srt.num p b):zdr p k qs:=by
 refine⟨h1,?_⟩;have h4:=h3.and h2;refine iL (fun {a b} ha hb h=>?_) h4;have p7:Srt.num p a≠Srt.num p b:=fun e=>h.2 (zkN hp ((h1 a ha).1.trans (h1 b hb).1.symm) (h1 a ha).2 (h1 b hb).2 e)
 have:=h.1;lia
theorem zdr.tail {p:Int} {q:List Int} (h:zdr p k (q :: qs)):zdr p k qs:=⟨fun x hx=>h.1 x (aV _ hx),(j8.mp h.2).2⟩
theorem zhy {p:Int} {k:Nat}:∀ {as bs:List #[At]},zdr p k as->zdr p k bs->(∀ q,q∈as↔q∈bs)->as=bs
 | [],[],_,_,_=>rfl
 | [],b :: bs,_,_,h=>by
  have:=(h b).mpr bG;cases this
 | a :: as,[],_,_,h=>by
  have:=(h a).mp bG;cases this
 | a :: as,b :: bs,ha,hb,h=>by
  have pa:=(j8.mp ha.2).1;have pb:=(j8.mp hb.2).1;have e:a=b:=by
   rcases (aR.mp ((h a).mp bG)) with e | ma
   ·exact e
   ·rcases (aR.mp ((h b).mpr bG)) with e | mb
    ·exact e.symm
    ·have:=pb a ma;have:=pa b mb;lia
  subst e;rw [zhy ha.tail hb.tail fun q=>?_];have hq:=h q;rw [aR,aR] at hq;constructor
  ·intro m;rcases (hq.mp (.inr m)) with rfl | z
   ·exact absurd (pa q m) #[O]
   ·exact z
  ·intro m;rcases (hq.mpr (.inr m)) with rfl | z
   ·exact absurd (pb q m) #[O]
   ·exact z
theorem zdr.filter {p:Int} (f:List Int->Bool) (h:zdr p k qs):zdr p k (qs.filter f):=⟨fun q hq=>h.1 q (cV.mp hq).1,h.2.filter f⟩
def sm:Nat->(Nat->Int)->Int
 | 0,_=>0
 | n+1,f=>sm n f+f n
theorem zaD {f g:Nat->Int}:∀ {n:Nat},(∀ i,i < n->f i=g i)->sm n f=sm n g
 | 0,_=>rfl
 | n+1,h=>by
  show sm n f+f n=sm n g+g n;rw [zaD (n:=n) fun i hi=>h i #[O],h n #[O]]
theorem zjJ {f g:Nat->Int}:∀ n:Nat,sm n (fun i=>f i+g i)=sm n f+sm n g
 | 0=>rfl
 | n+1=>by
  show sm n (fun i=>f i+g i)+(f n+g n)=sm n f+f n+(sm n g+g n);rw [zjJ n];lia
theorem zcG {c:Int} {f:Nat->Int}:∀ n:Nat,sm n (fun i=>c*f i)=c*sm n f
 | 0=>by show (0:Int)=c*0; lia
 | n+1=>by
  show sm n (fun i=>c*f i)+c*f n=c*(sm n f+f n);rw [zcG n,n5]
theorem zcH {f:Nat->Int}:∀ {n:Nat},(∀ i,i < n->f i=0)->sm n f=0
 | 0,_=>rfl
 | n+1,h=>by
  show sm n f+f n=0;rw [zcH (n:=n) fun i hi=>h i #[O],h n #[O]];rfl
theorem zd6 {f:Nat->Int}:∀ n:Nat,sm (n+1) f=f 0+sm n (fun i=>f (i+1))
 | 0=>by show (0:Int)+f 0=f 0+0; lia
 | n+1=>by
  show sm (n+1) f+f (n+1)=f 0+(sm n (fun i=>f (i+1))+f (n+1));rw [zd6 n];lia
theorem zhz {f:Nat->Nat->Int} (m:Nat):∀ n:Nat,sm n (fun i=>sm m (fun j=>f i j))=sm m (fun j=>sm n fun i=>f i j)
 | 0=>(zcH fun _ _=>rfl).symm
 | n+1=>by
  show sm n (fun i=>sm m (fun j=>f i j))+sm m (fun j=>f n j)=sm m (fun j=>sm n (fun i=>f i j)+f n j);rw [zhz m n,<- zjJ]
theorem zd7 {f:Nat->Int} {m:Nat}:∀ {n:Nat},m<=n->(∀ i,m<=i->i < n->f i=0)->sm n f=sm m f
 | 0,h,_=>by rw [show m=0 by lia]
 | n+1,h,hz=>by
  by_cases e:m=n+1
  ·rw [e]
  ·show sm n f+f n=_;rw [zd7 (n:=n) #[O] fun i h1 h2=>hz i h1 #[O],hz n #[O] #[O]];lia
def gl (w:List Int) (y:Nat):Int:=w.getD y 0
theorem zbX {w:List Int} {y:Nat} {c:Int} (h:w[y]? = some c):gl w y=c:=by
 unfold gl;rw [bY,h];rfl
theorem zeA {w:List Int} {y:Nat} (h:w.length<=y):gl w y=0:=by
 unfold gl;rw [bY,eD h];rfl
theorem zcc {w:List Int} {y:Nat} (h:y < w.length):w[y]? = some (gl w y):=by
 rw [aJ h,zbX (aJ h)]
theorem zjK {w:List Int} {p:Int} (hp:0 < p) (h:∀ c∈w,0<=c/\c < p) (y:Nat):0<=gl w y/\gl w y < p:=by
 by_cases hy:y < w.length
 ·exact h _ (aU (zcc hy))
 ·rw [zeA #[O]];lia
theorem zq1 {f:Int->Int} {w:List Int} {y:Nat} (h:y < w.length):gl (w.map f) y=f (gl w y):=zbX (by rw [aF,zcc h]; rfl)
theorem zq2 {f:Int->Int->Int} {v w:List Int} {y:Nat} (h:y < v.length) (h':y < w.length):gl (cJ f v w) y=f (gl v y) (gl w y):=zbX (by rw [lO,zcc h,zcc h'])
theorem zkP {p x:Int}:∀ q:List Int,Cg p (zA p x q) (sm q.length fun i=>gl q i*x ^ i)
 | []=>Cg.refl _ _
 | c :: q=>by
  refine (zaj p x c q).trans ?_;rw [dM,zd6];have e:sm q.length (fun i=>gl (c :: q) (i+1)*x ^ (i+1))=x*sm q.length (fun i=>gl q i*x ^ i):=by
   rw [<- zcG];refine zaD fun i _=>?_
   show gl q i*x ^ (i+1)=_;rw [jI];grind
  rw [e];refine Cg.add #[R7] (#[Wp].mul (zkP q));show c=c*x ^ 0;rw [Int.pow_zero,nW]
theorem ziT {p x:Int} {q:List Int} {n:Nat} (h:q.length<=n):Cg p (zA p x q) (sm n fun i=>gl q i*x ^ i):=by
 rw [zd7 h fun i h1 _=>by rw [zeA h1,eJ]];exact zkP q
theorem zo5 {α β:Type} (f:α->β) (xs:List α) (c:Nat×List α):nxt #[WB] (c.1,c.2.map f)=(nxt xs c).map fun d=>(d.1,d.2.map f):=by
 unfold nxt;rw [cR,aA];refine dD fun j _=>?_
 show (c.1+j+1,c.2.map f++#[WB][c.1+j]?.toList)=(c.1+j+1,(c.2++xs[c.1+j]?.toList).map f);rw [aF,aN];cases xs[c.1+j]? <;> rfl
theorem zkQ {α β:Type} (f:α->β) (xs:List α):∀ m,chs #[WB] m=#[SE].map fun d=>(d.1,d.2.map f)
 | 0=>rfl
 | m+1=>by
  show (chs #[WB] m).flatMap (nxt #[WB])=(#[SE].flatMap (nxt xs)).map _;rw [zkQ f xs m,List.map_flatMap,List.flatMap_map];congr 1;funext c;exact zo5 f xs c
theorem zgZ {α β:Type} (f:α->β) (xs:List α) (m:Nat):(chs #[WB] m).map (·.2)=(#[SE].map (·.2)).map (·.map f):=by
 rw [zkQ,cR,cR];rfl
def PtB (H:Hp):List Addr->List (Int×Int)->Prop:=Paired fun b q=>H b=some (.tup [.int q.1,.int q.2])
theorem PtB.same (s:zr H H') {bs:List Addr} (h:PtB H bs pJ):PtB H' bs pJ:=eZ #[RK] h
theorem PtB.zs {H:Hp}:∀ {bs:List Addr} {pJ:List (Int×Int)},PtB H bs pJ->∃ zs:List (Addr×Int×Int),bs=zs.map (·.1)/\pJ=zs.map (·.2)/\∀ z∈zs,H z.1=some (.tup [.int z.2.1,.int z.2.2])
 | _,_,.nil=>⟨[],rfl,rfl,#[M]⟩
 | _,_,.cons (a:=b) (b:=q) r t=>by
  obtain⟨zs,h1,h2,h3⟩:=PtB.zs t;refine⟨(b,q) :: zs,by rw [h1]; rfl,by rw [h2]; rfl,fun z hz=>?_⟩;rcases (aR.mp hz) with rfl | hz
  ·exact r
  ·exact h3 z hz
theorem PtB.take {bs:List Addr} (h:PtB H bs pJ) (n:Nat):PtB H (bs.take n) #[T4]:=by
 induction h generalizing n with
 | nil=>rw [kj,kj]; exact .nil
 | cons r t ih =>
  cases n with
  | zero=>exact .nil
  | succ n=>exact .cons r (ih n)
def zaN (H:Hp):List Addr->List #[At]->Prop:=Paired fun r q=>H r=some (.tup (q.map V.int))
theorem zaN.same (s:zr H H') (h:zaN H rs qs):zaN H' rs qs:=eZ #[RK] h
theorem zaN.of {H:Hp}:∀ {ps:List (Addr×List Int)},(∀ q∈ps,H q.1=some (.tup (q.2.map V.int)))->zaN H (ps.map (·.1)) (ps.map (·.2))
 | [],_=>.nil
 | a :: ps,h=>.cons (h a bG) (zaN.of fun q hq=>h q (aV _ hq))
theorem znw {κ:Type} [DecidableEq κ] (pD:List (κ×V)) (k:κ) (v:V):#[RE].map (·.1)=if k∈pD.map (·.1) then pD.map (·.1) else pD.map (·.1)++[k]:=by
 unfold putK;by_cases h:(pD.any fun kv=>decide (kv.1=k))=true
 ·rw [if_pos h];obtain⟨kv,h1,h2⟩:=oB.mp h;have h2:kv.1=k:=by simpa using h2
  rw [if_pos (by rw [<- h2]; exact iA h1),cR];refine dD fun a _=>?_
  show (if a.1=k then (a.1,v) else a).1=a.1;split <;> rfl
 ·rw [if_neg h];rw [if_neg (fun hm=>h ?_),aN]
  ·rfl
  ·obtain⟨kv,h1,h2⟩:=aZ.mp hm;exact oB.mpr ⟨kv,h1,by simpa using h2⟩
theorem zo6 {a b:List Int} (h:(a.map ff:List Key)=b.map ff):a=b:=by
 induction a generalizing b with
 | nil=>cases b with
  | nil=>rfl
  | cons _ _=>simp at h
 | cons x a ih=>cases b with
  | nil=>simp at h
  | cons y b =>
   rw [bX,bX] at h;obtain⟨h1,h2⟩:=mO h;rw [lj h1,ih h2]
def KeysAre (pD:List (List Key×V)) (qQ:List #[At]):Prop:=pD.map (·.1)=qQ.map (·.map ff)
theorem znx {qQ:List #[At]} (h:KeysAre pD qQ) (hn:qQ.Nodup) (q:List Int) (v:V):∃ ym,KeysAre (putK pD (q.map ff) v) ym/\ym.Nodup/\ym.length<=qQ.length+1/\∀ x,x∈ym↔x∈qQ\/x=q:=by
 unfold KeysAre at h |-;rw [znw,h];have hm:(q.map ff:List Key)∈qQ.map (·.map ff)↔q∈qQ:=by
  constructor
  ·intro hm;obtain⟨x,hx,e⟩:=aZ.mp hm;rw [<- zo6 e];exact hx
  ·intro hm;exact iA hm
 by_cases hq:q∈qQ
 ·refine⟨qQ,by rw [if_pos (hm.mpr hq)],hn,#[O],fun x=>⟨.inl,fun z=>z.elim id fun e=>e ▸ hq⟩⟩
 ·refine⟨qQ++[q],by rw [if_neg fun z=>hq (hm.mp z),aN]; rfl,?_,by rw [aL]; exact aG _,fun x=>by rw [bQ,bF]⟩;rw [gV];exact⟨hn,#[M],fun a ha b hb e=>hq (by rw [<- bF.mp hb,<- e]; exact ha)⟩
def zo7 (K:aD):Sp:=fun vs H Q _=>∃ (c tt r:Addr) (p k:Int) (pl:List Int) (rw:List #[IO]),vs = [.ref c,.ref r]/\zbu H c tt p k pl/\O7 K H r pl.length rw/\pl.length<=1000 /\
 ∀ (l:Addr) (bs:List Addr) (H':Hp),H l=none->zr H H'->H' l=some #[Rb]->PtB H' bs #[Fr]->Q #[Qy] H'
noncomputable def zfU (K:aD):Sp:=fun vs H Q _=>∃ (c tt a:Addr) (p:Int) (k:Nat) (pl:List Int) (bs:List Addr) (pJ:List (Int×Int)),vs = [.ref c,.ref a]/\zbu H c tt p k pl/\pA K H a #[Ch]/\PtB H bs pJ/\pJ.length<=16/\p∈zt/\Pts p pJ/\1<=k/\k<=100 /\
 ∀ (l:Addr) (rs:List Addr) (qs:List #[At]) (H':Hp),H l=none->zr H H'->H' l=some (.lst (rs.map V.ref))->zaN H' rs qs->qs.length<=65536->zdr p k qs->(∀ q,q∈qs↔∃ pk∈(chs pJ k).map (·.2),q=thr p pk)->Q #[Qy] H'
theorem zdy {α β:Type} {F:α->β->Prop}:∀ {a:List α} {b:List β} {c:List α} {d:List β},Paired F a b->Paired F c d->Paired F (a++c) (b++d)
 | _,_,_,_,.nil,h=>h
 | _,_,_,_,.cons r t,h=>.cons r (zdy t h)
end My
end
section
namespace L2
open PySem PySem.Spec PyProof.Rows
variable {H:Hp} {K:aD} {P:Program} {X:Cx} {h:Heap} {pD:List (List Key×V)} {pv:List (Addr×Obj)} {s:Shared} {tg:Expr}
def Itd (d:Addr) (o:Obj) (pD:List (List Key×V)):It :=
 ⟨fun i H=>H d=some #[Re]/\i < pD.length,fun i H x H'=>H'=H/\∃ a k,x = .ref a/\(pD.map (·.1))[i]? = some k/\H a=some #[QV],fun i H=>H d=some #[Re]/\pD.length<=i⟩
theorem zny {w:World} {d:Addr} {o:Obj} {es:Array DictEntry} {ep:Nat} (hd:o.data = .dict es ep) (x:zah P w H h d #[Re]) :
  zeV h d es ep/\es.size=pD.length/\∀ (i:Nat) (e:DictEntry),es[i]? = some e->∃ a k,e.key = .ref a/\(pD.map (·.1))[i]? = some k/\H a=some #[QV]:=by
 obtain⟨ho,_,_,xs,hp,o',y9,GQ,vE,hx,he,yd,qM⟩:=x;have e1:o'=o:=by rw [ho] at vE; exact (bJ vE).symm
 subst e1;rw [he] at hd;cases hd;have hl:es.toList.length=pD.length:=by rw [yd,aA]; exact (bM hp).symm
 refine⟨⟨o',ho,hx,he⟩,by simpa using hl,fun i e h=>?_⟩;have h':es.toList[i]? = some e:=by rw [cL]; exact h
 rw [yd,aF] at h';cases BG:xs[i]? with
 | none=>rw [BG] at h'; cases h'
 | some x =>
  rw [BG] at h';have BI:e=entryOfKey #[QZ] x:=(bJ h').symm;have key:∀ {pD:List (List Key×V)} {xs:List (List Key×Addr×Value)},Paired (fun (p:List Key×V) (q:List Key×Addr×Value)=>p.1=q.1/\H q.2.1=some (.tup (p.1.map kV))/\RelV p.2 q.2.2) pD xs->∀ (i:Nat) x,xs[i]? = some x->∃ p,pD[i]? = some p/\H x.2.1=some (.tup (p.1.map kV)):=by
   intro pD xs hp;induction hp with
   | nil=>intro i x h; simp at h
   | cons h1 _ ih =>
    intro i x h;cases i with
    | zero =>
     (simp only [iZ,kC] at h)
     subst h;exact⟨_,rfl,h1.2.1⟩
    | succ i =>
     rw [fb] at h;obtain⟨p,hp,hh⟩:=ih i x h;exact⟨p,by rw [fb]; exact hp,hh⟩
  obtain⟨p,uw,hh⟩:=key hp i x BG;exact⟨x.2.1,p.1,by rw [BI]; rfl,by rw [aF,uw]; rfl,hh⟩
theorem zo8 {w:World} (d it:Addr) (o:Obj) (pD:List (List Key×V)) (es:Array DictEntry) (ep:Nat) (hd:o.data = .dict es ep):Turn P w K tg (Itd d o pD) [it] it (fun i h=>h.IsKeyIter it d i es.size ep) where
 mem:=by simp
 obj:=fun i h st b hb=>by
  have e:b=it:=by simpa using hb
  subst e;obtain⟨o,e,c,d⟩:=st;exact⟨o,e,fun v z=>by rw [d] at z; cases z⟩
 keep:=fun i h h' st k=>st.at fun o e=>k it #[M] o e
 item:=by
  intro X hP hw hK hc i pv s σ H E I hf st hg;subst hP hw hK;obtain⟨hq,hi⟩:=hg;obtain⟨AQ,hsz,sH⟩:=zny hd (I.hok d _ hq);have qF:i < es.size:=by lia
  obtain⟨a,k,he,hk,ha⟩:=sH i es[i] (getElem?_pos es i qF);obtain⟨f0,f1,f2,f3,f4,f5⟩:=hf it #[M];refine ziJ st AQ (getElem?_pos es i qF) fun h' pE sb=>?_
  have I1:Inv X pv σ H { s with heap:=h' }:=I.turned (t':=s.toks) (fun b o hb e=>(sb.2 b hb).trans e) f0 f1 f3 f4 f5;obtain⟨o,e,c,d⟩:=id pE;exact⟨_,rfl,zfp (s:={ s with heap:=h' }) e c d #[D] ⟨.ref a,H,I1,by rw [he]; rfl,⟨rfl,a,k,rfl,hk,ha⟩,pE,fun b hb=>#[Ux].1⟩⟩
 done:=by
  intro X hP hw hK hc i pv s σ H E I hf st hg;subst hP hw hK;obtain⟨hq,hi⟩:=hg;obtain⟨AQ,hsz,sH⟩:=zny hd (I.hok d _ hq);obtain⟨f0,f1,f2,f3,f4,f5⟩:=hf it #[M];exact zkE #[Qn] st AQ #[O] fun h' eb=>#[wp]
 self:=fun _ _ _ _ _ st h=>mB st h
theorem Inv.PN {σ:St} {d:Addr} {o:Obj} (I:Inv X pv σ H s) (hd:H d=some #[TZ]) (ho:s.heap.get? d=some o):Inv X pv σ (pB H d #[Re]) s:=by
 have ne:∀ b u,H b=some u->(∀ k,u≠.dT k)->b≠d:=fun b u e n z=>by subst z; rw [hd] at e; exact n pD (bJ e).symm
 have nn:∀ b,H b=none->b≠d:=fun b e z=>by subst z; rw [hd] at e; cases e
 have up:∀ b,H b=none->pB H d #[Re] b=none:=fun b e=>by rw [zm (nn b e)]; exact e
 refine⟨I.ok,I.os,I.bare,⟨I.base.keep,I.base.slot,fun b u e n hx=>up b (I.base.free b u e n hx),I.base.there,fun b xs e=>?_,fun b u xs e=>?_,fun b ps e=>?_⟩,I.loc,I.cell,up _ I.free,fun x c e=>up _ (I.LI x c e),fun p uw=>?_,fun b u e=>?_,I.len⟩
 ·have:=I.base.ML b xs e;rw [zm (ne b _ this fun k z=>by cases z)];exact this
 ·have:=I.base.M5 b u xs e;rw [zm (ne b _ this fun k z=>by cases z)];exact this
 ·obtain⟨more,q⟩:=I.base.Na b ps e;exact⟨more,by rw [zm (ne b _ q fun k z=>by cases z)]; exact q⟩
 ·obtain⟨a1,a2,a3⟩:=I.pin p uw;exact⟨a1,up _ a2,a3⟩
 ·have NI:∀ {u:HO} {b:Addr},zah X.prog X.w H s.heap b u->zah X.prog X.w (pB H d #[Re]) s.heap b u:=fun {u b} x=>x.NI (fun c v _ q=>q) (fun c q=>by rw [zm (ne c _ q fun k z=>by cases z)]; exact q) fun c xs q=>by rw [zm (ne c _ q fun k z=>by cases z)]; exact q
  by_cases hb:b=d
  ·subst hb;rw [zc] at e;cases e;exact⟨ho,NI (I.hok b _ hd)⟩
  ·rw [zm hb] at e;exact NI #[Ug]
def iDT (tl:TE):TI:=fun σ H R=>tl σ H fun x H1=>∃ d pD,x = .ref d/\H1 d=some #[TZ]/\∀ o,R (Itd d o pD) (pB H1 d #[Re])
theorem zr1 {X:Cx} {tg l:Expr} {tl:TE} (hl:PE X l tl):PI X tg l (iDT tl):=by
 intro pv s σ H R I h;refine thn #[SW] fun v s1 ⟨x,H1,I1,r1,q1⟩=>?_
 obtain⟨d,pD,e,hd,q⟩:=q1;subst e;cases r1;obtain⟨hz,hs,xs,hp,o,es,ep,ho,hx,he,yd,qM⟩:=I1.hok d _ hd;have I2:=I1.PN hd ho;refine ziI (es:=es) (ep:=ep) hs ⟨o,ho,hx,he⟩ ?_;refine⟨s1.heap.objs.size,[s1.heap.objs.size],_,_,_,rfl,I2.kept (t':=s1.toks) fun b o e=>aH _ e,zo8 d _ o pD es ep he,⟨_,aY _ rfl,rfl,rfl⟩,fun b hb=>?_,q o⟩;have e:b=s1.heap.objs.size:=by simpa using hb
 subst e;exact I2.Ny (aG _) (I2.hok.fresh (aG _))
def zq3 (K:aD):R2:=fun x y H Q=>∃ a b xs ys,x = .ref a/\y = .ref b/\pK K H a xs/\pK K H b ys/\ys≠[]/\xs.length+ys.length<=sizeLine /\
 (xs = []->Q #[Wz] H)/\(xs≠[]->∀ p,H p=none->Q #[Wy] (pB H p (.tup (xs++ys))))
theorem zlN (hK:X.K=K):OpR X #[Tk] (zq3 K):=by
 subst hK;intro pv s σ H x y v u Q I rx ry h;obtain⟨a,b,xs,ys,rfl,rfl,ha,hb,hy,hz,q1,q2⟩:=h;by_cases hx:xs = []
 ·cases rx;cases ry;obtain⟨pC,r1,p1,_⟩:=I.tuple ha;obtain⟨p4,r2,p2,_⟩:=I.tuple hb;obtain⟨⟨cls,dd,data,sl⟩,ho,hc,n,hd⟩:=id p1;obtain⟨⟨Ih,GV,data2,xX⟩,xF,C0,n2,hd2⟩:=id p2;simp only at hc hd C0 hd2;subst hc hd C0 hd2;exact nr ⟨_,ho,rfl⟩ ⟨_,xF,rfl⟩ kH mJ je iX (iI _ _)
   (tuple_addW0 a b pC.toArray p4.toArray n n2 dd GV sl xX (by simp [r1.Nk.mpr hx])) ⟨ho,xF,⟨.ref b,H,I,rfl,q1 hx⟩⟩
 ·exact zoy pv s σ H _ _ v u Q I rx ry ⟨a,b,xs,ys,rfl,rfl,ha,hb,hx,hz,fun z=>absurd z hy,fun _=>q2 hx⟩
end L2
end
section
namespace My
open PySem L2 PyProof.Rows
end My
end
section
namespace L2
open PySem PySem.Spec PyProof.Rows
theorem zo9 {X:Cx} {K:aD} {tg l:Expr} {tl:TE} (hK:X.K=K) (hl:PE X l tl):PI X tg l (zrA K tl):=by subst hK; exact zmp hl
end L2
end
section
namespace HT
open PySem PySem.Spec PyProof.Rows
end HT
namespace L2
open PySem PySem.Spec PyProof.Rows
theorem ziU {X:Cx} {K:aD} {tg l:Expr} {tl:TE} (hK:X.K=K) (hl:PE X l tl):PI X tg l (zpM K tl):=by subst hK; exact z0 hl
def zr2:R2:=fun x y H Q=>∃ a b xs ys,x = .ref a/\y = .ref b/\H a=some #[Sc]/\H b=some (.tup ys)/\xs.length+ys.length<=sizeLine/\ys≠[]/\∀ p H',zr H H'->H' p=some (.tup (xs++ys))->Q #[Wy] H'
theorem zpa {X:Cx}:OpR X #[Tk] zr2:=by
 intro pv s σ H x y v u Q I rx ry h;obtain⟨a,b,xs,ys,rfl,rfl,ha,hb,hz,hy,q⟩:=h;refine zlN rfl pv s σ H _ _ v u Q I rx ry ⟨a,b,xs,ys,rfl,rfl,pK.of ha,pK.of hb,hy,hz,fun e=>?_,fun _ p hp=>q p _ (fun b o z=>by rw [zm (fun e=>by rw [e,hp] at z; cases z)]; exact z) zc⟩;subst e;exact q b H #[Rl] hb
end L2
end
section
namespace My
open PySem L2 PyProof.Rows
variable {H H':Hp} {cl:List (Nat×List Int)} {qs vv:List #[At]} {rs:List Addr}
def md (p:Int) (q:Int×Int):Int×Int:=(q.1,q.2 % p)
theorem ziV (p:Int) (s:List Int×List Int) (q:Int×Int):zcX p s (md p q)=zcX p s q:=by
 unfold zcX md;have:(q.2 % p - zA p q.1 s.1)*inv p (zA p q.1 s.2) % p=(q.2 - zA p q.1 s.1)*inv p (zA p q.1 s.2) % p:=(((Cg.emod p q.2).sub #[QF]).mul #[QF]).mod_eq;dsimp only;rw [this]
theorem zkR (p:Int):∀ (pJ:List (Int×Int)) (s:List Int×List Int),#[U7].foldl (zcX p) s=pJ.foldl (zcX p) s
 | [],s=>rfl
 | q :: pJ,s=>by
  rw [bX,k6,k6,ziV,zkR p pJ]
theorem zq4 (p:Int) (pJ:List (Int×Int)):thr p #[U7]=thr p pJ:=by
 unfold thr zrQ;rw [zkR,aA]
def ziW (K:aD):Sp:=fun vs H Q _=>∃ (p:Int) (a:Addr) (pJ:List (Int×Int)),vs = [.int p,.ref a]/\zpV K H a pJ/\pJ.length<=100/\p∈zt/\Pts p #[U7]/\(∀ q∈pJ,0<=q.2/\q.2 < 10000) /\
 ∀ (l:Addr) (H':Hp),H l=none->zr H H'->H' l=some (.tup ((thr p #[U7]).map V.int))->Q #[Qy] H'
def zjL (K:aD):Sp:=fun vs H Q _=>∃ (p tm:Int) (a b:Addr) (as bs:List Int),vs = [.int p,.ref a,.int tm,.ref b]/\H a=some (.lst (as.map V.int))/\H b=some (.lst (bs.map V.int))/\as.length=bs.length/\as.length<=1000/\0 < p/\0<=tm/\tm < 1000 /\
 ∀ (l:Addr) (H':Hp),H l=none->zr H H'->H' l=some (.lst ((cJ (fun x y=>(x - tm*y) % p) as bs).map V.int))->Q #[Qy] H'
def LsA (H:Hp):List Addr->List #[At]->Prop:=Paired fun b v=>H b=some #[S7]
theorem LsA.same (s:zr H H') {bs:List Addr} (h:LsA H bs vv):LsA H' bs vv:=eZ #[RK] h
def ClA (ca:Addr) (H:Hp):List Addr->List (Nat×List Int)->Prop:=Paired fun b a=>∃ wa,H b=some (.tup [.int (a.1:Int),.ref wa])/\H wa=some (.lst (a.2.map V.int))/\wa≠ca
theorem ClA.same {ca:Addr} (s:zr H H') {bs:List Addr} (h:ClA ca H bs cl):ClA ca H' bs cl:=eZ (fun _ _ ⟨wa,z1,z2,z3⟩=>⟨wa,s _ _ z1,s _ _ z2,z3⟩) h
theorem ClA.put {ca:Addr} {bs:List Addr} {xs:List V} {o:HO} (h:ClA ca H bs cl) (hf:H ca=some #[Q8]):ClA ca (pB H ca o) bs cl:=eZ (fun b _ ⟨wa,z1,z2,z3⟩=>⟨wa,by
 rw [zm (fun e=>by rw [e,hf] at z1; cases z1)]; exact z1,by rw [zm z3]; exact z2,z3⟩) h
theorem zpb {xs:List V} {a b:Nat} (h:b<=xs.length):zcQ xs (some (a:Int)) (some (b:Int))=(xs.drop a).take (b - a):=by
 unfold zcQ;rw [HT.MP,HT.MP];by_cases ha:a<=xs.length
 ·rw [fG ha,fG h]
 ·rw [show min a xs.length=xs.length by lia,fG h,lG (aG _),lG (show xs.length<=a by lia),kj,kj]
theorem zq5 {a b:List Int} (x:Nat):gl (a++b) x=if x < a.length then gl a x else gl b (x - a.length):=by
 unfold gl;rw [bY,bY,bY];by_cases h:x < a.length
 ·rw [if_pos h,dA h]
 ·rw [if_neg h,cS #[O]]
theorem zaN.put {f:Addr} {xs:List V} {o:HO} (h:zaN H rs qs) (hf:H f=some #[Q8]):zaN (pB H f o) rs qs:=eZ (fun a q z=>by
 have:a≠f:=fun e=>by rw [e,hf] at z; cases z
 show pB H f o a=_;rw [zm this];exact z) h
end My
end
section
namespace L2
open PySem PySem.Spec PyProof.Rows
theorem zeB {X:Cx} (hc:X.calm=true):zbh X (.builtin "max") (fun xs H Q=>∃ (p:Addr) (ns:List Int),xs = [.ref p]/\pA X.K H p #[EQ]/\ns≠[]/\∀ M:Int,M∈ns->(∀ a∈ns,a<=M)->Q (.int M) H):=by
 intro pv s σ H xs us Q I r h;obtain⟨p,ns,rfl,hq,hn,q⟩:=h;obtain⟨u,rfl,rx⟩:=vals1 r;cases rx;obtain⟨pC,rv,pl,hz⟩:=I.list hq;have hi:IntsAre pC ns:=by simpa using intsAre_of rv
 (obtain⟨xs,e⟩:=hi.allInts.items)
 have wC:ns=xs.toList.map (·.1):=by rw [<- hi.numsOf,<- mQ,<- e]
 have hsz:0 < xs.size:=by
  have h3:=m5.mpr hn;rw [wC,aA,cC] at h3;exact h3
 have hl:=pl.isList;rw [e] at hl;refine max_intList #[Qn] hl hsz fun v h' tk hv hk=>?_
 (obtain⟨t,rfl⟩:=jZ hv)
 (obtain⟨h1,h2⟩:=argBest_gt (numAt xs) (xs.size - 1))
 refine⟨.int _,H,I.kept hk,⟨_,rfl⟩,q _ ?_ fun a ha=>?_⟩
 ·(rw [wC,kS]; exact getD_mem (by rw [aA,cC]; lia))
 ·rw [wC] at ha
  (obtain⟨j,hj,rfl⟩:=mem_getD ha)
  (rw [aA,cC] at hj)
  (rw [<- kS]; exact h2 j #[O])
end L2
end
section
namespace PySem
open PyProof.Rows
section
variable {prog:Program} {w:World} {A:Around} {E:Value->Shared->Prop} {s:Shared}
theorem zfV {id:String} {b:Builtin} {args:List Value} {kw:List (Str×Value)} {Q:Value->Shared->Prop} (hk:builtinKind id=none) (hp:plainId id=true) (hb:entryFor table id=some b) (ha:argsOk id ⟨args,kw⟩)
  (hc:wpAny #[ul] A.in1 (b ⟨args,kw⟩) (fun fin s'=>match fin with
   | .done fl=>(match (Except.ok fl:Result) with | .ok (.ret v)=>Q v s' | .ok _=>False | .error e=>E e s')
   | .again c'=>c'.quiet=true/\codeAny #[ul] A c' (fun r s'=>match r with | .ok (.ret v)=>Q v s' | .ok _=>False | .error e=>E e s') s') E s):wpAny #[ul] A (call #[R8] args kw) Q E s:=by
 refine (jz (jG hp hb ?_))
 (simp only [checkBuiltinCall,hk])
 cases hs:mU id with
 | none=>exact (aI hc)
 | some sg =>
  have a2:Bind.checkArgs id sg ⟨args,kw⟩=pure ():=by simpa only [argsOk,hs] using ha
  simp only [a2];exact (aI hc)
def Mm (nm lp:String) (op:CmpOp):Prop:=(nm = "max"/\lp = "max.loop"/\op = .Gt)\/(nm = "min"/\lp = "min.loop"/\op = .Lt)
theorem znz {nm lp:String} {op:CmpOp} (hb:Mm nm lp op) (x d:Value):argsOk nm ⟨[x],[(cQ "default",d)]⟩:=by rcases hb with ⟨rfl,_,_⟩ | ⟨rfl,_,_⟩ <;> (unfold argsOk; kernel_rfl)
theorem zpc {nm lp:String} {op:CmpOp} {R:Result->Shared->Prop} {I:Addr} {fp wr:List Addr} {n:Nat} {P:Nat->Value->Prop} {St:Nat->Heap->Prop} {kw:List (Str×Value)} (hb:Mm nm lp op) (W:Walks prog w A.in1 I fp wr n P St) (bt:Nat->Nat->Bool) (vR:CmpOf prog w A.in1 op P bt) (S:Addr) (EC:S∉fp) :
  ∀ (k j:Nat) (s:Shared) (vb:Value) (c:Nat),n - (j+1)=k->j+1<=n->St (j+1) s.heap->P (argBest bt j) vb->s.heap.get? S=some { cls:=.type "list",dict:=none,data:=.seq #[vb,vb] c,slots:=#[] }->(∀ v h' tk,P #[UP] v->(∀ b o,b∉wr->b≠S->s.heap.get? b=some o->h'.get? b=some o)->R (.ok (.ret v)) { s with heap:=h',toks:=tk })->codeAny #[ul] A (.builtin lp ⟨[.ref I,.none,.ref S],kw⟩) R s:=by
 have hw:S∉wr:=fun h=>EC (W.sub _ h)
 have e1:(toString "max"++toString ".loop" : String) = "max.loop":=by decide
 have e2:(toString "min"++toString ".loop" : String) = "min.loop":=by decide
 intro k;induction k with
 | zero =>
  (intro j s vb c hk hj qw FP hS hR)
  obtain rfl:j+1=n:=by lia
  rcases hb with ⟨rfl,rfl,rfl⟩ | ⟨rfl,rfl,rfl⟩
  case' inl=>(have en:=jo; have pl:=jp; have ee:=e1)
  case' inr=>(have en:=jq; have pl:=jr; have ee:=e2)
  all_goals
   (refine gi en ?_
    rw [fI pl _];show wpAny _ A.in1 (seqItems? (bP S) >>= _) _ _ s; refine #[VB];show wpAny _ A.in1 (tryCatch #[U6] _ >>= _) _ _ s; refine (aB (gA (W.done s _ _ qw fun h' tk q=>?_)));show wpAny _ A.in1 (updateSeq S (fun _=>(#[]:Array Value)) >>= _) _ _ _; refine (aB (lg (q S _ hw hS) rfl (aB (gS (aI ?_)))));exact (hR vb _ tk FP fun b o h1 h2 e=>(dZ _ _ (eG h2)).trans (q b o h1 e)))
 | succ k ih =>
  (intro j s vb c hk hj qw FP hS hR)
  (have pT:j+1 < n:=by lia)
  rcases hb with ⟨rfl,rfl,rfl⟩ | ⟨rfl,rfl,rfl⟩
  case' inl=>(have en:=jo; have pl:=jp; have ee:=e1)
  case' inr=>(have en:=jq; have pl:=jr; have ee:=e2)
  all_goals
   (refine gi en ?_
    rw [fI pl _];show wpAny _ A.in1 (seqItems? (bP S) >>= _) _ _ s; refine #[VB];show wpAny _ A.in1 (tryCatch #[U6] _ >>= _) _ _ s; refine (aB (gA (W.item (j+1) s _ _ pT qw fun v h' tk hP ye q=>?_)));have JC:=q S _ hw hS
    first
     | show wpAny _ A.in1 (tryCatch (holding [v,v] (richCompare CmpOp.Gt v vb >>= _)) _ >>= _) _ _ _; refine #[SA]
     | show wpAny _ A.in1 (tryCatch (holding [v,v] (richCompare CmpOp.Lt v vb >>= _)) _ >>= _) _ _ _; refine #[SA]
    refine (aB (cX (fL (aB (gS (aI ?_))))));cases eb:bt (j+1) (argBest bt j)
    ·(simp only [cG,if_false])
     refine (aB (gS ?_));rw [ee];refine (aI ⟨gK pl _,ih (j+1) _ vb c #[O] pT ye (by simp only [argBest,eb,cG,if_false]; exact FP) JC fun v' h2 FQ p2 q2=>?_⟩);exact (hR v' h2 FQ p2 fun b o i1 i2 e=>q2 b o i1 i2 (q b o i1 e))
    ·simp only [if_true];refine (aB (lg JC rfl (aB (gS ?_))));rw [ee];refine (aI ⟨gK pl _,ih (j+1) _ v _ #[O] pT (W.frame _ _ _ ye fun b JD o e=>?_) (by simp only [argBest,eb,if_true]; exact hP) (eR _ JC rfl) fun v' h2 FQ p2 q2=>?_⟩)
     ·exact (dZ _ _ (fun h:S=b=>EC (h ▸ JD))).trans e
     ·exact (hR v' h2 FQ p2 fun b o i1 i2 e=>q2 b o i1 i2 ((dZ _ _ (eG i2)).trans (q b o i1 e))))
theorem znA {nm lp:String} {op:CmpOp} {R:Result->Shared->Prop} {I:Addr} {fp wr:List Addr} {n:Nat} {P:Nat->Value->Prop} {St:Nat->Heap->Prop} {ds:Str} {d:Value} (hb:Mm nm lp op) (W:Walks prog w A.in1 I fp wr n P St) (bt:Nat->Nat->Bool) (vR:CmpOf prog w A.in1 op P bt) (S:Addr) (EC:S∉fp) {c:Nat} (qw:St 0 s.heap) (hS:s.heap.get? S=some { cls:=.type "list",dict:=none,data:=.seq #[] c,slots:=#[] })
  (hR:∀ v h' tk,(0 < n->P #[UP] v)->(n=0->v=d)->(∀ b o,b∉wr->b≠S->s.heap.get? b=some o->h'.get? b=some o)->R (.ok (.ret v)) { s with heap:=h',toks:=tk }) :
  codeAny #[ul] A (.builtin lp ⟨[.ref I,.none,.ref S],[(ds,d)]⟩) R s:=by
 have hw:S∉wr:=fun h=>EC (W.sub _ h)
 have e1:(toString "max"++toString ".loop" : String) = "max.loop":=by decide
 have e2:(toString "min"++toString ".loop" : String) = "min.loop":=by decide
 have L:=@zpc prog w A nm lp op R I fp wr n P St [(ds,d)] hb W bt vR S EC;rcases hb with ⟨rfl,rfl,rfl⟩ | ⟨rfl,rfl,rfl⟩
 case' inl=>(have en:=jo; have pl:=jp; have ee:=e1)
 case' inr=>(have en:=jq; have pl:=jr; have ee:=e2)
 all_goals
  (refine gi en ?_
   rw [fI pl _];show wpAny _ A.in1 (seqItems? (bP S) >>= _) _ _ s; refine #[VB];rcases Nat.eq_zero_or_pos n with hn | hn
   ·show wpAny _ A.in1 (tryCatch #[U6] _ >>= _) _ _ s; refine (aB (gA (W.done s _ _ (hn ▸ qw) fun h' tk q=>?_)));show wpAny _ A.in1 (rule _ >>= fun _=>pure (Fin.done (Flow.ret d))) _ _ _
    (refine aB (dO (aI ?_)))
    exact hR d h' tk #[O] #[VU] fun b o i1 _ e=>q b o i1 e
   ·show wpAny _ A.in1 (tryCatch #[U6] _ >>= _) _ _ s; refine (aB (gA (W.item 0 s _ _ hn qw fun v h' tk hP ye q=>?_)));show wpAny _ A.in1 (updateSeq S (fun _=>(#[v,v]:Array Value)) >>= _) _ _ _; refine (aB (lg (q S _ hw hS) rfl ?_));rw [ee];refine (aI ⟨gK pl _,L _ 0 _ v _ rfl hn (W.frame _ _ _ ye fun b JD o e=>?_) hP (eR _ (q S _ hw hS) rfl) fun v' h2 FQ p2 q2=>?_⟩)
    ·exact (dZ _ _ (fun h:S=b=>EC (h ▸ JD))).trans e
    ·exact (hR v' h2 FQ (fun _=>p2) #[O] fun b o i1 i2 e=>q2 b o i1 i2 ((dZ _ _ (eG i2)).trans (q b o i1 e))))
theorem znB {nm lp:String} {op:CmpOp} {x d:Value} {Q:Value->Shared->Prop} (hb:Mm nm lp op)
  (h:wpAny #[ul] A.in1 (pyIter x) (fun it s₂=>∃ I fp wr n P St bt,it = .ref I/\Walks prog w A.in1 I fp wr n P St/\St 0 s₂.heap/\(∀ b∈fp,b < s₂.heap.objs.size)/\CmpOf prog w A.in1 op P bt /\
   ∀ v h' tk,(0 < n->P #[UP] v)->(n=0->v=d)->(∀ b o,b∉wr->s₂.heap.get? b=some o->h'.get? b=some o)->Q v { s₂ with heap:=h',toks:=tk }) E s) :
  wpAny #[ul] A (call (.builtin nm) [x] [(cQ "default",d)]) Q E s:=by
 have aa:=znz hb x d;have vN:=hb;have e1:(toString "max"++toString ".loop" : String) = "max.loop":=by decide
 have e2:(toString "min"++toString ".loop" : String) = "min.loop":=by decide
 rcases hb with ⟨rfl,rfl,rfl⟩ | ⟨rfl,rfl,rfl⟩
 case' inl=>(have en:=jo; have pl:=jp; have ee:=e1)
 case' inr=>(have en:=jq; have pl:=jr; have ee:=e2)
 case' inl =>
  refine zfV F.kind_max F.plain_max F.entry_max aa ?_;show wpAny _ A.in1 (gb "max" ["key","default"] 0 ⟨[],[(cQ "default",d)]⟩ >>= _) _ _ s;refine aB (dR (show gb "max" ["key","default"] 0 ⟨[],[(cQ "default",d)]⟩=pure [none,some d] by kernel_rfl) ?_)
 case' inr =>
  refine zfV F.kind_min F.plain_min F.entry_min aa ?_;show wpAny _ A.in1 (gb "min" ["key","default"] 0 ⟨[],[(cQ "default",d)]⟩ >>= _) _ _ s;refine aB (dR (show gb "min" ["key","default"] 0 ⟨[],[(cQ "default",d)]⟩=pure [none,some d] by kernel_rfl) ?_)
 all_goals
  (refine (aB (aI (aB (dN h (fun it s₂ h2=>?_) fun _ _ e=>e))))
   obtain⟨I,fp,wr,n,P,St,bt,rfl,W,qw,Dz,hc,q⟩:=h2;refine (aB (ed ?_));rw [ee];refine (aI ⟨gK pl _,znA vN W bt hc s₂.heap.objs.size (fun hm=>dI _ (Dz _ hm)) (W.frame _ _ _ qw fun b _ o e=>aH _ e) (aY _ rfl) fun v h' tk p1 p2 hk=>?_⟩);exact (q v h' tk p1 p2 fun b o i1 e=>hk b o i1 (bT (aW e)) (aH _ e)))
end
end PySem
namespace L2
open PySem PySem.Spec PyProof.Rows
variable {A:Around}
def zsz (K:aD) (gt:Bool) (d:Int) (td:TE):TE:=fun σ H Q=>td σ H fun x H1=>∃ (p:Addr) (ns:List Int),x = .ref p/\pA K H1 p #[EQ] /\
 ∀ M:Int,(ns = []->M=d)->(ns≠[]->M∈ns/\∀ a∈ns,if gt=true then a<=M else M<=a)->Q (.int M) H1
def mmN (gt:Bool):String:=if gt=true then "max" else "min"
theorem zsA (gt:Bool):Mm (mmN gt) (if gt=true then "max.loop" else "min.loop") (if gt=true then .Gt else .Lt):=by cases gt <;> simp [Mm,mmN]
theorem zr3 {prog:Program} {w:World} (gt:Bool) (xs:Array (Int×Tok)):CmpOf prog w A (if gt=true then .Gt else .Lt) (fun i v=>(intItems xs)[i]? = some v) (fun i j=>if gt=true then decide (numAt xs i > numAt xs j) else decide (numAt xs i < numAt xs j)):=by
 cases gt
 ·exact CmpOf.ints_lt (numAt xs) (fun _ _=>jZ)
 ·exact CmpOf.ints_gt (numAt xs) (fun _ _=>jZ)
theorem zq6 (gt:Bool) (f:Nat->Int):∀ n,argBest (fun i j=>if gt=true then decide (f i > f j) else decide (f i < f j)) n<=n/\∀ j,j<=n->if gt=true then f j<=f (argBest (fun i j=>if gt=true then decide (f i > f j) else decide (f i < f j)) n) else f (argBest (fun i j=>if gt=true then decide (f i > f j) else decide (f i < f j)) n)<=f j:=by
 cases gt
 ·exact fun n=>argBest_lt f n
 ·exact fun n=>argBest_gt f n
theorem zjM {X:Cx} (gt:Bool) {x:Str} {elt ev:Expr} {gs:List Comprehension} {sc:Scope} {cp:Pos} {d:Int} {td:TE} {p pos kp:Pos} (hc:X.calm=true) (hx:bootBuiltins x=some (.builtin (mmN gt))) (hg:Gl X x) (hm:X.mg x=none) (hv:PE X ev (tC (.int d))) (ho:PE X (.ListComp elt gs sc cp) td)
  (hn:x≠"__name__":=by decide) (Av:(x == ("__debug__" : Str))=false:=by decide) :
  PE X (.Call #[U5] [.ListComp elt gs sc cp] [⟨some "default",ev,kp⟩] pos) (zsz X.K gt d td):=by
 intro pv s σ H Q I h;refine f9 (za4 I hg hm hx ?_ hn Av);refine callWith_kw ?_;show wpAny _ _ (spliced ((false,eval (.ListComp elt gs sc cp) X.env) :: [])) _ _ s;refine fZ (thn #[SV] fun v s1 ⟨y,H1,I1,r1,q⟩=>?_);refine gU (kws_cons (thn (hv pv s1 σ H1 (fun z H2=>z = .int d/\H2=H1) I1 ⟨rfl,rfl⟩) fun u s2 ⟨z,H2,I2,r2,e1,e2⟩=>kws_nil ?_));subst e1 e2;obtain⟨a,ns,rfl,hq,q⟩:=q;cases r1;obtain⟨pC,rv,pl,hz⟩:=I2.list hq;have hi:IntsAre pC ns:=by simpa using intsAre_of rv
 obtain⟨xs,ex⟩:=hi.allInts.items;have wC:ns=xs.toList.map (·.1):=by rw [<- hi.numsOf,<- mQ,<- ex]
 have hl:=pl.isList;rw [ex] at hl;show wpAny _ _ (call (.builtin (mmN gt)) [.ref a] [(cQ "default",u)]) _ _ _;refine znB (zsA gt) (iter_intList hl fun s₂ e st Dz hlI=>?_);subst e;refine⟨_,_,_,_,_,_,_,rfl,oM (A:=X.A.in1) (I2.ok.hd hc) _ a hlI (intItems xs),st,Dz,zr3 gt xs,fun v h' tk p1 p2 hk=>?_⟩
 (have hsz:(intItems xs).size=xs.size:=by simp [intItems])
 have pI:ns.length=xs.size:=by rw [wC,aA,cC]
 have I3:Inv X pv σ H2 { s2 with heap:=h',toks:=tk }:=I2.kept (old_kept hk);obtain⟨t2,rfl⟩:=r2;by_cases h0:xs.size=0
 ·obtain rfl:=p2 (by rw [hsz]; exact h0);refine⟨.int d,H2,I3,⟨_,rfl⟩,q d #[VU] fun p7=>absurd (jP #[O]) p7⟩
 ·have CG:=p1 #[O];rw [hsz] at CG;obtain⟨t,rfl⟩:=jZ CG;obtain⟨h1,h2⟩:=zq6 gt (numAt xs) (xs.size - 1);refine⟨.int _,H2,I3,⟨_,rfl⟩,q _ (fun h=>by rw [h] at pI; simp at pI; lia) fun _=>⟨?_,fun b hb=>?_⟩⟩
  ·(rw [wC,kS]; exact getD_mem (by rw [aA,cC]; lia))
  ·rw [wC] at hb;obtain⟨j,hj,rfl⟩:=mem_getD hb
   (rw [aA,cC] at hj)
   (rw [<- kS]; exact h2 j #[O])
theorem zlO {X:Cx} (hc:X.calm=true):zbh X (.builtin "min") (fun xs H Q=>∃ (p:Addr) (ns:List Int),xs = [.ref p]/\pA X.K H p #[EQ]/\ns≠[]/\∀ M:Int,M∈ns->(∀ a∈ns,M<=a)->Q (.int M) H):=by
 intro pv s σ H xs us Q I r h;obtain⟨p,ns,rfl,hq,hn,q⟩:=h;obtain⟨u,rfl,rx⟩:=vals1 r;cases rx;obtain⟨pC,rv,pl,hz⟩:=I.list hq;have hi:IntsAre pC ns:=by simpa using intsAre_of rv
 (obtain⟨xs,e⟩:=hi.allInts.items)
 have wC:ns=xs.toList.map (·.1):=by rw [<- hi.numsOf,<- mQ,<- e]
 have hsz:0 < xs.size:=by
  have h3:=m5.mpr hn;rw [wC,aA,cC] at h3;exact h3
 have hl:=pl.isList;rw [e] at hl;refine min_intList #[Qn] hl hsz fun v h' tk hv hk=>?_
 (obtain⟨t,rfl⟩:=jZ hv)
 (obtain⟨h1,h2⟩:=argBest_lt (numAt xs) (xs.size - 1))
 refine⟨.int _,H,I.kept hk,⟨_,rfl⟩,q _ ?_ fun a ha=>?_⟩
 ·(rw [wC,kS]; exact getD_mem (by rw [aA,cC]; lia))
 ·rw [wC] at ha
  (obtain⟨j,hj,rfl⟩:=mem_getD ha)
  (rw [aA,cC] at hj)
  (rw [<- kS]; exact h2 j #[O])
end L2
end
section
namespace My
open PySem L2 PyProof.Rows
end My
end
section
namespace L2
open PySem PySem.Spec PyProof.Rows
variable {K:aD} {X:Cx}
theorem zc1 (hK:X.K=K):zbh X (.type "tuple") (fun xs H Q=>∃ p ys,xs = [.ref p]/\((pA K H p ys/\∀ l,H l=none->Q #[Qy] (pB H l (.tup ys)))\/(pK K H p ys/\Q #[Wy] H))):=by subst hK; exact zaT
end L2
end
section
namespace PySem
theorem zeW:typeLookup (.type "zip") "__getattr__" = pure none:=by rw [gh,eS]; kernel_rfl
theorem zhA:typeLookup (.type "zip") "keys" = pure none:=by rw [gh,eS]; kernel_rfl
theorem znC:entryFor table "zip.__getattribute__" = some Builtin.«object.__getattribute__»:=entryFor_alias (id':="object.__getattribute__") (by kernel_rfl) #[N] #[N] (by kernel_rfl)
theorem znD (a:Addr) (xs:Array Value) (u:Tok) :
  Meets (Builtin.«object.__getattribute__» ⟨[.ref a,.str "keys" u],[]⟩) (fun A R s=>s.heap.get? a=some { cls:=.type "zip",dict:=none,data:=.fields xs,slots:=#[] }/\raisesAttr #[QK] "keys" A R s) :=
 Meets.of_wp fun prog w A R s wH=>by
  (obtain⟨hp,g,d,tk,os⟩:=s)
  obtain⟨hx,hs⟩:=wH;have hT:(⟨hp,g,d,tk,os⟩:Shared).TypeIs #[QK] "zip":=⟨_,hx,rfl⟩;have hmiss:=zhA
  (unfold Builtin.«object.__getattribute__»); repeat (any_goals (first | assumption | wp_step))
  exact wpAny_raiseAttrError hs.1 hs.2 (attrMsg_fits #[N] (by rw [bO]; decide))
theorem zpd {prog:Program} {w:World} {A:Around} {E:Value->Shared->Prop} {s:Shared} {a:Addr} {xs:Array Value} {Q:Option Value->Shared->Prop}
  (hx:s.heap.get? a=some { cls:=.type "zip",dict:=none,data:=.fields xs,slots:=#[] }) (hA:A.handled=none)
  (h:∀ h' tk,(∀ b o,s.heap.get? b=some o->h'.get? b=some o)->Q none { s with heap:=h',toks:=tk }) :
  wpAny #[ul] A (getAttr? #[QK] "keys") Q E s:=by
 (obtain⟨hp,g,d,tk,os⟩:=s)
 have hT:∀ tk',(⟨hp,g,d,tk',os⟩:Shared).TypeIs #[QK] "zip":=fun _=>⟨_,hx,rfl⟩
 have f1:=sub_AttributeError;have f3:=F.slot_zip_getattribute.lookup;have f4:=F.slot_zip_getattribute.bind #[QK];have f5:=zeW
 (unfold getAttr? getAttrBy? getAttrBy)
 repeat (any_goals (first | assumption | exact hT _ | ((with_reducible show wpAny _ _ (call (ki "zip.__getattribute__") _ _) _ _ _); refine gu F.slot_zip_getattribute (hT _) znC (F.args_zip_getattribute_2 _ _) (znD a xs _) ⟨hx,hA,fun h' tk' e xH=>?_⟩) | wp_step))
 (obtain⟨t',u',he⟩:=xH.there)
 (show wpAny _ _ (getattributeRaised _ _ _ _ _ _ _) _ _ _)
 unfold getattributeRaised; repeat (any_goals (first | assumption | wp_step))
 exact h _ _ xH.keeps
end PySem
end
section
namespace PySem
theorem ziX:entryFor table "dict.update.loop" = some Builtin.«dict.update.loop»:=entryFor_of_tree (by kernel_rfl)
theorem zd8:plainId "dict.update.loop" = true:=by decide +kernel
end PySem
namespace L2
open PySem PySem.Spec PyProof.Rows
variable {A:Around} {H:Hp} {R:Result->Shared->Prop} {X:Cx} {h':Heap} {pD:List (List Key×V)} {pos:Pos} {pv:List (Addr×Obj)} {s:Shared} {tk:Nat} {v y:V} {ys:List V}
abbrev zsB (n a b:Nat) (i:Nat) (h:Heap):Prop:=(∃ f0 f1,IsZ h (n+4) (n+2) (n+3) f0 f1/\ZF f0 f1)/\IsPair h (n+2) (.ref n) #[UI]/\(∃ u v,IsPair h (n+3) u v)/\h.IsListIter n a i/\h.IsListIter (n+1) b i
theorem zlP {κ:Type} [DecidableEq κ] {pD:List (κ×V)} {k:κ} (h:k∉pD.map (·.1)):zdI pD k=none:=by
 unfold zdI;rw [Option.map_eq_none_iff,List.find?_eq_none];intro kv hkv e;have e:kv.1=k:=of_decide_eq_true e;exact h (aZ.mpr ⟨kv,hkv,e⟩)
theorem znE {κ:Type} {ks:List κ} {i:Nat} {k:κ} (hk:ks[i]? = some k) (hy:ys[i]? = some y):#[S3].take (i+1)=#[S3].take i++[(k,y)]:=by
 have:#[S3][i]? = some (k,y):=by rw [iF]; exact⟨hk,hy⟩
 rw [kz,this,mL]
theorem zpe {κ:Type} {ks:List κ} {i:Nat} {k:κ} (qM:ks.Nodup) (hk:ks[i]? = some k):k∉(#[S3].take i).map (·.1):=by
 intro h;obtain⟨q,hq,e⟩:=aZ.mp h;obtain⟨j,hj⟩:=fu.mp hq;have FR:j < i:=by
  have:=(aP.mp hj).1;rw [bD] at this;lia
 rw [dL FR] at hj;have hkj:ks[j]? = some k:=by
  have sJ:#[S3][j]? = some (q.1,q.2):=hj;rw [iF] at sJ;rw [sJ.1,e]
 have h1:=(aP.mp hkj).1;have h2:=(aP.mp hk).1;exact eQ.mp qM j i h1 h2 FR (by rw [(aP.mp hkj).2,(aP.mp hk).2])
theorem zpf {α β:Type} {R:α->β->Prop} {as:List α} {bs:List β} (h:Paired R as bs):∀ {i:Nat} {x:α},as[i]? = some x->∃ y,bs[i]? = some y/\R x y:=by
 induction h with
 | nil=>intro i x e; simp at e
 | cons h1 _ ih =>
  intro i x e;cases i with
  | zero=>cases e; exact⟨_,rfl,h1⟩
  | succ i=>exact ih (by simpa using e)
theorem zch {n c:Nat} (h:c∈[n+4,n+3,n,n+1]):c∈zcb n:=by
 simp only [zcb,aR,bS,or_false] at h |-;rcases h with z | z | z | z <;> subst z <;> simp
theorem zr4 {σ:St} {n:Nat} (I:Inv X pv σ H s) (hf:∀ c∈zcb n,zb8 X pv H c) (k1:∀ c o,c∉[n+4,n+3,n,n+1]->s.heap.get? c=some o->h'.get? c=some o):Inv X pv σ H { s with heap:=h',toks:=tk }:=by
 have vK:∀ d u',H d=some u'->d∉[n+4,n+3,n,n+1]:=fun d u' e' hd=>by rw [(hf d (zch hd)).1] at e'; cases e'
 refine I.step (g':=s.gens) (d':=s.drawn) (t':=tk) (ch:=[n+4,n+3,n,n+1]) #[VY] #[RT] #[QS] #[Rz]
  (fun c o qz e=>⟨o,k1 c o qz e⟩) #[Rl] #[Sh] (fun c ps e=>⟨#[],by rw [e]; simp⟩) #[Td] #[U9] I.bare
 ·obtain⟨_,a1,_,a3,a4,a5⟩:=hf c (zch pL);exact⟨a3,a1,a4,a5⟩
 ·obtain⟨o,y9,ep,ho,r⟩:=hm;exact⟨o,y9,ep,k1 _ o (fun z=>(hf _ (zch z)).2.1 rfl) ho,r⟩
 ·refine #[Wn].NI #[SJ] #[Sv] fun _ _ q=>q
  rcases hd with z | z
  ·rw [z]; exact vK c u e
  ·exact vK d _ z
theorem zlQ {σ:St} {a b:Addr} {k:List Key} {r:Value} {E:Value->Shared->Prop} {Q:Unit->Shared->Prop} (hu:A.units+1 < cLine) (I:Inv X pv σ H s) (e:H a=some #[TZ]) (eb:H b=some #[QV]) (l:pD.length < sizeLine) (rv:RelV v r)
  (h:∀ s',(∀ c o,c≠a->s.heap.get? c=some o->s'.heap.get? c=some o)->Inv X pv σ (pB H a (.dT #[RE])) s'->Q () s'):wpAny #[ss] A.in1 (dictSet a #[Wz] r) Q E s:=by
 obtain⟨z,hd,xs,rel,dd⟩:=zpX I.hok e;have hz:xs.length<=sizeLine:=by rw [<- bM rel]; exact z
 have hl:#[RE].length<=sizeLine:=by have:=zcZ pD k v; lia
 refine wpAny_dictSet_heap (hsz:=hz) (j6 hu) (zhn I.hok eb) dd fun h' Dk hs=>h _ (fun c o hc eo=>hs.extBut c o hc eo) ?_
 obtain⟨q,es,ep,hq,h2,h3,h4,_,h5⟩:=Dk;refine zho I (by rw [e]; exact gr) hs ⟨q,hq⟩ ⟨hl,hd,_,(rel.put k eb rv).keeps fun c ys ec=>?_,q,es,ep,hq,h2,h3,h4,h5⟩;rw [zm (zpL ec e (fun z=>nomatch z))];exact ec
def KyA (H:Hp):List V->List (List Key)->Prop:=Paired fun x k=>∃ c,x = .ref c/\H c=some #[QV]
theorem zpg {σ:St} {H0:Hp} {a b n D:Nat} {xs:List V} {ks:List (List Key)} (hh:A.handled=none) (hu:A.units+1 < cLine) (ha:a < n) (hb:b < n)
  (hD:H0 D=none) (hfD:D∉zcb n) (sL:pA X.K H0 a xs) (qZ:pA X.K H0 b ys) (hk:KyA H0 xs ks) (qM:ks.Nodup) (hf:∀ c∈zcb n,zb8 X pv H0 c)
  (hR:∀ s' H',Inv X pv σ H' s'->zr H0 H'->H' D=some (.dT #[S3])->R (.ok (.ret .none)) s') :
  ∀ (m i:Nat) (t:Tok) (s:Shared) (H:Hp),i+m=min xs.length ys.length->Inv X pv σ H s->zr H0 H->(∀ c∈zcb n,H c=none)->zsB n a b i s.heap->H D=some (.dT (#[S3].take i)) ->
   codeAny #[ss] A (.builtin "dict.update.loop" ⟨[.ref D,.ref (n+4),.int i t,.none],[]⟩) R s:=by
 intro m;induction m with
 | zero =>
  intro i t s H hi I hs hn st JE;obtain⟨⟨f0,f1,h1,yh⟩,h2,⟨u0,v0,h3⟩,h4,h5⟩:=st;obtain⟨qb,uP,p1,uQ⟩:=I.list (hs.seq sL);obtain⟨p4,vd,p2,vG⟩:=I.list (hs.seq qZ);have wF:=uP.length;have rX:=vd.length;refine gi ziX ?_;rw [fI zd8 _];show wpAny _ A.in1 (pyNext #[UH] >>= _) _ _ s;have FT:A.in1.in1.handled=none:=by simp [hh]
  refine aB (zmY #[WZ] #[W1] #[UY] h1 yh h2 h3 ⟨h4,p1.isList⟩ ⟨h5,p2.isList⟩ (by rw [aO,aO]; lia) fun h' tk kk=>?_);show wpAny _ A.in1 (Builtin.Dict.addKeywords D [] >>= _) _ _ _
  (refine aB #[VV])
  have I1:Inv X pv σ H { s with heap:=h',toks:=tk }:=zr4 I (fun c hc=>⟨hn c hc,(hf c hc).2⟩) fun c o pL e=>by
   simp only [aR,bS,or_false,not_or] at pL;exact kk c o pL.1 pL.2.1 pL.2.2.1 pL.2.2.2 e
  refine hR _ _ I1 hs ?_;rw [JE,bC];rw [oR,<- bM hk];lia
 | succ m ih =>
  intro i t s H hi I hs hn st JE;obtain⟨⟨f0,f1,h1,yh⟩,h2,⟨u0,v0,h3⟩,h4,h5⟩:=st;obtain⟨qb,uP,p1,uQ⟩:=I.list (hs.seq sL);obtain⟨p4,vd,p2,vG⟩:=I.list (hs.seq qZ);have wF:=uP.length;have rX:=vd.length;have hx:xs[i]? = some (xs[i]'#[O]):=aJ _;have hy:ys[i]? = some (ys[i]'#[O]):=aJ _;generalize xs[i]'#[O]=x at hx;generalize ys[i]'#[O]=y at hy;obtain⟨u,huu,ru⟩:=uP.get hx;obtain⟨v,hv,rv⟩:=vd.get hy;refine gi ziX ?_;rw [fI zd8 _];show wpAny _ A.in1 (pyNext #[UH] >>= _) _ _ s;have FT:A.in1.in1.handled=none:=by simp [hh]
  refine aB (zku #[WZ] #[W1] #[UY] h1 yh h2 h3 ⟨h4,p1.isList⟩ ⟨h5,p2.isList⟩ (by rw [aO]; lia) (by rw [aO]; lia)
   fun x' y' h' tk g0 g1 a' b' px py ez Fq e2 e3 t4 t5 pp hsz kk=>?_)
  have eu:x'=u:=by
   have e1:qb[i]? = some x':=by simpa using px
   rw [huu] at e1; exact (bJ e1).symm
  have ev:y'=v:=by
   have e1:p4[i]? = some y':=by simpa using py
   rw [hv] at e1; exact (bJ e1).symm
  subst eu ev;obtain⟨k,hki,kc,rfl,Ir⟩:=zpf hk hx;cases ru;have hff:∀ c∈zcb n,zb8 X pv H c:=fun c hc=>⟨hn c hc,(hf c hc).2⟩
  have yd:n+4 < s.heap.objs.size:=aW h1;have k1:∀ c o,c∉[n+4,n+3,n,n+1]->s.heap.get? c=some o->h'.get? c=some o:=fun c o pL eo=>by
   simp only [aR,bS,or_false,not_or] at pL;exact kk c o pL.1 pL.2.1 pL.2.2.1 pL.2.2.2 eo
  have I1:Inv X pv σ H { s with heap:=h',toks:=tk }:=zr4 I hff k1;show wpAny _ A.in1 (holding [.ref s.heap.objs.size] _ >>= _) _ _ _
  (refine aB (cX ?_))
  (refine aB (gA ?_))
  unfold Builtin.Dict.pairItems;have hT:({ s with heap:=h',toks:=tk }:Shared).TypeIs #[ww] "tuple":=⟨_,pp,rfl⟩
  (refine aB (nI hT ?_))
  rw [if_pos #[D]];refine aB (et pp rfl (aI ?_));show wpAny _ A.in1 (holding [.ref kc,y'] (dictSet D (.ref kc) y')) _ _ _;have pT:(#[S3].take i).length < sizeLine:=by
   rw [bD];lia
  refine cX (zlQ (A:=A) hu I1 JE (hs _ _ Ir) pT rv fun s2 k2 I2=>?_);rw [zm8 _ (zlP (zpe qM hki)),<- znE hki hy] at I2;have nD:∀ c,c∈zcb n->c≠D:=fun c hc z=>hfD (by rw [<- z]; exact hc)
  refine aI ⟨gK zd8 _,?_⟩;show codeAny _ A (.builtin "dict.update.loop" ⟨[.ref D,.ref (n+4),.int ((i+1:Nat):Int) _,.none],[]⟩) R s2;refine ih (i+1) _ s2 _ #[O] I2 (fun c o e=>?_) (fun c hc=>?_) ?_ zc
  ·rw [zm (zu e hD)];exact hs c o e
  ·rw [zm (nD c hc)];exact hn c hc
  ·exact⟨⟨g0,g1,k2 _ _ (nD _ #[M]) ez,Fq⟩,k2 _ _ (nD _ #[M]) e2,⟨_,_,k2 _ _ (nD _ #[M]) e3⟩,t4.1.at fun o e=>k2 _ o (nD _ #[M]) e,t5.1.at fun o e=>k2 _ o (nD _ #[M]) e⟩
def tDZ (K:aD) (ta:TA):TE:=fun σ H Q=>ta σ H fun vs H1=>∃ a b xs ys ks,vs = [.ref a,.ref b]/\pA K H1 a xs/\pA K H1 b ys/\KyA H1 xs ks/\ks.Nodup/\∀ D H',H1 D=none->zr H1 H'->H' D=some (.dT #[S3])->Q #[QE] H'
theorem zjN {p p2 qB:Pos} {a b:Expr} {ta:TA} (hu:X.A.units+2 < cLine) (hc:X.calm=true) (hg:Gl X "dict") (hm:X.mg "dict" = none) (BM:Gl X "zip") (wJ:X.mg "zip" = none) (ha:PA X [a,b] ta) (hs:starEach [a,b] X.env = [#[GM],#[IN]]:=by rfl) (rG:starEach [b] X.env = [#[IN]]:=by rfl)
  (wI:starEach [.Call (.Name "zip" p2) [a,b] [] qB] X.env = [(false,eval (.Call (.Name "zip" p2) [a,b] [] qB) X.env)]:=by rfl) :
  PE X (.Call (.Name "dict" p) [.Call (.Name "zip" p2) [a,b] [] qB] [] pos) (tDZ X.K ta):=by
 intro pv s σ H Q I h;refine Call_ (za4 I hg hm boot_dict (cD ?_ wI rfl));rw [wI];show wpAny _ _ (spliced ((false,eval (.Call (.Name "zip" p2) [a,b] [] qB) X.env) :: [])) _ _ s;refine fZ ?_;refine Call_ (za4 I BM wJ om (cD (thn (ha qB pv s σ H _ I h) fun us s1 ⟨vs,H1,I1,r1,q1⟩=>?_) (by rw [hs,rG]) (by rw [rG]; rfl)));obtain⟨l1,l2,xs,ys,ks,e,sL,qZ,Hl,qM,q⟩:=q1;subst e;cases r1 with
 | cons r rr =>
  cases rr with
  | cons r' rr =>
   cases rr;cases r;cases r';obtain⟨qb,uP,AA,uQ⟩:=I1.list sL;obtain⟨p4,vd,Bo,vG⟩:=I1.list qZ;have tF:l1 < s1.heap.objs.size:=by obtain⟨_,_,e,_⟩:=AA; exact aW e
   have tG:l2 < s1.heap.objs.size:=by obtain⟨_,_,e,_⟩:=Bo; exact aW e
   refine call_zip_2 AA.isList Bo.isList fun h' b1 b2 b3 b4 b5 b6 kk=>?_
   refine gU ?_;have I2:Inv X pv σ H1 { s1 with heap:=h' }:=I1.kept (t':=s1.toks) kk;have Dz:∀ c∈zcb s1.heap.objs.size,zb8 X pv H1 c:=fun c hc=>by
    have hle:s1.heap.objs.size<=c:=by
     simp only [zcb,aR,bS,or_false] at hc;rcases hc with z | z | z | z | z <;> subst z
     all_goals first | exact kN _ _ | exact aG _
    exact I1.Ny hle #[Rv]
   generalize hn:s1.heap.objs.size=n at b1 b2 b3 b4 b5 b6 tF tG Dz |-;refine callType_codes (Q₁:=fun obj s₁=>obj = .ref h'.objs.size/\s₁ = { s1 with heap:=h'.push { cls:=.type "dict",data:=.dict #[] } }) F.kt_called_dict (F.kt_typeCall_dict_1 _) F.entry_dict_init (kt_code_dict_new _ ⟨rfl,rfl⟩) ?_;rintro obj s₁ ⟨rfl,rfl⟩;have JF:∀ c o,h'.get? c=some o->(h'.push { cls:=.type "dict",data:=.dict #[] }).get? c=some o:=fun c o e=>aH _ e
   have I3:Inv X pv σ (pB H1 h'.objs.size (.dT [])) { s1 with heap:=h'.push { cls:=.type "dict",data:=.dict #[] } } :=
    I2.laid (a:=h'.objs.size) (o:=.dT []) (t':=s1.toks) JF (aG _) (ziA h' I2.big)
   have hT:({ s1 with heap:=h'.push { cls:=.type "dict",data:=.dict #[] } }:Shared).TypeIs (.ref h'.objs.size) "dict":=⟨_,aY _ rfl,rfl⟩;refine⟨hT,F.args_dict_init_2 _ _,?_⟩
   (unfold Builtin.«dict.__init__»; refine aB ?_; unfold Builtin.Dict.selfAndRest)
   (refine aB (lS hT ?_))
   show wpAny _ _ (pure (h'.objs.size,[bP (n+4)])) _ _ _;refine (aI ?_);show wpAny _ _ (kX "dict.__init__" h'.objs.size #[UH] [] .none) _ _ _
   (unfold kX)
   have DA:=JF _ _ b1;have yi:({ s1 with heap:=h'.push { cls:=.type "dict",data:=.dict #[] } }:Shared).TypeIs #[UH] "zip":=⟨_,DA,rfl⟩;refine aB (nI yi ?_);rw [if_pos #[D]];have hh:X.A.handled=none:=I.ok.hd hc;refine aB (zpd DA (by simp [hh]) fun h2 tk Bp=>?_);rw [if_pos (by rfl)];refine aB (dO ?_);have I4:Inv X pv σ (pB H1 h'.objs.size (.dT [])) { s1 with heap:=h2,toks:=tk }:=Inv.kept (s:={ s1 with heap:=h'.push { cls:=.type "dict",data:=.dict #[] } }) (t':=tk) I3 Bp;refine aB (zhm (Bp _ _ DA) (aI ⟨gK zd8 _,?_⟩));have D0:H1 h'.objs.size=none:=I2.hok.fresh (aG _);have up:∀ c o,h'.get? c=some o->h2.get? c=some o:=fun c o e=>Bp c o (JF c o e)
   refine zpg (X:=X) (pv:=pv) (σ:=σ) (A:=X.A.in1) (H0:=H1) (a:=l1) (b:=l2) (n:=n) (D:=h'.objs.size) (xs:=xs) (ys:=ys) (ks:=ks) (by simp [hh]) (by simp only [gD]; lia) tF tG D0 ?_ sL qZ Hl qM Dz (fun s' H' I' e1 e2=>?_) #[W9] 0 _ _ _ #[O] I4 (fun c o e=>?_) (fun c hc=>?_) ?_ ?_
   ·rw [b6];simp
   ·exact⟨rfl,.ref h'.objs.size,_,I',rfl,q _ _ D0 e1 e2⟩
   ·rw [zm (zu e D0)];exact e
   ·rw [zm]
    ·exact (Dz c hc).1
    ·rw [b6];simp only [zcb,aR,bS,or_false] at hc;rcases hc with z | z | z | z | z <;> subst z <;> exact nq #[O]
   ·exact⟨⟨_,_,up _ _ b1,.inl rfl,_,rfl⟩,up _ _ b2,⟨_,_,up _ _ b3⟩,b4.at fun o e=>up _ o e,b5.at fun o e=>up _ o e⟩
   ·rw [gz];exact zc
end L2
end
section
namespace PySem
theorem zd9:typeLookup (.type "list") (dunderI "add")=pure (some (.builtin "list.__iadd__")):=by rw [gh,eS]; kernel_rfl
theorem zgo:seqSlot? (.type "list") (dunderI "add")=pure (some (.builtin "list.__iadd__")):=by
 unfold seqSlot?;rw [zd9]
 kernel_rfl
theorem zhB:fillsInplaceSlot (.type "list") "add" (Operator.Add == .Add)=pure false:=by
 unfold fillsInplaceSlot;show (typeLookup (.type "list") (dunderI "add") >>= fun fi=>pure (fi.isSome && !isSeqSlot fi))=pure false;rw [zd9]
 kernel_rfl
theorem zlR {M:Model} {A:Around} {E:Value->Shared->Prop} {s:Shared} {a b:Value} {Q:Value->Shared->Prop} (ha:s.TypeIs a "list") (hb:s.TypeIs b "list")
  (hc:wpAny M A (call (.builtin "list.__iadd__") [a,b]) Q E s):wpAny M A (inplaceOp .Add a b) Q E s:=by
 (unfold inplaceOp; refine cX ?_)
 refine aB (nI ha (aB (dR zhB ?_)))
 (show wpAny M A (if false=true then _ else _) Q E s)
 rw [if_neg bK];refine aB (wpAny_binaryOp1_none (nm:="add") ha hb noFill_list_add ?_);refine aB (dR zgo ?_);exact (aB (dO hc))
end PySem
namespace L2
open PySem PySem.Spec PyProof.Rows
variable {X:Cx}
def zq7:R2:=fun x y H Q=>∃ l b xs zs,x = .ref l/\y = .ref b/\H l=some #[Q8]/\H b=some (.lst zs)/\xs.length+zs.length<=sizeLine/\Q #[Qy] (pB H l (.lst (xs++zs)))
theorem znF:OpR X (inplaceOp .Add) zq7:=by
 intro pv s σ H x y v u Q I rx ry h;obtain⟨l,b,xs,zs,rfl,rfl,hH,hB,hz,q⟩:=h;cases rx;cases ry;obtain⟨z,pC,n,r,hl,e⟩:=I.OT hH;obtain⟨z2,p4,n2,r2,rX,e2⟩:=I.OT hB;have hsz:pC.toArray.size+p4.toArray.size<=sizeLine:=by rw [aO,aO]; lia
 have Ay:¬ (!pC.toArray.isEmpty && gB (pC.toArray.size+p4.toArray.size))=true:=by
  rw [zh9 hsz,oU];exact bK
 refine zlR ⟨_,e,rfl⟩ ⟨_,e2,rfl⟩ (gu F.slot_list_iadd ⟨_,e,rfl⟩ F.entry_list_iadd (F.args_list_iadd_2 _ _)
  (AutoSeq1.list___iadd___list_list_0 l pC.toArray n b p4.toArray n2 Ay (by rw [aO]; lia) #[O]) ⟨e,e2,?_⟩)
 refine⟨.ref l,_,I.Pq (its':=pC++p4) hH e #[M] (r.append r2) ?_,rfl,q⟩;rw [aL];lia
end L2
end
section
namespace My
open PySem L2 PyProof.Rows
variable {F F0:Nat->Ps} {H H':Hp} {W j k:Nat} {known:List Int} {ls rs:List Addr} {pJ:List (Int×Int)} {q:Int×Int} {qs rows vv:List #[At]} {v:V} {x0:Int}
def sh (b:Int):Nat->(Nat->Int)->Nat->Int
 | 0,_,_=>0
 | n+1,l,0=>l 0+b*sh b n #[Pi] 0
 | n+1,l,j+1=>sh b n #[Pi] j+b*sh b n #[Pi] (j+1)
theorem zdg {b:Int}:∀ {n:Nat} {l:Nat->Int} {j:Nat},n<=j->sh b n l j=0
 | 0,_,_,_=>by simp [sh]
 | n+1,l,0,h=>by lia
 | n+1,l,j+1,h=>by
  rw [sh,zdg #[O],zdg #[O]]; simp
theorem zfW {b:Int}:∀ {n:Nat} {u v:Nat->Int} {j:Nat},sh b n (fun t=>u t+v t) j=sh b n u j+sh b n v j
 | 0,_,_,_=>by simp [sh]
 | n+1,u,v,0=>by
  have h:=zfW (b:=b) (n:=n) (u:=fun t=>u (t+1)) (v:=fun t=>v (t+1)) (j:=0);simp only [sh,h]; grind
 | n+1,u,v,j+1=>by
  have h:=zfW (b:=b) (n:=n) (u:=fun t=>u (t+1)) (v:=fun t=>v (t+1)) (j:=j);have h':=zfW (b:=b) (n:=n) (u:=fun t=>u (t+1)) (v:=fun t=>v (t+1)) (j:=j+1);simp only [sh,h,h']; grind
theorem zc2 {b c:Int}:∀ {n:Nat} {u:Nat->Int} {j:Nat},sh b n (fun t=>c*u t) j=c*sh b n u j
 | 0,_,_=>by simp [sh]
 | n+1,u,0=>by
  have h:=zc2 (b:=b) (c:=c) (n:=n) (u:=fun t=>u (t+1)) (j:=0);simp only [sh,h]; grind
 | n+1,u,j+1=>by
  have h:=zc2 (b:=b) (c:=c) (n:=n) (u:=fun t=>u (t+1)) (j:=j);have h':=zc2 (b:=b) (c:=c) (n:=n) (u:=fun t=>u (t+1)) (j:=j+1);simp only [sh,h,h']; grind
theorem zdz {b:Int}:∀ {n:Nat} {u v:Nat->Int} {j:Nat},(∀ t,t < n->u t=v t)->sh b n u j=sh b n v j
 | 0,_,_,_,_=>by simp [sh]
 | n+1,u,v,0,h=>by
  rw [sh,sh,h 0 #[O],zdz (n:=n) (v:=fun t=>v (t+1)) fun t ht=>h (t+1) #[O]]
 | n+1,u,v,j+1,h=>by
  have e:=fun i=>zdz (b:=b) (n:=n) (u:=fun t=>u (t+1)) (v:=fun t=>v (t+1)) (j:=i) fun t ht=>h (t+1) #[O]
  rw [sh,sh,e j,e (j+1)]
theorem zdA {p b b':Int} (hb:Cg p b b'):∀ {n:Nat} {u v:Nat->Int} {j:Nat},(∀ t,t < n->Cg p (u t) (v t))->Cg p (sh b n u j) (sh b' n v j)
 | 0,_,_,_,_=>by simp only [sh]; exact Cg.refl _ _
 | n+1,u,v,0,h=>by
  simp only [sh];exact (h 0 #[O]).add (hb.mul (zdA hb fun t ht=>h (t+1) #[O]))
 | n+1,u,v,j+1,h=>by
  simp only [sh];exact (zdA hb fun t ht=>h (t+1) #[O]).add (hb.mul (zdA hb fun t ht=>h (t+1) #[O]))
theorem zhC {b:Int}:∀ {n:Nat} {f:Nat->Int} {j:Nat},f n=0->sh b (n+1) f j=sh b n f j
 | 0,f,0,h=>by simp [sh,h]
 | 0,f,j+1,h=>by simp [sh]
 | n+1,f,0,h=>by
  rw [sh,zhC (n:=n) (f:=fun t=>f (t+1)) h]; simp only [sh]
 | n+1,f,j+1,h=>by
  have e:=fun i=>zhC (b:=b) (n:=n) (f:=fun t=>f (t+1)) (j:=i) h
  rw [sh,e j,e (j+1)]; simp only [sh]
theorem zkS {b:Int} {n:Nat} {f:Nat->Int} :∀ {m:Nat},n<=m->(∀ t,n<=t->t < m->f t=0)->sh b m f j=sh b n f j
 | m,h,z=>by
  induction m with
  | zero =>
   obtain rfl:n=0:=by lia
   rfl
  | succ m ih =>
   by_cases e:n=m+1
   ·rw [e]
   ·rw [zhC (z m #[O] #[O])];exact ih #[O] fun t h1 h2=>z t h1 #[O]
theorem zfg:∀ {n:Nat} {l:Nat->Int} {j:Nat},j < n->sh 0 n l j=l j
 | 0,_,_,h=>by lia
 | n+1,l,0,_=>by simp [sh]
 | n+1,l,j+1,h=>by
  rw [sh,zfg (n:=n) (l:=fun t=>l (t+1)) #[O]]; simp
theorem zkT {b b':Int}:∀ {n:Nat} {l:Nat->Int} {j:Nat},sh b' n (sh b n l) j=sh (b+b') n l j
 | 0,_,_=>by simp [sh]
 | n+1,l,j=>by
  have hz:sh b n #[Pi] n=0:=zdg (aG _);have ih:=fun i=>zkT (b:=b) (b':=b') (n:=n) (l:=fun t=>l (t+1)) (j:=i)
  have e:sh b' (n+1) (sh b (n+1) l) j=sh b' (n+1) (fun t=>(if t=0 then l 0 else sh b n #[Pi] (t - 1))+b*sh b n #[Pi] t) j:=by
   refine zdz fun t _=>?_
   cases t <;> simp [sh]
  rw [e,zfW,zc2,zhC hz,ih];cases j with
  | zero =>
   simp only [sh,if_true];have e2:sh b' n (fun t=>if t+1=0 then l 0 else sh b n #[Pi] (t+1 - 1)) 0=sh (b+b') n #[Pi] 0:=by
    rw [<- ih]; exact zdz fun t _=>by simp
   rw [e2]; grind
  | succ j =>
   simp only [sh];have e2:∀ i,sh b' n (fun t=>if t+1=0 then l 0 else sh b n #[Pi] (t+1 - 1)) i=sh (b+b') n #[Pi] i:=fun i=>by
    rw [<- ih]; exact zdz fun t _=>by simp
   rw [e2,e2]; grind
def vl:Nat->(Nat->Int)->Int->Int
 | 0,_,_=>0
 | n+1,l,y=>l 0+y*vl n #[Pi] y
def ch:Nat->Nat->Int
 | _,0=>1
 | 0,_+1=>0
 | t+1,j+1=>ch t j+ch t (j+1)
theorem zhD:∀ {t j:Nat},t < j->ch t j=0
 | _,0,h=>by lia
 | 0,j+1,_=>rfl
 | t+1,j+1,h=>by rw [ch,zhD #[O],zhD #[O]]; rfl
theorem zcm {b:Int}:∀ {n:Nat} {l:Nat->Int} {j:Nat},sh b n l j=sm n fun t=>ch t j*b ^ (t - j)*l t
 | 0,_,_=>rfl
 | n+1,l,0=>by
  rw [sh,zcm,zd6,<- zcG];congr 1
  ·simp [ch]
  ·exact zaD fun i _=>by simp only [ch,gE]; grind
 | n+1,l,j+1=>by
  rw [sh,zcm,zcm,zd6,<- zcG,<- zjJ];have e0:ch 0 (j+1)*b ^ (0 - (j+1))*l 0=0:=by simp [ch]
  rw [e0,eK];refine zaD fun i _=>?_
  have e1:i+1 - (j+1)=i - j:=by lia
  rw [ch,e1];by_cases h:j+1<=i
  ·have e2:i - j=(i - (j+1))+1:=by lia
   rw [e2,jI]; grind
  ·rw [zhD (t:=i) (j:=j+1) #[O]]; simp
def hs (b:Int):Nat->(Nat->Int)->Nat->Int
 | 0,_,_=>0
 | n+1,l,0=>l 0+b*hs b n #[Pi] 0
 | n+1,l,j+1=>hs b n #[Pi] j
theorem zcI {b:Int}:∀ {n:Nat} {l:Nat->Int} {j:Nat},n<=j->hs b n l j=0
 | 0,_,_,_=>by simp [hs]
 | n+1,l,0,h=>by lia
 | n+1,l,j+1,h=>by rw [hs,zcI #[O]]
theorem zea {b:Int}:∀ {n:Nat} {l:Nat->Int} {j:Nat},j < n->hs b n l j=l j+b*hs b n l (j+1)
 | 0,_,_,h=>by lia
 | n+1,l,0,h=>by simp only [hs]
 | n+1,l,j+1,h=>by
  rw [hs,zea (n:=n) (l:=fun t=>l (t+1)) #[O]]; rfl
theorem zkU {b:Int}:∀ {n:Nat} {l:Nat->Int},sh b (n+1) l 0=hs b (n+1) l 0/\∀ j,sh b (n+1) l (j+1)=sh b n (fun t=>hs b (n+1) l (t+1)) j
 | 0,l=>by simp [sh,hs]
 | n+1,l=>by
  obtain⟨h0,h1⟩:=zkU (b:=b) (n:=n) (l:=fun t=>l (t+1));refine⟨?_,fun j=>?_⟩
  ·rw [sh,h0]; simp only [hs]
  ·rw [sh];have e:sh b (n+1) (fun t=>hs b (n+2) l (t+1)) j=sh b (n+1) (fun t=>hs b (n+1) #[Pi] t) j:=zdz fun t _=>by rw [hs]
   rw [e];cases j with
   | zero=>rw [h0,h1 0]; simp only [sh]
   | succ j=>rw [h1 j,h1 (j+1)]; simp only [sh]
def qo (b:Int) (n:Nat) (l:Nat->Int):Nat->Nat->Int
 | 0=>l
 | f+1=>fun t=>hs b (n - f) (qo b n l f) (t+1)
theorem zp0 {b:Int} {n:Nat} {l:Nat->Int}:∀ {f:Nat},f<=n->∀ j,sh b n l (f+j)=sh b (n - f) (qo b n l f) j
 | 0,_,j=>by rw [eC]; rfl
 | f+1,h,j=>by
  have ih:=zp0 (b:=b) (n:=n) (l:=l) (f:=f) #[O] (j+1);have e:f+1+j=f+(j+1):=by lia
  have e2:n - f=(n - (f+1))+1:=by lia
  rw [e,ih,e2,(zkU).2 j];refine zdz fun t _=>?_
  rw [qo,e2]
theorem znG {b:Int} {n:Nat} {l:Nat->Int} {f:Nat} (h:f < n):sh b n l f=hs b (n - f) (qo b n l f) 0:=by
 have ih:=zp0 (b:=b) (n:=n) (l:=l) (f:=f) #[O] 0;have e2:n - f=(n - (f+1))+1:=by lia
 rw [f'] at ih;rw [ih,e2,(zkU).1]
theorem zph {a b:Int} {n w:Nat} {g:Nat->Nat->Int} {i:Nat}:sh b n (fun t=>sh a w (fun s=>g t s) i) j=sh a w (fun s=>sh b n (fun t=>g t s) j) i:=by
 rw [zcm,zcm];have e1:(fun t=>ch t j*b ^ (t - j)*sh a w (fun s=>g t s) i)=fun t=>sm w fun s=>(ch t j*b ^ (t - j))*(ch s i*a ^ (s - i)*g t s):=by
  funext t; rw [zcm,<- zcG]
 have e2:(fun s=>ch s i*a ^ (s - i)*sh b n (fun t=>g t s) j)=fun s=>sm n fun t=>(ch t j*b ^ (t - j))*(ch s i*a ^ (s - i)*g t s):=by
  funext s; rw [zcm,<- zcG];exact zaD fun t _=>by grind
 rw [e1,e2,zhz]
def mv (a b:Int) (n w:Nat) (c:Nat->Nat->Int) (j i:Nat):Int:=sh a w (fun s=>sh b n (fun t=>c t s) j) i
theorem zp1 {p a a' b b':Int} {n w:Nat} {c d:Nat->Nat->Int} {i:Nat} (ha:Cg p a a') (hb:Cg p b b') (h:∀ t s,t < n->s < w->Cg p (c t s) (d t s)):Cg p (mv a b n w c j i) (mv a' b' n w d j i) :=
 zdA ha fun s hs=>zdA hb fun t ht=>h t s ht hs
theorem zp2 {a b:Int} {n w:Nat} {c:Nat->Nat->Int} {i:Nat}:mv a b n w c j i=sm n fun t=>sm w fun s=>c t s*ch t j*ch s i*a ^ (s - i)*b ^ (t - j):=by
 unfold mv;rw [zcm,<- zhz];refine zaD fun s _=>?_
 rw [zcm,<- zcG];exact zaD fun t _=>by grind
theorem znH {y:Int}:∀ {n:Nat} {l:Nat->Int},vl n l y=sm n fun t=>l t*y ^ t
 | 0,_=>rfl
 | n+1,l=>by
  rw [vl,znH,zd6,<- zcG];congr 1
  ·simp
  ·exact zaD fun t _=>by rw [jI]; grind
theorem zpi {p a a' b b':Int} {n w:Nat} {c d:Nat->Nat->Int} (ha:Cg p (a+a') 0) (hb:Cg p (b+b') 0) (hd:∀ t s,t < n->s < w->Cg p (d t s) #[Vv]) {i:Nat} (hj:j < n) (hi:i < w):Cg p (mv a' b' n w d j i) (c j i):=by
 refine (zp1 #[Uh] #[Uh] hd).trans ?_;have e:mv a' b' n w #[Xa] j i=mv (a+a') (b+b') n w c j i:=by
  unfold mv;have e1:(fun s=>sh b' n (fun t=>sh a w (fun s=>sh b n (fun t=>c t s) t) s) j)=sh a w (fun s=>sh (b+b') n (fun t=>c t s) j):=by
   funext s;rw [zph];refine zdz fun s _=>?_
   exact zkT (b:=b) (b':=b') (l:=fun t=>c t s)
  rw [e1,zkT]
 rw [show (mv a b n w c)=#[Xa] from rfl,e];refine (zp1 ha hb fun _ _ _ _=>Cg.refl _ _).trans #[R7];unfold mv;rw [zfg hi,zfg (l:=fun t=>c t i) hj]
theorem zr5 {p a b:Int} {n w:Nat} {c:Nat->Nat->Int} {i:Nat} (hj:j < n) (hi:i < w) (hc:¬ Cg p (c j i) 0):∃ t s,t < n/\s < w/\¬ Cg p #[Vv] 0:=by
 refine dm fun h=>hc ?_
 have z:∀ t s,t < n->s < w->Cg p (0:Int) #[Vv]:=fun t s ht hs=>dm fun q=>h ⟨t,s,ht,hs,fun e=>q e.symm⟩
 have e:=zpi (p:=p) (a:=a) (a':=-a) (b:=b) (b':=-b) (c:=c) (d:=fun _ _=>0) #[P5] #[P5] z hj hi;refine e.symm.trans #[R7];rw [zp2];exact zcH fun t _=>zcH fun s _=>by simp
def zK (n w:Nat) (g:Nat->Nat->Int):List #[At]:=(bA n).map fun j=>(bA w).map fun i=>g j i
theorem zav {n w:Nat} {g:Nat->Nat->Int} (h:j < n):#[TC][j]? = some ((bA w).map fun i=>g j i):=by
 unfold zK;rw [aF,cH h];rfl
theorem zbj {n w:Nat} {g g':Nat->Nat->Int} (h:∀ j i,j < n->i < w->g j i=g' j i):zK n w g=zK n w g':=by
 unfold zK;refine dD fun j hj=>dD fun i hi=>?_
 exact h j i (bU.mp hj) (bU.mp hi)
theorem zlS {n w:Nat} {g:Nat->Nat->Int} {v:Nat->Int}:#[TC].set j ((bA w).map v)=zK n w (fun j' i=>if j'=j then v i else g j' i):=by
 refine fM fun k=>?_
 rw [List.getElem?_set];by_cases hk:k < n
 ·rw [zav hk,zav hk];by_cases e:j=k
  ·subst e;have hl:j < #[TC].length:=by unfold zK; rw [aA,bI]; exact hk
   simp [hl]
  ·simp [e,eG e]
 ·have h1:#[TC][k]? = none:=dG.mpr (by unfold zK; rw [aA,bI]; lia);have h2:(zK n w (fun j' i=>if j'=j then v i else g j' i))[k]? = none:=dG.mpr (by unfold zK; rw [aA,bI]; lia);have h3:#[TC].length=n:=by unfold zK; rw [aA,bI]
  rw [h1,h2,h3];split
  ·rw [if_neg #[O]]
  ·rfl
theorem zlT {w:Nat} {u v:Nat->Int} {f:Int->Int->Int}:cJ f ((bA w).map u) ((bA w).map v)=(bA w).map fun i=>f (u i) (v i):=by
 rw [List.zipWith_map,List.zipWith_self]
def rst (p b:Int) (n:Nat) (c:Nat->Nat->Int) (f idx j i:Nat):Int :=
 (if j < f then sh b n #[Qf] j else if n<=idx+1+j then hs b (n - f) (qo b n #[Qf] f) (j - f) else qo b n #[Qf] f (j - f)) % p
theorem zlU {p b:Int} {n:Nat} {c:Nat->Nat->Int} {i:Nat} (hj:j < n):rst p b n c 0 0 j i=c j i % p:=by
 unfold rst;rw [if_neg #[O]];split
 ·rw [gE,gE,zea hj,zcI #[O]];simp [qo]
 ·rfl
theorem znI {p b:Int} {n:Nat} {c:Nat->Nat->Int} {i:Nat} (hj:j < n):rst p b n c n 0 j i=sh b n #[Qf] j % p:=by
 unfold rst;rw [if_pos hj]
theorem znJ {p b:Int} {n f:Nat} {c:Nat->Nat->Int} {i:Nat} (hf:f < n) (hj:j < n):rst p b n c f (n - 1 - f) j i=rst p b n c (f+1) 0 j i:=by
 unfold rst;by_cases h1:j < f
 ·rw [if_pos h1,if_pos #[O]]
 ·rw [if_neg h1,if_pos #[O]];by_cases h2:j=f
  ·subst h2;rw [if_pos #[O],iM,znG hf]
  ·rw [if_neg #[O]];have e1:j - f=(j - (f+1))+1:=by lia
   have e2:qo b n #[Qf] (f+1) (j - (f+1))=hs b (n - f) (qo b n #[Qf] f) (j - f):=by rw [e1]; rfl
   split
   ·rw [zea (n:=n - (f+1)) (j:=j - (f+1)) #[O],zcI (n:=n - (f+1)) (j:=j - (f+1)+1) #[O],e2]; simp
   ·rw [e2]
theorem znK {p b:Int} {n f idx:Nat} {c:Nat->Nat->Int} {i:Nat} (hi:idx < n - 1 - f) (hj:j < n):rst p b n c f (idx+1) j i=if j=n - 2 - idx then (rst p b n c f idx (n - 2 - idx) i+b*rst p b n c f idx (n - 2 - idx+1) i) % p else rst p b n c f idx j i:=by
 by_cases h:j=n - 2 - idx
 ·rw [if_pos h,<- h];unfold rst;rw [if_neg #[O],if_pos #[O],if_neg #[O],if_neg #[O],if_neg #[O],if_pos #[O],zea #[O]];have e:j+1 - f=j - f+1:=by lia
  rw [e];exact (#[Qv].symm.add ((Cg.refl p b).mul #[Qv].symm)).mod_eq
 ·rw [if_neg h];unfold rst;split
  ·rfl
  ·by_cases h2:n<=idx+1+j
   ·rw [if_pos h2,if_pos #[O]]
   ·rw [if_neg h2,if_neg #[O]]
abbrev Tm:=Nat×Nat
def cf (x:Int) (n u:Nat):Int:=ch n u*x ^ (n - u)
structure Co where
 x:Int
 y:Int
 u:Nat
 v:Nat
def cv (t:Tm) (c:Co):Int:=cf c.x t.1 c.u*cf c.y t.2 c.v
def tz (k:Nat) (t:Tm):Nat:=t.1+(k - 1)*t.2
def tms (k s:Nat):List Tm:=(bA (s / (k - 1)+1)).map fun j=>(s - (k - 1)*j,j)
def zaP (k s:Nat):List Tm:=(bA s).flatMap (tms k)
theorem zcJ (k s:Nat):zaP k (s+1)=zaP k s++tms k s:=by
 unfold zaP;rw [fE,iB];simp
theorem zdh {s:Nat} (hk:2<=k) {t:Tm}:t∈tms k s↔tz k t=s:=by
 unfold tms tz;have k1:0 < k - 1:=by lia
 constructor
 ·intro h;obtain⟨j,hj,rfl⟩:=aZ.mp h;have hj:=bU.mp hj;have:(k - 1)*j<=s:=by
   have:=(gj k1).mp (show j<=s / (k - 1) by lia);rw [iK]; exact this
  show s - (k - 1)*j+(k - 1)*j=s;lia
 ·intro h;refine aZ.mpr ⟨t.2,bU.mpr ?_,?_⟩
  ·have:t.2<=s / (k - 1):=(gj k1).mpr (by rw [iK]; lia);lia
  ·have:s - (k - 1)*t.2=t.1:=by lia
   rw [this]
theorem zeC {s:Nat} (hk:2<=k) {t:Tm}:t∈zaP k s↔tz k t < s:=by
 unfold zaP;rw [fW];constructor
 ·rintro⟨z,hz,h⟩;rw [(zdh hk).mp h];exact bU.mp hz
 ·intro h;exact⟨tz k t,bU.mpr h,(zdh hk).mpr rfl⟩
theorem zlV (k s:Nat):(tms k s).Nodup:=by
 unfold tms;rw [fk,dE];refine jb ?_ kM;intro a b h e;exact h (congrArg Prod.snd e)
theorem zeP {k:Nat} (hk:2<=k):∀ s,(zaP k s).Nodup
 | 0=>by simp [zaP]
 | s+1=>by
  rw [zcJ,gV];refine⟨zeP hk s,zlV k s,fun a ha b hb e=>?_⟩;subst e;have h1:=(zeC hk).mp ha;have h2:=(zdh hk).mp hb;lia
theorem zeb {k:Nat} (hk:2<=k):∀ s,(zaP k s).Pairwise fun a b=>tz k a<=tz k b
 | 0=>by simp [zaP]
 | s+1=>by
  rw [zcJ,ml];refine⟨zeb hk s,?_,fun a ha b hb=>?_⟩
  ·refine iL (R:=fun _ _=>True) ?_ (List.pairwise_of_forall fun _ _=>trivial);intro a b ha hb _;rw [(zdh hk).mp ha,(zdh hk).mp hb];exact aG _
  ·have h1:=(zeC hk).mp ha;have h2:=(zdh hk).mp hb;lia
theorem zg0 (k:Nat):∀ s,s<=(zaP k s).length
 | 0=>cB _
 | s+1=>by
  rw [zcJ,aL];have:=zg0 k s;have h:1<=(tms k s).length:=by unfold tms; rw [aA,bI]; exact Nat.le_add_left _ _
  lia
def gof (ts:List Tm) (c:List Int) (t:Tm):Int:=(jY t (ts.zip c)).getD 0
theorem znL:∀ {ts:List Tm} {c:List Int} {i:Nat} {t:Tm},ts.Nodup->ts[i]? = some t->gof ts c t=gl c i
 | [],_,_,_,_,h=>(by simp at h)
 | a :: ts,[],i,t,_,_=>by
  show (jY t ([]:List (Tm×Int))).getD 0=_;rw [zeA #[M]];rfl
 | a :: ts,b :: c,0,t,_,h=>by
  cases h;unfold gof;rw [gP,cI,beq_self_eq_true];rfl
 | a :: ts,b :: c,i+1,t,hn,h=>by
  (have Au:=gf.mp hn)
  have h':ts[i]? = some t:=by simpa using h
  have ne:t≠a:=fun e=>Au.1 (by rw [<- e]; exact aU h')
  have:=znL (c:=c) Au.2 h';unfold gof at this |-;rw [gP,cI,show (t == a)=false by simpa using ne,this];unfold gl;simp
theorem zpj {p:Int} (p0:0 < p) {ts:List Tm} {c:List Int} (hc:∀ z∈c,0<=z/\z < p) (t:Tm):0<=gof ts c t/\gof ts c t < p:=by
 unfold gof;cases h:jY t (ts.zip c) with
 | none=>exact⟨dB _,p0⟩
 | some z =>
  have:(t,z)∈ts.zip c:=by
   clear hc;induction ts generalizing c with
   | nil=>simp at h
   | cons a ts ih =>
    cases c with
    | nil=>simp at h
    | cons b c =>
     rw [gP,cI] at h;cases e:(t == a) with
     | true =>
      rw [e] at h;cases h;rw [show t=a by simpa using e];exact bG
     | false =>
      rw [e] at h;exact aV _ (ih h)
  exact hc z (iD this).2
theorem zlW {l:List Tm} (h:l.Pairwise fun a b=>tz k a<=tz k b) {i:Nat} {a b:Tm} (ha:l[i]? = some a) (hb:l[j]? = some b) (tU:i<=j):tz k a<=tz k b:=by
 by_cases e:i=j
 ·subst e;rw [ha] at hb;cases hb;exact aG _
 ·obtain⟨h1,e1⟩:=aP.mp ha;obtain⟨h2,e2⟩:=aP.mp hb;have:=eQ.mp h i j h1 h2 #[O];rw [e1,e2] at this;exact this
def tri (w:Nat):Nat:=w*(w+1) / 2
def zbn (pJ:List (Int×Int×Nat)):Nat:=(pJ.map fun q=>tri q.2.2).sum
def zdM (k s:Nat) (g:Tm->Int):List #[At]:=(bA (s / (k - 1)+1)).map fun j=>(bA (s - (k - 1)*j+1)).map fun i=>g (i,j)
theorem zec (k s:Nat) (g:Tm->Int):#[WE].length=s / (k - 1)+1:=by unfold zdM; rw [aA,bI]
theorem ziY {s:Nat} {g:Tm->Int} (h:j < s / (k - 1)+1):#[WE][j]? = some ((bA (s - (k - 1)*j+1)).map fun i=>g (i,j)):=by
 unfold zdM;rw [aF,cH h];rfl
section
variable {K:aD}
theorem LsA.off {l:Addr} (h:LsA H ls vv) (hl:H l=some #[BT]):∀ (i:Nat) (b:Addr),ls[i]? = some b->b≠l:=by
 rintro i b hb rfl;obtain⟨v,_,hv⟩:=Paired.get h hb;rw [hl] at hv;cases ls with
 | nil=>simp at hb
 | cons x r =>
  cases v with
  | nil=>simp at hv
  | cons y z=>simp at hv
theorem LsA.setAt {l D:Addr} {v:List Int} (h:LsA H ls vv) (hl:H l=some #[BT]) (hD:H D=some #[S7]) (hn:D≠l) {o:HO}:LsA (pB H l o) (ls.set j D) (vv.set j v):=by
 have off:=h.off hl;clear hl;induction h generalizing j with
 | nil=>cases j <;> exact .nil
 | @cons b u bs us h1 h2 ih =>
  cases j with
  | zero =>
   refine .cons (by rw [zm hn]; exact hD) ?_;have ih0:LsA (pB H l o) bs us:=by
    have:=ih (j:=bs.length) fun i b' hb=>off (i+1) b' (by simpa using hb)
    rw [kT (aG _),kT (by rw [bM h2]; exact aG _)] at this;exact this
   exact ih0
  | succ j=>exact .cons (by rw [zm (off 0 b #[M])]; exact h1) (ih fun i b' hb=>off (i+1) b' (by simpa using hb))
theorem znM {many:Nat} {base:Int} {ds:List Int} (h:zhi many base ds) {i:Int} (h0:0<=i) (h1:i < many):∃ d,atI #[Qc] i=some (.int d)/\0<=d/\d < base:=by
 obtain⟨n,rfl⟩:∃ n:Nat,i=n:=⟨i.toNat,#[O]⟩;have hn:n < ds.length:=by rw [h.1]; lia
 refine⟨ds[n]'hn,zay (by rw [aF,aJ hn]; rfl),h.2 _ (fV hn)⟩
theorem zq8 {D:Addr} (hD:D∉ls) (k:∀ b o,b≠D->H b=some o->H' b=some o) (h:LsA H ls vv):LsA H' ls vv:=by
 induction h with
 | nil=>exact .nil
 | cons h1 _ ih=>exact .cons (k _ _ (fun e=>hD (by rw [<- e]; exact bG)) h1) (ih fun z=>hD (aV _ z))
theorem znN {d:Nat} {x:V} (hx:zgH x=true):EqD K H d x x true:=by
 have h:=EqD.flat (K:=K) (H:=H) (d:=d) (x:=x) (y:=x) hx hx;have e:eqV x x=true:=by
  cases x <;> simp_all [eqV,zgH]
 rw [e] at h;exact h
theorem zpk {a b:Addr} {ms:List Int} (ha:H a=some (.tup #[QL])) (hb:H b=some (.tup #[QL])):EqD K H 8 #[QK] #[Wz] true:=by
 by_cases p7:a=b
 ·subst p7;exact .same
 ·have h:=EqD.ML (K:=K) (H:=H) (d:=7) (e:=fun _=>true) p7 (pK.of ha) (pK.of hb) fun j x y h1 h2=>by
   rw [h1] at h2;cases h2;obtain⟨z,rfl,_⟩:=zaC h1;exact znN rfl
  have e:((bA (min #[QL].length #[QL].length)).all (fun _=>true) && #[QL].length == #[QL].length)=true:=by simp
  rw [e] at h;exact h
theorem zkV {rs':List Addr} (h1:zaN H rs qs) (h2:zaN H rs' qs):∀ (j:Nat) x y,(rs.map V.ref)[j]? = some x->(rs'.map V.ref)[j]? = some y->EqD K H 8 x y true:=fun j x y e1 e2=>by
 obtain⟨a,rfl,ha⟩:=zQ e1;obtain⟨b,rfl,hb⟩:=zQ e2;obtain⟨q,g1,g2⟩:=Paired.get h1 ha;obtain⟨q',g3,g4⟩:=Paired.get h2 hb;rw [g1] at g3;cases g3;exact zpk g2 g4
def trm (j:Nat) (r:List Int) (m:Nat):List (Int×Int):=((bA m).filter fun i=>gl r i≠0).map fun i:Nat=>((i:Int),(j:Int))
def zat (rows:List #[At]) (m:Nat):List (Int×Int):=(bA m).flatMap fun j=>trm j (rows.getD j []) (rows.getD j []).length
theorem zed (j:Nat) (r:List Int) (m:Nat):trm j r (m+1)=if gl r m≠0 then trm j r m++[((m:Int),(j:Int))] else trm j r m:=by
 unfold trm;rw [fE,eE,aN];by_cases h:gl r m=0 <;> simp [h]
theorem zdi (rows:List #[At]) (m:Nat):zat rows (m+1)=zat rows m++trm m (rows.getD m []) (rows.getD m []).length:=by
 unfold zat;rw [fE,iB];simp
theorem zfh (j:Nat) (r:List Int) (m:Nat):(trm j r m).length<=m:=by
 unfold trm;rw [aA];exact bR (dQ _ _) #[M]
def szs (k:Int) (ts:List (Int×Int)):List Int:=ts.map fun q=>q.1+(k - 1)*q.2
theorem zpl (k:Int) (ts:List (Int×Int)):(szs k ts).length=ts.length:=by simp [szs]
def RwA (H:Hp):List Addr->List #[At]->Prop:=Paired fun b v=>H b=some #[S7]\/H b=some (.tup (v.map V.int))
def wd (rows:List #[At]):Nat:=rows.foldr (fun r m=>max r.length m) 0
theorem zfX {r:List Int} (h:r∈rows):r.length<=wd rows:=by
 induction rows with
 | nil=>cases h
 | cons a l ih =>
  show r.length<=max a.length (wd l);rcases (aR.mp h) with rfl | h
  ·exact iG _ _
  ·exact bR (ih h) (ij _ _)
theorem zeD:∀ {rows:List #[At]},rows≠[]->∃ r∈rows,r.length=wd rows
 | [],h=>absurd rfl h
 | a :: l,_=>by
  by_cases e:l = []
  ·subst e; exact⟨a,bG,by show _=max a.length 0; lia⟩
  ·obtain⟨r,hr,er⟩:=zeD e;by_cases h:wd l<=a.length
   ·exact⟨a,bG,by show _=max a.length (wd l); lia⟩
   ·exact⟨r,aV _ hr,by show _=max a.length (wd l); lia⟩
def zbv (rows:List #[At]):List Int:=rows.map fun r=>(r.length:Int)
theorem zfY (rows:List #[At]):#[WA].length=rows.length:=by simp [zbv]
theorem zr6 {M:Int} (h0:zbv rows = []->M=0) (h1:zbv rows≠[]->M∈zbv rows/\∀ a∈zbv rows,if true=true then a<=M else M<=a):M=(wd rows:Int):=by
 by_cases e:rows = []
 ·subst e; exact h0 rfl
 ·obtain⟨m1,m2⟩:=h1 (by simpa [zbv] using e);obtain⟨r,hr,rfl⟩:=aZ.mp m1;obtain⟨r',qA,e'⟩:=zeD e;have b1:=zfX hr;have b2:=m2 _ (aZ.mpr ⟨r',qA,rfl⟩);rw [if_pos rfl] at b2;lia
theorem zpm {xs:List V} :atI (xs++[v]) (-1)=some v:=by
 unfold atI ixN;rw [if_neg #[D],if_pos (by rw [aL]; show -((xs.length+1:Nat):Int)<=-1; lia)];show (xs++[v])[(-1+((xs++[v]).length:Int)).toNat]? = some v;rw [aL,show (-1+((xs.length + [v].length:Nat):Int)).toNat=xs.length by show (-1+((xs.length+1:Nat):Int)).toNat=_; lia,cS (aG _),iM];rfl
end
abbrev Ps:=Nat->Int
structure Add (B:Ps->Ps):Prop where
 a:∀ u v,B #[UK]=fun i=>B u i+B v i
def shO (B:Ps->Ps):Nat->(Nat->Ps)->Nat->Ps
 | 0,_,_=>fun _=>0
 | n+1,F,0=>fun i=>F 0 i+B (shO B n #[PP] 0) i
 | n+1,F,j+1=>fun i=>shO B n #[PP] j i+B (shO B n #[PP] (j+1)) i
theorem Add.z {B:Ps->Ps} (h:Add B):B #[VR]=fun _=>0:=by
 have:=h.a #[VR] #[VR];funext i;have e:=congrFun this i;have e2:(fun _:Nat=>(0:Int)+0)=fun _=>0:=by funext i; rfl
 rw [e2] at e;lia
theorem zfZ {B:Ps->Ps} (h:Add B):∀ {n:Nat} {F:Nat->Ps} {j:Nat},n<=j->shO B n F j=fun _=>0
 | 0,_,_,_=>by simp [shO]
 | n+1,F,0,hj=>by lia
 | n+1,F,j+1,hj=>by
  rw [shO,zfZ h #[O],zfZ h #[O],h.z];funext i;simp
theorem zhE {B:Ps->Ps} (h:Add B):∀ {n:Nat} {F G:Nat->Ps} {j:Nat},shO B n (fun t i=>F t i+G t i) j=fun i=>shO B n F j i+shO B n G j i
 | 0,_,_,_=>by simp [shO]
 | n+1,F,G,0=>by
  have e:=zhE h (n:=n) (F:=fun t=>F (t+1)) (G:=fun t=>G (t+1)) (j:=0);simp only [shO];rw [e,h.a];funext i;dsimp only;lia
 | n+1,F,G,j+1=>by
  have e:=fun j=>zhE h (n:=n) (F:=fun t=>F (t+1)) (G:=fun t=>G (t+1)) (j:=j)
  simp only [shO];rw [e,e,h.a];funext i;dsimp only;lia
theorem zee {B C:Ps->Ps} (hC:Add C) (hc:∀ l,C (B l)=B (C l)):∀ {n:Nat} {F:Nat->Ps} {j:Nat},shO B n (fun t=>C (F t)) j=C (shO B n F j)
 | 0,_,_=>by simp [shO,hC.z]
 | n+1,F,0=>by
  have e:=zee hC hc (n:=n) (F:=fun t=>F (t+1)) (j:=0);simp only [shO];rw [e,<- hc,<- hC.a]
 | n+1,F,j+1=>by
  have e:=fun j=>zee hC hc (n:=n) (F:=fun t=>F (t+1)) (j:=j)
  simp only [shO];rw [e,e,<- hc,<- hC.a]
theorem zfi {B:Ps->Ps} (h:Add B):∀ {n:Nat} {F:Nat->Ps} {j:Nat},F n=#[VR]->shO B (n+1) F j=shO B n F j
 | 0,F,0,e=>by simp [shO,e,h.z]
 | 0,F,j+1,e=>by simp [shO,h.z]
 | n+1,F,0,e=>by
  rw [shO,zfi h (n:=n) (F:=fun t=>F (t+1)) e]; simp only [shO]
 | n+1,F,j+1,e=>by
  have g:=fun i=>zfi h (n:=n) (F:=fun t=>F (t+1)) (j:=i) e
  rw [shO,g j,g (j+1)]; simp only [shO]
theorem znO {B:Ps->Ps} {n:Nat} {G:Nat->Ps} (h:∀ t,F t=G t):shO B n F j=shO B n G j:=by
 rw [funext h]
theorem zhF {B B':Ps->Ps} (h:Add B) (h':Add B') (hc:∀ l,B (B' l)=B' (B l)):∀ {n:Nat} {F:Nat->Ps} {j:Nat},shO B' n (shO B n F) j=shO (fun l i=>B l i+B' l i) n F j
 | 0,_,_=>by simp [shO]
 | n+1,F,j=>by
  have hz:shO B n #[PP] n=fun _=>0:=zfZ h (aG _)
  have ih:=fun i=>zhF h h' hc (n:=n) (F:=fun t=>F (t+1)) (j:=i)
  have e:shO B' (n+1) (shO B (n+1) F) j=shO B' (n+1) (fun t i=>(if t=0 then F 0 else shO B n #[PP] (t - 1)) i+B (shO B n #[PP] t) i) j:=by
   refine znO fun t=>?_
   cases t <;> simp [shO]
  rw [e,zhE h',zee h hc (F:=shO B n #[PP]),zfi h' hz,ih];have e2:∀ i,shO B' n (fun t=>if t+1=0 then F 0 else shO B n #[PP] (t+1 - 1)) i=shO (fun l i=>B l i+B' l i) n #[PP] i:=fun i=>by
   rw [<- ih]; exact znO fun t=>by simp
  cases j with
  | zero =>
   simp only [shO,if_true];rw [e2];funext i;lia
  | succ j =>
   simp only [shO];rw [e2,e2];funext i;lia
def Xl (l:Ps):Ps:=fun i=>if i=0 then 0 else l (i - 1)
def mq (a:Int):Nat->Ps->Ps->Ps
 | 0,_,_=>fun _=>0
 | n+1,b,l=>fun i=>b 0*l i+(Xl (mq a n #[KB] l) i+a*mq a n #[KB] l i)
theorem zhG (u v:Ps):Xl #[UK]=fun i=>Xl u i+Xl v i:=by
 funext i;unfold Xl;split
 ·rfl
 ·rfl
theorem zjO (c:Int) (u:Ps):Xl (fun i=>c*u i)=fun i=>c*Xl u i:=by
 funext i;unfold Xl;split
 ·lia
 ·rfl
theorem zf0 (a:Int):∀ (n:Nat) (b:Ps),Add (mq a n b)
 | 0,_=>⟨fun _ _=>by funext i; simp [mq]⟩
 | n+1,b=>⟨fun u v=>by
  have ih:=(zf0 a n #[KB]).a u v;funext i;simp only [mq];rw [ih,zhG];grind⟩
theorem zjP (a c:Int):∀ (n:Nat) (b l:Ps),mq a n b (fun i=>c*l i)=fun i=>c*mq a n b l i
 | 0,_,_=>by funext i; simp [mq]
 | n+1,b,l=>by
  have ih:=zjP a c n #[KB] l;funext i;simp only [mq];rw [ih,zjO];grind
def Dg (l:Ps) (w:Nat):Prop:=∀ i,w<=i->l i=0
theorem Dg.le {l:Ps} {w w':Nat} (h:Dg l w) (hw:w<=w'):Dg l w':=fun i hi=>h i #[O]
theorem zjQ:∀ {n:Nat} {b l:Ps} {w:Nat},Dg l w->Dg (mq 0 n b l) (w+(n - 1))
 | 0,_,_,_,_=>fun i _=>by simp [mq]
 | n+1,b,l,w,h=>fun i hi=>by
  have ih:=zjQ (n:=n) (b:=fun t=>b (t+1)) h;simp only [mq,eJ,g7];rw [h i #[O],jE,eK];unfold Xl;split
  ·rfl
  ·cases n with
   | zero=>simp [mq]
   | succ n=>exact ih _ #[O]
theorem zp3 {a:Int}:∀ {w:Nat} {l:Ps},sh a (w+1) (Xl l)=fun i=>Xl (sh a w l) i+a*sh a w l i
 | w,l=>by
  funext i;have e:(fun t=>Xl l (t+1))=l:=by funext t; simp [Xl]
  cases i with
  | zero=>simp only [sh,e]; simp [Xl]
  | succ i=>simp only [sh,e]; simp [Xl]
theorem zkW {a c:Int} {w:Nat} {l:Ps}:sh a w (fun i=>c*l i)=fun i=>c*sh a w l i:=funext fun _=>zc2
theorem zfj {a:Int} {w:Nat} {u v:Ps}:sh a w #[UK]=fun i=>sh a w u i+sh a w v i:=funext fun _=>zfW
theorem zfk {a:Int} {w w':Nat} {l:Ps} (h:Dg l w) (hw:w<=w'):sh a w' l=sh a w l:=funext fun _=>zkS hw fun t h1 _=>h t h1
theorem zp4 {a:Int}:∀ {n:Nat} {b l:Ps} {w W:Nat},Dg l w->w+n<=W->sh a W (mq 0 n b l)=mq a n b (sh a W l)
 | 0,_,_,_,_,_,_=>by
  funext i;simp only [mq];rw [zcm];exact zcH fun t _=>by simp
 | n+1,b,l,w,W,h,hW=>by
  have ih:=zp4 (a:=a) (n:=n) (b:=fun t=>b (t+1)) (w:=w) (W:=W) h #[O];have hd:Dg #[Sg] (W - 1):=(zjQ h).le #[O];have e1:sh a W (Xl #[Sg])=fun i=>Xl (sh a W #[Sg]) i+a*sh a W #[Sg] i:=by
   have:=zp3 (a:=a) (w:=W - 1) (l:=mq 0 n #[KB] l);rw [show W - 1+1=W by lia] at this;rw [this,zfk hd (show W - 1<=W by lia)]
  have e2:mq 0 (n+1) b l=fun i=>b 0*l i+Xl #[Sg] i:=by
   funext i;simp only [mq,eJ,g7]
  rw [e2,zfj,zkW,e1,ih];rfl
def Od (p:Int) (l:Ps) (r:Nat):Prop:=∀ i,i < r->Cg p (l i) 0
theorem Od.le {p:Int} {l:Ps} {r r':Nat} (h:Od p l r) (hr:r'<=r):Od p l r':=fun i hi=>h i #[O]
theorem Od.add {p:Int} {u v:Ps} {r:Nat} (h:Od p u r) (h':Od p v r):Od p #[UK] r:=fun i hi=>((h i hi).add (h' i hi)).trans #[Rp]
theorem Od.mul {p:Int} {u:Ps} {r:Nat} (c:Int) (h:Od p u r):Od p (fun i=>c*u i) r:=fun i hi=>((Cg.refl p c).mul (h i hi)).trans #[Rp]
theorem Od.Xl {p:Int} {u:Ps} {r:Nat} (h:Od p u r):Od p (Xl u) (r+1):=fun i hi=>by
 unfold My.Xl;split
 ·exact Cg.refl _ _
 ·exact h _ #[O]
theorem Od.mq {p a:Int}:∀ {n:Nat} {b l:Ps} {r:Nat},Od p l r->Od p (mq a n b l) r
 | 0,_,_,_,_=>fun i _=>by simp only [My.mq]; exact Cg.refl _ _
 | n+1,b,l,r,h=>by
  have ih:=Od.mq (a:=a) (n:=n) (b:=fun t=>b (t+1)) h;exact (h.mul (b 0)).add ((ih.Xl.le (ir _)).add (ih.mul a))
theorem Od.less {p a:Int}:∀ {n:Nat} {b l:Ps} {r:Nat},Od p l r->Od p (fun i=>My.mq a n b l i + -(vl n b a)*l i) (r+1)
 | 0,b,l,r,_=>fun i _=>by simp only [My.mq,vl]; exact Cg.of_eq #[M]
 | n+1,b,l,r,h=>by
  have ih:=Od.less (a:=a) (n:=n) (b:=fun t=>b (t+1)) h;have e:(fun i=>My.mq a (n+1) b l i + -(vl (n+1) b a)*l i)=fun i=>My.Xl (My.mq a n #[KB] l) i+a*(My.mq a n #[KB] l i + -(vl n #[KB] a)*l i):=by
   funext i;simp only [My.mq,vl];grind
  rw [e];exact (Od.mq (a:=a) h).Xl.add (ih.mul a)
theorem zjR {p:Int} {B:Ps->Ps} (hB:∀ l r,Od p l r->Od p (B l) (r+1)):∀ {n:Nat} {F:Nat->Ps} {m v:Nat},(∀ t,Od p (F t) (m - t))->Od p (shO B n F v) (m - v)
 | 0,_,_,_,_=>fun i _=>by simp only [shO]; exact Cg.refl _ _
 | n+1,F,m,0,h=>by
  have ih:=zjR hB (n:=n) (F:=fun t=>F (t+1)) (m:=m - 1) (v:=0) fun t=>(h (t+1)).le #[O]
  exact (h 0).add ((hB _ _ ih).le #[O])
 | n+1,F,m,v+1,h=>by
  have ih:=fun v=>zjR hB (n:=n) (F:=fun t=>F (t+1)) (m:=m - 1) (v:=v) fun t=>(h (t+1)).le #[O]
  exact ((ih v).le #[O]).add ((hB _ _ (ih (v+1))).le #[O])
theorem zf1 {k1:Nat} {b:Ps}:∀ {n:Nat} {F:Nat->Ps} {S v:Nat},(∀ t,Dg (F t) (S - k1*t))->Dg (shO (mq 0 (k1+1) b) n F v) (S - k1*v)
 | 0,_,_,_,_=>fun i _=>by simp [shO]
 | n+1,F,S,v,h=>by
  have h':∀ t,Dg (F (t+1)) (S - k1 - k1*t):=fun t=>(h (t+1)).le (by rw [hJ]; lia)
  have ih:=fun v=>zf1 (k1:=k1) (b:=b) (n:=n) (F:=fun t=>F (t+1)) (S:=S - k1) (v:=v) h'
  have hz:∀ v,S<=k1*(v+1)->#[Q7]=fun _=>0:=fun v hv=>by
   funext i;exact ih v i (by rw [hJ] at hv; lia)
  have hb:∀ v,Dg (mq 0 (k1+1) b #[Q7]) (S - k1*v):=fun v=>by
   by_cases hv:S<=k1*(v+1)
   ·rw [hz v hv,(zf0 0 (k1+1) b).z];exact fun i _=>rfl
   ·exact (zjQ (ih v)).le (by rw [hJ] at hv; lia)
  cases v with
  | zero =>
   intro i hi;simp only [shO];rw [h 0 i hi,hb 0 i hi];rfl
  | succ v =>
   intro i hi;simp only [shO];rw [ih v i (by rw [hJ] at hi; lia),hb (v+1) i hi];rfl
theorem znP {a:Int} {k1 W:Nat} {b:Ps}:∀ {n:Nat} {F:Nat->Ps} {S v:Nat},(∀ t,Dg (F t) (S - k1*t))->S+(k1+1)<=W->sh a W (shO (mq 0 (k1+1) b) n F v)=shO (mq a (k1+1) b) n (fun t=>sh a W (F t)) v
 | 0,F,_,_,_,_=>by
  funext i;simp only [shO];rw [zcm];exact zcH fun t _=>by simp
 | n+1,F,S,v,h,hW=>by
  have h':∀ t,Dg (F (t+1)) (S - k1 - k1*t):=fun t=>(h (t+1)).le (by rw [hJ]; lia)
  have ih:=fun v=>znP (a:=a) (k1:=k1) (W:=W) (b:=b) (n:=n) (F:=fun t=>F (t+1)) (S:=S - k1) (v:=v) h' #[O]
  have hm:∀ v,sh a W (mq 0 (k1+1) b #[Q7])=mq a (k1+1) b (sh a W #[Q7]):=fun v =>
   zp4 (w:=S) ((zf1 (k1:=k1) (b:=b) (n:=n) (F:=fun t=>F (t+1)) (S:=S - k1) (v:=v) h').le #[O]) hW
  cases v with
  | zero =>
   simp only [shO];rw [zfj,hm,ih]
  | succ v =>
   simp only [shO];rw [zfj,hm,ih,ih]
theorem ziZ {c:Int}:∀ {n:Nat} {F:Nat->Ps} {v i:Nat},shO (fun l i=>c*l i) n F v i=sh c n (fun t=>F t i) v
 | 0,_,_,_=>by simp [shO,sh]
 | n+1,F,0,i=>by simp only [shO,sh]; rw [ziZ]
 | n+1,F,v+1,i=>by simp only [shO,sh]; rw [ziZ,ziZ]
theorem zq9 {s:Nat} {G:Tm->Int} {X y:Int} {u v:Nat}:(sm (s+1) fun j=>sm (s+1) fun i=>G (i,j)*cv (i,j) ⟨X,y,u,v⟩)=sh y (s+1) (fun j=>sh X (s+1) (fun i=>G (i,j)) u) v:=by
 rw [zcm];refine zaD fun j _=>?_
 rw [zcm,<- zcG];refine zaD fun i _=>?_
 unfold cv cf;grind
def qx (x0:Int) (n:Nat) (A:Ps):Ps:=fun j=>hs x0 n A (j+1)
theorem zp5 {n:Nat} {A:Ps}:Dg #[IR] n:=fun i hi=>zcI #[O]
theorem zp6 {n:Nat} {A:Ps} (hA:Dg A n) (i:Nat):A i=Xl (qx x0 n A) i + -x0*qx x0 n A i+(if i=0 then hs x0 n A 0 else 0):=by
 by_cases h:i < n
 ·have e:=zea (b:=x0) (l:=A) h;unfold qx Xl;cases i with
  | zero=>simp only [if_true]; grind
  | succ i=>simp only [dw]; rw [if_neg #[O],if_neg #[O]]; grind
 ·rw [hA i #[O]];unfold qx Xl;rw [zcI (j:=i+1) #[O]];cases i with
  | zero=>simp only [if_true]; rw [zcI #[O]]; simp
  | succ i=>simp only [dw]; rw [if_neg #[O],if_neg #[O],zcI #[O]]; simp
theorem zlX {a:Int} {n:Nat} {A:Ps}:sh a (n+1) A 0=hs a (n+1) A 0:=(zkU).1
theorem znQ {p x1:Int} {n:Nat} {A:Ps} (hA:Dg A (n+1)) (hW:n+1<=W) (h0:Cg p (hs x0 (n+1) A 0) 0) (i:Nat):Cg p (sh x1 W A i) (Xl (sh x1 W #[IR]) i+(x1 - x0)*sh x1 W #[IR] i):=by
 have hd:Dg #[IR] (W - 1):=(zp5 (x0:=x0) (n:=n) (A:=A)).le #[O];have e1:sh x1 W (Xl #[IR])=fun i=>Xl (sh x1 W #[IR]) i+x1*sh x1 W #[IR] i:=by
  have:=zp3 (a:=x1) (w:=W - 1) (l:=qx x0 (n+1) A);rw [show W - 1+1=W by lia] at this;rw [this,zfk hd (show W - 1<=W by lia)]
 have e2:Cg p (sh x1 W A i) (sh x1 W (fun i=>Xl #[IR] i + -x0*qx x0 (n+1) A i) i):=by
  refine zdA #[Uh] fun t _=>?_
  rw [zp6 (x0:=x0) hA t];by_cases ht:t=0
  ·rw [if_pos ht];exact (#[QF].add h0).trans #[P5]
  ·rw [if_neg ht];exact Cg.of_eq #[O]
 refine e2.trans #[R7];rw [zfj,zkW,e1];grind
theorem zpn {p:Int} {n m:Nat} {A:Ps} (hA:Dg A (n+1)) (hW:n+1<=W) (h0:Cg p (hs x0 (n+1) A 0) 0) (h:Od p (sh x0 W A) (m+1)):Od p (sh x0 W #[IR]) m:=fun i hi=>by
 have e:=(znQ (x1:=x0) hA hW h0 (i+1)).symm.trans (h (i+1) #[O]);unfold Xl at e;rw [if_neg #[O],dw] at e;exact (Cg.of_eq (by grind)).trans e
theorem znR {p x1 c:Int} {n m:Nat} {A:Ps} (hA:Dg A (n+1)) (hW:n+1<=W) (h0:Cg p (hs x0 (n+1) A 0) 0) (hc:Cg p (c*(x1 - x0)) 1) (h:Od p (sh x1 W A) m):Od p (sh x1 W #[IR]) m:=by
 have key:∀ i,i < m->Cg p (sh x1 W #[IR] i) 0:=by
  intro i;induction i with
  | zero =>
   intro hi;have e:=(znQ (x1:=x1) hA hW h0 0).symm.trans (h 0 hi);unfold Xl at e;rw [if_pos rfl,eK] at e;have e1:Cg p (c*((x1 - x0)*sh x1 W #[IR] 0)) (c*0):=(Cg.refl p c).mul e;have e2:Cg p (c*(x1 - x0)*sh x1 W #[IR] 0) (1*sh x1 W #[IR] 0):=hc.mul #[Uh];exact #[Rp].trans (e2.symm.trans ((Cg.of_eq (by grind)).trans (e1.trans #[Rp])))
  | succ i ih =>
   intro hi;have Dp:=ih #[O];have e:=(znQ (x1:=x1) hA hW h0 (i+1)).symm.trans (h (i+1) hi);unfold Xl at e;rw [if_neg #[O],dw] at e;have e0:Cg p ((x1 - x0)*sh x1 W #[IR] (i+1)) 0:=by
    have:=e.sub Dp;exact (Cg.of_eq (by grind)).trans (this.trans #[Rp])
   have e1:Cg p (c*((x1 - x0)*sh x1 W #[IR] (i+1))) (c*0):=(Cg.refl p c).mul e0;have e2:Cg p (c*(x1 - x0)*sh x1 W #[IR] (i+1)) (1*sh x1 W #[IR] (i+1)):=hc.mul #[Uh];exact #[Rp].trans (e2.symm.trans ((Cg.of_eq (by grind)).trans (e1.trans #[Rp])))
 exact key
theorem zlY {p:Int} (hp:p∈zt) {x y:Int} (hx:0<=x/\x < p) (hy:0<=y/\y < p) (p7:x≠y):∃ c,Cg p (c*(x - y)) 1:=by
 have rp:=zC hp;by_cases h:y < x
 ·exact⟨inv p (x - y),zeu hp #[O] #[O]⟩
 ·refine⟨inv p (x - y+p),?_⟩;have:=zeu hp (h:=x - y+p) #[O] #[O];refine Cg.trans ?_ this;exact #[QF].mul (show Cg p (x - y) (x - y+p) from ⟨-1,#[O]⟩)
def wsum:List (Int×Nat)->Nat
 | []=>0
 | q :: r=>q.2+wsum r
theorem zf2 {p:Int} (hp:p∈zt) {W:Nat}:∀ (L:List (Int×Nat)) (n:Nat) (A:Ps),Dg A n->n<=W->L.Pairwise (fun a b=>a.1≠b.1)->(∀ q∈L,0<=q.1/\q.1 < p)->n<=wsum L->(∀ q∈L,Od p (sh q.1 W A) q.2)->∀ i,Cg p (A i) 0
 | [],n,A,hA,hW,hn,hr,qG,ho=>fun i=>by
  rw [hA i (by simp only [wsum] at qG; lia)]; exact Cg.refl _ _
 | (x,m) :: r,n,A,hA,hW,hn,hr,qG,ho=>by
  have hx:=hr (x,m) (.head _);simp only at hx;cases hn with
  | cons hd hn =>
  have qA:∀ q∈r,0<=q.1/\q.1 < p:=fun q hq=>hr q (.tail _ hq)
  induction m generalizing n A with
  | zero=>exact zf2 hp r n A hA hW hn qA (by simp only [wsum] at qG; lia) fun q hq=>ho q (.tail _ hq)
  | succ m ih =>
   cases n with
   | zero=>intro i; rw [hA i #[O]]; exact Cg.refl _ _
   | succ n =>
    have h0:Cg p (hs x (n+1) A 0) 0:=by
     have:=ho (x,m+1) (.head _) 0 #[M];simp only at this;rw [zfk hA hW,zlX] at this;exact this
    have hq:=ih (n:=n) (A:=qx x (n+1) A) zp5 #[O] (hr:=fun q hq=>by
      cases hq with
      | head=>exact hx
      | tail _ hq=>exact qA q hq) (by simp only [wsum] at qG |-; lia) (fun q hq=>by
      cases hq with
      | head=>exact zpn hA hW h0 (ho (x,m+1) (.head _))
      | tail _ hq =>
       obtain⟨c,hc⟩:=zlY hp (qA q hq) hx (eG (hd q hq));exact znR hA hW h0 hc (ho q (.tail _ hq))) hd
    intro i;rw [zp6 (x0:=x) hA i];have e1:Cg p (Xl (qx x (n+1) A) i) 0:=by
     unfold Xl;split
     ·exact Cg.refl _ _
     ·exact hq _
    have e2:Cg p (-x*qx x (n+1) A i) (-x*0):=(Cg.refl p (-x)).mul (hq i);have e3:Cg p (if i=0 then hs x (n+1) A 0 else 0) 0:=by
     split
     ·exact h0
     ·exact Cg.refl _ _
    exact ((e1.add e2).add e3).trans #[Rp]
theorem zi0 {m:Nat}:∀ (l:List (Int×Int)),wsum (l.map fun q=>(q.1,m))=m*l.length
 | []=>rfl
 | q :: r=>by
  simp only [bX,wsum,dM,hJ];rw [zi0 r];lia
theorem zhH {p:Int} (hp:p∈zt) {k1 s m:Nat} {g:Tm->Int} {f:Ps} (rR:∀ t,s < tz (k1+1) t->g t=0) (hx:pJ.Pairwise fun a b=>a.1≠b.1) (hr:∀ q∈pJ,0<=q.1/\q.1 < p) (hf:∀ q∈pJ,Cg p (vl (k1+1) f q.1) q.2) (hw:∀ q∈pJ,∀ u v,u+v < m->Cg p (sh q.2 (s+1) (fun j=>sh q.1 (s+1) (fun i=>g (i,j)) u) v) 0) (hs:s < m*pJ.length) (i:Nat):Cg p (shO (mq 0 (k1+1) f) (s+1) (fun t i=>g (i,t)) 0 i) 0:=by
 obtain⟨F,eF⟩:∃ F:Nat->Ps,F=fun t i=>g (i,t):=⟨_,rfl⟩
 rw [<- eF];have etz:∀ i j,tz (k1+1) (i,j)=i+k1*j:=fun i j=>rfl
 have hF:∀ t,Dg (F t) (s+1 - k1*t):=fun t i hi=>by
  rw [eF];exact rR (i,t) (by rw [etz]; lia)
 obtain⟨W,eW⟩:∃ W,W=s+1+(k1+1):=⟨_,rfl⟩;refine zf2 hp (W:=W) (pJ.map fun q=>(q.1,m)) (s+1) _ (zf1 (v:=0) hF |>.le #[O]) #[O] (dE.mpr hx) (fun q hq=>?_) (by rw [zi0]; lia) (fun q hq=>?_) i
 ·obtain⟨q',rf,rfl⟩:=aZ.mp hq;exact hr q' rf
 ·obtain⟨⟨x0,y0⟩,rf,rfl⟩:=aZ.mp hq;have hf:=hf _ rf;have hw:=hw _ rf;dsimp only at hf hw |-;rw [znP (S:=s+1) hF #[O]];have aC:∀ d:Int,Add (fun (l:Ps) i=>d*l i):=fun d=>⟨fun u v=>by funext i; exact n5 _ _ _⟩
  have aM:=zf0 x0 (k1+1) f;have aE:Add (fun (l:Ps) i=>mq x0 (k1+1) f l i + -#[UJ]*l i):=⟨fun u v=>by
   rw [aM.a];funext i;grind⟩
  obtain⟨z,ez⟩:∃ z,z=vl (k1+1) f x0:=⟨_,rfl⟩;have e6:mq x0 (k1+1) f=fun (l:Ps) i=>(fun (l:Ps) i=>z*l i) l i+(fun (l:Ps) i=>mq x0 (k1+1) f l i + -#[UJ]*l i) l i:=by
   funext l i;rw [ez];grind
  have e7:shO (mq x0 (k1+1) f) (s+1) #[Up] 0=shO (fun (l:Ps) i=>mq x0 (k1+1) f l i + -#[UJ]*l i) (s+1) (shO (fun (l:Ps) i=>z*l i) (s+1) #[Up]) 0:=by
   rw [zhF (aC z) aE fun l=>by
    funext i;have:=congrFun (zjP x0 z (k1+1) f l) i;dsimp only at this |-;rw [this];grind]
   rw [<- e6]
  rw [e7];have:=zjR (p:=p) (m:=m) (v:=0) (n:=s+1) (B:=fun (l:Ps) i=>mq x0 (k1+1) f l i + -#[UJ]*l i) (F:=shO (fun (l:Ps) i=>z*l i) (s+1) #[Up]) (fun l r hl=>Od.less hl) (fun t i hi=>?_)
  ·exact this
  rw [ziZ];have e8:(fun j=>sh x0 W (F j) i)=fun j=>sh x0 (s+1) (fun i=>g (i,j)) i:=by
   funext j;rw [zfk (w:=s+1) ((hF j).le #[O]) #[O],eF]
  rw [e8];exact (zdA (by rw [ez]; exact hf) fun _ _=>Cg.refl _ _).trans (hw i t #[O])
def AL (k:Nat) (f:Ps) (n:Nat) (F:Nat->Ps):Ps:=shO (mq 0 k f) n F 0
def Zr (p:Int) (l:Ps):Prop:=∀ i,Cg p (l i) 0
theorem zp7:∀ {n:Nat} {f g:Ps} (l:Ps),(∀ i,i < n->f i=g i)->mq 0 n f l=mq 0 n g l
 | 0,_,_,_,_=>rfl
 | n+1,f,g,l,h=>by
  have ih:=zp7 (n:=n) (f:=fun t=>f (t+1)) (g:=fun t=>g (t+1)) l fun i hi=>h (i+1) #[O]
  funext i;simp only [mq];rw [ih,h 0 #[O]]
theorem zp8 {n:Nat} {f g:Ps} (h:∀ i,i < k->f i=g i):AL k f n F=AL k g n F:=by
 unfold AL;have:mq 0 k f=mq 0 k g:=funext fun l=>zp7 l h
 rw [this]
theorem znS:∀ (n:Nat) (b l:Ps),Xl (mq 0 n b l)=mq 0 n b (Xl l)
 | 0,b,l=>by
  funext i;unfold Xl mq;split <;> rfl
 | n+1,b,l=>by
  have ih:=znS n #[KB] l;have e:mq 0 (n+1) b l=fun i=>b 0*l i+Xl #[Sg] i:=by
   funext i;simp only [mq,eJ,g7]
  have e2:mq 0 (n+1) b (Xl l)=fun i=>b 0*Xl l i+Xl (mq 0 n #[KB] (Xl l)) i:=by
   funext i;simp only [mq,eJ,g7]
  rw [e,e2,zhG,zjO,ih]
theorem AX:Add Xl:=⟨zhG⟩
theorem zsC {n:Nat} {f:Ps} :AL k f n (fun j=>Xl (F j))=Xl (AL k f n F):=zee AX (znS k f)
theorem zsD {p:Int} {l:Ps}:Zr p (Xl l)↔Zr p l:=by
 constructor
 ·intro h i;have:=h (i+1);simpa [Xl] using this
 ·intro h i;unfold Xl;split
  ·exact Cg.refl _ _
  ·exact h _
theorem zf3 {B:Ps->Ps}:∀ {n:Nat} {F G:Nat->Ps} {j:Nat},(∀ t,t < n->F t=G t)->shO B n F j=shO B n G j
 | 0,_,_,_,_=>rfl
 | n+1,F,G,0,h=>by
  simp only [shO];rw [h 0 #[O],zf3 (n:=n) (F:=fun t=>F (t+1)) (G:=fun t=>G (t+1)) fun t ht=>h (t+1) #[O]]
 | n+1,F,G,j+1,h=>by
  simp only [shO];rw [zf3 (n:=n) (F:=fun t=>F (t+1)) (G:=fun t=>G (t+1)) (j:=j) fun t ht=>h (t+1) #[O],zf3 (n:=n) (F:=fun t=>F (t+1)) (G:=fun t=>G (t+1)) (j:=j+1) fun t ht=>h (t+1) #[O]]
theorem zhI {p:Int} {k n:Nat} {f:Ps}:∀ {s:Nat} {F:Nat->Ps},(∀ j i,j < n->i < s->F j i=0)->(Zr p (AL k f n F)↔Zr p (AL k f n fun j i=>F j (i+s)))
 | 0,F,_=>Iff.rfl
 | s+1,F,h=>by
  have e:AL k f n F=AL k f n fun j=>Xl fun i=>F j (i+1):=zf3 fun t ht=>by
   funext i;unfold Xl;split
   ·next h0=>rw [h0]; exact h t 0 ht #[O]
   ·next h0 =>
    show F t i=F t (i - 1+1);rw [show i - 1+1=i by lia]
  rw [e,zsC,zsD,zhI (s:=s) (F:=fun j i=>F j (i+1)) fun j i hj hi=>h j (i+1) hj #[O]];have e2:(fun (j:Nat) (i:Nat)=>F j (i+s+1))=fun j i=>F j (i+(s+1)):=rfl
  rw [e2]
def nxc (b:Int) (n:Nat) (F:Nat->Ps) (j i:Nat):Int:=if i < j then 0 else sh b n (fun t=>F t (i - j)) j
def Xp:Nat->Ps->Ps
 | 0,l=>l
 | s+1,l=>Xl (Xp s l)
theorem zp9:∀ (s:Nat) (l:Ps) (i:Nat),Xp s l i=if i < s then 0 else l (i - s)
 | 0,l,i=>by rw [if_neg #[O]]; rfl
 | s+1,l,i=>by
  show Xl (Xp s l) i=_;unfold Xl;split
  ·next h=>rw [h,if_pos #[O]]
  ·next h =>
   rw [zp9 s l (i - 1)];by_cases h1:i - 1 < s
   ·rw [if_pos h1,if_pos #[O]]
   ·rw [if_neg h1,if_neg #[O],show i - 1 - s=i - (s+1) by lia]
theorem zqa {M:Ps->Ps} (hM:∀ l,Xl (M l)=M (Xl l)):∀ {n:Nat} {G:Nat->Ps},shO (fun l=>Xl (M l)) n G 0=shO M n (fun j=>Xp j (G j)) 0
 | 0,_=>rfl
 | n+1,G=>by
  have ih:=zqa hM (n:=n) (G:=fun t=>G (t+1));have e:shO M n (fun t=>Xp (t+1) (G (t+1))) 0=Xl (shO M n (fun t=>Xp t (G (t+1))) 0):=zee (C:=Xl) AX hM (F:=fun t=>Xp t (G (t+1)));simp only [shO];rw [ih];funext i;show G 0 i+Xl (M (shO M n (fun j=>Xp j (G (j+1))) 0)) i=G 0 i+M (shO M n (fun t=>Xp (t+1) (G (t+1))) 0) i;rw [e,hM]
theorem zpo {n:Nat} {f:Ps} :AL (k+1) f n F=AL k #[Tu] n (nxc (f 0) n F):=by
 have aC:Add (fun (l:Ps) i=>f 0*l i):=⟨fun u v=>by funext i; exact n5 _ _ _⟩;have aM:=zf0 0 k fun t=>f (t+1)
 have aX:Add (fun l=>Xl (mq 0 k #[Tu] l)):=⟨fun u v=>by rw [aM.a,zhG]⟩;have e:mq 0 (k+1) f=fun (l:Ps) i=>(fun (l:Ps) i=>f 0*l i) l i+(fun l=>Xl (mq 0 k #[Tu] l)) l i:=by
  funext l i;simp only [mq,eJ,g7]
 unfold AL;rw [e,<- zhF aC aX fun l=>by
  funext i;show f 0*Xl (mq 0 k #[Tu] l) i=Xl (mq 0 k #[Tu] (fun i=>f 0*l i)) i;rw [zjP,zjO],zqa (znS k _)]
 refine zf3 fun j hj=>?_
 funext i;rw [zp9];unfold nxc;split
 ·rfl
 ·rw [ziZ]
theorem zr7 {p:Int} {n:Nat} {b l l':Ps} (h:∀ i,Cg p (l i) (l' i)) (i:Nat):Cg p (mq 0 n b l i) (mq 0 n b l' i):=by
 induction n generalizing b i with
 | zero=>exact Cg.refl _ _
 | succ n ih =>
  simp only [mq,eJ,g7];refine (#[QF].mul (h i)).add ?_;unfold Xl;split
  ·exact Cg.refl _ _
  ·exact ih _
theorem zqb {p:Int} {n:Nat} {f:Ps} {G:Nat->Ps} (h:∀ j i,j < n->Cg p (F j i) (G j i)) (i:Nat):Cg p (AL k f n F i) (AL k f n G i):=by
 unfold AL;induction n generalizing F G i with
 | zero=>exact Cg.refl _ _
 | succ n ih =>
  simp only [shO];exact (h 0 i #[O]).add (zr7 (fun i=>ih (fun j i hj=>h (j+1) i #[O]) i) i)
theorem zqc {p:Int} {u v:Ps} (h:∀ i,Cg p (u i) (v i)):Zr p u↔Zr p v:=⟨fun z i=>(h i).symm.trans (z i),fun z i=>(h i).trans (z i)⟩
theorem zra {n:Nat} {f:Ps} :AL (k+1) f n F 0=vl n (fun j=>F j 0) (f 0):=by
 unfold AL;induction n generalizing F with
 | zero=>rfl
 | succ n ih =>
  have ih:=ih (F:=fun t=>F (t+1));have e:∀ l:Ps,mq 0 (k+1) f l 0=f 0*l 0:=fun l=>by simp [mq,Xl]
  show F 0 0+mq 0 (k+1) f (shO (mq 0 (k+1) f) n #[PP] 0) 0=_;rw [e,ih];rfl
theorem zrb {n:Nat} {f:Ps} :AL 0 f (n+1) F=F 0:=by
 unfold AL;funext i;simp [shO,mq]
theorem zr8 {p b:Int} {n:Nat} {l:Nat->Int} (h:∀ j,j < n->Cg p (sh b n l j) 0):∀ j,j < n->Cg p (l j) 0:=fun j hj=>by
 have e:sh (-b) n (sh b n l) j=l j:=by
  rw [zkT,show b + -b=0 by lia,zfg hj]
 rw [<- e];refine (zdA (Cg.refl p (-b)) fun t ht=>h t ht).trans #[R7];have:=zc2 (b:=-b) (c:=0) (n:=n) (u:=fun _=>0) (j:=j);simpa using this
def cns (b:Int) (g:Ps):Ps:=fun i=>if i=0 then b else g (i - 1)
def apl (known:List Int) (g:Ps):Ps:=fun i=>if i < known.length then gl known i else g (i - known.length)
theorem znT (known:List Int) (b:Int) (g:Ps):apl (known++[b]) g=apl known (cns b g):=by
 funext i;unfold apl cns;rw [aL,zq5];show (if i < known.length+1 then (if i < known.length then gl known i else gl [b] (i - known.length)) else g (i - (known.length+1)))=_;by_cases h:i < known.length
 ·rw [if_pos #[O],if_pos h,if_pos h]
 ·by_cases h1:i=known.length
  ·subst h1;rw [if_pos #[O],if_neg h,if_neg h,iM,if_pos rfl];rfl
  ·rw [if_neg #[O],if_neg h,if_neg #[O],show i - known.length - 1=i - (known.length+1) by lia]
structure RS (p:Int) (n:Nat) (F0:Nat->Ps) (s:Nat) (known:List Int) (w:Nat) (c:Nat->Nat->Int):Prop where
 kn:IsP p s known
 dg:∀ j i,w<=i->c j i=0
 rg:∀ j i,0<=c j i/\c j i < p
 nz:∃ j i,j < n/\i < w/\c j i≠0
 is:∀ m g,Zr p (AL (s+m) (apl known g) n F0)↔Zr p (AL m g n c)
def Lea (n w:Nat) (c:Nat->Nat->Int) (e:Nat):Prop:=(∀ j i,j < n->i < e->c j i=0)/\∃ j,j < n/\e < w/\c j e≠0
def zgp (p b:Int) (n e:Nat) (c:Nat->Nat->Int) (j i:Nat):Int:=if j < n/\j<=i then sh b n (fun t=>c t (i - j+e)) j % p else 0
theorem zpp {p:Int} (hp:p∈zt) {n:Nat} {s w:Nat} {c:Nat->Nat->Int} (R:RS p n F0 s known w c) {e:Nat} (L:Lea n w c e) {b:Int} (hb:0<=b/\b < p):RS p n F0 (s+1) (known++[b]) (w - e+(n - 1)) (zgp p b n e c):=by
 have rp:=zC hp;have p0:0 < p:=by lia
 refine⟨⟨by rw [aL,R.kn.1]; rfl,fun x hx=>?_⟩,fun j i hi=>?_,fun j i=>?_,?_,fun m g=>?_⟩
 ·rcases bQ.mp hx with h | h
  ·exact R.kn.2 x h
  ·rw [bF.mp h]; exact hb
 ·unfold zgp;split
  ·next h =>
   have e0:sh b n (fun t=>c t (i - j+e)) j=sh b n #[VR] j:=zdz fun t _=>R.dg t _ #[O]
   have e1:sh b n (fun _=>(0:Int)) j=0:=by
    have:=zc2 (b:=b) (c:=0) (n:=n) (u:=fun _=>0) (j:=j);simpa using this
   rw [e0,e1];rfl
  ·rfl
 ·unfold zgp;split
  ·exact#[Rf]
  ·lia
 ·obtain⟨j0,uz,JG,p7⟩:=L.2;refine dm fun hno=>p7 ?_
  have hz:∀ j,j < n->Cg p (sh b n (fun t=>c t e) j) 0:=fun j hj=>by
   have:zgp p b n e c j j=0:=dm fun h=>hno ⟨j,j,hj,#[O],h⟩
   unfold zgp at this;rw [if_pos ⟨hj,aG _⟩,iM,eC] at this;exact #[Qv].symm.trans (Cg.of_eq this)
  have:=zr8 hz j0 uz;obtain⟨a0,a1⟩:=R.rg j0 e;exact Cg.eq this a0 a1 (dB 0) p0
 ·have h1:=R.is (m+1) (cns b g);rw [show s+(m+1)=s+1+m by lia,<- znT] at h1;rw [h1,zhI (s:=e) L.1,zpo];have eg:(fun t=>cns b g (t+1))=g:=by
   funext t;unfold cns;rw [if_neg #[O],dw]
  have eb:cns b g 0=b:=rfl;rw [eg,eb];refine zqc fun i=>zqb (fun j i hj=>?_) i
  unfold nxc zgp;by_cases h:i < j
  ·rw [if_pos h,if_neg #[O]];exact Cg.refl _ _
  ·rw [if_neg h,if_pos ⟨hj,#[O]⟩];exact #[Qv].symm
theorem zrc {p:Int} {n w:Nat} {c:Nat->Nat->Int} {e m:Nat} {f:Ps} (L:Lea n w c e) (h:Zr p (AL (m+1) f n c)):Cg p (vl n (fun j=>c j e) (f 0)) 0:=by
 have h1:=(zhI (s:=e) L.1).mp h 0;rw [zra] at h1;simpa using h1
theorem zrd {p:Int} (hp:p∈zt) {n:Nat} {s w:Nat} {c:Nat->Nat->Int} (R:RS p (n+1) F0 s known w c):Zr p (AL s (gl known) (n+1) F0)↔∀ i,i < w->c 0 i=0:=by
 have rp:=zC hp;have h:=R.is 0 #[VR];rw [zrb,f'] at h;have e:AL s (apl known fun _=>0) (n+1) F0=AL s (gl known) (n+1) F0:=zp8 fun i hi=>by
  unfold apl;rw [if_pos (by rw [R.kn.1]; exact hi)]
 rw [e] at h;rw [h];constructor
 ·intro z i _;obtain⟨a0,a1⟩:=R.rg 0 i;exact Cg.eq (z i) a0 a1 (dB 0) #[O]
 ·intro z i;by_cases hi:i < w
  ·rw [z i hi]; exact Cg.refl _ _
  ·rw [R.dg 0 i #[O]]; exact Cg.refl _ _
theorem zpq {p:Int} {n:Nat} {s w m:Nat} {f:List Int} {c:Nat->Nat->Int} (R:RS p n F0 s known w c) (hf:f.length=s+m) (hk:known=f.take s) (h:Zr p (AL (s+m) (gl f) n F0)):Zr p (AL m (fun i=>gl f (s+i)) n c):=by
 refine (R.is m _).mp ?_;have e:AL (s+m) (gl f) n F0=AL (s+m) (apl known fun i=>gl f (s+i)) n F0:=zp8 fun i hi=>by
  unfold apl;rw [R.kn.1];split
  ·next h1 =>
   rw [hk];unfold gl;rw [bY,bY,nJ,if_pos h1]
  ·next h1 =>
   show gl f i=gl f (s+(i - s));rw [show s+(i - s)=i by lia]
 rw [<- e];exact h
theorem zre {r:List Int} {m:Nat} (h:q∈trm j r m):∃ i:Nat,q=((i:Int),(j:Int))/\i < m/\gl r i≠0:=by
 unfold trm at h
 (obtain⟨i,hi,rfl⟩:=aZ.mp h)
 obtain⟨h1,h2⟩:=cV.mp hi;exact⟨i,rfl,bU.mp h1,of_decide_eq_true h2⟩
theorem zkX {n w:Nat} {c:Nat->Nat->Int} {i:Nat} (hj:j < n) (hi:i < w):gl (#[Vj].getD j []) i=c j i:=by
 have e:#[Vj].getD j []=(bA w).map fun i=>c j i:=by rw [bY,zav hj]; rfl
 rw [e];exact zbX (by rw [aF,cH hi]; rfl)
theorem zi1 {n w:Nat} {c:Nat->Nat->Int} (hj:j < n):(#[Vj].getD j []).length=w:=by
 rw [bY,zav hj];show ((bA w).map fun i=>c j i).length=w;rw [aA,bI]
theorem zaS (n w:Nat) (g:Nat->Nat->Int):#[TC].length=n:=by unfold zK; rw [aA,bI]
theorem zf4 {n w:Nat} {c:Nat->Nat->Int} {r:List Int} (h:r∈zK n w c):r.length=w:=by
 unfold zK at h;obtain⟨j,_,rfl⟩:=aZ.mp h;rw [aA,bI]
theorem zdj {n w:Nat} {c:Nat->Nat->Int} :q∈zat #[Vj] n↔∃ i j:Nat,q=((i:Int),(j:Int))/\j < n/\i < w/\c j i≠0:=by
 unfold zat;rw [fW];constructor
 ·rintro⟨j,hj,h⟩;have hj:=bU.mp hj;rw [zi1 hj] at h;obtain⟨i,rfl,h1,h2⟩:=zre h;rw [zkX hj h1] at h2;exact⟨i,j,rfl,hj,h1,h2⟩
 ·rintro⟨i,j,rfl,hj,hi,h⟩;refine⟨j,bU.mpr hj,?_⟩;rw [zi1 hj];unfold trm;exact aZ.mpr ⟨i,cV.mpr ⟨bU.mpr hi,decide_eq_true (by rw [zkX hj hi]; exact h)⟩,rfl⟩
theorem zrf {n w:Nat} {c:Nat->Nat->Int} {M:Int} (h1:M∈(zat #[Vj] n).map (·.1)) (h2:∀ a∈(zat #[Vj] n).map (·.1),M<=a):∃ e:Nat,M=e/\Lea n w c e:=by
 obtain⟨q,hq,rfl⟩:=aZ.mp h1;obtain⟨i,j,rfl,hj,hi,hc⟩:=zdj.mp hq;refine⟨i,rfl,fun j' i' sJ qF=>dm fun p7=>?_,j,hj,hi,hc⟩;have:=h2 _ (aZ.mpr ⟨_,zdj.mpr ⟨i',j',rfl,sJ,#[O],p7⟩,rfl⟩);have:(i:Int)<=(i':Int):=this;lia
def zcd (n e:Nat) (c:Nat->Nat->Int):List Int:=(bA n).map fun j=>c j e
theorem zef (n e:Nat) (c:Nat->Nat->Int):#[QD].length=n:=by unfold zcd; rw [aA,bI]
theorem zrg {n e:Nat} {c:Nat->Nat->Int} (h:j < n):gl #[QD] j=c j e:=zbX (by unfold zcd; rw [aF,cH h]; rfl)
def nums (p:Int) (n e:Nat) (c:Nat->Nat->Int) (m:Nat):List Int:=((bA m).map fun b:Nat=>(b:Int)).filter fun b=>decide (zA p b #[QD]=0)
theorem zg1 (p:Int) (n e:Nat) (c:Nat->Nat->Int) (m:Nat):nums p n e c (m+1)=nums p n e c m++if zA p (m:Int) #[QD]=0 then [(m:Int)] else []:=by
 unfold nums;rw [fE,aN,eE];congr 1;rw [bX,iJ,List.filter_cons,gQ];by_cases h:zA p (m:Int) #[QD]=0
 ·rw [if_pos h,if_pos #[VA]]
 ·rw [if_neg h,if_neg (by simpa using h)]
theorem zeg {p:Int} {n e m:Nat} {c:Nat->Nat->Int} {b:Int}:b∈nums p n e c m↔(0<=b/\b < m)/\zA p b #[QD]=0:=by
 unfold nums;rw [cV,aZ];constructor
 ·rintro⟨⟨x,hx,rfl⟩,h⟩;have:=bU.mp hx;exact⟨#[wS],of_decide_eq_true h⟩
 ·rintro⟨⟨h1,h2⟩,h⟩;exact⟨⟨b.toNat,bU.mpr #[O],#[O]⟩,decide_eq_true h⟩
theorem zf5 (p:Int) (n e:Nat) (c:Nat->Nat->Int) (m:Nat):#[S5].Nodup:=mE _ (dE.mpr (jb (fun {a b} G0 e=>G0 #[O]) kM))
theorem znU {p x:Int} {n e:Nat} {c:Nat->Nat->Int}:Cg p (zA p x #[QD]) (vl n (fun j=>c j e) x):=by
 rw [znH];refine (ziT (by rw [zef]; exact aG _)).trans (Cg.of_eq (zaD fun i hi=>?_));rw [zrg hi]
theorem znV {p:Int} (hp:p∈zt) {n w e m:Nat} {c:Nat->Nat->Int} (hm:(m:Int)<=p) (hr:∀ j i,0<=c j i/\c j i < p) (L:Lea n w c e):#[S5].length < n:=by
 have rp:=zC hp;refine dm fun sF=>?_
 have hz:=zdL hp n #[QD] #[S5] (zef _ _ _) #[O] (zf5 p n e c m) (fun x hx=>?_) (fun x hx=>?_)
 ·obtain⟨j,hj,_,p7⟩:=L.2;have h1:=hz (c j e) (aZ.mpr ⟨j,bU.mpr hj,rfl⟩);obtain⟨a0,a1⟩:=hr j e;exact p7 (Cg.eq h1 a0 a1 (dB 0) #[O])
 ·have:=(zeg.mp hx).1;lia
 ·exact Cg.of_eq (zeg.mp hx).2
theorem zjS {α β:Type} {out:List (List α×β)} {done:List (List α)} {qs:List α} {L:List α} (f:α->β) (nd:(out.map (·.1)).Nodup) (hd:∀ o∈out,o.1.dropLast∈done) (hq:qs∉done) (hL:L.Nodup) :
  ((out++L.map fun q=>(qs++[q],f q)).map (·.1)).Nodup/\∀ o∈out++L.map (fun q=>(qs++[q],f q)),o.1.dropLast∈done++[qs]:=by
 constructor
 ·rw [aN,cR];have h1:(L.map ((fun x:List α×β=>x.1) ∘ fun q=>(qs++[q],f q))).Nodup:=dE.mpr (jb (fun {a b} G0 e=>G0 (by
   have e:qs++[a]=qs++[b]:=e;have:=List.append_cancel_left e;injection this)) hL)
  refine gV.mpr ⟨nd,h1,fun a ha b hb e=>?_⟩;obtain⟨o,ho,rfl⟩:=aZ.mp ha;obtain⟨q,rf,rfl⟩:=aZ.mp hb;have h1:=hd o ho;have e:o.1=qs++[q]:=e;rw [e,mF] at h1;exact hq h1
 ·intro o ho;rcases bQ.mp ho with h | h
  ·exact bQ.mpr (.inl (hd o h))
  ·obtain⟨q,_,rfl⟩:=aZ.mp h;refine bQ.mpr (.inr ?_);show (qs++[q]).dropLast∈[qs];rw [mF];exact bF.mpr rfl
end My
end
section
namespace My
end My
end
section
namespace My
open PySem L2 PyProof.Rows
variable {F:Nat->Ps} {k:Nat}
theorem znW {n:Nat} {f:Ps} :∀ {m:Nat},n<=m->(∀ t,n<=t->F t=fun _=>0)->AL k f m F=AL k f n F:=fun {m} hm h=>by
 obtain⟨d,rfl⟩:∃ d,m=n+d:=⟨m - n,#[O]⟩;induction d with
 | zero=>rfl
 | succ d ih =>
  have e:AL k f (n+d+1) F=AL k f (n+d) F:=zfi (zf0 0 k f) (h (n+d) #[O]);rw [show n+(d+1)=n+d+1 by lia,e];exact ih #[O]
end My
end
section
namespace My
open PySem PySem.Spec L2 PyProof.Rows
noncomputable def isAt (H:Hp) (q:List Int) (u:Value):Bool:=@decide (∃ b,u = .ref b/\H b=some (.tup (q.map V.int))) (fR _)
end My
end
section
namespace L2
open PySem PySem.Spec PyProof.Rows
variable {K:aD} {X:Cx}
theorem zeh:∀ (ns:List Int),(bA ns.length).any (fun i=>ns.getD i 0 != 0)=ns.any (· != 0)
 | []=>rfl
 | b :: bs=>by
  rw [dM,gR,jj,List.any_map,jj];have ih:=zeh bs;have e:((fun i=>(b :: bs).getD i 0 != 0) ∘ oo)=fun i=>bs.getD i 0 != 0:=by funext i; rfl
  rw [e,ih];rfl
theorem zlZ (hK:X.K=K) (hc:X.calm=true):zbh X (.builtin "any") (fun xs H Q=>∃ (p:Addr) (ns:List Int),xs = [.ref p]/\pA K H p #[EQ]/\Q (.bl (ns.any (· != 0))) H):=by
 subst hK;intro pv s σ H xs us Q I r h;obtain⟨p,bs,rfl,hq,q⟩:=h;obtain⟨u,rfl,rx⟩:=vals1 r;cases rx;obtain⟨pC,rv,pl,hz⟩:=I.list hq;have hl:=rv.length;rw [aA] at hl;have pT:p < s.heap.objs.size:=by obtain⟨_,_,e,_⟩:=pl; exact aW e
 refine call_any_walk (gT pl.isList ?_);refine⟨s.heap.objs.size,_,_,pC.toArray.size,_,_,fun i=>bs.getD i 0 != 0,rfl,oM (by simp [I.ok.hd hc]) s.heap.objs.size p (bT pT) pC.toArray,⟨⟨_,aY _ rfl,rfl,rfl⟩,pl.isList.push _⟩,fun i v s' Q' E' hP hQ=>?_,fun h' tk kk=>?_⟩
 ·have e1:pC[i]? = some v:=by simpa using hP
  obtain⟨hi,_⟩:=aP.mp e1;have qF:i < bs.length:=by lia
  obtain⟨u,hu,ru⟩:=rv.get (i:=i) (x:=V.int bs[i]) (by rw [aF,aJ qF]; rfl);rw [e1] at hu;cases hu;obtain⟨tk,ru⟩:=(show ∃ t,v=ju bs[i] t from ru);subst ru;have e2:bs.getD i 0=bs[i]:=by simp [qF]
  have hQ:Q' (bs.getD i 0 != 0) s':=hQ;rw [e2] at hQ;exact PyProof.Rows.truthy_int hQ
 ·rw [aO,<- hl,zeh];exact⟨.bl (bs.any (· != 0)),H,I.kept fun b o e=>kk b o (fun z=>by
   have z:b=s.heap.objs.size:=by simpa using z
   exact absurd (aW e) (by rw [z]; exact dI _)) (aH _ e),rfl,q⟩
end L2
end
section
namespace PySem
open PyProof.Rows
theorem zeX:isSubtype (.type "range_iterator") (.type "reversed")=pure false:=by rw [iQ]; kernel_rfl
abbrev zi2 (a b:Int):Obj:={ cls:=.type "range_iterator",data:=.fields #[rawInt (a+(cN a b 1 - 1)*1),rawInt (cN a b 1),rawInt (-1)] }
theorem znX (r:Addr) (a b:Int) (t u v:Tok) (hs:(cE a && cE b && cE 1 && cE (-1) && cE (a - 1) && cE (cN a b 1))=true) :
  Meets (Builtin.«range.__reversed__» ⟨[.ref r],[]⟩) (fun _ R s=>s.heap.get? r=some { cls:=.type "range",dict:=none,data:=.fields #[.int a t,.int b u,.int 1 v],slots:=#[] }/\R (.ok (.ret (bP s.heap.objs.size))) { s with heap:=s.heap.push (zi2 a b) }) :=
 .of_wp fun prog w A R s h=>by
  (obtain⟨hp,g,d,tk,os⟩:=s)
  obtain⟨hl,h⟩:=h
  wp_walk
  rw [hs];exact⟨_,rfl,h⟩
section
variable {prog:Program} {w:World} {A:Around} {E:Value->Shared->Prop} {s:Shared}
theorem zpr {r:Addr} {a b:Int} {t u v:Tok} {Q:Value->Shared->Prop} (hr:IsRange s.heap r a b 1 t u v) (ha:-1000000<=a/\a < 1000000/\-1000000<=b/\b < 1000000)
  (h:Q #[ww] { s with heap:=s.heap.push (zi2 a b) }):wpAny #[ul] A (call (.type "reversed") [.ref r]) Q E s:=by
 have hs:(cE a && cE b && cE 1 && cE (-1) && cE (a - 1) && cE (cN a b 1))=true:=by
  have hz:0<=cN a b 1/\cN a b 1<=2000000:=by
   (unfold cN)
   rw [if_pos #[D],Int.ediv_one];split <;> lia
  generalize cN a b 1=z at hz |-;unfold cE
  (simp only [ic,decide_eq_true_eq])
  lia
 (have hT:s.TypeIs (.ref r) "range":=⟨_,hr,rfl⟩)
 refine callType_other (U:="range_iterator") (Q₁:=fun obj s₁=>obj = .ref s.heap.objs.size/\s₁ = { s with heap:=s.heap.push (zi2 a b) }) #[N] F.create_reversed ⟨_,_,F.mro_reversed⟩ F.made_reversed zeX (lL _) ?_ ?_
 ·refine codeAny_of_tree ?_;show wpAny _ A.in1.in1 (do checkBuiltinCall "reversed.__new__" ⟨[.type "reversed",.ref r],[]⟩; again (.builtin "reversed.__new__" ⟨[.type "reversed",.ref r],[]⟩)) _ _ s;refine (aB (dR (mf _) (aI ⟨gK mG _,gi mh ?_⟩)))
  (rw [fI mG _])
  (unfold Builtin.«reversed.__new__»)
  refine (aB #[Wt])
  try dsimp only
  refine (aB (dR (a:=()) (by first | rfl | kernel_rfl) (aB (dR (a:=()) (by first | rfl | kernel_rfl) ?_))))
  try dsimp only
  refine (aB (jC hT F.slot_range_reversed.lookup ?_))
  try dsimp only
  refine (aB (dR (F.slot_range_reversed.bind _) ?_))
  try dsimp only
  show wpAny _ _ (if (ki "range.__reversed__" == eI)=true then _ else _) _ _ _;rw [if_neg (show ¬ ((ki "range.__reversed__" == eI)=true) from bK)];refine (aB (dO ?_));refine aB (m:=runValue (.call (.builtin "range.__reversed__") ⟨[.ref r],[]⟩)) (show wpAny _ _ (call (.builtin "range.__reversed__") [.ref r]) _ _ _ from gu F.slot_range_reversed hT F.entry_range_reversed (F.args_range_reversed_1 _) (znX r a b t u v hs) ⟨hr,?_⟩)
  first
  | exact aI ⟨rfl,rfl⟩
  | exact aB (aI (aI ⟨rfl,rfl⟩))
 ·rintro obj s₁ ⟨rfl,rfl⟩
  (exact⟨⟨_,aY _ rfl,rfl⟩,h⟩)
end
end PySem
namespace L2
open PySem PySem.Spec PyProof.Rows
theorem zi3 {X:Cx}:zbh X (.type "range") (fun xs H Q=>∃ i j:Int,xs = [.int i,.int j]/\∀ l,H l=none->Q #[Qy] (pB H l (.rng i j))):=by
 intro pv s σ H xs us Q I r h;obtain⟨i,j,rfl,q⟩:=h;cases r with
 | cons r1 r =>
  cases r with
  | cons r2 r =>
   cases r;obtain⟨t,rfl⟩:=r1;obtain⟨t',rfl⟩:=r2;refine call_range_2 ?_;exact⟨.ref s.heap.objs.size,_,I.laid (o:=.rng i j) #[Vz] (aG _) ⟨_,_,_,aY _ rfl⟩,rfl,q _ I.fresh⟩
def zr9 (ta:TA):TI:=fun σ H R=>ta σ H fun vs H1=>∃ (a:Addr) (i j:Int),vs = [.ref a]/\H1 a=some (.rng i j)/\(-1000000<=i/\i < 1000000/\-1000000<=j/\j < 1000000)/\R (zlz (i+((j - i).toNat:Int) - 1) (j - i).toNat) H1
theorem zps {X:Cx} {tg:Expr} {p pos:Pos} {a:Expr} {ta:TA} (hg:Gl X "reversed") (hm:X.mg "reversed" = none) (ha:PA X [a] ta) (hs:starEach [a] X.env = [#[GM]]:=by rfl) :
  PI X tg (.Call (.Name "reversed" p) [a] [] pos) (zr9 ta):=by
 intro pv s σ H R I h;refine Call_ (za4 I hg hm boot_reversed (cD (thn #[Cl] fun us s1 ⟨vs,H1,I1,r1,q1⟩=>?_) hs rfl));obtain⟨l,i,j,e,hq,hb,q⟩:=q1;subst e;cases r1 with
 | cons r rr =>
  cases rr;cases r;obtain⟨t,u,v,hr⟩:=(show zah X.prog X.w H1 s1.heap l (.rng i j) from I1.hok l _ hq);refine zpr hr hb ?_;have hsz:cN i j 1=((j - i).toNat:Int):=by
   (unfold cN)
   rw [if_pos #[D],Int.ediv_one];split <;> lia
  have I2:Inv X pv σ H1 { s1 with heap:=s1.heap.push (zi2 i j) }:=I1.kept (t':=s1.toks) fun b o e=>aH _ e
  have hit:IsRangeIter (s1.heap.push (zi2 i j)) s1.heap.objs.size ((i+((j - i).toNat:Int) - 1)+((0:Nat):Int)*(-1)) ((((j - i).toNat:Nat):Int) - ((0:Nat):Int)) (-1):=by
   have e1:(i+((j - i).toNat:Int) - 1)+((0:Nat):Int)*(-1)=i+(cN i j 1 - 1)*1:=by rw [hsz]; lia
   have e2:(((j - i).toNat:Nat):Int) - ((0:Nat):Int)=cN i j 1:=by rw [hsz]; lia
   rw [e1,e2];exact aY _ rfl
  refine jc hit ?_;refine⟨_,[s1.heap.objs.size],_,zlz (i+((j - i).toNat:Int) - 1) (j - i).toNat,H1,rfl,I2,ziy _ _ _,hit,fun b hb=>?_,q⟩;have z:b=s1.heap.objs.size:=by simpa using hb
  subst z;exact I1.Ny (aG _) #[PZ]
end L2
end
section
namespace My
open PySem L2 PyProof.Rows
variable {H H':Hp} {K:aD} {L j k:Nat} {X:Cx} {an od:Option Addr} {cd ct oc pm:Value} {cl:List (Nat×List Int)} {cs:List Int} {fd:FuncData} {h:Heap} {ls:List Addr} {mg:Str->Option Value} {pJ:List (Int×Int)} {pos rj:Pos} {rows vv:List #[At]} {rw:List #[IO]} {te:TE} {us:List Value} {y:V} {ys:List V} {σ0:L2.St}
def top (i:Nat):Stmt:=PySem.Challenge.pw_slipcurve_k19_near_ones_by_papers.main.body.getD i (.Pass ⟨0,0,0,0⟩)
abbrev zcK:Stmt:=top 13
abbrev zdk:Stmt:=top 14
abbrev zbo:Stmt:=top 15
abbrev zf6:Stmt:=top 16
abbrev zdl:Stmt:=top 17
abbrev zbp:Stmt:=top 19
abbrev zaR:Stmt:=top 20
abbrev za2:Stmt:=top 21
abbrev zcn:Stmt:=top 22
abbrev zaw:Stmt:=top 23
abbrev zbG:Stmt:=top 24
abbrev zaY:Stmt:=top 26
abbrev zf7:Stmt:=top 27
abbrev zbY:Stmt:=top 29
abbrev zc3:Stmt:=top 30
abbrev zbZ:Stmt:=top 31
abbrev zc4:Stmt:=top 32
abbrev zc5:Stmt:=top 33
abbrev zco:Stmt:=top 34
abbrev zei:Stmt:=top 35
abbrev zbH:Stmt:=top 36
abbrev za8:Stmt:=top 37
abbrev zau:Stmt:=top 38
abbrev zbq:Stmt:=top 39
abbrev zbI:Stmt:=top 40
abbrev zbk:Stmt:=top 42
abbrev zbr:Stmt:=top 43
abbrev zbV:Stmt:=top 44
abbrev zbw:Stmt:=top 45
abbrev zcL:Stmt:=top 48
abbrev za9:Stmt:=top 49
abbrev zcp:Stmt:=top 50
abbrev zbW:Stmt:=top 52
abbrev zba:Stmt:=top 53
abbrev zb0:Stmt:=top 54
abbrev zej:Stmt:=top 56
abbrev zdm:Stmt:=top 57
abbrev zc6:Stmt:=top 58
abbrev zdn:Stmt:=top 59
abbrev zaZ:Stmt:=top 60
abbrev zek:Stmt:=top 61
abbrev zel:Stmt:=top 62
abbrev zdo:Stmt:=top 63
abbrev zem:Stmt:=top 64
abbrev zdB:Stmt:=top 65
structure Adr where
 M1:Addr
 OK:Addr
 Ly:Addr
 Mc:Addr
 N9:Addr
 NH:Addr
 O9:Addr
 NG:Addr
 Mb:Addr
 OL:Addr
 O8:Addr
 Mx:Addr
 inverse:Addr
 LU:Addr
 Pm:Addr
 through:Addr
 Lo:Addr
 LV:Addr
 LR:Addr
 without:Addr
 Lg:Addr
 LL:Addr
 Lr:Addr
 fits:Addr
 Mw:Addr
 filled:Addr
 Mz:Addr
 turned:Addr
 raised:Addr
 size_of:Addr
 moved:Addr
 Me:Addr
 LD:Addr
 Ll:Addr
 Lu:Addr
 Mj:Addr
 Md:Addr
 LW:Addr
 Nx:Addr
 MC:Addr
 MD:Addr
 LB:Addr
 Nl:Addr
 NF:Addr
 Ln:Addr
 MG:Addr
 Og:Addr
 Nv:Addr
 Of:Addr
 Nt:Addr
 Lq:Addr
 OU:Addr
 Oc:Addr
 Nu:Addr
 Oe:Addr
 law:Addr
structure KW (K:aD) (t:Adr) (C:Addr) (b0 b1 b2 b3 b4 b5 b6 b7 b8 b9:Bool):Prop where
 i0:bN K #[Qq] (.ref t.OK)=some b0
 i1:bN K #[Qq] #[Tp]=some b1
 i2:bN K #[Qq] #[WG]=some b2
 i3:bN K #[Qq] (.ref t.N9)=some b3
 i4:bN K #[Qq] (.ref t.NH)=some b4
 i5:bN K #[Qq] (.ref t.O9)=some b5
 i6:bN K #[Qq] (.ref t.NG)=some b6
 i7:bN K #[Qq] (.ref t.Mb)=some b7
 i8:bN K #[Qq] (.ref t.OL)=some b8
 i9:bN K #[Qq] (.ref t.O8)=some b9
 iv:bN K #[Qq] (.type "ValueError")=some true
 xc:Xc K C
 sl:ft K #[Qq] (.ref t.M1)=some true
abbrev FbQ (K:aD) (x:Str) (s:Stmt) (a:Addr) (p:List Str):Prop:=∃ fd,Fun K x x s a fd/\Binds K fd p []
structure Txt (K:aD) (mg:Str->Option Value) (t:Adr):Prop where
 MR:mg "len" = none
 La:mg "range" = none
 Oq:mg "list" = none
 MM:mg "tuple" = none
 Pe:mg "min" = none
 Pf:mg "max" = none
 PV:mg "int" = none
 K8:mg "isinstance" = none
 PR:mg "all" = none
 OW:mg "zip" = none
 LA:mg "enumerate" = none
 PJ:mg "sum" = none
 Pt:mg "dict" = none
 NK:mg "reversed" = none
 Ox:mg "sorted" = none
 PQ:mg "any" = none
 N1:mg "ValueError" = none
 Lm:∃ q,mg "MOST_PAPER_WEIGHT" = some (.int 4 q)
 MJ:mg "SlipError" = some (.ref t.M1)
 ON:mg "TooFew" = some (.ref t.OK)
 NJ:mg "NoCurve" = some #[Tp]
 MK:mg "NoPaper" = some #[WG]
 Ov:mg "NoPlace" = some (.ref t.N9)
 Oj:mg "NoNumber" = some (.ref t.NH)
 OZ:mg "Heard" = some (.ref t.O9)
 Oi:mg "NotHeard" = some (.ref t.NG)
 Nd:mg "NothingLeft" = some (.ref t.Mb)
 OO:mg "NoText" = some (.ref t.OL)
 OY:mg "NoRow" = some (.ref t.O8)
 M9:gJ K t.Ly zjE "ValueError.__new__" = true
 Mk:gJ K t.Mc zjE "ValueError.__new__" = true
 Nc:KW K t t.Ly false true false false false false false false false false
 Mn:KW K t t.Mc false false true false false false false false false false
 sb:du K t.M1 (.type "BaseException")=some true
 LX:mg "value_at" = some (.ref t.Mx)
 NQ:mg "inverse" = some (.ref t.inverse)
 Mt:mg "times_root" = some (.ref t.LU)
 Pg:mg "bent" = some (.ref t.Pm)
 OA:mg "through" = some (.ref t.through)
 L4:mg "moved_powers" = some (.ref t.Lo)
 NO:mg "numbers_at" = some (.ref t.LV)
 NN:mg "vectors_of" = some (.ref t.LR)
 Oz:mg "without" = some (.ref t.without)
 Mv:mg "first_relation" = some (.ref t.Lg)
 NW:mg "first_sum" = some (.ref t.LL)
 Lv:mg "heard_points" = some (.ref t.Lr)
 OX:mg "fits" = some (.ref t.fits)
 Nb:mg "width_of" = some (.ref t.Mw)
 Ob:mg "filled" = some (.ref t.filled)
 LY:mg "terms_of" = some (.ref t.Mz)
 Oa:mg "turned" = some (.ref t.turned)
 Nm:mg "raised" = some (.ref t.raised)
 OB:mg "size_of" = some (.ref t.size_of)
 O3:mg "moved" = some (.ref t.moved)
 NV:mg "weight_at" = some (.ref t.Me)
 Nq:mg "first_terms" = some (.ref t.LD)
 Nn:mg "least_curve" = some (.ref t.Ll)
 L5:mg "check_curves" = some (.ref t.Lu)
 NX:mg "curve_for" = some (.ref t.Mj)
 NU:mg "without_x" = some (.ref t.Md)
 NP:mg "next_curve" = some (.ref t.LW)
 OF:mg "further" = some (.ref t.Nx)
 Ol:mg "roots_of" = some (.ref t.MC)
 Om:mg "paper_of" = some (.ref t.MD)
 Mg:mg "paper_holds" = some (.ref t.LB)
 OC:mg "near_by" = some (.ref t.Nl)
 OG:mg "choices" = some (.ref t.NF)
 Nr:mg "all_through" = some (.ref t.Ln)
 Oo:mg "all_near" = some (.ref t.MG)
 OS:mg "_law_cell" = some (.ref t.Og)
 Mh:mg "_law_draws" = some (.ref t.Nv)
 OR:mg "_law_code" = some (.ref t.Of)
 OD:mg "_law_value" = some (.ref t.Nt)
 M4:mg "_law_polynomial" = some (.ref t.Lq)
 O4:mg "_law_row" = some (.ref t.OU)
 OQ:mg "_law_word" = some (.ref t.Oc)
 OE:mg "_law_paper" = some (.ref t.Nu)
 Np:mg "_law_told" = some (.ref t.Oe)
 Lz:FbQ K "value_at" zcK t.Mx ["p","polynomial","x"]
 Mi:FbQ K "inverse" zdk t.inverse ["p","number"]
 Ls:FbQ K "times_root" zbo t.LU ["p","polynomial","root"]
 OJ:FbQ K "bent" zf6 t.Pm ["p","polynomial","vanishing","point"]
 MT:FbQ K "through" zdl t.through ["p","points"]
 Lw:FbQ K "moved_powers" zbp t.Lo ["p","by","most","kept"]
 LN:FbQ K "numbers_at" zaR t.LV ["p","terms","point"]
 LM:FbQ K "vectors_of" za2 t.LR ["p","terms","points"]
 MS:FbQ K "without" zcn t.without ["p","vector","times","other"]
 Li:FbQ K "first_relation" zaw t.Lg ["p","vectors"]
 L9:FbQ K "first_sum" zbG t.LL ["p","terms","points"]
 Lb:FbQ K "heard_points" zaY t.Lr ["code","row"]
 Oh:FbQ K "fits" zf7 t.fits ["code","row","polynomial"]
 LZ:FbQ K "width_of" zbY t.Mw ["curve"]
 MF:FbQ K "filled" zc3 t.filled ["p","curve"]
 Lk:FbQ K "terms_of" zbZ t.Mz ["curve"]
 Nz:FbQ K "turned" zc4 t.turned ["lines","width"]
 ME:FbQ K "raised" zc5 t.raised ["p","lines","by"]
 MU:FbQ K "size_of" zco t.size_of ["k","curve"]
 NY:FbQ K "moved" zei t.moved ["p","curve","point"]
 L8:FbQ K "weight_at" zbH t.Me ["p","curve","point"]
 LG:FbQ K "first_terms" za8 t.LD ["k","many"]
 LF:FbQ K "least_curve" zau t.Ll ["p","k","points"]
 Lh:FbQ K "check_curves" zbq t.Lu ["k"]
 Ma:FbQ K "curve_for" zbI t.Mj ["code","row","m"]
 L7:FbQ K "without_x" zbk t.Md ["lines"]
 LO:FbQ K "next_curve" zbr t.LW ["p","lines","number"]
 MY:FbQ K "further" zbV t.Nx ["p","known","lines"]
 Mo:FbQ K "roots_of" zbw t.MC ["p","k","curve"]
 Mp:FbQ K "paper_of" zcL t.MD ["code","row","t"]
 Lj:FbQ K "paper_holds" za9 t.LB ["code","row","t","paper"]
 MV:FbQ K "near_by" zcp t.Nl ["code","row","t","paper"]
 MZ:FbQ K "choices" zbW t.NF ["things","many"]
 LH:FbQ K "all_through" zba t.Ln ["code","points"]
 Mq:FbQ K "all_near" zb0 t.MG ["code","row","t"]
 ND:FbQ K "_law_cell" zej t.Og ["script","k"]
 LP:FbQ K "_law_draws" zdm t.Nv ["script","k","many","base"]
 NC:FbQ K "_law_code" zc6 t.Of ["script","at","most_k","most_n"]
 MW:FbQ K "_law_value" zdn t.Nt ["p","polynomial","x"]
 Lx:FbQ K "_law_polynomial" zaZ t.Lq ["draws","p","k"]
 NZ:FbQ K "_law_row" zek t.OU ["script","at","code"]
 NA:FbQ K "_law_word" zel t.Oc ["e"]
 MX:FbQ K "_law_paper" zdo t.Nu ["code","row","t"]
 NB:FbQ K "_law_told" zem t.Oe ["code","row","t","paper"]
section
variable {P:Program} {w:World} {K:aD} {mg:Str->Option Value} {base:Heap} {t:Adr}
theorem zl0:KE ["script","k"] ["script","k"] (zh zej):=#[S]
theorem zl1 (T:Txt K mg t) (F:Fun K "_law_cell" "_law_cell" zej t.Og fd):Lf P w K mg base CX0 1 t.Og fd ["script","k"] (zlm K):=by
 refine F.ok zl0 #[sK] #[mt]
 ·obtain⟨a,ns,k,rfl,_⟩:=h; rfl
 ·obtain⟨a,ns,k,rfl,hS,pI,k0,k1,q⟩:=h;refine zaz ?_; intro zX;refine⟨_,#[ze,#[za3,#[zZ,#[zh5],#[Db],#[US],(zad _)],#[zl,#[zB,#[zU,#[zI],#[AT],#[Db]]]],#[zan]],#[ze,#[za3,#[zZ,#[zeF],#[US],#[zf],(zad _)],#[zl,#[zB,#[V4]]],#[zan]],#[zl,#[zB,#[zj,#[zY],#[zj,#[zL],#[zU,#[zI],#[AT],#[zj,#[zL],#[Db],#[US]]],#[zf]],#[Q0]]]]]],?_⟩;refine zfu ?_; intro sG rh;refine (pz rfl (pz rfl ⟨a,(pz rfl ⟨.inl hS,#[AC]⟩)⟩)); rw [aA];refine za6 (fun h=>?_) (fun h=>?_)
  ·have h:k < (ns.length:Int):=by simpa using h
   obtain⟨c,hc⟩:=ze6 k0 h;exact (pz rfl (pz rfl (ex4 a _ k _ ⟨rfl,rfl,hS,hc,q c⟩)))
  ·have h:¬ k < (ns.length:Int):=by simpa using h
   refine (pz rfl ⟨a,(pz rfl ⟨.inl hS,rfl,#[Qz]⟩)⟩);rw [aA];refine za6 (fun h2=>?_) (fun h2=>?_)
   ·exact #[Tb]
   ·have h2:¬ V.int (ns.length:Int)=V.int 0:=by simpa using h2
    have vf:0 < (ns.length:Int):=by
     have:(ns.length:Int)≠0:=fun z=>h2 (by rw [z])
     lia
    have m0:=bL k (show (ns.length:Int)≠0 by lia);have m1:=bE k vf;obtain⟨c,hc⟩:=ze6 m0 m1;refine (pz rfl (pz rfl (pz rfl ⟨a,(pz rfl ⟨.inl hS,(pF rfl rfl ⟨by rw [aA]; exact vf,a,_,_,_,rfl,rfl,hS,by rw [aA]; exact hc,(pF rfl rfl ⟨(by show (0:Int) < 1000003; decide),?_⟩)⟩)⟩)⟩)));exact #[Tb]
theorem zal:KE ["script","k","many","base","primes","cell","rest","row","j","mash"] ["script","k","many","base"] (zh zdm):=#[S]
theorem zdN (T:Txt K mg t) (F:Fun K "_law_draws" "_law_draws" zdm t.Nv fd):Lf P w K mg base CX0 2 t.Nv fd ["script","k","many","base"] (zjw K):=by
 obtain⟨ED,vS,AR⟩:=T.ND;have AS:=zl1 (P:=P) (w:=w) (base:=base) T vS;refine F.ok zal #[sK] #[mt]
 ·obtain⟨a,ns,k,many,base,rfl,_⟩:=h;rfl
 ·obtain⟨a,ns,k,many,bs,rfl,hS,pI,k0,k1,m0,m1,b0,b1,q⟩:=h;refine zaz ?_; intro zX;refine⟨_,#[ze,#[zn,4,zal.nd,#[A],#[zai,#[zdu,#[zdu,#[zdu,#[zdu,#[zdu,#[za,#[zf],#[PX]]]]]]]]],#[ze,#[zn,5,zal.nd,#[A],#[zp,AS,#[v6],T.OS,vS.kp,AR,#[zM],#[Vc]]],#[ze,#[zn,6,zal.nd,#[A],#[zf]],#[ze,#[za3,#[zZ,#[zgB],#[TY],#[zj,(@zqr _),#[zf],#[zf]],(zad _)],#[zl,#[zn,6,zal.nd,#[A],#[TY]]],#[zan]],#[ze,#[zn,7,zal.nd,#[A],#[TU]],#[ze,#[zaX,cW,#[UB],#[zg,8,zal.nd,#[A]],#[ze,#[zn,9,zal.nd,#[A],#[zj,#[z8],#[zj,#[zL],#[TY],#[zU,#[zcU],#[Qt],#[zj,#[zL],#[pvx,8],#[zf]]]],#[zj,#[zY],#[zf],#[zj,#[z8],#[zj,#[z8],#[zf],#[pvx,8]],#[pvx,8]]]]],#[ze,#[zn,9,zal.nd,#[A],#[zj,#[zY],#[zj,#[zY],#[Ww],#[zj,#[z8],#[zj,#[z8],#[zf],#[UU]],#[UU]]],#[Q0]]],#[ze,#[zn,9,zal.nd,#[A],#[zj,#[zL],#[Ww],#[zU,#[zcU],#[Qt],#[zj,#[zL],#[zj,#[zY],#[zj,#[z8],#[zf],#[pvx,8]],#[Db]],#[zf]]]]],#[ze,#[zn,9,zal.nd,#[A],#[zj,#[zL],#[zj,#[z8],#[zj,#[z8],#[Ww],#[Ww]],#[Ww]],#[zU,#[zcU],#[Qt],#[zj,#[zL],#[UU],#[zf]]]]],#[ze,#[za3,#[zZ,#[zkd],#[SD],#[zf],(zad _)],#[zl,#[zn,9,zal.nd,#[A],#[SD]]],#[zan]],#[ze,#[zct,#[zeG,dU,fJ,fK,#[zci],#[pvx,7],#[ya,#[zj,#[zL],#[Ww],#[P7]]]]],#[zl,#[zn,6,zal.nd,#[A],#[zj,#[zcv],#[SD],#[P7]]]]]]]]]]],#[zl,#[zB,#[pvx,7]]]]]]]]],?_⟩;refine zrL ?_; intro zN7 Hm BV vT sG rh;refine⟨by show 8<=sizeLine; rw [bO]; decide,fun tp ht=>?_⟩;have s1:zr H (pB H tp (.tup zoF)):=zb ht;refine (pz rfl (pz rfl (ex3 a ns k ⟨rfl,s1.seq hS,pI,k0,k1,fun c=>?_⟩)));refine (pz rfl (pF rfl rfl ⟨⟨#[D],#[D],#[D]⟩,#[AC]⟩));refine za6 (fun _=>#[Qz]) #[FS]
  all_goals
   refine⟨cB _,fun l hl=>?_⟩;have FU:H l=none:=zr.free s1 hl;have rH:tp≠l:=zu zc hl;refine⟨_,rfl,many,rfl,#[O],#[O],zaQ (lo:=0) (n:=many.toNat) (fun i σ H'=>∃ (r:Int) (v8 v9:Option V) (ds:List Int),σ = [some #[QK],some (.int k),some (.int many),some (.int bs),some (.ref tp),some (.int c),some (.int r),some #[Qy],v8,v9]/\zhi i bs ds/\zr H H'/\H' tp=some (.tup zoF)/\H' l=some #[VW])
    ⟨_,none,none,[],rfl,⟨rfl,#[M]⟩,zak s1 FU,by rw [zm rH]; exact zc,zc⟩ ?_ ?_⟩
   ·rintro zD zT i σ H2 hi ⟨r,v8,v9,ds,rfl,hd,s2,FV,BW⟩;obtain⟨q1,e1,q1p,q1l⟩:=zfB (0+(i:Int));obtain⟨q2,e2,q2p,q2l⟩:=zfB (3*(0+(i:Int))+k);obtain⟨q3,e3,q3p,q3l⟩:=zfB (0+(i:Int)+5);have c1:=bL c (show q1≠0 by lia);have c2:=bE c q1p;have qF:(i:Int) < 1000:=by lia
    refine (pz rfl (pz rfl (pz rfl (pF rfl rfl ⟨(by show (0:Int) < 8; decide),tp,_,_,_,rfl,rfl,pK.of FV,e1,(pF rfl rfl ⟨q1p,(pz rfl (pF rfl rfl ⟨.inl #[Qg],(pz rfl (pF rfl rfl ⟨.inl #[wS],(pF rfl rfl (pF rfl rfl ⟨.inl #[wS],?_⟩))⟩))⟩))⟩)⟩))));refine (pz rfl (pz rfl (pF rfl rfl (pF rfl rfl ⟨.inl #[Qg],(pz rfl (pF rfl rfl (pF rfl rfl ⟨.inl #[wS],(pF rfl rfl (pz rfl (pF rfl rfl ⟨.inl #[Qg],#[P3]⟩)))⟩)))⟩))));refine (pz rfl (pz rfl (pz rfl (pF rfl rfl ⟨.inl #[Qg],(pz rfl (pF rfl rfl (pF rfl rfl ⟨(by show (0:Int) < 8; decide),tp,_,_,_,rfl,rfl,pK.of FV,e2,(pF rfl rfl ⟨q2p,?_⟩)⟩)))⟩))));generalize c % q1*(48271+2*(0+(i:Int))*(0+(i:Int)))+7919*(0+(i:Int)+1)*(0+(i:Int)+1)+104729*k=ms;have d1:=bL ms (show q2≠0 by lia);have d2:=bE ms q2p;refine (pz rfl (pz rfl (pF rfl rfl ⟨.inl #[wS],(pz rfl (pF rfl rfl ⟨.inr #[wS],(pz rfl (pz rfl (pF rfl rfl (pF rfl rfl ⟨(by show (0:Int) < 8; decide),tp,_,_,_,rfl,rfl,pK.of FV,e3,(pF rfl rfl ⟨q3p,?_⟩)⟩))))⟩))⟩)));refine #[Rk];have EE:=hd.1;refine za6 (fun _=>#[Qz]) #[FS]
    all_goals
     refine⟨_,rfl,.inl ⟨rfl,_,pA.of BW⟩,_,rfl,_,rfl,_,_,rfl,rfl,b0,l,_,_,rfl,rfl,BW,zaq (by rw [aA]; lia),?_⟩;refine (pz rfl (pz rfl (pF rfl rfl ⟨⟨b0,b1⟩,?_⟩)));refine (ex4 _ _ _ (ds++[_]) ⟨rfl,⟨by rw [aL,EE]; rfl,fun d hm=>?_⟩,zak s2 FU,by rw [zm rH]; exact FV,by rw [zc,aN]; rfl⟩); rcases bQ.mp hm with hm | hm
     ·exact hd.2 d hm
     ·have e:=bF.mp hm;rw [e];exact⟨bL _ #[O],bE _ b0⟩
   ·rintro σ H2 ⟨r,v8,v9,ds,rfl,hd,s2,FV,BW⟩;exact (pz rfl (q l ds H2 FU s2 hd BW))
theorem zbx:KE ["script","at","most_k","most_n","plan","primes","p","k","many","left"] ["script","at","most_k","most_n"] (zh zc6):=#[S]
theorem zl2 (T:Txt K mg t) (F:Fun K "_law_code" "_law_code" zc6 t.Of fd):Lf P w K mg base CX0 3 t.Of fd ["script","at","most_k","most_n"] (zln K):=by
 obtain⟨tW,pZ,qm⟩:=T.LP;have qp:=zdN (P:=P) (w:=w) (base:=base) T pZ;refine F.ok zbx #[sK] #[mt]
 ·obtain⟨a,ns,at',mk,mn,rfl,_⟩:=h;rfl
 ·obtain⟨a,ns,at',mk,mn,rfl,hS,pI,a0,a1,k1,k5,kn,n16,q⟩:=h;refine zaz ?_; intro zX;refine⟨_,#[ze,#[zn,4,zbx.nd,#[RD],#[zp,qp,#[v6],T.Mh,pZ.kp,qm,#[zM],#[za,#[AT],by exact #[za,#[Db],#[PX]]]]],(by exact (@zmK _ 5 _ _ _ _ _ _ _ [5,7,11,13,17,19,23,29,31,37,41,43,47,53,59,61,67,71,73,79,83,89,97] #[N] zbx.nd rfl #[A] (by first | exact .inl rfl | exact .inr rfl) (by exact #[ze,#[zn,6,zbx.nd,#[A],#[zU,#[zI],#[z9,#[za,#[zU,#[zI],#[TY],#[V5]],#[ya,#[zU,#[zI],#[TY],#[V5]]]]],#[V5]]],#[ze,#[zn,7,zbx.nd,#[A],#[zj,#[zY],#[zf],#[zj,#[zL],#[RH],#[zq,#[zes],T.Pe,mH,#[za,#[Id],#[UG]]]]]],#[ze,#[zn,8,zbx.nd,#[A],#[zj,#[zY],#[pvx,7],#[zj,#[zL],#[RH],#[zj,#[zY],#[zj,#[zaF],#[zq,#[zes],T.Pe,mH,#[za,#[P7],#[UG]]],#[pvx,7]],#[zf]]]]],#[ze,#[zn,9,zbx.nd,#[RD],#[zao,(@zgn _ rfl),T.Oq,j9,#[ya,#[zao,(@zih _),T.La,lY,#[UG]]]]],#[zl,#[zB,#[zai,#[za,#[SD],#[za,#[pvx,7],#[ya,#[zao,#[zaT],T.MM,iW,#[ya,#[zO,(K7.of (N':=["j","left","plan"]) (ix:=[none,some 9,some 4]) (zh zc6) _ rfl rfl rfl),#[zam],#[zae,T.La,#[SU]],#[wn],#[ut],(fun _ _ _ _=>(@zqG _ (K) _ _ _ _ _ _ _ _ _ _ _ rfl dU PySem.F.slot_list_pop PySem.F.type_list_pop (@zmx _) #[Db] #[ya,#[zj,#[zL],#[zU,#[TB],#[Id],#[zj,#[zY],#[zf],#[AT]]],#[zq,#[zaU,(K)],T.MR,dS,#[P4]]]] (by rfl) (by rfl) (by rfl) (by rfl) (by rfl)))]]]]]]]]]]]]])))],?_⟩;refine zrL ?_; intro zN7 Hm BV vT sG rh;refine (pz rfl (pz rfl (ex5 a ns at' 20 27720 ⟨rfl,hS,pI,a0,a1,#[D],#[D],#[D],#[D],fun l ds H1 hl s1 hd qh=>?_⟩)));have EE:ds.length=20:=hd.1;have dat:∀ m:Int,0<=m->m < 20->∃ c:Int,atI #[Qc] m=some (.int c):=fun m h0 h1=>ze6 h0 #[O]
  refine⟨by show 23<=sizeLine; rw [bO]; decide,fun pr Hn=>?_⟩;have JH:l≠pr:=zu qh Hn;obtain⟨d0,FW⟩:=dat 0 #[D] #[D];obtain⟨d1,JI⟩:=dat 1 #[D] #[D];obtain⟨d2,JJ⟩:=dat 2 #[D] #[D];obtain⟨d3,ed3⟩:=dat 3 #[D] #[D];have uA:#[QY] l=some #[VW]:=by rw [zm JH]; exact qh
  obtain⟨p1,mp1,ep1⟩:=zmR (ns:=zt) (k:=d0 % 23) (bL _ #[D]) (bE _ #[D]);obtain⟨p2,mp2,ep2⟩:=zmR (ns:=zt) (k:=d0 % 3) (bL _ #[D]) (by have:=bE d0 (show (0:Int) < 3 by decide); have e:(zt.length:Int)=23:=rfl; lia);obtain⟨p,ep,G7⟩:=zqH (x:=p1) (y:=p2) (m:=d1 % 2) (bL _ #[D]) (bE _ #[D]);have mp:p∈zt:=by rcases G7 with e | e <;> rw [e] <;> assumption
  have rp:=zC mp;refine⟨_,rfl,_,rfl,l,_,_,_,rfl,rfl,pA.of uA,FW,_,_,rfl,rfl,(by show (0:Int) < 23; decide),pr,_,_,_,rfl,rfl,pA.of zc,ep1,
   _,rfl,_,rfl,l,_,_,_,rfl,rfl,pA.of uA,FW,_,_,rfl,rfl,(by show (0:Int) < 3; decide),pr,_,_,_,rfl,rfl,pA.of zc,ep2,zaO,fun l2 rX=>?_⟩
  have JK:l≠l2:=zu uA rX;have Bu:(pB #[QY] l2 (.lst [.int p1,.int p2])) l=some #[VW]:=by rw [zm JK]; exact uA
  refine (pz rfl (ex4 l _ _ _ ⟨rfl,rfl,pA.of Bu,JI,(pF rfl rfl ⟨(by show (0:Int) < 2; decide),l2,_,_,_,rfl,rfl,pA.of zc,ep,?_⟩)⟩));have Bq:(0:Int) < (if p < mk then p else mk):=by split <;> lia
  have wJ:(if p < mk then p else mk)<=mk:=by split <;> lia
  have FC:(if p < mk then p else mk)<=p:=by split <;> lia
  refine⟨_,rfl,l,_,_,_,rfl,rfl,pA.of Bu,JJ,_,rfl,_,rfl,_,_,rfl,_,_,rfl,rfl,Bq,_,_,rfl,rfl,?_⟩;generalize (if p < mk then p else mk)=mm at Bq wJ FC |-;have Ag:=bL d2 (show mm≠0 by lia);have G':=bE d2 Bq;have yj:(if p < mn then p else mn)<=mn:=by split <;> lia
  have wD:(if p < mn then p else mn)<=p:=by split <;> lia
  have hn3:mm<=(if p < mn then p else mn):=by split <;> lia
  refine (pz rfl (pz rfl (ex4 l _ _ _ ⟨rfl,rfl,pA.of Bu,ed3,(pz rfl (pz rfl ⟨_,_,rfl,(pz rfl (pF rfl rfl (pF rfl rfl (pF rfl rfl ⟨#[O],#[P3]⟩))))⟩))⟩)));generalize (if p < mn then p else mn)=nn at yj wD hn3 |-;have hq0:=bL d3 (show nn - (1+d2 % mm)+1≠0 by lia);have sL:=bE d3 (show 0 < nn - (1+d2 % mm)+1 by lia);refine (pz rfl ⟨p,rfl,fun r CB=>⟨r,p,rfl,zc,#[O],#[O],fun lf JL=>?_⟩⟩);have Eu:l≠r:=zu Bu CB;have FX:l≠lf:=by
   refine zu (H:=pB (pB #[QY] l2 (.lst [.int p1,.int p2])) r (.rng 0 p)) (o:=.lst #[Qc]) ?_ JL;rw [zm Eu]; exact Bu
  have sA:zr H (pB #[QY] l2 (.lst [.int p1,.int p2])):=(s1.trans (zb Hn)).trans (zb rX);have sB:=#[WU].trans (zb (o:=.lst ((zca 0 p.toNat).map V.int)) JL);have JM:H lf=none:=#[WU].free JL;obtain⟨nd0,rg0⟩:=zlo p;refine⟨_,rfl,_,rfl,_,rfl,_,rfl,#[O],#[O],zW (n:=(1+d2 % mm+d3 % (nn - (1+d2 % mm)+1)).toNat) (fun i ys H'=>∃ xs ls:List Int,ys=xs.map V.int/\xs.length=i/\zr H H'/\H' l=some #[VW]/\H' lf=some (.lst (ls.map V.int))/\ls.length+i=p.toNat/\(xs++ls).Nodup/\∀ y∈xs++ls,0<=y/\y < p)
   ⟨[],zca 0 p.toNat,rfl,rfl,sB,by rw [zm FX,zm Eu]; exact Bu,zc,by rw [zdt]; rfl,by simpa using nd0,by simpa using rg0⟩ #[Qr] #[P6] ?_ ?_⟩
  ·rintro zS zT zE i x ys H4 H5 hi ⟨xs,ls,rfl,FE,s4,DB,BX,wY,nd,rg⟩ ⟨rfl,rfl⟩;refine gY ?_;obtain⟨c,ec⟩:=dat (4+(0+(i:Int))) #[O] #[O];have lpos:0 < ls.length:=by lia
   have lm:((ls.map V.int).length:Int)=(ls.length:Int):=by rw [aA]
   have c0:=bL c (show (ls.length:Int)≠0 by lia);have c1:=bE c (show (0:Int) < ls.length by lia);have qP:=bO;obtain⟨y,ey⟩:∃ y,ls[(c % (ls.length:Int)).toNat]? = some y:=⟨ls[(c % (ls.length:Int)).toNat]'#[O],#[M]⟩;refine (pz rfl ⟨.inl ⟨rfl,_,pA.of BX⟩,(pz rfl (pz rfl (pF rfl rfl (ex4 l _ _ _ ⟨rfl,rfl,pA.of DB,ec,(pz rfl ⟨lf,(pz rfl ⟨.inl (pA.of BX),(pF rfl rfl ⟨(by rw [lm]; lia),lf,_,_,(c % (ls.length:Int)).toNat,.int y,rfl,rfl,BX,?_⟩)⟩)⟩)⟩))))⟩);rw [lm];refine⟨#[O],#[O],by rw [aA]; exact jX c0 c1,by rw [aF,ey]; rfl,zaq (by rw [aA]; lia),xs++[y],ls.eraseIdx (c % (ls.length:Int)).toNat,by rw [aN]; rfl,by rw [aL,FE]; rfl,zak s4 JM,by rw [zm FX]; exact DB,by rw [zc,zgO],?_,zoH ey nd rg⟩;rw [List.length_eraseIdx];split <;> lia
  ·rintro ys H4 D ⟨xs,ls,rfl,FE,s4,DB,BX,wY,nd,rg⟩ hD;refine⟨D,(pz rfl (.inl ⟨pA.of zc,fun tt EF=>⟨by show 3<=sizeLine; rw [bO]; decide,fun c hc=>?_⟩⟩))⟩;have s5:=(s4.trans (zb (o:=.lst (xs.map V.int)) hD)).trans (zb (o:=.tup (xs.map V.int)) EF);refine q c tt p _ xs _ (s5.free hc) (s5.trans (zb hc)) ⟨mp,#[O],#[O],#[O],#[O],(gV.mp nd).1,fun y hy=>rg y (bV _ hy)⟩ zc ?_;rw [zm (zu zc hc)];exact zc
theorem zby:KE ["p","polynomial","x","total","power","number"] ["p","polynomial","x"] (zh zdn):=#[S]
theorem zjT (T:Txt K mg t) (F:Fun K "_law_value" "_law_value" zdn t.Nt fd):Lf P w K mg base CX0 1 t.Nt fd ["p","polynomial","x"] (zjx K):=by
 refine F.ok zby #[sK] #[mt]
 ·obtain⟨p,x,a,cs,rfl,_⟩:=h;rfl
 ·obtain⟨p,x,a,cs,rfl,hS,p0,p1,x0,x1,q⟩:=h;refine zaz ?_; intro zX;refine⟨_,#[ze,#[zn,3,zby.nd,#[A],#[zf]],#[ze,#[zn,4,zby.nd,#[A],#[zf]],#[ze,#[zaX,cW,#[zmI,#[Db]],#[zg,5,zby.nd,#[A]],#[ze,#[zn,3,zby.nd,#[A],#[zj,#[zL],#[zj,#[zY],#[P7],#[zj,#[z8],#[TY],#[Qt]]],#[AT]]],#[zl,#[zn,4,zby.nd,#[A],#[zj,#[zL],#[zj,#[z8],#[Qt],#[Id]],#[AT]]]]]],#[Va]]]],?_⟩;refine zg9 ?_; intro vT sG rh;refine (pz rfl ⟨a,rfl,?_⟩);rcases hS with hS | hS
  ·refine .inl ⟨⟨_,hS⟩,zbU (K:=K) (a:=a) (xs:=cs.map V.int) (fun i σ H'=>H'=H/\∃ (pM power:Int) (nb:Option V),σ = [some #[Tz],some #[QK],some (.int x),some (.int pM),some (.int power),nb]/\0<=power/\power<=97/\lv p x pM power (cs.drop i)=lv p x 0 1 cs)
    ⟨rfl,0,1,none,rfl,#[D],#[D],rfl⟩ (fun i σ H' _ ⟨e,_⟩=>by rw [e]; exact hS) ?_ ?_⟩
   ·rintro zD zT i y σ H1 hy ⟨rfl,pM,power,nb,rfl,w0,w1,hl⟩;obtain⟨c,rfl,hc⟩:=zaC hy;have m0:=bL (power*x) (show p≠0 by lia);have m1:=bE (power*x) p0;refine #[RN];refine (pz rfl (pz rfl #[R4]));exact⟨rfl,_,_,_,rfl,m0,#[O],(zkq hc).symm.trans hl⟩
   ·rintro σ H1 ⟨rfl,pM,power,nb,rfl,w0,w1,hl⟩;rw [aA,jt] at hl;have hl:pM=lv p x 0 1 cs:=hl;rw [zkm p0] at hl;rw [<- hl] at q;exact (pz rfl q)
  ·refine .inr ⟨⟨_,hS⟩,zmD (K:=K) (a:=a) (xs:=cs.map V.int) (fun i σ H'=>H'=H/\∃ (pM power:Int) (nb:Option V),σ = [some #[Tz],some #[QK],some (.int x),some (.int pM),some (.int power),nb]/\0<=power/\power<=97/\lv p x pM power (cs.drop i)=lv p x 0 1 cs)
    ⟨rfl,0,1,none,rfl,#[D],#[D],rfl⟩ (fun i σ H' _ ⟨e,_⟩=>by rw [e]; exact hS) ?_ ?_⟩
   ·rintro zD zT i y σ H1 hy ⟨rfl,pM,power,nb,rfl,w0,w1,hl⟩;obtain⟨c,rfl,hc⟩:=zaC hy;have m0:=bL (power*x) (show p≠0 by lia);have m1:=bE (power*x) p0;refine #[RN];refine (pz rfl (pz rfl #[R4]));exact⟨rfl,_,_,_,rfl,m0,#[O],(zkq hc).symm.trans hl⟩
   ·rintro σ H1 ⟨rfl,pM,power,nb,rfl,w0,w1,hl⟩;rw [aA,jt] at hl;have hl:pM=lv p x 0 1 cs:=hl;rw [zkm p0] at hl;rw [<- hl] at q;exact (pz rfl q)
theorem znY (xs:List V) (j:Nat):zcQ xs none (some (j:Int))=xs.take j:=by
 unfold zcQ;rw [HT.MP,HT.Nh,gE,g9];by_cases h:j<=xs.length
 ·rw [fG h]
 ·rw [show min j xs.length=xs.length by lia,bC (aG _),bC (show xs.length<=j by lia)]
def zl3 (K:aD):Sp:=fun vs H Q _=>∃ (a:Addr) (ds:List Int) (p k:Int),vs = [.ref a,.int p,.int k]/\pA K H a #[Qc]/\ds.length<=1000/\0 < p /\
 ∀ (l:Addr) (qc:List Int) (H':Hp),H l=none->zr H H'->(qc.length<=ds.length/\∀ x∈qc,0<=x/\x < p)->H' l=some (.tup (qc.map V.int))->(∀ n:Nat,k=(n:Int)->n<=ds.length->qc.length=n)->Q #[Qy] H'
theorem zeY:KE ["draws","p","k"] ["draws","p","k"] (zh zaZ):=#[S]
theorem zeZ (T:Txt K mg t) (F:Fun K "_law_polynomial" "_law_polynomial" zaZ t.Lq fd):Lf P w K mg base CX0 1 t.Lq fd ["draws","p","k"] (zl3 K):=by
 refine F.ok zeY #[sK] #[mt]
 ·obtain⟨a,ds,p,k,rfl,_⟩:=h;rfl
 ·obtain⟨a,ds,p,k,rfl,ha,hn,p0,q⟩:=h;refine zaz ?_; intro zX;refine⟨_,#[zl,#[zB,#[zao,#[zaT],T.MM,iW,#[ya,#[zO,(K7.of (N':=["draw","p"]) (ix:=[none,some 1]) (zh zaZ) _ rfl rfl rfl),#[zam],#[z0,#[zbC,zcx,#[AT],#[zcw],#[zbP,#[Id]]]],#[wn],#[ut],(fun _ _ _ _=>#[zj,#[zL],#[AT],#[Db]])]]]]],?_⟩;obtain⟨ms,Ho,lms⟩:=ziq ds none (some k);refine (pz rfl (pz rfl (pz rfl ⟨a,(pz rfl ⟨ha,fun z hz=>?_⟩)⟩)));rw [Ho];have s4:=zb (o:=.lst #[QL]) hz;refine⟨z,rfl,⟨_,pA.of zc⟩,zbi (K:=K) (xs:=ms.map V.int) (fs:=ms.map fun d=>V.int (d % p)) (pA.of zc) (by rw [aA,aA]) (by rw [aA]; lia) ?_ ?_⟩
  ·intro j x y R B hx hy hR;obtain⟨c,_,rfl,rfl⟩:=zir hx hy;refine gY ?_;exact (pz rfl #[QW])
  intro D hD;have JN:(ms.map fun d=>V.int (d % p))=(ms.map (· % p)).map V.int:=by rw [cR]; rfl
  rw [JN];refine⟨D,(pz rfl (.inl ⟨pA.of zc,fun po FY=>?_⟩))⟩;have s5:=s4.trans (zb (o:=.lst ((ms.map (· % p)).map V.int)) hD);refine q po _ _ (s5.free FY) (s5.trans (zb FY)) ⟨by rw [aA]; exact lms,fun x hx=>?_⟩ zc (fun n Et hle=>?_)
  ·obtain⟨d,_,rfl⟩:=aZ.mp hx;exact#[Rf]
  ·have h1:=congrArg iq Ho;rw [Et,znY,bD,aA,aA] at h1;rw [aA];lia
noncomputable def znZ (K:aD):Sp:=fun vs H Q _=>∃ (a c tt:Addr) (ns:List Int) (at' p k:Int) (pl:List Int),vs = [.ref a,.int at',.ref c]/\pA K H a #[EQ]/\ns.length<=63/\0<=at'/\at'<=900/\zbu H c tt p k pl/\0 < p/\p<=97/\(∀ x∈pl,0<=x/\x < p)/\pl.length<=16 /\
 ∀ (l:Addr) (rw:List #[IO]) (H':Hp),H l=none->zr H H'->rw.length=pl.length->(∀ z,some z∈rw->0<=z/\z < p)->H' l=some #[Qa]->Q #[Qy] H'
theorem zrh {a b m:Int} (h0:0<=m) (h1:m < 6) (a0:0<=a) (a1:a < 3) (b0:0<=b) (b1:b < 3):∃ z:Int,atI [V.int 0,.int 0,.int a,.int b,.int 0,.int 0] m=some (.int z)/\0<=z/\z < 3:=by
 have:m=0\/m=1\/m=2\/m=3\/m=4\/m=5:=by lia
 rcases this with e | e | e | e | e | e <;> subst e
 ·exact#[Tr]
 ·exact#[Tr]
 ·exact⟨a,rfl,a0,a1⟩
 ·exact⟨b,rfl,b0,b1⟩
 ·exact#[Tr]
 ·exact#[Tr]
theorem zpt {m:Int} (h0:0<=m) (h1:m < 6):∃ z:Int,atI [V.int 4,.int 9,.int 9,.int 9,.int 2,.int 1] m=some (.int z)/\0 < z:=by
 have:m=0\/m=1\/m=2\/m=3\/m=4\/m=5:=by lia
 rcases this with e | e | e | e | e | e <;> subst e <;> exact⟨_,rfl,#[D]⟩
theorem zpu {m:Int} (h0:0<=m) (h1:m < 2):∃ z:Int,atI [V.int 9,.int 3] m=some (.int z)/\0 < z:=by
 have:m=0\/m=1:=by lia
 rcases this with e | e <;> subst e <;> exact⟨_,rfl,#[D]⟩
theorem zsa (n:Nat):(aQ n [V.non]).flatten=(aQ n (none:Option Int)).map tS:=by
 induction n with
 | zero=>rfl
 | succ n ih=>rw [d8,gm,ih,d8]; rfl
def zhJ (H:Hp) (on:Addr):Prop:=∃ os:List Addr,os.length=3/\H on=some #[Ut]/\∀ o∈os,∃ ms:List Int,H o=some (.tup #[QL])
theorem zhJ.same {on:Addr} (s:zr H H') (h:zhJ H on):zhJ H' on:=by
 obtain⟨os,h1,h2,h3⟩:=h;exact⟨os,h1,s _ _ h2,fun o ho=>let ⟨ms,e⟩:=h3 o ho; ⟨ms,s _ _ e⟩⟩
theorem zn0 {p:Int} (h:∀ z,some z∈rw->0<=z/\z < p):∀ z,some z∈rw++[none]->0<=z/\z < p:=by
 intro z hz;rcases bQ.mp hz with m | m
 ·exact h z m
 ·cases bF.mp m
theorem zi4 {p i:Int} (h:∀ z,some z∈rw->0<=z/\z < p) (hi:0<=i/\i < p):∀ z,some z∈rw++[some i]->0<=z/\z < p:=by
 intro z hz;rcases bQ.mp hz with m | m
 ·exact h z m
 ·cases bF.mp m;exact hi
theorem zi5 {p x:Int} (hp:0 < p):0<=zA p x cs/\zA p x cs < p:=⟨zbR hp cs,zbS hp cs⟩
theorem zaE:KE ["script","at","code","p","k","places","plan","ones","slips","way","row","number","which","entry"] ["script","at","code"] (zh zek):=#[S]
theorem zn1 (T:Txt K mg t) (F:Fun K "_law_row" "_law_row" zek t.OU fd):Lf P w K mg base CX0 3 t.OU fd ["script","at","code"] (znZ K):=by
 obtain⟨tW,pZ,qm⟩:=T.LP;have qp:=zdN (P:=P) (w:=w) (base:=base) T pZ;obtain⟨Ai,rq,tX⟩:=T.Lx;have tY:=zeZ (P:=P) (w:=w) (base:=base) T rq;obtain⟨DC,uS,yn⟩:=T.MW;have yo:=zjT (P:=P) (w:=w) (base:=base) T uS;refine F.ok zaE #[sK] #[mt]
 ·obtain⟨a,c,tt,ns,at',p,k,pl,rfl,_⟩:=h;rfl
 ·obtain⟨a,c,tt,ns,at',p,k,pl,rfl,hS,pI,a0,a1,hc,p0,p1,qh,hn,q⟩:=h;refine zaz ?_; intro zX;refine⟨_,#[ze,#[za5,#[Id],#[zaW,#[zi,#[zg,3,zaE.nd,#[RD]],#[zi,#[zg,4,zaE.nd,#[RD]],#[zi,#[zg,5,zaE.nd,#[A]],#[zF]]]]]],#[ze,#[zn,6,zaE.nd,#[RD],#[zp,qp,#[v6],T.Mh,pZ.kp,qm,#[zM],#[za,#[AT],by exact #[za,#[Db],#[PX]]]]],#[ze,#[zbs,7,zaE.nd,#[A],(K7.of (N':=["j","plan","p","k"]) (ix:=[none,some 6,some 3,some 4]) (zh zek) _ rfl rfl rfl),#[zam],#[zae,T.La,#[ya,#[zf]]],#[wn],#[ut],(fun _ _ _ _=>#[zp,tY,#[v6],T.M4,rq.kp,tX,#[zM],#[za,#[zbC,(zii (K:=K) rfl),#[Db],#[zbP,#[zj,#[z8],#[zf],#[AT]]],#[zcw]],#[za,#[Id],#[Su]]]])],#[ze,#[zn,8,zaE.nd,#[A],#[zp,qp,#[v6],T.Mh,pZ.kp,qm,#[zM],#[za,#[AT],by exact #[za,#[zj,#[zY],#[Db],#[zf]],#[PX]]]]],#[ze,#[zn,9,zaE.nd,#[A],#[QB]],#[ze,#[zn,10,zaE.nd,#[A],#[TU]],#[ze,#[zaX,cW,#[zae,T.La,#[ya,#[UT]]],#[zg,11,zaE.nd,#[A]],#[ze,#[zn,12,zaE.nd,#[A],#[zU,#[zI],#[z9,#[zdu,#[zdu,#[za,#[zj,#[zL],#[QO],#[zf]],by exact #[za,#[zj,#[zL],#[QO],#[zf]],#[PX]]]]]],#[Ww]]],#[ze,#[zn,13,zaE.nd,#[A],#[zp,yo,#[v6],T.OD,uS.kp,yn,#[zM],#[za,#[P7],#[za,#[zU,#[zI],#[pvx,7],#[pvx,12]],#[ya,#[zU,#[zcU],#[TY],#[pvx,11]]]]]]],#[ze,#[za3,#[zZ,#[zeF],#[zj,#[zL],#[VD],#[zU,#[zI],#[z9,#[zdu,#[zdu,#[zdu,#[za,#[zf],#[PX]]]]]],#[Ww]]],#[zf],(zad _)],#[zl,#[zn,13,zaE.nd,#[A],#[zj,#[zL],#[VD],#[P7]]]],#[zan]],#[ze,#[za3,(@PW.pt _ _ _ #[zmk,#[zZ,#[zeF],#[zj,#[zL],#[VD],#[zU,#[zI],#[z9,#[PX]],#[QB]]],#[zf],(zad _)],#[zj9,#[zZ,#[zkd],#[QB],#[zf],(zad _)]]]),#[zl,#[zn,13,zaE.nd,#[A],#[zer]]],#[zan]],#[zl,#[zct,#[zeG,dU,fJ,fK,#[zci],#[pvx,10],#[ya,#[pvx,13]]]]]]]]]],#[zl,#[zB,(@zmm _ _ _ _ _ _ _ _ #[zZ,#[zeF],#[QB],#[zf],(zad _)] #[zj,#[zdF],#[z9,#[ya,#[zer]]],#[zq,#[zJ],T.MR,dS,#[ya,#[pvx,10]]]] #[pvx,10])]]]]]]]]],?_⟩;refine zst ?_; intro zN8 zN7 Hm BV vT sG rh;have qP:=bO;refine⟨_,rfl,c,_,rfl,pK.of hc.1,rfl,_,_,rfl,_,_,rfl,_,_,rfl,rfl,?_⟩;refine (pz rfl (pz rfl (ex5 a ns at' 16 27720 ⟨rfl,hS,pI,a0,#[O],#[D],#[D],#[D],#[D],fun l ds H1 hl s1 hd tJ=>?_⟩)));have EE:ds.length=16:=hd.1;refine⟨3,rfl,#[D],#[D],zW (n:=3) (fun i ys H'=>zr H1 H'/\∃ os:List Addr,os.length=i/\ys=os.map V.ref/\∀ o∈os,∃ ms:List Int,H' o=some (.tup #[QL])) ⟨fun _ _ e=>e,[],rfl,rfl,#[M]⟩ #[Qr] #[P6] ?_ ?_⟩
  ·rintro zS zT zE i xx ys H4 H5 hi ⟨s4,os,ho,rfl,JO⟩ ⟨rfl,rfl⟩;refine gY ?_;refine (pz rfl (pz rfl (pF rfl rfl ⟨.inl #[Qg],(pz rfl ⟨l,(pz rfl ⟨pA.of (s4 _ _ tJ),fun z hz=>?_⟩)⟩)⟩)));obtain⟨ms,Ho,lms⟩:=ziq ds (some (3*(0+(i:Int)))) none;rw [Ho];refine (pz rfl (pz rfl (ex4 z ms p k ⟨rfl,pA.of zc,#[O],p0,fun po qc H6 FY s6 _ h6 _=>?_⟩)));have s5:=(zb (o:=.lst #[QL]) hz).trans s6;refine⟨zaq (by rw [aA]; lia),s4.trans s5,os++[po],by rw [aL,ho]; rfl,by rw [aN]; rfl,fun o hm=>?_⟩;rcases (bQ.mp hm) with hm | hm
   ·obtain⟨m2,e⟩:=JO o hm;exact⟨m2,s5 _ _ e⟩
   ·rw [bF.mp hm]; exact⟨qc,h6⟩
  ·rintro ys H4 on ⟨s4,os,ho,rfl,JO⟩ hon;have s5:=s1.trans (s4.trans (zb (o:=.lst (os.map V.ref)) hon));have CH:zhJ (pB H4 on #[Ut]) on:=⟨os,ho,zc,fun o hm=>let ⟨ms,e⟩:=JO o hm; ⟨ms,(zb hon) _ _ e⟩⟩;generalize pB H4 on #[Ut]=H5 at s5 CH |-;refine (pz rfl (pz rfl (pF rfl rfl (ex5 a ns (at'+1) 20 27720 ⟨rfl,s5.seq hS,pI,#[O],#[O],#[D],#[D],#[D],#[D],fun sl es H6 hsl6 s6 he yp=>?_⟩))));have hel:es.length=20:=he.1;have her:=he.2;have FZ:∀ m:Int,0<=m->m < 20->∃ c:Int,atI (es.map V.int) m=some (.int c):=fun m h0 h1=>ze6 h0 #[O]
   obtain⟨JP,e16⟩:=FZ 16 #[D] #[D];obtain⟨d17,e17⟩:=FZ 17 #[D] #[D];obtain⟨d18,e18⟩:=FZ 18 #[D] #[D];obtain⟨d19,e19⟩:=FZ 19 #[D] #[D];have w0:=bL JP (show (6:Int)≠0 by decide);have w1:=bE JP (show (0:Int) < 6 by decide);refine (pz rfl (ex4 sl _ _ _ ⟨rfl,rfl,pA.of yp,e16,(pF rfl rfl ⟨(by show (0:Int) < 6; decide),?_⟩)⟩));obtain⟨way,F4⟩:∃ way,JP % 6=way:=⟨_,rfl⟩;rw [F4] at w0 w1;refine⟨cB _,fun ro F5=>?_⟩;have xK:sl≠ro:=zu yp F5;have JQ:H ro=none:=(s5.trans s6).free F5;have DD:H5 ro=none:=s6.free F5;refine (pz rfl ⟨tt,(pz rfl ⟨.inr (pK.of ((((s5.trans s6).trans (zb F5))) _ _ hc.2)),(pz rfl ⟨by rw [aA]; lia,by rw [aA]; lia,?_⟩)⟩)⟩);rw [aA,dq];refine zaQ (lo:=0) (n:=pl.length) (fun i σ H'=>∃ (rw:List #[IO]) (v11 EG EH:Option V),σ = [some #[QK],some (.int at'),some (.ref c),some #[Tz],some (.int k),some (.ref tt),some #[Qy],some (.ref on),some (.ref sl),some (.int way),some (.ref ro),v11,EG,EH] /\
    rw.length=i/\zr H5 H'/\H' ro=some #[Qa]/\H' sl=some (.lst (es.map V.int))/\∀ z,some z∈rw->0<=z/\z < p)
    ⟨[],none,none,none,by subst F4; rfl,rfl,s6.trans (zb F5),zc,by rw [zm xK]; exact yp,fun z hz=>by simp at hz⟩ ?_ ?_
   ·rintro zD zT i σ H7 hi ⟨rw,v11,EG,EH,rfl,rL,s7,EI,F6,wW⟩;obtain⟨di,ei⟩:=FZ (0+(i:Int)) #[O] #[O];obtain⟨x,hx⟩:∃ x,pl[i]? = some x:=⟨pl[i]'hi,#[M]⟩;obtain⟨x0,x1⟩:=qh x (aU hx);have JR:atI #[Se] (0+(i:Int))=some (.int x):=by rw [eK]; exact zay (by rw [aF,hx]; rfl)
    have m20:=bL di (show (2:Int)≠0 by decide);have m21:=bE di (show (0:Int) < 2 by decide);have m30:=bL di (show (3:Int)≠0 by decide);have m31:=bE di (show (0:Int) < 3 by decide);obtain⟨wh,ewh,wh0,wh1⟩:=zrh w0 w1 m20 #[O] m30 m31;refine (pz rfl (pz rfl (ex4 sl _ _ _ ⟨rfl,rfl,pA.of F6,ei,(pF rfl rfl ⟨(by show (0:Int) < 2; decide),(pz rfl (pz rfl (ex4 sl _ _ _ ⟨rfl,rfl,pA.of F6,ei,(pF rfl rfl ⟨(by show (0:Int) < 3; decide),szq,fun l6 Hq=>?_⟩)⟩)))⟩)⟩)));refine (pz rfl (ex4 l6 _ _ _ ⟨rfl,rfl,pA.of zc,ewh,?_⟩));have s8:=s7.trans (zb (o:=.lst [.int 0,.int 0,.int (di % 2),.int (di % 3),.int 0,.int 0]) Hq);have Hr:=(zb (o:=.lst [.int 0,.int 0,.int (di % 2),.int (di % 3),.int 0,.int 0]) Hq) _ _ EI;have JS:=(zb (o:=.lst [.int 0,.int 0,.int (di % 2),.int (di % 3),.int 0,.int 0]) Hq) _ _ F6;obtain⟨H8,hH8⟩:∃ H8,H8=pB H7 l6 (.lst [.int 0,.int 0,.int (di % 2),.int (di % 3),.int 0,.int 0]):=⟨_,rfl⟩;rw [<- hH8] at s8 Hr JS |-;have hc8:=hc.same (s5.trans s8);obtain⟨JT,o1,o2,o3⟩:=CH.same s8;obtain⟨ow,how⟩:∃ ow,JT[wh.toNat]? = some ow:=⟨JT[wh.toNat]'#[O],#[M]⟩;obtain⟨mw,hmw⟩:=o3 ow (aU how);have JU:atI (JT.map V.ref) wh=some (.ref ow):=by
     have e:((wh.toNat:Nat):Int)=wh:=by lia
     rw [<- e];exact zay (by rw [aF,how]; rfl)
    refine (pz rfl (pz rfl (pz rfl (ex4 on _ _ _ ⟨rfl,rfl,pA.of o2,JU,(pz rfl (pz rfl (ex4 tt _ _ _ ⟨rfl,rfl,pK.of hc8.2,JR,p,x,ow,mw,rfl,.inr (pK.of hmw),p0,p1,x0,x1,?_⟩)))⟩))));obtain⟨z6,ez6,z60⟩:=zpt w0 w1;refine (pz rfl (pz rfl (ex4 sl _ _ _ ⟨rfl,rfl,pA.of JS,ei,(pF rfl rfl ⟨#[Qg],szq,fun l7 hl7=>?_⟩)⟩)));have u7:=zb (o:=.lst [.int 4,.int 9,.int 9,.int 9,.int 2,.int 1]) hl7;refine (pz rfl (ex4 l7 _ _ _ ⟨rfl,rfl,pA.of zc,ez6,(pF rfl rfl ⟨z60,rfl,#[Qz]⟩)⟩));have s9:=s8.trans u7;have h9r:=u7 _ _ Hr;have Hs:=u7 _ _ JS;generalize pB H8 l7 (.lst [.int 4,.int 9,.int 9,.int 9,.int 2,.int 1])=H9 at s9 h9r Hs |-;have t0:=bL d17 (show (2:Int)≠0 by decide);have t1:=bE d17 (show (0:Int) < 2 by decide);obtain⟨z2,ez2,z20⟩:=zpu t0 t1;refine za6 (fun _=>(pz rfl (pz rfl (ex4 sl _ _ _ ⟨rfl,rfl,pA.of Hs,ei,(pF rfl rfl ⟨#[Qg],#[FB]⟩)⟩)))) #[FS]
    all_goals
     refine (pz rfl (pz rfl (ex4 sl _ _ _ ⟨rfl,rfl,pA.of Hs,ei,(pF rfl rfl ⟨#[Qg],zaO,fun l8 hl8=>?_⟩)⟩)));have u8:=zb (o:=.lst [.int 9,.int 3]) hl8;have sX:=s9.trans u8;have EJ:=u8 _ _ h9r;have F7:=u8 _ _ Hs;refine (pz rfl (ex4 sl _ _ _ ⟨rfl,rfl,pA.of F7,e17,(pF rfl rfl ⟨(by show (0:Int) < 2; decide),l8,_,_,_,rfl,rfl,pA.of zc,ez2,(pF rfl rfl ⟨z20,rfl,#[Qz]⟩)⟩)⟩)); refine za6 #[FS] #[FS]
     ·refine (pz rfl (ex4 sl _ _ _ ⟨rfl,rfl,pA.of F7,e18,(pF rfl rfl ⟨(by show (0:Int) < 3; decide),#[AC]⟩)⟩)); refine za6 #[FS] #[FS]
      ·exact (pz rfl ⟨.inl ⟨rfl,_,pA.of EJ⟩,(pz rfl (ex3 ro _ _ ⟨rfl,rfl,EJ,zaq (by rw [aA]; lia),rw++[none],_,_,_,rfl,by rw [aL,rL]; rfl,zak sX DD,by rw [zc,aN]; rfl,by rw [zm xK]; exact F7,zn0 wW⟩))⟩)
      ·exact (pz rfl ⟨.inl ⟨rfl,_,pA.of EJ⟩,(pz rfl (ex3 ro _ _ ⟨rfl,rfl,EJ,zaq (by rw [aA]; lia),rw++[some _],_,_,_,rfl,by rw [aL,rL]; rfl,zak sX DD,by rw [zc,aN]; rfl,by rw [zm xK]; exact F7,zi4 wW (by first | exact#[Rf] | exact zi5 p0)⟩))⟩)
     ·refine zeS ?_;exact (pz rfl ⟨.inl ⟨rfl,_,pA.of EJ⟩,(pz rfl (ex3 ro _ _ ⟨rfl,rfl,EJ,zaq (by rw [aA]; lia),rw++[some _],_,_,_,rfl,by rw [aL,rL]; rfl,zak sX DD,by rw [zc,aN]; rfl,by rw [zm xK]; exact F7,zi4 wW (by first | exact#[Rf] | exact zi5 p0)⟩))⟩)
   ·rintro σ H7 ⟨rw,v11,EG,EH,rfl,rL,s7,EI,F6,wW⟩;refine (pz rfl (ex4 sl _ _ _ ⟨rfl,rfl,pA.of F6,e19,(pF rfl rfl ⟨(by show (0:Int) < 30; decide),rfl,#[Qz]⟩)⟩));refine za6 #[FS] (fun _=>(pz rfl (q ro rw H7 JQ (s5.trans s7) rL wW EI)));refine⟨szq,fun z hz=>(pz rfl ⟨ro,(pz rfl ⟨.inl (pA.of ((zb hz) _ _ EI)),z,_,[.non],rfl,rfl,zc,by rw [aA]; lia,by rw [aA]; lia,by rw [aA]; show 1*_<=sizeLine; lia,fun y hy=>?_⟩)⟩)⟩;have s8:=(s5.trans s7).trans (zb (o:=.lst [.non]) hz);refine q y (aQ pl.length none) _ (s8.free hy) (s8.trans (zb hy)) (by rw [bW]) (fun z hz=>by cases iN hz) ?_;rw [zc,aA,zsa,rL,dq]
theorem zb3:KE ["p","polynomial","x","value","number"] ["p","polynomial","x"] (zh zcK):=#[S]
theorem zc7 (T:Txt K mg t) (F:Fun K "value_at" "value_at" zcK t.Mx fd):Lf P w K mg base CX0 1 t.Mx fd ["p","polynomial","x"] (zeK K):=by
 refine F.ok zb3 #[sK] #[mt]
 ·obtain⟨p,x,a,cs,rfl,_⟩:=h;rfl
 ·obtain⟨p,x,a,cs,rfl,hS,p0,p1,x0,x1,q⟩:=h;refine zaz ?_; intro zX;refine⟨_,#[ze,#[zn,3,zb3.nd,#[A],#[zf]],#[ze,#[zaX,cW,(@zqF _ _ _ _ _ _ rfl T.NK #[P4] (by rfl)),#[zg,4,zb3.nd,#[A]],#[zl,#[zn,3,zb3.nd,#[A],#[zj,#[zL],#[zj,#[zY],#[zj,#[z8],#[P7],#[Id]],#[Qt]],#[AT]]]]],#[Va]]],?_⟩;refine zfu ?_; intro sG rh;refine (pz rfl ⟨a,cs.map V.int,rfl,?_⟩);rcases hS with hS | hS
  ·refine .inl ⟨hS,?_⟩;rw [aA];refine zhc (n:=cs.length) (fun i σ H'=>H'=H/\∃ nb,σ = [some #[Tz],some #[QK],some (.int x),some (.int (zA p x #[No])),nb]) ⟨rfl,none,by rw [gE,jt]; rfl⟩
    (fun i σ H' hi ⟨e,_⟩=>⟨hi,cs.map V.int,by rw [e]; exact hS,by rw [aA]⟩) (fun σ H' _=>aG _) ?_ ?_
   ·rintro zD zT i y σ H1 H2 hi ⟨rfl,nb,rfl⟩ ⟨rfl,hy⟩;obtain⟨c,rfl,hc⟩:=zaC (hy _ hS);have v0:=zbR (x:=x) p0 #[No];have v1:=zbS (x:=x) p0 #[No];refine #[RP];refine⟨rfl,some (.int c),?_⟩;rw [zgP hi hc];show _ = [some (V.int p),_,_,some (V.int ((c+x*zA p x #[No]) % p)),_];rw [Int.add_comm c,kO x];rfl
   ·rintro σ H1 ⟨rfl,nb,rfl⟩;rw [iM,g9];exact (pz rfl q)
  ·refine .inr ⟨hS,?_⟩;rw [aA];refine zhc (n:=cs.length) (fun i σ H'=>H'=H/\∃ nb,σ = [some #[Tz],some #[QK],some (.int x),some (.int (zA p x #[No])),nb]) ⟨rfl,none,by rw [gE,jt]; rfl⟩
    (fun i σ H' hi ⟨e,_⟩=>⟨hi,cs.map V.int,by rw [e]; exact hS,by rw [aA]⟩) (fun σ H' _=>aG _) ?_ ?_
   ·rintro zD zT i y σ H1 H2 hi ⟨rfl,nb,rfl⟩ ⟨rfl,hy⟩;obtain⟨c,rfl,hc⟩:=zaC (hy _ hS);have v0:=zbR (x:=x) p0 #[No];have v1:=zbS (x:=x) p0 #[No];refine #[RP];refine⟨rfl,some (.int c),?_⟩;rw [zgP hi hc];show _ = [some (V.int p),_,_,some (V.int ((c+x*zA p x #[No]) % p)),_];rw [Int.add_comm c,kO x];rfl
   ·rintro σ H1 ⟨rfl,nb,rfl⟩;rw [iM,g9];exact (pz rfl q)
theorem zbf:KE ["p","number","product","square","left"] ["p","number"] (zh zdk):=#[S]
theorem zf8 (T:Txt K mg t) (F:Fun K "inverse" "inverse" zdk t.inverse fd):Lf P w K mg base CX0 1 t.inverse fd ["p","number"] (zjy K):=by
 refine F.ok zbf #[sK] #[mt]
 ·obtain⟨p,h,rfl,_⟩:=h;rfl
 ·obtain⟨p,hh,rfl,mp,h0,h1,q⟩:=h;refine zaz ?_; intro zX;refine⟨_,#[ze,#[zn,2,zbf.nd,#[A],#[zf]],#[ze,#[zn,3,zbf.nd,#[A],#[zj,#[zL],#[Db],#[AT]]],#[ze,#[zn,4,zbf.nd,#[A],#[zj,#[zaF],#[AT],#[zf]]],#[ze,#[zh2,cW,#[zZ,#[zkd],#[Qt],#[zf],(zad _)],#[ze,#[za3,#[zZ,#[zeF],#[zj,#[zL],#[Qt],#[zf]],#[zf],(zad _)],#[zl,#[zn,2,zbf.nd,#[A],#[zj,#[zL],#[zj,#[z8],#[Id],#[P7]],#[AT]]]],#[zan]],#[ze,#[zn,3,zbf.nd,#[A],#[zj,#[zL],#[zj,#[z8],#[P7],#[P7]],#[AT]]],#[zl,#[zjn,4,zbf.nd,#[A],#[zf],zms]]]]],#[zl,#[zB,#[Id]]]]]]],?_⟩;refine zmB ?_; intro BV vT sG rh;have rp:=zC mp;have e0:=bL hh (show p≠0 by lia);have e1:=bE hh (show 0 < p by lia);refine (pz rfl (pz rfl (pF rfl rfl ⟨(by show 0 < p; lia),#[VX]⟩)));refine zmr (fun σ H'=>H'=H/\∃ (prod sq left:Int) (n:Nat),σ = [some #[Tz],some (.int hh),some (.int prod),some (.int sq),some (.int left)]/\0<=prod/\prod < p/\0<=sq/\sq < p/\0<=left/\left < 2 ^ n/\zda p n prod sq left=inv p hh) (fun σ _=>zqI σ)
   ⟨rfl,1,hh % p,p - 2,7,rfl,#[O],#[O],e0,e1,#[O],#[O],rfl⟩ ?_ ?_
  ·rintro σ H1 ⟨rfl,prod,sq,left,n,rfl,b0,b1,s0,s1,l0,l1,hi⟩;refine #[Rk];refine za6 (fun hl=>?_) (fun hl=>?_)
   ·have hl:0 < left:=by simpa using hl
    obtain⟨m,rfl⟩:∃ m,n=m+1:=by
     cases n with
     | zero=>lia
     | succ m=>exact⟨m,rfl⟩
    rw [zhj hl l1] at hi;have l2:left / 2 < 2 ^ m:=by
     have:(2:Int) ^ (m+1)=2 ^ m*2:=jI ..;lia
    have m0:=bL (prod*sq) (show p≠0 by lia);have m1:=bE (prod*sq) (show 0 < p by lia);have n0:=bL (sq*sq) (show p≠0 by lia);have n1:=bE (sq*sq) (show 0 < p by lia);refine (pz rfl (pF rfl rfl ⟨(by show (0:Int) < 2; decide),rfl,#[Qz]⟩)); refine za6 (fun ho=>?_) (fun ho=>?_)
    ·have ho:left % 2=1:=by simpa using ho
     rw [if_pos ho] at hi;refine (pz rfl (pz rfl (pF rfl rfl ⟨.inl #[wS],(pz rfl (pF rfl rfl ⟨(by show 0 < p; lia),?_⟩))⟩)));refine (pz rfl (pz rfl (pF rfl rfl ⟨.inl #[wS],(pz rfl (pF rfl rfl ⟨(by show 0 < p; lia),?_⟩))⟩)));refine (pz rfl (pF rfl rfl ⟨#[Qg],⟨rfl,_,_,_,m,rfl,m0,m1,n0,n1,#[O],l2,hi⟩,?_⟩));show (left / 2).toNat < left.toNat;lia
    ·have ho:¬ left % 2=1:=by simpa using ho
     rw [if_neg ho] at hi;refine (pz rfl (pz rfl (pF rfl rfl ⟨.inl #[wS],(pz rfl (pF rfl rfl ⟨(by show 0 < p; lia),?_⟩))⟩)));refine (pz rfl (pF rfl rfl ⟨#[Qg],⟨rfl,_,_,_,m,rfl,b0,b1,n0,n1,#[O],l2,hi⟩,?_⟩));show (left / 2).toNat < left.toNat;lia
   ·have hl:¬ 0 < left:=by simpa using hl
    have el:left=0:=by lia
    subst el;rw [zim] at hi;rw [<- hi] at q;exact (pz rfl q)
  ·rintro σ H1 Q1 Q2 hq ⟨v,e,i,j,e1,e2,k,e3,q⟩;exact⟨v,e,i,j,e1,e2,k,e3,hq _ _ q⟩
def zf9 (K:aD):Sp:=fun vs H Q _=>∃ (p r:Int) (a:Addr) (cs:List Int),vs = [.int p,.ref a,.int r]/\H a=some (.lst #[RG])/\cs.length<=1000/\0 < p/\-97<=r/\r<=97 /\
 ∀ (l:Addr) (H':Hp),H l=none->zr H H'->H' l=some (.lst ((zck p r cs).map V.int))->Q #[Qy] H'
theorem zce:KE ["p","polynomial","root","raised","kept"] ["p","polynomial","root"] (zh zbo):=#[S]
theorem zdC (T:Txt K mg t) (F:Fun K "times_root" "times_root" zbo t.LU fd):Lf P w K mg base CX0 1 t.LU fd ["p","polynomial","root"] (zf9 K):=by
 refine F.ok zce #[sK] #[mt]
 ·obtain⟨p,r,a,cs,rfl,_⟩:=h;rfl
 ·obtain⟨p,r,a,cs,rfl,ha,pI,p0,r0,r1,q⟩:=h;refine zaz ?_; intro zX;refine⟨_,#[ze,#[zn,3,zce.nd,#[A],#[zj,#[zbK],#[Qw],#[Db]]],#[ze,#[zn,4,zce.nd,#[A],#[zj,#[zbK],#[Db],#[Qw]]],#[zl,#[zB,#[zO,(K7.of (N':=["high","low","root","p"]) (ix:=[none,none,some 2,some 0]) (zh zbo) _ rfl rfl rfl),#[wP],#[zdW,T.OW,#[za,#[P7],#[Tj]]],#[or],#[ut],#[VM]]]]]],?_⟩;refine zfu ?_; intro sG rh;have qP:=bO;refine⟨szq,fun z hz=>(pz rfl (ex4 z a ([.int 0]) #[RG] ⟨rfl,rfl,zc,by rw [zm (zu ha hz)]; exact ha,by rw [aA]; show 1+cs.length<=sizeLine; lia,fun ra uu=>?_⟩))⟩;have s1:zr H (pB (pB H z (.lst [.int 0])) ra (.lst ([.int 0]++cs.map V.int))):=(zb hz).trans (zb uu);refine (pz rfl ⟨szq,fun z2 vG=>(ex4 a z2 #[RG] ([.int 0]) ⟨rfl,rfl,by rw [zm (zu #[RZ] vG)]; exact s1 _ _ ha,zc,by rw [aA]; show cs.length+1<=sizeLine; lia,fun ke hke=>?_⟩)⟩);have s2:=s1.trans ((zb (o:=.lst [.int 0]) vG).trans (zb (o:=.lst (cs.map V.int++[.int 0])) hke));have wZ:pB (pB (pB (pB H z (.lst [.int 0])) ra (.lst ([.int 0]++cs.map V.int))) z2 (.lst [.int 0])) ke (.lst (cs.map V.int++[.int 0])) ra=some (.lst ((0 :: cs).map V.int)) :=
   ((zb (o:=.lst [.int 0]) vG).trans (zb (o:=.lst (cs.map V.int++[.int 0])) hke)) _ _ zc
  have AU:pB (pB (pB (pB H z (.lst [.int 0])) ra (.lst ([.int 0]++cs.map V.int))) z2 (.lst [.int 0])) ke (.lst (cs.map V.int++[.int 0])) ke=some (.lst ((cs++[0]).map V.int)):=by rw [zc,aN]; rfl
  generalize pB (pB (pB (pB H z (.lst [.int 0])) ra (.lst ([.int 0]++cs.map V.int))) z2 (.lst [.int 0])) ke (.lst (cs.map V.int++[.int 0]))=H2 at s2 wZ AU |-;refine (pz rfl (pz rfl (ex4 ra ke _ _ ⟨rfl,pA.of wZ,pA.of AU,zW (n:=cs.length+1) (fun i ys H'=>ys=((zck p r cs).take i).map V.int/\zr H2 H') ⟨#[M],fun _ _ e=>e⟩ ?_ ?_ ?_ ?_⟩)))
  ·rintro i ys H3 hi ⟨_,s3⟩;obtain⟨x,hx⟩:∃ x,(0 :: cs)[i]? = some x:=⟨(0 :: cs)[i]'(by simpa using hi),#[M]⟩;obtain⟨y,hy⟩:∃ y,(cs++[0])[i]? = some y:=⟨(cs++[0])[i]'(by simpa using hi),#[M]⟩;exact⟨_,_,.int x,.int y,pA.of (s3 _ _ wZ),pA.of (s3 _ _ AU),by rw [aF,hx]; rfl,by rw [aF,hy]; rfl⟩
  ·rintro ys H3 ⟨_,s3⟩;exact⟨_,_,pA.of (s3 _ _ wZ),pA.of (s3 _ _ AU),.inl #[M]⟩
  ·rintro zS zT zE i x ys H3 H4 hi ⟨rfl,s3⟩ ⟨T,u,v,hT,rfl,rfl,hu,hv⟩;obtain⟨x,rfl,hx⟩:=zaC (hu _ (pA.of (s3 _ _ wZ)));obtain⟨y,rfl,hy⟩:=zaC (hv _ (pA.of (s3 _ _ AU)));refine gY2 #[Ub] ?_;refine (pz rfl (pz rfl (pz rfl (pF rfl rfl ⟨.inl #[wS],(pF rfl rfl (pz rfl (pF rfl rfl ⟨p0,zaq ?_,?_,s3.trans (zb hT)⟩)))⟩))))
   ·rw [aA];exact bR (iz _ _) #[O]
   ·show _=(List.take (i+1) (cJ (trF p r) (0 :: cs) (cs++[0]))).map V.int;rw [zin hx hy,aN];rfl
  ·rintro ys H3 D ⟨rfl,s3⟩ hD;refine q D _ (#[Ue].free hD) (#[Ue].trans (zb hD)) ?_;rw [zc,bC (by rw [zdb]; exact aG _)]
theorem zn2 {p f:Int}:∀ (cs vs:List Int),vs.length<=cs.length->ad p f cs vs=cJ (fun number other=>(number+f*other) % p) cs vs++cs.drop vs.length
 | [],[],_=>rfl
 | _ :: _,[],_=>rfl
 | [],_ :: _,h=>by simp at h
 | c :: cs,v :: vs,h=>by
  show (c+f*v) % p :: ad p f cs vs=(c+f*v) % p :: (cJ _ cs vs++cs.drop vs.length);rw [zn2 cs vs (by simpa using h)]
theorem zi6 {xs:List V} (h:k<=xs.length):zcQ xs (some (k:Int)) none=xs.drop k:=by
 have e1:HT.sIx xs.length 0 (some (k:Int))=k:=by
  unfold HT.sIx;simp;split <;> lia
 have e2:HT.sIx xs.length xs.length none=xs.length:=rfl;unfold zcQ;rw [e1,e2];exact bC (by rw [fm]; exact aG _)
noncomputable def zpv (K:aD):Sp:=fun vs H Q _=>∃ (p x y:Int) (c v b:Addr) (cs ws:List Int),vs = [.int p,.ref c,.ref v,.ref b]/\H c=some (.lst #[RG])/\H v=some (.lst (ws.map V.int))/\H b=some (.tup [.int x,.int y])/\p∈zt/\0<=x/\x < p/\0<=y/\y < 10000/\0 < zA p x ws/\zA p x ws < p/\ws.length<=cs.length/\cs.length<=1000 /\
 ∀ (l:Addr) (H':Hp),H l=none->zr H H'->H' l=some (.lst ((ad p (#[Uz]*inv p (zA p x ws) % p) cs ws).map V.int))->Q #[Qy] H'
theorem zdp:KE ["p","polynomial","vanishing","point","x","y","missing","factor","added"] ["p","polynomial","vanishing","point"] (zh zf6):=#[S]
theorem zpw (T:Txt K mg t) (F:Fun K "bent" "bent" zf6 t.Pm fd):Lf P w K mg base CX0 2 t.Pm fd ["p","polynomial","vanishing","point"] (zpv K):=by
 obtain⟨tf,pU,qd⟩:=T.Lz;have qe:=zc7 (P:=P) (w:=w) (base:=base) T pU;obtain⟨xa,qJ,sN⟩:=T.Mi;have sO:=zf8 (P:=P) (w:=w) (base:=base) T qJ;refine F.ok zdp #[sK] #[mt]
 ·obtain⟨p,x,y,c,v,b,cs,ws,rfl,_⟩:=h;rfl
 ·obtain⟨p,x,y,c,v,b,cs,ws,rfl,hc,hv,hb,mp,x0,x1,y0,y1,g0,g1,hle,pI,q⟩:=h;refine zaz ?_; intro zX;refine⟨_,#[ze,#[za5,#[P7],#[zaW,#[zi,#[zg,4,zdp.nd,#[A]],#[zi,#[zg,5,zdp.nd,#[A]],#[zF]]]]],#[ze,#[zn,6,zdp.nd,#[A],#[zj,#[zaF],#[TY],#[zp,qe,#[v6],T.LX,pU.kp,qd,#[zM],#[za,#[AT],#[za,#[Db],#[Tj]]]]]],#[ze,#[zn,7,zdp.nd,#[RD],#[zj,#[zL],#[zj,#[z8],#[SD],#[zp,sO,#[v6],T.NQ,qJ.kp,sN,#[zM],#[za,#[AT],#[ya,#[zp,qe,#[v6],T.LX,pU.kp,qd,#[zM],#[za,#[AT],#[za,#[Id],#[Tj]]]]]]]],#[AT]]],#[ze,#[zbs,8,zdp.nd,#[A],(K7.of (N':=["number","other","factor","p"]) (ix:=[none,none,some 7,some 0]) (zh zf6) _ rfl rfl rfl),#[wP],#[zdW,T.OW,#[za,#[Db],#[RU]]],#[or],#[ut],#[We]],#[zl,#[zB,#[zj,#[zbK],#[pvx,8],#[zbC,zcx,#[Db],#[zbP,#[zq,#[zJ],T.MR,dS,#[SU]]],#[zcw]]]]]]]]],?_⟩;refine zmB ?_; intro BV vT sG rh;have qP:=bO;have rp:=zC mp;have p0:0 < p:=by lia
  have v0:=zbR (x:=x) p0 cs;have v1:=zbS (x:=x) p0 cs;refine⟨_,rfl,b,_,rfl,pK.of hb,rfl,_,_,rfl,_,_,rfl,rfl,?_⟩;refine (pz rfl (pz rfl (pz rfl (pz rfl (ex4 p x c cs ⟨rfl,.inl (pA.of hc),p0,#[O],x0,x1,#[P3]⟩)))));refine (pz rfl (pz rfl (pz rfl (pz rfl (pz rfl (ex4 p x v ws ⟨rfl,.inl (pA.of hv),p0,#[O],x0,x1,p,(pz rfl ⟨mp,#[O],#[O],#[R4]⟩)⟩))))));have f0:=bL (#[Uz]*inv p (zA p x ws)) (show p≠0 by lia);have f1:=bE (#[Uz]*inv p (zA p x ws)) p0;refine (pz rfl (pz rfl (ex4 c v _ _ ⟨rfl,pA.of hc,pA.of hv,zew (n:=ws.length) (f:=fun number other=>(number+(#[Uz]*inv p (zA p x ws) % p)*other) % p) hc hv hle (aG _) (.inr (aG _)) #[O] ?_ ?_⟩)))
  ·intro j u w H6 T R B hu hv s6 hT hR;refine gY2 #[Ub] ?_;exact #[RO]
  ·intro D H6 s6 hD;obtain⟨f,hf⟩:∃ f,(y - zA p x cs)*inv p (zA p x ws) % p=f:=⟨_,rfl⟩;rw [hf] at q |-;have lz:(cJ (fun number other=>(number+f*other) % p) cs ws).length=ws.length:=by rw [iw]; lia
   have s7:=s6.trans (zb (o:=.lst ((cJ (fun number other=>(number+f*other) % p) cs ws).map V.int)) hD);have BY:pB H6 D (.lst ((cJ (fun number other=>(number+f*other) % p) cs ws).map V.int)) D=some (.lst ((cJ (fun number other=>(number+f*other) % p) cs ws).map V.int)):=zc;generalize pB H6 D (.lst ((cJ (fun number other=>(number+f*other) % p) cs ws).map V.int))=H7 at s7 BY |-;have F8:=s7 _ _ hc;refine (pz rfl (pz rfl (pz rfl ⟨D,(pz rfl ⟨.inl (pA.of BY),?_⟩)⟩)));refine (pz rfl ⟨c,(pz rfl ⟨pA.of F8,fun z hz=>?_⟩)⟩);have ec:zcQ #[RG] (some ((((cJ (fun number other=>(number+f*other) % p) cs ws).map V.int).length:Nat):Int)) none=(cs.drop ws.length).map V.int:=by
    rw [aA,lz,zi6 (by rw [aA]; exact hle),kh]
   rw [ec];have s8:=zb (o:=.lst ((cs.drop ws.length).map V.int)) hz;refine (ex4 D z _ _ ⟨rfl,rfl,s8 _ _ BY,zc,by rw [aA,aA,lz,fm]; lia,fun l hl=>q l _ (((s7.trans s8).free hl)) ((s7.trans s8).trans (zb hl)) ?_⟩);rw [zc,zn2 cs ws hle,aN]
theorem zbg:KE ["p","points","polynomial","vanishing","x","y"] ["p","points"] (zh zdl):=#[S]
theorem zjU (T:Txt K mg t) (F:Fun K "through" "through" zdl t.through fd):Lf P w K mg base CX0 3 t.through fd ["p","points"] (ziW K):=by
 obtain⟨Ht,AV,DE⟩:=T.OJ;have DF:=zpw (P:=P) (w:=w) (base:=base) T AV;obtain⟨uB,qa,qR⟩:=T.Ls;have qS:=zdC (P:=P) (w:=w) (base:=base) T qa;refine F.ok zbg #[sK] #[mt]
 ·obtain⟨p,a,pJ,rfl,_⟩:=h;rfl
 ·obtain⟨p,a,pJ,rfl,hP,pI,mp,hp,hyr,q⟩:=h;refine zaz ?_; intro zX;refine⟨_,#[ze,#[zn,2,zbg.nd,#[A],#[zj,#[zdF],#[Qw],#[Rg]]],#[ze,#[zn,3,zbg.nd,#[A],#[Qw]],#[ze,#[zaX,cW,#[z0,#[Db]],#[zaW,#[zi,#[zg,4,zbg.nd,#[A]],#[zi,#[zg,5,zbg.nd,#[A]],#[zF]]]],#[ze,#[zn,2,zbg.nd,#[A],#[zp,DF,#[v6],T.Pg,AV.kp,DE,#[zM],#[za,#[AT],by exact #[za,#[Id],#[za,#[P7],#[ya,#[zai,#[za,#[Qt],#[QH]]]]]]]]],#[zl,#[zn,3,zbg.nd,#[A],#[zp,qS,#[v6],T.Mt,qa.kp,qR,#[zM],#[za,#[AT],#[za,#[P7],#[Tj]]]]]]]],#[zl,#[zB,#[zao,#[zaT],T.MM,iW,#[RU]]]]]]],?_⟩;refine zg9 ?_; intro vT sG rh;have qP:=bO;have rp:=zC mp;have p0:0 < p:=by lia
  obtain⟨bs,hS,vU,hb⟩:=id hP;refine⟨szq,fun z hz=>(pz rfl ⟨a,(pz rfl ⟨.inl ((zb hz).seq hS),z,_,[.int 0],rfl,rfl,zc,by rw [aA]; lia,by rw [aA]; lia,by rw [aA]; show 1*_<=sizeLine; lia,fun c hc=>?_⟩)⟩)⟩;have s0:=zb (o:=.lst [.int 0]) hz;have hcH:H c=none:=s0.free hc;refine⟨szq,fun v hv=>?_⟩;have hcv:c≠v:=zu zc hv;rw [aA,zio,vU,dq] at hv |-;have s2:zr H (pB (pB (pB H z (.lst [.int 0])) c (.lst ((aQ pJ.length 0).map V.int))) v (.lst [.int 1])):=(s0.trans (zb hc)).trans (zb hv);refine⟨_,rfl,a,rfl,⟨_,s2.seq hS⟩,zbU (K:=K) (a:=a) (xs:=bs.map V.ref) (fun i σ H'=>∃ (c v:Addr) (s:List Int×List Int) (e4 e5:Option V),σ = [some #[Tz],some #[QK],some (.ref c),some (.ref v),e4,e5] /\
   s=#[U3].foldl (zcX p) (aQ pJ.length 0,[1])/\Nw p pJ.length (#[U3].map (md p)) s/\zr H H'/\H' c=some (.lst (s.1.map V.int))/\H' v=some (.lst (s.2.map V.int)))
   ⟨c,v,_,none,none,rfl,rfl,by rw [gz]; exact zil mp _,s2,by rw [zm hcv]; exact zc,zc⟩ (fun i σ H' _ ⟨_,_,_,_,_,_,_,_,s3,_⟩=>s3.seq hS) ?_ ?_⟩
  ·rintro zD zT i y σ H1 hy ⟨c,v,s,e4,e5,rfl,hs,nw,s1,vi,JV⟩;obtain⟨b,rfl,xb⟩:=zQ hy;obtain⟨hi,_⟩:=aP.mp xb;obtain⟨⟨x,y⟩,hq⟩:∃ q,pJ[i]? = some q:=⟨pJ[i]'#[O],#[M]⟩;have hbq:=s1 _ _ (hb i b _ xb hq);have vL:=zfD hq;have uw:=hp;rw [vL,aN,bX] at uw;have Hu:=uw.apart;obtain⟨x0,x1,m0,m1⟩:=hp.rg _ (aZ.mpr ⟨_,aU hq,rfl⟩);obtain⟨y0,y1⟩:=hyr _ (aU hq);dsimp only [md] at x0 x1 m0 m1 y0 y1;have G8:i < pJ.length:=by lia
   have rH:#[U3].length=i:=by rw [bD]; lia
   have JW:=zkp mp nw (q:=md p (x,y)) (by rw [aA,rH]; exact G8) x0 x1 m0 m1 Hu;rw [ziV] at JW;obtain⟨Hv,EB⟩:=zko mp nw (q:=(x,y)) x0 x1 (fun a ha=>⟨(Hu a ha).1,(Hu a ha).2.1,(Hu a ha).2.2.1⟩);dsimp only at Hv EB;have qw:zcX p s (x,y)=(ad p ((y - zA p x s.1)*inv p (zA p x s.2) % p) s.1 s.2,zck p x s.2):=rfl;rw [qw] at JW;have l1:=nw.lc;have l2:=nw.lv;rw [aA,rH] at l2;refine⟨b,_,rfl,pK.of hbq,rfl,_,_,rfl,_,_,rfl,rfl,?_⟩;refine (pz rfl (pz rfl (pz rfl (pz rfl (pz rfl ⟨szq,fun tt ht=>?_⟩)))));have t1:=zb (o:=.tup [.int x,.int y]) ht;refine (ex8 p x y c v tt s.1 s.2 ⟨rfl,t1 _ _ vi,t1 _ _ JV,zc,mp,x0,x1,y0,y1,Hv,EB,#[O],#[O],fun l H3 hl s3 CI=>?_⟩);have s4:=t1.trans s3;refine (pz rfl (pz rfl (pz rfl (ex4 p x v s.2 ⟨rfl,s4 _ _ JV,#[O],p0,#[O],#[O],fun l2 H4 rX s5 h4l=>?_⟩))));refine (ex5 l l2 (zcX p s (x,y)) _ _ ⟨rfl,?_,?_,(s1.trans s4).trans s5,?_,?_⟩)
   ·rw [take_snoc hq,List.foldl_append,<- hs];rfl
   ·rw [take_snoc hq,qw,aN];exact JW
   ·rw [qw];exact s5 _ _ CI
   ·rw [qw];exact h4l
  ·rintro σ H1 ⟨c,v,s,e4,e5,rfl,hs,nw,s1,vi,JV⟩;rw [aA,vU,d6] at hs;refine (pz rfl ⟨c,(pz rfl (.inl ⟨pA.of vi,fun l hl=>q l _ (s1.free hl) (s1.trans (zb hl)) ?_⟩))⟩);rw [zc,hs,zq4];rfl
theorem zbd:KE ["code","row","p","k","places"] ["code","row"] (zh zaY):=#[S]
theorem zbL (T:Txt K mg t) (F:Fun K "heard_points" "heard_points" zaY t.Lr fd):Lf P w K mg base CX0 1 t.Lr fd ["code","row"] (zo7 K):=by
 refine F.ok zbd #[sK] #[mt]
 ·obtain⟨c,tt,r,p,k,pl,rw,rfl,_⟩:=h;rfl
 ·obtain⟨c,tt,r,p,k,pl,rw,rfl,hc,qA,hn,q⟩:=h;refine zaz ?_; intro zX;refine⟨_,#[ze,#[za5,#[AT],#[zaW,#[zi,#[zg,2,zbd.nd,#[A]],#[zi,#[zg,3,zbd.nd,#[A]],#[zi,#[zg,4,zbd.nd,#[A]],#[zF]]]]]],#[zl,#[zB,#[zO,(K7.of (N':=["place","entry"]) (ix:=[none,none]) (zh zaY) _ rfl rfl rfl),#[wP],(@zm1 _ _ _ _ _ _ _ _ _ rfl T.OW #[za,#[Qt],#[P4]] (by rfl) (by rfl)),#[or],(fun _ _ _ _=>#[zbD,#[zZ,(@zou _),#[Db],#[zer],(zad _)]]),(fun _ _ _ _=>#[zai,#[Vc]])]]]],?_⟩;refine zgj ?_; intro rh;have qP:=bO;have hl:=qA.len;refine⟨_,rfl,c,_,rfl,pK.of hc.1,rfl,_,_,rfl,_,_,rfl,_,_,rfl,rfl,?_⟩;refine (pz rfl (pz rfl (ex4 tt r _ _ ⟨rfl,pK.of hc.2,qA.at',zW (n:=pl.length) (fun i ys H'=>zr H H'/\∃ us:List Addr,ys=us.map V.ref/\PtB H' us (pV (pl.take i) (rw.take i))) ⟨fun _ _ e=>e,[],rfl,.nil⟩ ?_ ?_ ?_ ?_⟩)))
  ·rintro i ys H3 hi ⟨s3,_⟩;obtain⟨o,ho⟩:∃ o,rw[i]? = some o:=⟨rw[i]'#[O],#[M]⟩;exact⟨_,_,.int pl[i],tS o,pK.of (s3 _ _ hc.2),s3.seq qA.at',by rw [aF,aJ hi]; rfl,by rw [aF,ho]; rfl⟩
  ·rintro ys H3 ⟨s3,_⟩;exact⟨_,_,pK.of (s3 _ _ hc.2),s3.seq qA.at',.inl (by rw [aA])⟩
  ·rintro zS zT zE i xx ys H3 H4 hi ⟨s3,us,rfl,pO⟩ ⟨T,u,v,hT,rfl,rfl,hu,hv⟩;obtain⟨x,rfl,hx⟩:=zaC (hu _ (pK.of (s3 _ _ hc.2)));obtain⟨o,rfl,ho⟩:=zkt (hv _ (s3.seq qA.at'));have v4:=zb (o:=.tup [.int x,tS o]) hT;have s4:=s3.trans v4;have hs:=zfT hx ho;have tL:=pO.length;have hb:=zcF (pl.take i) (rw.take i);rw [bD] at hb;refine#[W6];refine (pz rfl #[VG]);cases o with
   | none =>
    refine zeS ⟨s4,us,rfl,?_⟩;rw [hs,dn];exact pO.same v4
   | some z =>
    refine zmA (pz rfl (pz rfl ⟨szq,fun T2 BZ=>⟨by rw [aA]; lia,s4.trans (zb BZ),us++[T2],by rw [aN]; rfl,?_⟩⟩));rw [hs];exact cY (pO.same (v4.trans (zb BZ))) zc
  ·rintro ys H3 D ⟨s3,us,rfl,pO⟩ hD;rw [d6,bC #[O]] at pO;exact q D us _ (s3.free hD) (s3.trans (zb hD)) zc #[QU]
theorem zjV:KE ["p","vector","times","other"] ["p","vector","times","other"] (zh zcn):=#[S]
theorem zjW (T:Txt K mg t) (F:Fun K "without" "without" zcn t.without fd):Lf P w K mg base CX0 1 t.without fd ["p","vector","times","other"] (zjL K):=by
 refine F.ok zjV #[sK] #[mt]
 ·obtain⟨p,tm,a,b,as,bs,rfl,_⟩:=h;rfl
 ·obtain⟨p,tm,a,b,as,bs,rfl,ha,hb,hl,hn,p0,t0,t1,q⟩:=h;refine zaz ?_; intro zX;refine⟨_,#[zl,#[zB,#[zO,(K7.of (N':=["number","less","times","p"]) (ix:=[none,none,some 2,some 0]) (zh zcn) _ rfl rfl rfl),#[wP],#[zdW,T.OW,#[Vb]],#[or],#[ut],#[VM]]]],?_⟩;have qP:=bO;refine (pz rfl (pz rfl (ex4 a b _ _ ⟨rfl,pA.of ha,pA.of hb,zew (n:=as.length) (f:=fun x y=>(x - tm*y) % p) ha hb (aG _) #[O] (.inl (aG _)) #[O] ?_ ?_⟩)))
  ·intro j u w H6 T R B hu hv s6 hT hR;refine gY2 #[Ub] ?_;exact #[RO]
  ·intro D H6 s6 hD;exact q D _ (s6.free hD) (s6.trans (zb hD)) zc
def zb4 (p:Int) (L:Nat) (vv:List #[At]):Prop:=∀ v∈vv,v.length=L/\∀ c∈v,0<=c/\c < p
theorem zb4.snoc {p:Int} {v:List Int} (h:zb4 p L vv) (h1:v.length=L) (h2:∀ c∈v,0<=c/\c < p):zb4 p L (vv++[v]):=fun x hx=>by
 rcases (bQ.mp hx) with hx | hx
 ·exact h x hx
 ·rw [bF.mp hx];exact⟨h1,h2⟩
structure Pk (p:Int) (L N m:Nat) (cl:List (Nat×List Int)):Prop where
 ln:cl.length=m
 one:∀ (j:Nat) (a:Nat×List Int),cl[j]? = some a->a.1 < L/\a.2.length=L+N/\gl a.2 a.1=1/\∀ i,j < i->i < N->gl a.2 (L+i)=0
 up:∀ (j j':Nat) (a a':Nat×List Int),cl[j]? = some a->cl[j']? = some a'->j < j'->gl a'.2 a.1=0
structure WhW (p:Int) (L N m:Nat) (cl:List (Nat×List Int)) (w:List Int):Prop where
 ln:w.length=L+N
 rg:∀ c∈w,0<=c/\c < p
 top:gl w (L+m)=1
 up:∀ j,m < j->j < N->gl w (L+j)=0
 z:∀ a∈cl,gl w a.1=0
theorem zl4 {p:Int} (hp:1 < p) {N m:Nat} {v:List Int} (hm:m < N) (hl:v.length=L) (hr:∀ c∈v,0<=c/\c < p):WhW p L N m [] ((v++aQ N 0).set (L+m) 1):=by
 refine⟨by rw [kZ,aL,bW,hl],fun c hc=>?_,zbX (by
  rw [fX (by rw [aL,bW]; lia)]),fun j h1 h2=>zbX (by
  rw [gq #[O],cS #[O],fO];rw [if_pos #[O]]),fun a ha=>by cases ha⟩
 rcases List.mem_or_eq_of_mem_set hc with h | rfl
 ·rcases (bQ.mp h) with h | h
  ·exact hr c h
  ·rw [iN h]; lia
 ·lia
theorem zn3 {p:Int} (hp:1 < p) {N m i:Nat} {w:List Int} {a:Nat×List Int} (E:Pk p L N m cl) (hm:m < N) (ha:cl[i]? = some a) (W:WhW p L N m (cl.take i) w) :
  WhW p L N m (cl.take (i+1)) (cJ (fun x y=>(x - gl w a.1*y) % p) w a.2):=by
 obtain⟨a1,a2,a5,a6⟩:=E.one i a ha;have him:i < m:=by rw [<- E.ln]; exact (aP.mp ha).1
 have hg:∀ y,y < L+N->gl (cJ (fun x y=>(x - gl w a.1*y) % p) w a.2) y=(gl w y - gl w a.1*gl a.2 y) % p:=fun y hy=>zq2 (by rw [W.ln]; exact hy) #[O]
 refine⟨by rw [iw,W.ln,a2,Nat.min_self],fun c hc=>?_,?_,fun j h1 h2=>?_,fun b hb=>?_⟩
 ·obtain⟨x,y,rfl⟩:=zfy hc;exact⟨bL _ #[O],bE _ #[O]⟩
 ·rw [hg _ #[O],W.top,a6 m him hm,jE,Int.sub_zero];exact fc #[O] #[O]
 ·rw [hg _ #[O],W.up j h1 h2,a6 j #[O] h2,jE];rfl
 ·rw [take_snoc ha] at hb;rcases (bQ.mp hb) with hb | hb
  ·obtain⟨j,hj⟩:=jK hb;have FR:j < i:=by
    have:=(aP.mp hj).1;rw [bD] at this;lia
   have sJ:cl[j]? = some b:=by rw [dL FR] at hj; exact hj
   have vh:=(E.one j b sJ).1;rw [hg _ #[O],W.z b hb,E.up j i b a sJ ha FR,jE];rfl
  ·rw [bF.mp hb,hg _ #[O],a5,nW,Int.sub_self];rfl
theorem zl5 {p:Int} (hp:p∈zt) {N m:Nat} {w:List Int} {ld:Nat} (E:Pk p L N m cl) (W:WhW p L N m cl w) (JX:ld < L) (h0:gl w ld≠0) :
  Pk p L N (m+1) (cl++[(ld,w.map fun x=>x*inv p #[SS] % p)]):=by
 have rp:=zC hp;obtain⟨g0,g1⟩:=zjK (show 0 < p by lia) W.rg ld;have hi:=zeu hp (h:=gl w ld) #[O] g1;have hg:∀ y,y < L+N->gl (w.map fun x=>x*inv p #[SS] % p) y=gl w y*inv p #[SS] % p:=fun y hy=>zq1 (f:=fun x=>x*inv p #[SS] % p) (by rw [W.ln]; exact hy)
 have qY:∀ j a,(cl++[(ld,w.map fun x=>x*inv p #[SS] % p)])[j]? = some a->(j < m/\cl[j]? = some a)\/(j=m/\a=(ld,w.map fun x=>x*inv p #[SS] % p)):=fun j a h=>by
  by_cases hj:j < m
  ·rw [dA (by rw [E.ln]; exact hj)] at h;exact .inl ⟨hj,h⟩
  ·rw [cS (by rw [E.ln]; lia),E.ln] at h;have uz:j - m=0:=by
    have:=(aP.mp h).1;simp at this;lia
   rw [uz] at h;exact .inr ⟨#[O],(by simpa using h.symm)⟩
 refine⟨by rw [aL,E.ln]; rfl,fun j a h=>?_,fun j j' a a' h h' pT=>?_⟩
 ·rcases qY j a h with ⟨_,h⟩ | ⟨rfl,rfl⟩
  ·exact E.one j a h
  ·refine⟨JX,by rw [aA,W.ln],?_,fun i h1 h2=>?_⟩
   ·show gl (w.map fun x=>x*inv p #[SS] % p) ld=1;rw [hg _ #[O],kO,hi.mod_eq];exact fc #[O] #[O]
   ·show gl (w.map fun x=>x*inv p #[SS] % p) (L+i)=0;rw [hg _ #[O],W.up i h1 h2,eJ];rfl
 ·rcases qY j' a' h' with ⟨_,h'⟩ | ⟨rfl,rfl⟩
  ·rcases qY j a h with ⟨_,h⟩ | ⟨rfl,rfl⟩
   ·exact E.up j j' a a' h h' pT
   ·lia
  ·rcases qY j a h with ⟨_,h⟩ | ⟨rfl,rfl⟩
   ·have:=(E.one j a h).1;show gl (w.map fun x=>x*inv p #[SS] % p) a.1=0;rw [hg _ #[O],W.z a (aU h),eJ];rfl
   ·lia
theorem zpx {p:Int} {N m:Nat} (E:Pk p L N m cl):m<=L:=by
 have nd:(cl.map (·.1)).Nodup:=by
  rw [fk,dE,eQ];intro i j hi hj tU e;have h1:=aJ hi;have h2:=aJ hj;have a:=E.up i j _ _ h1 h2 tU;rw [e,(E.one j _ h2).2.2.1] at a;cases a
 have:=List.Nodup.length_le_of_subset nd (l₂:=bA L) fun x hx=>by
  obtain⟨a,ha,rfl⟩:=aZ.mp hx;obtain⟨j,hj⟩:=jK ha;exact bU.mpr (E.one j a hj).1
 rw [aA,bI,E.ln] at this;exact this
theorem zpy {p:Int} {N m:Nat} {w:List Int} (W:WhW p L N m cl w) (hm:m < N):IsP p (m+1) ((w.drop L).take (m+1))/\gl ((w.drop L).take (m+1)) m=1:=by
 refine⟨⟨by rw [bD,fm,W.ln]; lia,fun c hc=>W.rg c (mo (jL hc))⟩,?_⟩;rw [<- W.top];exact zbX (by
  rw [dL #[O],gO];exact zcc (by rw [W.ln]; lia))
def zdO (K:aD):Sp:=fun vs H Q _=>∃ (p:Int) (a:Addr) (ls:List Addr) (vv:List #[At]) (L:Nat),vs = [.int p,.ref a]/\H a=some #[BT]/\LsA H ls vv/\vv.length<=200/\L < vv.length/\zb4 p L vv/\p∈zt /\
 ∀ (l:Addr) (c:List Int) (m:Nat) (H':Hp),H l=none->zr H H'->H' l=some (.lst #[Ri])->IsP p (m+1) c->m < vv.length->gl c m=1->Q #[Qy] H'
theorem zN:KE ["p","vectors","length","cleared","count","vector","whole","lead","other","leads","factor"] ["p","vectors"] (zh zaw):=#[S]
theorem zen (T:Txt K mg t) (F:Fun K "first_relation" "first_relation" zaw t.Lg fd):Lf P w K mg base CX0 2 t.Lg fd ["p","vectors"] (zdO K):=by
 obtain⟨DG,uU,yq⟩:=T.MS;have yr:=zjW (P:=P) (w:=w) (base:=base) T uU;obtain⟨xa,qJ,sN⟩:=T.Mi;have sO:=zf8 (P:=P) (w:=w) (base:=base) T qJ;refine F.ok zN #[sK] #[mt]
 ·obtain⟨p,a,ls,vv,L,rfl,_⟩:=h;rfl
 ·obtain⟨p,a,ls,vv,L,rfl,ha,qk,hN,hL,hvv,hp,qs⟩:=h;refine zaz ?_; intro zX;refine⟨_,#[ze,#[zn,2,zN.nd,#[A],#[zq,#[zJ],T.MR,dS,#[ya,#[zU,#[zI],#[Db],#[zf]]]]],#[ze,#[zn,3,zN.nd,#[A],#[TU]],#[ze,#[zaX,cW,#[zfw,T.LA,#[P4]],#[zaW,#[zi,#[zg,4,zN.nd,#[A]],#[zi,#[zg,5,zN.nd,#[A]],#[zF]]]],#[ze,#[zn,6,zN.nd,#[RD],#[zj,#[zbK],#[TY],#[zj,#[zdF],#[Qw],#[Rg]]]],#[ze,#[za5,#[zf],#[zmn,#[SD],#[zj,#[zY],#[Id],#[Qt]],set_list]],#[ze,#[zaX,cW,#[z0,#[P7]],#[zaW,#[zi,#[zg,7,zN.nd,#[A]],#[zi,#[zg,8,zN.nd,#[A]],#[zF]]]],#[zl,#[zn,6,zN.nd,#[RD],#[zp,yr,#[v6],T.Oz,uU.kp,yq,#[zM],#[za,#[AT],by exact #[za,#[SD],#[za,#[zU,#[zI],#[SD],#[pvx,7]],#[SU]]]]]]]],#[ze,#[zbs,9,zN.nd,#[A],(K7.of (N':=["at","whole"]) (ix:=[none,some 6]) (zh zaw) _ rfl rfl rfl),#[zam],#[UB],#[wn],(fun _ _ _ _=>#[zbD,#[zZ,#[zh4],#[zU,#[TB],#[Db],#[AT]],#[zf],(zad _)]]),#[QN]],#[ze,#[za3,#[zcS,#[zh6,#[Ww],#[VU]]],#[zl,#[zB,#[zbC,zcx,#[SD],#[zbP,#[Id]],#[zbP,#[zj,#[zY],#[zj,#[zY],#[Id],#[Qt]],#[zf]]]]]],#[zan]],#[ze,#[zn,10,zN.nd,#[RD],#[zp,sO,#[v6],T.NQ,qJ.kp,sN,#[zM],#[za,#[AT],#[ya,#[zU,#[zI],#[SD],#[zU,#[zI],#[Ww],#[zf]]]]]]],#[zl,#[zct,#[zeG,dU,fJ,fK,#[zci],#[P7],#[ya,#[zai,#[za,#[zU,#[zI],#[Ww],#[zf]],#[ya,#[zO,(K7.of (N':=["number","factor","p"]) (ix:=[none,some 10,some 0]) (zh zaw) _ rfl rfl rfl),#[zam],#[z0,#[SD]],#[wn],#[ut],(fun _ _ _ _=>#[zj,#[zL],#[zj,#[z8],#[AT],#[Db]],#[Id]])]]]]]]]]]]]]]]],#[zl,#[zB,#[zer]]]]]],?_⟩;refine zg9 ?_; intro vT sG rh;have qP:=bO;have rp:=zC hp;have p0:0 < p:=by lia
  have wY:=qk.length;have hN0:0 < vv.length:=by lia
  obtain⟨l0,JY⟩:∃ l0,ls[0]? = some l0:=⟨ls[0]'#[O],#[M]⟩;obtain⟨v0,hv0,JZ⟩:=Paired.get qk JY;have J0:=(hvv v0 (aU hv0)).1;refine (pz rfl (ex4 a _ _ (.ref l0) ⟨rfl,rfl,pA.of ha,zay (j:=0) (by rw [aF,JY]; rfl),l0,(pz rfl ⟨.inl (pA.of JZ),?_⟩)⟩));rw [aA,J0];refine⟨szq,fun ca hca=>?_⟩;have u1:=zb (o:=.lst []) hca;refine⟨_,rfl,a,_,rfl,pA.of (u1 _ _ ha),zhc (n:=vv.length) (fun i σ H'=>∃ (cs:List Addr) (cl:List (Nat×List Int)) (e4 e5 e6 e7 e8 e9 xM:Option V),σ = [some #[Tz],some #[QK],some (.int (L:Int)),some (.ref ca),e4,e5,e6,e7,e8,e9,xM]/\zr H H'/\H' ca=some #[SN]/\ClA ca H' cs cl/\Pk p L vv.length i cl)
   ⟨[],[],none,none,none,none,none,none,none,rfl,u1,zc,.nil,⟨rfl,fun _ _ h=>by simp at h,fun _ _ _ _ h=>by simp at h⟩⟩ ?_ ?_ ?_ ?_⟩
  ·rintro i σ H1 hi ⟨cs,cl,e4,e5,e6,e7,e8,e9,xM,rfl,s1,_⟩;exact⟨_,.ref (ls[i]'#[O]),pA.of #[RZ],by rw [aF,aJ #[O]]; rfl⟩
  ·rintro σ H1 ⟨cs,cl,e4,e5,e6,e7,e8,e9,xM,rfl,s1,_⟩;exact⟨_,pA.of #[RZ],by rw [aA]; lia⟩
  ·rintro zD zT i x σ H1 H2 hi ⟨cs,cl,e4,e5,e6,e7,e8,e9,xM,rfl,s1,vi,uM,E⟩ ⟨T,v,hT,rfl,rfl,hv⟩;obtain⟨lv,rfl,hlv⟩:=zQ (hv _ (pA.of #[RZ]));obtain⟨vec,J3,hva⟩:=Paired.get qk hlv;obtain⟨sE,J4⟩:=hvv vec (aU J3);have t2:=zb (o:=.tup [.int (i:Int),.ref lv]) hT;refine#[W6];have s2:=s1.trans t2;have J5:=t2 _ _ vi;have DH:=uM.same t2;generalize pB H1 T (.tup [.int (i:Int),.ref lv])=H2 at t2 s2 J5 DH |-;refine (pz rfl ⟨szq,fun z hz=>(pz rfl ⟨a,(pz rfl ⟨.inl (pA.of ((s2.trans (zb hz)) _ _ ha)),z,_,[.int 0],rfl,rfl,zc,by rw [aA]; lia,by rw [aA]; lia,by rw [aA]; show 1*_<=sizeLine; lia,fun y hy=>?_⟩)⟩)⟩);rw [aA,zio,wY,dq];have t3:=(zb (o:=.lst [.int 0]) hz).trans (zb (o:=.lst ((aQ vv.length (0:Int)).map V.int)) hy);have h3y:pB (pB H2 z (.lst [.int 0])) y (.lst ((aQ vv.length (0:Int)).map V.int)) y=some (.lst ((aQ vv.length (0:Int)).map V.int)):=zc;generalize pB (pB H2 z (.lst [.int 0])) y (.lst ((aQ vv.length (0:Int)).map V.int))=H3 at t3 h3y |-;refine (ex4 lv y _ _ ⟨rfl,rfl,(s2.trans t3) _ _ hva,h3y,by rw [aA,aA,bW]; lia,fun wl C3=>?_⟩);rw [<- aN];have t4:=zb (o:=.lst ((vec++aQ vv.length (0:Int)).map V.int)) C3;refine (pz rfl (pz rfl (pz rfl (pF rfl rfl (ex4 wl _ _ (L+i) ⟨rfl,rfl,zc,?_,?_⟩)))))
   ·rw [<- lh];exact zoI (by rw [aA,aL,bW]; lia)
   have ew:((vec++aQ vv.length (0:Int)).map V.int).set (L+i) (.int 1)=((vec++aQ vv.length (0:Int)).set (L+i) 1).map V.int:=by rw [List.map_set]
   rw [ew,zop];have t4:=t3.trans (zb (o:=.lst (((vec++aQ vv.length (0:Int)).set (L+i) 1).map V.int)) C3);have J6:pB H3 wl (.lst (((vec++aQ vv.length (0:Int)).set (L+i) 1).map V.int)) wl=some (.lst (((vec++aQ vv.length (0:Int)).set (L+i) 1).map V.int)):=zc;have W0:=zl4 (show 1 < p by lia) (N:=vv.length) hi sE J4;have hwc:wl≠ca:=fun e=>by
    have:=t3 _ _ J5;rw [<- e,C3] at this;cases this
   generalize pB H3 wl (.lst (((vec++aQ vv.length (0:Int)).set (L+i) 1).map V.int))=H4 at t4 J6 |-;generalize (vec++aQ vv.length (0:Int)).set (L+i) 1=w0 at W0 J6 |-;have s4:=s2.trans t4;have Hw:=t4 _ _ J5;have DI:=DH.same t4;have F9:=DI.length;refine⟨_,rfl,ca,rfl,⟨_,pA.of Hw⟩,zbU (K:=K) (a:=ca) (xs:=cs.map V.ref) (fun j σ H'=>∃ (wa:Addr) (w:List Int) (e7 e8:Option V),σ = [some #[Tz],some #[QK],some (.int (L:Int)),some (.ref ca),some (.int (i:Int)),some (.ref lv),some (.ref wa),e7,e8,e9,xM]/\zr H4 H'/\H' wa=some (.lst (w.map V.int))/\wa≠ca/\WhW p L vv.length i (cl.take j) w)
    ⟨wl,w0,_,_,rfl,fun _ _ e=>e,J6,hwc,W0⟩ (fun j σ H' _ ⟨_,_,_,_,_,s5,_⟩=>pA.of (s5 _ _ Hw)) ?_ ?_⟩
   ·rintro zD zT j y σ H5 hy ⟨wa,w,e7,e8,rfl,s5,F',hwa,W⟩;obtain⟨b,rfl,hb⟩:=zQ hy;obtain⟨aa,haa,oa,vh,wK,CA⟩:=Paired.get DI hb;obtain⟨o1,o2,_⟩:=E.one j aa haa;refine⟨b,_,rfl,pK.of (s5 _ _ vh),rfl,_,_,rfl,_,_,rfl,rfl,?_⟩;have hg:=zjK p0 W.rg aa.1;refine (pz rfl (pz rfl (pz rfl (pz rfl (ex4 wa _ _ (.int (gl w aa.1)) ⟨rfl,rfl,pA.of F',zay (by rw [aF,zcc (by rw [W.ln]; lia)]; rfl),(pz rfl (ex6 p (gl w aa.1) wa oa w aa.2 ⟨rfl,F',s5 _ _ wK,by rw [W.ln,o2],by rw [W.ln]; lia,p0,hg.1,#[O],fun l H6 hl s6 Ga=>?_⟩))⟩)))));refine (ex4 l _ _ _ ⟨rfl,s5.trans s6,Ga,fun e=>?_,zn3 #[O] E hi haa W⟩);have:=s5 _ _ Hw;rw [<- e,hl] at this;cases this
   ·rintro σ H5 ⟨wa,w,e7,e8,rfl,s5,F',hwa,W⟩;rw [aA,F9,d6] at W;have h5c:=s5 _ _ Hw;have J7:=DI.same s5;have s15:=s4.trans s5;refine (pz rfl #[RL]);rw [dq];refine zW (n:=L) (fun j ys H'=>H'=H5/\ys=(((bA j).filter fun m=>decide (gl w m≠0)).map fun m:Nat=>(m:Int)).map V.int) ⟨rfl,rfl⟩ (fun j ys H' hj _=>hj) #[P6] ?_ ?_
    ·rintro zS zT zE j xx ys H6 H7 hj ⟨rfl,rfl⟩ ⟨rfl,rfl⟩;have hgj:(w.map V.int)[j]? = some (.int (gl w j)):=by rw [aF,zcc (by rw [W.ln]; lia)]; rfl
     refine (pz rfl (pz rfl (ex4 wa _ _ (.int (gl w j)) ⟨rfl,rfl,pA.of F',by rw [eK]; exact zay hgj,rfl,#[Qz]⟩)));have Gb:=dQ (fun m=>decide (gl w m≠0)) (bA j);rw [bI] at Gb;rw [fE,eE,aN,aN];by_cases h0:gl w j=0
     ·refine za6 (fun h=>absurd h (by rw [h0]; simp)) (fun _=>#[Uc]);rw [fQ (by simpa using h0),gQ,iJ,iJ,dn]
     ·refine za6 (fun _=>(pz rfl ⟨zaq (by rw [aA,aA]; lia),rfl,?_⟩)) (fun h=>absurd (by simpa using h0) h);rw [fP (by simpa using h0),gQ,eK];rfl
    ·rintro ys H6 D ⟨rfl,rfl⟩ hD;have t7:=zb (o:=.lst ((((bA L).filter fun m=>decide (gl w m≠0)).map fun m:Nat=>(m:Int)).map V.int)) hD;have BY:pB H6 D (.lst ((((bA L).filter fun m=>decide (gl w m≠0)).map fun m:Nat=>(m:Int)).map V.int)) D=_:=zc;generalize pB H6 D (.lst ((((bA L).filter fun m=>decide (gl w m≠0)).map fun m:Nat=>(m:Int)).map V.int))=H7 at t7 BY |-;have s7:=s15.trans t7;have Hx:=t7 _ _ F';have F8:=t7 _ _ h5c;have J8:=J7.same t7;refine (pz rfl ⟨_,.inl ⟨_,pA.of BY,rfl⟩,?_⟩);cases Gc:(bA L).filter fun m=>decide (gl w m≠0) with
     | nil =>
      refine za6 #[FS] (fun h=>absurd rfl h);refine (pz rfl (pz rfl (pz rfl (pz rfl (pz rfl (pF rfl rfl (pF rfl rfl (pz rfl ⟨wa,(pz rfl ⟨pA.of Hx,fun l hl=>?_⟩)⟩))))))));have ec:zcQ (w.map V.int) (some (L:Int)) (some ((L:Int)+(i:Int)+1))=((w.drop L).take (i+1)).map V.int:=by
       rw [show (L:Int)+(i:Int)+1=((L+i+1:Nat):Int) by lia,zpb (by rw [aA,W.ln]; lia),<- kh,<- im,show L+i+1 - L=i+1 by lia]
      rw [ec];obtain⟨d1,d2⟩:=zpy W hi;exact qs l _ i _ (s7.free hl) (s7.trans (zb hl)) zc d1 hi d2
     | cons ld lds =>
      refine za6 #[Uq] #[FS];have hm:ld∈(bA L).filter fun m=>decide (gl w m≠0):=by rw [Gc]; exact bG
      (obtain⟨Bq,wJ⟩:=cV.mp hm)
      have JX:ld < L:=bU.mp Bq;have Hv:gl w ld≠0:=by simpa using wJ
      obtain⟨g0,g1⟩:=zjK p0 W.rg ld;rw [Gc] at BY;have B0:atI ((((ld :: lds).map fun m:Nat=>(m:Int))).map V.int) 0=some (.int (ld:Int)):=zay (j:=0) rfl;refine (pz rfl (pz rfl (pz rfl (ex4 D _ _ (.int (ld:Int)) ⟨rfl,rfl,pA.of BY,B0,wa,_,_,.int #[SS],rfl,rfl,pA.of Hx,zay (by rw [aF,zcc (by rw [W.ln]; lia)]; rfl),p,gl w ld,rfl,hp,g0,g1,?_⟩))));refine (pz rfl ⟨.inl ⟨rfl,_,pA.of F8⟩,(pz rfl (ex4 D _ _ (.int (ld:Int)) ⟨rfl,rfl,pA.of BY,B0,(pz rfl ⟨wa,rfl,⟨_,pA.of Hx⟩,zbi (fs:=(w.map fun x=>x*inv p #[SS] % p).map V.int) (pA.of Hx) (by rw [aA,aA,aA]) (by rw [aA,W.ln]; lia) ?_ ?_⟩)⟩))⟩)
      ·intro j x y R B hx hy hR;obtain⟨n,rfl,hn⟩:=zaC hx;obtain⟨n',rfl,Au⟩:=zaC hy;rw [aF,hn] at Au;cases Au;have hnr:=W.rg n (aU hn);exact gY (pz rfl (pz rfl (pF rfl rfl ⟨.inl #[wS],#[QW]⟩)))
      ·intro D2 tZ;have t8:=zb (o:=.lst ((w.map fun x=>x*inv p #[SS] % p).map V.int)) tZ;have h8D:pB H7 D2 (.lst ((w.map fun x=>x*inv p #[SS] % p).map V.int)) D2=some (.lst ((w.map fun x=>x*inv p #[SS] % p).map V.int)):=zc;have hDc:D2≠ca:=fun e=>by rw [e,F8] at tZ; cases tZ
       generalize pB H7 D2 (.lst ((w.map fun x=>x*inv p #[SS] % p).map V.int))=H8 at t8 h8D |-;refine⟨szq,fun tb htb=>?_⟩;have t9:=zb (o:=.tup [.int (ld:Int),.ref D2]) htb;have Hy:pB H8 tb (.tup [.int (ld:Int),.ref D2]) tb=some (.tup [.int (ld:Int),.ref D2]):=zc;have Hz:=t9 _ _ (t8 _ _ F8);have s9:=(s7.trans t8).trans t9;have Gd:=(J8.same t8).same t9;have h9D:=t9 _ _ h8D;generalize pB H8 tb (.tup [.int (ld:Int),.ref D2])=H9 at t9 Hy Hz s9 Gd h9D |-;have FU:=E.ln;refine (ex3 ca _ _ ⟨rfl,rfl,Hz,by rw [aA,F9,FU]; lia,cs++[tb],_,_,_,_,_,_,_,_,rfl,zak s9 hca,by rw [zc,aN]; rfl,cY (Gd.put Hz) ⟨D2,?_,?_,hDc⟩,zl5 hp E W JX Hv⟩)
       ·rw [zm (fun e=>by rw [e,Hz] at Hy; cases Hy)];exact Hy
       ·rw [zm hDc];exact h9D
  ·rintro σ H1 ⟨cs,cl,e4,e5,e6,e7,e8,e9,xM,rfl,s1,vi,uM,E⟩;have:=zpx E;lia
def ze0 (K:aD):Sp:=fun vs H Q _=>∃ (p x:Int) (most kept:Nat),vs = [.int p,.int x,.int (most:Int),.int (kept:Int)]/\5<=p/\p<=97/\0<=x/\x < p/\most<=500/\1<=kept/\kept<=100 /\
 ∀ (l:Addr) (ls:List Addr) (H':Hp),H l=none->zr H H'->H' l=some #[BT]->∀ vv:List #[At],LsA H' ls vv->vv.length=most+1->zb4 p kept vv->Q #[Qy] H'
theorem zbM:KE ["p","by","most","kept","powers","power"] ["p","by","most","kept"] (zh zbp):=#[S]
theorem ze1 (T:Txt K mg t) (F:Fun K "moved_powers" "moved_powers" zbp t.Lo fd):Lf P w K mg base CX0 2 t.Lo fd ["p","by","most","kept"] (ze0 K):=by
 obtain⟨uB,qa,qR⟩:=T.Ls;have qS:=zdC (P:=P) (w:=w) (base:=base) T qa;refine F.ok zbM #[sK] #[mt]
 ·obtain⟨p,x,most,kept,rfl,_⟩:=h;rfl
 ·obtain⟨p,x,most,kept,rfl,p5,xf,x0,x1,hm,k1,k2,q⟩:=h;refine zaz ?_; intro zX;refine⟨_,#[ze,#[zn,4,zbM.nd,#[A],#[z9,#[ya,#[zj,#[zbK],#[Qw],#[zj,#[zdF],#[Qw],#[zj,#[zaF],#[P7],#[zf]]]]]]],#[ze,#[zaX,cW,#[UB],#[zg,5,zbM.nd,#[A]],#[zl,#[zct,#[zeG,dU,fJ,fK,#[zci],#[Qt],#[ya,#[zbC,zcx,#[zp,qS,#[v6],T.Mt,qa.kp,qR,#[zM],#[za,#[AT],#[za,#[zU,#[zI],#[Qt],#[zpN,zmt,#[zf]]],#[ya,#[zpN,zmt,#[Db]]]]]],#[zcw],#[zbP,#[P7]]]]]]]],#[zl,#[zB,#[Qt]]]]],?_⟩;refine zfu ?_; intro sG rh;have qP:=bO;refine⟨szq,fun A1 hA1=>?_⟩;have u1:=zb (o:=.lst [V.int 1]) hA1;have v1:pB H A1 (.lst [V.int 1]) A1=some (.lst [V.int 1]):=zc;generalize pB H A1 (.lst [V.int 1])=H1 at u1 v1 |-;refine⟨szq,fun A2 hA2=>?_⟩;have u2:=u1.trans (zb (o:=.lst [V.int 0]) hA2);have EG:=(zb (o:=.lst [V.int 0]) hA2) _ _ v1;have v2:pB H1 A2 (.lst [V.int 0]) A2=some (.lst [V.int 0]):=zc;generalize pB H1 A2 (.lst [V.int 0])=H2 at u2 EG v2 |-;have ek:((kept:Int) - 1).toNat=kept - 1:=by lia
  refine (pz rfl (pF rfl rfl (ex3 A2 _ _ ⟨rfl,rfl,v2,#[O],#[O],by rw [ek]; show 1*#[WC]<=sizeLine; lia,fun A3 hA3=>?_⟩)));rw [ek,gF];have w3:=zb (o:=.lst #[RM]) hA3;have EH:=w3 _ _ EG;have v3:pB H2 A3 (.lst #[RM]) A3=some (.lst #[RM]):=zc;have u3:=u2.trans w3;generalize pB H2 A3 (.lst #[RM])=H3 at u3 EH v3 |-;refine (ex4 A1 A3 _ _ ⟨rfl,rfl,EH,v3,by rw [bW]; show 1+#[WC]<=sizeLine; lia,fun A4 hA4=>?_⟩);have ez:[V.int 1]++aQ #[WC] #[Vh]=((1:Int) :: aQ #[WC] 0).map V.int:=by rw [bX,iO]; rfl
  have hz:zb4 p kept [(1:Int) :: aQ #[WC] 0]:=fun v hv=>by
   rw [bF.mp hv];refine⟨by rw [dM,bW]; lia,fun c hc=>?_⟩;rcases (aR.mp hc) with rfl | hc
   ·lia
   ·rw [iN hc]; lia
  rw [ez];generalize (1:Int) :: aQ #[WC] 0=w0 at hz |-;have u4:=u3.trans (zb (o:=.lst (w0.map V.int)) hA4);have v4:pB H3 A4 #[Ur] A4=some #[Ur]:=zc;generalize pB H3 A4 #[Ur]=H4 at u4 v4 |-;refine⟨szq,fun PW J9=>?_⟩;have sw:=zb (o:=.lst [V.ref A4]) J9;have HA:((most:Int)).toNat=most:=by lia
  refine (pz rfl (pz rfl ⟨#[O],#[O],zaQ (lo:=0) (n:=((most:Int)).toNat) (fun i σ H'=>∃ (e5:Option V),σ = [some #[Tz],some (.int x),some (.int (most:Int)),some (.int (kept:Int)),some (.ref PW),e5]/\zr H H'/\∃ (ls:List Addr) (vv:List #[At]),H' PW=some #[BT]/\LsA H' ls vv/\vv.length=i+1/\zb4 p kept vv) ⟨none,rfl,u4.trans sw,[A4],[w0],zc,.cons (sw _ _ v4) .nil,rfl,hz⟩ ?_ ?_⟩))
  ·rintro zD zT i σ H5 hi ⟨e5,rfl,s5,ls,vv,h5,qk,sE,vj⟩;have wY:ls.length=i+1:=by rw [bM qk,sE]
   obtain⟨xg,b,rfl⟩:∃ xg b,ls=xg++[b]:=⟨_,_,(List.dropLast_concat_getLast (l:=ls) (fun e=>by rw [e] at wY; simp at wY)).symm⟩;have hb:(xg++[b])[i]? = some b:=by
    rw [aL,gX] at wY;rw [cS #[O],show i - xg.length=0 by lia];rfl
   obtain⟨v,hv,hB⟩:=Paired.get qk hb;obtain⟨vl,vr⟩:=vj v (aU hv);have qY:atI ((xg++[b]).map V.ref) (-1)=some #[Wz]:=by rw [aN]; exact zpm
   refine (pz rfl ⟨.inl ⟨rfl,_,pA.of h5⟩,(pz rfl (pz rfl (pz rfl (ex4 PW _ _ _ ⟨rfl,rfl,pA.of h5,qY,(pz rfl (pz rfl (ex4 p (-x) b _ ⟨rfl,hB,#[O],#[O],#[O],#[O],fun l H6 hl s6 h6=>?_⟩)))⟩))))⟩);refine (pz rfl (pz rfl ⟨l,(pz rfl ⟨pA.of h6,fun z hz=>?_⟩)⟩));have ec:zcQ ((zck p (-x) v).map V.int) none (some (kept:Int))=((zck p (-x) v).take kept).map V.int:=by
    unfold zcQ;rw [HT.MP,HT.Nh,g9,gE,aA,zdb,fG #[O],<- im]
   rw [ec];have sz:=zb (o:=.lst (((zck p (-x) v).take kept).map V.int)) hz;have h6P:=s6 _ _ h5;have h7P:=sz _ _ h6P;have zP:z≠PW:=(zu h6P hz).symm;refine (ex3 PW _ _ ⟨rfl,rfl,h7P,by rw [aA,wY]; lia,?_⟩);refine (pz rfl ⟨zak ((s5.trans s6).trans sz) (u4.free J9),(xg++[b])++[z],vv++[(zck p (-x) v).take kept],by rw [zc]; simp,?_,by rw [aL,sE]; rfl,vj.snoc (by rw [bD,zdb]; lia) fun c hc=>zmM #[O] v c (jL hc)⟩);refine cY (zq8 (D:=PW) (fun hm=>?_) (fun c o hc e=>by rw [zm hc]; exact e) (LsA.same (s6.trans sz) qk)) (by rw [zm zP]; exact zc);obtain⟨j,hj⟩:=fu.mp hm;exact LsA.off qk h5 j PW hj rfl
  ·rintro σ H5 ⟨e5,rfl,s5,ls,vv,h5,qk,sE,vj⟩;rw [HA] at sE;exact (pz rfl (q PW ls _ (u4.free J9) s5 h5 vv qk sE vj))
def tI (t:Tm):Int×Int:=((t.1:Int),(t.2:Int))
theorem zkY {ns:List Nat} {M:Int} (hM:M∈ns.map fun n:Nat=>(n:Int)) (DJ:∀ a∈ns.map (fun n:Nat=>(n:Int)),a<=M):∃ m:Nat,M=m/\m∈ns/\∀ n∈ns,n<=m:=by
 obtain⟨m,hm,rfl⟩:=aZ.mp hM;refine⟨m,rfl,hm,fun n hn=>?_⟩;have:=DJ _ (aZ.mpr ⟨n,hn,rfl⟩);lia
theorem zkZ {tl:Addr} {bs:List Addr} {ts:List Tm} (rH:H tl=some #[Rb]) (tj:PtB H bs #[WF]) (pI:ts.length<=200) {g:TG} {tt:TT} {Q:VK} (f:Tm->Int)
  (hs:∀ (T:Addr) (t:Tm) (R:VK) (B:L2.St->Hp->Prop),t∈ts->pK K H T [.int (t.1:Int),.int (t.2:Int)]->R (.int (f t)) H->g (.ref T) σ0 H fun σ2 H2=>tt σ2 H2 fun b H3=>if b=true then te σ2 H3 R else B σ2 H3)
  (hd:∀ D,H D=none->Q #[QE] (pB H D (.lst ((ts.map f).map V.int)))):cGo g tt te σ0 (Itl K tl) Q H:=by
 have vU:bs.length=ts.length:=by rw [bM tj,aA]
 refine zbi (fs:=(ts.map f).map V.int) (pA.of rH) (by rw [aA,aA,aA,vU]) (by rw [aA]; lia) #[NE] hd;obtain⟨b,rfl,xb⟩:=zQ hx;obtain⟨q,hq,hT⟩:=Paired.get tj xb;rw [aF] at hq;obtain⟨t,ht,rfl⟩:=jg.mp hq;rw [aF,aF,ht] at hy;have hy:V.int (f t)=y:=by simpa using hy
 subst hy;exact hs b t R B (aU ht) (pK.of hT) hR
def lu (w:Nat):Nat->Nat
 | 0=>0
 | m+1=>lu w m+(w - m)
theorem zqd (w:Nat):∀ m,lu w m<=w*m
 | 0=>cB _
 | m+1=>by
  have:=zqd w m;show lu w m+(w - m)<=w*(m+1);rw [hJ];lia
theorem zri {w:Nat} (h:w<=9):lu w w=tri w:=by
 have:∀ w,w < 10->lu w w=tri w:=by decide
 exact this w #[O]
def Rw (p:Int) (n:Nat) (ys:List V):Prop:=∃ vs:List Int,ys=vs.map V.int/\vs.length=n/\∀ c∈vs,0<=c/\c < p
theorem Rw.snoc {p c:Int} {n:Nat} (h:Rw p n ys) (h0:0<=c) (h1:c < p):Rw p (n+1) (ys++[.int c]):=by
 obtain⟨vs,rfl,e,hr⟩:=h;refine⟨vs++[c],#[M],by simp [e],fun x hx=>?_⟩;rcases (bQ.mp hx) with hx | hx
 ·exact hr x hx
 ·rw [bF.mp hx]; lia
theorem Rw.len {p:Int} {n:Nat} (h:Rw p n ys):ys.length=n:=by
 obtain⟨vs,rfl,e,_⟩:=h;rw [aA,e]
theorem zqe {p:Int} {w n i u:Nat} (h:LsA H ls vv) (hn:vv.length=n) (hg:zb4 p w vv) (hi:i < n) (hu:u < w):∃ (b:Addr) (v:List Int) (c:Int),atI #[TF] (i:Int)=some #[Wz]/\H b=some #[S7]/\atI (v.map V.int) (u:Int)=some (.int c)/\0<=c/\c < p:=by
 have hl:ls.length=n:=by rw [bM h,hn]
 have hb:ls[i]? = some (ls[i]'#[O]):=aJ #[O];obtain⟨v,hv,hvb⟩:=Paired.get h hb;obtain⟨l1,l2⟩:=hg v (aU hv);have hc:=zcc (w:=v) (y:=u) #[O];exact⟨_,v,gl v u,zay (by rw [aF,hb]; rfl),hvb,zay (by rw [aF,hc]; rfl),l2 _ (aU hc)⟩
noncomputable def zgq (K:aD):Sp:=fun vs H Q _=>∃ (p:Int) (tl pt:Addr) (x y:Int) (w:Nat) (bs:List Addr) (ts:List Tm),vs = [.int p,.ref tl,.ref pt]/\5<=p/\p<=97/\0<=x/\x < p/\0<=y/\y < p/\1<=w/\w<=9/\H tl=some #[Rb]/\PtB H bs #[WF]/\ts≠[]/\ts.length<=200/\(∀ t∈ts,t.1<=400/\t.2<=400)/\H pt=some (.tup [.int x,.int y,.int (w:Int)]) /\
 ∀ (l:Addr) (ls:List Addr) (vv:List #[At]) (H':Hp),H l=none->zr H H'->H' l=some #[BT]->LsA H' ls vv->vv.length=ts.length->zb4 p (tri w) vv->Q #[Qy] H'
theorem zaV:KE ["p","terms","point","x","y","weight","by_x","by_y"] ["p","terms","point"] (zh zaR):=#[S]
theorem zgr (T:Txt K mg t) (F:Fun K "numbers_at" "numbers_at" zaR t.LV fd):Lf P w K mg base CX0 3 t.LV fd ["p","terms","point"] (zgq K):=by
 obtain⟨Aj,qr,rA⟩:=T.Lw;have rB:=ze1 (P:=P) (w:=w) (base:=base) T qr;refine F.ok zaV #[sK] #[mt]
 ·obtain⟨p,tl,pt,x,y,wt,bs,ts,rfl,_⟩:=h;rfl
 ·obtain⟨p,tl,pt,x,y,wt,bs,ts,rfl,p5,xf,x0,x1,y0,y1,w1,w9,rH,tj,p7,pI,yt,hp,q⟩:=h;refine zaz ?_; intro zX;refine⟨_,#[ze,#[za5,#[Id],#[zaW,#[zi,#[zg,3,zaV.nd,#[A]],#[zi,#[zg,4,zaV.nd,#[A]],#[zi,#[zg,5,zaV.nd,#[RD]],#[zF]]]]]],#[ze,#[zn,6,zaV.nd,#[RD],#[zp,rB,#[v6],T.L4,qr.kp,rA,#[zM],#[za,#[AT],by exact #[za,#[P7],#[za,#[zq,#[zeB],T.Pf,mI,#[ya,#[zO,(K7.of (N':=["i","j"]) (ix:=[none,none]) (zh zaR) _ rfl rfl rfl),#[wP],#[z0,#[Db]],#[or],#[ut],#[QN]]]],#[QH]]]]]],#[ze,#[zn,7,zaV.nd,#[RD],#[zp,rB,#[v6],T.L4,qr.kp,rA,#[zM],#[za,#[AT],by exact #[za,#[Qt],#[za,#[zq,#[zeB],T.Pf,mI,#[ya,#[zO,(K7.of (N':=["i","j"]) (ix:=[none,none]) (zh zaR) _ rfl rfl rfl),#[wP],#[z0,#[Db]],#[or],#[ut],(fun _ _ _ _=>#[Db])]]],#[QH]]]]]],#[zl,#[zB,#[zO,(K7.of (N':=["i","j","weight","by_x","by_y","p"]) (ix:=[none,none,some 5,some 6,some 7,some 0]) (zh zaR) _ rfl rfl rfl),#[wP],#[z0,#[Db]],(fun _ _ _ _=>#[zaf,(K),2,#[zi,#[zg,0,#[Y],#[RD]],#[zi,#[zg,1,#[Y],#[RD]],#[zF]]]]),#[ut],(fun _ _ _ _=>#[zkF,(K7.of (N':=["u","v","by_x","i","by_y","j","p","weight"]) (ix:=[none,none,some 3,some 0,some 4,some 1,some 5,some 2]) ({ kind:=.function,names:=[(".0",.local),("i",.cell),("j",.cell),("range",.globalImplicit),("by_x",.cell),("by_y",.cell),("p",.cell),("weight",.cell)],isGenerator:=false,isCoroutine:=false }) _ (by with_unfolding_all rfl) rfl rfl),(zdU (js:=[0]) (i:=0) #[D]),(zdU (js:=[1]) (i:=1) #[D]),#[UB],#[wn],#[ut],(fun _ _ _ _=>#[zae,T.La,#[ya,#[zj,#[zaF],#[pvx,7],#[AT]]]]),(fun _ _ _ _=>#[zg,1,#[Y],#[A]]),#[ut],(fun _ _ _ _=>#[zj,#[zL],#[zj,#[z8],#[zU,#[TB],#[zU,#[TB],#[Id],#[P7]],#[AT]],#[zU,#[TB],#[zU,#[TB],#[Qt],#[TY]],#[Db]]],#[SD]]),(by intros; rfl)])]]]]]],?_⟩;refine zg9 ?_; intro vT sG rh;have qP:=bO;have vU:bs.length=ts.length:=by rw [bM tj,aA]
  refine⟨_,rfl,pt,_,rfl,pK.of hp,rfl,_,_,rfl,_,_,rfl,_,_,rfl,rfl,?_⟩;refine⟨_,rfl,_,rfl,_,rfl,tl,rfl,⟨_,pA.of rH⟩,zkZ rH tj pI (fun t=>(t.1:Int)) #[TX] fun D hD=>?_⟩;refine⟨D,ts.map fun t=>(t.1:Int),rfl,pA.of zc,by simpa using p7,fun M hM DJ=>?_⟩;obtain⟨mx,rfl,mx1,mx2⟩:=zkY (ns:=ts.map (·.1)) (by rw [cR]; exact hM) (by rw [cR]; exact DJ);have mx4:mx<=400:=by obtain⟨t,ht,rfl⟩:=aZ.mp mx1; exact (yt t ht).1
  have s0:=zb (o:=.lst ((ts.map fun t:Tm=>(t.1:Int)).map V.int)) hD;generalize pB H D (.lst ((ts.map fun t:Tm=>(t.1:Int)).map V.int))=H0 at s0 |-;refine (pz rfl (ex4 p x mx wt ⟨rfl,p5,xf,x0,x1,#[O],w1,#[O],fun l1 ls1 H1 wF s1 h1 vx g1 gx1 gx2=>?_⟩));have Ak:=s0.trans s1;refine⟨_,rfl,_,rfl,_,rfl,tl,rfl,⟨_,pA.of (Ak _ _ rH)⟩,zkZ (Ak _ _ rH) (tj.same Ak) pI (fun t=>(t.2:Int)) #[TX] fun D2 tZ=>?_⟩;refine⟨D2,ts.map fun t=>(t.2:Int),rfl,pA.of zc,by simpa using p7,fun M hM DJ=>?_⟩;obtain⟨my,rfl,my1,BR⟩:=zkY (ns:=ts.map (·.2)) (by rw [cR]; exact hM) (by rw [cR]; exact DJ);have my4:my<=400:=by obtain⟨t,ht,rfl⟩:=aZ.mp my1; exact (yt t ht).2
  have s2:=zb (o:=.lst ((ts.map fun t:Tm=>(t.2:Int)).map V.int)) tZ;generalize pB H1 D2 (.lst ((ts.map fun t:Tm=>(t.2:Int)).map V.int))=H2 at s2 |-;refine (pz rfl (ex4 p y my wt ⟨rfl,p5,xf,y0,y1,#[O],w1,#[O],fun l2 HB H3 rX s3 h3 vy g3 gy1 gy2=>?_⟩));have Bv:=s2.trans s3;have sA:=Ak.trans Bv;have h1:=Bv _ _ h1;have g1:=g1.same Bv;refine (pz rfl ⟨tl,rfl,⟨_,pA.of (sA _ _ rH)⟩,zW (n:=ts.length) (fun m ys H'=>zr H3 H'/\∃ (us:List Addr) (vv:List #[At]),ys=us.map V.ref/\LsA H' us vv/\vv.length=m/\zb4 p (tri wt) vv) ⟨fun _ _ e=>e,[],[],rfl,.nil,rfl,fun v hv=>by cases hv⟩ ?_ ?_ ?_ ?_⟩)
  ·rintro m ys H4 hm ⟨s4,_⟩;exact⟨_,.ref (bs[m]'#[O]),pA.of ((sA.trans s4) _ _ rH),by rw [aF,aJ #[O]]; rfl⟩
  ·rintro ys H4 ⟨s4,_⟩;exact⟨_,pA.of ((sA.trans s4) _ _ rH),by rw [aA]; lia⟩
  ·rintro zS zT zE m z ys H4 H5 hm ⟨s4,us,vv,rfl,pO,sE,vj⟩ ⟨rfl,hx⟩;have sA4:=sA.trans s4;obtain⟨b,rfl,yu⟩:=zQ (hx _ (pA.of (sA4 _ _ rH)));obtain⟨q',rf,hT⟩:=Paired.get (tj.same sA4) yu;rw [aF] at rf;obtain⟨t,ht,rfl⟩:=jg.mp rf;have HC:=aU ht;have hz:us.length=m:=by rw [bM pO,sE]
   have t1:t.1 < mx+1:=nV (mx2 _ (aZ.mpr ⟨t,HC,rfl⟩));have t2:t.2 < my+1:=nV (BR _ (aZ.mpr ⟨t,HC,rfl⟩));have h4x:=s4 _ _ h1;have h4y:=s4 _ _ h3;have g4x:=g1.same s4;have g4y:=g3.same s4;refine gY2 (pK.of hT) ?_;have ew:((wt:Int)).toNat=wt:=by lia
   refine (pz rfl #[RL]);rw [ew];refine zdx (n:=wt) (fun u ys H'=>H'=H5/\Rw p (lu wt u) ys) ⟨rfl,[],rfl,rfl,fun c hc=>by cases hc⟩ #[Qr] #[P6] ?_ ?_
   ·rintro u xx ys H6 H7 hu ⟨rfl,hy⟩ ⟨rfl,rfl⟩;rw [show ((0:Int)+(u:Int))=(u:Int) from eK _];refine gY ?_;have ewu:((wt:Int) - (u:Int)).toNat=wt - u:=by lia
    refine (pz rfl (pz rfl (pF rfl rfl #[RL])));rw [ewu];refine zdx (n:=wt - u) (fun v ys H'=>H'=H7/\Rw p (lu wt u+v) ys) ⟨rfl,hy⟩ #[Qr] #[P6] ?_ ?_
    ·rintro v yy ys H8 H9 hv ⟨rfl,hy⟩ ⟨rfl,rfl⟩;rw [show ((0:Int)+(v:Int))=(v:Int) from eK _];obtain⟨bx,xs,xc,ax1,ax2,ax3,r0,r1⟩:=zqe g4x gx1 gx2 t1 hu;obtain⟨b2,vF,yc,ay1,ay2,ay3,_⟩:=zqe g4y gy1 gy2 t2 (show v < wt by lia);have nl:=zqd wt u;have nm:wt*u<=9*9:=jW #[O] #[O];refine gY ?_;refine (pz rfl (pz rfl (ex4 l1 _ _ _ ⟨rfl,rfl,pA.of h4x,ax1,(pz rfl (ex4 bx _ _ _ ⟨rfl,rfl,pA.of ax2,ax3,(pz rfl (pz rfl (ex4 l2 _ _ _ ⟨rfl,rfl,pA.of h4y,ay1,(pz rfl (ex4 b2 _ _ _ ⟨rfl,rfl,pA.of ay2,ay3,(pF rfl rfl ⟨.inl #[wS],(pz rfl (pF rfl rfl ⟨#[O],?_⟩))⟩)⟩))⟩)))⟩))⟩)));exact⟨by rw [hy.len]; lia,rfl,hy.snoc (bL _ #[O]) (bE _ #[O])⟩
    ·rintro ys H8 ⟨rfl,hy⟩;exact⟨rfl,hy⟩
   ·rintro ys H6 ⟨rfl,vs,rfl,vH,J4⟩ D3 Bn;rw [zri w9] at vH;refine⟨by rw [aA]; lia,s4.trans (zb Bn),us++[D3],vv++[vs],#[M],cY (pO.same (zb Bn)) zc,by rw [aL,sE]; rfl,vj.snoc vH J4⟩
  ·rintro ys H4 D3 ⟨s4,us,vv,rfl,pO,sE,vj⟩ Bn;have sf:=sA.trans s4;exact q D3 us vv _ (sf.free Bn) (sf.trans (zb Bn)) zc (pO.same (zb Bn)) sE vj
def W3 (H:Hp):List Addr->List (Int×Int×Nat)->Prop:=Paired fun b q=>H b=some (.tup [.int q.1,.int q.2.1,.int (q.2.2:Int)])
theorem W3.same (s:zr H H') {bs:List Addr} {pJ:List (Int×Int×Nat)} (h:W3 H bs pJ):W3 H' bs pJ:=eZ #[RK] h
def zn4 (p:Int) (pJ:List (Int×Int×Nat)):Prop:=∀ q∈pJ,0<=q.1/\q.1 < p/\0<=q.2.1/\q.2.1 < p/\1<=q.2.2/\q.2.2<=9
theorem zn5 {pJ:List (Int×Int×Nat)} {q:Int×Int×Nat} {i:Nat} (h:pJ[i]? = some q):zbn (pJ.take (i+1))=zbn #[U3]+tri q.2.2:=by
 unfold zbn;rw [take_snoc h,aN,lb];simp
theorem zrj (pJ:List (Int×Int×Nat)) (i:Nat):zbn #[U3]<=zbn pJ:=by
 conv=>rhs; rw [<- dP i pJ]
 unfold zbn;rw [aN,lb];lia
noncomputable def zgs (K:aD):Sp:=fun vs H Q _=>∃ (p:Int) (tl pl:Addr) (bs cs:List Addr) (ts:List Tm) (pJ:List (Int×Int×Nat)),vs = [.int p,.ref tl,.ref pl]/\5<=p/\p<=97/\H tl=some #[Rb]/\PtB H bs #[WF]/\ts≠[]/\ts.length<=200/\(∀ t∈ts,t.1<=400/\t.2<=400)/\H pl=some #[SN]/\W3 H cs pJ/\zn4 p pJ/\zbn pJ<=199/\pJ.length<=1000 /\
 ∀ (l:Addr) (ls:List Addr) (vv:List #[At]) (H':Hp),H l=none->zr H H'->H' l=some #[BT]->LsA H' ls vv->vv.length=ts.length->zb4 p (zbn pJ) vv->Q #[Qy] H'
theorem zbB:KE ["p","terms","points","vectors","point"] ["p","terms","points"] (zh za2):=#[S]
theorem zgt (T:Txt K mg t) (F:Fun K "vectors_of" "vectors_of" za2 t.LR fd):Lf P w K mg base CX0 4 t.LR fd ["p","terms","points"] (zgs K):=by
 obtain⟨Bw,se,vm⟩:=T.LN;have vn:=zgr (P:=P) (w:=w) (base:=base) T se;refine F.ok zbB #[sK] #[mt]
 ·obtain⟨p,tl,pl,bs,cs,ts,pJ,rfl,_⟩:=h;rfl
 ·obtain⟨p,tl,pl,bs,cs,ts,pJ,rfl,p5,xf,rH,tj,p7,pI,yt,qh,CJ,hg,hL,hn,q⟩:=h;refine zaz ?_; intro zX;refine⟨_,#[ze,#[zbs,3,zbB.nd,#[A],(K7.of (N':=["term"]) (ix:=[none]) (zh za2) _ rfl rfl rfl),#[zam],#[z0,#[Db]],#[wn],#[ut],(fun _ _ _ _=>#[TU])],#[ze,#[zaX,cW,#[z0,#[Id]],#[zg,4,zbB.nd,#[A]],#[zl,#[zbs,3,zbB.nd,#[A],(K7.of (N':=["vector","numbers"]) (ix:=[none,none]) (zh za2) _ rfl rfl rfl),#[wP],#[zdW,T.OW,#[za,#[P7],#[ya,#[zp,vn,#[v6],T.NO,se.kp,vm,#[zM],#[za,#[AT],#[za,#[Db],#[Tj]]]]]]],#[or],#[ut],(fun _ _ _ _=>#[zj,#[zbK],#[AT],#[Db]])]]],#[Va]]],?_⟩;refine zfu ?_; intro sG rh;have qP:=bO;have vU:bs.length=ts.length:=by rw [bM tj,aA]
  have uM:=bM CJ;refine (pz rfl ⟨tl,rfl,⟨_,pA.of rH⟩,zW (n:=ts.length) (fun m ys H'=>zr H H'/\∃ (us:List Addr) (vv:List #[At]),ys=us.map V.ref/\LsA H' us vv/\vv.length=m/\zb4 p 0 vv) ⟨fun _ _ e=>e,[],[],rfl,.nil,rfl,fun v hv=>by cases hv⟩ ?_ ?_ ?_ ?_⟩)
  ·rintro m ys H4 hm ⟨s4,_⟩;exact⟨_,.ref (bs[m]'#[O]),pA.of (s4 _ _ rH),by rw [aF,aJ #[O]]; rfl⟩
  ·rintro ys H4 ⟨s4,_⟩;exact⟨_,pA.of (s4 _ _ rH),by rw [aA]; lia⟩
  ·rintro zS zT zE m z ys H4 H5 hm ⟨s4,us,vv,rfl,pO,sE,vj⟩ ⟨rfl,hx⟩;have hz:us.length=m:=by rw [bM pO,sE]
   refine gY ?_;exact⟨cB _,fun D hD=>⟨by rw [aA]; lia,s4.trans (zb hD),us++[D],vv++[[]],#[M],cY #[QU] zc,by rw [aL,sE]; rfl,vj.snoc rfl fun c hc=>by cases hc⟩⟩
  ·rintro ys H4 V0 ⟨s4,us,vv,rfl,pO,sE,vj⟩ hV;have sV:=s4.trans (zb (o:=.lst #[Rc]) hV);refine (pz rfl ⟨pl,rfl,⟨_,pA.of (sV _ _ qh)⟩,zbU (K:=K) (a:=pl) (xs:=cs.map V.ref) (fun i σ H'=>∃ (vl:Addr) (ls:List Addr) (vv:List #[At]) (e4:Option V),σ = [some #[Tz],some (.ref tl),some (.ref pl),some (.ref vl),e4]/\zr H H'/\H vl=none/\H' vl=some #[BT]/\LsA H' ls vv/\vv.length=ts.length/\zb4 p (zbn #[U3]) vv) (ex4 V0 us vv none ⟨rfl,sV,s4.free hV,zc,pO.same (zb hV),sE,vj⟩) ?_ ?_ ?_⟩)
   ·rintro i σ H' _ ⟨vl,ls,vv,e4,rfl,s,_⟩;exact pA.of (s _ _ qh)
   ·rintro zD zT i x σ H5 hx ⟨vl,ls,vv,e4,rfl,s5,sE,h5,qk,Ge,vj⟩;obtain⟨b,rfl,hb⟩:=zQ hx;obtain⟨⟨px,py,pw⟩,hq,Gf⟩:=Paired.get CJ hb;obtain⟨g1,g2,g3,g4,g5,g6⟩:=hg _ (aU hq);refine (pz rfl (pz rfl (pz rfl (pz rfl (ex8 p tl b px py pw bs ts ⟨rfl,p5,xf,g1,g2,g3,g4,g5,g6,s5 _ _ rH,tj.same s5,p7,pI,yt,s5 _ _ Gf,fun nl nls nv H6 J' s6 h6 g6' AJ hgn=>?_⟩)))));have HD:=s6 _ _ h5;have Ka:=qk.same s6;have l1:ls.length=ts.length:=by rw [bM qk,Ge]
    have l2:nls.length=ts.length:=by rw [bM g6',AJ]
    refine (ex4 vl nl _ _ ⟨rfl,pA.of HD,pA.of h6,zW (n:=ts.length) (fun m ys H'=>zr H6 H'/\∃ (us:List Addr) (vv:List #[At]),ys=us.map V.ref/\LsA H' us vv/\vv.length=m/\zb4 p (zbn (pJ.take (i+1))) vv) ⟨fun _ _ e=>e,[],[],rfl,.nil,rfl,fun v hv=>by cases hv⟩ ?_ ?_ ?_ ?_⟩)
    ·rintro m ys H7 hm ⟨s7,_⟩;exact⟨_,_,.ref (ls[m]'#[O]),.ref (nls[m]'#[O]),pA.of (s7 _ _ HD),pA.of #[U0],by rw [aF,aJ #[O]]; rfl,by rw [aF,aJ #[O]]; rfl⟩
    ·rintro ys H7 ⟨s7,_⟩;exact⟨_,_,pA.of (s7 _ _ HD),pA.of #[U0],by rw [aA,aA]; lia⟩
    ·rintro zS zT zE m z ys H7 H8 hm ⟨s7,us,Kb,rfl,pO,B1,Kc⟩ ⟨T,u,v,hT,rfl,rfl,hu,hv⟩;obtain⟨b1,rfl,vh⟩:=zQ (hu _ (pA.of (s7 _ _ HD)));obtain⟨b2,rfl,wK⟩:=zQ (hv _ (pA.of #[U0]));obtain⟨w1,hw1,Kd⟩:=Paired.get Ka vh;obtain⟨w2,hw2,Ke⟩:=Paired.get g6' wK;obtain⟨a1,a2⟩:=vj w1 (aU hw1);obtain⟨HE,HF⟩:=hgn w2 (aU hw2);have hz:us.length=m:=by rw [bM pO,B1]
     refine gY2 #[Ub] ?_;have sT:=s7.trans (zb (o:=.tup [.ref b1,.ref b2]) hT);have Gg:=pO.same (zb (o:=.tup [.ref b1,.ref b2]) hT);generalize pB H7 T (.tup [.ref b1,.ref b2])=H8 at sT Gg |-;have lv:=zrj pJ (i+1);have ev:=zn5 hq;have lz:(w1++w2).length=zbn (pJ.take (i+1)):=by rw [aL,ev,a1,HE]
     refine (pz rfl (pz rfl (ex4 b1 b2 _ _ ⟨rfl,rfl,sT _ _ Kd,sT _ _ Ke,(by rw [aL] at lz; rw [aA,aA]; lia),fun D hD=>⟨by rw [aA]; lia,sT.trans (zb hD),us++[D],Kb++[w1++w2],#[M],cY (Gg.same (zb hD)) (by rw [zc,aN]),by rw [aL,B1]; rfl,Kc.snoc lz fun c hc=>(bQ.mp hc).elim (a2 c) (HF c)⟩⟩)))
    ·rintro ys H7 D ⟨s7,us,Kb,rfl,pO,B1,Kc⟩ hD;have s57:=s6.trans s7;exact (ex4 D us Kb _ ⟨rfl,(s5.trans s57).trans (zb hD),(s5.trans s57).free hD,zc,pO.same (zb hD),B1,Kc⟩)
   ·rintro σ H5 ⟨vl,ls,vv,e4,rfl,s5,sE,h5,qk,Ge,vj⟩;rw [aA,uM,bC (aG _)] at vj;exact (pz rfl (q vl ls vv _ sE s5 h5 qk Ge vj))
def tK (t:Tm):List Key:=[ff (t.1:Int),ff (t.2:Int)]
theorem zn6 {t u:Tm} (h:tK t=tK u):t=u:=by
 unfold tK at h;injection h with h1 h2
 injection h2 with h2 _
 have e1:(t.1:Int)=u.1:=lj h1;have e2:(t.2:Int)=u.2:=lj h2;exact pd #[O] #[O]
theorem zn7 {ts:List Tm} (h:ts.Nodup):#[RY].Nodup:=by
 rw [fk,dE];exact jb (fun p7 e=>p7 (zn6 e)) h
theorem zrk {bs:List Addr} {ts:List Tm} (h:PtB H bs #[WF]):KyA H #[Ch] #[RY]:=by
 induction ts generalizing bs with
 | nil=>cases h; exact .nil
 | cons t ts ih =>
  cases h with
  | cons h1 h2=>exact .cons ⟨_,rfl,h1⟩ (ih h2)
noncomputable def zhK (K:aD):Sp:=fun vs H Q _=>∃ (p:Int) (tl pl:Addr) (bs cs:List Addr) (ts:List Tm) (pJ:List (Int×Int×Nat)),vs = [.int p,.ref tl,.ref pl]/\p∈zt/\H tl=some #[Rb]/\PtB H bs #[WF]/\ts.Nodup/\ts.length=zbn pJ+1/\ts.length<=200/\(∀ t∈ts,t.1<=400/\t.2<=400)/\H pl=some #[SN]/\W3 H cs pJ/\zn4 p pJ/\pJ.length<=1000 /\
 ∀ (D:Addr) (c:List Int) (m:Nat) (H':Hp),H D=none->zr H H'->H' D=some (.dT (#[RY].zip #[Ri]))->IsP p (m+1) c->m < ts.length->gl c m=1->Q #[QE] H'
theorem zeo:KE ["p","terms","points","relation"] ["p","terms","points"] (zh zbG):=#[S]
theorem zhL (T:Txt K mg t) (F:Fun K "first_sum" "first_sum" zbG t.LL fd):Lf P w K mg base CX0 5 t.LL fd ["p","terms","points"] (zhK K):=by
 obtain⟨xN,qK,sP⟩:=T.Li;have sQ:=zen (P:=P) (w:=w) (base:=base) T qK;obtain⟨Bx,si,vo⟩:=T.LM;have vp:=zgt (P:=P) (w:=w) (base:=base) T si;refine F.ok zeo #[sK] #[mt]
 ·obtain⟨p,tl,pl,bs,cs,ts,pJ,rfl,_⟩:=h;rfl
 ·obtain⟨p,tl,pl,bs,cs,ts,pJ,rfl,hp,rH,tj,qM,pI,rX,yt,qh,CJ,hg,hn,q⟩:=h;have hu:(A.deeper (envOfC (cQ "first_sum") (zh zbG) s.heap.objs.size t.LL pR)).units+20 < cLine:=by have:=hr.units; lia
  refine zaz ?_; intro zX;refine⟨_,#[ze,#[zn,3,zeo.nd,#[A],#[zp,sQ,#[v6],T.Mv,qK.kp,sP,#[zM],#[za,#[AT],#[ya,#[zp,vp,#[v6],T.NN,si.kp,vo,#[zM],#[Qo]]]]]],#[zl,#[zB,(zjN (j7 (m6 (show 2<=20 by decide) _) hu) rfl rfl T.Pt rfl T.OW #[Vb])]]],?_⟩;refine zgj ?_; intro rh;have qP:=bO;have rp:=zC hp;have p7:ts≠[]:=fun e=>by rw [e] at pI; simp at pI
  refine (pz rfl (pz rfl (pz rfl (pz rfl (ex7 p tl pl bs cs ts pJ ⟨rfl,#[O],#[O],rH,tj,p7,rX,yt,qh,CJ,hg,#[O],hn,fun vl vls vv H1 sE s1 h1 g1 Ge vj=>?_⟩)))));refine (ex5 p vl vls vv (zbn pJ) ⟨rfl,h1,g1,#[O],#[O],vj,hp,fun l c m H2 hl s2 h2 hc hm DK=>?_⟩);rw [Ge] at hm;have xh:=s1.trans s2;exact (pz rfl (pz rfl (ex5 tl l _ _ _ ⟨rfl,pA.of (xh _ _ rH),pA.of h2,zrk (tj.same xh),zn7 qM,fun D H3 Bn s3 h3=>q D c m H3 (xh.free Bn) (xh.trans s3) h3 hc hm DK⟩)))
def zga (K:aD):Sp:=fun vs H Q _=>∃ (k many:Nat),vs = [.int (k:Int),.int (many:Int)]/\2<=k/\k<=100/\many<=300 /\
 ∀ (l:Addr) (us:List Addr) (S:Nat) (H':Hp),H l=none->zr H H'->H' l=some #[GT]->PtB H' us ((#[SR].take many).map tI)->S<=many->many<=#[SR].length->Q #[Qy] H'
theorem zhM (k s:Nat):(tms k s).length=s / (k - 1)+1:=by unfold tms; rw [aA,bI]
theorem zpz {us:List Addr} {q:List (Int×Int)} (h:PtB H us q) (m:Nat):PtB H (us.take m) (q.take m):=by
 induction h generalizing m with
 | nil=>simp; exact .nil
 | cons h1 _ ih =>
  cases m with
  | zero=>exact .nil
  | succ m=>exact .cons h1 (ih m)
theorem zn8 {F:Addr} {xs:List V} {o:HO} {us:List Addr} {q:List (Int×Int)} (h:PtB H us q) (hF:H F=some #[Q8]):PtB (pB H F o) us q:=eZ (fun b v z=>by rw [zm (fun e=>by rw [e,hF] at z; cases z)]; exact z) h
theorem zrl {us vs:List Addr} {q r:List (Int×Int)} (h1:PtB H us q) (h2:PtB H vs r):PtB H (us++vs) (q++r):=by
 induction h1 with
 | nil=>exact h2
 | cons a _ ih=>exact .cons a ih
theorem za0:KE ["k","many","terms","size"] ["k","many"] (zh za8):=#[S]
theorem zgb (T:Txt K mg t) (F:Fun K "first_terms" "first_terms" za8 t.LD fd):Lf P w K mg base CX0 1 t.LD fd ["k","many"] (zga K):=by
 refine F.ok za0 #[sK] #[mt]
 ·obtain⟨k,many,rfl,_⟩:=h;rfl
 ·obtain⟨k,many,rfl,k2,yw,hm,q⟩:=h;refine zaz ?_; intro zX;refine⟨_,#[ze,#[zn,2,za0.nd,#[A],#[TU]],#[ze,#[zn,3,za0.nd,#[RD],#[zf]],#[ze,#[zh2,cW,#[zZ,#[zh5],#[zq,#[zJ],T.MR,dS,#[RU]],#[Db],(zad _)],#[ze,#[zjn,2,za0.nd,#[A],#[zO,(K7.of (N':=["j","size","k"]) (ix:=[none,some 3,some 0]) (zh za8) _ rfl rfl rfl),#[zam],#[zae,T.La,#[ya,#[zj,#[zY],#[zj,#[zcv],#[P7],#[zj,#[zaF],#[AT],#[zf]]],#[zf]]]],#[wn],#[ut],(fun _ _ _ _=>#[zai,#[za,#[zj,#[zaF],#[Db],#[zj,#[z8],#[SX],#[AT]]],#[QQ]]])],znF],#[zl,#[zjn,3,za0.nd,#[RD],#[zf],zot]]]],#[zl,#[zB,#[zbC,zcx,#[Id],#[zcw],#[zbP,#[Db]]]]]]]],?_⟩;refine zg9 ?_; intro vT sG rh;have qP:=bO;refine⟨cB _,fun TL hTL=>?_⟩;refine⟨fun μ σ H'=>∃ (S:Nat) (us:List Addr),μ=many+1 - S/\S<=many/\σ = [some (.int (k:Int)),some (.int (many:Int)),some (.ref TL),some (.int (S:Int))]/\zr H H'/\H' TL=some #[GT]/\PtB H' us (#[SR].map tI),(ex3 (many+1) 0 ([]) ⟨rfl,cB _,rfl,zb hTL,zc,.nil⟩),?_⟩;rintro μ σ H1 ⟨S,us,rfl,hS,rfl,s1,h1,pO⟩;have tL:us.length=#[SR].length:=by rw [bM pO,aA]
  have hSl:=zg0 k S;refine (pz rfl ⟨TL,(pz rfl ⟨.inl (pA.of h1),#[Rk]⟩)⟩);rw [aA,tL];refine za6 #[VT] (fun sF=>?_)
  ·have pT:=of_decide_eq_true pT;have pT:#[SR].length < many:=by lia
   refine⟨fun σ' H'=>∃ m',m' < many+1 - S/\∃ (S:Nat) (us:List Addr),m'=many+1 - S/\S<=many/\σ' = [some (.int (k:Int)),some (.int (many:Int)),some (.ref TL),some (.int (S:Int))]/\zr H H'/\H' TL=some #[GT]/\PtB H' us (#[SR].map tI),fun _ _ z=>z,?_⟩;have k1:0 < k - 1:=by lia
   have ek:((k:Int) - 1)=((k - 1:Nat):Int):=by lia
   have eN:((S:Int) / ((k:Int) - 1)+1)=((S / (k - 1)+1:Nat):Int):=by
    rw [ek];exact congrArg (· + 1) (kU S (k - 1)).symm
   have hq:S / (k - 1)<=S:=li _ _;refine (pz rfl #[SZ]);refine⟨(S:Int) / ((k:Int) - 1)+1,rfl,by rw [eN]; exact dF #[D] (nK _),by rw [eN]; exact nL (nM.mpr (show S / (k - 1)+1<=301 from hX (bR hq #[O]))) #[D],?_⟩;rw [eN,dq];refine zW (n:=S / (k - 1)+1) (fun m ys H'=>zr H1 H'/\∃ vs:List Addr,ys=vs.map V.ref/\PtB H' vs (((tms k S).take m).map tI)) ⟨fun _ _ e=>e,[],rfl,.nil⟩ #[Qr] #[P6] ?_ ?_
   ·rintro zS zT zE j x ys H2 H3 hj ⟨s2,vs,rfl,vH⟩ ⟨rfl,rfl⟩;rw [show ((0:Int)+(j:Int))=(j:Int) from eK _];have wQ:(k - 1)*j<=S:=by
     have:=(gj k1).mp (show j<=S / (k - 1) by lia);rw [iK]; exact this
    have sE:vs.length=j:=by rw [bM vH,aA,bD,zhM]; lia
    have eV:(S:Int) - ((k:Int) - 1)*(j:Int)=((S - (k - 1)*j:Nat):Int):=by
     rw [ek,oS wQ,jM]
    refine gY ?_;refine (pz rfl (pz rfl (pF rfl rfl (pz rfl (pF rfl rfl ⟨.inl #[wS],(pF rfl rfl (pz rfl ⟨szq,fun T hT=>?_⟩))⟩)))));have HC:(tms k S)[j]? = some (S - (k - 1)*j,j):=by unfold tms; rw [aF,cH hj]; rfl
    refine⟨by rw [aA]; lia,s2.trans (zb hT),vs++[T],#[M],?_⟩;rw [take_snoc HC,aN];refine cY (vH.same (zb hT)) ?_;rw [zc];show some (HO.tup [V.int ((S:Int) - ((k:Int) - 1)*(j:Int)),V.int (j:Int)])=_;rw [eV];rfl
   ·rintro ys H2 D ⟨s2,vs,rfl,vH⟩ hD;rw [bC (by rw [zhM]; exact aG _)] at vH;have sD:=s2.trans #[WR];have sE:vs.length=S / (k - 1)+1:=by rw [bM vH,aA,zhM]
    refine (ex4 TL D _ _ ⟨rfl,rfl,sD _ _ h1,zc,by rw [aA,aA]; lia,?_⟩);refine #[VX];refine⟨many+1 - (S+1),#[O],S+1,us++vs,rfl,#[O],rfl,zak (s1.trans sD) hTL,by rw [zc,aN],?_⟩;rw [zcJ,aN];have a1:=zn8 (o:=.lst #[WT]) (pO.same sD) (sD _ _ h1);have a2:=zn8 (o:=.lst #[WT]) (vH.same #[WR]) (sD _ _ h1);exact zrl a1 a2
  ·have sF:¬ ((#[SR].length:Int) < (many:Int)):=fun h=>sF #[VA]
   refine (pz rfl (pz rfl (pz rfl ⟨TL,(pz rfl ⟨pA.of h1,fun z hz=>?_⟩)⟩)));have ec:zcQ #[Rc] none (some (many:Int))=(us.take many).map V.ref:=by
    unfold zcQ;rw [HT.MP,HT.Nh,g9,gE,aA,fG #[O],im]
   rw [ec];refine q z (us.take many) S _ (s1.free hz) (s1.trans (zb hz)) zc ?_ hS #[O];have:=(zpz pO many).same (zb (o:=.lst ((us.take many).map V.ref)) hz);rw [<- im] at this;exact this
structure Gcv (p:Int) (k size:Nat) (g:Tm->Int):Prop where
 rg:∀ t,0<=g t/\g t < p
 top:∃ t,tz k t=size/\g t≠0
theorem gY3 {i l:Nat} {T:Addr} {x z:V} {σ:L2.St} {A B:L2.St->Hp->Prop} (hT:pK K H T [x,y,z]) (h:A ((#[Qh].set j (some y)).set l (some z)) H) :
  zh1 K 3 (zcg (zaI i) (zcg (zaI j) (zcg (zaI l) zjm))) (.ref T) σ H (fun σ2 H2=>zoC σ2 H2 fun b H3=>if b=true then A σ2 H3 else B σ2 H3):=by
 refine⟨T,_,rfl,hT,rfl,x,_,rfl,y,_,rfl,z,_,rfl,rfl,?_⟩;show (if true=true then A ((#[Qh].set j (some y)).set l (some z)) H else B ((#[Qh].set j (some y)).set l (some z)) H);rw [if_pos rfl];exact h
theorem zn9 (w:Nat):(w:Int)*((w:Int)+1) / 2=(tri w:Int):=by
 unfold tri;rw [show ((w:Int)*((w:Int)+1))=((w*(w+1):Nat):Int) by rw [jM]; rfl];exact (kU _ 2).symm
theorem zi7 {α:Type} (f:α->Nat):∀ l:List α,(l.map fun q=>(f q:Int)).sum=((l.map f).sum:Int)
 | []=>rfl
 | a :: l=>by
  rw [bX,ip,bX,ip,zi7 f l];lia
theorem zk0:∀ {ts:List Tm} {c:List Int} {t:Tm},(zdI (#[RY].zip #[Ri]) (tK t)).getD (.int 0) = .int (gof ts c t)
 | [],_,_=>rfl
 | _ :: _,[],_=>rfl
 | a :: ts,b :: c,t=>by
  have ih:=zk0 (ts:=ts) (c:=c) (t:=t);unfold zdI gof at ih |-;rw [bX,bX,gP,gP,cI];by_cases e:t=a
  ·subst e;rw [List.find?_cons_of_pos #[M],beq_self_eq_true];rfl
  ·rw [List.find?_cons_of_neg (by simp; exact fun h=>e (zn6 h).symm),show (t == a)=false by simpa using e];exact ih
theorem zpA (hk:2<=k) (t:Tm):(t.1:Int)+((k:Int) - 1)*(t.2:Int)=(tz k t:Int):=by
 unfold tz;rw [show ((k:Int) - 1)=((k - 1:Nat):Int) by lia,lh,jM]
theorem zl6 {s:Nat} {g:Tm->Int} (h:j < s / (k - 1)+1):#[WE].take (j+1)=#[WE].take j++[(bA (s - (k - 1)*j+1)).map fun i=>g (i,j)]:=take_snoc (ziY h)
noncomputable def zgc (K:aD):Sp:=fun vs H Q _=>∃ (p:Int) (k:Nat) (pl:Addr) (cs:List Addr) (pJ:List (Int×Int×Nat)),vs = [.int p,.int (k:Int),.ref pl]/\p∈zt/\2<=k/\k<=100/\H pl=some #[SN]/\W3 H cs pJ/\zn4 p pJ/\zbn pJ<=199/\pJ.length<=1000 /\
 ∀ (z r:Addr) (ls:List Addr) (size:Nat) (g:Tm->Int) (H':Hp),H z=none->zr H H'->H' z=some (.tup [.int (size:Int),.ref r])->H' r=some #[Qe]->zaN H' ls (zdM k size g)->Gcv p k size g->size<=200->Q #[RX] H'
theorem za1:KE ["p","k","points","asked","found","size","lines"] ["p","k","points"] (zh zau):=#[S]
theorem zgd (T:Txt K mg t) (F:Fun K "least_curve" "least_curve" zau t.Ll fd):Lf P w K mg base CX0 6 t.Ll fd ["p","k","points"] (zgc K):=by
 obtain⟨B2,tq,vV⟩:=T.L9;have vW:=zhL (P:=P) (w:=w) (base:=base) T tq;obtain⟨AW,rM,uC⟩:=T.LG;have uD:=zgb (P:=P) (w:=w) (base:=base) T rM;refine F.ok za1 #[sK] #[mt]
 ·obtain⟨p,k,pl,cs,pJ,rfl,_⟩:=h;rfl
 ·obtain⟨p,k,pl,cs,pJ,rfl,hp,k2,yw,qh,CJ,hg,hL,hn,q⟩:=h;have hu:(A.deeper (envOfC (cQ "least_curve") (zh zau) s.heap.objs.size t.Ll pR)).units+20 < cLine:=by have:=hr.units; lia
  refine zaz ?_; intro zX;refine⟨_,#[ze,#[zn,3,za1.nd,#[A],#[zq,(@zlB _ rfl),T.PJ,boot_sum,#[ya,#[zO,(K7.of (N':=["x","y","weight"]) (ix:=[none,none,none]) (zh zau) _ rfl rfl rfl),#[zaJ,#[zy,#[zy,#[zy,#[zap]]]]],#[z0,#[Id]],(fun _ _ _ _=>#[zaf,(K),3,#[zi,#[zg,0,#[Y],#[A]],#[zi,#[zg,1,#[Y],#[A]],#[zi,#[Tv],#[zF]]]]]),#[ut],(fun _ _ _ _=>#[zj,#[zcv],#[zj,#[z8],#[Id],#[zj,#[zY],#[Id],#[zf]]],#[zf]])]]]],#[ze,#[zn,4,za1.nd,#[RD],#[zp,vW,#[v6],T.NW,tq.kp,vV,#[zM],#[za,#[AT],#[za,#[zp,uD,#[v6],T.Nq,rM.kp,uC,#[zM],#[za,#[Db],#[ya,#[zj,#[zY],#[P7],#[zf]]]]],#[RU]]]]],#[ze,#[zn,5,za1.nd,#[RD],#[zq,#[zeB],T.Pf,mI,#[ya,#[zO,(K7.of (N':=["i","j","k"]) (ix:=[none,none,some 1]) (zh zau) _ rfl rfl rfl),#[wP],(@zr1 _ _ _ _ #[Qt]),#[or],#[ut],#[Wd]]]]],#[ze,#[zbs,6,za1.nd,#[A],(K7.of (N':=["j","size","k","found"]) (ix:=[none,some 5,some 1,some 4]) (zh zau) _ rfl rfl rfl),#[zam],#[zae,T.La,#[ya,#[zj,#[zY],#[zj,#[zcv],#[TY],#[zj,#[zaF],#[Db],#[zf]]],#[zf]]]],(fun _ _ _ _=>#[zg,0,#[Y],#[RD]]),#[ut],(fun _ _ _ _=>#[zao,(zc1 (K:=K) rfl),T.MM,iW,#[ya,#[zO,(K7.of (N':=["i","found","j"]) (ix:=[none,some 3,some 0]) ({ kind:=.function,names:=[(".0",.local),("j",.cell),("tuple",.globalImplicit),("range",.globalImplicit),("found",.cell),("k",.cell),("size",.cell)],isGenerator:=false,isCoroutine:=false }) _ (by with_unfolding_all rfl) rfl rfl),#[zam],#[zae,T.La,#[ya,#[zj,#[zY],#[zj,#[zaF],#[Db],#[zj,#[z8],#[SX],#[AT]]],#[zf]]]],#[wn],#[ut],(fun _ _ _ _=>(@zne _ _ _ _ _ _ _ _ _ (j7 (m6 (show 1<=20 by decide) _) hu) #[Db] #[zai,#[za,#[AT],#[RU]]] #[zf] ⟨rfl,rfl,rfl,rfl⟩))]]])],#[zl,#[zB,#[zai,#[za,#[TY],#[ya,#[zao,#[zaT],T.MM,iW,#[UG]]]]]]]]]]],?_⟩;refine zmB ?_; intro BV vT sG rh;have qP:=bO;have rp:=zC hp;have uM:=bM CJ;refine (pz rfl ⟨pl,rfl,⟨_,pA.of qh⟩,zbi (fs:=(pJ.map fun q=>(tri q.2.2:Int)).map V.int) (pA.of qh) (by rw [aA,aA,aA,uM]) (by rw [aA]; lia) #[NE] (fun D0 Gh=>?_)⟩)
  ·obtain⟨b,rfl,hb⟩:=zQ hx;obtain⟨⟨px,py,pw⟩,hq,Gf⟩:=Paired.get CJ hb;have hw9:=(hg _ (aU hq)).2.2.2.2.2;rw [aF,aF,hq] at hy;have hy:V.int (tri pw:Int)=y:=by simpa using hy
   subst hy;refine gY3 (pK.of Gf) ?_;have hw9:pw<=9:=hw9;refine (pz rfl (pz rfl (pF rfl rfl (pF rfl rfl ⟨.inl #[wS],(pF rfl rfl ⟨#[Qg],?_⟩)⟩))));show R (.int ((pw:Int)*((pw:Int)+1) / 2)) _;rw [zn9];exact hR
  refine⟨D0,pJ.map fun q=>(tri q.2.2:Int),rfl,pA.of zc,?_⟩;rw [zi7,show (pJ.map fun q=>tri q.2.2).sum=zbn pJ from rfl];have s0:=zb (o:=.lst ((pJ.map fun q=>(tri q.2.2:Int)).map V.int)) Gh;generalize pB H D0 (.lst ((pJ.map fun q=>(tri q.2.2:Int)).map V.int))=H0 at s0 |-;refine (pz rfl (pz rfl (pz rfl (pF rfl rfl ⟨k,zbn pJ+1,rfl,k2,yw,#[O],fun tl us S H1 rH s1 h1 tj hS1 hS2=>?_⟩))));have Ak:=s0.trans s1;have Kf:∀ t∈#[SR].take #[UF],tz k t < S:=fun t ht=>(zeC k2).mp (jL ht)
  have tle:∀ t:Tm,t.1<=tz k t/\t.2<=tz k t:=fun t=>⟨by unfold tz; lia,by
   unfold tz;have:1*t.2<=(k - 1)*t.2:=jN _ #[O];lia⟩
  have qM:(#[SR].take #[UF]).Nodup:=List.Sublist.nodup (d9 _ _) (zeP k2 S);have pI:(#[SR].take #[UF]).length=zbn pJ+1:=by rw [bD]; lia
  refine (pz rfl (ex7 p tl pl us cs (#[SR].take #[UF]) pJ ⟨rfl,hp,h1,tj,qM,pI,#[O],fun t ht=>?_,Ak _ _ qh,CJ.same Ak,hg,hn,fun D c m H2 hD s2 h2 hc hm DK=>?_⟩))
  ·have:=Kf t ht;have:=tle t;lia
  rw [pI] at hm;have HG:=Ak.trans s2;have hDn:H D=none:=Ak.free hD;obtain⟨top,B3⟩:∃ top,((zaP k S).take (zbn pJ+1))[m]? = some top:=⟨(#[SR].take #[UF])[m]'#[O],aJ _⟩;have LS:Gcv p k (tz k top) (gof (#[SR].take #[UF]) c):=⟨zpj #[O] hc.2,top,rfl,by rw [znL qM B3,DK]; decide⟩;have hso:(#[SR].take #[UF]).Pairwise fun a b=>tz k a<=tz k b:=jx (d9 _ _) (zeb k2 S)
  have Gi:=Kf top (aU B3);generalize #[SR].take #[UF]=ts at *;have DH:c.length=m+1:=hc.1;have Kg:(#[RY].zip #[Ri]).length=m+1:=by rw [oR,aA,aA]; lia
  refine (pz rfl ⟨D,(pz rfl ⟨h2,fun o=>?_⟩)⟩);have s3:zr H (pB H2 D (.frz o (.dT (#[RY].zip #[Ri])))):=zak HG hDn;have h3:pB H2 D (.frz o (.dT (#[RY].zip #[Ri]))) D=some (.frz o (.dT (#[RY].zip #[Ri]))):=zc;generalize pB H2 D (.frz o (.dT (#[RY].zip #[Ri])))=H3 at s3 h3 |-;refine zW (n:=m+1) (fun i ys H'=>H'=H3/\ys=((ts.take i).map fun t=>(tz k t:Int)).map V.int) ⟨rfl,rfl⟩ ?_ ?_ ?_ ?_
  ·rintro i ys H' hi ⟨rfl,_⟩;exact⟨h3,#[O]⟩
  ·rintro ys H' ⟨rfl,_⟩;exact⟨h3,#[O]⟩
  ·rintro zS zT zE i x ys H' H4 hi ⟨rfl,rfl⟩ ⟨rfl,a,ky,rfl,Hl,ha⟩;have HH:ts[i]? = some (ts[i]'#[O]):=aJ #[O];have ek:ky=tK (ts[i]'#[O]):=by
    rw [aF] at Hl;obtain⟨q',rf,rfl⟩:=jg.mp Hl;have qZ:(#[RY].zip #[Ri])[i]? = some (q'.1,q'.2):=rf;rw [iF,aF,HH] at qZ;exact (bJ qZ.1).symm
   subst ek;generalize ts[i]'#[O]=tt at HH ha;have EF:tz k tt < S:=Kf tt (aU HH);have:=tle tt;refine gY2 (pK.of (xs:=[.int (tt.1:Int),.int (tt.2:Int)]) ha) ?_;refine (pz rfl (pz rfl (pF rfl rfl (pz rfl (pF rfl rfl ⟨.inl #[wS],#[P3]⟩)))));refine⟨by rw [aA,aA,bD]; lia,rfl,?_⟩;show _++[V.int ((tt.1:Int)+((k:Int) - 1)*(tt.2:Int))]=_;rw [zpA k2,take_snoc HH,aN,aN];rfl
  rintro ys H' D2 ⟨rfl,rfl⟩ tZ;refine⟨D2,#[VH].map fun t=>(tz k t:Int),rfl,pA.of zc,fun e=>?_,fun M hM DJ=>?_⟩
  ·have:#[VH].length=0:=by rw [<- aA (f:=fun t=>(tz k t:Int)),e]; rfl
   rw [bD] at this;lia
  have eM:M=(tz k top:Int):=by
   obtain⟨t',ht',rfl⟩:=aZ.mp hM;obtain⟨i',qF⟩:=fu.mp ht';have Kh:i' < m+1:=by have:=(aP.mp qF).1; rw [bD] at this; lia
   rw [dL Kh] at qF;have b1:=zlW hso qF B3 #[O];have b2:=DJ (tz k top:Int) (aZ.mpr ⟨top,fu.mpr ⟨m,by rw [dL #[O]]; exact B3⟩,rfl⟩);lia
  subst eM;have w4:=zb (o:=.lst ((#[VH].map fun t=>(tz k t:Int)).map V.int)) tZ;have s4:=s3.trans w4;have h4:=w4 _ _ h3;generalize pB H' D2 (.lst ((#[VH].map fun t=>(tz k t:Int)).map V.int))=H4 at s4 h4 |-;have k1:0 < k - 1:=by lia
  have ek1:((k:Int) - 1)=((k - 1:Nat):Int):=by lia
  obtain⟨sz,Hc⟩:∃ sz,tz k top=sz:=⟨_,rfl⟩;rw [Hc] at LS Gi |-;have eN:((sz:Int) / ((k:Int) - 1)+1)=((sz / (k - 1)+1:Nat):Int):=by
   rw [ek1];exact congrArg (· + 1) (kU sz (k - 1)).symm
  have hqs:sz / (k - 1)<=sz:=li _ _;have Ki:=fun t=>zk0 (ts:=ts) (c:=c) (t:=t)
  generalize #[RY].zip #[Ri]=pD at *;generalize gof ts c=g at *;refine #[SZ];refine⟨(sz:Int) / ((k:Int) - 1)+1,rfl,by rw [eN]; exact dF #[D] (nK _),by rw [eN]; exact nL (nM.mpr (show sz / (k - 1)+1<=301 from hX (bR hqs #[O]))) #[D],?_⟩;rw [eN,dq];refine zW (n:=sz / (k - 1)+1) (fun j ys H'=>zr H4 H'/\∃ us:List Addr,ys=us.map V.ref/\zaN H' us ((zdM k sz g).take j)) ⟨fun _ _ e=>e,[],rfl,.nil⟩ #[Qr] #[P6] ?_ ?_
  ·rintro zS zT zE j x ys H5 H6 hj ⟨s5,us,rfl,pO⟩ ⟨rfl,rfl⟩;rw [show ((0:Int)+(j:Int))=(j:Int) from eK _];have wQ:(k - 1)*j<=sz:=by
    have:=(gj k1).mp (show j<=sz / (k - 1) by lia);rw [iK]; exact this
   have tL:us.length=j:=by rw [bM pO,bD,zec]; lia
   have eV:(sz:Int) - ((k:Int) - 1)*(j:Int)+1=((sz - (k - 1)*j+1:Nat):Int):=by
    rw [ek1,lh,oS wQ,jM];rfl
   refine gY ?_;refine (pz rfl (pz rfl (pF rfl rfl (pz rfl (pF rfl rfl ⟨.inl #[wS],(pF rfl rfl #[P3])⟩)))));refine⟨(sz:Int) - ((k:Int) - 1)*(j:Int)+1,rfl,by rw [eV]; lia,by rw [eV]; lia,?_⟩;rw [eV,dq];refine zW (n:=sz - (k - 1)*j+1) (fun i ys H'=>zr H6 H'/\ys=((bA i).map fun i=>g (i,j)).map V.int) ⟨fun _ _ e=>e,rfl⟩ #[Qr] #[P6] ?_ ?_
   ·rintro zS zT zE i x ys H7 H8 hi ⟨s7,rfl⟩ ⟨rfl,rfl⟩;rw [show ((0:Int)+(i:Int))=(i:Int) from eK _];have h7:=(s5.trans s7) _ _ h4;refine gY ?_;refine (pz rfl ⟨D,rfl,.inr ⟨pD,.inr ⟨o,h7⟩⟩,(pz rfl (pz rfl ⟨szq,fun T hT=>?_⟩))⟩);have wT:=zb (o:=.tup [.int (i:Int),.int (j:Int)]) hT;refine⟨_,.inr ⟨pD,tK (i,j),T,.inr ⟨o,wT _ _ h7⟩,rfl,zc,rfl⟩,?_⟩;rw [Ki];refine⟨by rw [aA,aA,bI]; lia,s7.trans wT,?_⟩;rw [fE,aN,aN];rfl
   ·rintro ys H7 D5 ⟨s7,rfl⟩ hD5;refine⟨D5,#[Ua]⟩;have w7:=(s7.trans (zb (o:=.lst (((bA (sz - (k - 1)*j+1)).map fun i=>g (i,j)).map V.int)) hD5)).trans (zb (o:=.tup (((bA (sz - (k - 1)*j+1)).map fun i=>g (i,j)).map V.int)) hl);refine⟨by rw [aA]; lia,s5.trans w7,us++[l],#[M],?_⟩;rw [zl6 hj];exact cY (pO.same w7) zc
  ·rintro ys H5 L1 ⟨s5,us,rfl,pO⟩ AH;rw [bC (by rw [zec]; exact aG _)] at pO;have w5:=s5.trans (zb (o:=.lst #[Rc]) AH);have B4:=pO.same (zb (o:=.lst #[Rc]) AH);refine (pz rfl (pz rfl ⟨L1,(pz rfl (.inl ⟨pA.of zc,fun r hr=>?_⟩))⟩));have w6:=w5.trans (zb (o:=.tup #[Rc]) hr);have Kj:=B4.same (zb (o:=.tup #[Rc]) hr);refine⟨szq,fun z hz=>?_⟩;have sf:=s4.trans w6;have wz:=zb (o:=.tup [.int (sz:Int),.ref r]) hz;exact q z r us sz g _ (sf.free hz) (sf.trans wz) zc (wz _ _ zc) (Kj.same wz) LS #[O]
def ze2 (t:Adr) (K:aD):Sp:=fun vs H Q E=>∃ (k:Nat),vs = [.int (k:Int)]/\((k < 2/\E #[Tp] none H)\/(2<=k/\Q .non H))
theorem ze3:KE ["k"] ["k"] (zh zbq):=#[S]
theorem zcP (T:Txt K mg t) (F:Fun K "check_curves" "check_curves" zbq t.Lu fd):Lf P w K mg base #[Vi] 1 t.Lu fd ["k"] (ze2 t K):=by
 refine F.okX ze3 #[sK] #[mt]
 ·obtain⟨k,rfl,_⟩:=h;rfl
 ·obtain⟨k,rfl,q⟩:=h;refine zaz ?_; intro zX;refine⟨_,#[zl,#[za3,#[zZ,#[zh5],#[AT],#[zf],(zad _)],#[zl,#[zfH,#[Rn],T.NJ,T.M9,#[zdE]]],#[zan]]],?_⟩;refine #[Rk];rcases q with ⟨h1,q⟩ | ⟨h1,q⟩
  ·refine za6 (fun _=>?_) (fun h=>absurd (decide_eq_true #[O]) h);exact⟨rfl,q⟩
  ·exact za6 #[T7] (fun _=>q)
def wpt (m:Nat) (l:List (Int×Int)):List (Int×Int×Nat):=l.map fun q=>(q.1,q.2,m)
theorem zi8 (m:Nat):∀ l,zbn (wpt m l)=l.length*tri m
 | []=>by simp [zbn,wpt]
 | a :: l=>by
  have ih:=zi8 m l;unfold zbn wpt at ih |-
  (simp only [bX,ip,dM])
  rw [ih,Nat.add_mul];lia
noncomputable def zhN (t:Adr) (K:aD):Sp:=fun vs H Q E=>∃ (c tt r:Addr) (p:Int) (k m:Nat) (pl:List Int) (rw:List #[IO]),vs = [.ref c,.ref r,.int (m:Int)]/\zbu H c tt p k pl/\H r=some #[Qa]/\rw.length=pl.length/\pl.length<=16/\p∈zt/\pl.Nodup/\(∀ x∈pl,0<=x/\x < p)/\(∀ z,some z∈rw->0<=z/\z < p)/\1<=k/\k<=100/\1<=m/\m<=9 /\
 ((k < 2/\∀ H',zr H H'->E #[Tp] none H')\/(2<=k/\#[Fr].length*tri m<=199/\∀ (z r:Addr) (ls:List Addr) (size:Nat) (g:Tm->Int) (H':Hp),H z=none->zr H H'->H' z=some (.tup [.int (size:Int),.ref r])->H' r=some #[Qe]->zaN H' ls (zdM k size g)->Gcv p k size g->size<=200->Q #[RX] H'))
theorem zbT:KE ["code","row","m","p","k","places"] ["code","row","m"] (zh zbI):=#[S]
theorem zhO (T:Txt K mg t) (F:Fun K "curve_for" "curve_for" zbI t.Mj fd):Lf P w K mg base #[Vi] 7 t.Mj fd ["code","row","m"] (zhN t K):=by
 obtain⟨tM,pW,qt⟩:=T.Lh;have qu:=zcP (P:=P) (w:=w) (base:=base) T pW;obtain⟨AY,rN,uE⟩:=T.LF;have uF:=zgd (P:=P) (w:=w) (base:=base) T rN;obtain⟨qX,pN,pX⟩:=T.Lb;have pY:=zbL (P:=P) (w:=w) (base:=base) T pN;refine F.okX zbT #[sK] #[mt]
 ·obtain⟨c,tt,r,p,k,m,pl,rw,rfl,_⟩:=h;rfl
 ·obtain⟨c,tt,r,p,k,m,pl,rw,rfl,hc,uu,rL,hn,hp,qM,qh,wM,k0,k1,m1,m9,q⟩:=h;refine zaz ?_; intro zX;refine⟨_,#[ze,#[za5,#[AT],#[zaW,#[zi,#[zg,3,zbT.nd,#[A]],#[zi,#[zg,4,zbT.nd,#[A]],#[zi,#[zg,5,zbT.nd,#[A]],#[zF]]]]]],#[ze,#[zct,#[zp,qu,#[v6],T.L5,pW.kp,qt,#[zcB],#[Tj]]],#[zl,#[zB,#[zp,uF,#[v6],T.Nn,rN.kp,uE,#[zM],#[za,#[P7],#[za,#[Qt],#[ya,#[zO,(K7.of (N':=["place","entry","m"]) (ix:=[none,none,some 2]) (zh zbI) _ rfl rfl rfl),#[wP],#[z0,#[Rh]],#[or],#[ut],(fun _ _ _ _=>#[zai,#[Qo]])]]]]]]]]],?_⟩;refine zfu ?_; intro sG rh;have qP:=bO;have rp:=zC hp;have hR:O7 K H r pl.length rw:=⟨pA.of uu,rL⟩;have hP:=zff qM qh wM;have Kk:=zcF pl rw;refine⟨_,rfl,c,_,rfl,pK.of hc.1,rfl,_,_,rfl,_,_,rfl,_,_,rfl,rfl,?_⟩;rcases q with ⟨h1,q⟩ | ⟨h1,hA,q⟩
  ·exact (pz rfl ⟨k,rfl,.inl ⟨h1,q H fun _ _ e=>e⟩⟩)
  refine (pz rfl ⟨k,rfl,.inr ⟨h1,?_⟩⟩);refine (pz rfl (pz rfl #[Ra]));have vU:bs.length=#[Fr].length:=hB.length;refine⟨l,rfl,⟨_,pA.of tJ⟩,zW (n:=bs.length) (fun i ys H'=>zr H1 H'/\∃ us:List Addr,ys=us.map V.ref/\W3 H' us (wpt m (#[Fr].take i))) ⟨fun _ _ e=>e,[],rfl,.nil⟩ ?_ ?_ ?_ ?_⟩
  ·rintro i ys H4 hi ⟨s4,_⟩;exact⟨_,.ref (bs[i]'#[O]),pA.of (s4 _ _ tJ),by rw [aF,aJ #[O]]; rfl⟩
  ·rintro ys H4 ⟨s4,_⟩;exact⟨_,pA.of (s4 _ _ tJ),by rw [aA]; exact aG _⟩
  ·rintro zS zT zE i z ys H4 H5 hi ⟨s4,us,rfl,pO⟩ ⟨rfl,hx⟩;obtain⟨b,rfl,yu⟩:=zQ (hx _ (pA.of (s4 _ _ tJ)));obtain⟨q',rf,hT⟩:=Paired.get (hB.same s4) yu;have hz:us.length=i:=by rw [bM pO]; unfold wpt; rw [aA,bD]; lia
   refine gY2 (pK.of hT) ?_;refine (pz rfl (pz rfl (pz rfl ⟨szq,fun T CK=>⟨by rw [aA]; lia,s4.trans (zb CK),us++[T],#[M],?_⟩⟩)));rw [take_snoc rf];unfold wpt;rw [aN];exact cY (pO.same (zb CK)) zc
  ·rintro ys H4 D ⟨s4,us,rfl,pO⟩ hD;rw [bC #[O]] at pO;have w4:=s4.trans (zb (o:=.lst #[Rc]) hD);refine (ex5 p k D us (wpt m #[Fr]) ⟨rfl,hp,h1,k1,zc,pO.same (zb hD),fun q' rf=>?_,by rw [zi8]; exact hA,by unfold wpt; rw [aA]; lia,fun z r' ls size g H5 hz s5 h5 h6 h7 hL hs=>?_⟩)
   ·obtain⟨a,ha,rfl⟩:=aZ.mp rf;obtain⟨g1,g2,g3,g4⟩:=hP.rg a ha;exact⟨g1,g2,g3,g4,m1,m9⟩
   ·have AZ:=s1.trans w4;exact q z r' ls size g H5 (AZ.free hz) (AZ.trans s5) h5 h6 h7 hL hs
def zi9 (K:aD):Sp:=fun vs H Q _=>∃ (a:Addr) (bs:List Addr) (rows:List #[At]),vs = [.ref a]/\(pA K H a #[Ch]\/pK K H a #[Ch])/\RwA H bs rows/\rows.length<=1000 /\
 ∀ H',zr H H'->Q (.int #[Sy]) H'
theorem zja:KE ["curve"] ["curve"] (zh zbY):=#[S]
theorem zeQ (T:Txt K mg t) (F:Fun K "width_of" "width_of" zbY t.Mw fd):Lf P w K mg base CX0 1 t.Mw fd ["curve"] (zi9 K):=by
 refine F.ok zja #[sK] #[mt]
 ·obtain⟨a,bs,rows,rfl,_⟩:=h;rfl
 ·obtain⟨a,bs,rows,rfl,ha,hb,hn,q⟩:=h;refine zaz ?_; intro zX;refine⟨_,#[zl,#[zB,#[zjM,true,mI,T.Pf,#[zf],#[zO,(K7.of (N':=["line"]) (ix:=[none]) (zh zbY) _ rfl rfl rfl),#[zam],#[zmI,#[AT]],#[wn],#[ut],(fun _ _ _ _=>#[zq,#[zaU,(K)],T.MR,dS,#[QQ]])]]]],?_⟩;have pI:=bM hb;have el:∀ (i:Nat) (x y:V),#[Ch][i]? = some x->(#[WA].map V.int)[i]? = some y->∃ (b:Addr) (r:List Int),x = .ref b/\y = .int r.length/\(H b=some (.lst #[Wk])\/H b=some (.tup #[Wk])):=by
   intro i x y hx hy;obtain⟨b,rfl,xb⟩:=zQ hx;unfold zbv at hy;rw [aF,aF] at hy;cases e:rows[i]? with
   | none=>rw [e] at hy; simp at hy
   | some r =>
    rw [e] at hy;obtain⟨v,hv,hr⟩:=Paired.get hb xb;rw [e] at hv;cases hv;exact⟨b,r,rfl,by simpa using hy.symm,hr⟩
  have fin:∀ D,H D=none->∃ (p:Addr) (ns:List Int),V.ref D = .ref p/\pA K (pB H D (.lst (#[WA].map V.int))) p #[EQ]/\∀ M:Int,(ns = []->M=0)->(ns≠[]->M∈ns/\∀ a∈ns,if true=true then a<=M else M<=a)->Q (.int M) (pB H D (.lst (#[WA].map V.int))):=fun D hD =>
   ⟨D,_,rfl,pA.of zc,fun M h0 h1=>by rw [zr6 h0 h1]; exact q _ (zb hD)⟩
  rcases ha with ha | ha
  ·refine (pz rfl ⟨a,rfl,.inl ⟨⟨_,ha⟩,zbi (fs:=#[WA].map V.int) ha (by simp [pI,zfY]) (by simp; lia) #[NE] fin⟩⟩);obtain⟨b,r,rfl,rfl,hr⟩:=el i x y hx hy;exact (pz rfl ⟨b,(pz rfl ⟨hr.imp pA.of pK.of,by rw [aA]; exact hR⟩)⟩)
  ·refine (pz rfl ⟨a,rfl,.inr ⟨⟨_,ha⟩,zgQ (fs:=#[WA].map V.int) ha (by simp [pI,zfY]) (by simp; lia) #[NE] fin⟩⟩);obtain⟨b,r,rfl,rfl,hr⟩:=el i x y hx hy;exact (pz rfl ⟨b,(pz rfl ⟨hr.imp pA.of pK.of,by rw [aA]; exact hR⟩)⟩)
noncomputable def zl7 (K:aD):Sp:=fun vs H Q _=>∃ (p b:Int) (a:Addr) (bs:List Addr) (n w:Nat) (c:Nat->Nat->Int),vs = [.int p,.ref a,.int b]/\H a=some #[Rb]/\LsA H bs #[Vj]/\n<=1000/\w<=1000/\5<=p/\p<=97/\0<=b/\b < p/\(∀ j i,j < n->i < w->0<=c j i/\c j i < p) /\
 ∀ (l:Addr) (ls:List Addr) (H':Hp),H l=none->zr H H'->H' l=some #[BT]->LsA H' ls (zK n w fun j i=>sh b n #[Qf] j % p)->Q #[Qy] H'
theorem zaK (n w:Nat) (g:Nat->Nat->Int):#[TC].length=n:=by unfold zK; rw [aA,bI]
theorem zdq:KE ["p","lines","by","first","at"] ["p","lines","by"] (zh zc5):=#[S]
theorem zg2 (T:Txt K mg t) (F:Fun K "raised" "raised" zc5 t.raised fd):Lf P w K mg base CX0 1 t.raised fd ["p","lines","by"] (zl7 K):=by
 refine F.ok zdq #[sK] #[mt]
 ·obtain⟨p,b,a,bs,n,w',c,rfl,_⟩:=h;rfl
 ·obtain⟨p,b,a,bs,n,wi,c,rfl,ha,hb,hn,hw,p5,xf,b0,b1,hc,q⟩:=h;refine zaz ?_; intro zX;refine⟨_,#[ze,#[zn,1,zdq.nd,#[A],#[zao,#[zbQ],T.Oq,j9,#[P4]]],#[ze,#[zaX,cW,#[zae,T.La,#[ya,#[Rg]]],#[zg,3,zdq.nd,#[A]],#[zl,#[zaX,cW,(@zps _ _ _ _ _ _ rfl T.NK #[ya,#[zao,(@zi3 _),T.La,lY,#[za,#[P7],#[ya,#[zj,#[zaF],#[Rg],#[zf]]]]]] (by rfl)),#[zg,4,zdq.nd,#[A]],#[zl,#[za5,#[zO,(K7.of (N':=["low","high","by","p"]) (ix:=[none,none,some 2,some 0]) (zh zc5) _ rfl rfl rfl),#[wP],#[zdW,T.OW,#[za,#[zU,#[zI],#[Db],#[Qt]],#[ya,#[zU,#[zI],#[Db],#[zj,#[zY],#[Qt],#[zf]]]]]],#[or],#[ut],#[We]],#[zmn,#[Db],#[Qt],set_list]]]]]],#[zl,#[zB,#[Db]]]]],?_⟩;refine zfu ?_; intro sG rh;have qP:=bO;have hz:∀ {H':Hp} {ls:List Addr} {g:Nat->Nat->Int},LsA H' ls (zK n wi g)->(#[TF].length:Int)=(n:Int):=fun h=>by rw [aA,bM h,zaK]
  refine (pz rfl ⟨a,(pz rfl ⟨.inl (pA.of ha),fun l hl=>?_⟩)⟩);refine (pz rfl ⟨l,(pz rfl ⟨.inl (pA.of zc),#[Qz]⟩)⟩);rw [hz hb];refine⟨#[O],#[O],zaQ (lo:=0) (n:=(n:Int).toNat) (fun f σ H'=>∃ (ls:List Addr) (e3 e4:Option V),σ = [some #[Tz],some #[Qy],some (.int b),e3,e4]/\zr H H'/\H' l=some #[BT]/\LsA H' ls (zK n wi (rst p b n c f 0))) (ex3 bs none none ⟨rfl,zb hl,zc,?_⟩) ?_ ?_⟩
  ·rw [zbj (g':=c) fun j i hj hi=>by rw [zlU hj]; exact fc (hc j i hj hi).1 (hc j i hj hi).2];exact hb.same (zb hl)
  ·rintro zD zT f σ H1 hf ⟨ls,e3,e4,rfl,s1,tJ,qk⟩;have hf:f < n:=by lia
   refine (pz rfl (pz rfl ⟨l,(pz rfl ⟨.inl (pA.of tJ),#[P3]⟩)⟩));rw [hz qk];refine⟨0+(f:Int),(n:Int) - 1,rfl,fun r hr=>(ex3 r (0+(f:Int)) ((n:Int) - 1) ⟨rfl,zc,⟨#[O],#[O],#[O],#[O]⟩,?_⟩)⟩;have e0:(0+(f:Int))+((((n:Int) - 1 - (0+(f:Int))).toNat:Nat):Int) - 1=(n:Int) - 2:=by lia
   have e1:((n:Int) - 1 - (0+(f:Int))).toNat=n - 1 - f:=by lia
   rw [e0,e1];have rl:r≠l:=(zu tJ hr).symm;refine zjF (hi:=(n:Int) - 2) (n:=n - 1 - f) (fun idx σ H'=>∃ (ls:List Addr) (e4:Option V),σ = [some #[Tz],some #[Qy],some (.int b),some (.int (0+(f:Int))),e4]/\zr H H'/\H' l=some #[BT]/\LsA H' ls (zK n wi (rst p b n c f idx))) ⟨ls,e4,rfl,s1.trans (zb hr),by rw [zm rl.symm]; exact tJ,qk.same (zb hr)⟩ ?_ ?_
   ·rintro idx σ H2 hi ⟨ls,e4,rfl,s2,Al,qk⟩;have pI:ls.length=n:=by rw [bM qk,zaK]
    obtain⟨HE,vh⟩:∃ b',ls[n - 2 - idx]? = some b':=⟨ls[n - 2 - idx]'#[O],#[M]⟩;obtain⟨HF,wK⟩:∃ b',ls[n - 2 - idx+1]? = some b':=⟨ls[n - 2 - idx+1]'#[O],#[M]⟩;obtain⟨v1,g1,h1⟩:=Paired.get qk vh;obtain⟨v2,g2,h2⟩:=Paired.get qk wK;rw [zav #[O]] at g1 g2;cases g1;cases g2;have at1:atI #[TF] ((n:Int) - 2 - (idx:Int))=some (.ref HE):=by
     have e:(n:Int) - 2 - (idx:Int)=((n - 2 - idx:Nat):Int):=by lia
     rw [e]; exact zay (by rw [aF,vh]; rfl)
    have at2:atI #[TF] ((n:Int) - 2 - (idx:Int)+1)=some (.ref HF):=by
     have e:(n:Int) - 2 - (idx:Int)+1=((n - 2 - idx+1:Nat):Int):=by lia
     rw [e]; exact zay (by rw [aF,wK]; rfl)
    refine (pz rfl (pz rfl (ex4 l _ _ _ ⟨rfl,rfl,pA.of Al,at1,(pz rfl (pz rfl (pF rfl rfl (ex4 l _ _ _ ⟨rfl,rfl,pA.of Al,at2,HE,HF,_,_,rfl,pA.of h1,pA.of h2,zew (n:=wi) (f:=fun x y=>(x+b*y) % p) h1 h2 #[M] #[M] (.inl #[M]) #[O] ?_ ?_⟩))))⟩)))
    ·intro j u w H6 T R B hu hv s6 hT hR;refine gY2 #[Ub] ?_;exact (pz rfl (pz rfl (pz rfl (pF rfl rfl ⟨.inl #[wS],(pF rfl rfl #[Ws])⟩))))
    ·intro D H6 s6 hD;rw [zlT];have Ga:=s6 _ _ Al;have dl:D≠l:=(zu Ga hD).symm;have hj:ixN #[TF].length ((n:Int) - 2 - (idx:Int))=some (n - 2 - idx):=by
      unfold ixN;rw [aA,pI,if_pos #[O],if_pos #[O]];congr 1;lia
     refine (pz rfl (pz rfl (ex4 l _ _ _ ⟨rfl,rfl,by rw [zm dl.symm]; exact Ga,hj,ls.set (n - 2 - idx) D,(pz rfl ⟨?_,?_,?_⟩)⟩)))
     ·exact zak ((s2.trans s6).trans (zb hD)) hl
     ·rw [zc,List.map_set]
     ·rw [zbj (g':=fun j i=>if j=n - 2 - idx then (rst p b n c f idx (n - 2 - idx) i+b*rst p b n c f idx (n - 2 - idx+1) i) % p else rst p b n c f idx j i) fun j i hj _=>znK hi hj,<- zlS];exact LsA.setAt (qk.same (s6.trans (zb hD))) (by rw [zm dl.symm]; exact Ga) zc dl
   ·rintro σ H2 ⟨ls,e4,rfl,s2,Al,qk⟩;rw [zbj (g':=rst p b n c (f+1) 0) fun j i hj _=>znJ hf hj] at qk;exact (ex3 ls _ _ ⟨rfl,s2,Al,qk⟩)
  ·rintro σ H1 ⟨ls,e3,e4,rfl,s1,tJ,qk⟩;have e1:(n:Int).toNat=n:=by lia
   rw [e1,zbj (g':=fun j i=>sh b n #[Qf] j % p) fun j i hj hi=>znI hj] at qk;exact (pz rfl (q l ls _ hl s1 tJ qk))
def tnd (rows:List #[At]) (w:Nat):List #[At]:=(bA w).map fun i=>rows.map fun r=>gl r i
theorem zoa (rows:List #[At]) (w:Nat):tnd rows (w+1)=tnd rows w++[rows.map fun r=>gl r w]:=by
 unfold tnd;rw [fE,aN];rfl
def zl8 (K:aD):Sp:=fun vs H Q _=>∃ (a:Addr) (bs:List Addr) (rows:List #[At]) (w:Nat),vs = [.ref a,.int (w:Int)]/\H a=some #[Rb]/\LsA H bs rows/\(∀ r∈rows,w<=r.length)/\rows.length<=1000/\w<=1000 /\
 ∀ (l:Addr) (ls:List Addr) (H':Hp),H l=none->zr H H'->H' l=some #[BT]->LsA H' ls (tnd rows w)->Q #[Qy] H'
theorem zl9:KE ["lines","width"] ["lines","width"] (zh zc4):=#[S]
theorem zma (T:Txt K mg t) (F:Fun K "turned" "turned" zc4 t.turned fd):Lf P w K mg base CX0 1 t.turned fd ["lines","width"] (zl8 K):=by
 refine F.ok zl9 #[sK] #[mt]
 ·obtain⟨a,bs,rows,wi,rfl,_⟩:=h;rfl
 ·obtain⟨a,bs,rows,wi,rfl,ha,hb,hw,hn,hwn,q⟩:=h;refine zaz ?_; intro zX;refine⟨_,#[zl,#[zB,#[zO,(K7.of (N':=["at","lines"]) (ix:=[none,some 0]) (zh zc4) _ rfl rfl rfl),#[zam],#[zae,T.La,#[P4]],(fun _ _ _ _=>#[zg,0,#[Y],#[RD]]),#[ut],(fun _ _ _ _=>#[zO,(K7.of (N':=["line","at"]) (ix:=[none,some 0]) ({ kind:=.function,names:=[(".0",.local),("at",.cell),("lines",.cell)],isGenerator:=false,isCoroutine:=false }) _ (by with_unfolding_all rfl) rfl rfl),#[zam],#[ziU,(K),#[Db]],#[wn],#[ut],(fun _ _ _ _=>#[zU,#[TB],#[AT],#[Db]])])]]],?_⟩;have qP:=bO;have pI:=bM hb;refine (pz rfl ⟨(wi:Int),rfl,#[O],#[O],zW (n:=wi) (fun m ys H'=>zr H H'/\∃ ls:List Addr,ys=ls.map V.ref/\LsA H' ls (tnd rows m)) ⟨fun _ _ e=>e,[],rfl,.nil⟩ (fun m ys H' hm _=>by show m < (wi:Int).toNat; lia) (fun ys H' _=>by show (wi:Int).toNat<=wi; lia) ?_ ?_⟩)
  ·rintro zS zT zE i x ys H1 H2 hi ⟨s1,ls,rfl,qk⟩ ⟨rfl,rfl⟩;have hz:ls.length=i:=by rw [bM qk]; unfold tnd; rw [aA,bI]
   have h1a:=s1 _ _ ha;have h1b:=hb.same s1;refine (pz rfl ⟨a,rfl,⟨_,pA.of h1a⟩,zbi (fs:=(rows.map fun r:List Int=>gl r i).map V.int) (pA.of h1a) (by simp [pI]) (by simp; lia) (fun j x y R B hx hy hR=>?_) #[VZ]⟩)
   ·obtain⟨b,rfl,xb⟩:=zQ hx;obtain⟨r,hr,yx⟩:=Paired.get h1b xb;rw [aF,aF,hr] at hy;have hy:V.int (gl r i)=y:=by simpa using hy
    subst hy;have hwr:=hw r (aU hr);have qY:atI #[Wk] (0+(i:Int))=some (.int (gl r i)):=by
     rw [eK];refine zay ?_;rw [aF,aJ #[O],zbX (aJ #[O])];rfl
    exact (pz rfl (pz rfl (ex4 b _ _ _ ⟨rfl,rfl,pA.of yx,qY,hR⟩)))
   ·refine⟨by rw [aA]; lia,s1.trans (zb hD),ls++[D],#[M],?_⟩;rw [zoa];exact cY #[WI] zc
  ·rintro ys H1 D ⟨s1,ls,rfl,qk⟩ hD;exact q D ls _ (s1.free hD) #[Sw] zc #[WI]
theorem zrm {bs:List Addr} (h:zaN H bs rows):RwA H bs rows:=eZ (fun _ _ z=>.inr z) h
def zmb (p:Int) (w:Nat) (r:List Int):List Int:=r.map (· % p)++aQ (w - r.length) 0
theorem zpB {p:Int} {w:Nat} {r:List Int} (h:r.length<=w):zmb p w r=(bA w).map fun i=>gl r i % p:=by
 unfold zmb;refine fM fun i=>?_
 by_cases h1:i < r.length
 ·rw [dA (by rw [aA]; exact h1),aF,aF,cH #[O],aJ h1];show some (r[i] % p)=some (gl r i % p);rw [zbX (aJ h1)]
 ·rw [cS (by rw [aA]; lia),aA,aF];by_cases h2:i < w
  ·rw [cH h2,fO,if_pos #[O]];show some (0:Int)=some (gl r i % p);have:gl r i=0:=by unfold gl; rw [iP,dG.mpr #[O]]; rfl
   rw [this,Int.zero_emod]
  ·rw [dG.mpr (by rw [bW]; lia),dG.mpr (by rw [bI]; lia)];rfl
theorem zob {p:Int} {w:Nat} (h:∀ r∈rows,r.length<=w):rows.map (zmb p w)=zK rows.length w fun j i=>gl (rows.getD j []) i % p:=by
 refine fM fun j=>?_
 by_cases hj:j < rows.length
 ·rw [zav hj,aF,aJ hj];show some (zmb p w rows[j])=_;rw [zpB (h _ (fV hj))];have:rows.getD j []=rows[j]:=by simp [iP,hj]
  rw [this]
 ·rw [dG.mpr (by rw [aA]; lia),dG.mpr (by rw [zaK]; lia)]
def zmc (K:aD):Sp:=fun vs H Q _=>∃ (p:Int) (a:Addr) (bs:List Addr) (rows:List #[At]),vs = [.int p,.ref a]/\5<=p/\p<=97/\H a=some #[Ud]/\zaN H bs rows/\rows.length<=100/\(∀ r∈rows,r.length<=100) /\
 ∀ (l:Addr) (ls:List Addr) (H':Hp),H l=none->zr H H'->H' l=some #[BT]->LsA H' ls (zK rows.length #[Sy] fun j i=>gl (rows.getD j []) i % p)->Q #[Qy] H'
theorem zg3:KE ["p","curve","width"] ["p","curve"] (zh zc3):=#[S]
theorem zg4 (T:Txt K mg t) (F:Fun K "filled" "filled" zc3 t.filled fd):Lf P w K mg base CX0 2 t.filled fd ["p","curve"] (zmc K):=by
 obtain⟨vX,qv,rT⟩:=T.LZ;have rV:=zeQ (P:=P) (w:=w) (base:=base) T qv;refine F.ok zg3 #[sK] #[mt]
 ·obtain⟨p,a,bs,rows,rfl,_⟩:=h;rfl
 ·obtain⟨p,a,bs,rows,rfl,p5,xf,ha,hb,hn,hw,q⟩:=h;refine zaz ?_; intro zX;refine⟨_,#[ze,#[zn,2,zg3.nd,#[RD],#[zp,rV,#[v6],T.Nb,qv.kp,rT,#[zM],#[P4]]],#[zl,#[zB,#[zO,(K7.of (N':=["line","p","width"]) (ix:=[none,some 0,some 2]) (zh zc3) _ rfl rfl rfl),#[zam],(@zmp _ _ _ _ #[Db]),#[wn],#[ut],(fun _ _ _ _=>#[zj,#[zbK],#[zO,(K7.of (N':=["number","p"]) (ix:=[none,some 1]) ({ kind:=.function,names:=[(".0",.local),("line",.local),("len",.globalImplicit),("p",.cell),("width",.cell)],isGenerator:=false,isCoroutine:=false }) _ (by with_unfolding_all rfl) rfl rfl),#[zam],(@zo9 _ (K) _ _ _ rfl #[AT]),#[wn],#[ut],(fun _ _ _ _=>#[zj,#[zL],#[AT],#[Db]])],#[zj,#[zdF],#[Qw],#[zj,#[zaF],#[Id],#[zq,#[zaU,(K)],T.MR,dS,#[QQ]]]]])]]]],?_⟩;refine zgj ?_; intro rh;have qP:=bO;have pI:=bM hb;have wdl:wd rows<=100:=by
   by_cases e:rows = []
   ·subst e; exact cB _
   ·obtain⟨r,hr,er⟩:=zeD e;rw [<- er]; exact hw r hr
  refine (pz rfl (ex3 a bs rows ⟨rfl,.inr (pK.of ha),zrm hb,#[O],fun H1 s1=>?_⟩));refine (pz rfl ⟨a,rfl,⟨_,pK.of #[RZ]⟩,zW (n:=rows.length) (fun m ys H'=>zr H H'/\∃ ls:List Addr,ys=ls.map V.ref/\LsA H' ls ((rows.take m).map (zmb p #[Sy]))) ⟨s1,[],rfl,.nil⟩ ?_ ?_ ?_ ?_⟩)
  ·rintro m ys H2 hm ⟨s2,_⟩;exact⟨_,.ref (bs[m]'#[O]),pK.of (s2 _ _ ha),by rw [aF,aJ #[O]]; rfl⟩
  ·rintro ys H2 ⟨s2,_⟩;exact⟨_,pK.of (s2 _ _ ha),by rw [aA]; lia⟩
  ·rintro zS zT zE m x ys H2 H3 hm ⟨s2,ls,rfl,qk⟩ ⟨rfl,hx⟩;obtain⟨b,rfl,yu⟩:=zQ (hx _ (pK.of (s2 _ _ ha)));obtain⟨r,hr,yx⟩:=Paired.get hb yu;have yz:=s2 _ _ yx;have rL:=hw r (aU hr);have wM:=zfX (aU hr);refine gY ?_;refine (pz rfl ⟨b,rfl,⟨_,pK.of yz⟩,zgQ (fs:=(r.map (· % p)).map V.int) (pK.of yz) #[M] (by rw [aA]; lia) #[NE] #[VZ]⟩)
   ·obtain⟨c,rfl,hc⟩:=zaC hx;rw [aF,aF,hc] at hy;have hy:V.int (c % p)=y:=by simpa using hy
    subst hy;refine gY ?_;exact (pz rfl #[Ws])
   ·have sD:=zb (o:=.lst ((r.map (· % p)).map V.int)) hD;refine⟨szq,fun Z hZ=>?_⟩;have sZ:=zb (o:=.lst [V.int 0]) hZ;refine (pz rfl (pz rfl ⟨b,(pz rfl ⟨.inr (pK.of ((sD.trans sZ) _ _ yz)),#[P3]⟩)⟩));have el:#[Wk].length=r.length:=aA ..;rw [el];have ek:((wd rows:Int) - (r.length:Int)).toNat=wd rows - r.length:=by lia
    refine (ex3 Z _ _ ⟨rfl,rfl,zc,#[O],#[O],by rw [ek]; show 1*#[Ul]<=sizeLine; lia,fun Y hY=>?_⟩);rw [ek,gF];have sY:=zb (o:=.lst (aQ #[Ul] #[Vh])) hY;refine (ex4 D Y _ _ ⟨rfl,rfl,(sZ.trans sY) _ _ zc,zc,by rw [aA,aA,bW]; lia,fun W hW=>?_⟩);have sW:=((sD.trans sZ).trans sY).trans (zb (o:=.lst ((r.map (· % p)).map V.int++aQ #[Ul] #[Vh])) hW);have wY:ls.length=m:=by rw [bM qk,aA,bD]; lia
    refine⟨by rw [aA]; lia,s2.trans sW,ls++[W],by rw [aN]; rfl,?_⟩;rw [take_snoc hr,aN];refine cY (qk.same sW) ?_;rw [zc];unfold zmb;rw [aN,iO]
  ·rintro ys H2 D ⟨s2,ls,rfl,qk⟩ hD;rw [bC (aG _),zob fun r hr=>zfX hr] at qk;exact q D ls _ (s2.free hD) (s2.trans (zb hD)) zc #[WI]
theorem zjb {es:List Expr} {p:Pos} {a:Expr} {ta:TA} (hg:Gl X "enumerate") (hm:X.mg "enumerate" = none) (ha:PA X [a] ta) (hs:starEach [a] X.env = [#[GM]]:=by rfl) :
  PI X #[QM] (.Call (.Name "enumerate" p) [a] [] pos) (fun σ H R=>iEn #[Vg] ta σ H R\/iEn #[Wx] ta σ H R):=fun pv s σ H R I h=>h.elim (zfw hg hm ha hs pv s σ H R I) (zmG hg hm ha hs pv s σ H R I)
theorem zmd {es:List Expr} {p:Pos} {a:Expr} {ta:TA} (hK:X.K=K) (hg:Gl X "enumerate") (hm:X.mg "enumerate" = none) (ha:PA X [a] ta) (hs:starEach [a] X.env = [#[GM]]:=by rfl) :
  PI X #[QM] (.Call (.Name "enumerate" p) [a] [] pos) (fun σ H R=>iEn (pA K) ta σ H R\/iEn (pK K) ta σ H R):=by subst hK; exact zjb hg hm ha hs
theorem zep {rows:List #[At]} (h:∀ r∈rows,r.length<=100):∀ m,(zat rows m).length<=100*m
 | 0=>by simp [zat]
 | m+1=>by
  have ih:=zep h m;have hl:(rows.getD m []).length<=100:=by
   cases e:rows[m]? with
   | none=>simp [iP,e]
   | some r=>simp only [iP,e,jk]; exact h r (aU e)
  have h2:=zfh m (rows.getD m []) (rows.getD m []).length;rw [zdi,aL];lia
theorem zeE {rows:List #[At]} (h:∀ r∈rows,r.length<=1000):∀ m,(zat rows m).length<=1000*m
 | 0=>by simp [zat]
 | m+1=>by
  have ih:=zeE h m;have hl:(rows.getD m []).length<=1000:=by
   cases e:rows[m]? with
   | none=>simp [iP,e]
   | some r=>simp only [iP,e,jk]; exact h r (aU e)
  have h2:=zfh m (rows.getD m []) (rows.getD m []).length;rw [zdi,aL];lia
def zhP (K:aD):Sp:=fun vs H Q _=>∃ (a:Addr) (bs:List Addr) (rows:List #[At]),vs = [.ref a]/\H a=some #[Ud]/\zaN H bs rows/\rows.length<=100/\(∀ r∈rows,r.length<=100) /\
 ∀ (l:Addr) (ts:List Addr) (H':Hp),H l=none->zr H H'->H' l=some #[Us]->PtB H' ts #[On]->Q #[Qy] H'
def zhQ (K:aD):Sp:=fun vs H Q _=>∃ (a:Addr) (bs:List Addr) (rows:List #[At]),vs = [.ref a]/\H a=some #[Rb]/\LsA H bs rows/\rows.length<=100/\(∀ r∈rows,r.length<=1000) /\
 ∀ (l:Addr) (ts:List Addr) (H':Hp),H l=none->zr H H'->H' l=some #[Us]->PtB H' ts #[On]->Q #[Qy] H'
def zjc (K:aD):Sp:=fun vs H Q E=>zhP K vs H Q E\/zhQ K vs H Q E
theorem zjd:KE ["curve"] ["curve"] (zh zbZ):=#[S]
theorem zb5 (T:Txt K mg t) (F:Fun K "terms_of" "terms_of" zbZ t.Mz fd):Lf P w K mg base CX0 1 t.Mz fd ["curve"] (zjc K):=by
 refine F.ok zjd #[sK] #[mt]
 ·rcases h with ⟨a,bs,rows,rfl,_⟩ | ⟨a,bs,rows,rfl,_⟩ <;> rfl
 ·skip
  refine zaz ?_; intro zX;refine⟨_,#[zl,#[zB,#[zkF,(K7.of (N':=["j","line","i","number"]) (ix:=[none,none,none,none]) (zh zbZ) _ rfl rfl rfl),(zfv (js:=[0,1]) (zbm (js:=[0,1]) (i:=0) #[D] (zbm (js:=[0,1]) (i:=1) #[D] (zdV (js:=[0,1]))))),(zfv (js:=[2,3]) (zbm (js:=[2,3]) (i:=2) #[D] (zbm (js:=[2,3]) (i:=3) #[D] (zdV (js:=[2,3]))))),(zjb rfl T.LA #[QQ]),#[or],#[ut],(fun _ _ _ _=>(zmd (K:=K) rfl rfl T.LA #[P4])),(fun _ _ _ _=>#[zaf,(K),2,#[zi,#[Tv],#[zi,#[zg,3,#[Y],#[A]],#[zF]]]]),(fun _ _ _ _=>#[zbD,#[zZ,#[zh4],#[P7],#[zf],(zad _)]]),(fun _ _ _ _=>#[zai,#[za,#[Id],#[QQ]]]),(by intros; rfl)]]],?_⟩;rcases h with ⟨a,bs,rows,rfl,ha,hb,hn,hw,q⟩ | ⟨a,bs,rows,rfl,ha,hb,hn,hw,q⟩
  ·skip
   have qP:=bO;have pI:=bM hb;refine .inr (pz rfl ⟨a,(pz rfl ⟨pK.of ha,zdx (n:=rows.length) (fun m ys H'=>∃ us:List Addr,ys=us.map V.ref/\zr H H'/\PtB H' us (zat rows m)) ⟨[],rfl,fun _ _ e=>e,.nil⟩ ?_ ?_ ?_ ?_⟩)⟩)
   ·rintro m ys H1 hm ⟨us,rfl,s1,pO⟩;exact⟨_,.ref (bs[m]'#[O]),pK.of #[RZ],by rw [aF,aJ #[O]]; rfl⟩
   ·rintro ys H1 ⟨us,rfl,s1,pO⟩;exact⟨_,pK.of #[RZ],by rw [aA]; lia⟩
   ·rintro m y ys H1 H2 hm ⟨us,rfl,s1,pO⟩ ⟨T,v,hT,rfl,rfl,hv⟩;obtain⟨b,rfl,yu⟩:=zQ (hv _ (pK.of #[RZ]));obtain⟨r,hr,yx⟩:=Paired.get hb yu;have rL:=hw r (aU hr);have er:rows.getD m []=r:=by simp [iP,hr]
    refine gY2 #[Ub] ?_;have sT:=s1.trans (zb (o:=.tup [.int m,.ref b]) hT);have Gj:=pO.same (zb (o:=.tup [.int m,.ref b]) hT);generalize pB H1 T (.tup [.int m,.ref b])=H2 at sT Gj |-;have yz:=sT _ _ yx;refine .inr (pz rfl ⟨b,(pz rfl ⟨pK.of yz,zdx (n:=r.length) (fun j ys H'=>∃ us:List Addr,ys=us.map V.ref/\zr H2 H'/\PtB H' us #[R9]) ⟨us,rfl,fun _ _ e=>e,by simpa [trm] using Gj⟩ ?_ ?_ ?_ ?_⟩)⟩)
    ·rintro j ys H3 hj ⟨us,rfl,s3,_⟩;exact⟨_,.int (r[j]'hj),pK.of #[U1],by rw [aF,aJ hj]; rfl⟩
    ·rintro ys H3 ⟨us,rfl,s3,_⟩;exact⟨_,pK.of #[U1],by rw [aA]; lia⟩
    ·rintro j z ys H3 H4 hj ⟨us,rfl,s3,vq⟩ ⟨T',v',CK,rfl,rfl,CG⟩;obtain⟨x,rfl,hx⟩:=zaC (CG _ (pK.of #[U1]));have Gk:gl r j=x:=zbX hx;have DL:=s3.trans (zb (o:=.tup [.int j,.int x]) CK);have DM:=vq.same (zb (o:=.tup [.int j,.int x]) CK);have tL:us.length=#[R9].length:=bM vq;have l1:=zep hw m;have l2:=zfh m r j;rw [aL] at tL;refine#[WO];generalize pB H3 T' (.tup [.int j,.int x])=H4 at DL DM |-;refine #[Qz];refine#[VG];refine za6 (fun xi=>?_) (fun xi=>?_)
     ·have xi:x≠0:=by simpa using xi
      refine (pz rfl (pz rfl ⟨szq,fun D hD=>⟨by rw [aA]; lia,us++[D],by rw [aN]; rfl,DL.trans (zb hD),?_⟩⟩));rw [zed,if_pos (by rw [Gk]; exact xi),<- cK];exact cY (DM.same (zb hD)) zc
     ·have xi:x=0:=by simpa using xi
      refine⟨us,rfl,DL,?_⟩;rw [zed,if_neg (by rw [Gk,xi]; simp)];exact DM
    ·rintro ys H3 ⟨us,rfl,s3,vq⟩;refine⟨us,rfl,sT.trans s3,?_⟩;rw [zdi,er];exact vq
   ·rintro ys H1 ⟨us,rfl,s1,pO⟩ D hD;exact q D us _ (s1.free hD) #[Sw] zc #[QU]
  ·skip
   have qP:=bO;have pI:=bM hb;refine .inl (pz rfl ⟨a,(pz rfl ⟨pA.of ha,zdx (n:=rows.length) (fun m ys H'=>∃ us:List Addr,ys=us.map V.ref/\zr H H'/\PtB H' us (zat rows m)) ⟨[],rfl,fun _ _ e=>e,.nil⟩ ?_ ?_ ?_ ?_⟩)⟩)
   ·rintro m ys H1 hm ⟨us,rfl,s1,pO⟩;exact⟨_,.ref (bs[m]'#[O]),pA.of #[RZ],by rw [aF,aJ #[O]]; rfl⟩
   ·rintro ys H1 ⟨us,rfl,s1,pO⟩;exact⟨_,pA.of #[RZ],by rw [aA]; lia⟩
   ·rintro m y ys H1 H2 hm ⟨us,rfl,s1,pO⟩ ⟨T,v,hT,rfl,rfl,hv⟩;obtain⟨b,rfl,yu⟩:=zQ (hv _ (pA.of #[RZ]));obtain⟨r,hr,yx⟩:=Paired.get hb yu;have rL:=hw r (aU hr);have er:rows.getD m []=r:=by simp [iP,hr]
    refine gY2 #[Ub] ?_;have sT:=s1.trans (zb (o:=.tup [.int m,.ref b]) hT);have Gj:=pO.same (zb (o:=.tup [.int m,.ref b]) hT);generalize pB H1 T (.tup [.int m,.ref b])=H2 at sT Gj |-;have yz:=sT _ _ yx;refine .inl (pz rfl ⟨b,(pz rfl ⟨pA.of yz,zdx (n:=r.length) (fun j ys H'=>∃ us:List Addr,ys=us.map V.ref/\zr H2 H'/\PtB H' us #[R9]) ⟨us,rfl,fun _ _ e=>e,by simpa [trm] using Gj⟩ ?_ ?_ ?_ ?_⟩)⟩)
    ·rintro j ys H3 hj ⟨us,rfl,s3,_⟩;exact⟨_,.int (r[j]'hj),pA.of #[U1],by rw [aF,aJ hj]; rfl⟩
    ·rintro ys H3 ⟨us,rfl,s3,_⟩;exact⟨_,pA.of #[U1],by rw [aA]; lia⟩
    ·rintro j z ys H3 H4 hj ⟨us,rfl,s3,vq⟩ ⟨T',v',CK,rfl,rfl,CG⟩;obtain⟨x,rfl,hx⟩:=zaC (CG _ (pA.of #[U1]));have Gk:gl r j=x:=zbX hx;have DL:=s3.trans (zb (o:=.tup [.int j,.int x]) CK);have DM:=vq.same (zb (o:=.tup [.int j,.int x]) CK);have tL:us.length=#[R9].length:=bM vq;have l1:=zeE hw m;have l2:=zfh m r j;rw [aL] at tL;refine#[WO];generalize pB H3 T' (.tup [.int j,.int x])=H4 at DL DM |-;refine #[Qz];refine#[VG];refine za6 (fun xi=>?_) (fun xi=>?_)
     ·have xi:x≠0:=by simpa using xi
      refine (pz rfl (pz rfl ⟨szq,fun D hD=>⟨by rw [aA]; lia,us++[D],by rw [aN]; rfl,DL.trans (zb hD),?_⟩⟩));rw [zed,if_pos (by rw [Gk]; exact xi),<- cK];exact cY (DM.same (zb hD)) zc
     ·have xi:x=0:=by simpa using xi
      refine⟨us,rfl,DL,?_⟩;rw [zed,if_neg (by rw [Gk,xi]; simp)];exact DM
    ·rintro ys H3 ⟨us,rfl,s3,vq⟩;refine⟨us,rfl,sT.trans s3,?_⟩;rw [zdi,er];exact vq
   ·rintro ys H1 ⟨us,rfl,s1,pO⟩ D hD;exact q D us _ (s1.free hD) #[Sw] zc #[QU]
def zjX (K:aD):Sp:=fun vs H Q _=>∃ (k:Int) (a:Addr) (bs:List Addr) (rows:List #[At]),vs = [.int k,.ref a]/\0<=k/\k<=1000/\H a=some #[Ud]/\zaN H bs rows/\rows.length<=100/\(∀ r∈rows,r.length<=100) /\
 ∀ (M:Int) (H':Hp),zr H H'->(szs k #[On] = []->M=0)->(szs k #[On]≠[]->M∈szs k #[On]/\∀ x∈szs k #[On],x<=M)->Q (.int M) H'
theorem zjY:KE ["k","curve"] ["k","curve"] (zh zco):=#[S]
theorem zjZ (T:Txt K mg t) (F:Fun K "size_of" "size_of" zco t.size_of fd):Lf P w K mg base CX0 2 t.size_of fd ["k","curve"] (zjX K):=by
 obtain⟨rC,pQ,p8⟩:=T.Lk;have p9:=zb5 (P:=P) (w:=w) (base:=base) T pQ;refine F.ok zjY #[sK] #[mt]
 ·obtain⟨k,a,bs,rows,rfl,_⟩:=h;rfl
 ·obtain⟨k,a,bs,rows,rfl,k0,k1,ha,hb,hn,hw,q⟩:=h;refine zaz ?_; intro zX;refine⟨_,#[zl,#[zB,#[zjM,true,mI,T.Pf,#[zf],#[zO,(K7.of (N':=["i","j","k"]) (ix:=[none,none,some 0]) (zh zco) _ rfl rfl rfl),#[wP],#[z0,#[zp,p9,#[v6],T.LY,pQ.kp,p8,#[zM],#[P4]]],#[or],#[ut],#[Wd]]]]],?_⟩;have qP:=bO;refine (pz rfl (.inl (ex3 a bs rows ⟨rfl,ha,hb,hn,hw,fun l ts H1 hl s1 tJ tj=>?_⟩)));have pI:=bM tj;have rX:=zep hw rows.length;refine⟨l,rfl,⟨_,pA.of tJ⟩,zbi (fs:=(szs k #[On]).map V.int) (pA.of tJ) (by rw [aA,aA,zpl,pI]) (by rw [aA]; lia) #[NE] #[VZ]⟩
  ·obtain⟨b,rfl,xb⟩:=zQ hx;obtain⟨⟨u,v⟩,hq,hT⟩:=Paired.get tj xb;unfold szs at hy;rw [aF,aF,hq] at hy;have hy:V.int (u+(k - 1)*v)=y:=by simpa using hy
   subst hy;refine gY2 (pK.of hT) ?_;exact (pz rfl (pz rfl (pF rfl rfl (pz rfl (pF rfl rfl ⟨.inl #[wS],(pF rfl rfl hR)⟩)))))
  ·exact⟨D,(pz rfl ⟨pA.of zc,fun M h0 h1=>q M _ #[Sw] h0 fun p7=>⟨(h1 p7).1,fun x hx=>by have:=(h1 p7).2 x hx; rwa [if_pos rfl] at this⟩⟩)⟩
theorem zje {n w:Nat} {g:Nat->Nat->Int}:tnd #[TC] w=zK w n fun i j=>g j i:=by
 unfold tnd zK;refine dD fun i hi=>?_
 rw [cR];refine dD fun j hj=>?_
 show gl ((bA w).map fun i=>g j i) i=g j i;exact zbX (by rw [aF,cH (bU.mp hi)]; rfl)
theorem zcM {n w:Nat} {g:Nat->Nat->Int}:∀ r∈zK n w g,r.length=w:=fun r hr=>by
 unfold zK at hr;obtain⟨j,_,rfl⟩:=aZ.mp hr;rw [aA,bI]
theorem zpC {n w:Nat} {g:Nat->Nat->Int} (h:n=0->w=0):wd #[TC]=w:=by
 by_cases e:zK n w g = []
 ·have:n=0:=by rw [<- zaK n w g,e]; rfl
  rw [e,h this]; rfl
 ·obtain⟨r,hr,er⟩:=zeD e;rw [<- er,zcM r hr]
def cu (rows:List #[At]) (j i:Nat):Int:=gl (rows.getD j []) i
theorem zrn {p x y:Int} {n w:Nat} {c:Nat->Nat->Int} {i:Nat}:sh x w (fun s=>sh y n (fun t=>c t s % p) j % p) i % p=mv x y n w c j i % p:=by
 refine Cg.mod_eq (zdA #[Wp] fun s _=>#[Qv].trans (zdA (Cg.refl p y) fun t _=>Cg.emod p _))
def mvd (p x y:Int) (rows:List #[At]):List #[At]:=zK rows.length #[Sy] fun j i=>mv x y rows.length #[Sy] (cu rows) j i % p
theorem zoc {m:Nat} (h:∀ r∈rows,r.length<=m):wd rows<=m:=by
 by_cases e:rows = []
 ·subst e; exact cB _
 ·obtain⟨r,hr,er⟩:=zeD e;rw [<- er]; exact h r hr
theorem zro {bs:List Addr} (h:LsA H bs rows):RwA H bs rows:=eZ (fun _ _ z=>.inl z) h
noncomputable def zod (K:aD):Sp:=fun vs H Q _=>∃ (p:Int) (a pt:Addr) (x y:Int) (bs:List Addr) (rows:List #[At]),vs = [.int p,.ref a,.ref pt]/\5<=p/\p<=97/\0<=x/\x < p/\0<=y/\y < p/\H a=some #[Ud]/\zaN H bs rows/\H pt=some (.tup [.int x,.int y])/\rows.length<=100/\(∀ r∈rows,r.length<=100) /\
 ∀ (l:Addr) (ls:List Addr) (H':Hp),H l=none->zr H H'->H' l=some #[Qe]->zaN H' ls #[FM]->Q #[Qy] H'
theorem zc8:KE ["p","curve","point","a","b","lines","columns"] ["p","curve","point"] (zh zei):=#[S]
theorem zoe (T:Txt K mg t) (F:Fun K "moved" "moved" zei t.moved fd):Lf P w K mg base CX0 3 t.moved fd ["p","curve","point"] (zod K):=by
 obtain⟨yA,qL,sj⟩:=T.ME;have sk:=zg2 (P:=P) (w:=w) (base:=base) T qL;obtain⟨yB,rD,t6⟩:=T.MF;have ua:=zg4 (P:=P) (w:=w) (base:=base) T rD;obtain⟨EK,ub,vY⟩:=T.Nz;have vZ:=zma (P:=P) (w:=w) (base:=base) T ub;obtain⟨vX,qv,rT⟩:=T.LZ;have rV:=zeQ (P:=P) (w:=w) (base:=base) T qv;refine F.ok zc8 #[sK] #[mt]
 ·obtain⟨p,a,pt,x,y,bs,rows,rfl,_⟩:=h;rfl
 ·obtain⟨p,a,pt,x,y,bs,rows,rfl,p5,xf,x0,x1,y0,y1,ha,hb,tj,hn,hw,q⟩:=h;refine zaz ?_; intro zX;refine⟨_,#[ze,#[za5,#[Id],#[zaW,#[zi,#[zg,3,zc8.nd,#[A]],#[zi,#[zg,4,zc8.nd,#[A]],#[zF]]]]],#[ze,#[zn,5,zc8.nd,#[A],#[zp,sk,#[v6],T.Nm,qL.kp,sj,#[zM],#[za,#[AT],#[za,#[zp,ua,#[v6],T.Ob,rD.kp,t6,#[zM],#[Vc]],#[Tj]]]]],#[ze,#[zn,6,zc8.nd,#[A],#[zp,sk,#[v6],T.Nm,qL.kp,sj,#[zM],#[za,#[AT],#[za,#[zp,vZ,#[v6],T.Oa,ub.kp,vY,#[zM],#[za,#[TY],#[ya,#[zp,rV,#[v6],T.Nb,qv.kp,rT,#[zM],#[QH]]]]],#[Su]]]]],#[zl,#[zB,#[zao,#[zaT],T.MM,iW,#[ya,#[zO,(K7.of (N':=["line"]) (ix:=[none]) (zh zei) _ rfl rfl rfl),#[zam],#[z0,#[zp,vZ,#[v6],T.Oa,ub.kp,vY,#[zM],#[za,#[SD],#[ya,#[UT]]]]],#[wn],#[ut],(fun _ _ _ _=>#[zao,(zc1 (K:=K) rfl),T.MM,iW,#[QQ]])]]]]]]]],?_⟩;refine zg9 ?_; intro vT sG rh;have qP:=bO;have wdl:=zoc hw;have er:∀ z:Int,0<=z % p/\z % p < p:=fun z=>⟨bL _ #[O],bE _ #[O]⟩
  refine⟨_,rfl,pt,_,rfl,pK.of tj,rfl,_,_,rfl,_,_,rfl,rfl,?_⟩;refine (pz rfl (pz rfl (pz rfl (ex4 p a bs rows ⟨rfl,p5,xf,ha,hb,hn,hw,fun l1 ls1 H1 wF s1 h1 g1=>?_⟩))));refine (pz rfl (ex7 p y l1 ls1 rows.length #[Sy] _ ⟨rfl,h1,g1,#[O],#[O],p5,xf,y0,y1,fun j i _ _=>er _,fun l2 HB H2 rX s2 h2 g2=>?_⟩));have wz:rows.length=0->wd rows=0:=fun e=>by rw [gI.mp e]; rfl
  refine (pz rfl (pz rfl (pz rfl (ex3 l2 HB _ ⟨rfl,.inl (pA.of h2),zro g2,by rw [zaK]; lia,fun H3 s3=>?_⟩))));rw [zpC wz];refine (ex4 l2 HB _ #[Sy] ⟨rfl,s3 _ _ h2,g2.same s3,fun r hr=>by rw [zcM r hr]; exact aG _,by rw [zaK]; lia,#[O],fun l4 ls4 H4 hl4 s4 h4 g4=>?_⟩);rw [zje] at g4;refine (pz rfl (ex7 p x l4 ls4 #[Sy] rows.length _ ⟨rfl,h4,g4,#[O],#[O],p5,xf,x0,x1,fun j i _ _=>er _,fun l5 ls5 H5 Kl s5 h5 g5=>?_⟩));have EL:=(s3.trans s4).trans s5;have e2:((HB.map V.ref).length:Int)=(rows.length:Int):=by rw [aA,bM g2,zaK]
  refine (pz rfl (pz rfl ⟨l2,(pz rfl ⟨.inl (pA.of (EL _ _ h2)),?_⟩)⟩));rw [e2];refine (ex4 l5 ls5 _ rows.length ⟨rfl,h5,g5,fun r hr=>by rw [zcM r hr]; exact aG _,by rw [zaK]; lia,#[O],fun l6 ls6 H6 Hq s6 h6 g6=>?_⟩);have eg:tnd (zK #[Sy] rows.length fun j i=>sh x #[Sy] (fun t=>sh y rows.length (fun t_1=>gl (rows.getD t_1 []) t % p) i % p) j % p) rows.length=mvd p x y rows:=by
   rw [zje];exact zbj fun j i _ _=>zrn
  rw [eg] at g6;have eml:#[FM].length=rows.length:=zaK _ _ _;have pI:=bM g6;refine⟨l6,rfl,⟨_,pA.of h6⟩,zW (n:=rows.length) (fun m ys H'=>zr H6 H'/\∃ us:List Addr,ys=us.map V.ref/\zaN H' us (#[FM].take m)) ⟨fun _ _ e=>e,[],rfl,.nil⟩ ?_ ?_ ?_ ?_⟩
  ·rintro m ys H7 hm ⟨s7,_⟩;exact⟨_,.ref (ls6[m]'#[O]),pA.of #[U0],by rw [aF,aJ #[O]]; rfl⟩
  ·rintro ys H7 ⟨s7,_⟩;exact⟨_,pA.of #[U0],by rw [aA]; lia⟩
  ·rintro zS zT zE m z ys H7 H8 hm ⟨s7,us,rfl,pO⟩ ⟨rfl,hx⟩;obtain⟨b,rfl,yu⟩:=zQ (hx _ (pA.of #[U0]));obtain⟨r,hr,yx⟩:=Paired.get g6 yu;have hz:us.length=m:=by rw [bM pO,bD]; lia
   refine gY ?_;refine (pz rfl ⟨b,(pz rfl (.inl ⟨pA.of (s7 _ _ yx),fun D hD=>⟨by rw [aA]; lia,s7.trans (zb hD),us++[D],#[M],?_⟩⟩))⟩);rw [take_snoc hr];exact cY #[QU] zc
  ·rintro ys H7 D ⟨s7,us,rfl,pO⟩ hD;rw [bC #[O]] at pO;refine⟨D,#[Ua]⟩;have sf:=((((#[Wj].trans EL).trans s6).trans s7).trans (zb (o:=.lst #[Rc]) hD));exact q l us _ (sf.free hl) (sf.trans (zb hl)) zc (#[QU].same (zb hl))
def wts (ts:List (Int×Int)):List Int:=ts.map fun q=>q.1+q.2
theorem zpD (ts:List (Int×Int)):(wts ts).length=ts.length:=by simp [wts]
noncomputable def zhR (K:aD):Sp:=fun vs H Q _=>∃ (p:Int) (a pt:Addr) (x y:Int) (bs:List Addr) (rows:List #[At]),vs = [.int p,.ref a,.ref pt]/\5<=p/\p<=97/\0<=x/\x < p/\0<=y/\y < p/\H a=some #[Ud]/\zaN H bs rows/\H pt=some (.tup [.int x,.int y])/\rows.length<=100/\(∀ r∈rows,r.length<=100) /\
 ∀ (M:Int) (H':Hp),zr H H'->(wts #[QG] = []->M=0)->(wts #[QG]≠[]->M∈wts #[QG]/\∀ z∈wts #[QG],M<=z)->Q (.int M) H'
theorem zhS:KE ["p","curve","point"] ["p","curve","point"] (zh zbH):=#[S]
theorem zhT (T:Txt K mg t) (F:Fun K "weight_at" "weight_at" zbH t.Me fd):Lf P w K mg base CX0 4 t.Me fd ["p","curve","point"] (zhR K):=by
 obtain⟨rC,pQ,p8⟩:=T.Lk;have p9:=zb5 (P:=P) (w:=w) (base:=base) T pQ;obtain⟨Gm,xO,B5⟩:=T.NY;have B6:=zoe (P:=P) (w:=w) (base:=base) T xO;refine F.ok zhS #[sK] #[mt]
 ·obtain⟨p,a,pt,x,y,bs,rows,rfl,_⟩:=h;rfl
 ·obtain⟨p,a,pt,x,y,bs,rows,rfl,p5,xf,x0,x1,y0,y1,ha,hb,tj,hn,hw,q⟩:=h;refine zaz ?_; intro zX;refine⟨_,#[zl,#[zB,#[zjM,false,mH,T.Pe,#[zf],#[zO,(K7.of (N':=["i","j"]) (ix:=[none,none]) (zh zbH) _ rfl rfl rfl),#[wP],#[z0,#[zp,p9,#[v6],T.LY,pQ.kp,p8,#[zM],#[ya,#[zp,B6,#[v6],T.O3,xO.kp,B5,#[zM],#[Qo]]]]],#[or],#[ut],(fun _ _ _ _=>#[zj,#[zY],#[AT],#[Db]])]]]],?_⟩;have qP:=bO;have el:#[FM].length=rows.length:=zaK _ _ _;have ew:∀ r∈mvd p x y rows,r.length<=100:=fun r hr=>by rw [zcM r hr]; exact zoc hw
  refine (pz rfl (pz rfl (pz rfl (ex7 p a pt x y bs rows ⟨rfl,p5,xf,x0,x1,y0,y1,ha,hb,tj,hn,hw,fun l0 ls0 H0 JY s0 h0 g0=>?_⟩))));refine .inl (ex3 l0 ls0 #[FM] ⟨rfl,h0,g0,#[O],ew,fun l ts H1 hl s1 tJ tj=>?_⟩);rw [el] at tj;have pI:=bM tj;have rX:=zep ew rows.length;refine⟨l,rfl,⟨_,pA.of tJ⟩,zbi (fs:=(wts #[QG]).map V.int) (pA.of tJ) (by rw [aA,aA,zpD,pI]) (by rw [aA]; lia) #[NE] #[VZ]⟩
  ·obtain⟨b,rfl,xb⟩:=zQ hx;obtain⟨⟨u,v⟩,hq,hT⟩:=Paired.get tj xb;unfold wts at hy;rw [aF,aF,hq] at hy;have hy:V.int (u+v)=y:=by simpa using hy
   subst hy;refine gY2 (pK.of hT) ?_;exact (pz rfl (pz rfl (pF rfl rfl hR)))
  ·exact⟨D,(pz rfl ⟨pA.of zc,fun M h0 h1=>q M _ ((s0.trans s1).trans (zb hD)) h0 fun p7=>⟨(h1 p7).1,fun x hx=>by have:=(h1 p7).2 x hx; rwa [if_neg #[D]] at this⟩⟩)⟩
def zof (rows:List #[At]) (x y:Int) (u v:Nat):Int:=sm rows.length fun t=>sm (rows.getD t []).length fun s=>gl (rows.getD t []) s*cv (s,t) ⟨x,y,u,v⟩
def zfl (p:Int) (wide:Nat) (r:List Int):Prop:=1<=r.length/\r.length<=wide/\∀ v∈r,0<=v/\v < p
theorem zge {i:Nat} (hj:j < rows.length) (hi:i < (rows.getD j []).length) (h:gl (rows.getD j []) i≠0):((i:Int),(j:Int))∈zat rows rows.length:=by
 unfold zat;rw [fW];refine⟨j,bU.mpr hj,?_⟩;unfold trm;exact aZ.mpr ⟨i,cV.mpr ⟨bU.mpr hi,by simpa using h⟩,rfl⟩
theorem zog (h:∃ r∈rows,∃ v∈r,v≠0):∃ j i,j < rows.length/\i < (rows.getD j []).length/\cu rows j i≠0/\cu rows j i∈rows.getD j []/\rows.getD j []∈rows:=by
 obtain⟨r,hr,v,hv,p7⟩:=h;obtain⟨j,hj⟩:=fu.mp hr;obtain⟨i,hi⟩:=fu.mp hv;have e:rows.getD j []=r:=by rw [bY,hj]; rfl
 have e2:cu rows j i=v:=by unfold cu; rw [e]; exact zbX hi
 exact⟨j,i,(aP.mp hj).1,by rw [e]; exact (aP.mp hi).1,by rw [e2]; exact p7,by rw [e2,e]; exact hv,by rw [e]; exact hr⟩
theorem zk1 {p x y:Int} (hj:j < rows.length):#[FM].getD j []=(bA #[Sy]).map fun i=>mv x y rows.length #[Sy] (cu rows) j i % p:=by
 rw [bY,show #[FM][j]? = _ from zav hj];rfl
theorem zoh {p x y:Int} {i:Nat} (hj:j < rows.length) (hi:i < wd rows):cu #[FM] j i=mv x y rows.length #[Sy] (cu rows) j i % p:=by
 unfold cu;rw [zk1 hj];exact zbX (by rw [aF,cH hi]; rfl)
theorem zrp {p x y:Int} {w:Nat} (hg:∀ r∈rows,zfl p w r) (h:∃ r∈rows,∃ v∈r,v≠0):zat #[FM] rows.length≠[]:=by
 obtain⟨j,i,h1,h2,h3,h4,h5⟩:=zog h;have hr:=(hg _ h5).2.2 _ h4;have pT:=zfX h5;obtain⟨t,s,ht,hs,p7⟩:=zr5 (p:=p) (a:=x) (b:=y) (n:=rows.length) (w:=wd rows) (c:=cu rows) (j:=j) (i:=i) h1 #[O] fun e=>h3 (by
  have e0:Cg p (cu rows j i) 0:=e;exact e0.eq hr.1 hr.2 #[D] #[O])
 have el:#[FM].length=rows.length:=zaK _ _ _;have:=zge (rows:=mvd p x y rows) (j:=t) (i:=s) #[O] (by rw [zk1 ht,aA,bI]; exact hs) (by
  show cu #[FM] t s≠0;rw [zoh ht hs];exact fun e=>p7 (#[Qv].symm.trans (Cg.of_eq e)))
 rw [el] at this;exact fun e=>by rw [e] at this; cases this
theorem zoi {s:Nat} {g:Tm->Int} {r:List Int} (h:r∈zdM k s g):∃ j,j < s / (k - 1)+1/\r=(bA (s - (k - 1)*j+1)).map fun i=>g (i,j):=by
 unfold zdM at h;obtain⟨j,hj,rfl⟩:=aZ.mp h;exact⟨j,bU.mp hj,rfl⟩
theorem zpE {p:Int} {s:Nat} {g:Tm->Int} (hg:∀ t,0<=g t/\g t < p):∀ r∈zdM k s g,1<=r.length/\r.length<=s+1/\∀ v∈r,0<=v/\v < p:=fun r hr=>by
 obtain⟨j,_,rfl⟩:=zoi hr;rw [aA,bI];refine⟨#[O],#[O],fun v hv=>?_⟩;obtain⟨i,_,rfl⟩:=aZ.mp hv;exact hg _
theorem zsb {s:Nat} (hk:2<=k) {t:Tm} (h:tz k t<=s):t.2 < s / (k - 1)+1/\t.1 < s - (k - 1)*t.2+1:=by
 unfold tz at h;have k1:0 < k - 1:=by lia
 have:t.2<=s / (k - 1):=(gj k1).mpr (by rw [iK]; lia);exact#[wS]
theorem zrq {p:Int} {s:Nat} (hk:2<=k) {g:Tm->Int} (L:Gcv p k s g):∃ r∈zdM k s g,∃ v∈r,v≠0:=by
 obtain⟨t,ht,p7⟩:=L.top;obtain⟨h1,h2⟩:=zsb hk (show tz k t<=s by lia);exact⟨_,aU (ziY h1),g t,aZ.mpr ⟨t.1,bU.mpr h2,rfl⟩,p7⟩
theorem zsE {m:Nat} (h:m<=4):tri m<=10:=by
 have:m=0\/m=1\/m=2\/m=3\/m=4:=by lia
 rcases this with e | e | e | e | e <;> subst e <;> decide
noncomputable def zjf (t:Adr) (K:aD):Sp:=fun vs H Q E=>∃ (c tt r:Addr) (p T:Int) (k:Nat) (pl:List Int) (rw:List #[IO]),vs = [.ref c,.ref r,.int T]/\zbu H c tt p k pl/\H r=some #[Qa]/\rw.length=pl.length/\pl.length<=16/\p∈zt/\pl.Nodup/\(∀ x∈pl,0<=x/\x < p)/\(∀ z,some z∈rw->0<=z/\z < p)/\1<=k/\k<=100/\0<=T/\T<=1000 /\
 ((k < 2/\∀ H',zr H H'->E #[Tp] none H')\/(2<=k/\(∀ H',zr H H'->E #[WG] none H') /\
  ∀ (z r':Addr) (ls:List Addr) (m size:Nat) (g:Tm->Int) (H':Hp),H z=none->zr H H'->H' z=some (.tup [.int (m:Int),.ref r'])->H' r'=some #[Qe]->zaN H' ls (zdM k size g)->1<=m->m<=4->Gcv p k size g->(size:Int) < (m:Int)*T->Q #[RX] H'))
theorem zb6:KE ["code","row","t","m","size","curve"] ["code","row","t"] (zh zcL):=#[S]
theorem zjg (T:Txt K mg t) (F:Fun K "paper_of" "paper_of" zcL t.MD fd):Lf P w K mg base #[Vi] 8 t.MD fd ["code","row","t"] (zjf t K):=by
 obtain⟨B7,tu,v5⟩:=T.Ma;have v7:=zhO (P:=P) (w:=w) (base:=base) T tu;refine F.okX zb6 #[sK] #[mt]
 ·obtain⟨c,tt,r,p,T',k,pl,rw,rfl,_⟩:=h;rfl
 ·obtain⟨c,tt,r,p,T',k,pl,rw,rfl,hc,uu,rL,hn,hp,qM,qh,wM,k0,k1,t0,t1,q⟩:=h;refine zaz ?_; intro zX;refine⟨_,#[ze,#[zaX,PassesOwn.leaving,#[zgz,T.La,#[za,#[zf],#[ya,#[zj,#[zY],#[UX],#[zf]]]]],#[zg,3,zb6.nd,#[A]],#[ze,#[za5,#[zp,v7,#[v6],T.NX,tu.kp,v5,#[zcB],#[za,#[AT],#[Vb]]],#[zaW,#[zi,#[zg,4,zb6.nd,#[A]],#[zi,#[zg,5,zb6.nd,#[A]],#[zF]]]]],#[zl,#[za3,#[zZ,#[zh5],#[Qt],#[zj,#[z8],#[P7],#[Id]],(zad _)],#[zl,#[zB,#[zai,#[za,#[P7],#[QH]]]]],#[zan]]]]],#[zl,#[zfH,#[Rn],T.MK,T.Mk,#[zdE]]]],?_⟩;refine zgj ?_; intro rh;have qP:=bO;have Kk:=zcF pl rw;have hA:∀ m,m<=4->#[Fr].length*tri m<=199:=fun m hm=>by
   have:=jW (show #[Fr].length<=16 by lia) (zsE hm);lia
  refine (pF rfl rfl ⟨1,5,rfl,⟨#[D],#[D],#[D],#[D]⟩,?_⟩);rcases q with ⟨h1,q⟩ | ⟨h1,qn,q⟩
  ·refine zaQ (lo:=1) (n:=4) (fun i σ H'=>i=0/\σ = [some (.ref c),some (.ref r),some (.int T'),none,none,none]/\zr H H') ⟨rfl,rfl,fun _ _ e=>e⟩ ?_ ?_
   ·rintro zD zT i σ H1 hi ⟨rfl,rfl,s1⟩;exact (pz rfl (pz rfl (pz rfl (ex8 c tt r p k 1 pl rw ⟨rfl,hc.same s1,s1 _ _ uu,rL,hn,hp,qM,qh,wM,k0,k1,#[D],#[D],.inl ⟨h1,fun H2 s2=>q H2 #[Wj]⟩⟩))))
   ·rintro σ H1 ⟨h,_⟩;lia
  ·refine zaQ (lo:=1) (n:=4) (fun i σ H'=>∃ e3 e4 e5:Option V,σ = [some (.ref c),some (.ref r),some (.int T'),e3,e4,e5]/\zr H H') (ex3 none none none ⟨rfl,fun _ _ e=>e⟩) ?_ ?_
   ·rintro zD zT i σ H1 hi ⟨e3,e4,e5,rfl,s1⟩;rw [show ((1:Int)+(i:Int))=((1+i:Nat):Int) by lia];refine (pz rfl (pz rfl (pz rfl (ex8 c tt r p k (1+i) pl rw ⟨rfl,hc.same s1,s1 _ _ uu,rL,hn,hp,qM,qh,wM,k0,k1,#[O],#[O],.inr ⟨h1,hA _ #[O],fun z r' ls size g H2 hz s2 h5 h6 h7 hL hs=>?_⟩⟩))));refine⟨z,_,rfl,pK.of h5,rfl,_,_,rfl,_,_,rfl,rfl,?_⟩;refine (pz rfl (pz rfl (pz rfl (pF rfl rfl ⟨.inl #[wS],#[AC]⟩))));refine za6 #[VT] (fun sF=>?_)
    ·have pT:(size:Int) < ((1+i:Nat):Int)*T':=of_decide_eq_true pT;refine (pz rfl (pz rfl ⟨szq,fun z' Dc=>?_⟩));have w:=zb (o:=.tup [.int ((1+i:Nat):Int),.ref r']) Dc;have xh:=s1.trans s2;exact q z' r' ls (1+i) size g _ (xh.free Dc) (xh.trans w) zc (w _ _ h6) (h7.same w) #[O] #[O] hL pT
    ·exact (ex3 _ _ _ ⟨rfl,s1.trans s2⟩)
   ·rintro σ H1 ⟨e3,e4,e5,rfl,s1⟩;exact⟨rfl,qn H1 s1⟩
theorem zpF {x y:Int} {i:Nat}:mv x y rows.length #[Sy] (cu rows) j i=zof rows x y i j:=by
 rw [zp2];unfold zof;refine zaD fun t ht=>?_
 have hl:(rows.getD t []).length<=wd rows:=zfX (by rw [bY,aJ ht]; exact fV ht);rw [zd7 hl fun s h1 _=>by
  have:cu rows t s=0:=zeA h1;rw [this];simp]
 refine zaD fun s _=>?_
 show cu rows t s*ch t j*ch s i*x ^ (s - i)*y ^ (t - j)=gl (rows.getD t []) s*(ch s i*x ^ (s - i)*(ch t j*y ^ (t - j)));unfold cu;grind
theorem zk2 {G:Nat->Nat->Int} {n N:Nat} {w:Nat->Nat} (hn:n<=N) (hw:∀ j,j < n->w j<=N) (h1:∀ j i,n<=j->G j i=0) (h2:∀ j i,j < n->w j<=i->G j i=0):(sm n fun j=>sm (w j) (G j))=sm N fun j=>sm N (G j):=by
 rw [zd7 (m:=n) (n:=N) hn (fun j hj _=>zcH fun i _=>h1 j i hj)];exact zaD fun j hj=>(zd7 (hw j hj) fun i hi _=>h2 j i hj hi).symm
def Ph (p:Int) (k:Nat) (rows:List #[At]) (pJ:List (Int×Int)) (m T:Int):Prop :=
 (1<=m/\m<=4)/\(∀ x∈szs (k:Int) #[On],x < m*T)/\∀ q∈pJ,∀ z∈wts (zat (mvd p q.1 q.2 rows) rows.length),m<=z
theorem zhU {i:Nat} (h:¬ (j < rows.length/\i < (rows.getD j []).length)):cu rows j i=0:=by
 unfold cu;by_cases hj:j < rows.length
 ·exact zeA (by have:¬ i < (rows.getD j []).length:=fun z=>h ⟨hj,z⟩; lia)
 ·have:rows.getD j [] = []:=by rw [bY,eD #[O]]; rfl
  rw [this];rfl
theorem zqf {i:Nat} (h:cu rows j i≠0):((i:Int),(j:Int))∈zat rows rows.length:=by
 by_cases hb:j < rows.length/\i < (rows.getD j []).length
 ·exact zge hb.1 hb.2 h
 ·exact absurd (zhU hb) h
theorem zoj {p x y:Int} {m:Nat} (h:∀ z∈wts #[QG],(m:Int)<=z) {u v:Nat} (huv:u+v < m):Cg p (zof rows x y u v) 0:=by
 rw [<- zpF];by_cases hb:v < rows.length/\u < wd rows
 ·refine dm fun hn=>?_
  have e:=zoh (p:=p) (x:=x) (y:=y) hb.1 hb.2;have p7:cu #[FM] v u≠0:=fun z=>hn (by
   rw [e] at z;exact #[Qv].symm.trans (Cg.of_eq z))
  have hl:#[FM].length=rows.length:=by unfold mvd; exact zaS _ _ _
  have hm:=zqf p7;rw [hl] at hm;have:=h _ (aZ.mpr ⟨_,hm,rfl⟩);have:(m:Int)<=(u:Int)+(v:Int):=this;lia
 ·refine Cg.of_eq ?_;unfold mv;by_cases hu:u < wd rows
  ·have hz:(fun s=>sh y rows.length (fun t=>cu rows t s) v)=fun _=>0:=by
    funext s;exact zdg (by have:¬ v < rows.length:=fun z=>hb ⟨z,hu⟩; lia)
   rw [hz];exact (zkS (n:=0) (cB _) fun _ _ _=>rfl).trans (zdg (cB _))
  ·exact zdg #[O]
theorem zpG {p:Int} (hp:p∈zt) {d m T:Nat} (hd:1<=d) {l:List (Int×Int)} (hP:Pts p l) (h:Ph p (d+1) rows l (m:Int) (T:Int)) (hT:1<=T) {q:List Int} (hq:IsP p (d+1) q) (hh:T<=hits p q l):Zr p (AL (d+1) (gl q) rows.length fun j i=>gl (rows.getD j []) i):=by
 have rp:=zC hp;obtain⟨⟨m1,m4⟩,hsz,hwt⟩:=h;have hmT:1<=m*T:=jW (show 1<=m by lia) hT;obtain⟨s,es⟩:∃ s,s+1=m*T:=⟨m*T - 1,#[O]⟩;have rR:∀ t:Tm,s < tz (d+1) t->cu rows t.2 t.1=0:=fun t ht=>by
  (refine dm fun hn=>?_)
  have:=hsz _ (aZ.mpr ⟨_,zqf hn,rfl⟩);have this:(t.1:Int)+(((d+1:Nat):Int) - 1)*(t.2:Int) < (m:Int)*(T:Int):=this;have e:((t.1+d*t.2:Nat):Int)=(t.1:Int)+(((d+1:Nat):Int) - 1)*(t.2:Int):=by
   push_cast;rw [show ((d:Int)+1 - 1)=(d:Int) by lia]
  have ht:s < t.1+d*t.2:=ht;have e2:((m*T:Nat):Int)=(m:Int)*(T:Int):=by push_cast; rfl
  lia
 have hz:∀ j,s < j->∀ i,cu rows j i=0:=fun j hj i=>rR (i,j) (by
  show s < i+d*j;have:j<=d*j:=Nat.le_mul_of_pos_left _ #[O];lia)
 have h1:=zhH hp (k1:=d) (s:=s) (m:=m) (g:=fun t=>cu rows t.2 t.1) (f:=gl q) rR (pJ:=l.filter #[Uw]) (mE _ (dE.mp hP.nd)) (fun a ha=>?_) (fun a ha=>?_) (fun a ha u v huv=>?_) (by
  have:m*T<=m*hits p q l:=Nat.mul_le_mul_left _ hh;have e:hits p q l=(l.filter #[Uw]).length:=rfl;rw [<- e];lia)
 ·intro i;have h2:Cg p (AL (d+1) (gl q) (s+1) #[Rm] i) 0:=h1 i;have eA:AL (d+1) (gl q) (max (s+1) rows.length) #[Rm]=AL (d+1) (gl q) (s+1) #[Rm]:=znW (iG _ _) fun t ht=>funext fun i=>hz t #[O] i
  have eB:AL (d+1) (gl q) (max (s+1) rows.length) #[Rm]=AL (d+1) (gl q) rows.length #[Rm]:=znW (ij _ _) fun t ht=>funext fun i=>zhU #[O]
  rw [<- eA,eB] at h2;exact h2
 ·obtain⟨a1,_⟩:=cV.mp ha;obtain⟨x0,x1,_⟩:=hP.rg a a1;exact⟨x0,x1⟩
 ·obtain⟨_,a2⟩:=cV.mp ha;have a2:zA p a.1 q=a.2:=of_decide_eq_true a2;rw [<- a2,znH];exact (ziT (by rw [hq.1]; exact aG _)).symm
 ·have pV:=zoj (hwt a (cV.mp ha).1) huv;have hwd:∀ j,j < rows.length->(rows.getD j []).length<=max (s+1) (max rows.length #[Sy]):=fun j hj=>bR (zfX (by rw [bY,aJ hj]; exact fV hj)) (bR (ij _ _) (ij _ _))
  have e1:zof rows a.1 a.2 u v=sm #[Qx] fun j=>sm #[Qx] fun i=>cu rows j i*cv (i,j) ⟨a.1,a.2,u,v⟩:=by
   unfold zof;exact zk2 (G:=fun j i=>cu rows j i*cv (i,j) ⟨a.1,a.2,u,v⟩) (w:=fun j=>(rows.getD j []).length) (bR (iG _ _) (ij _ _)) hwd (fun j i hj=>by rw [zhU #[O],eJ]) (fun j i _ hi=>by rw [zhU #[O],eJ])
  have e2:=zq9 (s:=s) (G:=fun t=>cu rows t.2 t.1) (X:=a.1) (y:=a.2) (u:=u) (v:=v);have e3:(sm (s+1) fun j=>sm (s+1) fun i=>cu rows j i*cv (i,j) ⟨a.1,a.2,u,v⟩)=sm #[Qx] fun j=>sm #[Qx] fun i=>cu rows j i*cv (i,j) ⟨a.1,a.2,u,v⟩ :=
   zk2 (G:=fun j i=>cu rows j i*cv (i,j) ⟨a.1,a.2,u,v⟩) (w:=fun _=>s+1) (iG _ _) (fun j _=>iG _ _) (fun j i hj=>by rw [hz j #[O],eJ]) (fun j i _ hi=>by
    have:cu rows j i=0:=rR (i,j) (by show s < i+d*j; lia);rw [this,eJ])
  rw [<- e2];show Cg p (sm (s+1) fun j=>sm (s+1) fun i=>cu rows j i*cv (i,j) ⟨a.1,a.2,u,v⟩) 0;rw [e3,<- e1];exact pV
def zhV (K:aD):Sp:=fun vs H Q _=>∃ (a:Addr) (bs:List Addr) (n wi:Nat) (c:Nat->Nat->Int),vs = [.ref a]/\H a=some #[Rb]/\LsA H bs (zK n wi c)/\n<=100/\wi<=1000/\(∃ j i,j < n/\i < wi/\c j i≠0) /\
 ∀ (l:Addr) (ls:List Addr) (e:Nat) (H':Hp),H l=none->zr H H'->H' l=some #[BT]->LsA H' ls (zK n (wi - e) fun j i=>c j (i+e))->Lea n wi c e->Q #[Qy] H'
theorem zeq:KE ["lines","least"] ["lines"] (zh zbk):=#[S]
theorem zhW (T:Txt K mg t) (F:Fun K "without_x" "without_x" zbk t.Md fd):Lf P w K mg base CX0 2 t.Md fd ["lines"] (zhV K):=by
 obtain⟨rC,pQ,p8⟩:=T.Lk;have p9:=zb5 (P:=P) (w:=w) (base:=base) T pQ;refine F.ok zeq #[sK] #[mt]
 ·obtain⟨a,bs,n,wi,c,rfl,_⟩:=h;rfl
 ·obtain⟨a,bs,n,wi,c,rfl,ha,hb,hn,hw,xP,q⟩:=h;refine zaz ?_; intro zX;refine⟨_,#[ze,#[zn,1,zeq.nd,#[RD],#[zq,(@zlO _ rfl),T.Pe,mH,#[ya,#[zO,(K7.of (N':=["i","j"]) (ix:=[none,none]) (zh zbk) _ rfl rfl rfl),#[wP],#[z0,#[zp,p9,#[v6],T.LY,pQ.kp,p8,#[zM],#[QQ]]],#[or],#[ut],#[QN]]]]],#[zl,#[zB,#[zO,(K7.of (N':=["line","least"]) (ix:=[none,some 1]) (zh zbk) _ rfl rfl rfl),#[zam],#[z0,#[AT]],#[wn],#[ut],(fun _ _ _ _=>#[zbC,(zii (K:=K) rfl),#[AT],#[zbP,#[Db]],#[zcw]])]]]],?_⟩;refine zgj ?_; intro rh;have qP:=bO;have hgl:=zaS n wi c;refine (pz rfl (.inr (ex3 a bs (zK n wi c) ⟨rfl,ha,hb,#[O],fun r qA=>by rw [zf4 qA]; exact hw,fun l ts H1 hl s1 h1 yt=>?_⟩)));rw [hgl] at yt;have rH:=yt.length;have G8:#[QR].length<=1000*n:=zeE (fun r qA=>by rw [zf4 qA]; exact hw) n;refine⟨l,rfl,⟨_,pA.of h1⟩,zW (n:=ts.length) (fun m ys H'=>H'=H1/\ys=((#[QR].map (·.1)).take m).map V.int) ⟨rfl,rfl⟩ ?_ ?_ ?_ ?_⟩
  ·rintro m ys H2 hm ⟨rfl,_⟩;exact⟨_,.ref ts[m],pA.of h1,by rw [aF,aJ hm]; rfl⟩
  ·rintro ys H2 ⟨rfl,_⟩;exact⟨_,pA.of h1,by rw [aA]; exact aG _⟩
  ·rintro zS zT zE m y ys H2 H3 hm ⟨rfl,rfl⟩ ⟨rfl,hy⟩;obtain⟨b,rfl,vN⟩:=zQ (hy _ (pA.of h1));obtain⟨q',rf,qY⟩:=Paired.get yt vN;refine gY2 (pK.of qY) ?_;have Fe:(#[QR].map (·.1))[m]? = some q'.1:=by rw [aF,rf]; rfl
   refine (pz rfl ⟨by rw [aA,bD,aA]; lia,rfl,?_⟩);rw [take_snoc Fe,aN];rfl
  rintro ys H2 D ⟨rfl,rfl⟩ hD;rw [bC (by rw [aA]; lia)];have u2:=zb (o:=.lst ((#[QR].map (·.1)).map V.int)) hD;obtain⟨j0,i0,uz,Dp,p7⟩:=xP;refine⟨D,#[QR].map (·.1),rfl,pA.of zc,fun e0=>?_,fun M hM1 hM2=>?_⟩
  ·have:(i0:Int)∈#[QR].map (·.1):=aZ.mpr ⟨_,zdj.mpr ⟨i0,j0,rfl,uz,Dp,p7⟩,rfl⟩;rw [e0] at this;cases this
  obtain⟨e,rfl,hL⟩:=zrf hM1 hM2;have s2:=s1.trans u2;generalize pB H2 D (.lst ((#[QR].map (·.1)).map V.int))=H3 at u2 s2 |-;have HI:=s2 _ _ ha;have CA:=hb.same s2;have vU:=hb.length;have JG:e<=wi:=by obtain⟨_,_,h,_⟩:=hL.2; lia
  refine (pz rfl ⟨a,rfl,⟨_,pA.of HI⟩,zW (n:=bs.length) (fun m ys H'=>zr H3 H'/\∃ us:List Addr,ys=us.map V.ref/\LsA H' us ((zK n (wi - e) fun j i=>c j (i+e)).take m)) ⟨fun _ _ e=>e,[],rfl,.nil⟩ ?_ ?_ ?_ ?_⟩)
  ·rintro m ys H4 hm ⟨s4,_⟩;exact⟨_,.ref bs[m],pA.of (s4 _ _ HI),by rw [aF,aJ hm]; rfl⟩
  ·rintro ys H4 ⟨s4,_⟩;exact⟨_,pA.of (s4 _ _ HI),by rw [aA]; exact aG _⟩
  ·rintro zS zT zE m y ys H4 H5 hm ⟨s4,us,rfl,pO⟩ ⟨rfl,hy⟩;obtain⟨b,rfl,vN⟩:=zQ (hy _ (pA.of (s4 _ _ HI)));obtain⟨r,qA,qY⟩:=Paired.get CA vN;have B8:m < n:=by lia
   rw [zav B8] at qA;cases qA;refine gY (pz rfl (pz rfl (pz rfl ⟨b,(pz rfl ⟨pA.of (s4 _ _ qY),fun z hz=>?_⟩)⟩)));have tL:=pO.length;rw [bD,zaS] at tL;refine⟨by rw [aA]; lia,s4.trans (zb hz),us++[z],by rw [aN]; rfl,?_⟩;rw [take_snoc (zav (w:=wi - e) (g:=fun j i=>c j (i+e)) B8)];refine cY (pO.same (zb hz)) ?_;rw [zc,zi6 (by rw [aA,aA,bI]; exact JG),<- kh];congr 3;refine fM fun i=>?_
   rw [gO,aF,aF];by_cases h:i < wi - e
   ·rw [cH #[O],cH h,Nat.add_comm e i];rfl
   ·rw [eD (by rw [bI]; lia),eD (by rw [bI]; lia)];rfl
  ·rintro ys H4 D2 ⟨s4,us,rfl,pO⟩ tZ;rw [bC (by rw [zaS]; lia)] at pO;have Am:=s2.trans s4;exact q D2 us e _ (Am.free tZ) #[V3] zc #[WJ] hL
def ze4 (p b:Int) (n wi:Nat) (c:Nat->Nat->Int) (j i:Nat):Int:=if j<=i/\i < j+wi then sh b n (fun t=>c t (i - j)) j % p else 0
def zgu (K:aD):Sp:=fun vs H Q _=>∃ (p b:Int) (a:Addr) (bs:List Addr) (n wi:Nat) (c:Nat->Nat->Int),vs = [.int p,.ref a,.int b]/\H a=some #[Rb]/\LsA H bs (zK n wi c)/\1<=n/\n<=100/\wi<=900/\5<=p/\p<=97/\0<=b/\b < p/\(∀ j i,j < n->i < wi->0<=c j i/\c j i < p) /\
 ∀ (l:Addr) (ls:List Addr) (H':Hp),H l=none->zr H H'->H' l=some #[BT]->LsA H' ls #[V9]->Q #[Qy] H'
theorem zk3 (x:V) (k:Nat):(aQ k [x]).flatten=aQ k x:=gF
theorem zok {p b:Int} {n wi m:Nat} {c:Nat->Nat->Int} (hm:m < n):(bA (wi+(n - 1))).map (ze4 p b n wi c m)=aQ m 0++((bA wi).map fun i=>sh b n #[Qf] m % p)++aQ (n - 1 - m) 0:=by
 refine fM fun i=>?_
 rw [aF];by_cases h1:i < m
 ·rw [dA (by rw [aL,bW]; lia),dA (by rw [bW]; exact h1),fO,if_pos h1,cH #[O]];show some #[Uk]=some 0;unfold ze4;rw [if_neg #[O]]
 ·by_cases h2:i < m+wi
  ·rw [dA (by rw [aL,bW,aA,bI]; lia),cS (by rw [bW]; lia),bW,aF,cH #[O],cH #[O]];show some #[Uk]=some (sh b n (fun t=>c t (i - m)) m % p);unfold ze4;rw [if_pos #[O]]
  ·rw [cS (by rw [aL,bW,aA,bI]; lia),aL,bW,aA,bI,fO];by_cases h3:i < wi+(n - 1)
   ·rw [if_pos #[O],cH h3];show some #[Uk]=some 0;unfold ze4;rw [if_neg #[O]]
   ·rw [if_neg #[O],eD (by rw [bI]; lia)];rfl
theorem zdD:KE ["p","lines","number","beyond"] ["p","lines","number"] (zh zbr):=#[S]
theorem zgv (T:Txt K mg t) (F:Fun K "next_curve" "next_curve" zbr t.LW fd):Lf P w K mg base CX0 2 t.LW fd ["p","lines","number"] (zgu K):=by
 obtain⟨yA,qL,sj⟩:=T.ME;have sk:=zg2 (P:=P) (w:=w) (base:=base) T qL;refine F.ok zdD #[sK] #[mt]
 ·obtain⟨p,b,a,bs,n,wi,c,rfl,_⟩:=h;rfl
 ·obtain⟨p,b,a,bs,n,wi,c,rfl,ha,hb,n1,hn,hw,p5,xf,b0,b1,hc,q⟩:=h;refine zaz ?_; intro zX;refine⟨_,#[ze,#[zn,3,zdD.nd,#[RD],#[zj,#[zaF],#[Rg],#[zf]]],#[zl,#[zB,#[zO,(K7.of (N':=["j","line","beyond"]) (ix:=[none,none,some 3]) (zh zbr) _ rfl rfl rfl),#[wP],#[zfw,T.LA,#[ya,#[zp,sk,#[v6],T.Nm,qL.kp,sj,#[zM],#[Qo]]]],#[or],#[ut],(fun _ _ _ _=>#[zj,#[zbK],#[zj,#[zbK],#[zj,#[zdF],#[Qw],#[AT]],#[Db]],#[zj,#[zdF],#[Qw],#[zj,#[zaF],#[Id],#[AT]]]])]]]],?_⟩;refine zgj ?_; intro rh;have qP:=bO;have vU:=hb.length;rw [zaS] at vU;refine (pz rfl ⟨a,(pz rfl ⟨.inl (pA.of ha),#[P3]⟩)⟩);refine (pz rfl (pz rfl (pz rfl (ex7 p b a bs n wi c ⟨rfl,ha,hb,#[O],#[O],p5,xf,b0,b1,hc,fun l ls H1 hl s1 h1 qk=>?_⟩))));have wY:=qk.length;rw [zaS] at wY;refine⟨l,(pz rfl ⟨pA.of h1,zW (n:=ls.length) (fun m ys H'=>zr H1 H'/\∃ us:List Addr,ys=us.map V.ref/\LsA H' us (#[V9].take m)) ⟨fun _ _ e=>e,[],rfl,.nil⟩ ?_ ?_ ?_ ?_⟩)⟩
  ·rintro m ys H4 hm ⟨s4,_⟩;exact⟨_,.ref ls[m],pA.of (s4 _ _ h1),by rw [aF,aJ hm]; rfl⟩
  ·rintro ys H4 ⟨s4,_⟩;exact⟨_,pA.of (s4 _ _ h1),by rw [aA]; exact aG _⟩
  ·rintro zS zT zE m y ys H4 H5 hm ⟨s4,us,rfl,pO⟩ ⟨T,v,hT,rfl,rfl,hv⟩;obtain⟨bb,rfl,vN⟩:=zQ (hv _ (pA.of (s4 _ _ h1)));obtain⟨r,qA,qY⟩:=Paired.get qk vN;have B8:m < n:=by lia
   rw [zav B8] at qA;cases qA;have uT:=zb (o:=.tup [.int (m:Int),.ref bb]) hT;refine gY2 #[Ub] ?_;have s5:=s4.trans uT;have B4:=pO.same uT;generalize pB H4 T (.tup [.int (m:Int),.ref bb])=H5 at uT s5 B4 |-;have HA:((m:Int)).toNat=m:=by lia
   refine⟨szq,fun z1 uQ=>(pz rfl (ex3 z1 _ ([.int 0]) ⟨rfl,rfl,zc,#[O],#[O],by rw [HA]; show 1*m<=sizeLine; lia,fun z2 vG=>?_⟩))⟩;rw [HA,zk3];have u6:=(zb (o:=.lst [.int 0]) uQ).trans (zb (o:=.lst (aQ m #[Vh])) vG);have f6:pB (pB H5 z1 (.lst [.int 0])) z2 (.lst (aQ m #[Vh])) z2=some (.lst ((aQ m (0:Int)).map V.int)):=by rw [zc,iO]
   generalize pB (pB H5 z1 (.lst [.int 0])) z2 (.lst (aQ m #[Vh]))=H6 at u6 f6 |-;refine (pz rfl (ex4 z2 bb _ _ ⟨rfl,rfl,f6,(s5.trans u6) _ _ qY,by rw [aA,aA,bW,aA,bI]; lia,fun z3 DA=>?_⟩));have u7:=zb (o:=.lst ((aQ m (0:Int)).map V.int++((bA wi).map fun i=>sh b n #[Qf] m % p).map V.int)) DA;have f7:pB H6 z3 (.lst ((aQ m (0:Int)).map V.int++((bA wi).map fun i=>sh b n #[Qf] m % p).map V.int)) z3=some (.lst ((aQ m (0:Int)++(bA wi).map fun i=>sh b n #[Qf] m % p).map V.int)):=by rw [zc,aN]
   generalize pB H6 z3 (.lst ((aQ m (0:Int)).map V.int++((bA wi).map fun i=>sh b n #[Qf] m % p).map V.int))=H7 at u7 f7 |-;have eb:((#[Ch].length:Nat):Int) - 1 - (m:Int)=((n - 1 - m:Nat):Int):=by rw [aA]; lia
   refine⟨szq,fun z4 Km=>(pz rfl #[VX])⟩;show zrK (.ref z4) (.int (((#[Ch].length:Nat):Int) - 1 - (m:Int))) _ _;rw [eb];have Gn:(((n - 1 - m:Nat):Int)).toNat=n - 1 - m:=by lia
   refine (ex3 z4 _ ([.int 0]) ⟨rfl,rfl,zc,#[O],#[O],by rw [Gn]; show 1*_<=sizeLine; lia,fun z5 hz5=>?_⟩);rw [Gn,zk3];have u8:=(zb (o:=.lst [.int 0]) Km).trans (zb (o:=.lst (aQ (n - 1 - m) #[Vh])) hz5);have f8:pB (pB H7 z4 (.lst [.int 0])) z5 (.lst (aQ (n - 1 - m) #[Vh])) z5=some (.lst ((aQ (n - 1 - m) (0:Int)).map V.int)):=by rw [zc,iO]
   generalize pB (pB H7 z4 (.lst [.int 0])) z5 (.lst (aQ (n - 1 - m) #[Vh]))=H8 at u8 f8 |-;refine (ex4 z3 z5 _ _ ⟨rfl,rfl,u8 _ _ f7,f8,by rw [aA,aA,aL,bW,bW,aA,bI]; lia,fun z6 hz6=>?_⟩);have u9:=u6.trans (u7.trans (u8.trans (zb (o:=.lst ((aQ m (0:Int)++(bA wi).map fun i=>sh b n #[Qf] m % p).map V.int++(aQ (n - 1 - m) (0:Int)).map V.int)) hz6)));have tL:=pO.length;rw [bD,zaS] at tL;refine⟨by rw [aA]; lia,s5.trans u9,us++[z6],by rw [aN]; rfl,?_⟩;rw [take_snoc (zav (w:=wi+(n - 1)) (g:=ze4 p b n wi c) B8)];refine cY (B4.same u9) ?_;rw [zc,<- aN];congr 3;exact (zok B8).symm
  ·rintro ys H4 D2 ⟨s4,us,rfl,pO⟩ tZ;rw [bC (by rw [zaS]; lia)] at pO;have Am:=s1.trans s4;exact q D2 us _ (Am.free tZ) #[V3] zc #[WJ]
def RA1 (H:Hp) (n:Nat) (b:Addr) (st:List Int×Nat×(Nat->Nat->Int)):Prop:=∃ ka na ls,H b=some (.tup [.ref ka,.ref na])/\H ka=some (.tup (st.1.map V.int))/\H na=some #[BT]/\LsA H ls (zK n st.2.1 st.2.2)
theorem RA1.same {n:Nat} {b:Addr} {st:List Int×Nat×(Nat->Nat->Int)} (s:zr H H') (h:RA1 H n b st):RA1 H' n b st:=by
 obtain⟨ka,na,ls,h1,h2,h3,h4⟩:=h;exact⟨ka,na,ls,s _ _ h1,s _ _ h2,s _ _ h3,h4.same s⟩
def RAs (H:Hp) (n:Nat):List Addr->List (List Int×Nat×(Nat->Nat->Int))->Prop:=Paired (RA1 H n)
theorem RAs.same {n:Nat} (s:zr H H') {bs:List Addr} {tP:List (List Int×Nat×(Nat->Nat->Int))} (h:RAs H n bs tP):RAs H' n bs tP:=eZ (fun _ _ z=>z.same s) h
def nxs (p:Int) (n e wi:Nat) (c:Nat->Nat->Int) (known:List Int) (L:List Int):List (List Int×Nat×(Nat->Nat->Int)):=L.map fun b=>(known++[b],(wi - e+(n - 1),zgp p b n e c))
theorem zol {p b:Int} {n wi e:Nat} {c:Nat->Nat->Int} (hd:∀ j i,wi<=i->c j i=0):zK n (wi - e+(n - 1)) (ze4 p b n (wi - e) fun j i=>c j (i+e))=zK n (wi - e+(n - 1)) (zgp p b n e c):=zbj fun j i hj hi=>by
 unfold ze4 zgp;by_cases h1:j<=i
 ·rw [if_pos (show j < n/\j<=i from ⟨hj,h1⟩)];by_cases h2:i < j+(wi - e)
  ·rw [if_pos ⟨h1,h2⟩]
  ·rw [if_neg #[O]];have e0:sh b n (fun t=>c t (i - j+e)) j=sh b n #[VR] j:=zdz fun t _=>hd t _ #[O]
   have e1:sh b n (fun _=>(0:Int)) j=0:=by
    have:=zc2 (b:=b) (c:=0) (n:=n) (u:=fun _=>0) (j:=j);simpa using this
   rw [e0,e1];rfl
 ·rw [if_neg #[O],if_neg #[O]]
noncomputable def zj0 (K:aD):Sp:=fun vs H Q _=>∃ (p:Int) (ka a:Addr) (known:List Int) (bs:List Addr) (n wi:Nat) (c:Nat->Nat->Int),vs = [.int p,.ref ka,.ref a]/\H ka=some (.tup (known.map V.int))/\H a=some #[Rb]/\LsA H bs (zK n wi c)/\known.length<=100/\1<=n/\n<=100/\wi<=900/\p∈zt/\(∃ j i,j < n/\i < wi/\c j i≠0)/\(∀ j i,wi<=i->c j i=0)/\(∀ j i,0<=c j i/\c j i < p) /\
 ∀ (l:Addr) (us:List Addr) (e:Nat) (H':Hp),H l=none->zr H H'->H' l=some #[GT]->RAs H' n us #[WV]->Lea n wi c e->Q #[Qy] H'
theorem zdP:KE ["p","known","lines","lowest"] ["p","known","lines"] (zh zbV):=#[S]
theorem zj1 (T:Txt K mg t) (F:Fun K "further" "further" zbV t.Nx fd):Lf P w K mg base CX0 3 t.Nx fd ["p","known","lines"] (zj0 K):=by
 obtain⟨B9,tw,wc⟩:=T.L7;have we:=zhW (P:=P) (w:=w) (base:=base) T tw;obtain⟨tf,pU,qd⟩:=T.Lz;have qe:=zc7 (P:=P) (w:=w) (base:=base) T pU;obtain⟨By,su,vt⟩:=T.LO;have vw:=zgv (P:=P) (w:=w) (base:=base) T su;refine F.ok zdP #[sK] #[mt]
 ·obtain⟨p,ka,a,known,bs,n,wi,c,rfl,_⟩:=h;rfl
 ·obtain⟨p,ka,a,known,bs,n,wi,c,rfl,Kn,ha,hb,hkl,n1,hn,hw,hp,xP,hdg,wW,q⟩:=h;refine zaz ?_; intro zX;refine⟨_,#[ze,#[zn,2,zdP.nd,#[RD],#[zp,we,#[v6],T.NU,tw.kp,wc,#[zM],#[RU]]],#[ze,#[zn,3,zdP.nd,#[RD],#[zO,(K7.of (N':=["line"]) (ix:=[none]) (zh zbV) _ rfl rfl rfl),#[zam],#[z0,#[Id]],#[wn],#[ut],(fun _ _ _ _=>#[zU,#[TB],#[AT],#[zf]])]],#[zl,#[zB,#[zO,(K7.of (N':=["number","known","p","lines","lowest"]) (ix:=[none,some 1,some 0,some 2,some 3]) (zh zbV) _ rfl rfl rfl),#[zam],#[zae,T.La,#[QQ]],#[wn],(fun _ _ _ _=>#[zbD,#[zZ,#[zeF],#[zp,qe,#[v6],T.LX,pU.kp,qd,#[zM],#[za,#[Id],#[za,#[Qt],#[QQ]]]],#[zf],(zad _)]]),(fun _ _ _ _=>#[zai,#[za,#[zj,(@zpa _),#[Db],#[zai,#[QQ]]],#[ya,#[zp,vw,#[v6],T.NP,su.kp,vt,#[zM],#[za,#[Id],#[za,#[P7],#[QQ]]]]]]])]]]]],?_⟩;refine zfu ?_; intro sG rh;have qP:=bO;have rp:=zC hp;refine (pz rfl (ex5 a bs n wi c ⟨rfl,ha,hb,hn,#[O],xP,fun l ls e H1 hl s1 h1 qk hL=>?_⟩));have wY:=qk.length;rw [zaS] at wY;have JG:e < wi:=by obtain⟨_,_,h,_⟩:=hL.2; exact h
  refine (pz rfl ⟨l,rfl,⟨_,pA.of h1⟩,zW (n:=ls.length) (fun m ys H'=>H'=H1/\ys=(#[QD].take m).map V.int) ⟨rfl,rfl⟩ ?_ ?_ ?_ ?_⟩)
  ·rintro m ys H2 hm ⟨rfl,_⟩;exact⟨_,.ref ls[m],pA.of h1,by rw [aF,aJ hm]; rfl⟩
  ·rintro ys H2 ⟨rfl,_⟩;exact⟨_,pA.of h1,by rw [aA]; exact aG _⟩
  ·rintro zS zT zE m y ys H2 H3 hm ⟨rfl,rfl⟩ ⟨rfl,hy⟩;obtain⟨b,rfl,vN⟩:=zQ (hy _ (pA.of h1));obtain⟨r,qA,qY⟩:=Paired.get qk vN;have B8:m < n:=by lia
   rw [zav B8] at qA;cases qA;have tR:#[QD][m]? = some (c m e):=by unfold zcd; rw [aF,cH B8]; rfl
   have B0:atI (((bA (wi - e)).map fun i=>c m (i+e)).map V.int) 0=some (.int (c m e)):=zay (j:=0) (by rw [aF,aF,cH #[O]]; show some (V.int (c m (0+e)))=_; rw [eC]);refine gY (pz rfl (ex4 b _ _ _ ⟨rfl,rfl,pA.of qY,B0,?_⟩));refine⟨by rw [aA,bD,zef]; lia,rfl,?_⟩;rw [take_snoc tR,aN];rfl
  rintro ys H2 D ⟨rfl,rfl⟩ hD;rw [bC (by rw [zef]; lia)];have u2:=zb (o:=.lst (#[QD].map V.int)) hD;have f2:pB H2 D (.lst (#[QD].map V.int)) D=some (.lst (#[QD].map V.int)):=zc;have s2:=s1.trans u2;generalize pB H2 D (.lst (#[QD].map V.int))=H3 at u2 f2 s2 |-;have CI:=u2 _ _ h1;have Ko:=qk.same u2;have h3k:=s2 _ _ Kn;refine (pz rfl (pz rfl ⟨#[O],#[O],zW (n:=p.toNat) (fun m ys H'=>zr H3 H'/\∃ us:List Addr,ys=us.map V.ref/\RAs H' n us #[WW]) ⟨fun _ _ e=>e,[],rfl,.nil⟩ (fun m ys H' hm _=>hm) #[P6] ?_ ?_⟩))
  ·rintro zS zT zE m xx ys H4 H5 hm ⟨s4,us,rfl,pO⟩ ⟨rfl,rfl⟩;rw [show ((0:Int)+(m:Int))=(m:Int) from eK _];refine (pz rfl (pz rfl (pz rfl (ex4 p (m:Int) D #[QD] ⟨rfl,.inl (pA.of (s4 _ _ f2)),#[O],#[O],#[O],#[O],rfl,#[Qz]⟩))));have eq0:decide (V.int (zA p (m:Int) #[QD])=V.int 0)=decide (zA p (m:Int) #[QD]=0):=by simp
   rw [eq0];have tL:=pO.length;have J':#[WW].length<=m:=by
    unfold nxs nums;rw [aA];refine bR (dQ _ _) ?_;rw [aA,bI];exact aG _
   refine za6 (fun h0=>?_) (fun h0=>?_)
   ·have h0:=of_decide_eq_true h0;refine (pz rfl (pz rfl ⟨szq,fun x1 Bt=>?_⟩));have w1:=zb (o:=.tup [.int (m:Int)]) Bt;refine (ex4 ka x1 _ _ ⟨rfl,rfl,w1 _ _ (s4 _ _ h3k),zc,by rw [aA]; show _+1<=sizeLine; lia,#[M],fun x2 H6 w2 g2=>?_⟩);have w02:=w1.trans w2;have sH6:=s4.trans w02;refine (pz rfl (pz rfl (pz rfl ⟨p,(m:Int),l,ls,n,wi - e,fun j i=>c j (i+e),rfl,sH6 _ _ CI,Ko.same sH6,n1,hn,#[O],#[O],#[O],#[O],#[O],fun j i _ _=>wW j (i+e),fun l7 ls7 H7 hl7 w3 g3 Gp=>?_⟩)));rw [zol hdg] at Gp;refine⟨szq,fun pr Hn=>?_⟩;have w4:=zb (o:=.tup [.ref x2,.ref l7]) Hn;have w04:=w02.trans (w3.trans w4);refine⟨by rw [aA]; lia,s4.trans w04,us++[pr],by rw [aN]; rfl,?_⟩;unfold nxs;rw [zg1,if_pos h0,aN];refine cY (pO.same w04) ⟨x2,l7,ls7,zc,?_,w4 _ _ g3,Gp.same w4⟩;rw [(w3.trans w4) _ _ g2,aN];rfl
   ·have h0:¬ zA p (m:Int) #[QD]=0:=fun z=>h0 (decide_eq_true z)
    refine⟨s4,us,rfl,?_⟩;rw [zg1,if_neg h0,dn];exact pO
  ·rintro ys H4 D2 ⟨s4,us,rfl,pO⟩ tZ;have Am:=s2.trans s4;exact q D2 us e _ (Am.free tZ) #[V3] zc #[WJ] hL
noncomputable def zjh (K:aD):Sp:=fun vs H Q _=>∃ (p:Int) (k:Nat) (a:Addr) (bs:List Addr) (rows:List #[At]),vs = [.int p,.int (k:Int),.ref a]/\p∈zt/\H a=some #[Ud]/\zaN H bs rows/\rows.length<=100/\(∀ r∈rows,r.length<=100)/\1<=k/\k<=5/\rows.length ^ k<=2000000/\(∃ j i,¬ Cg p (gl (rows.getD j []) i) 0) /\
 ∀ (l:Addr) (us:List Addr) (qs:List #[At]) (H':Hp),H l=none->zr H H'->H' l=some #[GT]->zaN H' us qs->qs.length<=2000000->zdr p k qs->(∀ q,q∈qs↔IsP p k q/\Zr p (AL k (gl q) rows.length fun j i=>gl (rows.getD j []) i))->Q #[Qy] H'
theorem zsc (rows:List #[At]) (j:Nat):(rows.getD j []).length<=wd rows:=by
 (rw [bY])
 cases h:rows[j]? with
 | none=>exact cB _
 | some r=>exact zfX (aU h)
theorem zpH {m:Nat} (h:∀ r∈rows,r.length<=m):wd rows<=m:=by
 by_cases e:rows = []
 ·subst e;exact cB _
 ·obtain⟨r,hr,e2⟩:=zeD e;rw [<- e2];exact h r hr
structure SI (p:Int) (n:Nat) (F0:Nat->Ps) (k s w:Nat) (tP:List (List Int×Nat×(Nat->Nat->Int))):Prop where
 rs:∀ st∈tP,RS p n F0 s st.1 st.2.1 st.2.2/\st.2.1<=w
 nd:(tP.map (·.1)).Nodup
 len:tP.length<=n ^ s
 all:∀ f,IsP p k f->Zr p (AL k (gl f) n F0)->f.take s∈tP.map (·.1)
theorem zpI {p:Int} {n:Nat} (p0:0 < p) (hn:n=rows.length) (xP:∃ j i,¬ Cg p (gl (rows.getD j []) i) 0):SI p n (fun j i=>gl (rows.getD j []) i % p) k 0 #[Sy] [([],(wd rows,fun j i=>gl (rows.getD j []) i % p))]:=by
 have rR:∀ j i,wd rows<=i->gl (rows.getD j []) i=0:=fun j i hi=>zeA (bR (zsc rows j) hi)
 refine⟨fun st qw=>?_,#[M],#[M],fun f _ _=>by simp⟩;rw [bF.mp qw];refine⟨⟨⟨rfl,fun x hx=>by cases hx⟩,fun j i hi=>?_,fun j i=>#[Rf],?_,fun m g=>?_⟩,aG _⟩
 ·show gl (rows.getD j []) i % p=0;rw [rR j i hi];rfl
 ·obtain⟨j,i,h⟩:=xP;refine⟨j,i,dm fun hj=>h ?_,dm fun hi=>h ?_,fun e=>h ?_⟩
  ·have:rows.getD j [] = []:=by rw [bY,eD #[O]]; rfl
   rw [this];exact Cg.refl _ _
  ·rw [rR j i (oh hi)];exact Cg.refl _ _
  ·exact #[Qv].symm.trans (Cg.of_eq e)
 ·have e:apl [] g=g:=by
   funext i;unfold apl;simp
  rw [e,eC]
theorem zrr {n s i m:Nat} (h:i<=n ^ s) (hm:m<=i*n):m<=n ^ (s+1):=by
 rw [nH];exact bR hm (jN n h)
theorem zbJ:KE ["p","k","curve","lines","starts","step"] ["p","k","curve"] (zh zbw):=#[S]
theorem zji (T:Txt K mg t) (F:Fun K "roots_of" "roots_of" zbw t.MC fd):Lf P w K mg base CX0 4 t.MC fd ["p","k","curve"] (zjh K):=by
 obtain⟨yB,rD,t6⟩:=T.MF;have ua:=zg4 (P:=P) (w:=w) (base:=base) T rD;obtain⟨rC,pQ,p8⟩:=T.Lk;have p9:=zb5 (P:=P) (w:=w) (base:=base) T pQ;obtain⟨DN,uV,yC⟩:=T.MY;have yD:=zj1 (P:=P) (w:=w) (base:=base) T uV;refine F.ok zbJ #[sK] #[mt]
 ·obtain⟨p,k,a,bs,rows,rfl,_⟩:=h;rfl
 ·obtain⟨p,k,a,bs,rows,rfl,hp,ha,hb,hn,hw,k1,k5,xj,xP,q⟩:=h;refine zaz ?_; intro zX;refine⟨_,#[ze,#[zn,3,zbJ.nd,#[A],#[zp,ua,#[v6],T.Ob,rD.kp,t6,#[zM],#[za,#[AT],#[RU]]]],#[ze,#[za3,#[zcS,#[zh6,#[zp,p9,#[v6],T.LY,pQ.kp,p8,#[zM],#[Su]],#[VU]]],#[zl,#[zB,#[TU]]],#[zan]],#[ze,#[zn,4,zbJ.nd,#[A],#[z9,#[ya,#[zai,#[za,#[zai,#[zd]],#[Su]]]]]],#[ze,#[zaX,cW,#[zae,T.La,#[P4]],#[zg,5,zbJ.nd,#[A]],#[zl,#[zfR,4,zbJ.nd,#[A],(K7.of (N':=["known","rest","longer","p"]) (ix:=[none,none,none,some 0]) (zh zbw) _ rfl rfl rfl),(zfv (js:=[0,1]) (zbm (js:=[0,1]) (i:=0) #[D] (zbm (js:=[0,1]) (i:=1) #[D] (zdV (js:=[0,1]))))),(zdU (js:=[2]) (i:=2) #[D]),#[z0,#[Qt]],#[or],#[ut],(fun _ _ _ _=>#[ziU,(K),#[zp,yD,#[v6],T.OF,uV.kp,yC,#[zM],#[za,#[P7],#[Vc]]]]),(fun _ _ _ _=>#[Tv]),#[ut],(fun _ _ _ _=>#[Id]),(by intros; rfl)]]],#[zl,#[zB,#[zq,(@zhu _),T.Ox,boot_sorted,#[ya,#[zO,(K7.of (N':=["known","rest"]) (ix:=[none,none]) (zh zbw) _ rfl rfl rfl),#[wP],#[z0,#[Qt]],#[or],(fun _ _ _ _=>#[zbD,#[zcS,#[zfo,#[zq,(zlZ (K:=K) rfl rfl),T.PQ,boot_any,#[ya,#[zU,#[TB],#[Db],#[zf]]]]]]]),#[QN]]]]]]]]]],?_⟩;refine zmB ?_; intro BV vT sG rh;have qP:=bO;have rp:=zC hp;have p0:0 < p:=by lia
  have hwd:wd rows<=100:=zpH hw;refine (pz rfl (pz rfl (ex4 p a bs rows ⟨rfl,#[O],#[O],ha,hb,hn,hw,fun l ls H1 hl s1 h1 qk=>?_⟩)));obtain⟨n,en⟩:∃ n,rows.length=n:=⟨_,rfl⟩;have hI0:=zpI (k:=k) p0 en.symm xP;rw [en] at hn qk xj;have Gq:=(hI0.rs _ bG).1;have yj:1<=n:=by obtain⟨j,_,hj,_⟩:=Gq.nz; lia
  refine (pz rfl (.inr (ex3 l ls _ ⟨rfl,h1,qk,by rw [zaS]; exact hn,fun r qA=>by rw [zf4 qA]; lia,fun l2 ts H2 rX s2 h2 yt=>?_⟩)));rw [zaS] at yt;have rH:=yt.length;have hte:ts≠[]:=fun e0=>by
   obtain⟨j0,i0,uz,Dp,p7⟩:=Gq.nz;have:=zdj.mpr ⟨i0,j0,rfl,uz,Dp,p7⟩;rw [e0] at rH;rw [gI.mp rH.symm] at this;cases this
  refine⟨true,.inl ⟨_,pA.of h2,?_⟩,zeS ?_⟩
  ·cases ts with
   | nil=>exact absurd rfl hte
   | cons x xs=>rfl
  have Al:=s2 _ _ h1;have Kq:=qk.same s2;refine⟨szq,fun ka Kn=>?_⟩;have u3:=zb (o:=.tup []) Kn;have f3:pB H2 ka (.tup []) ka=some (.tup (([]:List Int).map V.int)):=zc;generalize pB H2 ka (.tup [])=H3 at u3 f3 |-;refine (pz rfl ⟨szq,fun b vN=>?_⟩);have u4:=zb (o:=.tup [.ref ka,.ref l]) vN;have f4:pB H3 b (.tup [.ref ka,.ref l]) b=some (.tup [.ref ka,.ref l]):=zc;generalize pB H3 b (.tup [.ref ka,.ref l])=H4 at u4 f4 |-;refine⟨szq,fun sa vO=>?_⟩;have u5:=zb (o:=.lst [.ref b]) vO;have f5:pB H4 sa (.lst [.ref b]) sa=some (.lst ([b].map V.ref)):=zc;generalize pB H4 sa (.lst [.ref b])=H5 at u5 f5 |-;have EL:=u3.trans (u4.trans u5);have s05:=s1.trans (s2.trans EL);have hR0:RAs H5 n [b] [([],(wd rows,fun j i=>gl (rows.getD j []) i % p))]:=.cons ⟨ka,l,ls,u5 _ _ f4,(u4.trans u5) _ _ f3,EL _ _ Al,Kq.same EL⟩ .nil;refine⟨_,rfl,_,rfl,#[O],#[O],zaQ (lo:=0) (n:=((k:Nat):Int).toNat) (fun s σ H'=>∃ (sa:Addr) (bs:List Addr) (tP:List (List Int×Nat×(Nat->Nat->Int))) (e5:Option V),σ = [some #[Tz],some (.int (k:Int)),some #[QK],some #[Qy],some (.ref sa),e5]/\zr H H'/\H' sa=some #[Rb]/\RAs H' n bs tP/\SI p n (fun j i=>gl (rows.getD j []) i % p) k s (wd rows+s*n) tP)
   ⟨sa,[b],_,none,rfl,s05,f5,hR0,by rw [Nat.zero_mul,f']; exact hI0⟩ ?_ ?_⟩
  ·rintro zD zT s σ H6 hs ⟨sa,bs,tP,e5,rfl,s6,yp,Gr,An⟩;have hsk:s < k:=by lia
   have vU:=Gr.length;have pV:n ^ (s+1)<=2000000:=bR (mC yj #[O]) xj;have hwb:wd rows+s*n<=600:=by
    have:s*n<=4*100:=jW #[O] hn;lia
   refine⟨_,rfl,sa,rfl,⟨_,pA.of yp⟩,zdx (n:=bs.length) (fun i ys H'=>∃ (us:List Addr) (out:List (List Int×Nat×(Nat->Nat->Int))),ys=us.map V.ref/\zr H6 H'/\RAs H' n us out/\(∀ st∈out,RS p n (fun j i=>gl (rows.getD j []) i % p) (s+1) st.1 st.2.1 st.2.2/\st.2.1<=wd rows+(s+1)*n)/\(out.map (·.1)).Nodup/\(∀ o∈out,o.1.dropLast∈(tP.take i).map (·.1))/\out.length<=i*n/\∀ f,IsP p k f->Zr p (AL k (gl f) n fun j i=>gl (rows.getD j []) i % p)->f.take s∈(tP.take i).map (·.1)->f.take (s+1)∈out.map (·.1))
    ⟨[],[],rfl,fun _ _ e=>e,.nil,fun st h=>(by cases h),oV,fun o h=>(by cases h),cB _,fun f _ _ h=>(by simp at h)⟩ ?_ ?_ ?_ ?_⟩
   ·rintro i ys H7 hi ⟨us,out,rfl,s7,_⟩;exact⟨_,.ref bs[i],pA.of (s7 _ _ yp),by rw [aF,aJ hi]; rfl⟩
   ·rintro ys H7 ⟨us,out,rfl,s7,_⟩;exact⟨_,pA.of (s7 _ _ yp),by rw [aA]; exact aG _⟩
   ·rintro i y ys H7 H8 hi ⟨us,out,rfl,s7,pO,Kr,qM,EE,hol,HJ⟩ ⟨rfl,hy⟩;obtain⟨sb,rfl,qO⟩:=zQ (hy _ (pA.of (s7 _ _ yp)));obtain⟨⟨known,wi,c⟩,qw,ka,na,xg,z1,z2,z3,z4⟩:=Paired.get (Gr.same s7) qO;obtain⟨R,hwi⟩:=An.rs _ (aU qw);dsimp only at R hwi z2 z4;have hkl:known.length=s:=R.kn.1;refine gY2 (pK.of z1) ?_;refine (pz rfl (pz rfl (pz rfl (ex8 p ka na known xg n wi c ⟨rfl,z2,z3,z4,#[O],yj,hn,#[O],hp,R.nz,R.dg,R.rg,fun fl vs e H9 Gb s9 h9 vH hL=>?_⟩))));have J':=znV hp (m:=p.toNat) #[O] R.rg hL;have sE:=vH.length;have FE:#[WV].length=#[Sl].length:=by unfold nxs; rw [aA]
    have tL:=pO.length;have hiN:(i+1)*n<=2000000:=by
     have h1:(i+1)*n<=n ^ (s+1):=by rw [nH]; exact jN n (by have:=An.len; lia)
     exact bR h1 pV
    rw [kJ] at hiN;refine⟨fl,rfl,⟨_,pA.of h9⟩,zdx (n:=vs.length) (fun r ys H'=>H'=H9/\ys=(us++vs.take r).map V.ref) ⟨rfl,by rw [gz,dn]⟩ ?_ ?_ ?_ ?_⟩
    ·rintro r ys Ha qA ⟨rfl,_⟩;exact⟨_,.ref vs[r],pA.of h9,by rw [aF,aJ qA]; rfl⟩
    ·rintro ys Ha ⟨rfl,_⟩;exact⟨_,pA.of h9,by rw [aA]; exact aG _⟩
    ·rintro r y2 ys Ha Hb qA ⟨rfl,rfl⟩ ⟨rfl,Ex⟩;obtain⟨v,rfl,hv⟩:=zQ (Ex _ (pA.of h9));refine gY (pz rfl ⟨by rw [aA,aL,bD]; lia,rfl,?_⟩);rw [take_snoc hv,<- cK,aN (l₁:=us++vs.take r)];rfl
    rintro ys Ha ⟨rfl,rfl⟩;rw [d6];have Et:known∉(tP.take i).map (·.1):=fun hm=>by
     obtain⟨s',qG,e0⟩:=aZ.mp hm;obtain⟨i',qF⟩:=jK qG;rw [nJ] at qF;split at qF
     ·next pT =>
      have h1:(tP.map (·.1))[i']? = some s'.1:=by rw [aF,qF]; rfl
      have h2:(tP.map (·.1))[i]? = some known:=by rw [aF,qw]; rfl
      have:=(List.getElem?_inj (j:=i) (aP.mp h1).1 An.nd).mp (by rw [h1,h2,e0]);lia
     ·cases qF
    have CL:=zjS (fun b=>(wi - e+(n - 1),zgp p b n e c)) qM EE Et (zf5 p n e c p.toNat);refine⟨us++vs,out++nxs p n e wi c known #[Sl],rfl,s7.trans s9,zdy (pO.same s9) vH,fun st qG=>?_,CL.1,?_,?_,fun f hf hz ht=>?_⟩
    ·rcases bQ.mp qG with h | h
     ·exact Kr st h
     ·obtain⟨b,Ks,rfl⟩:=aZ.mp h;have hbr:=(zeg.mp Ks).1;refine⟨zpp hp R hL ⟨hbr.1,#[O]⟩,?_⟩;show wi - e+(n - 1)<=wd rows+(s+1)*n;rw [kJ];lia
    ·rw [take_snoc qw,aN];exact CL.2
    ·rw [aL,FE,kJ];lia
    ·rw [take_snoc qw,aN,bQ] at ht;rw [aN,bQ];rcases ht with ht | ht
     ·exact .inl (HJ f hf hz ht)
     ·right;have xZ:known=f.take s:=(bF.mp ht).symm;obtain⟨m,em⟩:∃ m,k=s+(m+1):=⟨k - s - 1,#[O]⟩;have vG:=zpq (m:=m+1) R (by rw [hf.1,em]) xZ (by rw [<- em]; exact hz);have Kt:=zrc hL vG;have hfs:s < f.length:=by rw [hf.1]; exact hsk
      have hfg:=zcc hfs;obtain⟨b0,b1⟩:=hf.2 _ (aU hfg);refine aZ.mpr ⟨_,aZ.mpr ⟨gl f s,zeg.mpr ⟨⟨b0,#[O]⟩,?_⟩,rfl⟩,?_⟩
      ·exact Cg.eq (znU.trans Kt) (zbR p0 _) (zbS p0 _) (dB 0) p0
      ·show known++[gl f s]=f.take (s+1);rw [take_snoc hfg,xZ]
   ·rintro ys H7 ⟨us,out,rfl,s7,pO,Kr,qM,EE,hol,HJ⟩ D hD;rw [vU,d6] at HJ;refine (ex4 D us out _ ⟨rfl,(s6.trans s7).trans (zb hD),zc,pO.same (zb hD),Kr,qM,zrr An.len (by rw [<- vU]; exact hol),fun f hf hz=>HJ f hf hz (An.all f hf hz)⟩)
  ·rintro σ H6 ⟨sa,bs,tP,e5,rfl,s6,yp,Gr,An⟩;have ek:((k:Nat):Int).toNat=k:=by lia
   rw [ek] at An;have vU:=Gr.length;have Ku:=bR An.len xj;obtain⟨n',rfl⟩:∃ n',n=n'+1:=⟨n - 1,#[O]⟩;have hzero:∀ st∈tP,(Zr p (AL k (gl st.1) (n'+1) fun j i=>gl (rows.getD j []) i % p)↔((bA st.2.1).map fun i=>st.2.2 0 i).any (· != 0)=false):=fun st qw=>by
    rw [zrd hp (An.rs st qw).1,List.any_map];constructor
    ·intro h;rw [kq];intro i hi;simpa using h i (bU.mp hi)
    ·intro h i hi;have:=kq.mp h i (bU.mpr hi);simpa using this
   refine (pz rfl ⟨sa,rfl,⟨_,pA.of yp⟩,zW (n:=bs.length) (fun m ys H'=>H'=H6/\∃ ps:List (Addr×List Int),ys=ps.map (fun q=>V.ref q.1)/\(∀ q∈ps,H6 q.1=some (.tup (q.2.map V.int)))/\ps.map (·.2)=((tP.take m).filter fun st=>!((bA st.2.1).map fun i=>st.2.2 0 i).any (· != 0)).map (·.1)) ⟨rfl,[],rfl,fun q h=>(by cases h),rfl⟩ ?_ ?_ ?_ ?_⟩)
   ·rintro m ys H7 hm ⟨rfl,_⟩;exact⟨_,.ref bs[m],pA.of yp,by rw [aF,aJ hm]; rfl⟩
   ·rintro ys H7 ⟨rfl,_⟩;exact⟨_,pA.of yp,by rw [aA]; exact aG _⟩
   ·rintro zS zT zE m y ys H7 H8 hm ⟨rfl,ps,rfl,pV,CM⟩ ⟨rfl,hy⟩;obtain⟨sb,rfl,qO⟩:=zQ (hy _ (pA.of yp));obtain⟨⟨known,wi,c⟩,qw,ka,na,xg,z1,z2,z3,z4⟩:=Paired.get Gr qO;dsimp only at z2 z4;have wY:=z4.length;rw [zaS] at wY;have hlb:xg[0]? = some (xg[0]'#[O]):=aJ _;obtain⟨r,qA,Kv⟩:=Paired.get z4 hlb;rw [zav #[O]] at qA;cases qA;refine⟨sb,_,rfl,pK.of z1,rfl,_,_,rfl,_,_,rfl,rfl,?_⟩;refine (pz rfl (ex4 na _ _ _ ⟨rfl,rfl,pA.of z3,zay (j:=0) (by rw [aF,hlb]; rfl),_,_,rfl,pA.of Kv,#[Qz]⟩));have qh:ps.length<=m:=by
     have:=congrArg iq CM;rw [aA,aA] at this;rw [this];exact bR (dQ _ _) (by rw [bD]; lia)
    have yk:(tP.take (m+1)).filter (fun st=>!((bA st.2.1).map fun i=>st.2.2 0 i).any (· != 0))=(tP.take m).filter (fun st=>!((bA st.2.1).map fun i=>st.2.2 0 i).any (· != 0))++[(known,wi,c)].filter (fun st=>!((bA st.2.1).map fun i=>st.2.2 0 i).any (· != 0)):=by rw [take_snoc qw,eE]
    refine za6 (fun h=>(pz rfl ⟨by rw [aA]; lia,rfl,ps++[(ka,known)],by rw [aN]; rfl,fun q hq=>?_,?_⟩)) (fun h=>⟨rfl,ps,rfl,pV,?_⟩)
    ·rcases (bQ.mp hq) with hq | hq
     ·exact pV q hq
     ·(rw [bF.mp hq])
      exact z2
    ·rw [yk,fP (p:=fun st:List Int×Nat×(Nat->Nat->Int)=>!((bA st.2.1).map fun i=>st.2.2 0 i).any (· != 0)) h,aN,aN,CM];rfl
    ·rw [yk,fQ (p:=fun st:List Int×Nat×(Nat->Nat->Int)=>!((bA st.2.1).map fun i=>st.2.2 0 i).any (· != 0)) h,gQ,dn];exact CM
   rintro ys H7 D ⟨rfl,ps,rfl,pV,CM⟩ hD;rw [vU,d6] at CM;have u7:=zb (o:=.lst (ps.map fun q=>V.ref q.1)) hD;have rn:∀ x,x∈ps.map (·.2)↔IsP p k x/\Zr p (AL k (gl x) (n'+1) fun j i=>gl (rows.getD j []) i % p):=fun x=>by
    rw [CM];constructor
    ·intro h;obtain⟨st,qw,rfl⟩:=aZ.mp h;obtain⟨h1,h2⟩:=cV.mp qw;exact⟨(An.rs st h1).1.kn,(hzero st h1).mpr (by simpa using h2)⟩
    ·rintro⟨h1,h2⟩;have h3:=An.all x h1 h2;rw [bC (by rw [h1.1]; exact aG _)] at h3;obtain⟨st,qw,rfl⟩:=aZ.mp h3;exact aZ.mpr ⟨st,cV.mpr ⟨qw,by rw [(hzero st qw).mp h2]; rfl⟩,rfl⟩
   have hNd:(ps.map (·.2)).Nodup:=by
    rw [CM];exact (mZ.map _).nodup An.nd
   refine (ex4 D k p ps ⟨rfl,pA.of zc,fun q hq=>?_,k1,#[O],fun l9 rS hl9 sd hpw=>?_⟩)
   ·have hm:=(rn q.2).mp (aZ.mpr ⟨q,hq,rfl⟩);exact⟨u7 _ _ (pV q hq),hm.1.1,hm.1.2⟩
   have u9:=zb (o:=.lst (rS.map fun q=>V.ref q.1)) hl9;have s07:=s6.trans u7;have vz:=sd.map (·.2);refine q l9 (rS.map (·.1)) (rS.map (·.2)) _ (s07.free hl9) (s07.trans u9) (by rw [zc,cR]; rfl) (zaN.of fun q hq=>u9 _ _ (u7 _ _ (pV q (sd.mem_iff.mp hq)))) (by
    rw [vz.length_eq,CM,aA];exact bR (dQ _ _) Ku) (zkO #[O] (fun x hx=>((rn x).mp (vz.mem_iff.mp hx)).1) (vz.nodup_iff.mpr hNd) (dE.mpr hpw)) fun x=>?_
   rw [vz.mem_iff,rn x,en];have hc:∀ i,Cg p (AL k (gl x) (n'+1) (fun j i=>gl (rows.getD j []) i % p) i) (AL k (gl x) (n'+1) (fun j i=>gl (rows.getD j []) i) i):=fun i=>zqb (fun j i _=>Cg.emod p _) i
   rw [zqc hc]
theorem zcN:KE ["things","many","chosen","step"] ["things","many"] (zh zbW):=#[S]
theorem zj2 (T:Txt K mg t) (F:Fun K "choices" "choices" zbW t.NF fd):Lf P w K mg base CX0 1 t.NF fd ["things","many"] (zjH K):=by
 refine F.ok zcN #[sK] #[mt]
 ·obtain⟨a,m,xs,rfl,_⟩:=h;rfl
 ·obtain⟨a,m,xs,rfl,hS,hx,hm,q⟩:=h;refine zaz ?_; intro zX;refine⟨_,#[ze,#[zn,2,zcN.nd,#[A],#[z9,#[ya,#[zai,#[za,#[zf],#[ya,#[TU]]]]]]],#[ze,#[zaX,cW,#[zae,T.La,#[P4]],#[zg,3,zcN.nd,#[A]],#[zl,#[zfR,2,zcN.nd,#[A],(K7.of (N':=["start","picked","at","things"]) (ix:=[none,none,none,some 0]) (zh zbW) _ rfl rfl rfl),(zfv (js:=[0,1]) (zbm (js:=[0,1]) (i:=0) #[D] (zbm (js:=[0,1]) (i:=1) #[D] (zdV (js:=[0,1]))))),(zdU (js:=[2]) (i:=2) #[D]),#[z0,#[Id]],#[or],#[ut],(fun _ _ _ _=>#[zgz,T.La,#[za,#[AT],#[ya,#[zq,#[zaU,(K)],T.MR,dS,#[Su]]]]]),(fun _ _ _ _=>#[Tv]),#[ut],(fun _ _ _ _=>#[zai,#[za,#[zj,#[zY],#[Id],#[zf]],#[ya,#[zj,#[zbK],#[Db],#[z9,#[ya,#[zU,#[TB],#[P7],#[Id]]]]]]]]),(by intros; rfl)]]],#[zl,#[zB,#[zO,(K7.of (N':=["start","picked"]) (ix:=[none,none]) (zh zbW) _ rfl rfl rfl),#[wP],#[z0,#[Id]],#[or],#[ut],(fun _ _ _ _=>#[Db])]]]]],?_⟩;refine zfu ?_; intro sG rh;have qP:=bO;refine⟨cB _,fun L0 hL0=>⟨szq,fun T0 hT0=>⟨szq,fun c hc=>?_⟩⟩⟩;have u0:=zb (o:=.lst []) hL0;have u1:=zb (o:=.tup [.int 0,.ref L0]) hT0;have u2:=zb (o:=.lst [.ref T0]) hc;have Gs:zfS (pB (pB (pB H L0 (.lst [])) T0 (.tup [.int 0,.ref L0])) c (.lst [.ref T0])) [T0] (chs xs 0):=.cons ⟨L0,u2 _ _ zc,(u1.trans u2) _ _ zc⟩ .nil;have hc0:pB (pB (pB H L0 (.lst [])) T0 (.tup [.int 0,.ref L0])) c (.lst [.ref T0]) c=some (.lst ([T0].map V.ref)):=zc;have s0:=(u0.trans u1).trans u2;generalize pB (pB (pB H L0 (.lst [])) T0 (.tup [.int 0,.ref L0])) c (.lst [.ref T0])=H0 at Gs hc0 s0 |-;refine (pz rfl #[RL]);rw [dq];refine zaQ (lo:=0) (n:=m) (fun i σ H'=>∃ (c:Addr) (ts:List Addr) (e3:Option V),σ = [some #[QK],some (.int m),some (.ref c),e3]/\zr H H'/\H' c=some #[Us]/\zfS H' ts (chs xs i)) (ex3 c ([T0]) none ⟨rfl,s0,hc0,Gs⟩) ?_ ?_
  ·rintro zD zT i σ H1 hi ⟨c,ts,e3,rfl,s1,vi,wB⟩;have uM:=wB.length;have Fv:=zez (xs:=xs) (i+1) hx;have Gb:((chs xs i).flatMap (nxt xs)).length<=65536:=Fv;refine (pz rfl ⟨c,rfl,⟨_,pA.of vi⟩,zdx (n:=ts.length) (fun i' ys H'=>∃ us:List Addr,ys=us.map V.ref/\zr H1 H'/\zfS H' us (((chs xs i).take i').flatMap (nxt xs))) ⟨[],rfl,fun _ _ e=>e,.nil⟩ ?_ ?_ ?_ ?_⟩)
   ·rintro i' ys H2 qF ⟨us,_,s2,_⟩;exact⟨_,.ref ts[i'],pA.of (s2 _ _ vi),by rw [aF,aJ qF]; rfl⟩
   ·rintro ys H2 ⟨us,_,s2,_⟩;exact⟨_,pA.of (s2 _ _ vi),by rw [aA]; exact aG _⟩
   ·rintro i' y ys H2 H3 qF ⟨us,rfl,s2,pO⟩ ⟨rfl,hy⟩;obtain⟨tt,rfl,EF⟩:=zQ (hy _ (pA.of (s2 _ _ vi)));obtain⟨cc,qz,qY⟩:=Paired.get wB EF;obtain⟨L,AH,Cw⟩:=qY.same s2;have hle:=zqZ (aU qz);have qh:=ziM (aU qz);obtain⟨st,pk⟩:=cc;dsimp only at AH Cw hle qh;refine gY2 (pK.of AH) ?_;refine (pz rfl (pz rfl ⟨a,xs,rfl,.inl (#[Wj].seq hS),_,_,rfl,⟨#[O],#[O],#[O],#[O]⟩,?_⟩));have en:((xs.length:Int) - (st:Int)).toNat=xs.length - st:=by lia
    rw [en];refine zdx (n:=xs.length - st) (fun j ys H'=>∃ us:List Addr,ys=us.map V.ref/\zr H3 H'/\zfS H' us (((chs xs i).take i').flatMap (nxt xs)++(nxt xs (st,pk)).take j)) ⟨us,rfl,fun _ _ e=>e,by rw [gz,dn]; exact pO⟩ (fun j ys H' hj _=>hj) #[P6] ?_ ?_
    ·rintro j z ys H4 H5 hj ⟨us,rfl,s4,pO⟩ ⟨rfl,rfl⟩;obtain⟨x,xH⟩:∃ x,xs[st+j]? = some x:=⟨xs[st+j]'#[O],#[M]⟩;have qY:atI xs ((st:Int)+(j:Int))=some x:=by
      have e:((st+j:Nat):Int)=(st:Int)+j:=by lia
      rw [<- e];exact zay xH
     have hng:=zo1 (c:=(st,pk)) xH;have tL:=pO.length;have hpart:=zlK (f:=nxt xs) qz (show j < (nxt xs (st,pk)).length by rw [zhv]; exact hj);have J':=zhv xs (st,pk);refine gY ?_;refine (pz rfl (pF rfl rfl (pz rfl (pz rfl (pz rfl (ex4 a xs _ x ⟨rfl,rfl,(#[Wj].trans s4).seq hS,qY,szq,fun b hb=>?_⟩))))));have v1:=zb (o:=.lst [x]) hb;refine (ex4 L b pk ([x]) ⟨rfl,rfl,(s4.trans v1) _ _ Cw,zc,by show pk.length+1<=sizeLine; lia,fun L2 Gu=>⟨szq,fun T2 BZ=>⟨?_,us++[T2],by rw [aN]; rfl,?_,?_⟩⟩⟩)
     ·rw [aA,tL,aL,bD];lia
     ·exact s4.trans (v1.trans ((zb Gu).trans (zb BZ)))
     ·rw [take_snoc hng,<- cK];refine cY (pO.same (v1.trans ((zb Gu).trans (zb BZ)))) ⟨L2,?_,(zb BZ) _ _ zc⟩;rw [zc];show some (HO.tup [.int ((st:Int)+(j:Int)+1),.ref L2])=some (HO.tup [.int ((st+j+1:Nat):Int),.ref L2]);have e:((st+j+1:Nat):Int)=(st:Int)+j+1:=by lia
      rw [e]
    ·rintro ys H4 ⟨us,rfl,s4,pO⟩;rw [bC (l:=nxt xs (st,pk)) (by rw [zhv]; exact aG _)] at pO;exact⟨us,rfl,s2.trans s4,by rw [zlL qz]; exact pO⟩
   ·rintro ys H2 ⟨us,rfl,s2,pO⟩ D hD;rw [uM,bC (aG _)] at pO;exact (ex3 D us _ ⟨rfl,s1.trans (s2.trans (zb hD)),zc,pO.same (zb hD)⟩)
  ·rintro σ H1 ⟨c,ts,e3,rfl,s1,vi,wB⟩;have uM:=wB.length;have Fv:=zez (xs:=xs) m hx;refine (pz rfl ⟨c,rfl,⟨_,pA.of vi⟩,zW (n:=ts.length) (fun i ys H'=>H'=H1/\∃ us:List Addr,ys=us.map V.ref/\ziN H1 us ((#[SE].map (·.2)).take i)) ⟨rfl,[],rfl,.nil⟩ ?_ ?_ ?_ ?_⟩)
   ·rintro i ys H2 hi ⟨rfl,_⟩;exact⟨_,.ref ts[i],pA.of vi,by rw [aF,aJ hi]; rfl⟩
   ·rintro ys H2 ⟨rfl,_⟩;exact⟨_,pA.of vi,by rw [aA]; exact aG _⟩
   ·rintro zS zT zE i y ys H2 H3 hi ⟨rfl,us,rfl,pO⟩ ⟨rfl,hy⟩;obtain⟨tt,rfl,EF⟩:=zQ (hy _ (pA.of vi));obtain⟨cc,qz,L,AH,Cw⟩:=Paired.get wB EF;have tL:=pO.length;refine gY2 (pK.of AH) ⟨_,rfl,?_,rfl,us++[L],by rw [aN]; rfl,?_⟩
    ·rw [aA,tL,bD,aA];lia
    ·have Kw:(#[SE].map (·.2))[i]? = some cc.2:=by rw [aF,qz]; rfl
     rw [take_snoc Kw];exact cY pO Cw
   ·rintro ys H2 D ⟨rfl,us,rfl,pO⟩ hD;rw [bC (by rw [aA,uM]; exact aG _)] at pO;exact q D us _ (s1.free hD) #[Sw] zc #[QU]
theorem zfm:KE ["code","row","polynomial","p","k","places"] ["code","row","polynomial"] (zh zf7):=#[S]
theorem zk4 (T:Txt K mg t) (F:Fun K "fits" "fits" zf7 t.fits fd):Lf P w K mg base CX0 2 t.fits fd ["code","row","polynomial"] (zoM K):=by
 obtain⟨tf,pU,qd⟩:=T.Lz;have qe:=zc7 (P:=P) (w:=w) (base:=base) T pU;refine F.ok zfm #[sK] #[mt]
 ·obtain⟨c,tt,ra,po,p,k,pl,qc,rw,rfl,_⟩:=h;rfl
 ·obtain⟨c,tt,ra,po,p,k,pl,qc,rw,rfl,hc,uu,rL,FY,p0,p1,qh,hn,q⟩:=h;refine zaz ?_; intro zX;refine⟨_,#[ze,#[za5,#[AT],#[zaW,#[zi,#[zg,3,zfm.nd,#[RD]],#[zi,#[zg,4,zfm.nd,#[A]],#[zi,#[zg,5,zfm.nd,#[A]],#[zF]]]]]],#[zl,#[zB,#[zO,(K7.of (N':=["at","place","entry","p","polynomial"]) (ix:=[none,none,none,some 3,some 2]) (zh zf7) _ rfl rfl rfl),#[zaJ,#[zy,(@zlf _ _ _ #[wP] #[zap] zjC)]],(@zjB _ _ _ _ _ _ _ _ _ _ _ rfl T.LA rfl T.OW #[za,#[TY],#[P4]] (by rfl) (by rfl) (by rfl)),(fun _ _ _ _=>#[zaf,(K),2,#[zi,#[zg,0,#[Y],#[A]],#[zi,#[zaf,(K),2,#[zi,#[zg,1,#[Y],#[A]],#[zi,#[Tv],#[zF]]]],#[zF]]]]),(fun _ _ _ _=>#[zbD,#[zZ,#[zeF],#[Id],#[zp,qe,#[v6],T.LX,pU.kp,qd,#[zM],#[za,#[P7],#[za,#[Qt],#[P4]]]],(zad _)]]),#[QN]]]]],?_⟩;refine zgj ?_; intro rh;refine⟨_,rfl,c,_,rfl,pK.of hc.1,rfl,_,_,rfl,_,_,rfl,_,_,rfl,rfl,?_⟩;refine (pz rfl (pz rfl (ex4 tt ra _ _ ⟨rfl,pK.of hc.2,pA.of uu,zW (n:=pl.length) (fun i ys H'=>ys=(zeU p pl rw qc i).map V.int/\zr H H') ⟨rfl,fun _ _ e=>e⟩ ?_ ?_ ?_ ?_⟩)))
  ·rintro i ys H3 hi ⟨_,s3⟩;obtain⟨o,ho⟩:∃ o,rw[i]? = some o:=⟨rw[i]'#[O],#[M]⟩;exact⟨_,_,.int pl[i],tS o,pK.of (s3 _ _ hc.2),pA.of (s3 _ _ uu),by rw [aF,aJ hi]; rfl,by rw [aF,ho]; rfl⟩
  ·rintro ys H3 ⟨_,s3⟩;exact⟨_,_,pK.of (s3 _ _ hc.2),pA.of (s3 _ _ uu),by rw [aA]⟩
  ·rintro zS zT zE i xx ys H3 H4 hi ⟨rfl,s3⟩ ⟨T1,T2,u,v,Kx,BZ,p7,rfl,rfl,hu,hv⟩;obtain⟨x,rfl,hx⟩:=zaC (hu _ (pK.of (s3 _ _ hc.2)));obtain⟨o,rfl,ho⟩:=zkt (hv _ (pA.of (s3 _ _ uu)));obtain⟨x0,x1⟩:=qh x (aU hx);have s4:zr H3 (pB (pB H3 T1 (.tup [.int x,tS o])) T2 (.tup [.int i,.ref T1])):=zak (zb Kx) BZ;refine⟨T2,_,rfl,pK.of zc,rfl,_,_,rfl,_,_,rfl,T1,_,rfl,pK.of (by rw [zm p7]; exact zc),rfl,_,_,rfl,_,_,rfl,rfl,rfl,?_⟩;refine (pz rfl (pz rfl (pz rfl (pz rfl (ex4 p x po qc ⟨rfl,.inr (pK.of ((s3.trans s4) _ _ FY)),p0,p1,x0,x1,zmW o _,#[Qz]⟩)))));rw [zgS,zmX hx ho,aN];have pI:=ziu p pl rw qc i;refine za6 (fun h1=>(pz rfl ⟨zaq (by rw [aA]; lia),?_,s3.trans s4⟩)) (fun h1=>⟨?_,s3.trans s4⟩)
   ·rw [if_pos h1];rfl
   ·rw [if_neg h1];simp
  ·rintro ys H3 D ⟨rfl,s3⟩ hD;exact q D _ (s3.free hD) (s3.trans (zb hD)) zc
theorem zqg {p:Int} (hP:Pts p pJ):pJ.map (md p)=pJ:=by
 refine (dD fun q hq=>?_).trans (n4 _);obtain⟨_,_,h1,h2⟩:=hP.rg q hq;show (q.1,q.2 % p)=q;rw [fc h1 h2]
theorem zaL:KE ["code","points","p","k","places","found","picked"] ["code","points"] (zh zba):=#[S]
theorem zgf (T:Txt K mg t) (F:Fun K "all_through" "all_through" zba t.Ln fd):Lf P w K mg base CX0 4 t.Ln fd ["code","points"] (zfU K):=by
 obtain⟨DO,uW,yE⟩:=T.MZ;have yF:=zj2 (P:=P) (w:=w) (base:=base) T uW;obtain⟨DP,uX,yG⟩:=T.MT;have yH:=zjU (P:=P) (w:=w) (base:=base) T uX;refine F.ok zaL #[sK] #[mt]
 ·obtain⟨c,tt,a,p,k,pl,bs,pJ,rfl,_⟩:=h;rfl
 ·obtain⟨c,tt,a,p,k,pl,bs,pJ,rfl,hc,hS,hB,hn,hp,hP,k0,k1,q⟩:=h;have hu:(A.deeper (envOfC (cQ "all_through") (zh zba) s.heap.objs.size t.Ln pR)).units+1 < cLine:=by have:=hr.units; lia
  refine zaz ?_; intro zX;refine⟨_,#[ze,#[za5,#[AT],#[zaW,#[zi,#[zg,2,zaL.nd,#[A]],#[zi,#[zg,3,zaL.nd,#[A]],#[zi,#[zg,4,zaL.nd,#[A]],#[zF]]]]]],#[ze,#[zn,5,zaL.nd,#[A],(@znd _ _)],#[ze,#[zaX,cW,#[z0,#[zp,yF,#[v6],T.OG,uW.kp,yE,#[zM],#[Vb]]],#[zg,6,zaL.nd,#[A]],#[zl,(@zoQ _ _ _ _ _ _ _ _ _ hu #[TY] #[zp,yH,#[v6],T.OA,uX.kp,yG,#[zM],#[za,#[Id],#[UG]]] #[zdQ] rfl)]],#[zl,#[zB,#[zq,(@zht _ rfl),T.Ox,boot_sorted,#[QH]]]]]]],?_⟩;refine zg9 ?_; intro vT sG rh;have qP:=bO;have rp:=zC hp;obtain⟨zs,rfl,rfl,hz⟩:=hB.zs;rw [aA] at hn;refine⟨_,rfl,c,_,rfl,pK.of hc.1,rfl,_,_,rfl,_,_,rfl,_,_,rfl,rfl,fun D hD=>?_⟩;have s0:=zb (o:=.dT []) hD;have Gh:pB H D (.dT []) D=some (.dT []):=zc;generalize pB H D (.dT [])=H0 at s0 Gh |-;refine (pz rfl (pz rfl (ex3 a k _ ⟨rfl,s0.seq hS,by rw [aA,aA]; lia,#[O],fun l ls H1 hl s1 tJ HK=>?_⟩)));have hlD:l≠D:=fun e=>by rw [e,Gh] at hl; cases hl
  rw [cR,zgZ (V.ref ∘ fun z:Addr×Int×Int=>z.1) zs k] at HK;have qh:=HK.length;rw [aA,aA] at qh;have Fv:=zez (xs:=zs) k hn;obtain⟨EM,Ca⟩:∃ EM,(chs zs k).map (·.2)=EM:=⟨_,rfl⟩;rw [Ca] at HK;have Kg:ls.length=EM.length:=by rw [qh,<- Ca,aA]
  have Gv:H1 D=some (.dT []):=s1 _ _ Gh;have hid:=zmV H1 D;refine⟨l,rfl,⟨_,pA.of tJ⟩,zbU (K:=K) (a:=l) (xs:=ls.map V.ref) (fun i σ H'=>∃ (pD:List (List Key×V)) (qQ:List #[At]) (e6:Option V),σ = [some (.ref c),some #[QK],some #[Tz],some (.int k),some (.ref tt),some #[QE],e6] /\
   zr (hide H1 D) H'/\H' D=some #[TZ]/\KeysAre pD qQ/\qQ.Nodup/\qQ.length<=i/\∀ x,x∈qQ↔∃ zk∈EM.take i,x=thr p (zk.map (·.2)))
   ⟨[],[],none,rfl,hid,Gv,rfl,#[M],aG _,fun x=>by simp⟩ (fun i σ H' _ ⟨_,_,_,_,s3,_⟩=>pA.of (s3 _ _ (ze7 tJ hlD))) ?_ ?_⟩
  ·rintro zD zT i y σ H2 hy ⟨pD,qQ,e6,rfl,s2,Ky,Dy,qM,Kz,rn⟩;obtain⟨b,rfl,xb⟩:=zQ hy;obtain⟨hi,_⟩:=aP.mp xb;obtain⟨vk,Gw,vh⟩:=Paired.get HK xb;obtain⟨zk,hzk,rfl⟩:∃ zk,EM[i]? = some zk/\vk=zk.map (V.ref ∘ fun z:Addr×Int×Int=>z.1):=by
    rw [aF] at Gw;cases e:EM[i]? with
    | none=>rw [e] at Gw; cases Gw
    | some zk=>rw [e] at Gw; exact⟨zk,rfl,(bJ Gw).symm⟩
   have hbD:b≠D:=fun e=>by rw [e,Gv] at vh; cases vh
   obtain⟨AB,pI⟩:=zhw.mp (by rw [Ca]; exact aU hzk:zk∈(chs zs k).map (·.2));have HL:Pts p (zk.map (·.2)):=hP.sub (AB.map _);have KA:zpV K H2 b (zk.map (·.2)):=by
    refine⟨zk.map (·.1),?_,by rw [aA,aA],fun j b' q' h1 h2=>?_⟩
    ·have:=s2 _ _ (ze7 vh hbD);rw [cR];exact pA.of this
    ·rw [aF] at h1 h2;cases e:zk[j]? with
     | none=>rw [e] at h1; cases h1
     | some z =>
      rw [e] at h1 h2;cases h1;cases h2;have uQ:=hz z (AB.subset (aU e));have hzD:z.1≠D:=zu uQ hD;exact s2 _ _ (ze7 ((s0.trans s1) _ _ uQ) hzD)
   have hmf:pD.length=qQ.length:=by
    have:=congrArg iq Dy;rw [aA,aA] at this;exact this
   refine (pz rfl (pz rfl (pz rfl (ex3 p b _ ⟨rfl,KA,by rw [aA]; lia,hp,(by rw [zqg HL]; exact HL),(fun q hq=>by have:=HL.rg q hq; lia),fun tl H3 rH s3 h3=>?_⟩))));rw [zqg HL] at h3;have h3D:=s3 _ _ Ky;refine⟨D,(pz rfl ⟨znc.t (k:=(thr p (zk.map (·.2))).map ff) h3D (by rw [h3,cR]; rfl) #[O],?_⟩)⟩;obtain⟨ym,m1,m2,m3,m4⟩:=znx Dy qM (thr p (zk.map (·.2))) (.bl true);refine (ex3 _ ym _ ⟨rfl,?_,zc,m1,m2,#[O],fun x=>?_⟩)
   ·refine zak #[Ue] ?_;unfold hide;rw [if_pos rfl]
   ·rw [m4 x,rn x,take_snoc hzk];constructor
    ·rintro (⟨KC,h1,h2⟩ | e)
     ·exact⟨KC,bV _ h1,h2⟩
     ·exact⟨zk,bH _ (bF.mpr rfl),e⟩
    ·rintro⟨KC,h1,h2⟩;rcases (bQ.mp h1) with h1 | h1
     ·exact .inl ⟨KC,h1,h2⟩
     ·rw [bF.mp h1] at h2;exact .inr h2
  ·rintro σ H2 ⟨pD,qQ,e6,rfl,s2,Ky,Dy,qM,Kz,rn⟩;rw [aA,Kg] at rn Kz;rw [d6] at rn;rw [<- Kg,qh] at Kz;have uv:∀ x,x∈qQ↔∃ pk∈(chs (zs.map (·.2)) k).map (·.2),x=thr p pk:=fun x=>by
    rw [rn x,zgZ,Ca];constructor
    ·rintro⟨zk,h1,h2⟩;exact⟨_,iA h1,h2⟩
    ·rintro⟨pk,h1,h2⟩;obtain⟨zk,h3,rfl⟩:=aZ.mp h1;exact⟨zk,h3,h2⟩
   have Gx:∀ x∈qQ,IsP p k x:=fun x hx=>by
    obtain⟨pk,h1,rfl⟩:=(uv x).mp hx;exact zkL hp hP h1
   refine (pz rfl (ex5 D k p pD qQ ⟨rfl,Ky,Dy,fun ms hm=>Gx ms hm,k0,#[O],fun r rS qA sd Gy hH=>?_⟩));have hHs:zr H H2:=fun x u e=>s2 _ _ (ze7 ((s0.trans s1) _ _ e) (zu e hD))
   have e1:rS.map (fun q=>V.ref q.1)=(rS.map (·.1)).map V.ref:=by rw [cR]; rfl
   rw [e1];refine q r (rS.map (·.1)) (rS.map (·.2)) _ (hHs.free qA) (hHs.trans (zb qA)) zc ((zaN.of hH).same (zb qA)) (by rw [sd.length_eq]; lia) (zkO #[O] (fun x hx=>Gx x (sd.mem_iff.mp hx)) (sd.nodup_iff.mpr qM) ?_) fun x=>?_
   ·rw [dE];exact Gy
   ·rw [sd.mem_iff];exact uv x
noncomputable def zhX (K:aD):Sp:=fun vs H Q _=>∃ (c tt r:Addr) (p:Int) (k:Nat) (T:Int) (pl:List Int) (rw:List #[IO]),vs = [.ref c,.ref r,.int T]/\zbu H c tt p k pl/\H r=some #[Qa]/\rw.length=pl.length/\pl.length<=16/\p∈zt/\pl.Nodup/\(∀ x∈pl,0<=x/\x < p)/\(∀ z,some z∈rw->0<=z/\z < p)/\1<=k/\k<=100/\(k:Int)<=T /\
 ∀ (l:Addr) (rs:List Addr) (qs:List #[At]) (H':Hp),H l=none->zr H H'->H' l=some (.lst (rs.map V.ref))->zaN H' rs qs->zdr p k qs->(∀ q,q∈qs↔IsP p k q/\T<=(hits p q #[Fr]:Int))->Q #[Qy] H'
theorem zb7:KE ["code","row","t","k","points","first"] ["code","row","t"] (zh zb0):=#[S]
theorem zjj (T:Txt K mg t) (F:Fun K "all_near" "all_near" zb0 t.MG fd):Lf P w K mg base CX0 5 t.MG fd ["code","row","t"] (zhX K):=by
 obtain⟨qX,pN,pX⟩:=T.Lb;have pY:=zbL (P:=P) (w:=w) (base:=base) T pN;obtain⟨Cb,uc,xk⟩:=T.Oh;have xl:=zk4 (P:=P) (w:=w) (base:=base) T uc;obtain⟨Ba,rO,uG⟩:=T.LH;have uH:=zgf (P:=P) (w:=w) (base:=base) T rO;refine F.ok zb7 #[sK] #[mt]
 ·obtain⟨c,tt,r,p,k,T',pl,rw,rfl,_⟩:=h;rfl
 ·obtain⟨c,tt,r,p,k,T',pl,rw,rfl,hc,uu,rL,hn,hp,qM,qh,wM,k0,k1,h1,q⟩:=h;refine zaz ?_; intro zX;refine⟨_,#[ze,#[zn,3,zb7.nd,#[A],#[zU,#[zcU],#[AT],#[zf]]],#[ze,#[za3,#[zZ,#[zh5],#[Id],#[P7],(zad _)],(@zk8 _ _),#[zan]],#[ze,#[zn,4,zb7.nd,#[A],#[Rh]],#[ze,#[za3,#[zZ,#[zkd],#[Id],#[zq,#[zJ],T.MR,dS,#[Tj]],(zad _)],#[zl,#[zB,#[TU]]],#[zan]],#[ze,#[zn,5,zb7.nd,#[A],#[zbC,zcx,#[Qt],#[zcw],#[zbP,#[zj,#[zY],#[zj,#[zaF],#[zq,#[zJ],T.MR,dS,#[Tj]],#[Id]],#[P7]]]]],#[zl,#[zB,#[zO,(K7.of (N':=["polynomial","code","row","t"]) (ix:=[none,some 0,some 1,some 2]) (zh zb0) _ rfl rfl rfl),#[zam],#[z0,#[zp,uH,#[v6],T.Nr,rO.kp,uG,#[zM],#[za,#[AT],#[QH]]]],#[wn],#[RA],#[QN]]]]]]]]],?_⟩;refine zqB ?_; intro Hm BV vT sG rh;have qP:=bO;have rp:=zC hp;have hR:O7 K H r pl.length rw:=⟨pA.of uu,rL⟩;have hP:=zff qM qh wM;have Kk:=zcF pl rw;refine (pz rfl (ex4 c _ _ _ ⟨rfl,rfl,pK.of hc.1,rfl,?_⟩));refine (pz rfl #[Rk])
  ·refine za6 #[T7] #[FS];refine #[Ra];have vU:bs.length=#[Fr].length:=hB.length;refine (pz rfl (pz rfl ⟨l,(pz rfl ⟨.inl (pA.of tJ),#[AC]⟩)⟩));rw [aA];refine za6 #[VT] (fun sF=>?_)
   ·have pT:=of_decide_eq_true pT;refine⟨cB _,fun z hz=>q z [] [] _ (s1.free hz) (s1.trans (zb hz)) zc .nil ⟨#[M],.nil⟩ fun x=>?_⟩;have:=dQ (hit p x) #[Fr];constructor
    ·intro h; cases h
    ·rintro⟨_,h⟩;unfold hits at h;lia
   ·have sF:¬ T' > (bs.length:Int):=fun h=>sF #[VA]
    obtain⟨tn,rfl⟩:∃ tn:Nat,T'=tn:=⟨T'.toNat,#[O]⟩;refine (pz rfl (pz rfl ⟨l,(pz rfl ⟨.inl (pA.of tJ),(pz rfl (pF rfl rfl (pz rfl (pF rfl rfl (pz rfl ⟨l,(pz rfl ⟨pA.of tJ,fun z hz=>?_⟩)⟩)))))⟩)⟩));have KD:(#[Ch].length:Int) - (tn:Int)+(k:Int)=((bs.length - tn+k:Nat):Int):=by rw [aA]; lia
    rw [KD,znY,<- im];have v1:=zb (o:=.lst ((bs.take (bs.length - tn+k)).map V.ref)) hz;have HM:pB H1 z (.lst ((bs.take (bs.length - tn+k)).map V.ref)) z=some (.lst ((bs.take (bs.length - tn+k)).map V.ref)):=zc;have s2:=s1.trans v1;have vQ:=(hB.same v1).take (bs.length - tn+k);generalize pB H1 z (.lst ((bs.take (bs.length - tn+k)).map V.ref))=H2 at v1 HM s2 vQ |-;have hPt:Pts p (#[Fr].take (bs.length - tn+k)):=hP.sub (d9 _ _);refine (pz rfl (pz rfl (ex8 c tt z p k pl _ _ ⟨rfl,hc.same s2,pA.of HM,vQ,by rw [bD]; lia,hp,hPt,k0,k1,fun l2 rs qs H3 rX s3 CI hT Gz GA rn=>?_⟩)));have hrq:=hT.length;have Bv:=s2.trans s3;refine⟨l2,rfl,⟨_,pA.of CI⟩,zW (n:=rs.length) (fun i ys H'=>zr H3 H'/\∃ us:List Addr,ys=us.map V.ref/\us.length<=i/\zaN H' us ((qs.take i).filter fun x=>decide ((tn:Int)<=(hits p x #[Fr]:Int)))) ⟨fun _ _ e=>e,[],rfl,aG _,.nil⟩ ?_ ?_ ?_ ?_⟩
    ·rintro i ys H4 hi ⟨s4,_⟩;exact⟨_,.ref rs[i],pA.of (s4 _ _ CI),by rw [aF,aJ hi]; rfl⟩
    ·rintro ys H4 ⟨s4,_⟩;exact⟨_,pA.of (s4 _ _ CI),by rw [aA]; exact aG _⟩
    ·rintro zS zT zE i y ys H4 H5 hi ⟨s4,us,rfl,tL,pO⟩ ⟨rfl,hy⟩;obtain⟨rb,rfl,yx⟩:=zQ (hy _ (pA.of (s4 _ _ CI)));obtain⟨qq,KG,qY⟩:=Paired.get hT yx;have AZ:=Bv.trans s4;refine (pz rfl (pz rfl (pz rfl (ex9 c tt r rb p k pl qq rw ⟨rfl,hc.same AZ,AZ _ _ uu,rL,s4 _ _ qY,#[O],#[O],qh,#[O],fun fl H6 Gb s6 h6=>?_⟩))));refine#[UC];have ef:(#[WQ].map V.int).length=hits p qq #[Fr]:=by rw [aA]; exact zkM rL
     rw [ef];have yk:(qs.take (i+1)).filter (fun x=>decide ((tn:Int)<=(hits p x #[Fr]:Int)))=(qs.take i).filter (fun x=>decide ((tn:Int)<=(hits p x #[Fr]:Int)))++[qq].filter (fun x=>decide ((tn:Int)<=(hits p x #[Fr]:Int))):=by rw [take_snoc KG,eE]
     refine za6 (fun h=>(pz rfl ⟨?_,s4.trans s6,us++[rb],by rw [aN]; rfl,by rw [aL]; exact hX tL,?_⟩)) (fun h=>⟨s4.trans s6,us,rfl,#[O],?_⟩)
     ·rw [aA]; lia
     ·rw [yk,fP (p:=fun x=>decide ((tn:Int)<=(hits p x #[Fr]:Int))) h];exact cY (pO.same s6) ((s4.trans s6) _ _ qY)
     ·rw [yk,fQ (p:=fun x=>decide ((tn:Int)<=(hits p x #[Fr]:Int))) h,gQ,dn];exact pO.same s6
    ·rintro ys H4 D ⟨s4,us,rfl,tL,pO⟩ hD;rw [hrq,d6] at pO;have AZ:=Bv.trans s4;refine q D us _ _ (AZ.free hD) (AZ.trans (zb hD)) zc #[QU] (GA.filter _) fun x=>?_
     rw [cV,rn x,decide_eq_true_iff];constructor
     ·rintro⟨⟨pk,h1,rfl⟩,h2⟩;exact⟨zkL hp hPt h1,h2⟩
     ·rintro⟨DK,h2⟩;exact⟨zjI hp hP DK (t:=tn) #[O] #[O] #[O],h2⟩
noncomputable def dcd (P:Prop):Bool:=@decide P (fR P)
theorem zom {P:Prop} (h:P):dcd P=true:=@decide_eq_true P (fR P) h
theorem zon {P:Prop} (h:¬ P):dcd P=false:=@decide_eq_false P (fR P) h
theorem zhY {P:Prop}:dcd P=true↔P:=@decide_eq_true_iff P (fR P)
noncomputable def zpJ (t:Adr) (p T m:Int) (k:Nat) (rw:List #[IO]) (pl:List Int) (rows:List #[At]) (vs:List V) (H:Hp):Prop:=∃ (c tt r z r':Addr) (ls:List Addr),vs = [.ref c,.ref r,.int T,.ref z]/\zbu H c tt p k pl/\H r=some #[Qa]/\rw.length=pl.length/\pl.length<=16/\p∈zt/\pl.Nodup/\(∀ x∈pl,0<=x/\x < p)/\(∀ z,some z∈rw->0<=z/\z < p)/\1<=k/\k<=100/\0<=T/\T<=1000/\H z=some (.tup [.int m,.ref r'])/\H r'=some #[Qe]/\zaN H ls rows/\rows.length<=100/\(∀ r∈rows,zfl p 100 r)/\(∃ r∈rows,∃ v∈r,v≠0)/\0<=m/\m<=1000
def zgg (t:Adr) (K:aD):Sp:=fun vs H Q E=>∃ (p T m:Int) (k:Nat) (rw:List #[IO]) (pl:List Int) (rows:List #[At]),zpJ t p T m k rw pl rows vs H/\((k < 2/\∀ H',zr H H'->E #[Tp] none H')\/(2<=k/\∀ H',zr H H'->Q (.bl (dcd (Ph p k rows #[Fr] m T))) H'))
theorem zrs {p:Int} {k:Int} (h:∃ r∈rows,∃ v∈r,v≠0):szs k #[On]≠[]:=by
 obtain⟨j,i,hj,hi,p7,_⟩:=zog h;have:=zge hj hi p7;intro e;unfold szs at e;rw [m7] at e;rw [e] at this;cases this
theorem zaM:KE ["code","row","t","paper","p","k","places","m","curve"] ["code","row","t","paper"] (zh za9):=#[S]
theorem zc9 (T:Txt K mg t) (F:Fun K "paper_holds" "paper_holds" za9 t.LB fd):Lf P w K mg base #[Vi] 8 t.LB fd ["code","row","t","paper"] (zgg t K):=by
 obtain⟨tM,pW,qt⟩:=T.Lh;have qu:=zcP (P:=P) (w:=w) (base:=base) T pW;obtain⟨DQ,uY,yI⟩:=T.MU;have yJ:=zjZ (P:=P) (w:=w) (base:=base) T uY;obtain⟨qX,pN,pX⟩:=T.Lb;have pY:=zbL (P:=P) (w:=w) (base:=base) T pN;obtain⟨Cc,tD,wg⟩:=T.L8;have wj:=zhT (P:=P) (w:=w) (base:=base) T tD;refine F.okX zaM #[sK] #[mt]
 ·obtain⟨p,T',m,k,rw,pl,rows,⟨c,tt,r,z,r',ls,rfl,_⟩,_⟩:=h;rfl
 ·obtain⟨p,T',m,k,rw,pl,rows,⟨c,tt,r,z,r',ls,rfl,hc,uu,rL,hn,hp,qM,qh,wM,k1,yw,t0,t1,hz,qA,hT,EN,DR,xP,m0,Bb⟩,q⟩:=h;apply zaz; intro zX;refine⟨_,#[ze,#[za5,#[AT],#[zaW,#[zi,#[zg,4,zaM.nd,#[RD]],#[zi,#[zg,5,zaM.nd,#[A]],#[zi,#[zg,6,zaM.nd,#[A]],#[zF]]]]]],#[ze,#[zct,#[zp,qu,#[v6],T.L5,pW.kp,qt,#[zcB],#[QH]]],#[ze,#[za5,#[P7],#[zaW,#[zi,#[zg,7,zaM.nd,#[RD]],#[zi,#[zg,8,zaM.nd,#[RD]],#[zF]]]]],#[ze,#[za3,(@PW.pt _ _ _ #[zml,#[zcS,(@zmv _ _ _ _ _ _ _ _ _ _ _ _ #[zpO] #[zpO] #[zf] #[pvx,7] #[UX] (by with_unfolding_all rfl))],#[zjl,#[zZ,#[zgB],#[zp,yJ,#[v6],T.OB,uY.kp,yI,#[zM],#[za,#[TY],#[SU]]],#[zj,#[z8],#[pvx,7],#[Id]],(zad _)]]]),#[RQ],#[zan]],#[zl,#[zB,#[zq,(@zlq _ rfl),T.PR,boot_all,#[ya,#[zO,(K7.of (N':=["point","p","curve","m"]) (ix:=[none,some 4,some 8,some 7]) (zh za9) _ rfl rfl rfl),#[zam],#[z0,#[Rh]],#[wn],#[ut],(fun _ _ _ _=>(@zov _ _ _ _ _ _ _ _ #[zgB] #[zp,wj,#[v6],T.NV,tD.kp,wg,#[zM],#[za,#[Db],#[za,#[Id],#[QQ]]]] #[P7] (zad _)))]]]]]]]]],?_⟩;apply zmB; intro BV vT sG rh;have qP:=bO;have rp:=zC hp;have hP:=zff qM qh wM;have Kk:=zcF pl rw;have rg1:∀ r∈rows,r.length<=100:=fun r hr=>(DR r hr).2.1
  refine⟨_,rfl,c,_,rfl,pK.of hc.1,rfl,_,_,rfl,_,_,rfl,_,_,rfl,rfl,?_⟩;rcases q with ⟨h1,q⟩ | ⟨k2,q⟩
  ·exact (pz rfl ⟨k,rfl,.inl ⟨h1,q H fun _ _ e=>e⟩⟩)
  refine (pz rfl ⟨k,rfl,.inr ⟨k2,?_⟩⟩);refine⟨_,rfl,z,_,rfl,pK.of hz,rfl,_,_,rfl,_,_,rfl,rfl,?_⟩;have no:∀ H',zr H H'->¬ Ph p k rows #[Fr] m T'->Q (.bl false) H':=fun H' s' h=>by
   have:=q H' s';rw [zon h] at this;exact this
  by_cases HN:1<=m;rotate_left
  ·refine #[Rk];rw [decide_eq_false HN];exact zeS (pz rfl (no H #[Rl] fun h=>HN h.1.1))
  refine #[Rk];rw [decide_eq_true HN];refine zmA #[AC];by_cases HP:m<=4;rotate_left
  ·rw [decide_eq_false HP];exact zmA (no H #[Rl] fun h=>HP h.1.2)
  rw [decide_eq_true HP];refine zeS ?_;refine (pz rfl (pz rfl (ex4 (k:Int) r' ls rows ⟨rfl,#[O],#[O],qA,hT,EN,rg1,fun M H1 s1 _ z1=>?_⟩)));have z1:=z1 (zrs (p:=p) xP);refine (pz rfl (pz rfl (pF rfl rfl ⟨.inl #[wS],(pF rfl rfl (pz rfl (za6 (fun h=>?_) #[VT])))⟩)))
  ·have h:m*T'<=M:=of_decide_eq_true h;exact no H1 s1 fun g=>by have:=g.2.1 M z1.1; lia
  have pT:M < m*T':=by
   have:¬ (m*T'<=M):=fun z=>pT (decide_eq_true z)
   lia
  refine (pz rfl (pz rfl (ex7 c tt r p k pl rw ⟨rfl,hc.same s1,⟨pA.of (s1 _ _ uu),rL⟩,#[O],fun l bs H2 rX s2 Al hB=>?_⟩)));have vU:bs.length=#[Fr].length:=hB.length;have xh:=s1.trans s2;refine⟨l,rfl,⟨_,pA.of Al⟩,zW (n:=bs.length) (fun i ys H'=>zr H2 H'/\ys=((#[Fr].take i).map fun q'=>dcd (∀ z∈wts (zat (mvd p q'.1 q'.2 rows) rows.length),m<=z)).map V.bl) ⟨fun _ _ e=>e,rfl⟩ ?_ ?_ ?_ ?_⟩
  ·rintro i ys H4 hi ⟨s4,_⟩;exact⟨_,.ref (bs[i]'#[O]),pA.of (s4 _ _ Al),by rw [aF,aJ #[O]]; rfl⟩
  ·rintro ys H4 ⟨s4,_⟩;exact⟨_,pA.of (s4 _ _ Al),by rw [aA]; exact aG _⟩
  ·rintro zS zT zE i x ys H4 H5 hi ⟨s4,rfl⟩ ⟨rfl,hx⟩;obtain⟨b,rfl,yu⟩:=zQ (hx _ (pA.of (s4 _ _ Al)));obtain⟨q',rf,Gf⟩:=Paired.get (hB.same s4) yu;have hqm:=aU rf;obtain⟨g1,g2,g3,g4⟩:=hP.rg q' hqm;have AZ:=xh.trans s4;refine gY ?_;refine (pz rfl (pz rfl (pz rfl (ex7 p r' b q'.1 q'.2 ls rows ⟨rfl,#[O],#[O],g1,g2,g3,g4,AZ _ _ qA,hT.same AZ,Gf,EN,rg1,fun M2 H6 s6 _ z2=>?_⟩))));have wnz:wts (zat (mvd p q'.1 q'.2 rows) rows.length)≠[]:=by
    intro e;unfold wts at e;rw [m7] at e;exact zrp (w:=100) DR xP e
   have z2:=z2 wnz;have eM:decide (m<=M2)=dcd (∀ z∈wts (zat (mvd p q'.1 q'.2 rows) rows.length),m<=z):=by
    rw [fz,decide_eq_true_iff,zhY];exact⟨fun h z hz=>by have:=z2.2 z hz; lia,fun h=>h M2 z2.1⟩
   refine #[VX];refine⟨by rw [aA,aA,bD]; lia,s4.trans s6,?_⟩;show _++[V.bl (decide (m<=M2))]=_;rw [eM,take_snoc rf,aN,aN];rfl
  ·rintro ys H4 D ⟨s4,rfl⟩ hD;refine⟨D,(pz rfl ⟨pA.of zc,?_⟩)⟩;rw [bC #[O]];have e:(#[Fr].map fun q'=>dcd (∀ z∈wts (zat (mvd p q'.1 q'.2 rows) rows.length),m<=z)).all id=dcd (Ph p k rows #[Fr] m T'):=by
    rw [fz,zhY,List.all_map,ie];constructor
    ·intro h;refine⟨⟨HN,HP⟩,fun x hx=>by have:=z1.2 x hx; lia,fun q' rf=>?_⟩;have h2:dcd (∀ z∈wts (zat (mvd p q'.1 q'.2 rows) rows.length),m<=z)=true:=h q' rf;exact zhY.mp h2
    ·intro h q' rf;have h2:=h.2.2 q' rf;exact zom h2
   rw [e];exact q _ ((xh.trans s4).trans (zb hD))
noncomputable def zj3 (t:Adr) (K:aD):Sp:=fun vs H Q E=>∃ (p m:Int) (T k:Nat) (rw:List #[IO]) (pl:List Int) (rows:List #[At]),zpJ t p (T:Int) m k rw pl rows vs H/\((k < 2/\∀ H',zr H H'->E #[Tp] none H')\/(2<=k/\k<=5/\rows.length ^ k<=2000000/\(¬ Ph p k rows #[Fr] m T->∀ H',zr H H'->E #[WG] none H') /\
 (Ph p k rows #[Fr] m T->∀ (l:Addr) (us:List Addr) (qs:List #[At]) (H':Hp),H l=none->zr H H'->H' l=some #[GT]->zaN H' us qs->qs.length<=2000000->zdr p k qs->(∀ q,q∈qs↔(IsP p k q/\Zr p (AL k (gl q) rows.length fun j i=>gl (rows.getD j []) i))/\T<=hits p q #[Fr])->Q #[Qy] H')))
theorem zpK {p:Int} {w:Nat} (hg:∀ r∈rows,zfl p w r) (h:∃ r∈rows,∃ v∈r,v≠0):∃ j i,¬ Cg p (gl (rows.getD j []) i) 0:=by
 obtain⟨j,i,hj,hi,p7,hm,hr⟩:=zog h;refine⟨j,i,fun hc=>p7 ?_⟩;obtain⟨v0,v1⟩:=(hg _ hr).2.2 _ hm;exact hc.eq v0 v1 (dB _) #[O]
theorem zbz:KE ["code","row","t","paper","p","k","places","m","curve"] ["code","row","t","paper"] (zh zcp):=#[S]
theorem zj4 (T:Txt K mg t) (F:Fun K "near_by" "near_by" zcp t.Nl fd):Lf P w K mg base #[Vi] 9 t.Nl fd ["code","row","t","paper"] (zj3 t K):=by
 obtain⟨ud,p6,qD⟩:=T.Lj;have qE:=zc9 (P:=P) (w:=w) (base:=base) T p6;obtain⟨Cb,uc,xk⟩:=T.Oh;have xl:=zk4 (P:=P) (w:=w) (base:=base) T uc;obtain⟨CN,ue,xm⟩:=T.Mo;have xn:=zji (P:=P) (w:=w) (base:=base) T ue;refine F.okX zbz #[sK] #[mt]
 ·obtain⟨p,m,T',k,rw,pl,rows,⟨c,tt,r,z,r',ls,rfl,_⟩,_⟩:=h;rfl
 ·obtain⟨p,m,T',k,rw,pl,rows,⟨c,tt,r,z,r',ls,rfl,hc,uu,rL,hn,hp,qM,qh,wM,k1,yw,t0,t1,hz,qA,hT,EN,DR,xP,m0,Bb⟩,q⟩:=h;apply zaz; intro zX;refine⟨_,#[ze,#[za3,#[zcS,#[zfo,#[zp,qE,#[v6],T.Mg,p6.kp,qD,#[zcB],#[za,#[AT],by exact #[za,#[Db],#[za,#[Id],#[Su]]]]]]],#[zl,#[zfH,#[Rn],T.MK,T.Mk,#[zdE]]],#[zan]],#[ze,#[za5,#[AT],#[zaW,#[zi,#[zg,4,zbz.nd,#[A]],#[zi,#[zg,5,zbz.nd,#[A]],#[zi,#[zg,6,zbz.nd,#[A]],#[zF]]]]]],#[ze,#[za5,#[P7],#[zaW,#[zi,#[zg,7,zbz.nd,#[A]],#[zi,#[zg,8,zbz.nd,#[A]],#[zF]]]]],#[zl,#[zB,#[zO,(K7.of (N':=["root","code","row","t"]) (ix:=[none,some 0,some 1,some 2]) (zh zcp) _ rfl rfl rfl),#[zam],#[z0,#[zp,xn,#[v6],T.Ol,ue.kp,xm,#[zM],#[za,#[Qt],#[za,#[TY],#[SU]]]]],#[wn],#[RA],#[QN]]]]]]],?_⟩;apply zg9; intro vT sG rh;have qP:=bO;have rp:=zC hp;rcases q with ⟨h1,q⟩ | ⟨k2,k5,xj,qn,q⟩
  ·exact (pz rfl (pz rfl (pz rfl (pz rfl ⟨p,(T':Int),m,k,rw,pl,rows,#[SY],.inl ⟨h1,q⟩⟩))))
  refine (pz rfl (pz rfl (pz rfl (pz rfl ⟨p,(T':Int),m,k,rw,pl,rows,#[SY],.inr ⟨k2,fun H1 s1=>?_⟩⟩))));by_cases yK:Ph p k rows #[Fr] m (T':Int);rotate_left
  ·rw [zon yK];exact (pz rfl (zmA ⟨rfl,qn yK H1 s1⟩))
  rw [zom yK];refine (pz rfl (zeS ?_));have hc1:=hc.same s1;refine⟨_,rfl,c,_,rfl,pK.of hc1.1,rfl,_,_,rfl,_,_,rfl,_,_,rfl,rfl,?_⟩;refine⟨_,rfl,z,_,rfl,pK.of (s1 _ _ hz),rfl,_,_,rfl,_,_,rfl,rfl,?_⟩;refine (pz rfl (pz rfl (pz rfl (ex5 p k r' ls rows ⟨rfl,hp,s1 _ _ qA,hT.same s1,EN,fun r hr=>(DR r hr).2.1,k1,k5,xj,zpK DR xP,fun l us qs H2 rX s2 h2 pO Gz hR hm=>?_⟩))));have xh:=s1.trans s2;have C0:=hc.same xh;have wZ:=xh _ _ uu;have tL:=pO.length;refine⟨l,rfl,⟨_,pA.of h2⟩,zW (n:=us.length) (fun i ys H'=>zr H2 H'/\∃ vs:List Addr,ys=vs.map V.ref/\vs.length<=i/\zaN H' vs ((qs.take i).filter fun x=>decide ((T':Int)<=(hits p x #[Fr]:Int)))) ⟨fun _ _ e=>e,[],rfl,aG _,.nil⟩ ?_ ?_ ?_ ?_⟩
  ·rintro i ys Hf hi ⟨sf,_⟩;exact⟨_,.ref us[i],pA.of (sf _ _ h2),by rw [aF,aJ hi]; rfl⟩
  ·rintro ys Hf ⟨sf,_⟩;exact⟨_,pA.of (sf _ _ h2),by rw [aA]; exact aG _⟩
  ·rintro zS zT zE i y ys Hf Hg hi ⟨sf,vs,rfl,sE,vH⟩ ⟨rfl,hy⟩;obtain⟨rb,rfl,yx⟩:=zQ (hy _ (pA.of (sf _ _ h2)));obtain⟨qq,KG,qY⟩:=Paired.get pO yx;refine (pz rfl (pz rfl (pz rfl (ex9 c tt r rb p (k:Int) pl qq rw ⟨rfl,C0.same sf,sf _ _ wZ,rL,sf _ _ qY,#[O],#[O],qh,#[O],fun fl Hh Gb sh h6=>?_⟩))));refine#[UC];have ef:(#[WQ].map V.int).length=hits p qq #[Fr]:=by rw [aA]; exact zkM rL
   rw [ef];have yk:(qs.take (i+1)).filter (fun x=>decide ((T':Int)<=(hits p x #[Fr]:Int)))=(qs.take i).filter (fun x=>decide ((T':Int)<=(hits p x #[Fr]:Int)))++[qq].filter (fun x=>decide ((T':Int)<=(hits p x #[Fr]:Int))):=by rw [take_snoc KG,eE]
   refine za6 (fun h=>(pz rfl ⟨?_,sf.trans sh,vs++[rb],by rw [aN]; rfl,by rw [aL]; exact hX sE,?_⟩)) (fun h=>⟨sf.trans sh,vs,rfl,#[O],?_⟩)
   ·rw [aA]; lia
   ·rw [yk,fP (p:=fun x=>decide ((T':Int)<=(hits p x #[Fr]:Int))) h];exact cY (vH.same sh) ((sf.trans sh) _ _ qY)
   ·rw [yk,fQ (p:=fun x=>decide ((T':Int)<=(hits p x #[Fr]:Int))) h,gQ,dn];exact vH.same sh
  ·rintro ys Hf D ⟨sf,vs,rfl,sE,vH⟩ hD;rw [tL,d6] at vH;refine q yK D vs _ _ ((xh.trans sf).free hD) (xh.trans (sf.trans (zb hD))) zc (vH.same (zb hD)) (bR (dQ _ _) Gz) ⟨fun x hx=>hR.1 x (cV.mp hx).1,hR.2.filter _⟩ fun x=>?_
   rw [cV,hm x,decide_eq_true_iff];exact and_congr Iff.rfl nM
def zj5:List Str:=["few","curve","paper","place","number","heard","not heard","nothing","text","row"]
noncomputable def zme (t:Adr) (K:aD):Sp:=fun vs H Q _=>∃ (e C:Addr) (b0 b1 b2 b3 b4 b5 b6 b7 b8 b9:Bool) (j:Nat) (x:Str),vs = [.ref e]/\H e=some (zm2 e C)/\KW K t C b0 b1 b2 b3 b4 b5 b6 b7 b8 b9/\[b0,b1,b2,b3,b4,b5,b6,b7,b8,b9].count true=1/\[b0,b1,b2,b3,b4,b5,b6,b7,b8,b9][j]? = some true/\(∀ m,m < j->[b0,b1,b2,b3,b4,b5,b6,b7,b8,b9][m]? = some false)/\j < 10/\zj5[j]? = some x/\∀ H',zr H H'->Q (.str x) H'
theorem zcq:KE ["e","kinds","words"] ["e"] (zh zel):=#[S]
theorem zmf (T:Txt K mg t) (F:Fun K "_law_word" "_law_word" zel t.Oc fd):OV P w K mg base 1 t.Oc fd ["e"] (zme t K):=by
 refine F.okH zcq #[sK] #[mt]
 ·obtain⟨e,C,b0,b1,b2,b3,b4,b5,b6,b7,b8,b9,j,x,rfl,_⟩:=h;rfl
 ·obtain⟨e,C,b0,b1,b2,b3,b4,b5,b6,b7,b8,b9,j,x,rfl,he,kw,hc,hj,hm,hj10,hx,q⟩:=h;refine zaz ?_; intro zX;refine⟨_,#[ze,#[zn,1,zcq.nd,#[A],#[z9,#[za,#[zq,#[zag],T.K8,dY,#[za,#[AT],#[ya,#[zbb,(.ref t.OK),T.ON,rfl]]]],by exact #[za,#[zq,#[zag],T.K8,dY,#[za,#[AT],#[ya,#[zbb,#[Tp],T.NJ,rfl]]]],#[za,#[zq,#[zag],T.K8,dY,#[za,#[AT],#[ya,#[zbb,#[WG],T.MK,rfl]]]],#[ya,#[zq,#[zag],T.K8,dY,#[za,#[AT],#[ya,#[zbb,(.ref t.N9),T.Ov,rfl]]]]]]]]]],#[ze,#[zn,1,zcq.nd,#[A],#[zj,#[zbK],#[Db],#[z9,#[za,#[zq,#[zag],T.K8,dY,#[za,#[AT],#[ya,#[zbb,(.ref t.NH),T.Oj,rfl]]]],#[za,#[zq,#[zag],T.K8,dY,#[za,#[AT],#[ya,#[zbb,(.ref t.O9),T.OZ,rfl]]]],#[ya,#[zq,#[zag],T.K8,dY,#[za,#[AT],#[ya,#[zbb,(.ref t.NG),T.Oi,rfl]]]]]]]]]],#[ze,#[zn,1,zcq.nd,#[A],#[zj,#[zbK],#[Db],#[z9,#[za,#[zq,#[zag],T.K8,dY,#[za,#[AT],#[ya,#[zbb,(.ref t.Mb),T.Nd,rfl]]]],#[za,#[zq,#[zag],T.K8,dY,#[za,#[AT],#[ya,#[zbb,(.ref t.OL),T.OO,rfl]]]],#[ya,#[zq,#[zag],T.K8,dY,#[za,#[AT],#[ya,#[zbb,(.ref t.O8),T.OY,rfl]]]]]]]]]],#[ze,#[za3,(@PW.pt _ _ _ #[zml,#[zZ,#[zh4],#[zeG,dU,PySem.F.slot_list_count,PySem.F.type_list_count,(@zlx _),#[Db],#[ya,#[zdQ]]],#[zf],(zad _)],#[zjl,#[zcS,#[zfo,#[zq,#[zag],T.K8,dY,#[za,#[AT],#[ya,#[zj8,(.ty "ValueError"),T.N1,oY]]]]]]]]),#[zl,#[zB,#[zdE]]],#[zan]],(by exact (@zm7 _ 2 _ _ _ _ _ _ _ ["few","curve","paper","place","number","heard","not heard","nothing","text","row"] #[N] zcq.nd rfl #[A] (by first | exact .inl rfl | exact .inr rfl) (by exact #[zl,#[zB,#[zU,#[zI],#[Id],#[zeG,dU,PySem.F.slot_list_index,PySem.F.type_list_index,(@zly _),#[Db],#[ya,#[zdQ]]]]]])))]]]],?_⟩;refine zqB ?_; intro Hm BV vT sG rh;have qP:=bO;have xc:=kw.xc;refine (pz rfl (ex4 e C _ _ ⟨rfl,he,xc,.inl (pz rfl kw.i0),(pz rfl (ex4 e C _ _ ⟨rfl,he,xc,.inl (pz rfl kw.i1),(pz rfl (ex4 e C _ _ ⟨rfl,he,xc,.inl (pz rfl kw.i2),(pz rfl (ex4 e C _ _ ⟨rfl,he,xc,.inl (pz rfl kw.i3),szq,fun l1 wF=>?_⟩))⟩))⟩))⟩));have s1:=zb (o:=.lst [.bl b0,.bl b1,.bl b2,.bl b3]) wF;have Cu:=s1 _ _ he;refine (pz rfl (pz rfl (ex4 e C _ _ ⟨rfl,Cu,xc,.inl (pz rfl kw.i4),(pz rfl (ex4 e C _ _ ⟨rfl,Cu,xc,.inl (pz rfl kw.i5),(pz rfl (ex4 e C _ _ ⟨rfl,Cu,xc,.inl (pz rfl kw.i6),szq,fun l2 rX=>?_⟩))⟩))⟩)));have s2:=zb (o:=.lst [.bl b4,.bl b5,.bl b6]) rX;refine (ex4 l1 l2 _ _ ⟨rfl,rfl,s2 _ _ zc,zc,szq,fun l3 hl3=>?_⟩);have s3:=zb (o:=.lst ([V.bl b0,.bl b1,.bl b2,.bl b3]++[.bl b4,.bl b5,.bl b6])) hl3;have Cv:=s3 _ _ (s2 _ _ Cu);refine (pz rfl (pz rfl (ex4 e C _ _ ⟨rfl,Cv,xc,.inl (pz rfl kw.i7),(pz rfl (ex4 e C _ _ ⟨rfl,Cv,xc,.inl (pz rfl kw.i8),(pz rfl (ex4 e C _ _ ⟨rfl,Cv,xc,.inl (pz rfl kw.i9),szq,fun l4 hl4=>?_⟩))⟩))⟩)));have s4:=zb (o:=.lst [.bl b7,.bl b8,.bl b9]) hl4;refine (ex4 l3 l4 _ _ ⟨rfl,rfl,s4 _ _ zc,zc,szq,fun l5 Kl=>?_⟩);have s5:=zb (o:=.lst ([V.bl b0,.bl b1,.bl b2,.bl b3]++[.bl b4,.bl b5,.bl b6]++[.bl b7,.bl b8,.bl b9])) Kl;have Er:=s5 _ _ (s4 _ _ Cv);have sA:=s1.trans (s2.trans (s3.trans (s4.trans s5)));have h5:pB (pB (pB (pB (pB H l1 (.lst [.bl b0,.bl b1,.bl b2,.bl b3])) l2 (.lst [.bl b4,.bl b5,.bl b6])) l3 (.lst ([V.bl b0,.bl b1,.bl b2,.bl b3]++[.bl b4,.bl b5,.bl b6]))) l4 (.lst [.bl b7,.bl b8,.bl b9])) l5 (.lst ([V.bl b0,.bl b1,.bl b2,.bl b3]++[.bl b4,.bl b5,.bl b6]++[.bl b7,.bl b8,.bl b9])) l5=some (.lst ([b0,b1,b2,b3,b4,b5,b6,b7,b8,b9].map V.bl)):=zc;generalize pB (pB (pB (pB (pB H l1 (.lst [.bl b0,.bl b1,.bl b2,.bl b3])) l2 (.lst [.bl b4,.bl b5,.bl b6])) l3 (.lst ([V.bl b0,.bl b1,.bl b2,.bl b3]++[.bl b4,.bl b5,.bl b6]))) l4 (.lst [.bl b7,.bl b8,.bl b9])) l5 (.lst ([V.bl b0,.bl b1,.bl b2,.bl b3]++[.bl b4,.bl b5,.bl b6]++[.bl b7,.bl b8,.bl b9]))=H5 at Er sA h5 |-;refine (pz rfl ⟨.inl ⟨rfl,_,pA.of h5⟩,l5,_,true,rfl,rfl,h5,?_⟩);rw [hc];refine#[VG];refine zeS ?_;refine (pz rfl (ex4 e C _ _ ⟨rfl,Er,xc,.inr (pz rfl kw.iv),#[Qz]⟩));refine zeS ?_;refine⟨szq,fun lw hlw=>?_⟩;have s6:=zb (o:=.lst (zj5.map V.str)) hlw;refine (pz rfl (pz rfl ⟨.inl ⟨rfl,_,pA.of (s6 _ _ h5)⟩,l5,_,true,j,rfl,rfl,s6 _ _ h5,hj,hm,#[O],?_⟩));refine (ex4 lw _ _ (.str x) ⟨rfl,rfl,pA.of zc,?_,q _ (sA.trans s6)⟩);exact zay (xs:=zj5.map V.str) (by rw [aF,hx]; rfl)
theorem zjk {s:Nat} (h2:2<=k) (h5:k<=5) (hs:s<=63):(s / (k - 1)+1) ^ k<=2000000:=by
 have h:k=2\/k=3\/k=4\/k=5:=by lia
 rcases h with rfl | rfl | rfl | rfl
 ·exact bR (iC (show s / (2 - 1)+1<=64 by lia) 2) #[D]
 ·exact bR (iC (show s / (3 - 1)+1<=32 by lia) 3) #[D]
 ·exact bR (iC (show s / (4 - 1)+1<=22 by lia) 4) #[D]
 ·exact bR (iC (show s / (5 - 1)+1<=16 by lia) 5) #[D]
def zoo (p:Int) (k:Nat) (rows:List #[At]):Prop:=rows.length<=100/\(∀ r∈rows,zfl p 100 r)/\(∃ r∈rows,∃ v∈r,v≠0)/\rows.length ^ k<=2000000
theorem zmg {p:Int} {s:Nat} (hk:2<=k) (h5:k<=5) {g:Tm->Int} (L:Gcv p k s g) (hs:s<=63):zoo p k #[WE]:=by
 have hq:s / (k - 1)<=s:=li _ _;refine⟨by rw [zec]; lia,fun r hr=>?_,zrq hk L,by rw [zec]; exact zjk hk h5 hs⟩;obtain⟨a1,a2,a3⟩:=zpE (k:=k) (s:=s) L.rg r hr;exact⟨a1,#[O],a3⟩
noncomputable def zj6 (t:Adr) (K:aD):Sp:=fun vs H Q _=>∃ (c tt r:Addr) (p T:Int) (k:Nat) (pl:List Int) (rw:List #[IO]),vs = [.ref c,.ref r,.int T]/\zbu H c tt p k pl/\H r=some #[Qa]/\rw.length=pl.length/\pl.length<=16/\p∈zt/\pl.Nodup/\(∀ x∈pl,0<=x/\x < p)/\(∀ z,some z∈rw->0<=z/\z < p)/\2<=k/\k<=5/\0<=T/\T<=16 /\
 ∀ (z r':Addr) (ls:List Addr) (m:Int) (rows:List #[At]) (H':Hp),zr H H'->H' z=some (.tup [.int m,.ref r'])->H' r'=some #[Qe]->zaN H' ls rows->1<=m->m<=4->zoo p k rows->Q #[RX] H'
theorem zcO:KE ["code","row","t","found"] ["code","row","t"] (zh zdo):=#[S]
theorem zj7 (T:Txt K mg t) (F:Fun K "_law_paper" "_law_paper" zdo t.Nu fd):Lf P w K mg base CX0 9 t.Nu fd ["code","row","t"] (zj6 t K):=by
 obtain⟨CP,uf,xo⟩:=T.Mp;have xp:=zjg (P:=P) (w:=w) (base:=base) T uf;refine F.ok zcO #[sK] #[mt]
 ·obtain⟨c,tt,r,p,T',k,pl,rw,rfl,_⟩:=h;rfl
 ·obtain⟨c,tt,r,p,T',k,pl,rw,rfl,hc,uu,rL,hn,hp,qM,qh,wM,k2,k5,t0,t1,q⟩:=h;apply zaz; intro zX;refine⟨_,#[ze,#[zn,3,zcO.nd,#[A],#[zer]],#[ze,(@zoZ _ _ _ _ _ _ _ _ _ _ _ rfl rfl rfl rfl T.MJ T.sb (fun xe pv σ E hp=>#[zfJ,#[zgT,3,zcO.nd,#[A],#[zfI,xp,#[v6],T.Om,uf.kp,xo,hp,#[Qo]]]]) (fun e=>zl #[zn,3,zcO.nd,#[A],#[zai,#[za,#[zf],#[ya,#[zai,#[ya,#[zai,#[ya,#[zf]]]]]]]]]) #[D]),#[Va]]],?_⟩;apply zfu; intro sG rh;have qP:=bO;have rp:=zC hp;refine (pz rfl (pz rfl (pz rfl (ex8 c tt r p T' k pl rw ⟨rfl,hc,uu,rL,hn,hp,qM,qh,wM,#[O],#[O],t0,#[O],.inr ⟨k2,fun H1 s1=>(pz rfl ⟨T.Mn.sl,?_⟩),fun z r' ls m size g H' hz s' DK h2' ht m1 m4 hL pT=>?_⟩⟩))))
  ·refine⟨szq,fun x1 Bt=>⟨szq,fun x2 BP=>⟨szq,fun x3 FJ=>?_⟩⟩⟩;have w1:=zb (o:=.tup [.int 1]) Bt;have w2:=zb (o:=.tup [.ref x1]) BP;have w3:=zb (o:=.tup [.int 1,.ref x2]) FJ;refine (pz rfl (q x3 x2 [x1] 1 [[1]] _ (s1.trans (w1.trans (w2.trans w3))) zc (w3 _ _ zc) #[Ve] #[D] #[D] ⟨#[D],fun r hr=>?_,⟨[1],#[M],1,#[M],#[D]⟩,?_⟩))
   ·rw [bF.mp hr];exact⟨#[D],#[D],fun v hv=>by rw [bF.mp hv]; lia⟩
   ·show 1 ^ k<=2000000;rw [n6];decide
  ·refine (pz rfl (q z r' ls m _ H' s' DK h2' ht #[O] #[O] (zmg k2 k5 hL ?_)));have:(m:Int)*T'<=4*16:=Int.mul_le_mul #[O] t1 t0 #[D];lia
noncomputable def ToldN (p m:Int) (T k:Nat) (rw:List #[IO]) (pl:List Int) (rows:List #[At]) (H H':Hp) (v:V):Prop:=(k < 2/\v = .str "curve")\/(2<=k/\((¬ Ph p k rows #[Fr] m T/\v = .str "paper")\/(Ph p k rows #[Fr] m T/\∃ (l:Addr) (us:List Addr) (qs:List #[At]),v = .ref l/\H l=none/\H' l=some #[GT]/\zaN H' us qs/\qs.length<=2000000/\zdr p k qs/\∀ q,q∈qs↔(IsP p k q/\Zr p (AL k (gl q) rows.length fun j i=>gl (rows.getD j []) i))/\T<=hits p q #[Fr])))
def zmh (t:Adr) (K:aD):Sp:=fun vs H Q _=>∃ (p m:Int) (T k:Nat) (rw:List #[IO]) (pl:List Int) (rows:List #[At]),zpJ t p (T:Int) m k rw pl rows vs H/\(2<=k->k<=5/\rows.length ^ k<=2000000)/\∀ v H',zr H H'->ToldN p m T k rw pl rows H H' v->Q v H'
theorem zcr:KE ["code","row","t","paper","found","e"] ["code","row","t","paper"] (zh zem):=#[S]
theorem zmi (T:Txt K mg t) (F:Fun K "_law_told" "_law_told" zem t.Oe fd):Lf P w K mg base CX0 10 t.Oe fd ["code","row","t","paper"] (zmh t K):=by
 obtain⟨DS,uZ,yL⟩:=T.MV;have yM:=zj4 (P:=P) (w:=w) (base:=base) T uZ;obtain⟨EO,wm,Bc⟩:=T.NA;have Bd:=zmf (P:=P) (w:=w) (base:=base) T wm;refine F.ok zcr #[sK] #[mt]
 ·obtain⟨p,m,T',k,rw,pl,rows,⟨c,tt,r,z,r',ls,rfl,_⟩,_⟩:=h;rfl
 ·obtain⟨p,m,T',k,rw,pl,rows,hI,hk5,q⟩:=h;obtain⟨c,tt,r,z,r',ls,rfl,sM⟩:=id hI;apply zaz; intro zX;refine⟨_,#[ze,#[zn,4,zcr.nd,#[A],#[zer]],#[ze,(@zqO _ _ _ _ (5) _ _ _ _ _ _ _ _ rfl rfl rfl rfl T.MJ T.sb zcr.nd rfl rfl (fun xe pv σ E hp=>#[zfJ,#[zgT,4,zcr.nd,#[A],#[zfI,yM,#[v6],T.OC,uZ.kp,yL,hp,#[za,#[AT],#[za,#[Db],#[za,#[Id],#[Su]]]]]]]) (fun e=>zl #[zn,4,zcr.nd,#[A],(@zm6 _ _ _ _ _ _ _ _ _ _ _ _ Bd (M7.of #[v6]) rfl T.OQ wm.kp Bc #[QH] #[D] (by rfl) (by rfl))]) #[D]),#[zl,#[zB,#[Qt]]]]],?_⟩;apply zfu; intro sG rh;refine (pz rfl (pz rfl (pz rfl (pz rfl ⟨p,m,T',k,rw,pl,rows,hI,?_⟩))));by_cases h1:k < 2
  ·refine .inl ⟨h1,fun H1 s1=>(pz rfl ⟨T.Nc.sl,fun e he=>?_⟩)⟩;refine (pz rfl (zrN e _ _ _ _ _ _ _ _ _ _ _ 1 ("curve") ⟨rfl,zc,T.Nc,rfl,rfl,#[D],#[D],rfl,fun H' s'=>?_⟩));exact (pz rfl (q _ H' (s1.trans ((zb he).trans s')) (.inl ⟨h1,rfl⟩)))
  ·obtain⟨k5,xj⟩:=hk5 #[O];refine .inr ⟨#[O],k5,xj,fun hN H1 s1=>(pz rfl ⟨T.Mn.sl,fun e he=>?_⟩),fun yK l us qs H' hl s' h' ht Gz hR hm=>?_⟩
   ·refine (pz rfl (zrN e _ _ _ _ _ _ _ _ _ _ _ 2 ("paper") ⟨rfl,zc,T.Mn,rfl,rfl,#[D],#[D],rfl,fun H' s'=>?_⟩));exact (pz rfl (q _ H' (s1.trans ((zb he).trans s')) (.inr ⟨#[O],.inl ⟨hN,rfl⟩⟩)))
   ·exact⟨_,rfl,q _ H' s' (.inr ⟨#[O],.inr ⟨yK,l,us,qs,rfl,hl,h',ht,Gz,hR,hm⟩⟩)⟩
theorem zg5 {Q:VK} {a b:Addr} {xs:List V} (ha:pA K H a xs) (hb:pA K H b ys) (hl:xs.length=ys.length) (he:∀ (j:Nat) x y,xs[j]? = some x->ys[j]? = some y->EqD K H 8 x y true) (q:Q (.bl false) H):zrO K true #[QK] #[Wz] H Q:=by
 refine⟨a,b,_,_,rfl,rfl,.inl ⟨ha,hb⟩,.inr ⟨hl,fun _=>true,he,?_⟩⟩;have:#[Vo].all (fun _=>true)=true:=by simp
 rw [this];exact q
theorem zrt {P:Program} {w:World} {X:Cx}:zft #[Vi] X E0:=by
 intro pv σ H s ev s' I hq;obtain⟨e,C,H',B,_,_,_,_,q⟩:=hq;exact q.elim
def Pap (p:Int) (k:Nat) (H:Hp) (x:Addr):Prop:=∃ (m:Int) (rr:Addr) (ls:List Addr) (rows:List #[At]),H x=some (.tup [.int m,.ref rr])/\H rr=some #[Qe]/\zaN H ls rows/\zoo p k rows/\0<=m/\m<=1000
theorem zbA:KE ["script","at","code","p","k","places","row","plan","t","paper","some","found","due"] ["script"] (zh zdB):=#[S]
theorem zru (T:Txt K mg t) (F:Fun K "law" "law" zdB t.law fd):Lf P w K mg base CX0 11 t.law fd ["script"] (zhk K):=by
 obtain⟨ER,wo,Be⟩:=T.NC;have Bf:=zl2 (P:=P) (w:=w) (base:=base) T wo;obtain⟨GB,xQ,Cd⟩:=T.NZ;have Ce:=zn1 (P:=P) (w:=w) (base:=base) T xQ;obtain⟨tW,pZ,qm⟩:=T.LP;have qp:=zdN (P:=P) (w:=w) (base:=base) T pZ;obtain⟨ES,sv,ug⟩:=T.NB;have uh:=zmi (P:=P) (w:=w) (base:=base) T sv;obtain⟨DT,va,yN⟩:=T.MX;have yO:=zj7 (P:=P) (w:=w) (base:=base) T va;obtain⟨ud,p6,qD⟩:=T.Lj;have qE:=zc9 (P:=P) (w:=w) (base:=base) T p6;obtain⟨CQ,ui,xq⟩:=T.Mq;have xr:=zjj (P:=P) (w:=w) (base:=base) T ui;refine F.ok zbA #[sK] #[mt]
 ·obtain⟨a,ns,rfl,_⟩:=h;rfl
 ·obtain⟨a,ns,rfl,hS,pI,q⟩:=h;have hu:(A.deeper (envOfC (cQ "law") (zh zdB) s.heap.objs.size t.law pR)).units+20 < cLine:=by have:=hr.units; lia
  apply zaz; intro zX;refine⟨_,#[ze,#[zaX,cW,#[zae,T.La,#[ya,#[zf]]],#[zg,1,zbA.nd,#[A]],#[ze,#[zn,2,zbA.nd,#[A],#[zp,Bf,#[v6],T.OR,wo.kp,Be,#[zM],#[za,#[AT],by exact #[za,#[Q0],#[PX]]]]],#[ze,#[za5,#[Id],#[zaW,#[zi,#[zg,3,zbA.nd,#[A]],#[zi,#[zg,4,zbA.nd,#[A]],#[zi,#[zg,5,zbA.nd,#[A]],#[zF]]]]]],#[ze,#[zn,6,zbA.nd,#[A],#[zp,Ce,#[v6],T.O4,xQ.kp,Cd,#[zM],#[za,#[AT],#[za,#[V4],#[RU]]]]],#[ze,#[zn,7,zbA.nd,#[A],#[zp,qp,#[v6],T.Mh,pZ.kp,qm,#[zM],#[za,#[AT],by exact #[za,#[V4],#[PX]]]]],#[ze,#[zn,8,zbA.nd,#[A],#[zq,#[zes],T.Pe,mH,#[za,#[zf],#[ya,#[zU,#[zI],#[z9,#[za,#[zj,#[zY],#[Qt],#[R5]],by exact #[za,#[zj,#[zY],#[Qt],#[zf]],#[za,#[UT],#[ya,#[zj,#[zY],#[zf],#[R5]]]]]]],#[R5]]]]]],#[zl,#[za3,#[zZ,#[zeF],#[Qt],#[zf],(zad _)],#[zl,#[za3,#[zZ,#[zh4],#[zp,uh,#[v6],T.Np,sv.kp,ug,#[zM],#[za,#[Id],by exact #[za,#[SD],#[za,#[pvx,8],#[ya,#[zai,#[za,#[zf],#[ya,#[zai,#[ya,#[zai,#[ya,#[zf]]]]]]]]]]]]],#[zdE],(zad _)],#[RQ],#[zan]]],#[ze,#[zn,9,zbA.nd,#[A],#[zp,yO,#[v6],T.OE,va.kp,yN,#[zM],#[za,#[Id],#[za,#[SD],#[SU]]]]],#[zl,#[zaX,cW,#[z0,#[z9,#[za,#[Ww],by exact #[za,#[zai,#[za,#[zj,#[zY],#[zj,#[zL],#[Uu],#[zf]],#[zf]],#[ya,#[Uu]]]],#[za,#[zai,#[za,#[zf],#[ya,#[zai,#[ya,#[zai,#[za,#[zf],#[ya,#[zj,#[zY],#[zf],#[zj,#[zL],#[zU,#[zI],#[pvx,7],#[zf]],#[zj,#[zaF],#[P7],#[zf]]]]]]]]]]]],#[ya,#[zai,#[za,#[zf],#[ya,#[Uu]]]]]]]]]],#[zg,10,zbA.nd,#[A]],#[ze,#[zn,11,zbA.nd,#[A],#[zp,uh,#[v6],T.Np,sv.kp,ug,#[zM],#[za,#[Id],by exact #[za,#[zao,#[zbQ],T.Oq,j9,#[UG]],#[TQ]]]]],#[zl,#[za3,#[zcS,#[zfo,#[zp,qE,#[v6],T.Mg,p6.kp,qD,(@zrt _ _ _),#[za,#[Id],by exact #[za,#[zao,#[zbQ],T.Oq,j9,#[UG]],#[TQ]]]]]],#[zl,#[za3,#[zZ,#[zh4],#[pvx,11],#[zdE],(zad _)],#[RQ],#[zan]]],#[ze,#[za3,(@PW.pt _ _ _ #[zml,#[zcS,#[zfo,#[zq,(@zig _),T.K8,dY,#[za,#[pvx,11],#[ya,#[zj8,(.ty "list"),T.Oq,j9]]]]]],#[zjl,(@PW.pt _ _ _ #[zmk,#[zZ,#[zgB],#[pvx,8],#[Qt],(zad _)],#[zj9,#[zZ,#[zmH,hu],#[pvx,11],#[zp,xr,#[v6],T.Oo,ui.kp,xq,#[zM],#[za,#[Id],#[za,#[SD],#[SU]]]],(zad _)]]])]]),#[RQ],#[zan]],#[ze,#[zn,12,zbA.nd,#[A],#[zao,#[zbQ],T.Oq,j9,#[ya,#[pvx,11]]]],#[ze,#[zct,#[zeG,dU,fJ,fK,#[zci],#[pvx,11],#[ya,#[zf]]]],#[zl,#[za3,#[zZ,#[zmH,hu],#[zp,uh,#[v6],T.Np,sv.kp,ug,#[zM],#[za,#[Id],by exact #[za,#[SD],#[TQ]]]],#[pvx,12],(zad _)],#[RQ],#[zan]]]]]]]]]]]]]]]]]]]],#[RQ]],?_⟩;apply zgj; intro rh;have qP:=bO;refine⟨2,rfl,#[D],#[D],zaQ (lo:=0) (n:=2) (fun i σ H'=>∃ (e1 e2 e3 e4 e5 e6 e7 e8 e9 xM DU CS:Option V),σ = [some #[QK],e1,e2,e3,e4,e5,e6,e7,e8,e9,xM,DU,CS]/\zr H H')
   ⟨none,none,none,none,none,none,none,none,none,none,none,none,rfl,fun _ _ e=>e⟩ ?_ ?_⟩
  ·rintro zD zT ET σ H0 qY ⟨e1,e2,e3,e4,e5,e6,e7,e8,e9,xM,DU,CS,rfl,s0⟩;show zT (zD ET) _ H0;apply zqB; intro zM6 zM5 zM4 zM3 zM2;refine (pz rfl (pz rfl (pF rfl rfl ⟨.inl #[wS],a,ns,(4*(0+(ET:Int))),5,10,rfl,s0.seq hS,pI,#[O],#[O],#[D],#[D],#[D],#[D],fun c tt p kI pl H1 hc1 s1 co vi h1t=>?_⟩)));have rp:=zC co.pr;have k1:=co.k1;have kk:=co.kk;have kn:=co.kl;have ln:=co.ln;have p0:0 < p:=by lia
   have n10:pl.length<=10:=by lia
   have hp:=co.pr;obtain⟨k,rfl⟩:∃ k:Nat,kI=k:=⟨kI.toNat,#[O]⟩;have GC:zbu H1 c tt p k pl:=⟨vi,h1t⟩;have Ak:=s0.trans s1;refine⟨_,rfl,c,_,rfl,pK.of vi,rfl,_,_,rfl,_,_,rfl,_,_,rfl,rfl,?_⟩;refine (pz rfl (pz rfl (pF rfl rfl ⟨.inl #[wS],(pF rfl rfl (pz rfl (ex8 a c tt ns (4*(0+(ET:Int))+1) p k pl ⟨rfl,Ak.seq hS,pI,#[O],#[O],GC,#[O],#[O],co.rg,#[O],fun r rw H2 CB s2 rL wM h2r=>?_⟩)))⟩)));have HG:=Ak.trans s2;refine (pz rfl (pz rfl (pF rfl rfl ⟨.inl #[wS],(pF rfl rfl (ex5 a ns (4*(0+(ET:Int))+3) 4 27720 ⟨rfl,HG.seq hS,pI,#[O],#[O],#[D],#[D],#[D],#[D],fun pa ds H3 hpa s3 KH HQ=>?_⟩))⟩)));have s03:=HG.trans s3;obtain⟨d0,FW,d00,d01⟩:=znM KH (i:=0) #[D] #[D];obtain⟨d1,JI,d10,d11⟩:=znM KH (i:=1) #[D] #[D];obtain⟨d2,JJ,d20,d21⟩:=znM KH (i:=2) #[D] #[D];refine (pz rfl (pz rfl (ex4 pa _ _ _ ⟨rfl,rfl,pA.of HQ,FW,(pF rfl rfl ⟨#[O],(pF rfl rfl (pz rfl (pF rfl rfl (pz rfl ⟨tt,(pz rfl ⟨.inr (pK.of (#[Ue] _ _ h1t)),(pz rfl (ex4 pa _ _ _ ⟨rfl,rfl,pA.of HQ,FW,(pF rfl rfl ⟨#[O],(pF rfl rfl ⟨szq,fun L1 AH=>?_⟩)⟩)⟩))⟩)⟩))))⟩)⟩)));have v4:=zb (o:=.lst [.int ((k:Int)+d0 % 5),.int ((k:Int)+1),.int ((#[Se].length:Nat):Int),.int (1+d0 % 16)]) AH;refine (pz rfl (ex4 pa _ _ _ ⟨rfl,rfl,pA.of (v4 _ _ HQ),JI,(pF rfl rfl ⟨#[O],?_⟩)⟩));obtain⟨t1,et1,Hk⟩:∃ t1:Int,atI [V.int ((k:Int)+d0 % 5),V.int ((k:Int)+1),V.int ((#[Se].length:Nat):Int),V.int (1+d0 % 16)] (d1 % 4)=some (.int t1)/\1<=t1:=by
    have h:d1 % 4=0\/d1 % 4=1\/d1 % 4=2\/d1 % 4=3:=by lia
    rcases h with h | h | h | h <;> rw [h]
    ·exact (pz rfl #[O])
    ·exact (pz rfl #[O])
    ·exact (pz rfl (by rw [aA]; lia))
    ·exact (pz rfl #[O])
   refine (ex4 L1 _ _ _ ⟨rfl,rfl,pA.of zc,et1,?_⟩);refine⟨16,t1,rfl,?_⟩;obtain⟨T',eT,Kx,BZ⟩:∃ T':Nat,(if t1 < 16 then t1 else 16)=(T':Int)/\1<=T'/\T'<=16:=by
    split
    ·exact⟨t1.toNat,#[O],#[O],#[O]⟩
    ·exact⟨16,rfl,#[D],#[D]⟩
   show zaI 8 (.int (if t1 < 16 then t1 else 16)) _ _ _;rw [eT];have HR:=(GC.same #[Ue]).same v4;have DV:=v4 _ _ (s3 _ _ h2r);have h4p:=v4 _ _ HQ;have Am:=s03.trans v4;have HS:∀ z,some z∈rw->0<=z/\z < p:=wM;change zaI 8 _ _ (pB H3 L1 (.lst [.int ((k:Int)+d0 % 5),.int ((k:Int)+1),.int ((#[Se].length:Nat):Int),.int (1+d0 % 16)])) _;generalize pB H3 L1 (.lst [.int ((k:Int)+d0 % 5),.int ((k:Int)+1),.int ((#[Se].length:Nat):Int),.int (1+d0 % 16)])=H4 at v4 HR DV h4p Am |-;have hw:∀ (H':Hp),zr H4 H'->∀ (rr z r':Addr) (ls:List Addr) (m:Int) (rows:List #[At]),H' rr=some #[Qa]->H' z=some (.tup [.int m,.ref r'])->H' r'=some #[Qe]->zaN H' ls rows->zoo p k rows->0<=m->m<=1000->zpJ t p (T':Int) m k rw pl rows [.ref c,.ref rr,.int (T':Int),.ref z] H':=fun H' s' rr z r' ls m rows hr hz qA ht C m0 m1 =>
    ⟨c,tt,rr,z,r',ls,rfl,HR.same s',hr,rL,#[O],hp,co.nd,co.rg,HS,#[O],#[O],#[O],#[O],hz,qA,ht,C.1,C.2.1,C.2.2.1,m0,m1⟩
   refine (pz rfl ⟨rfl,(pz rfl (za6 (fun hk=>?_) (fun hk=>?_)))⟩)
   ·have hk:(k:Int)=1:=by
     have:=of_decide_eq_true hk;injection this
    have hk:k=1:=by lia
    refine (pz rfl (pz rfl (pz rfl ⟨szq,fun x1 Bt=>⟨szq,fun x2 BP=>⟨szq,fun x3 FJ=>?_⟩⟩⟩)));have w1:=zb (o:=.tup [.int 1]) Bt;have w2:=zb (o:=.tup [.ref x1]) BP;have w3:=zb (o:=.tup [.int 1,.ref x2]) FJ;have KI:=w1.trans (w2.trans w3);refine⟨p,1,T',k,rw,pl,[[1]],hw _ KI r x3 x2 [x1] 1 [[1]] (KI _ _ DV) zc (w3 _ _ zc) #[Ve] ?_ #[D] #[D],fun h=>by lia,fun v H5 s5 HU=>?_⟩
    ·refine⟨#[D],fun r hr=>?_,⟨[1],#[M],1,#[M],#[D]⟩,?_⟩
     ·rw [bF.mp hr];exact⟨#[D],#[D],fun v hv=>by rw [bF.mp hv]; lia⟩
     ·show 1 ^ k<=2000000;rw [n6];decide
    obtain⟨_,rfl⟩:k < 2/\v = .str "curve":=by
     rcases HU with h | h
     ·exact h
     ·lia
    exact⟨rfl,(pz rfl (za6 #[Uq] (fun _=>(zrM _ _ _ _ _ _ _ _ _ _ _ _ ⟨rfl,Am.trans (KI.trans s5)⟩))))⟩
   have k2:2<=k:=by
    have:¬ (k:Int)=1:=fun e=>hk (decide_eq_true (by rw [e]))
    lia
   have k5:k<=5:=by lia
   apply zgj; intro zK2;refine (pz rfl (pz rfl (pz rfl (ex8 c tt r p (T':Int) k pl rw ⟨rfl,HR,DV,rL,#[O],hp,co.nd,co.rg,HS,k2,k5,#[O],#[O],fun z r' ls m rows H5 s5 HV KJ KL m1 m4 C5=>?_⟩))));have h5p:=s5 _ _ h4p;refine (pz rfl (pz rfl (ex4 z _ _ _ ⟨rfl,rfl,pK.of HV,rfl,(pF rfl rfl ⟨#[O],(pF rfl rfl (pz rfl (ex4 z _ _ _ ⟨rfl,rfl,pK.of HV,rfl,szq,fun z2 vG=>?_⟩)))⟩)⟩)));have u6:=zb (o:=.tup [.int (m % 4+1),.ref r']) vG;have g6:pB H5 z2 (.tup [.int (m % 4+1),.ref r']) z2=some (.tup [.int (m % 4+1),.ref r']):=zc;refine (pz rfl (ex4 pa _ _ _ ⟨rfl,rfl,pA.of (u6 _ _ h5p),JJ,(pz rfl (pF rfl rfl (pF rfl rfl ⟨#[O],(pF rfl rfl ⟨szq,fun y1 He=>⟨szq,fun y2 Ex=>⟨szq,fun z3 DA=>?_⟩⟩⟩)⟩)))⟩));have u7:=zb (o:=.tup [.int 0,.int (1+d2 % (p - 1))]) He;have u8:=zb (o:=.tup [.ref y1]) Ex;have u9:=zb (o:=.tup [.int 1,.ref y2]) DA;have u69:=u6.trans (u7.trans (u8.trans u9));refine (pz rfl (ex4 z _ _ _ ⟨rfl,rfl,pK.of (u69 _ _ HV),rfl,szq,fun z4 Km=>⟨szq,fun L2 Cw=>?_⟩⟩));have KN:=zb (o:=.tup [.int 5,.ref r']) Km;have HW:=zb (o:=.lst [.ref z,.ref z2,.ref z3,.ref z4]) Cw;have KO:=u9.trans (KN.trans HW);have hC3:zoo p k [[0,1+d2 % (p - 1)]]:=by
    have h0:=bL d2 (show p - 1≠0 by lia);have h1:=bE d2 (show 0 < p - 1 by lia);refine⟨by show 1<=100; decide,fun r hr=>?_,⟨_,bF.mpr rfl,1+d2 % (p - 1),#[M],#[O]⟩,?_⟩
    ·rw [bF.mp hr];refine⟨by show 1<=2; decide,by show 2<=100; decide,fun v hv=>?_⟩;rcases (aR.mp hv) with rfl | hv
     ·lia
     ·rw [bF.mp hv]; lia
    ·show 1 ^ k<=2000000;rw [n6];decide
   have wX:pB (pB (pB (pB (pB (pB H5 z2 (.tup [.int (m % 4+1),.ref r'])) y1 (.tup [.int 0,.int (1+d2 % (p - 1))])) y2 (.tup [.ref y1])) z3 (.tup [.int 1,.ref y2])) z4 (.tup [.int 5,.ref r'])) L2 (.lst [.ref z,.ref z2,.ref z3,.ref z4]) L2=some (.lst ([z,z2,z3,z4].map V.ref)):=zc;have tE:=u69.trans (KN.trans HW);have GD:∀ x∈[z,z2,z3,z4],Pap p k (pB (pB (pB (pB (pB (pB H5 z2 (.tup [.int (m % 4+1),.ref r'])) y1 (.tup [.int 0,.int (1+d2 % (p - 1))])) y2 (.tup [.ref y1])) z3 (.tup [.int 1,.ref y2])) z4 (.tup [.int 5,.ref r'])) L2 (.lst [.ref z,.ref z2,.ref z3,.ref z4])) x:=fun x hx=>by
    rcases (aR.mp hx) with rfl | hx
    ·exact⟨m,r',ls,rows,tE _ _ HV,tE _ _ KJ,KL.same tE,C5,#[O],#[O]⟩
    rcases (aR.mp hx) with rfl | hx
    ·exact⟨m % 4+1,r',ls,rows,(u7.trans (u8.trans KO)) _ _ g6,tE _ _ KJ,KL.same tE,C5,#[O],#[O]⟩
    rcases (aR.mp hx) with rfl | hx
    ·exact⟨1,y2,[y1],_,(KN.trans HW) _ _ zc,KO _ _ zc,.cons ((u8.trans KO) _ _ zc) .nil,hC3,#[D],#[D]⟩
    ·rw [bF.mp hx];exact⟨5,r',ls,rows,HW _ _ zc,tE _ _ KJ,KL.same tE,C5,#[D],#[D]⟩
   have wq:=s5.trans tE;generalize pB (pB (pB (pB (pB (pB H5 z2 (.tup [.int (m % 4+1),.ref r'])) y1 (.tup [.int 0,.int (1+d2 % (p - 1))])) y2 (.tup [.ref y1])) z3 (.tup [.int 1,.ref y2])) z4 (.tup [.int 5,.ref r'])) L2 (.lst [.ref z,.ref z2,.ref z3,.ref z4])=H6 at wX GD wq |-;refine⟨L2,rfl,⟨_,pA.of wX⟩,zbU (K:=K) (a:=L2) (xs:=[z,z2,z3,z4].map V.ref) (fun i σ H'=>∃ (xM DU CS:Option V),σ = [some #[QK],some (.int (0+(ET:Int))),some (.ref c),some #[Tz],some (.int (k:Int)),some (.ref tt),some (.ref r),some (.ref pa),some (.int (T':Int)),some #[RX],xM,DU,CS]/\zr H6 H')
    ⟨_,_,_,rfl,fun _ _ e=>e⟩ (fun i σ H' _ ⟨_,_,_,_,s'⟩=>pA.of (s' _ _ wX)) ?_ ?_⟩
   ·rintro zD2 zT2 i x σ H7 hx ⟨xM,DU,CS,rfl,s7⟩;obtain⟨zz,rfl,HM⟩:=zQ hx;obtain⟨m',rr,xg,rE,q1,q2,q3,C',KP,KQ⟩:=GD zz (aU HM);show zT2 (zD2 i) _ H7;apply zgj; intro zJ2;have g1:=s7 _ _ q1;have g2:=s7 _ _ q2;have g3:=q3.same s7;have KR:=wq.trans s7;have EI:=KR _ _ DV;refine (pz rfl (pz rfl ⟨r,(pz rfl ⟨.inl (pA.of EI),fun r1 Jk=>?_⟩)⟩));have w1:=zb (o:=.lst (rw.map tS)) Jk;have s48:=KR.trans w1;refine (pz rfl (pz rfl ⟨p,m',T',k,rw,pl,rE,hw _ s48 r1 zz rr xg m' rE zc (w1 _ _ g1) (w1 _ _ g2) (g3.same w1) C' KP KQ,fun _=>⟨k5,C'.2.2.2⟩,fun v H8 s8 HU=>?_⟩));have w8:=w1.trans s8;have s49:=KR.trans w8;have Hr:=s49 _ _ DV;refine (pz rfl (pz rfl ⟨r,(pz rfl ⟨.inl (pA.of Hr),fun r2 CB=>?_⟩)⟩));have w2:=zb (o:=.lst (rw.map tS)) CB;have HX:=w8.trans w2;refine (pz rfl (pz rfl ⟨p,(T':Int),m',k,rw,pl,rE,hw _ (s49.trans w2) r2 zz rr xg m' rE zc (HX _ _ g1) (HX _ _ g2) (g3.same HX) C' KP KQ,.inr ⟨k2,fun H9 s9=>?_⟩⟩));have w9:=HX.trans s9;by_cases yK:Ph p k rE #[Fr] m' (T':Int);rotate_left
    ·rw [zon yK];obtain rfl:v = .str "paper":=by
      rcases HU with h | ⟨_,h | h⟩
      ·lia
      ·exact h.2
      ·exact absurd h.1 yK
     exact (pz rfl (zmA (pz rfl ⟨rfl,(pz rfl (za6 #[Uq] (fun _=>(ex3 _ _ _ ⟨rfl,s7.trans w9⟩))))⟩)))
    rw [zom yK];obtain⟨l,us,qs,rfl,hl,h8l,ht8,Gz,hR,hm⟩:∃ (l:Addr) (us:List Addr) (qs:List #[At]),v = .ref l/\pB H7 r1 #[Qa] l=none/\H8 l=some #[GT]/\zaN H8 us qs/\qs.length<=2000000/\zdr p k qs/\∀ q,q∈qs↔(IsP p k q/\Zr p (AL k (gl q) rE.length fun j i=>gl (rE.getD j []) i))/\T'<=hits p q #[Fr]:=by
     rcases HU with h | ⟨_,h | h⟩
     ·lia
     ·exact absurd yK h.1
     ·exact h.2
    refine (pz rfl (zeS ?_));have s89:=w2.trans s9;have KS:=s89 _ _ h8l;have KU:=ht8.same s89;have GF:H6 l=none:=(s7.trans w1).free hl;have GG:=s7.trans w9;have KY:H4 l=none:=wq.free GF;have DW:=wq.trans GG;have tL:=KU.length;apply zg9; intro zQ4 zQ3 zQ2;have tail:∀ H':Hp,zr H9 H'->zQ2 [some #[QK],some (.int (0+(ET:Int))),some (.ref c),some #[Tz],some (.int (k:Int)),some (.ref tt),some (.ref r),some (.ref pa),some (.int (T':Int)),some #[RX],some (.ref zz),some #[Qy],CS] H':=by
     intro KZ EU;have DX:=EU _ _ KS;refine (pz rfl ⟨l,(pz rfl ⟨.inl (pA.of DX),fun D2 tZ=>?_⟩)⟩);have x1:=zb (o:=.lst #[Rc]) tZ;have g11:pB KZ D2 #[GT] D2=some #[GT]:=zc;have Cf:=x1 _ _ DX;have Ci:=EU.trans x1;have hDl:D2≠l:=fun e=>by rw [e,DX] at tZ; cases tZ
     generalize pB KZ D2 #[GT]=H11 at x1 g11 Cf Ci |-;refine (pz rfl ⟨.inl ⟨rfl,_,pA.of Cf⟩,l,(pF rfl rfl ⟨Cf,by rw [aA]; lia,?_⟩)⟩);have sx:=zak (o:=.lst (us.map V.ref++[.int 7])) (GG.trans Ci) GF;have K0:=zak (o:=.lst (us.map V.ref++[.int 7])) (DW.trans Ci) KY;have hDx:pB H11 l (.lst (us.map V.ref++[.int 7])) D2=some #[GT]:=by rw [zm hDl]; exact g11
     have htx:=zaN.put (o:=.lst (us.map V.ref++[.int 7])) (KU.same Ci) Cf;generalize pB H11 l (.lst (us.map V.ref++[.int 7]))=H12 at sx K0 hDx htx |-;refine (pz rfl (pz rfl (pz rfl (pz rfl ⟨p,m',T',k,rw,pl,rE,hw _ K0 r zz rr xg m' rE (K0 _ _ DV) (sx _ _ q1) (sx _ _ q2) (q3.same sx) C' KP KQ,fun _=>⟨k5,C'.2.2.2⟩,fun v2 H13 Bv K1=>?_⟩))));obtain⟨l3,K2,EV,rfl,_,K3,GH,_,FF,FC⟩:∃ (l3:Addr) (K2:List Addr) (EV:List #[At]),v2 = .ref l3/\H12 l3=none/\H13 l3=some (.lst (K2.map V.ref))/\zaN H13 K2 EV/\EV.length<=2000000/\zdr p k EV/\∀ q,q∈EV↔(IsP p k q/\Zr p (AL k (gl q) rE.length fun j i=>gl (rE.getD j []) i))/\T'<=hits p q #[Fr]:=by
      rcases K1 with h | ⟨_,h | h⟩
      ·lia
      ·exact absurd yK h.1
      ·exact h.2
     have e3:EV=qs:=zhy FF hR fun q=>by rw [FC,hm]
     subst e3;exact (pz rfl (zg5 (pA.of K3) (pA.of (Bv _ _ hDx)) (by rw [aA,aA,GH.length]; exact tL.symm) (zkV GH (htx.same Bv)) (pz rfl (zeS (ex3 _ _ _ ⟨rfl,sx.trans Bv⟩)))))
    refine (pz rfl (ex4 _ _ _ _ ⟨rfl,.lst KS,rfl,true,rfl,zeS (pz rfl (pz rfl (pF rfl rfl (pz rfl (za6 (fun K4=>?_) (fun _=>tail _ fun _ _ e=>e))))))⟩));have K4:(k:Int)<=(T':Int):=of_decide_eq_true K4;refine (pz rfl (pz rfl (pz rfl (pz rfl (ex8 c tt r p k (T':Int) pl rw ⟨rfl,HR.same DW,DW _ _ DV,rL,#[O],hp,co.nd,co.rg,HS,#[O],#[O],K4,fun l5 rs5 qs5 KZ Kl EU h10 GI hR5 hm5=>?_⟩)))));obtain⟨d,rfl⟩:∃ d,k=d+1:=⟨k - 1,#[O]⟩;obtain⟨mN,rfl⟩:∃ mN:Nat,m'=mN:=⟨m'.toNat,#[O]⟩;have e5:qs5=qs:=zhy hR5 hR fun q=>by
     rw [hm5,hm];constructor
     ·rintro⟨h1,h2⟩;exact⟨⟨h1,zpG hp #[O] (zff co.nd co.rg HS) yK Kx h1 #[O]⟩,#[O]⟩
     ·rintro⟨⟨h1,_⟩,h2⟩;exact⟨h1,#[O]⟩
    subst e5;exact zg5 (pA.of (EU _ _ KS)) (pA.of h10) (by rw [aA,aA,GI.length]; exact tL) (zkV (KU.same EU) GI) (pz rfl (zeS (tail _ EU)))
   ·rintro σ H7 ⟨xM,DU,CS,rfl,s7⟩;exact (zrM _ _ _ _ _ _ _ _ _ _ _ _ ⟨rfl,Am.trans (wq.trans s7)⟩)
  ·rintro σ H0 ⟨e1,e2,e3,e4,e5,e6,e7,e8,e9,xM,DU,CS,rfl,s0⟩;exact q _
end
structure Dn (K:aD) (x:Str) (st:Stmt) (f:Addr) (fd:FuncData):Prop where
 a:bZ K mainGlobals x=some (some #[Tt])
 f:Fun K x x st f fd
theorem zsd {x:Str} {i:Int} {u:Value} (y:bZ K mainGlobals x=some (some u)) (r:RelV (.int i) u):∃ u,bZ K mainGlobals x=some (some u)/\RelV (.int i) u:=⟨u,y,r⟩
theorem zse {x:Str} {st:Stmt} {f:Addr} {sl:Array #[Sf]} {kV dc:Value} (a:bZ K mainGlobals x=some (some #[Tt])) (l:K.lookup f=some ⟨oc,od,.func #[Sx],sl⟩) (c:gW K cd x=true) (k:gv K #[Tt]=true):Dn K x st f #[Sx]:=⟨a,zmz l c k⟩
theorem el0 {n:Nat} (e:us.length=n+1):∃ a v,us=a :: v/\v.length=n:=by
 cases us with
 | nil=>cases e
 | cons a v=>exact⟨a,v,rfl,Nat.succ.inj e⟩
theorem el1 (e:us.length=1):∃ a,us = [a]:=by
 obtain⟨a,v,rfl,h⟩:=el0 e;exact⟨a,by rw [jP h]⟩
theorem el2 (e:us.length=2):∃ a b,us = [a,b]:=by
 obtain⟨a,v,rfl,h⟩:=el0 e;obtain⟨b,rfl⟩:=el1 h;exact⟨a,b,rfl⟩
theorem el3 (e:us.length=3):∃ a b c,us = [a,b,c]:=by
 obtain⟨a,v,rfl,h⟩:=el0 e;obtain⟨b,c,rfl⟩:=el2 h;exact⟨a,b,c,rfl⟩
theorem el4 (e:us.length=4):∃ a b c d,us = [a,b,c,d]:=by
 obtain⟨a,v,rfl,h⟩:=el0 e;obtain⟨b,c,d,rfl⟩:=el3 h;exact⟨a,b,c,d,rfl⟩
theorem zrv {l:k7} {w:World} {fa fl qg sy pG pH rF qT tN qU qf sC tO:Addr} (X:K.In h) (G:h.Ns mainGlobals mg) (hfa:mg "law" = some (.ref fa))
  {sl:Array #[Sf]} {kV dc:Value} (CT:bZ K mainGlobals "SlipError" = some (some (.ref qg))) (GJ:bZ K mainGlobals "TooFew" = some (some (.ref sy))) (EW:bZ K mainGlobals "NoCurve" = some (some #[RC])) (EX:bZ K mainGlobals "NoPaper" = some (some #[RB])) (EY:bZ K mainGlobals "NoPlace" = some (some (.ref rF))) (DY:bZ K mainGlobals "NoNumber" = some (some (.ref qT))) (HY:bZ K mainGlobals "Heard" = some (some (.ref tN))) (DZ:bZ K mainGlobals "NotHeard" = some (some (.ref qU))) (Bz:bZ K mainGlobals "NothingLeft" = some (some (.ref qf))) (GL:bZ K mainGlobals "NoText" = some (some (.ref sC))) (HZ:bZ K mainGlobals "NoRow" = some (some (.ref tO))) (xt:∃ f fd,Dn K "value_at" zcK f fd) (yP:∃ f fd,Dn K "inverse" zdk f fd) (vA:∃ f fd,Dn K "times_root" zbo f fd) (D4:∃ f fd,Dn K "bent" zf6 f fd) (yQ:∃ f fd,Dn K "through" zdl f fd) (uj:∃ f fd,Dn K "moved_powers" zbp f fd) (vB:∃ f fd,Dn K "numbers_at" zaR f fd) (vC:∃ f fd,Dn K "vectors_of" za2 f fd) (yR:∃ f fd,Dn K "without" zcn f fd) (sR:∃ f fd,Dn K "first_relation" zaw f fd) (wu:∃ f fd,Dn K "first_sum" zbG f fd) (uk:∃ f fd,Dn K "heard_points" zaY f fd) (D6:∃ f fd,Dn K "fits" zf7 f fd) (xu:∃ f fd,Dn K "width_of" zbY f fd) (Bg:∃ f fd,Dn K "filled" zc3 f fd) (xv:∃ f fd,Dn K "terms_of" zbZ f fd) (Bh:∃ f fd,Dn K "turned" zc4 f fd) (Bi:∃ f fd,Dn K "raised" zc5 f fd) (yS:∃ f fd,Dn K "size_of" zco f fd) (Cj:∃ f fd,Dn K "moved" zei f fd) (wx:∃ f fd,Dn K "weight_at" zbH f fd) (uI:∃ f fd,Dn K "first_terms" za8 f fd) (uJ:∃ f fd,Dn K "least_curve" zau f fd) (um:∃ f fd,Dn K "check_curves" zbq f fd) (wy:∃ f fd,Dn K "curve_for" zbI f fd) (wA:∃ f fd,Dn K "without_x" zbk f fd) (vD:∃ f fd,Dn K "next_curve" zbr f fd) (yT:∃ f fd,Dn K "further" zbV f fd) (xw:∃ f fd,Dn K "roots_of" zbw f fd) (xy:∃ f fd,Dn K "paper_of" zcL f fd) (uK:∃ f fd,Dn K "paper_holds" za9 f fd) (yU:∃ f fd,Dn K "near_by" zcp f fd) (yV:∃ f fd,Dn K "choices" zbW f fd) (uL:∃ f fd,Dn K "all_through" zba f fd) (xA:∃ f fd,Dn K "all_near" zb0 f fd) (Bj:∃ f fd,Dn K "_law_cell" zej f fd) (yW:∃ f fd,Dn K "_law_draws" zdm f fd) (Bk:∃ f fd,Dn K "_law_code" zc6 f fd) (yX:∃ f fd,Dn K "_law_value" zdn f fd) (uo:∃ f fd,Dn K "_law_polynomial" zaZ f fd) (Ck:∃ f fd,Dn K "_law_row" zek f fd) (Bl:∃ f fd,Dn K "_law_word" zel f fd) (yY:∃ f fd,Dn K "_law_paper" zdo f fd) (Bm:∃ f fd,Dn K "_law_told" zem f fd)  (M9:gJ K pG zjE "ValueError.__new__" = true) (Mk:gJ K pH zjE "ValueError.__new__" = true) (yZ:bN K #[RC] (.ref sy)=some false) (xR:bN K #[RC] #[RC]=some true) (xS:bN K #[RC] #[RB]=some false) (xT:bN K #[RC] (.ref rF)=some false) (xB:bN K #[RC] (.ref qT)=some false) (Ao:bN K #[RC] (.ref tN)=some false) (xC:bN K #[RC] (.ref qU)=some false) (vI:bN K #[RC] (.ref qf)=some false) (y4:bN K #[RC] (.ref sC)=some false) (Ap:bN K #[RC] (.ref tO)=some false) (EZ:bN K #[RC] (.type "ValueError")=some true) (E1:ft K #[RC] (.ref qg)=some true) (D7:dH K #[RC] "__getattribute__" = some (some (.builtin "BaseException.__getattribute__"))) (D8:dH K #[RC] "__getattr__" = some none) (D9:dH K #[RC] "__class__" = some (some (.builtin "object.__class__"))) (D':du K pG (.type "object")=some true) (Ea:du K pG (.type "BaseException")=some true) (Eb:ft K #[RC] #[RC]=some true) (y6:bN K #[RB] (.ref sy)=some false) (xU:bN K #[RB] #[RC]=some false) (xV:bN K #[RB] #[RB]=some true) (xW:bN K #[RB] (.ref rF)=some false) (xD:bN K #[RB] (.ref qT)=some false) (Aq:bN K #[RB] (.ref tN)=some false) (xE:bN K #[RB] (.ref qU)=some false) (vJ:bN K #[RB] (.ref qf)=some false) (y8:bN K #[RB] (.ref sC)=some false) (Ar:bN K #[RB] (.ref tO)=some false) (E2:bN K #[RB] (.type "ValueError")=some true) (E3:ft K #[RB] (.ref qg)=some true) (Ec:dH K #[RB] "__getattribute__" = some (some (.builtin "BaseException.__getattribute__"))) (Ed:dH K #[RB] "__getattr__" = some none) (Ee:dH K #[RB] "__class__" = some (some (.builtin "object.__class__"))) (Ef:du K pH (.type "object")=some true) (Eg:du K pH (.type "BaseException")=some true) (Eh:ft K #[RB] #[RB]=some true) (sb:du K qg (.type "BaseException")=some true)
  (al:bZ K mainGlobals "law" = some (some (.ref fl))) (ll:K.lookup fl=some ⟨oc,od,.func (eU "law" "law" (zb2 zdB) (zbl zdB) (zh zdB) .none kV dc pm an cd ct),sl⟩) (cl:gW K cd "law" = true) (kl:gv K (.ref fl)=true) (PC:bZ K mainGlobals "len" = some none) (Ia:bZ K mainGlobals "range" = some none) (K5:bZ K mainGlobals "list" = some none) (Ib:bZ K mainGlobals "tuple" = some none) (Pz:bZ K mainGlobals "min" = some none) (PB:bZ K mainGlobals "max" = some none) (PD:bZ K mainGlobals "int" = some none) (Cm:bZ K mainGlobals "isinstance" = some none) (PH:bZ K mainGlobals "all" = some none) (Px:bZ K mainGlobals "zip" = some none) (CU:bZ K mainGlobals "enumerate" = some none) (Py:bZ K mainGlobals "sum" = some none) (K6:bZ K mainGlobals "dict" = some none) (Ei:bZ K mainGlobals "reversed" = some none) (GN:bZ K mainGlobals "sorted" = some none) (PF:bZ K mainGlobals "any" = some none) (Cn:bZ K mainGlobals "ValueError" = some none) (rJ:∃ u,bZ K mainGlobals "MOST_PAPER_WEIGHT" = some (some u)/\RelV (.int 4) u) :
  ∃ fd:FuncData,(∀ (s:Shared) (v:Value),BindsTo s fd ⟨[v],[]⟩ [("script",v)])/\∀ base:Heap,K.In base->base.Ns mainGlobals mg->Lf l.prog w K mg base CX0 11 fa fd ["script"] (zhk K):=by
 cases hfa.symm.trans (km X G al);obtain⟨Lz,_,_⟩:=xt;obtain⟨Mi,_,_⟩:=yP;obtain⟨Ls,_,_⟩:=vA;obtain⟨OJ,_,_⟩:=D4;obtain⟨MT,_,_⟩:=yQ;obtain⟨Lw,_,_⟩:=uj;obtain⟨LN,_,_⟩:=vB;obtain⟨LM,_,_⟩:=vC;obtain⟨MS,_,_⟩:=yR;obtain⟨Li,_,_⟩:=sR;obtain⟨L9,_,_⟩:=wu;obtain⟨Lb,_,_⟩:=uk;obtain⟨Oh,_,_⟩:=D6;obtain⟨LZ,_,_⟩:=xu;obtain⟨MF,_,_⟩:=Bg;obtain⟨Lk,_,_⟩:=xv;obtain⟨Nz,_,_⟩:=Bh;obtain⟨ME,_,_⟩:=Bi;obtain⟨MU,_,_⟩:=yS;obtain⟨NY,_,_⟩:=Cj;obtain⟨L8,_,_⟩:=wx;obtain⟨LG,_,_⟩:=uI;obtain⟨LF,_,_⟩:=uJ;obtain⟨Lh,_,_⟩:=um;obtain⟨Ma,_,_⟩:=wy;obtain⟨L7,_,_⟩:=wA;obtain⟨LO,_,_⟩:=vD;obtain⟨MY,_,_⟩:=yT;obtain⟨Mo,_,_⟩:=xw;obtain⟨Mp,_,_⟩:=xy;obtain⟨Lj,_,_⟩:=uK;obtain⟨MV,_,_⟩:=yU;obtain⟨MZ,_,_⟩:=yV;obtain⟨LH,_,_⟩:=uL;obtain⟨Mq,_,_⟩:=xA;obtain⟨ND,_,_⟩:=Bj;obtain⟨LP,_,_⟩:=yW;obtain⟨NC,_,_⟩:=Bk;obtain⟨MW,_,_⟩:=yX;obtain⟨Lx,_,_⟩:=uo;obtain⟨NZ,_,_⟩:=Ck;obtain⟨NA,_,_⟩:=Bl;obtain⟨MX,_,_⟩:=yY;obtain⟨NB,_,_⟩:=Bm
 let t:Adr:=⟨qg,sy,pG,pH,rF,qT,tN,qU,qf,sC,tO,Lz,Mi,Ls,OJ,MT,Lw,LN,LM,MS,Li,L9,Lb,Oh,LZ,MF,Lk,Nz,ME,MU,NY,L8,LG,LF,Lh,Ma,L7,LO,MY,Mo,Mp,Lj,MV,MZ,LH,Mq,ND,LP,NC,MW,Lx,NZ,NA,MX,NB,fa⟩
 have T:Txt K mg t:=by constructor <;> first | assumption | exact PySem.W.mg_none_of X G ‹_› | exact km X G ‹_› | exact km X G (Dn.a ‹_›) | exact⟨_,Dn.f ‹_›,(Dn.f ‹_›).binds fun _ _ _ _ _ _ _ h=>by first | (obtain⟨_,rfl⟩:=el1 h; exact rfl) | (obtain⟨_,_,rfl⟩:=el2 h; exact rfl) | (obtain⟨_,_,_,rfl⟩:=el3 h; exact rfl) | (obtain⟨_,_,_,_,rfl⟩:=el4 h; exact rfl) | (obtain⟨_,_,_,_,_,rfl⟩:=el5 h; exact rfl)⟩ | exact (by obtain⟨u,e,q,r⟩:=rJ; subst r; exact⟨q,km X G e⟩) | exact⟨‹_›,‹_›,‹_›,‹_›,‹_›,‹_›,‹_›,‹_›,‹_›,‹_›,‹_›,⟨‹_›,‹_›,‹_›,‹_›,‹_›,‹_›⟩,‹_›⟩
 have FL:=zmz (st:=zdB) ll cl kl;exact⟨eU "law" "law" (zb2 zdB) (zbl zdB) (zh zdB) .none kV dc pm an cd ct,fun s v=>.of_eq rfl,fun base _ _=>zru (t:=t) T FL⟩
theorem walk {l:k7} {q:Program} {loose:List Str} {XP:#[VC]->Heap->Prop} {YP:World->Heap->Prop} {d:DefRec} {K:Params->aD} (hn:l.most=some 63) (E8:d.params.defaults = []) (hY:∀ (w:World) (h:Heap),YP w h->#[Rt].In h)
  (F:∀ (w:World) (mg:Str->Option Value) (fa:Addr) (h:Heap),#[Rt].In h->h.Ns mainGlobals mg->mg d.name=some (.ref fa)->∃ fd:FuncData,(∀ (s:Shared) (u:Value),BindsTo s fd ⟨[u],[]⟩ [("script",u)])/\∀ base:Heap,#[Rt].In base->base.Ns mainGlobals mg->Lf l.prog w #[Rt] mg base CX0 11 fa fd ["script"] (zhk #[Rt])):o6 q loose XP YP l.row.toRowW d [] #[Vy] :=
 L2.zoB (n:=63) (k:=11) (x:="script") (CX:=fun _=>CX0) (sp:=fun w=>zhk #[Rt]) hn #[D] E8 ⟨rfl,#[D],#[D]⟩ hY F (fun _ _ a ns hl _ hS=>⟨a,ns,rfl,hS,hl,fun _=>rfl⟩) fun _ _ _ _ _ z=>z
end My
namespace PySem.W.Fast
def tw3158707114791548125:=0
def tw17597427070950034045:=0
def tw8986561493779758328:=0
def tw10439069213669002908:=0
def tw9559964747869521124:=0
def tw9266267703064095256:=0
def tw13555130147160721063:=0
def tw12605856332450831476:=0
def tw16887325643060888383:=0
def tw5513070819845759927:=0
def tw10992260498956199825:=0
def tw308727369178608682:=0
def tw17144610641158027122:=0
def tw6471952446938636280:=0
def tw13114595384630094549:=0
def tw6044255396347633714:=0
def tw12695195751487146708:=0
def tw12002514315342514857:=0
def tw16140905576248163233:=0
def tw18394295670125880291:=0
def tw15769575680148860337:=0
def tw12068677019393698615:=0
def tw9475141227326331146:=0
def tw3331908244002120191:=0
def tw14026931610830859177:=0
def tw17058074580485627912:=0
def tw16703285175690644567:=0
def tw2770082591857034429:=0
def tw9007268102646032698:=0
def tw54996440356208536:=0
def tw12923340022356309246:=0
def tw11223353782594081817:=0
def tw14587068214396915800:=0
def tw14021635502648809863:=0
def tw17473709163857612104:=0
def tw13187052315240200688:=0
def tw2157039015300860214:=0
def tw2214178287308255468:=0
def tw5025790580014952187:=0
def tw7503451625477219340:=0
def tw7524804968724619697:=0
def tw14398063037388903394:=0
def tw12907644185326752983:=0
def tw12367258711513638501:=0
def tw15710411475303565349:=0
def tw15319703901599429305:=0
def tw15066621590673289691:=0
def tw5470595765923319600:=0
def tw17588711121905214795:=0
def tw6821490536116136207:=0
def tw11067311505267204676:=0
def tw10268676175609698642:=0
def tw728542011888287214:=0
def tw1120823573082750421:=0
def tw8930925436080327668:=0
def tw1370065532662277817:=0
def tw2684803031153575952:=0
def tw6059887084417221259:=0
def tw6020852816417835722:=0
def tw7038067266682023512:=0
def tw17702982669266755326:=0
def tw591655183117552871:=0
def tw7199620880719836977:=0
def tw14506575331822178901:=0
def tw51146622501900452:=0
def tw3686731748548504337:=0
def tw1928223954533591443:=0
def tw5350399387858683826:=0
def tw12089792566512622376:=0
def tw2407256323601378844:=0
def tw3839679742873662977:=0
def tw15841504855684048389:=0
def tw4928486976859233966:=0
def tw15303916013285491739:=0
def tw14224496488532113114:=0
def tw17869654647093816218:=0
def tw15200842637008567260:=0
def tw8989906945541802073:=0
def tw17541949982995665670:=0
def tw11532651633375596045:=0
def tw8977215213656054687:=0
def tw2046645790539873994:=0
def tw2940630286410050230:=0
def tw17290561382832988023:=0
def tw4907978425432077241:=0
def tw11727797374133333503:=0
def tw14584126662160347646:=0
def tw11157711462258052218:=0
def tw1163129725169536835:=0
def tw6711236973412296813:=0
def tw15433652223740873456:=0
def tw2388268400939668951:=0
def tw9484558584662142230:=0
def tw18379806681653841538:=0
def tw10620977243304143687:=0
def tw12213007661022051857:=0
def tw17017830342879943158:=0
def tw11031140497110541419:=0
def tw4057087640047138330:=0
def tw7580656260551698918:=0
def tw2287753949570882761:=0
def tw6344331533166593033:=0
def tw1221216369622507848:=0
def tw3253084415416873971:=0
def tw17509133615429345824:=0
def tw12566333202360765115:=0
def tw18018688933354302676:=0
def tw16742375142583760604:=0
def tw3325513163987027286:=0
def tw4321658197825332199:=0
def tw17741204423074874898:=0
def tw16426940501027985736:=0
def tw5239117684619510650:=0
def tw14541738886810210650:=0
def tw11675949242299197808:=0
def tw1366391143418063574:=0
def tw9644523671539215007:=0
def tw9166834471229522264:=0
def tw2230623091069347314:=0
def tw496357388630880257:=0
def tw2412241613848709856:=0
def tw8215464414324290780:=0
def tw5174639694257094088:=0
def tw5683067019042278072:=0
def tw15401405622809779337:=0
def tw10908961788862112270:=0
def tw6537608880871158597:=0
def tw10673213777937910849:=0
def tw8167338507163635250:=0
def tw10247787400378524149:=0
def tw16430254139957023072:=0
def tw16033366931023360092:=0
def tw5330689310272061570:=0
def tw9083994091289234416:=0
def tw850627224179931313:=0
def tw739899553716649488:=0
def tw10857393451670185499:=0
def tw17577528617524547021:=0
def tw1763476024825372641:=0
def tw2354598083956860149:=0
def tw3556839714639736998:=0
def tw16346859191384011075:=0
def tw3555299768319916490:=0
def tw17474866174985818042:=0
def tw4866846406301936839:=0
def tw5211338915306722118:=0
def tw6148690244200078672:=0
def tw8640809649452061378:=0
def tw11950638608496670550:=0
def tw4595453354005305403:=0
def tw15426766011066904527:=0
def tw10919423473833391190:=0
def tw7603012077927422870:=0
def tw1573857314913747085:=0
def tw13463561458280729161:=0
def tw13887319736890412809:=0
def tw5611666983178970088:=0
def tw12668762949152572578:=0
def tw7070983497095976256:=0
def tw9480411534616464567:=0
def tw14789194019454997364:=0
def tw9397624891608327155:=0
def tw774413127087235716:=0
def tw1182251947551757464:=0
def tw8328206542332070328:=0
def tw10620952871420118248:=0
def tw3114854626490105929:=0
def tw7850634631137919656:=0
def tw1050860919836244397:=0
def tw4243277478057022726:=0
def tw4950538577134637094:=0
def tw3083126198230500844:=0
def tw1143578528883097848:=0
def tw2766448573281443389:=0
def tw6043099364992776559:=0
def tw2651852940350966428:=0
def tw14208593474732015375:=0
def tw5701150385592024447:=0
def tw7667825167668150360:=0
def tw17174522532264578679:=0
def tw16649548198248023354:=0
def tw10580903821439410947:=0
def tw715448408243384922:=0
def tw6946028686982550164:=0
def tw13840118633237361264:=0
def tw11484462548574186055:=0
def tw14490375827487555584:=0
def tw8036267832035977750:=0
def tw4450290485406629609:=0
def tw618195336238551990:=0
def tw9254605203212689939:=0
def tw2185708703250548683:=0
def tw12520353727701925896:=0
def tw13231488549724840641:=0
def tw8868952801519840036:=0
def tw13080196573925574214:=0
def tw4658877682949664760:=0
def tw12865156928522821866:=0
def tw4951396262579576889:=0
def tw9594640229656148444:=0
def tw4172925455578222922:=0
def tw431211312287506595:=0
def tw17419213877676807675:=0
def tw17039002264002325841:=0
def tw15688252765527690748:=0
def tw4688196916088768343:=0
def tw12371068006546302989:=0
def tw13390370335195989922:=0
def tw15870284156067049948:=0
def tw7494022561330340629:=0
def tw18143360463729836328:=0
def tw10631256810722207175:=0
def tw13321569434752921327:=0
def tw17744955860697345000:=0
def tw11556447727217859987:=0
def tw11684935198497786888:=0
def tw12878993003078797888:=0
def tw17995639787046781690:=0
def tw8413417882443225558:=0
def tw16638737387814393622:=0
def tw2201831991858036281:=0
def tw2016099257080428667:=0
def tw8868081458799607226:=0
def tw7925467640789976826:=0
def tw7470391713738642726:=0
def tw12121533322850964781:=0
def tw2363373257916733497:=0
def tw16424227306726717000:=0
def tw17284281005092869729:=0
def tw6824798006538207208:=0
def tw3597270330021881552:=0
def tw3182639209930066899:=0
def tw6690073028503037545:=0
def tw4225854771212769825:=0
def tw10539432109251787803:=0
def tw4032943472395187434:=0
def tw8897217863576020477:=0
def tw12662031632043642971:=0
def tw5344477194018607973:=0
def tw2417408355757103931:=0
end PySem.W.Fast
open PySem PySem.W
open PyProof.Rows
set_option maxHeartbeats 0 in
theorem PySem.Challenge.cw_slipcurve_k19_near_ones_by_papers_holds : PySem.Challenge.rw_slipcurve_k19_near_ones_by_papers.Holds := by
 w_on; o_law; k_head; (case hw=>w_witness2)
 k_fill
 refine My.walk (l:=PySem.Challenge.rw_slipcurve_k19_near_ones_by_papers) rfl rfl (fun w h Y=>PySem.W.kIn_of Y) ?F
 case F =>
  intro w mg fa h KX G hmg;refine' My.zrv KX G hmg ?aa ?ab ?ac ?ad ?ae ?af ?ag ?ah ?ai ?aj ?ak ?al ?am ?an ?ao ?ap ?aq ?ar ?as ?au ?av ?aw ?ax ?ay ?az ?a0 ?a1 ?a2 ?a3 ?a4 ?a5 ?a6 ?a7 ?a8 ?a9 ?ba ?bb ?bc ?bd ?be ?bf ?bg ?bh ?bi ?bj ?bk ?bl ?bm ?bn ?bo ?bp ?bq ?br ?bs ?bt ?bu ?bv ?bw ?bx ?bz ?b0 ?b1 ?b2 ?b3 ?b4 ?b5 ?b6 ?b7 ?b8 ?b9 ?ca ?cb ?cc ?cd ?ce ?cf ?cg ?ch ?ci ?cj ?ck ?cl ?cm ?cn ?co ?cp ?cq ?cr ?cs ?ct ?cu ?cv ?cw ?cx ?cy ?cz ?c0 ?c1 ?c2 ?c3 ?c4 ?c5 ?c6 ?c7 ?c8 ?c9 ?da ?db ?dc ?dd ?de ?df ?dg ?dh ?di (My.zsd ?dj ?dk)
  (case aa|ab|ac|ad|ae|af|ag|ah|ai|aj|ak=>k_is)
  (case al|am|an|ao|ap|aq|ar|as|au|av|aw|ax|ay|az|a0|a1|a2|a3|a4|a5|a6|a7|a8|a9|ba|bb|bc|bd|be|bf|bg|bh|bi|bj|bk|bl|bm|bn|bo|bp|bq|br|bs|bt=>(refine' ⟨_,_,My.zse ?a ?b ?c ?d⟩; case a|b|c|d=>k_is))
  (case bu|bv=>with_unfolding_all rfl)
  (case bw|bx|bz|b0|b1|b2|b3|b4|b5|b6|b7|b8=>rfl)
  (case b9|ca|cb|cc|cd=>k_is)
  (case ce|cf|cg|ch|ci|cj|ck|cl|cm|cn|co|cp|cq=>rfl)
  (case cr|cs|ct|cu|cv=>k_is)
  (case cw=>rfl)
  (case cx|cy|cz|c0|c1|c2|c3|c4|c5|c6|c7|c8|c9|da|db|dc|dd|de|df|dg|dh|di|dj=>k_is)
  (case dk=>exact⟨_,rfl⟩)
#print axioms PySem.Challenge.cw_slipcurve_k19_near_ones_by_papers_holds
end