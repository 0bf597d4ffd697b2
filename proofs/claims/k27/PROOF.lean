import PyProof.Rows.All
import Wide.All
import OpenK.AllK
import Wide.FinOn
import Lean
import PyProof.EqAt
import PyProof.EqKinds
import KE.KDictOf
import PyProof.AttrMissHeap
import PyProof.Rows.MinMaxN
import PyProof.CollectWalk
import PyProof.Rows.SetFrom
import PyProof.ListMulRoad
import KE.KUnpackStar
import KE.KIntText
import PyProof.CallStr
import KE.KDictSum
import KE.KSortTup
import PyProof.Walk
import PyProof.Rows.SortRuns
import PyProof.Rows.ChunkEnd
import PyProof.Rows.Range3
import PyProof.Rows.SeqGen
import PyProof.ConsumeWalk
import PyProof.ListRange
import PyProof.NeKinds
import PyProof.TupleCall
import PySem.Challenge.RW_slipcurve_k27_listeners_hear
set_option maxHeartbeats 3999000
open PySem renaming wpAny_bind->aa,wpAny_pure->ag,sizeLine_eq->a8,wpAny_call_entry->br,wpAny_callSpecial?_slot->bv,wpAny_field->bF,boot_len->bI,wpAny_newObj_type->bJ,wpAny_setField_rec->bK,wpAny_holding->bQ,wpAny_mono->bR,wpAny_rule->cj,wpAny_attempt->cp,wpAny_setField->cZ,wpAny_truthy_bool->c6,wpAny_ite_false->de,wpAny_standAt->di,builtinLookup_eq_fast->dm,wpAny_typeNameOfWhole_keyiter->dG,wpAny_isInstance->dH,wpAny_seqItems->dI,wpAny_passesOwn->dP,wpAny_of_eq->eB,isSubtype_type->eD,mem_of_lookup->eJ,wpAny_execs_nil->eP,wpAny_Call_Name_kw->eR,call_meets->eV,typeLookup_type->eW,wpAny_pyIter_slot->eY,codeAny_mono->fH,wpAny_comprehension_free->fJ,isSubtype_stop->fO,wpAny_setState_of->gb,wpAny_onRaise->gk,wpAny_askSetting->gn,wpAny_pyIter_zip->gq,wpAny_call->gG,pushCells_keeps->gJ,wpAny_specialOf->gK,wpAny_updateSeq_pair->gL,wpAny_setEntries_of->gX,wpAny_newTuple->g7,wpAny_ite_true->g8,wpAny_fieldsOf->hU,seqIndex_of->hX,wpAny_newFunctionEnv_cells->ir,wpAny_handled->iu,wpAny_pyIter_list->iC,wpAny_dictEntries->iF,wpAny_execs_cons->iL,noFill_tuple_add->iM,wpAny_loadPart'->jh,codeAny_builtin->ji,wpAny_dictEpoch->jj,wpAny_throw->jp,wpAny_letGo->jq,codeAny_call_function->jy,entryFor_alias->jz,wpAny_isOneOf_keyiter->jD,wpAny_loadName_local->jH,wpAny_pyIter_revIter->jN,codeAny_call_builtin->jP,wpAny_pyIter_keyiter->jT,seq_tuple_add->jW,wpAny_loadName_cell->j2,wpAny_specialOf_val->j6,Within->kh,concat_meets->kz,seqIndex_neg->kB,callType_new->kG,wpAny_pyIter_tuple->kH,list_append->kT,numAt_eq->lE,wpAny_Name->lF,wpAny_load->lG,typeIs_int->lJ,call->lL
open List renaming length_map->ae,getElem?_eq_some_iff->aj,replicate->am,getElem?_map->ao,mem_cons_of_mem->aq,mem_append_right->ar,size_toArray->au,mem_cons->az,length_take->aA,map_append->aB,mem_cons_self->aE,length_append->aF,mem_append_left->aH,getElem?_eq_getElem->aI,mem_append->aP,mem_singleton->aS,mem_of_getElem?->aV,take_of_length_le->aW,getElem?_append_left->aX,zipWith->aY,mem_map->be,length_cons->bf,getElem?_append_right->bg,not_mem_nil->bi,map_cons->bj,range->bn,replicate_succ->bt,append_assoc->bu,take_length->bx,lookup_cons->bA,map_map->bD,length_drop->bP,mem_range->bU,append_nil->cb,getElem?_take_of_lt->cf,getElem?_cons_succ->ck,filterMap_cons->cu,map_congr_left->cv,length_range->cw,take_append_drop->cD,length_eq_zero_iff->cH,drop_eq_nil_of_le->cL,take_sublist->cN,drop_eq_getElem_cons->cQ,concat_eq_append->cR,filter_append->cT,mem_filter->db,lookup->dg,all_eq_true->dk,length_filter_le->dq,eq_nil_or_concat->dt,getElem?_eq_none->du,extract_eq_take_drop->dA,getElem?_set_self->dM,nodup_cons->dQ,length_replicate->dR,forIn_cons->dS,length_nil->dU,flatten_cons->dY,pairwise_map->d7,getElem?_set_ne->d8,pairwise_iff_getElem->ee,length->eA,getElem_mem->eG,any_eq_true->eI,getElem_of_mem->eK,mem_map_of_mem->eM,getElem?_cons_zero->eN,ext_getElem?->eZ,take_zero->fg,mem_flatMap->ft,mem_of_mem_take->fu,getLast?_append->fw,mem_iff_getElem->fz,length_take_le->fE,nil_append->fF,range_succ->fG,pairwise_cons->fK,forIn_nil->fP,drop_zero->fS,filter_cons_of_pos->fV,filter_cons_of_neg->fW,nodup_append->fZ,flatMap_cons->f7,range_succ_eq_map->gf,any_cons->gh,map_take->gj,nil_sublist->gt,sublist_nil->gu,drop_length->gv,isEmpty_nil->gw,length_singleton->gz,eraseIdxIfInBounds_toArray->gD,of_mem_zip->gH,foldl_cons->gI,find?_cons->gM,map_set->gQ,length_zipWith->gV,dropLast_concat_getLast->hV,mem_filterMap->ig,getElem?_drop->il,filterMap_map->im,nodup_iff_pairwise_ne->iw,map_drop->iz,getD_eq_getElem?_getD->iA,getElem_take->iE,foldl_append->iG,extract_eq_drop_take->iH,mem_or_eq_of_mem_set->iI,eraseIdx_cons_succ->ja,length_set->jf,map_id->jt,pairwise_lt_range->jw,drop_drop->jB,length_dropLast->jM,pairwise_append->jR,mem_of_mem_drop->jS,all_cons->jX,sum_cons->j1,getElem?_range->j9,flatMap_append->ka,length_pos_iff->kb,map_nil->kA,forIn_toArray->kJ,map_filterMap->kN,take_add_one->kU,drop_sublist->k6,zipIdx_cons->ly,map_flatMap->lC,flatMap_map->lD,foldl->lK,zipIdx_nil->lM,filter_map->lO,filter_nil->lT,take_take->lY,take_nil->ml
open PySem.W renaming Frag->af,kitOne->ak,findIn->aK,mg_of->aM,nsIn->bp,mroIn->bC,mg_none_of->bH,kitCls->bZ,kia_one->ca,excIn->cA,fnOf->cB,emptyDict->cM,keepIn->cY,instObj->dC,hideAll->dO,codeIn->eC,callWith_K->eU,methodCall_KW->fb,plainGet->fk,hideAll_get->fC,hasDictIn->fX,cellsFrom_some->gd,Looks->gl,isFn->gE,looks_findIn->gF,plainGet_of->gU,looks_mroIn->gW,lookIn->gZ,of_hideAll->ie,methodObj->iB,plainOver->iD,takerIn->jd,makesIn->je,OpenLaw->jg,hideAll_none->jG,callWith_K0->j3,codeRec_of->ky,kitx_list->kQ,kitx_dict->kR,handedIn->lj,kat_kind->lB,kit_cls->lQ,WalkO->mf
open Nat renaming le_refl->ah,ne_of_lt->aQ,lt_of_lt_of_le->aU,zero_le->aZ,le_trans->bq,lt_irrefl->cm,zero_add->cC,add_sub_cancel->cV,lt_succ_of_lt->c7,le_of_succ_le->dZ,pow_le_pow_right->eg,ne_of_gt->eE,add_zero->ff,lt_succ_self->fm,sub_self->fL,lt_or_ge->fM,mod_lt->fT,le_of_lt_succ->f',le_succ->gc,succ_le_succ->gm,succ_ne_self->gp,min_eq_left->gN,succ_pos->gS,le_of_lt->iK,le_of_not_lt->iN,le_add_right->iP,pow_succ->iU,sub_zero->iV,le_of_eq->ko,lt_trans->kK,mul_le_mul->l7
open PySem.Heap renaming get?_push_of_some->ai,get?_push_size->aD,lt_size->aG,SameBut->bh,size_push->bz,get?_update_self->bW,get?_update_other->dN,ExtBut->jo,get?_update_ne->j8
open Or renaming inl->ap,inr->fh
open PyProof.Rows renaming wpS_bind->av,wpS_pure->aw,boot_isinstance->bM,callWith_type1->bS,wpS_forRange->cU,zipApart_new->dD,wpS_mono->dJ,step_dedup->et,wpS_modify->fq,wpS_get->fQ,wpS_lift->g9,pairsOf_size->iS,boot_list->jk,subscriptTail_builtinR->jm,mirror_perm->jv,pairsOf_toList->jE,boot_tuple->jU,listUpdate_at->jZ,getElem?_mirror_all->j7,seqEpoch_at->lh,boot_sorted->li,boot_range->lH
open Array renaming length_toList->aC,getElem?_toList->aT,toList_append->bE,getElem?_eq_getElem->bO,getElem?_eq_none->cr,toList_extract->cJ,getElem?_eq_some_iff->dj,perm_iff_toList_perm->fB,toList_push->f9,toList_reverse->gO,getD->gR,size_setIfInBounds->iQ,toList_map->iR,mem_toList_iff->jI,append_assoc->ki,size_extract->kL,size_map->lZ,toList->mB
open Bool renaming false_ne_true->aJ,false_eq_true->ba,or_eq_true->bG,and_eq_true->cg,eq_iff_iff->eQ,not_true->gi,not_false->jF,eq_false_iff->kW,not_eq_true'->kZ,false_and->lU,and_false->lV,true_and->mi
open Int renaming emod_lt_of_pos->aL,emod_nonneg->aR,toNat_natCast->bd,le_trans->cq,le_refl->cK,mul_le_mul_of_nonneg_right->dF,emod_eq_of_lt->d6,le_of_lt->fe,zero_add->fi,fdiv_eq_ediv_of_nonneg->iq,mul_comm->kM,lt_trichotomy->k7
open PySem.Value renaming ref->aN,none->ci,int->c9,bool->fj,type->fN,isInt->hW,str->jc,isInt_shape->kP,float->k9,isStrOf->me
open Option.some renaming inj->aO,injEq->f8
open PySem.Builtin.SmallTypes renaming nextOf->bo,ownedTupleIsFree->bX,ownedTupleHandOut->cS,newRecord->lW
open PySem.F renaming plainAttrs_list->bw,slot_list_append->cE,type_list_append->cF,slot_zip_next->dE,slot_dict_keyiterator_next->dL,slot_tuple_iterator_next->dX,slot_enumerate_next->fc,args_tuple_add_2->fI,entry_tuple_add->fU,args_zip_next_1->f6,slot_tuple_add->ge,entry_zip_next->gr,slot_list_pop->gB,type_list_pop->gC,args_dict_keyiterator_next_1->gP,entry_dict_keyiterator_next->gT,args_tuple_iterator_next_1->g6,entry_tuple_iterator_next->ij,slot_list_extend->iY,type_list_extend->iZ,args_enumerate_next_1->jb,entry_enumerate_next->jr,args_list_append_2->jL,args_object_init_2->jO,excBase_ValueError->jQ,entry_list_append->j4,slot_list_append->kC,plain_list_iadd->k8,entry_list_pop->lx,slot_dict_iter->lA
open PySem.Heap.SameBut renaming update->bL
open PySem.PassesOwn renaming never->bN
open PySem.Str renaming ofString->bT
open False renaming elim->bV
open PySem.Obj renaming data_mapFields->bY,mapSeq->cI,isFreed_of_fields->dn,cls_mapFields->eX,mapFields->fA,putSet->lS
open PySem.NameKind renaming free->cn,cell->cW
open ForInStep renaming yield->cP,done->fR
open Ne renaming symm->cX
open Sum renaming inl->df,inr->iJ
open PySem.Paired renaming snoc->dh,length->gg,mono->ic
open Classical renaming byContradiction->dB,em->kD
open List.Perm renaming trans->dW,swap->lX
open True renaming intro->d9
open PySem.Builtin.List renaming listTooLong->eF,listExtendWith->io,listSameRef->iX
open PySem.Around renaming in1_units->fo,under_plainId->jV,under->kq
open List.Pairwise renaming nil->fY,imp_of_mem->iT,sublist->jA
open PySem.W.KF renaming type_class->gA
open PySem.Builtin.Dict_items renaming ownsTuple->hJ
open PySem.SeqAt.EqAt renaming of_refs->ik,int_str->kf,str_int->kg,same->lI
open PySem.Calls renaming Name_function_global->ip,callWith_builtin->jn,evalArgs_plain->jK,spliced_cons->ku,spliced_nil->kS
open Option renaming getD_some->iO,isSome_some->kE,getD_none->lp,toList->mh,none->mI
open PySem.Builtin.Frozenset renaming addrOf->iW,oneOther->mv,sizeOf->mE,slot0->mG
open PyProof renaming noPylong_small->jl
open PySem.Builtin.Getset_descriptor renaming descrCheckInstance->ju,descrNameAndClass->jx,descrGetter->kd,descrGet->kX
open PySem.Builtin.Dict renaming showsAll->jC
open PySem.SeqAt renaming EqAt->jJ
open List.cons renaming inj->jY
open PySem.SeqAt.RcNeAt renaming tuples->j5
open PySem.Code renaming isFrame->kr
open And renaming intro->kF
open PySem.pickOrder renaming go->kO
open PySem.Builtin.ObjectAttr renaming dataDescriptor?->kY,takesStores->lP,attrName->l9,bindTo->mw,getOf->mC,find->mF
open PySem.Data renaming fields->lb
open PySem.Shared renaming heap->lg
open PySem.IsL renaming update->lu
open PySem.Draws renaming list->lN
open PyProof.Rows.SortSt renaming mk'->lR
open PySem.SetTable renaming grown->l6,fits->mo,fill->mq
open PyProof.Rows.Boot renaming ValueError->l8
open Function renaming comp->mj
open Sum.inl renaming inj->mH
open PySem.Heap.Ns renaming new->mJ
open PySem.Manifest.AttrKind renaming slot->mK
open PySem.PyData renaming bool->mL
open PySem.W.KatTups renaming cons->mM
local macro_rules | `(tactic| trivial)=>`(tactic| first | exact .inl rfl | exact .inr rfl | assumption)
local macro_rules|`(#[$xs,*])=>do
 let a:=xs.getElems
 if h:a.size=0 then Lean.Macro.throwUnsupported else
 let s:=a[0].raw.getId.eraseMacroScopes.toString
 if s=="Y" then `((of_decide_eq_true rfl)) else if s=="O" then `(by lia) else if s=="D" then `(by decide) else if s=="N" then `(by decide +kernel) else if s=="S" then `(⟨rfl,rfl,rfl,by decide +kernel,rfl,by decide +kernel,by decide +kernel⟩) else if s=="A" then `(Or.inl rfl) else if s=="M" then `(by simp) else
 match [("___e","zj zcx zbk"),("____e","zH zP zat zcW zdw zc7 zlS"),("_______ee","zlT zdv zoD"),("_________ereeeddrr","zr zaW"),("_","zb3 zY zhq zcO zy zU zQ zbF zai zan zO zl0 ziD zf zW zhr zbq zcs zbj zbz zau zcw zcd zb2 zaf zfa zct zdI ziE zmd zgc zac zhp zga"),("_____eer","za zt"),("_e__f","pvx"),("___er","ya"),("__e__feefdd","zdF"),("_____e","ziz zad zbb"),("________________eefeeeneedrr","zF"),("____","zh zV zdE"),("_____eb","ze"),("________eee","zam zn zcj"),("________eeee","zA"),("_______eeeu","zB"),("__e____efeert","zq"),("______b","zhC"),("________efeeei","zbi"),("______feer","zaK"),("__e_efet","zm"),("____er","zaN"),("____________eeeeeerrrrr","zcQ"),("_f","zf4 zf3"),("_____________efeeeeei","zaP"),("__f","zaO"),("_ef","zbV zbC zaY"),("__________eeee","zbS"),("___fe","zap"),("_________feerr","zeP"),("_e___e_fferr","zbN"),("______eerrr","zbh"),("______ferr","zbo"),("_____________e___efeefeeeeerit","zbt"),("___","zaD"),("_____ef","zal"),("___ei","ziy"),("_________effeeedrr","zcl"),("________eef","zef"),("_______eeei","zgD"),("____________________eeeeeeneerrr","zc8"),("_______________","zfn"),("___ee","zhs"),("_________eeeeerr","zmc"),("__","zhW"),("_________eeeef","zjL"),("_e_____fee","znm"),("_________________eeeeeener","zdH"),("_e","ziS"),("__e__fefd","zby"),("______ee","zjl"),("__________eee","zfp"),("_______e_efeert","zdb"),("______________________eeeeeeneerrr","zfo"),("___________________eeeeeener","zeu"),("____________eeeeee","zdG")].find? fun q=>(q.2.splitOn " ").contains s with
 |none=>Lean.Macro.throwUnsupported
 |some (p,_)=>do
  let mut r:=#[]
  let mut i:=1
  for c in p.toList do
   if c=='e' then
    r:=r.push (a[i]!)
    i:=i+1
   else if c=='b' then
    r:=r.push (<-`((by exact $(a[i]!))))
    i:=i+1
   else r:=r.push (<-match c with|'_'=>`(_)|'r'=>`((by rfl))|'d'=>`((by decide))|'f'=>`(rfl)|'t'=>`((by trivial))|'i'=>`((by intro _; rfl))|'u'=>`((fun _ _=>rfl))|'n'=>`(.nil)|'l'=>`(Or.inl rfl)|'o'=>`(Or.inr rfl)|_=>`(nomark _))
  return Lean.Syntax.mkApp (<-`(@$(⟨a[0].raw⟩):ident)) r
def qO:=["::","+","-","++","=","<=","->","<"]
def Yv:Nat->Nat->List String->Lean.MacroM (List (Lean.TSyntax `term)×List String)
|0,_,_=>Lean.Macro.throwUnsupported
|n+1,0,ts=>match ts with
 |"fun"::ts=>do
  let (bs,r):=ts.span (·≠"=>")
  let (b,r)<-Yv n 0 (r.drop 1)
  let mut e:=b.head!
  for x in bs.reverse do
   e<-if x=="_" then `(fun _=>$e) else let i:=Lean.mkIdent x.toName; `(fun $i=>$e)
  return ([e],r)
 |_=>do
  let (a,r)<-Yv n 1 ts
  let l:Lean.TSyntax `term:=if a.length=1 then a.head! else Lean.Syntax.mkApp a.head! a.tail.toArray
  match r with
  |o::q=>do
    if !qO.contains o then return ([l],r)
    let (e,q)<-Yv n 0 q
    let e:=e.head!
    let x<-match o with|"::"=>`($l :: $e)|"+"=>`($l+$e)|"-"=>`($l-$e)|"++"=>`($l++$e)|"="=>`($l=$e)|"<="=>`($l<=$e)|"->"=>`($l->$e)|_=>`($l<$e)
    return ([x],q)
  |_=>return ([l],r)
|n+1,1,ts=>match ts with
 |[]=>return ([],[])
 |t::ts=>if t==")"||t=="⟩"||t==","||t=="]"||qO.contains t then return ([],t::ts) else do
  let (a,r)<-if t=="(" && ts[1]?==some ":=" then do
    let (e,r)<-Yv n 0 (ts.drop 2)
    pure (⟨.node .none ``Lean.Parser.Term.namedArgument #[.atom .none "(",Lean.mkIdent ts.head!.toName,.atom .none ":=",e.head!,.atom .none ")"]⟩,r.drop 1)
   else if t=="(" then do
    let (e,r)<-Yv n 2 ts
    let f:=e.head!
    let e:=e.tail.toArray
    pure (<-if e.size=0 then `(($f)) else `(($f,$e,*)),r.drop 1)
   else if t=="⟨" then do
    let (e,r)<-Yv n 2 ts
    let e:=e.toArray
    pure (<-`(⟨$e,*⟩),r.drop 1)
   else if t=="#[" then do
    let (e,r)<-Yv n 2 ts
    let e:=e.toArray
    pure (<-`(#[$e,*]),r.drop 1)
   else if t=="_" then pure (<-`(_),ts)
   else if t=="?_" then pure (<-`(?_),ts)
   else if t.front.isDigit then pure (Lean.Syntax.mkNumLit t,ts)
   else if t.front=='.' then let i:=Lean.mkIdent (t.drop 1).toString.toName; pure (<-`(.$i:ident),ts)
   else if t.front=='@' then let i:=Lean.mkIdent (t.drop 1).toString.toName; pure (<-`(@$i),ts)
   else pure (⟨Lean.mkIdent t.toName⟩,ts)
  let (l,r)<-Yv n 1 r
  return (a::l,r)
|n+1,_,ts=>do
 let (e,r)<-Yv n 0 ts
 if r.head?==some "," then
  let (l,r)<-Yv n 2 (r.drop 1)
  return (e++l,r)
 return (e,r)
local macro_rules|`(#[$x:ident])=>do
 let s:=x.getId.eraseMacroScopes.toString++" "
 match ("ld ( fun nA A outer s H vs Q E hr h => ?_ )
mt ( zN X N' scope s₃ H₃ ex mO )
on ( model X.prog X.w )
or ( model prog w )
o0 ( fun vs H Q E h => ?_ )
pc ( .ListComp elt ( ⟨ tg , iter , ifs , 0 ⟩ :: gs ) scope pos )
pi ( m8 rfl rfl ( mP rfl ?_ ) )
re ( .lst ( rs.map V.ref ) )
ss ( hr.mono #[ D ] )
sw ( cxX P w K mg base N qual scope f cd A outer s₀ H₀ E )
sK ( fun _ _ _ _ => #[ zbN , ( K ) , 2 , #[ zt , #[ zm , 0 , #[ Y ] , #[ A ] ] , #[ zt , #[ zm , 1 , #[ Y ] , #[ A ] ] , #[ zaf ] ] ] ] )
t0 ( .ref s.heap.objs.size )
ul ( s.heap.objs.size + 1 )
ut ⟨ rfl , I.turned ( t' := s.toks ) ( fun b o hb e => eb b o hb e ) f0 f1 f3 f4 f5 ⟩
wf ( arrOf st )
wn ( fun _ _ _ _ => #[ zm , 0 , #[ Y ] , #[ A ] ] )
wp ( a.toList ++ b.toList )
wv ( .ListComp elt gens scope pos )
ww ( mP rfl ⟨ rfl , ( mP rfl ?_ ) ⟩ )
wE #[ pvx , 0 ]
wP ( mP rfl ( znI e _ b0 b1 b2 b3 b4 b5 b6 b7 b8 b9 j _ ⟨ rfl , zb , kw , kc , kj , km , Bw , kx , fun H' s' => ?_ ⟩ ) )
wS ( mP rfl ( m8 rfl rfl ⟨ p0 , ?_ ⟩ ) )
wT #[ zB , #[ zW ] , #[ pvx , 3 ] , #[ zh ] ]
xz #[ pvx , 1 ]
xL ( arrOf mW )
At ⟨ t2 , ( mP rfl ⟨ .inr ( m7.of zb ) , rfl , rfl , ( mP rfl ?_ ) ⟩ ) ⟩
AC ( Option Nat )
AT ( ns.map V.int )
BT ( fun _ _ _ _ => #[ zau ] )
Ch ⟨ fun b o e n hb hx => ?_ , fun b o e n hb hx => ?_ , I.base.free , fun b o e hx => ?_ , I.base.MS , I.base.M7 , I.base.Nb ⟩
Cl ( mP rfl ( mP rfl ( mP rfl ( m8 rfl rfl ⟨ .inl ⟨ #[ O ] , #[ O ] ⟩ , ( m8 rfl rfl ( mP rfl ( m8 rfl rfl ⟨ p0 , hR ⟩ ) ) ) ⟩ ) ) ) )
Db ( .SetComp elt gens scope pos )
Do ( backTo pos ( starEach es X.env ) )
Ev ( u1.trans ( zd hl ) )
EQ ( Option Int )
Fa ⟨ yJ i ys H nC p , Pv ( i + 1 ) , fun rR H' p' => ⟨ n - ( i + 1 ) , #[ O ] , rfl , nC , p' ⟩ , fun x H' y => hs i x ys H H' nC p y ⟩
Fr ( wb ( sa + k ) out.toList.zipIdx #[ wf ] )
FB ( false , eval e X.env )
FM ( ha pos mO s σ H _ I h )
FS #[ zB , #[ zaY , ( K ) ] , #[ xz ] , #[ zh ] ]
Go ( fun _ _ _ _ _ _ _ _ I m q => zbu I m q )
GE ( zar rw rw.length )
GM ( ha mO s σ H _ I h )
GT ( leap mask p.i p.perturb )
Id ( List Int )
Ix ( h3.objs.size + 1 )
IN #[ pvx , 2 ]
IO ( z8 I q #[ M ] )
IR ( cB name qual params body scope dV kV doc pm an nA ct )
KB ( nG pl rw )
KK ( mP rfl ?_ )
KM ( he mO s σ H _ I h )
LE ( envOfC qual scope s.heap.objs.size f cd )
No ⟨ _ , rfl , .inr ⟨ _ , _ , _ , _ , _ , _ , rfl , qg , #[ O ] , #[ O ] , #[ O ] , #[ O ] , #[ O ] ⟩ ⟩
NE ⟨ I2.ok.mod , SC.kind , I2.ok.glob , I2.ok.blt , ah _ , co.inj , fun x hx => ?_ , fun x c z e => ?_ , I2.ok.hd , I2.ok.frames , .inl rfl , fun b hb => ?_ , fun b o e => rV.bs b o e , ?_ , fun b o e hb => ?_ , vn , rV.stack , rV.Mv ⟩
On ⟨ #[ O ] , #[ O ] ⟩
Op #[ zal , #[ wE ] ]
Os ( .inl rfl )
Pi ( fl c sl ea da ua )
Ps ( cs.drop ( cs.length - i ) )
PP ( fun _ => ?_ )
P3 ( EP X mO σ Q )
Rc ( .SetComp elt ( ⟨ tg , iter , ifs , 0 ⟩ :: gs ) scope pos )
Re ( false , eval b X.env )
Rf #[ .int lo t , .int hi u , .int 1 v ]
Rg ⟨ #[ D ] , #[ D ] ⟩
Rh #[ zad , #[ za , #[ xz ] , #[ za , #[ IN ] , #[ ya , #[ zV ] ] ] ] ]
Ri ( .ref D )
Rj ⟨ _ , rfl , .inr ⟨ _ , _ , _ , _ , _ , _ , rfl , qg , #[ O ] , #[ O ] , #[ O ] ⟩ ⟩
Rk ( rs.take ( at' + 1 ) )
Rl ( .ref C )
Rm #[ zcW , #[ zap , #[ zap , #[ zb2 ] ] ] ]
Rn ( mP rfl ( ex4 d _ _ _ ⟨ rfl , rfl , m7.of vh , rfl , rfl , ( mP rfl ( zeE ?_ ) ) ⟩ ) )
Ro ( mP rfl ( ex4 d _ _ _ ⟨ rfl , rfl , m7.of hd , rfl , rfl , ( mP rfl ( zeE ?_ ) ) ⟩ ) )
Rp ( s.heap.push ( zcR l1 ) )
Rq #[ zr , #[ zy ] , T.LC , bI , #[ ya , #[ xz ] ] ]
Rr ⟨ _ , _ , _ , _ , _ , _ , _ , rfl , rfl , qg , #[ O ] , #[ O ] , #[ O ] , #[ O ] , #[ O ] ⟩
Rt ( fun _ _ => False )
Ru #[ ya , #[ pvx , 4 ] ]
Rv ( mP rfl ⟨ sa , ( mP rfl ⟨ .inl ( mS.of ( sB _ _ qb.at_ ) ) , #[ pi ] ⟩ ) ⟩ )
Rx ( cB x qual ( zbA st ) ( zaX st ) ( zi st ) .none kV doc pm an nA ct )
Ry ( .ref it )
Rz ( .Attribute o m apos )
RA ( aQ ( aU ( aG e ) I.ok.above ) )
RB ( Draws.tuple hh n a ( nq #[ O ] ) oE.toArray )
RC ( .ref a )
RD ( zt5 C s.heap l1 l2 )
RE ( zt2 C s.heap l1 l2 )
RF ( ds.map V.int )
RG ( model Y.prog Y.w )
RH ( zb1 CX P w K mg base N qual scope f nA A outer s H E )
RI #[ pvx , 3 ]
RJ ( fun _ _ _ _ => #[ wE ] )
RK ( .fresh 0 0 ( zaB X.w ) )
RL #[ .int i tk , .ref hp.objs.size ]
RM ( A.deeper ( envOfC qual ( zi st ) s.heap.objs.size f nA ) )
RN ( zbn w a ep es )
RO ( intKind prog w )
RP #[ zB , #[ zW ] , #[ IN ] , #[ zh ] ]
RQ ( cxH P w K mg base N qual scope f nA A outer s H E )
RS ( I'.pin ( b , o ) ( ar _ ( ar _ ( zbp hb e ) ) ) )
RT ( Cg.of_eq #[ O ] )
RU ( I1.hok.fresh ( ah _ ) )
RV ⟨ _ , _ , _ , _ , _ , _ , _ , rfl , rfl , qg , #[ O ] , #[ O ] , #[ O ] ⟩
RW ( qs.map ( zw p x ) )
RX ( mR H' D ( SJ X.prog X.w D ( dds ys ) ) )
RY ⟨ d1 , ( mP rfl ⟨ fun _ _ e => e , uX , .inl ⟨ _ , _ , rfl ⟩ ⟩ ) ⟩
RZ ⟨ fun x c e => .inr ⟨ e , c7 ( C7 x c ( ub x c e ) ) ⟩ , fun x y c e1 e2 => I2.ok.inj x y c ( ub x c e1 ) ( ub y c e2 ) ⟩
R0 ( I.ok.hd hc )
R1 ( mP rfl ( ex4 d _ _ _ ⟨ rfl , rfl , m7.of vh , rfl , #[ pi ] ⟩ ) )
R3 #[ rawInt 0 , rawInt 0 , .ref a , rawInt es.size , rawInt ep ]
R4 ( u4.trans ( u5.trans ( u6.trans u7 ) ) )
R5 ( mP rfl ( ex3 p dx _ ⟨ rfl , h4 , zbE #[ Os ] , ( mP rfl ( ex9 S p c pp sl n es ds us ⟨ rfl , L , wA , fun hb => ?_ , fun hb => ?_ ⟩ ) ) ⟩ ) )
R6 ( sB.trans ( zd hl ) )
R7 ( false , eval a X.env )
R8 ⟨ I.base.keep , I.base.slot , fun b u e n hx => ?_ , I.base.there , fun b xs e => ?_ , fun b u xs e => ?_ , fun b ps e => ?_ ⟩
R9 ( rs.map V.ref )
Sa ( pl.map V.int )
Sb ( ms.map V.int )
Sc ( .tup xs )
Sd #[ ya , #[ zh ] ]
Se ( rows , at' , some .place )
Sf ( mP rfl ⟨ kw.sl , fun e he => ?_ ⟩ )
Sg ( g9 ( cj ⟨ rfl , ?_ ⟩ ) )
Sh ( mR H1 pr ( .lst ( zJ.map V.int ) ) )
Si ( tupleKind ( zaC P w ) )
Sj ( .lst ( us.map V.ref ) )
Sl ( .ins C dx fs )
Sm ( .Name x pos' )
Sn ( mP rfl ⟨ c , ( mP rfl ( .inl ⟨ mS.of ve , fun l hl => q l _ ( s1.free hl ) ( s1.trans ( zd hl ) ) ?_ ⟩ ) ) ⟩ )
So ( SJ X.prog X.w s2.heap.objs.size ( dds ys ) )
Sr ( .lst xs )
Ss ( mO ++ zbM fp s7.heap )
Su ( zc0 hC hk pT ep mp ?_ )
Sv ( fun C4 s' h' => ag ( kF rfl h' ) )
Sw ( mP rfl ( mP rfl ( m8 rfl rfl ( mP rfl ⟨ sa , ( mP rfl ⟨ mS.of ( u3 _ _ ye ) , fun z hz => ?_ ⟩ ) ⟩ ) ) ) )
Sx ( .ref mX )
Sy ( .ref mV )
Sz ( .ref mU )
SA ( .ref mQ )
SD ( .ref m9 )
SE #[ ya , #[ xz ] ]
SG ( below t.place j )
SH #[ zB , #[ zW ] , #[ pvx , 9 ] , #[ zh ] ]
SI #[ zB , #[ zU ] , #[ pvx , 4 ] , #[ zh ] ]
SK ( es.map ng )
SL ( .ref f )
SM ( .frz o ( .dT mZ ) )
SN #[ zr , #[ zy ] , T.LC , bI , #[ Ru ] ]
SO ( ho mO s2 σ H2 x y v u _ I2 r1 r2 q2 )
SQ ( Cg.refl p _ )
SR ( σ.set i ( some x ) )
SS ( fun ys H' _ => ah _ )
ST ( I.base.keep b o e n hb hx )
SU ( mP rfl #[ pi ] )
SV ( qb.same #[ Ev ] )
SW ( mP rfl ( q S' H' L' sS hS ) )
SX ( .ref l )
SY ( start N vs )
SZ ( pairsOf vs )
S0 ( K w.params )
S3 ( ltr pp rows at' r D )
S4 ( assignEach es X.env )
S5 #[ zr , #[ zy ] , T.LC , bI , #[ ya , #[ wE ] ] ]
S6 #[ zA , #[ zbF ] , #[ wT ] , #[ zV ] , ( zI _ ) ]
S7 ( starEach ( e :: es ) X.env )
S8 ( hg _ s7 _ H7 x u _ HR r7 ( xH σ σ x H7 _ Kp.refl ( step x H7 y7 ) ) )
S9 #[ zP , #[ zf ] ]
Ta ( pendingOf nR )
Tc ( cs.map V.int )
Td ⟨ .bl _ , H , I , rfl , ?_ ⟩
Te ( aQ ( aU ( aG e ) ( I.ok.cab x c E5 hc ) ) )
Tf ( D , zeG mT nn )
Tg ( pyNext #[ Ry ] )
Th ( m8 rfl rfl ?_ )
Ti ( I.hok.fresh ( ah _ ) )
Tj ( hb mO s1 σ H1 _ I1 q1 )
Tk ( .ref s2.heap.objs.size )
Tl #[ za , #[ zh ] , #[ za , #[ zh ] , #[ Sd ] ] ]
Tm ( mP rfl ( mP rfl ( mP rfl ( m8 rfl rfl ⟨ .inr #[ On ] , ( m8 rfl rfl #[ wS ] ) ⟩ ) ) ) )
Tn ( mP rfl ( mP rfl ( m8 rfl rfl ⟨ .inl #[ On ] , ( mP rfl ( m8 rfl rfl #[ wS ] ) ) ⟩ ) ) )
To ( T.done Y rfl rfl rfl hc i _ s5 _ H5 #[ Rt ] Fe ( xI fr5 ) Bq stop )
Tp ( chs xs m )
Tq ⟨ rfl , s1.seq hS , nj , #[ D ] , #[ D ] , #[ D ] , #[ D ] , #[ D ] , #[ D ] , fun c tt p k pl H2 hc s2 ok Gp Gq => ?_ ⟩
Ts ( dC C s.heap.objs.size )
Tt ( fun v s2 => wpAny #[ on ] X.A ( pyIter v ) ( PIE X mO σ tg R ) X.xe s2 )
Tu ( T.item Y rfl rfl rfl hc i _ s5 _ H5 #[ Rt ] Fe ( xI fr5 ) Bq go )
Tv ( .ref c )
Tw ( xs.extract i j )
Tx ( s.heap.push cM )
Ty ( am nc.length 0 )
Tz ( mR H' D ( .lst ys ) )
TB ( rows , at' , some .nothing )
TC ( m8 rfl rfl ⟨ .inl #[ On ] , #[ wS ] ⟩ )
TD ( setArr ( zaq p9 g ) ( wb ( sa + k ) out.toList.zipIdx ( arrOf ( zaq p9 g ) ) ) )
TF ( mP rfl ( ex4 d _ _ _ ⟨ rfl , rfl , m7.of vh , rfl , rfl , ( mP rfl ( zc5 t1 ?_ ) ) ⟩ ) )
TH ( nq #[ O ] )
TJ ( .builtin id )
TK ( br dE yX gr ?_ ( f6 _ ) )
TL ( HT.sIx xs.length xs.length hi - HT.sIx xs.length 0 lo )
TN ( fun h => ?_ )
TQ ( below xs j )
TR ( .bool true )
TU ( Option Value )
TV ⟨ n , #[ M ] , aZ _ , h0 ⟩
TW ( xs.toList.drop i )
TX ( .inr ( .inr #[ Os ] ) )
TY ( ns.reverse.map V.int )
TZ ( backTo oS ( starEach es X.env ) )
T3 ( .compLoop #[ pc ] 0 it #[ Ri ] env )
T4 ⟨ len , fun A outer s H args us vs Q E hr e0 hb r uL => ?_ ⟩
T5 ( zb1 CX P w K mg base N qual scope f cd A outer s H E )
T6 ( xM.extBut _ _ Z.zTO.symm ( oM.extBut _ _ Z.z1.symm Ct ) )
T7 ( fun _ _ _ _ n => n )
T8 ( fun i ys H' hi _ => hi )
T9 ( fun s' kk h2 A' Q' E' uw => ?_ )
Ua #[ zn , #[ zO ] , #[ zB , #[ zU ] , #[ xz ] , #[ zh ] ] , #[ zh ] ]
Ub ( cB x x ( zbA st ) ( zaX st ) ( zi st ) .none kV dc pm an cd ct )
Uc ( cB x q ( zbA st ) ( zaX st ) ( zi st ) .none kV dc pm an cd ct )
Ud ( dl.take m )
Ue ( nc.length - i )
Uf #[ pvx , 5 ]
Ug ( mR H a o )
Uh ( zgC s₁.heap H )
Ui ( SC.free y hy hf )
Uj ( .Tuple es k pos )
Uk ( zdm ( zaR i ) ( zdm ( zaR j ) zkp ) )
Ul ( A.deeper ( envOfC qual scope s.heap.objs.size f nA ) )
Um ⟨ .ref C :: us , kw ⟩
Uo ( mP rfl ( ex4 d _ _ _ ⟨ rfl , rfl , m7.of hd2 , rfl , rfl , .inr #[ KK ] ⟩ ) )
Up ( fun s₃ H₃ ex mO D => ziR rfl ( he s₃ H₃ ex mO ) )
Uq ( u1.free hl )
Ur ( putK mZ k v )
Us ( .Name x pos )
Ut #[ ya , #[ pvx , 6 ] ]
Uu ( .tup ( k.map kV ) )
Uv ( hi mO s σ H _ I h )
Uw #[ zn , #[ zcs ] , #[ wE ] , #[ zh ] ]
Ux #[ zn , #[ zan ] , #[ IN ] , #[ xz ] ]
Uy ⟨ c0 , c1 , c2 , c3 , c4 , fun p hp => ?_ ⟩
Uz ( zZ ey ( av ( zZ ez ( av ( zmJ hC hk ( mb y my ) ( ma z mz ) ?_ ) ) ) ) )
UA ( mP rfl ⟨ ra , ( mP rfl ⟨ .inl ( mS.of sU ) , fun la D9 => ?_ ⟩ ) ⟩ )
UB #[ ya , #[ RI ] ]
UC ( .ref x )
UD ( zbG ix σ )
UE ( tp a xs e )
UF ( model P w )
UG ( some #[ SL ] )
UH ( fun _ q => q )
UI ( pendingOf st )
UJ ( bs.map V.ref )
UK ( .Tuple es k tY )
UL #[ zj , #[ zH , #[ zdE ] ] ]
UM ( fun _ _ z => s _ _ z )
UN ( sliceBounds lo hi none n )
UO ( getMethod ov m pl )
UP ( am pl.length none )
UQ #[ zB , #[ zW ] , #[ wE ] , #[ zh ] ]
UR ⟨ lim.keeps x.toInCall.keep , codeAny_func ?_ ⟩
US ( mP rfl ( m8 rfl rfl ⟨ .inl #[ Rg ] , ( m8 rfl rfl ( q _ ) ) ⟩ ) )
UT ( ag ( aa ( aa ( aa ( dG hit.typeIs ( ag ( aa ( hU ho hd ?_ ) ) ) ) ) ) ) )
UU ( .ref z )
UV ( .ref e )
UW ( fun _ _ e => e )
UX ( fun _ _ _ e => e )
UY ( gK hl.typeIs slot_tuple_getitem.lookup ?_ )
UZ #[ pvx , 4 ]
U0 ( .ref i2 )
U1 ( .ref i1 )
U2 ( zZ ez ?_ )
U3 ( dD ha hb )
U4 ( ng ( sur #[ RW ] ) )
U5 ( I.base.free b o e n hx )
U6 ( .Attribute o name apos )
U7 ( u1.trans u2 )
U8 ( Cg.emod p _ )
U9 ( .List es qe )
Va ( ( p , w ) :: P.zip vs )
Vb ( fun c o _ _ oK e _ => ⟨ o.slots , k1 c o oK e ⟩ )
Vc ⟨ rfl , ?_ ⟩
Vd ( mR H ua #[ re ] )
Ve ( mR H da #[ re ] )
Vf ( .tup ( encD D ) )
Vg ( cZ ho hd #[ M ] ?_ )
Vh ( .lst ( rw.map ng ) )
Vi ( f ( .int i t ) ( .int j u ) )
Vj #[ zr , #[ zy ] , T.LC , bI , #[ ya , #[ RP ] ] ]
Vl #[ zA , #[ zbF ] , #[ FS ] , #[ zV ] , ( zI _ ) ]
Vm ( mP rfl ⟨ ra , ( mP rfl ⟨ .inl ( mS.of sU ) , #[ pi ] ⟩ ) ⟩ )
Vn ⟨ decide_eq_true #[ O ] , decide_eq_true #[ O ] ⟩
Vo ( fun h' c' kp e => fin mT r' hz h' c' kp e )
Vp ( some v )
Vq ( arrOf pC )
Vr ( eval e X.env )
Vs ( sb.sub #[ O ] #[ O ] )
Vt ( f' ( fT _ ( gS _ ) ) )
Vu #[ zn , #[ zfa ] , #[ zP , #[ Sd ] ] , #[ Rq ] ]
Vv #[ zgD , #[ Op ] , #[ xz ] , set_list ]
Vw #[ zam , #[ zdw , #[ zhs , #[ Op ] , ( fun _ => rfl ) ] ] , #[ zj , #[ zcl , #[ Go ] , T.KR , T.Kt , #[ zV ] ] ] , #[ zQ ] ]
Vx #[ ya , #[ IN ] ]
Vy ( fun _ _ _ _ => #[ zbk , #[ zA , #[ zct ] , #[ zB , #[ zbV , ( K ) ] , #[ xz ] , #[ wE ] ] , #[ zaD ] , ( zI _ ) ] ] )
Vz ( trF p r )
VA ( .lst ys )
VB ( nc.take n )
VC ( aY f as bs )
VD ( fun m hm => ?_ )
VE ( .tup ( zm7 d ) )
VF ( gb ho hd hf ?_ )
VG ( .cons rfl .nil )
VH ⟨ u , v , kk _ #[ M ] _ h3 ⟩
VI ( rows , at' , some .number )
VJ ( wa ( j - 1 ) #[ O ] )
VL ⟨ zbH , _ , .cons ru ( .cons rv .nil ) , zcB pp ⟩
VM ( .inr ( .inr ( .inr ( .inr ( .inr ( .inr rfl ) ) ) ) ) )
VN #[ pvx , 8 ]
VO ( .dT mZ )
VP ( r.map ng )
VQ ( nG pl es )
VR ( gallopOf st )
VS ( I.hok b u e )
VT ( ar _ ( aH _ hp ) )
VU ⟨ rfl , fun _ _ => rfl ⟩
VV ( zt4 C s.heap l1 l2 )
VW ( ho mO s σ H _ I h )
VX ( hl mO s σ H _ I h )
VY ( hc mO s σ H _ I h )
VZ ( h mO s σ H _ I hw )
V0 ( W.g.trans ( zdf _ _ ) )
V1 ( .tup ( nr.map V.int ) )
V2 ( .lst ( ls.map V.ref ) )
V3 #[ zj , #[ zaN , #[ zcQ , bw , cE , cF , #[ zbq ] , #[ Op ] , #[ ya , #[ zad , #[ za , #[ xz ] , #[ za , #[ IN ] , #[ UB ] ] ] ] ] ] ] ]
V4 ( σ.set i none )
V5 ( zb0 w a ep es )
V6 ( y - zw p x cs )
V7 ( lookup_mem v7 )
V8 ( lookup_mem By )
V9 ( leap mask i q )
Wa ( binaryOp .Add )
Wb ( I.ok.bs b o e )
Wc ( hm s3 H2 _ mO s2.heap.objs.size )
We ( cj ( aa ( bF hz rfl ( x := .ref TO ) rfl ?_ ) ) )
Wf ( fh rfl )
Wg ( zc6 I hg hm ?_ Br )
Wh ( xA a1 a2 a3 a4 a5 )
Wi ( assign #[ Sm ] X.env )
Wj ( @ite _ c inst x y )
Wk ( .ref hp.objs.size )
Wm ( kk _ _ Z.zTI Z.TT Z.T1 Z.T2 xK )
Wn ( fun b o hb e => qd.extBut b o hb e )
Wo ( fR ( some none , st.snd.fst , st.snd.snd ) )
Wp ( br za0 hit.typeIs zds ?_ ( zea _ ) )
Wq ( zg3 pl rw )
Wr ( s4 _ _ Ah )
Ws ( ps.zip us )
Wt ( nc.take i )
Wu ( qb.same #[ R6 ] )
Wv ( nc.map ( md p ) )
Ww ( lo + st.snd.fst )
Wx #[ zj , #[ zH , #[ Rh ] ] ]
Wy #[ za , #[ RI ] , #[ Ru ] ]
Wz ⟨ _ , hns₁ , fun j x v e1 e2 e3 => ?_ ⟩
WA ( t1.trans ( t2.trans ( t3.trans t4 ) ) )
WB ( sB.trans ( u4.trans ( u5.trans u6 ) ) )
WC ( fun c o _ _ oK e _ => k1 c o oK e )
WD ( bF hz rfl ( x := .bool false ) rfl ?_ )
WE ( .compLoop #[ wv ] d #[ Ry ] #[ Ri ] Y.env )
WF ( .int p )
WG ( Itl K a )
WH ( CX1 P w )
WI ( .ref pa )
WJ ( .frz o u )
WK ( zaz f v fs )
WL ( us.map V.ref )
WM ( slotAt w t i )
WN ( eval o X.env )
WO ( compareOp op )
WP ( bn xs.length )
WQ ( ad p f cs vs )
WR ( TP X mO σ Q )
WS #[ zjl , zgE , #[ zh ] ]
WT ( xs.extract i ( i + k ) )
WU ( quo p r ( d :: cs ) )
WV ( fun f vs => lL f vs )
WW ( compareOp .NotEq )
WX ( Str -> Option Value )
WY ( I1.hok.fresh hle )
WZ #[ zn , #[ ziD ] , #[ zh ] , #[ zh ] ]
W0 #[ zn , #[ zan ] , #[ zh ] , #[ xz ] ]
W1 #[ zn , #[ zai ] , #[ VN ] , #[ zh ] ]
W2 #[ zn , #[ zai ] , #[ IN ] , #[ zh ] ]
W3 ⟨ m , hm , fun Bz qd => ⟨ .ref D , _ , ?_ , rfl , q' ⟩ ⟩
W4 ( S.h.dr hh ( n + 1 ) b #[ TH ] nS.toArray )
W5 ( .compLoop #[ wv ] d it #[ Ri ] Y.env )
W9 ⟨ rfl , #[ KK ] ⟩
Xa ⟨ w' , z.sameBut hs ( cne y c e ) ⟩
Xb ( fun nu oQ oH ac bc => ( none , nu , oQ , oH , ac , bc ) )
Xd ( fun nu o2 o3 ac bc => ( none , o2 , o3 , nu , ac , bc ) )
Xe ( fun _ _ _ _ => #[ zn , #[ zO ] , #[ zn , #[ zbj ] , #[ wE ] , #[ Ux ] ] , #[ RI ] ] )
Xf ( fun _ _ _ _ => #[ zn , #[ zO ] , #[ zn , #[ zai ] , #[ wE ] , #[ Ux ] ] , #[ RI ] ] )
Xg ( br dX hit.typeIs ij ?_ ( g6 _ ) )
Xh ( br dL hit.typeIs gT ?_ ( gP _ ) )
Xi ( bF he rfl ( x := .ref z ) rfl ( aa ?_ ) )
Xj ( I7.pin ( b , o ) ( ar _ ( ar _ ( zbp hb e ) ) ) )
Xk ( .int i )
Xm ( some #[ Sm ] )
Xn ( di ( aa ?_ ) )
Xo ( .lst #[ RF ] )
Xp ( typeOf #[ UC ] )
Xq ( zb0 X.w a ep es )
Xr ( rows.take ( at' + 1 ) )
Xs ( fun x1 x2 => x1 ++ x2 )
Xt #[ zn , #[ zO ] , #[ SI ] , #[ zh ] ]
Xu #[ zB , #[ zU ] , #[ Op ] , #[ xz ] ]
Xv ⟨ k , c , e , z.sameBut hs ( cne y c e ) ⟩
Xw ⟨ _ , E4 , fun j y v' e1 e2 e3 => ?_ ⟩
Xx ⟨ .int ( g i j ) , H , I.tok _ , ⟨ _ , rfl ⟩ , q ⟩
Xy ( fun s' A' kk => zmW I hT hB kk )
Xz ( fun r => Good val #[ wp ] r.toList )
XA ( .BoolOp .And ( b :: rest ) pos )
XB ( hit p q )
XC ( ar _ aE )
XD ( .ref mY )
XE ( .ref dr )
XF ( .int sl )
XG #[ ya , #[ zV ] ]
XH ( v ++ am ( m + 1 ) 0 )
XI ( tOp r ta tb )
XJ ( s4.trans v6 )
XL ( s1.trans s2 )
XM ( e0.bs b o e )
XN ( GN b o e hx )
XO ( .bool false )
XQ ( vs.toArray.zip vs.toArray )
XR ( ha pos mO s1 σ H1 _ I1 q )
XS ( fun d v' hd q => k1 d v' ?_ q )
XT ( bF hz rfl ( x := .ref TI ) rfl ?_ )
XU ( bF ho hd ( x := .int _ 0 ) rfl ?_ )
XV ( .ref o )
XW ( .int x )
XX ( zZ ey ?_ )
XY ( xs.map f )
XZ ( qs.take i )
X1 ( pd.drop 1 )
X2 ( SP X mO D )
X3 ( .ref ( n + 1 ) )
X4 ( .bl false )
X5 ( .Name x p )
X6 ( nM.same ( zd hD ) )
X7 ( mP rfl ( zfL ?_ ) )
X8 ( mP rfl ( zaS ?_ ) )
X9 ( h.push ( zcR l1 ) )
Ya ( fun j h1 h2 => ?_ )
Yb ( a₀.size - lo )
Yc ⟨ rfl , .inr ⟨ _ , _ , _ , _ , _ , rfl , qZ , #[ O ] , #[ O ] , #[ O ] , #[ O ] , #[ O ] ⟩ ⟩
Yd ⟨ hn b hb , a1 , a2 , a3 , a4 , fun p hp => ?_ ⟩
Ye ( zdt ( P := P ) ( w := w ) ( base := base ) ( m + 1 ) T F )
Yf ( zdK p pl rw qq pl.length )
Yg ( wb sa m.toList.zipIdx xs )
Yh ( sA.trans ( zd ( o := .rng 0 p ) FF ) )
Yi ( letOwnedTupleGo tg #[ Ry ] u )
Yj ( lN hh ( n + 1 ) b #[ TH ] nS.toArray )
Yk ( fun x l' r' R Dz k1 k2 => ?_ )
Yl #[ zaN , #[ zc8 , #[ wE ] , T.cl , T.KG , nO , #[ ss ] , nB , #[ zfn ] , #[ SE ] ] ]
Ym ( fun _ => none )
Yn ⟨ b , _ , rfl , m7.of Jh , rfl , _ , _ , rfl , _ , _ , rfl , rfl , ?_ ⟩
Yo ( zcc I hg hm hv ?_ hn Br )
Yp ( y6 a1 a2 a3 a4 a5 a6 a7 )
Yq ( xA a1 a2 a3 a4 a5 a6 a7 )
Yr ( s2.heap.objs.size :: fp )
Ys ( fun r o hG => aw ⟨ g , r , _ , rfl , rfl , hG ⟩ )
Yt ( bF ho hd ( x := .ref t ) rfl ?_ )
Yu ( bF ho hd ( x := .ref l ) rfl ?_ )".splitOn "\n").find? (·.startsWith s) with
 |some l=>return ((<-Yv 400 0 ((l.splitOn " ").drop 1)).1.head!)
 |none=>Lean.Macro.throwUnsupported
noncomputable section
set_option Elab.async false
set_option linter.all false
set_option maxRecDepth 100000
namespace L2
open PySem PySem.Spec PyProof.Rows
variable {A:Around} {C it:Addr} {CX:CXT} {H H':Hp} {K:af} {M:Model} {N:List Str} {R:Result->Shared->Prop} {X:Cx} {an od:Option Addr} {cd ct doc nA oc pm:Value} {ch fp:List Addr} {env:Env} {fd:FuncData} {h:Heap} {j k t' tk:Nat} {kw:List (Str×Value)} {m qual:Str} {mO pz:List (Addr×Obj)} {mT us vs:List Value} {mg:Str->Option Value} {outer:List Env} {pos:Pos} {prog:Program} {s s' s1:Shared} {scope:Scope} {sp:Sp} {tg:Expr} {w:World} {y:V} {yA:Array #[TU]}
abbrev Key:=Sum Int Str
noncomputable def zfZ:Key->Value->Bool
 | .inl k,v=>hW k v
 | .inr x,v=>me x v
noncomputable def zqC (w:World):Key->Int
 | .inl k=>hashInt k
 | .inr x=>hashStr w x
theorem zas:∀ {k:Key} {v:Value},zfZ k v=true->(∃ i t,k=df i/\v=c9 i t)\/(∃ x t,k=iJ x/\v=jc x t)
 | .inl i,v,h=>by
  obtain⟨t,e⟩:=kP (k:=i) (v:=v) h;exact .inl ⟨i,t,rfl,e⟩
 | .inr x,v,h=>by
  obtain⟨t,e⟩:=Value.isStrOf_shape (x:=x) (v:=v) h;exact .inr ⟨x,t,rfl,e⟩
theorem zkl (i:Int) (t:Tok):zfZ (.inl i) (.int i t)=true:=by simp [zfZ,hW]
theorem zkm (x:Str) (t:Tok):zfZ (.inr x) (.str x t)=true:=by simp [zfZ,me]
theorem zoS (a b:Int):decide ((df a:Key)=df b)=(a == b):=by
 by_cases e:a=b
 ·subst e; simp
 ·have h:¬ (df a:Key)=df b:=fun q=>e (mH q)
  rw [decide_eq_false h];exact (beq_eq_false_iff_ne.mpr e).symm
theorem zoT (a b:Str):decide ((iJ a:Key)=iJ b)=decide (a=b):=by
 by_cases e:a=b
 ·subst e; simp
 ·have h:¬ (iJ a:Key)=iJ b:=fun q=>e (Sum.inr.inj q)
  rw [decide_eq_false h,decide_eq_false e]
theorem zoU (a:Int) (b:Str):decide ((df a:Key)=iJ b)=false:=decide_eq_false (fun q=>nomatch q)
theorem zoV (a:Str) (b:Int):decide ((iJ a:Key)=df b)=false:=decide_eq_false (fun q=>nomatch q)
noncomputable def zaC (prog:Program) (w:World):PySem.KeyKind prog w Key where
 is:=zfZ
 hash:=zqC w
 inj:=fun v a b ha hb=>by
  rcases zas ha with ⟨i,t,rfl,rfl⟩ | ⟨x,t,rfl,rfl⟩
  ·rcases zas hb with ⟨j,u,rfl,e⟩ | ⟨y,u,rfl,e⟩
   ·injection e with e1 _; rw [e1]
   ·exact nomatch e
  ·rcases zas hb with ⟨j,u,rfl,e⟩ | ⟨y,u,rfl,e⟩
   ·exact nomatch e
   ·injection e with e1 _; rw [e1]
 byValue:=fun k v h=>by
  rcases zas h with ⟨i,t,rfl,rfl⟩ | ⟨x,t,rfl,rfl⟩ <;> rfl
 pyHash:=fun hv h=>by
  rcases zas hv with ⟨i,t,rfl,rfl⟩ | ⟨x,t,rfl,rfl⟩
  ·exact wpAny_pyHash_int h
  ·exact wpAny_pyHash_str h
 eqBool:=fun hu hv h=>by
  rcases zas hu with ⟨i,t,rfl,rfl⟩ | ⟨x,t,rfl,rfl⟩
  ·rcases zas hv with ⟨j,u,rfl,rfl⟩ | ⟨y,u,rfl,rfl⟩
   ·rw [zoS] at h; exact wpAny_eqBool_int h
   ·rw [zoU] at h; exact kf i t y u _ _ _ _ h
  ·rcases zas hv with ⟨j,u,rfl,rfl⟩ | ⟨y,u,rfl,rfl⟩
   ·rw [zoV] at h; exact kg x t j u _ _ _ _ h
   ·rw [zoT] at h; exact wpAny_eqBool_str h
 «strs»:=fun k x t v h=>by
  rcases zas h with ⟨i,u,rfl,e⟩ | ⟨y,u,rfl,e⟩
  ·exact nomatch e
  ·injection e with e1 _
   subst e1;cases v <;> rfl
theorem zhm (prog:Program) (w:World) (i:Int) (t:Tok):(zaC prog w).is (.inl i) (.int i t)=true:=zkl i t
theorem zhn (prog:Program) (w:World) (x:Str) (t:Tok):(zaC prog w).is (.inr x) (.str x t)=true:=zkm x t
inductive V where
 | non | bl (b:Bool) | int (i:Int) | str (x:Str) | byt (b:Array UInt8) | flt (b:UInt64) | ref (a:Addr) | ty (n:String)
 deriving DecidableEq
noncomputable def RelV:V->Value->Prop
 | .non,u=>u=ci
 | .bl b,u=>u=fj b
 | .int i,u=>∃ t,u=c9 i t
 | .str x,u=>∃ t,u=jc x t
 | .byt b,u=>∃ t,u=Value.bytes b t
 | .flt b,u=>∃ t,u=k9 b t
 | .ref a,u=>u=aN a
 | .ty n,u=>u=fN n
abbrev zM:List V->List Value->Prop:=Paired RelV
theorem zM.length {xs:List V} (r:zM xs us):xs.length=us.length:=gg r
theorem zM.get:∀ {xs:List V} {us:List Value} {i:Nat} {x:V},zM xs us->xs[i]? = some x->∃ u,us[i]? = some u/\RelV x u
 | _,_,_,_,.nil,e=>by simp at e
 | _,_,0,_,.cons r _,e=>by simp at e; subst e; exact⟨_,rfl,r⟩
 | _,_,i+1,x,.cons _ t,e=>by
  obtain⟨u,h1,h2⟩:=zM.get (i:=i) (x:=x) t (by simpa using e);exact⟨u,by simpa using h1,h2⟩
theorem zM.set {x:V} {u:Value} (r:RelV x u):∀ {xs:List V} {us:List Value} (i:Nat),zM xs us->zM (xs.set i x) (us.set i u)
 | _,_,_,.nil=>.nil
 | _,_,0,.cons _ t=>.cons r t
 | _,_,i+1,.cons q t=>.cons q (zM.set r i t)
theorem zM.append:∀ {xs ys:List V} {us ws:List Value},zM xs us->zM ys ws->zM (xs++ys) (us++ws)
 | _,_,_,_,.nil,s=>s
 | _,_,_,_,.cons r t,s=>.cons r (zM.append t s)
theorem zM.take:∀ {xs:List V} {us:List Value} (n:Nat),zM xs us->zM (xs.take n) (us.take n)
 | _,_,0,_=>.nil
 | _,_,_+1,.nil=>.nil
 | _,_,n+1,.cons r t=>.cons r (zM.take n t)
theorem zM.drop:∀ {xs:List V} {us:List Value} (n:Nat),zM xs us->zM (xs.drop n) (us.drop n)
 | _,_,0,r=>r
 | _,_,_+1,.nil=>.nil
 | _,_,n+1,.cons _ t=>zM.drop n t
noncomputable def zec:Option V->Option Value->Prop
 | some v,some u=>RelV v u
 | none,none=>True
 | _,_=>False
noncomputable def KV {κ:Type}:List (κ×V)->List (κ×Value)->Prop:=Paired fun (p:κ×V) (q:κ×Value)=>p.1=q.1/\RelV p.2 q.2
noncomputable def kV:Key->V
 | .inl i=>.int i
 | .inr x=>.str x
inductive HO where
 | lst (xs:List V)
 | tup (xs:List V)
 | dK (mZ:List (Key×V)) | dT (mZ:List (List Key×V))
 | set (S:Int->Bool) (n:Nat)
 | ins (C dx:Addr) (fs:List (Str×V))
 | own (x:Addr)
 | xd (fs:List (Str×V))
 | met (f x:Addr)
 | rng (lo hi:Int)
 | frz (o:Obj) (u:HO)
 | tbl (ps:Array Value)
 | ext (φ:Heap->Prop)
abbrev Hp:=Addr->Option HO
noncomputable def mR (H:Hp) (a:Addr) (o:HO):Hp:=fun b=>if b=a then some o else H b
theorem zb {a:Addr} {o:HO}:mR H a o a=some o:=by unfold mR; rw [if_pos rfl]
theorem zg {a b:Addr} {o:HO} (h:b≠a):mR H a o b=H b:=by unfold mR; rw [if_neg h]
theorem zeM {a:Addr} {o u:HO}:mR #[Ug] a u=mR H a u:=by
 funext b; unfold mR; split <;> rfl
theorem za3 {a b:Addr} {o u:HO} (h:H a=some o) (h':H b=some u) (d:o≠u):a≠b:=by
 intro e; subst e; rw [h] at h'; exact d (aO h')
theorem zl {a b:Addr} {o:HO} (h:H a=some o) (h':H b=none):a≠b:=by
 intro e; subst e; rw [h] at h'; cases h'
section
variable (P:Program) (w:World)
noncomputable def zab (H:Hp) (h:Heap) (a:Addr):HO->Prop
 | .lst xs=>xs.length<=sizeLine/\∃ (mT:List Value) (n:Nat),zM xs mT/\h.get? a=some { cls:=.type "list",data:=.seq mT.toArray n }
 | .tup xs=>xs.length<=sizeLine/\∃ mT:List Value,zM xs mT/\IsTup h a mT.toArray
 | .dK mZ=>mZ.length<=sizeLine/\(a == sysModules)=false/\∃ vs,KV mZ vs/\h.DictOf (zaC P w) a vs
 | .dT mZ=>mZ.length<=sizeLine/\(a == sysModules)=false/\∃ xs:List (List Key×Addr×Value),
   Paired (fun (p:List Key×V) (q:List Key×Addr×Value)=>p.1=q.1/\H q.2.1=some (.tup (p.1.map kV))/\RelV p.2 q.2.2) mZ xs /\
   ∃ o es ep,h.get? a=some o/\o.ExactDict/\o.data = .dict es ep/\es.toList=xs.map (entryOfKey #[Si])/\(xs.map (·.1)).Nodup
 | .set S n=>h.SetOf (intKind P w) a S n
 | .ins C dx fs=>H dx=some (.own a)/\fs.length<=1000/\dx≠a/\h.get? a=some (dC C dx) /\
   ∃ mA,h.Ns1 dx mA/\(∀ f,zec (fs.lookup f) (mA f))/\kh mA (fs.map (·.1))
 | .own _=>∃ o,h.get? a=some o
 | .xd fs=>∃ mA,h.Ns1 a mA/\∀ f,zec (fs.lookup f) (mA f)
 | .rng lo hi=>∃ t u v,h.get? a=some { cls:=.type "range",data:=.fields #[Rf] }
 | .frz o u=>h.get? a=some o/\zab H h a u
 | .tbl ps=>h.get? a=some { cls:=.none,data:=.fields ps }
 | .met f x=>h.get? a=some (iB #[SL] #[UC])
 | .ext φ=>φ h/\(∃ o,h.get? a=some o)/\∀ h1 h2:Heap,φ h1->(∀ o,h1.get? a=some o->h2.get? a=some o)->φ h2
noncomputable def HOk (H:Hp) (h:Heap):Prop:=∀ a o,H a=some o->zab P w H h a o
end
section
variable {P:Program} {w:World} {H H':Hp} {h h':Heap} {a:Addr} {o:HO}
theorem zab.lt (x:zab P w H h a o):a < h.objs.size:=by
 cases o with
 | lst xs=>obtain⟨_,_,_,_,e⟩:=x; exact aG e
 | tup xs=>obtain⟨_,_,_,p⟩:=x; exact p.lt
 | dK mZ=>obtain⟨_,_,_,_,o,_,_,e,_⟩:=x; exact aG e
 | dT mZ=>obtain⟨_,_,_,_,o,_,_,e,_⟩:=x; exact aG e
 | set S n=>obtain⟨o,_,_,_,e,_⟩:=x; exact aG e
 | ins C dx fs=>obtain⟨_,_,_,e,_⟩:=x; exact aG e
 | own y=>obtain⟨_,e⟩:=x; exact aG e
 | xd fs=>obtain⟨_,⟨_,_,_,e,_⟩,_⟩:=x; exact aG e
 | rng lo hi=>obtain⟨_,_,_,e⟩:=x; exact aG e
 | frz ob u=>obtain⟨e,_⟩:=x; exact aG e
 | tbl ps=>exact aG (show h.get? a=some _ from x)
 | met f y=>exact aG (show h.get? a=some _ from x)
 | ext φ=>obtain⟨_,⟨_,e⟩,_⟩:=x; exact aG e
theorem Paired.Q3 {α β:Type} {F G:α->β->Prop}:∀ {l₁:List α} {l₂:List β},Paired F l₁ l₂->(∀ a b,F a b->G a b)->Paired G l₁ l₂
 | _,_,.nil,_=>.nil
 | _,_,.cons r t,f=>.cons (f _ _ r) (Paired.Q3 t f)
theorem zab.NH (x:zab P w H h a o) (k:∀ b u,(b=a\/H b=some (.own a))->h.get? b=some u->h'.get? b=some u)
  (ho:∀ b,H b=some (.own a)->H' b=some (.own a)) (ht:∀ b xs,H b=some #[Sc]->H' b=some #[Sc]):zab P w H' h' a o:=by
 induction o with
 | lst xs=>obtain⟨z,mT,n,r,e⟩:=x; exact⟨z,mT,n,r,k _ _ #[Os] e⟩
 | tup xs=>obtain⟨z,mT,r,ob,e,c⟩:=x; exact⟨z,mT,r,ob,k _ _ #[Os] e,c⟩
 | dK mZ=>obtain⟨z,y,vs,r,ob,es,ep,e,c⟩:=x; exact⟨z,y,vs,r,ob,es,ep,k _ _ #[Os] e,c⟩
 | dT mZ =>
  obtain⟨z,y,xs,r,ob,es,ep,e,c⟩:=x;exact⟨z,y,xs,Paired.Q3 r fun p q z=>⟨z.1,ht _ _ z.2.1,z.2.2⟩,ob,es,ep,k _ _ #[Os] e,c⟩
 | set S n=>obtain⟨ob,es,ep,t,e,c⟩:=x; exact⟨ob,es,ep,t,k _ _ #[Os] e,c⟩
 | ins C dx fs =>
  obtain⟨d,z,ne,e,mA,⟨od,es,ep,e2,c⟩,r⟩:=x;exact⟨ho _ d,z,ne,k _ _ #[Os] e,mA,⟨od,es,ep,k _ _ (.inr d) e2,c⟩,r⟩
 | own y=>obtain⟨ob,e⟩:=x; exact⟨ob,k _ _ #[Os] e⟩
 | xd fs=>obtain⟨mA,⟨od,es,ep,e,c⟩,r⟩:=x; exact⟨mA,⟨od,es,ep,k _ _ #[Os] e,c⟩,r⟩
 | rng lo hi=>obtain⟨t,u,v,e⟩:=x; exact⟨t,u,v,k _ _ #[Os] e⟩
 | frz ob u ih=>obtain⟨e,q⟩:=x; exact⟨k _ _ #[Os] e,ih q⟩
 | tbl ps =>
  have e:h.get? a=some { cls:=.none,data:=.fields ps }:=x;show h'.get? a=some { cls:=.none,data:=.fields ps };exact k a _ #[Os] e
 | met f y =>
  have e:h.get? a=some (iB #[SL] (.ref y)):=x;show h'.get? a=some (iB #[SL] (.ref y));exact k a _ #[Os] e
 | ext φ=>obtain⟨p,⟨o,e⟩,st⟩:=x; exact⟨st _ _ p fun o q=>k _ _ #[Os] q,⟨o,k _ _ #[Os] e⟩,st⟩
theorem HOk.lt (x:HOk P w H h) (e:H a=some o):a < h.objs.size:=(x a o e).lt
theorem HOk.fresh (x:HOk P w H h) (e:h.objs.size<=a):H a=none:=by
 cases q:H a with
 | none=>rfl
 | some u=>exact absurd (aU (x.lt q) e) (cm _)
theorem HOk.kept (x:HOk P w H h) (k:∀ b u,h.get? b=some u->h'.get? b=some u):HOk P w H h':=fun a o e =>
 (x a o e).NH (fun b u _ q=>k b u q) #[UH] fun _ _ q=>q
theorem HOk.laid (x:HOk P w H h) (k:∀ b u,h.get? b=some u->h'.get? b=some u) (hp:h.objs.size<=a) (new:zab P w #[Ug] h' a o):HOk P w #[Ug] h':=fun b u e=>by
 have hn:=x.fresh hp;by_cases hb:b=a
 ·subst hb; rw [zb] at e; cases e; exact new
 ·rw [zg hb] at e;exact (x b u e).NH (fun c v _ q=>k c v q) (fun c q=>by rw [zg (zl q hn)]; exact q) fun c xs q=>by rw [zg (zl q hn)]; exact q
end
noncomputable def Rd (H:Hp) (a:Addr) (u:HO):Prop:=H a=some u\/∃ o,H a=some #[WJ]
theorem Rd.ok {P:Program} {a:Addr} {u:HO} (r:Rd H a u) (x:HOk P w H h):zab P w H h a u:=by
 rcases r with r | ⟨o,r⟩
 ·exact x a u r
 ·obtain⟨_,q⟩:=x a _ r;exact q
noncomputable def Mut:Option HO->Prop
 | some (.lst _)=>True
 | some (.dK _)=>True
 | some (.dT _)=>True
 | some (.set _ _)=>True
 | some (.ins _ _ _)=>True
 | some (.ext _)=>True
 | _=>False
section
variable {P:Program} {w:World} {H:Hp} {h h':Heap} {x e:Addr} {o':HO}
theorem HOk.write (ok:HOk P w H h) (mu:Mut (H x)) (he:e=x\/H e=some (.own x)) (k:∀ b u,b≠e->h.get? b=some u->h'.get? b=some u) (Ew:∃ u,h'.get? e=some u)
  (new:zab P w (mR H x o') h' x o'):HOk P w (mR H x o') h':=fun b u q=>by
 have E2:∀ c y,H c=some (.own y)->c≠x:=fun c y r z=>by subst z; rw [r] at mu; exact mu
 have HE:∀ c xs,H c=some #[Sc]->c≠x:=fun c xs r z=>by subst z; rw [r] at mu; exact mu
 by_cases hb:b=x
 ·subst hb; rw [zb] at q; cases q; exact new
 ·rw [zg hb] at q;by_cases CV:b=e
  ·have q':H b=some (.own x):=by
    rcases he with z | z
    ·exact absurd (CV.trans z) hb
    ·rw [CV]; exact z
   rw [q] at q'; cases q';obtain⟨v,hv⟩:=Ew;exact⟨v,by rw [CV]; exact hv⟩
  ·refine (ok b u q).NH (fun c v hc r=>k c v ?_ r) (fun c r=>by rw [zg (E2 c b r)]; exact r) fun c xs r=>by rw [zg (HE c xs r)]; exact r
   rcases hc with rfl | hc
   ·exact CV
   ·rintro rfl;rcases he with z | z
    ·exact E2 c b hc z
    ·rw [hc] at z; cases z; exact hb rfl
end
structure Un (fs ex:List Addr) (H H':Hp) (h h':Heap):Prop where
 keep:∀ b o,h.get? b=some o->H b=none->b∉fs->b∉ex->h'.get? b=some o
 slot:∀ b o,h.get? b=some o->H b=none->b∈fs->b∉ex->∃ sl,h'.get? b=some { o with slots:=sl }
 free:∀ b o,h.get? b=some o->H b=none->b∉ex->H' b=none
 there:∀ b o,h.get? b=some o->b∉ex->∃ o',h'.get? b=some o'
 MS:∀ b xs,H b=some #[Sc]->H' b=some #[Sc]
 M7:∀ b o u,H b=some #[WJ]->H' b=some #[WJ]
 Nb:∀ b ps,H b=some (.tbl ps)->∃ more,H' b=some (.tbl (ps++more))
section
variable {fs fs' ex ex':List Addr} {H H1 H2:Hp} {h h1 h2 h':Heap} {a x e:Addr} {o:HO}
theorem Un.any (u:Un fs ex H H1 h h1) {b:Addr} {ob:Obj} (q:h.get? b=some ob) (n:H b=none) (hx:b∉ex):∃ sl,h1.get? b=some { ob with slots:=sl }:=by
 by_cases hb:b∈fs
 ·exact u.slot b ob q n hb hx
 ·exact⟨ob.slots,u.keep b ob q n hb hx⟩
theorem Un.kept (k:∀ b u,h.get? b=some u->h'.get? b=some u):Un fs ex H H h h' :=
 ⟨fun b ob q _ _ _=>k b ob q,fun b ob q _ _ _=>⟨ob.slots,k b ob q⟩,fun _ _ _ n _=>n,fun b ob q _=>⟨ob,k b ob q⟩,fun _ _ q=>q,fun _ _ _ q=>q,fun _ ps q=>⟨#[],by rw [q]; simp⟩⟩
theorem Un.refl:Un fs ex H H h h:=Un.kept fun _ _ q=>q
theorem Un.laid (k:∀ b u,h.get? b=some u->h'.get? b=some u) (hp:h.objs.size<=a) (hn:H a=none):Un fs ex H #[Ug] h h' where
 keep:=fun b u q _ _ _=>k b u q
 slot:=fun b u q _ _ _=>⟨u.slots,k b u q⟩
 free:=fun b u q n _=>by rw [zg (aQ (aU (aG q) hp))]; exact n
 there:=fun b u q _=>⟨u,k b u q⟩
 MS:=fun b xs q=>by rw [zg (zl q hn)]; exact q
 M7:=fun b u xs q=>by rw [zg (zl q hn)]; exact q
 Nb:=fun b ps q=>⟨#[],by rw [zg (zl q hn),q]; simp⟩
theorem Un.write (mu:Mut (H x)) (he:e=x\/H e=some (.own x)) (k:∀ b u,b≠e->h.get? b=some u->h'.get? b=some u) (Ew:∃ u,h'.get? e=some u):Un fs ex H (mR H x o) h h':=by
 have hx:∀ b,H b=none->b≠x:=fun b n z=>by subst z; rw [n] at mu; exact mu
 have hb:∀ b,H b=none->b≠e:=fun b n z=>by
  subst z;rcases he with r | r
  ·exact hx b n r
  ·rw [n] at r; cases r
 have hm:∀ b u,H b=some u->¬ Mut (some u)->b≠x:=fun b u q nm z=>by subst z; rw [q] at mu; exact nm mu
 refine⟨fun b u q n _ _=>k b u (hb b n) q,fun b u q n _ _=>⟨u.slots,k b u (hb b n) q⟩,fun b u q n _=>by rw [zg (hx b n)]; exact n,fun b u q _=>?_,
  fun b xs q=>by rw [zg (hm b _ q fun z=>z)]; exact q,fun b u xs q=>by rw [zg (hm b _ q fun z=>z)]; exact q,fun b ps q=>⟨#[],by rw [zg (hm b _ q fun z=>z),q]; simp⟩⟩
 by_cases CV:b=e
 ·subst CV; exact Ew
 ·exact⟨u,k b u CV q⟩
end
noncomputable def trk (h:Heap) (H:Hp):List Addr:=(bn h.objs.size).filter fun a=>(H a).isSome
noncomputable def zgC (h:Heap) (H:Hp):Heap:=dO h (trk h H)
theorem zkn (h:Heap) (H:Hp):(zgC h H).objs.size=h.objs.size:=PySem.W.hideAll_size _ _
theorem zlR {b:Addr} {o:Obj} (e:h.get? b=some o) (n:H b=none):(zgC h H).get? b=some o :=
 fC _ e fun hm=>by
  have q:(H b).isSome=true:=(db.mp hm).2;rw [n] at q; simp at q
theorem znt {b:Addr} {o:Obj} (e:(zgC h H).get? b=some o):h.get? b=some o/\H b=none:=by
 have e':h.get? b=some o:=ie (trk h H) e;refine⟨e',?_⟩;cases q:H b with
 | none=>rfl
 | some x =>
  have hm:b∈trk h H:=db.mpr ⟨bU.mpr (aG e'),by simp [q]⟩;have z:(zgC h H).get? b=none:=jG (trk h H) hm;rw [z] at e; cases e
structure Mod (K:af) (mg:Str->Option Value) (base:Heap):Prop where
 kin:K.In base
 glob:base.Ns mainGlobals mg
 blt:∃ mb,base.Ns builtinsNs mb/\∀ x:Str,x≠"__name__"->mb x=bootBuiltins x
 nolimit:base.NoLimit
structure Cx where
 prog:Program
 w:World
 K:af
 mg:Str->Option Value
 base:Heap
 A:Around
 N:List Str
 s₀:Shared
 H₀:Hp
 env:Env
 outer:List Env
 stack:List Env
 ex:List Addr
 fn:Str->Bool
 calm:Bool
 pn:List (Addr×Obj)
 xe:Value->Shared->Prop
noncomputable def frs (l:List Env):List Addr:=l.filterMap (·.frame)
abbrev Cx.fs (X:Cx):List Addr:=frs X.outer
noncomputable def Vis (sc:Scope) (x:Str):Prop:=sc.names.lookup x=some .local\/sc.names.lookup x=some .cell\/sc.names.lookup x=some .free
noncomputable def Loc (sc:Scope) (x:Str):Prop:=sc.names.lookup x=some .local\/sc.names.lookup x=some .cell
noncomputable def Look (env:Env) (h:Heap) (m:Str->Option Value) (x:Str) (u:Value):Prop :=
 (env.kindOf x=some .local/\m x=some u)\/((env.kindOf x=some .cell\/env.kindOf x=some .free)/\∃ c,env.cells.lookup x=some c/\h.IsCell c (some u))
structure Cx.Ok (X:Cx):Prop where
 mod:Mod X.K X.mg X.base
 kind:X.env.scope.kind = .function
 glob:X.env.globals=mainGlobals
 blt:X.env.builtins=builtinsNs
 above:X.s₀.heap.objs.size<=X.env.locals
 inj:∀ x y c,X.env.cells.lookup x=some c->X.env.cells.lookup y=some c->x=y
 has:∀ x,(X.env.kindOf x=some .cell\/X.env.kindOf x=some .free)->∃ c,X.env.cells.lookup x=some c
 cab:∀ x c,X.fn x=true->X.env.cells.lookup x=some c->X.s₀.heap.objs.size<=c
 hd:X.calm=true->X.A.handled=none
 frames:X.A.frames=some X.stack
 stk:X.stack=X.outer\/(X.stack=X.env :: X.outer/\X.env.frame=some X.env.locals)
 exf:∀ b∈X.ex,b≠X.env.locals/\∀ x c,X.env.cells.lookup x=some c->c≠b
 bs:∀ b o,X.base.get? b=some o->X.s₀.heap.get? b=some o/\X.H₀ b=none
 bsz:X.base.objs.size<=X.s₀.heap.objs.size
 Qi:∀ b o,X.base.get? b=some o->b∉X.ex
 QD:∀ b∈X.ex,b∉X.fs
 NO:X.s₀.heap.FunFrames X.base X.outer
 frf:∀ b∈X.fs,X.H₀ b=none
structure Inv (X:Cx) (mO:List (Addr×Obj)) (σ:List (Option V)) (H:Hp) (s:Shared):Prop where
 ok:X.Ok
 os:s.os=X.s₀.os
 bare:AllBare s.gens
 base:Un X.fs X.ex X.H₀ H X.s₀.heap s.heap
 loc:∃ m,s.heap.Ns X.env.locals m/\∀ (i:Nat) (x:Str) (v:V),X.N[i]? = some x->σ[i]? = some #[Vp]->Vis X.env.scope x->∃ u,RelV v u/\Look X.env s.heap m x u
 cell:∀ x c,X.env.cells.lookup x=some c->∃ v,s.heap.IsCell c v
 free:H X.env.locals=none
 KS:∀ x c,X.env.cells.lookup x=some c->H c=none
 pin:∀ p∈X.pn++mO,s.heap.get? p.1=some p.2/\H p.1=none/\p.1≠X.env.locals/\p.1∉X.fs/\∀ v,p.2.data≠.cell v
 hok:HOk X.prog X.w H s.heap
 len:σ.length=X.N.length
section
variable {X:Cx} {mO:List (Addr×Obj)} {σ:List (Option V)} {H H':Hp} {s:Shared} {h':Heap}
theorem Cx.Ok.Q9 (ok:X.Ok) {b:Addr} {o:Obj} (e:X.base.get? b=some o):b∉X.fs:=fun hb=>by
 have:=(ok.NO.mem hb).1;rw [e] at this; cases this
theorem Inv.bs (I:Inv X mO σ H s):∀ b o,X.base.get? b=some o->s.heap.get? b=some o/\H b=none:=fun b o e =>
 ⟨I.base.keep b o #[Wb].1 #[Wb].2 (I.ok.Q9 e) (I.ok.Qi b o e),I.base.free b o #[Wb].1 #[Wb].2 (I.ok.Qi b o e)⟩
theorem Inv.bk (I:Inv X mO σ H s):∀ b o,X.base.get? b=some o->s.heap.get? b=some o:=fun b o e=>(I.bs b o e).1
theorem Inv.mod (I:Inv X mO σ H s):Mod X.K X.mg X.base:=I.ok.mod
theorem Inv.kIn (I:Inv X mO σ H s):X.K.In s.heap:=I.ok.mod.kin.keeps I.bk
theorem Inv.lt (I:Inv X mO σ H s):X.env.locals < s.heap.objs.size:=let ⟨_,hn,_⟩:=I.loc; hn.lt
theorem Inv.sz (I:Inv X mO σ H s):X.s₀.heap.objs.size<=s.heap.objs.size:=bq I.ok.above (iK I.lt)
theorem Inv.Q8 (I:Inv X mO σ H s) {a:Addr} (h:s.heap.objs.size<=a):a∉X.fs:=fun hb=>by
 obtain⟨_,o,ho,_⟩:=I.ok.NO.mem hb;exact absurd (aU (aG ho) (bq I.sz h)) (cm _)
theorem Inv.cne (I:Inv X mO σ H s):∀ x c,X.env.cells.lookup x=some c->c≠X.env.locals:=fun x c e z=>by
 obtain⟨v,o,ho,hd⟩:=I.cell x c e;obtain⟨m,⟨o',es,ep,xo,Bo,_⟩,_⟩:=I.loc;rw [z,xo] at ho; cases ho; rw [Bo] at hd; cases hd
theorem Inv.NO (I:Inv X mO σ H s):s.heap.FunFrames X.base X.outer:=by
 have all:∀ (l:List Env),(∀ b∈frs l,b∈X.fs)->X.s₀.heap.FunFrames X.base l->s.heap.FunFrames X.base l:=by
  intro l;induction l with
  | nil=>intro _ _; trivial
  | cons env r ih =>
   intro hs hl;obtain⟨hk,⟨L,o,hf,hn,ho,hd⟩,hr⟩:=hl;have hL:L∈X.fs:=hs L (by unfold frs; rw [cu,hf]; exact aE);obtain⟨sl,e⟩:=I.base.slot L o ho (I.ok.frf L hL) hL fun z=>I.ok.QD L z hL
   exact⟨hk,⟨L,_,hf,hn,e,hd⟩,ih (fun b hb=>hs b (by unfold frs; rw [cu,hf]; exact aq _ hb)) hr⟩
 exact all X.outer (fun _ hb=>hb) I.ok.NO
theorem Inv.stack (I:Inv X mO σ H s):s.heap.FunFrames X.base X.stack:=by
 rcases I.ok.stk with e | ⟨e,hf⟩
 ·rw [e]; exact I.NO
 ·rw [e];obtain⟨m,hn,_⟩:=I.loc;refine .cons (by rw [I.ok.kind]; decide) hf hn ?_ I.NO;exact Heap.get?_none_of_le (bq I.ok.bsz I.ok.above)
theorem Inv.Ou (I:Inv X mO σ H s):∀ b∈frs X.stack,b∈X.env.locals :: X.fs:=fun b hb=>by
 rcases I.ok.stk with e | ⟨e,hf⟩
 ·rw [e] at hb; exact aq _ hb
 ·rw [e] at hb;unfold frs at hb;rw [cu,hf] at hb;exact hb
theorem Inv.Mv (I:Inv X mO σ H s):∀ b∈frs X.stack,H b=none:=fun b hb=>by
 rcases az.mp (I.Ou b hb) with e | hb
 ·rw [e]; exact I.free
 ·obtain⟨_,o,ho,_⟩:=I.ok.NO.mem hb;exact I.base.free b o ho (I.ok.frf b hb) fun z=>I.ok.QD b z hb
theorem Inv.step {g':Array GenState} {d':Drawn} (I:Inv X mO σ H s)
  (qD:∀ b∈ch,(b∈X.ex\/X.s₀.heap.objs.size<=b)/\b≠X.env.locals/\(∀ x c,X.env.cells.lookup x=some c->c≠b)/\∀ p∈X.pn++mO,p.1≠b)
  (keep:∀ b o,b≠X.env.locals->b∉X.fs->b∉ch->s.heap.get? b=some o->H b=none->h'.get? b=some o)
  (slot:∀ b o,b≠X.env.locals->b∈X.fs->b∉ch->s.heap.get? b=some o->H b=none->∃ sl,h'.get? b=some { o with slots:=sl }) (free:∀ b o,b∉ch->s.heap.get? b=some o->H b=none->H' b=none)
  (there:∀ b o,b∉ch->s.heap.get? b=some o->∃ o',h'.get? b=some o')
  (MS:∀ b xs,H b=some #[Sc]->H' b=some #[Sc]) (M7:∀ b o u,H b=some #[WJ]->H' b=some #[WJ]) (Nb:∀ b ps,H b=some (.tbl ps)->∃ more,H' b=some (.tbl (ps++more)))
  (ns:∀ m,s.heap.Ns X.env.locals m->h'.Ns X.env.locals m) (hok:HOk X.prog X.w H' h') (hg:AllBare g') :
  Inv X mO σ H' { s with heap:=h',gens:=g',drawn:=d',toks:=t' }:=by
 have neL:∀ b o,X.s₀.heap.get? b=some o->b≠X.env.locals:=fun b o e=>aQ (aU (aG e) I.ok.above)
 have GN:∀ b o,X.s₀.heap.get? b=some o->b∉X.ex->b∉ch:=fun b o e hx hb=>by
  rcases (qD b hb).1 with z | z
  ·exact hx z
  ·exact absurd (aU (aG e) z) (cm _)
 have cellK:∀ x c,X.env.cells.lookup x=some c->∀ v,s.heap.IsCell c v->h'.IsCell c v:=fun x c e v ⟨o,ho,hd⟩=>by
  have E3:c∉ch:=fun z=>(qD c z).2.2.1 x c e rfl
  by_cases hc:c∈X.fs
  ·obtain⟨sl,q⟩:=slot c o (I.cne x c e) hc E3 ho (I.KS x c e);exact⟨_,q,hd⟩
  ·exact⟨o,keep c o (I.cne x c e) hc E3 ho (I.KS x c e),hd⟩
 refine⟨I.ok,I.os,hg,⟨fun b o e n hb hx=>?_,fun b o e n hb hx=>?_,fun b o e n hx=>?_,fun b o e hx=>?_,fun b xs e=>MS b xs (I.base.MS b xs e),fun b o xs e=>M7 b o xs (I.base.M7 b o xs e),fun b ps e=>?_⟩,?_,fun x c e=>?_,?_,fun x c e=>?_,fun p hp=>?_,hok,I.len⟩
 ·exact keep b o (neL b o e) hb #[XN] #[ST] #[U5]
 ·obtain⟨sl,e1⟩:=I.base.slot b o e n hb hx;obtain⟨GO,e2⟩:=slot b _ (neL b o e) hb #[XN] e1 #[U5];exact⟨GO,e2⟩
 ·obtain⟨o',e1⟩:=I.base.there b o e hx;exact free b o' #[XN] e1 #[U5]
 ·obtain⟨o',e1⟩:=I.base.there b o e hx;exact there b o' #[XN] e1
 ·obtain⟨m1,e1⟩:=I.base.Nb b ps e;obtain⟨m2,e2⟩:=Nb b _ e1;exact⟨m1++m2,by rw [e2,ki]⟩
 ·obtain⟨m,hn,hl⟩:=I.loc;refine⟨m,ns m hn,fun i x v e1 e2 e3=>?_⟩;obtain⟨u,r,l⟩:=hl i x v e1 e2 e3;refine⟨u,r,?_⟩;rcases l with l | ⟨k,c,e,z⟩
  ·exact .inl l
  ·exact .inr ⟨k,c,e,cellK x c e _ z⟩
 ·obtain⟨v,z⟩:=I.cell x c e;exact⟨v,cellK x c e v z⟩
 ·obtain⟨m,⟨o,_,_,ho,_⟩,_⟩:=I.loc;exact free _ o (fun z=>(qD _ z).2.1 rfl) ho I.free
 ·obtain⟨v,o,ho,hd⟩:=I.cell x c e;exact free c o (fun z=>(qD c z).2.2.1 x c e rfl) ho (I.KS x c e)
 ·obtain⟨e,n,ne,nf,d⟩:=I.pin p hp;have E3:p.1∉ch:=fun z=>(qD p.1 z).2.2.2 p hp rfl
  exact⟨keep p.1 p.2 ne nf E3 e n,free p.1 p.2 E3 e n,ne,nf,d⟩
theorem Inv.un (I:Inv X mO σ H s) (u:Un X.fs [] H H' s.heap h') (hok:HOk X.prog X.w H' h'):Inv X mO σ H' { s with heap:=h',toks:=t' }:=by
 obtain⟨m,⟨o,es,ep,ho,r⟩,_⟩:=id I.loc;obtain⟨sl,hL⟩:=u.any ho I.free #[M];exact I.step (g':=s.gens) (d':=s.drawn) (ch:=[]) (fun _ z=>nomatch z) (fun b o _ hb _ e n=>u.keep b o e n hb #[M]) (fun b o _ hb _ e n=>u.slot b o e n hb #[M]) (fun b o _ e n=>u.free b o e n #[M]) (fun b o _ e=>u.there b o e #[M]) u.MS u.M7 u.Nb (fun m' hm=>by
  obtain⟨o',es',GP,xo,r'⟩:=hm;rw [ho] at xo; cases xo;exact⟨_,es',GP,hL,r'⟩) hok I.bare
theorem Inv.call {g':Array GenState} {d':Drawn} (I:Inv X mO σ H s) (u:Un (frs X.stack) ch H H' s.heap h') (hok:HOk X.prog X.w H' h') (hg:AllBare g')
  (qD:∀ b∈ch,(b∈X.ex\/X.s₀.heap.objs.size<=b)/\b≠X.env.locals/\(∀ x c,X.env.cells.lookup x=some c->c≠b)/\∀ p∈X.pn++mO,p.1≠b) :
  Inv X mO σ H' { s with heap:=h',gens:=g',drawn:=d',toks:=t' }:=by
 obtain⟨m,⟨o,es,ep,ho,r⟩,_⟩:=id I.loc;obtain⟨sl,hL⟩:=u.any ho I.free fun z=>(qD _ z).2.1 rfl
 exact I.step (ch:=ch) qD (fun b o hL hb hc e n=>u.keep b o e n (fun z=>(az.mp (I.Ou b z)).elim hL hb) hc) (fun b o _ _ hc e n=>u.any e n hc) (fun b o hc e n=>u.free b o e n hc) (fun b o hc e=>u.there b o e hc) u.MS u.M7 u.Nb (fun m' hm=>by
  obtain⟨o',es',GP,xo,r'⟩:=hm;rw [ho] at xo; cases xo;exact⟨_,es',GP,hL,r'⟩) hok hg
theorem Inv.turned (I:Inv X mO σ H s) (k:∀ b o,b≠it->s.heap.get? b=some o->h'.get? b=some o) (hn:H it=none) (hL:it≠X.env.locals)
  (h1:it∈X.ex\/X.s₀.heap.objs.size<=it) (h2:∀ x c,X.env.cells.lookup x=some c->c≠it) (h3:∀ p∈X.pn++mO,p.1≠it):Inv X mO σ H { s with heap:=h',toks:=t' }:=by
 have xp:∀ b u,H b=some u->b≠it:=fun b u e z=>by rw [z,hn] at e; cases e
 refine I.step (g':=s.gens) (d':=s.drawn) (ch:=[it]) (fun b hb=>?_) (fun b o _ _ hc e _=>k b o (fun z=>hc (by simp [z])) e) (fun b o _ _ hc e _=>⟨o.slots,k b o (fun z=>hc (by simp [z])) e⟩) #[T7]
  (fun b o hc e=>⟨o,k b o (fun z=>hc (by simp [z])) e⟩) #[UW] #[UX] (fun b ps e=>⟨#[],by rw [e]; simp⟩) #[VD] (fun b u e=>?_) I.bare
 ·have e:b=it:=by simpa using hb
  subst e;exact⟨h1,hL,h2,h3⟩
 ·obtain⟨o,es,ep,ho,r⟩:=hm;exact⟨o,es,ep,k _ o (cX hL) ho,r⟩
 ·refine #[VS].NH (fun c v hc q=>k c v ?_ q) #[UH] fun _ _ q=>q
  rcases hc with z | z
  ·rw [z]; exact xp b u e
  ·exact xp c _ z
theorem Inv.tok (I:Inv X mO σ H s) (t:Nat):Inv X mO σ H { s with toks:=t }:=I.un (h':=s.heap) (t':=t) Un.refl I.hok
theorem Inv.kept (I:Inv X mO σ H s) (k:∀ b u,s.heap.get? b=some u->h'.get? b=some u):Inv X mO σ H { s with heap:=h',toks:=t' }:=I.un (Un.kept k) (I.hok.kept k)
theorem Inv.laid {a:Addr} {o:HO} (I:Inv X mO σ H s) (k:∀ b u,s.heap.get? b=some u->h'.get? b=some u) (hp:s.heap.objs.size<=a) (new:zab X.prog X.w #[Ug] h' a o) :
  Inv X mO σ #[Ug] { s with heap:=h',toks:=t' }:=I.un (Un.laid k hp (I.hok.fresh hp)) (I.hok.laid k hp new)
theorem Inv.write {x e:Addr} {o:HO} (I:Inv X mO σ H s) (mu:Mut (H x)) (he:e=x\/H e=some (.own x)) (k:∀ b u,b≠e->s.heap.get? b=some u->h'.get? b=some u) (Ew:∃ u,h'.get? e=some u)
  (new:zab X.prog X.w (mR H x o) h' x o):Inv X mO σ (mR H x o) { s with heap:=h',toks:=t' }:=I.un (Un.write mu he k Ew) (I.hok.write mu he k Ew new)
theorem Inv.weak {σ':List (Option V)} (I:Inv X mO σ H s) (hl:σ'.length=σ.length) (w:∀ (i:Nat) v,σ'[i]? = some #[Vp]->σ[i]? = some #[Vp]):Inv X mO σ' H s :=
 ⟨I.ok,I.os,I.bare,I.base,let ⟨m,hn,CW⟩:=I.loc; ⟨m,hn,fun i x v e1 e2 e3=>CW i x v e1 (w i v e2) e3⟩,I.cell,I.free,I.KS,I.pin,I.hok,hl.trans I.len⟩
theorem Inv.Mw (I:Inv X mO σ H s) (h:∀ p∈pz,s.heap.get? p.1=some p.2/\H p.1=none/\p.1≠X.env.locals/\p.1∉X.fs/\∀ v,p.2.data≠.cell v):Inv X pz σ H s :=
 ⟨I.ok,I.os,I.bare,I.base,I.loc,I.cell,I.free,I.KS,fun p hp=>(aP.mp hp).elim (fun z=>I.pin p (aH _ z)) (h p),I.hok,I.len⟩
theorem ze6 (hN:N.Nodup) {i:Nat} {x:Str} (a:N[i]? = some x) (b:N[j]? = some x):i=j:=by
 obtain⟨h1,e1⟩:=aj.mp a;obtain⟨h2,e2⟩:=aj.mp b;exact (List.getElem_inj hN).mp (e1.trans e2.symm)
theorem zf0 {E:Value->Shared->Prop} {i:Nat} {x:Str} {v:V} {u:Value} {Q:Unit->Shared->Prop} (I:Inv X mO σ H s) (hN:X.N.Nodup) (hi:X.N[i]? = some x) (hx:Loc X.env.scope x) (r:RelV v u)
  (h:∀ s',Inv X mO (σ.set i #[Vp]) H s'->(∃ a,bh a s.heap s'.heap/\(a=X.env.locals\/X.env.cells.lookup x=some a))->Q () s') (hf:X.fn x=true\/X.env.scope.names.lookup x=some .local:=by first | exact .inl rfl | exact .inr rfl | assumption):wpAny M A (storeName X.env x u) Q E s:=by
 obtain⟨m,hn,hl⟩:=id I.loc;have yH:(X.env.scope.kind == .class || (X.env.scope.kind == .module && X.env.locals != X.env.globals))=false:=by rw [I.ok.kind]; rfl
 have hiσ:i < σ.length:=by rw [I.len]; exact (aj.mp hi).1
 have cne:=I.cne;have tracked:∀ {a:Addr} {h':Heap},(∃ o,s.heap.get? a=some o/\H a=none)->bh a s.heap h'->HOk X.prog X.w H h':=fun {a h'} ha hs b ob e=>by
  obtain⟨_,_,Co⟩:=ha;refine (I.hok b ob e).NH (fun c w' hc q=>(hs.2 c ?_).trans q) #[UH] fun _ _ q=>q
  rintro rfl;rcases hc with rfl | hc
  ·rw [Co] at e; cases e
  ·rw [Co] at hc; cases hc
 rcases hx with hk | hk
 ·refine wpAny_storeName_local hk hn (fun h' E4 hs=>?_) yH;obtain⟨oL,_,_,Ex,_⟩:=id hn;refine h _ ⟨I.ok,I.os,I.bare,#[Ch],#[Xw],fun y c e=>?_,I.free,I.KS,fun p hp=>?_,tracked ⟨oL,Ex,I.free⟩ hs,by simpa using I.len⟩ ⟨_,hs,.inl rfl⟩
  ·exact (hs.2 b #[RA]).trans #[ST]
  ·obtain⟨sl,e1⟩:=I.base.slot b o e n hb hx;exact⟨sl,(hs.2 b #[RA]).trans e1⟩
  ·obtain⟨o',e1⟩:=I.base.there b o e hx;exact⟨o',(hs.2 b #[RA]).trans e1⟩
  ·by_cases hj:j=i
   ·subst hj;rw [hi] at e1; cases e1;rw [dM hiσ] at e2;cases e2;exact⟨u,r,.inl ⟨hk,#[M]⟩⟩
   ·rw [d8 (cX hj)] at e2;obtain⟨u',r',q⟩:=hl j y v' e1 e2 e3;refine⟨u',r',?_⟩;rcases q with ⟨k,e⟩ | ⟨k,c,e,z⟩
    ·refine .inl ⟨k,?_⟩;have:y≠x:=fun e=>hj (ze6 hN e1 (e ▸ hi))
     simp [this,e]
    ·exact .inr #[Xv]
  ·obtain⟨w',z⟩:=I.cell y c e;exact#[Xa]
  ·obtain⟨e,n,ne,nf,d⟩:=I.pin p hp;exact⟨(hs.2 p.1 ne).trans e,n,ne,nf,d⟩
 ·have E5:X.fn x=true:=by
   rcases hf with z | z
   ·exact z
   ·rw [z] at hk; cases hk
  obtain⟨c,hc⟩:=I.ok.has x (.inl hk);obtain⟨w',z⟩:=I.cell x c hc;refine wpAny_storeName_cell I.ok.kind hk hc z (fun h' nh hs=>?_);obtain⟨oc,hoc,HF⟩:=id z;refine h { s with heap:=h' } ⟨I.ok,I.os,I.bare,#[Ch],⟨m,hn.sameBut hs (cX (cne x c hc)),fun j y v' e1 e2 e3=>?_⟩,fun y c' e=>?_,I.free,I.KS,fun p hp=>?_,tracked ⟨oc,hoc,I.KS x c hc⟩ hs,by simpa using I.len⟩ ⟨c,hs,.inr hc⟩
  ·exact (hs.2 b #[Te]).trans #[ST]
  ·obtain⟨sl,e1⟩:=I.base.slot b o e n hb hx;exact⟨sl,(hs.2 b #[Te]).trans e1⟩
  ·obtain⟨o',e1⟩:=I.base.there b o e hx;exact⟨o',(hs.2 b #[Te]).trans e1⟩
  ·by_cases hj:j=i
   ·subst hj;rw [hi] at e1; cases e1;rw [dM hiσ] at e2;cases e2;exact⟨u,r,.inr ⟨.inl hk,c,hc,nh⟩⟩
   ·rw [d8 (cX hj)] at e2;obtain⟨u',r',q⟩:=hl j y v' e1 e2 e3;refine⟨u',r',?_⟩;rcases q with q | ⟨k,c',e,z'⟩
    ·exact .inl q
    ·refine .inr ⟨k,c',e,z'.sameBut hs ?_⟩;rintro rfl;exact hj (ze6 hN e1 (I.ok.inj _ _ _ e hc ▸ hi))
  ·by_cases oK:c'=c
   ·subst oK; exact⟨_,nh⟩
   ·obtain⟨w2,z2⟩:=I.cell y c' e;exact⟨w2,z2.sameBut hs oK⟩
  ·obtain⟨e,n,ne,nf,d⟩:=I.pin p hp;refine⟨(hs.2 p.1 ?_).trans e,n,ne,nf,d⟩;intro q;rw [q,hoc] at e;have q':oc=p.2:=aO e;exact d w' (by rw [<- q']; exact HF)
theorem zci {E:Value->Shared->Prop} {i:Nat} {x:Str} {v:V} {u:Value} {Q:Unit->Shared->Prop} (I:Inv X mO σ H s) (hN:X.N.Nodup) (hi:X.N[i]? = some x) (hx:Loc X.env.scope x) (r:RelV v u)
  (h:∀ s',Inv X mO (σ.set i #[Vp]) H s'->Q () s') (hf:X.fn x=true\/X.env.scope.names.lookup x=some .local:=by first | exact .inl rfl | exact .inr rfl | assumption):wpAny M A (storeName X.env x u) Q E s :=
 zf0 I hN hi hx r (fun s' I' _=>h s' I') hf
theorem Inv.Qx (I:Inv X mO σ H s) (ho:s'.os=s.os) (u:Un (frs X.stack) ch H H' s.heap s'.heap) (hok:HOk X.prog X.w H' s'.heap) (hg:AllBare s'.gens)
  (qD:∀ b∈ch,(b∈X.ex\/X.s₀.heap.objs.size<=b)/\b≠X.env.locals/\(∀ x c,X.env.cells.lookup x=some c->c≠b)/\∀ p∈X.pn++mO,p.1≠b):Inv X mO σ H' s':=by
 obtain⟨h',g',d',t',o'⟩:=s';have e:o'=s.os:=ho;subst e;exact I.call (g':=g') (t':=t') (d':=d') u hok hg qD
end
abbrev XK:=Value->Option Addr->Hp->Prop
abbrev St:=List (Option V)
abbrev VK:=V->Hp->Prop
abbrev TE:=St->Hp->VK->Prop
abbrev TT:=St->Hp->(Bool->Hp->Prop)->Prop
abbrev TA:=St->Hp->(List V->Hp->Prop)->Prop
structure Ends where
 nx:St->Hp->Prop
 rt:VK
 bk:St->Hp->Prop:=fun _ _=>False
 ct:St->Hp->Prop:=fun _ _=>False
abbrev TS:=Ends->St->Hp->Prop
noncomputable def EP (X:Cx) (mO:List (Addr×Obj)) (σ:St) (Q:VK) (u:Value) (s':Shared):Prop:=∃ v H',Inv X mO σ H' s'/\RelV v u/\Q v H'
noncomputable def TP (X:Cx) (mO:List (Addr×Obj)) (σ:St) (Q:Bool->Hp->Prop) (b:Bool) (s':Shared):Prop:=∃ H',Inv X mO σ H' s'/\Q b H'
noncomputable def AP (X:Cx) (mO:List (Addr×Obj)) (σ:St) (Q:List V->Hp->Prop) (us:List Value) (s':Shared):Prop:=∃ vs H',Inv X mO σ H' s'/\zM vs us/\Q vs H'
noncomputable def SP (X:Cx) (mO:List (Addr×Obj)) (D:Ends) (f:Flow) (s':Shared):Prop :=
 match f with
 | .next=>∃ σ' H',Inv X mO σ' H' s'/\D.nx σ' H'
 | .brk=>∃ σ' H',Inv X mO σ' H' s'/\D.bk σ' H'
 | .cont=>∃ σ' H',Inv X mO σ' H' s'/\D.ct σ' H'
 | .ret u=>∃ v σ' H',Inv X mO σ' H' s'/\RelV v u/\D.rt v H'
noncomputable def PE (X:Cx) (e:Expr) (t:TE):Prop :=
 ∀ (mO:List (Addr×Obj)) (s:Shared) (σ:St) (H:Hp) (Q:VK),Inv X mO σ H s->t σ H Q->wpAny #[on] X.A #[Vr] #[P3] X.xe s
noncomputable def PT (X:Cx) (e:Expr) (t:TT):Prop :=
 ∀ (mO:List (Addr×Obj)) (s:Shared) (σ:St) (H:Hp) (Q:Bool->Hp->Prop),Inv X mO σ H s->t σ H Q->wpAny #[on] X.A (isTrue e X.env #[Vr]) #[WR] X.xe s
noncomputable def PW (X:Cx) (e:Expr) (t:TT):Prop :=
 ∀ (whole:Sem Value) (mO:List (Addr×Obj)) (s:Shared) (σ:St) (H:Hp) (Q:Bool->Hp->Prop),Inv X mO σ H s->t σ H Q->wpAny #[on] X.A (isTrue e X.env whole) #[WR] X.xe s
theorem PW.pt {X:Cx} {e:Expr} {t:TT} (h:PW X e t):PT X e t:=h _
noncomputable def PA (X:Cx) (es:List Expr) (t:TA):Prop :=
 ∀ (pos:Pos) (mO:List (Addr×Obj)) (s:Shared) (σ:St) (H:Hp) (Q:List V->Hp->Prop),Inv X mO σ H s->t σ H Q->wpAny #[on] X.A (spliced #[Do]) (AP X mO σ Q) X.xe s
noncomputable def PS (X:Cx) (st:Stmt) (t:TS):Prop :=
 ∀ (mO:List (Addr×Obj)) (s:Shared) (σ:St) (H:Hp) (D:Ends),Inv X mO σ H s->t D σ H->wpAny #[on] X.A (exec st X.env) #[X2] X.xe s
noncomputable def PSs (X:Cx) (st:List Stmt) (t:TS):Prop :=
 ∀ (mO:List (Addr×Obj)) (s:Shared) (σ:St) (H:Hp) (D:Ends),Inv X mO σ H s->t D σ H->wpAny #[on] X.A (execs st X.env) #[X2] X.xe s
theorem thn {α:Type} {t:Sem α} {Q Q':α->Shared->Prop} {E:Value->Shared->Prop} (h:wpAny M A t Q E s) (hQ:∀ a s,Q a s->Q' a s):wpAny M A t Q' E s:=bR h hQ fun _ _ x=>x
section
variable {X:Cx}
noncomputable def zpW (i:Nat):TE:=fun σ H Q=>∃ v,σ[i]? = some #[Vp]/\Q v H
noncomputable def tC (v:V):TE:=fun _ H Q=>Q v H
theorem zoW {i:Nat} {x:Str} (hN:X.N[i]? = some x) (hv:Vis X.env.scope x) (hd:(x == ("__debug__" : Str))=false:=by decide) (uJ:(x == ("__classdict__" : Str))=false:=by decide):PE X #[Us] (zpW i):=by
 intro mO s σ H Q I h;obtain⟨v,e,h⟩:=h;obtain⟨m,hn,hl⟩:=I.loc;obtain⟨u,r,l⟩:=hl i x v hN e hv;have fin:EP X mO σ Q u s:=⟨v,H,I,r,h⟩;rcases l with ⟨hk,hm⟩ | ⟨hk,c,hc,p8⟩
 ·exact lF (jH I.ok.kind hk hn hm fin) hd
 ·rcases hk with hk | hk
  ·exact lF (j2 I.ok.kind hk hc p8 fin) hd
  ·exact lF (wpAny_loadName_free I.ok.kind hk hc p8 fin uJ) hd
theorem zh {i j pos}:PE X (.Constant #[Xk] j pos) (tC #[Xk]):=fun _ _ _ H _ I h=>wpAny_Constant_int ⟨.int i,H,I.tok _,⟨_,rfl⟩,h⟩
theorem zdE {b j pos}:PE X (.Constant (.bool b) j pos) (tC (.bl b)):=fun _ _ _ H _ I h=>Constant_bool ⟨.bl b,H,I,rfl,h⟩
theorem zaD {j pos}:PE X (.Constant .none j pos) (tC .non):=fun _ _ _ H _ I h=>Constant_none ⟨.non,H,I,rfl,h⟩
theorem zV {x j pos}:PE X (.Constant (.str x) j pos) (tC (.str x)):=fun _ _ _ H _ I h=>Calls.Constant_str ⟨.str x,H,I.tok _,⟨_,rfl⟩,h⟩
noncomputable def Gl (X:Cx) (x:Str):Prop:=X.env.kindOf x=some .globalImplicit
theorem zc6 {E:Value->Shared->Prop} {σ:St} {x:Str} {u:Value} {Q:Value->Shared->Prop} (I:Inv X mO σ H s) (hg:Gl X x) (hm:X.mg x=some u) (h:Q u s)
  (hd:(x == ("__debug__" : Str))=false:=by decide):wpAny #[on] X.A (eval #[Us] X.env) Q E s :=
 ip I.ok.kind hg (Calls.loadGlobal_global (by rw [I.ok.glob]; exact I.mod.glob.keeps I.bk) hm h) hd
theorem zcc {E:Value->Shared->Prop} {σ:St} {x:Str} {u:Value} {Q:Value->Shared->Prop} (I:Inv X mO σ H s) (hg:Gl X x) (hm:X.mg x=none) (hv:bootBuiltins x=some u) (h:Q u s)
  (hn:x≠"__name__":=by decide) (hd:(x == ("__debug__" : Str))=false:=by decide):wpAny #[on] X.A (eval #[Us] X.env) Q E s:=by
 obtain⟨mb,h1,h2⟩:=I.mod.blt;exact ip I.ok.kind hg (Calls.loadGlobal_builtin (by rw [I.ok.glob]; exact I.mod.glob.keeps I.bk) hm (by rw [I.ok.blt]; exact h1.keeps I.bk) ((h2 x hn).trans hv) h) hd
theorem zby {x:Str} {v:V} {u:Value} {pos:Pos} (hg:Gl X x) (hm:X.mg x=some u) (r:RelV v u) (hd:(x == ("__debug__" : Str))=false:=by decide):PE X #[Us] (tC v) :=
 fun _ _ _ H _ I h=>zc6 I hg hm ⟨v,H,I,r,h⟩ hd
theorem zdF {x:Str} {v:V} {u:Value} {pos:Pos} (hg:Gl X x) (hm:X.mg x=none) (hv:bootBuiltins x=some u) (r:RelV v u) (hn:x≠"__name__":=by decide) (hd:(x == ("__debug__" : Str))=false:=by decide):PE X #[Us] (tC v) :=
 fun _ _ _ H _ I h=>zcc I hg hm hv ⟨v,H,I,r,h⟩ hn hd
variable {a b:Expr} {ta tb:TE} {pos:Pos}
noncomputable def tB (t:TE):TT:=fun σ H Q=>t σ H fun x H1=>∃ c,x = .bl c/\Q c H1
theorem ziy {e:Expr} {t:TE} (h:PE X e t) (he:∀ whole,isTrue e X.env whole=(do let v <- whole; standAt e.pos; holding [v] (truthy v)):=by intro _; rfl):PT X e (tB t):=by
 intro mO s σ H Q I hw;refine isTrue_plain (thn #[VZ] fun v s1 ⟨x,H1,I1,r1,q1⟩=>?_) (he _);obtain⟨d,rfl,q⟩:=q1;cases r1;exact c6 ⟨H1,I1,q⟩
variable {tA GQ:TT} {rest:List Expr}
noncomputable def zqD (t u:TT):TT:=fun σ H Q=>t σ H fun c H1=>if c=true then u σ H1 Q else Q false H1
noncomputable def tOr (t u:TT):TT:=fun σ H Q=>t σ H fun c H1=>if c=true then Q true H1 else u σ H1 Q
noncomputable def zqE (t:TT):TT:=fun σ H Q=>t σ H fun c H1=>Q (!c) H1
theorem zc7 (ha:PT X a tA):PW X (.BoolOp .And [a] pos) tA:=by
 intro wh mO s σ H Q I h;refine isTrue_and (thn (ha mO s σ H Q I h) fun c s1 e=>?_);cases c with
 | true=>exact isTrue_and_nil e
 | false=>exact e
theorem zlS (ha:PT X a tA):PW X (.BoolOp .Or [a] pos) tA:=by
 intro wh mO s σ H Q I h;refine isTrue_or (thn (ha mO s σ H Q I h) fun c s1 e=>?_);cases c with
 | false=>exact isTrue_or_nil e
 | true=>exact e
theorem zdv (ha:PT X a tA) (hb:PW X #[XA] GQ):PW X (.BoolOp .And (a :: b :: rest) pos) (zqD tA GQ):=by
 intro wh mO s σ H Q I h;refine isTrue_and (thn #[GM] fun c s1 ⟨H1,I1,q1⟩=>?_);cases c with
 | true=>exact hb wh mO s1 σ H1 Q I1 q1
 | false=>exact⟨H1,I1,q1⟩
theorem zoD (ha:PT X a tA) (hb:PW X (.BoolOp .Or (b :: rest) pos) GQ):PW X (.BoolOp .Or (a :: b :: rest) pos) (tOr tA GQ):=by
 intro wh mO s σ H Q I h;refine isTrue_or (thn #[GM] fun c s1 ⟨H1,I1,q1⟩=>?_);cases c with
 | true=>exact⟨H1,I1,q1⟩
 | false=>exact hb wh mO s1 σ H1 Q I1 q1
theorem zdw (ha:PT X a tA):PT X (.UnaryOp .Not a pos) (zqE tA):=by
 intro mO s σ H Q I h;exact isTrue_not (ha mO s σ H (fun c H1=>Q (!c) H1) I h)
noncomputable def zpX (ta tb:TE):TE:=fun σ H Q=>ta σ H fun x H1=>∃ c,x = .bl c/\if c=true then tb σ H1 Q else Q #[X4] H1
noncomputable def zpY (ta:TE):TE:=fun σ H Q=>ta σ H fun x H1=>∃ c,x = .bl c/\Q (.bl (!c)) H1
theorem ziz {op} {t:TE} (h:PE X a t):PE X (.BoolOp op [a] pos) t:=fun mO s σ H Q I hw=>BoolOp_one (h mO s σ H Q I hw)
theorem zlT (ha:PE X a ta) (hb:PE X #[XA] tb):PE X (.BoolOp .And (a :: b :: rest) pos) (zpX ta tb):=by
 intro mO s σ H Q I h;refine BoolOp_and (thn #[GM] fun v s1 ⟨x,H1,I1,r1,q1⟩=>?_);obtain⟨c,rfl,q1⟩:=q1;cases r1;refine c6 ?_;cases c with
 | true=>exact hb mO s1 σ H1 Q I1 q1
 | false=>exact⟨.bl false,H1,I1,rfl,q1⟩
theorem zoX (ha:PE X a ta):PE X (.UnaryOp .Not a pos) (zpY ta):=by
 intro mO s σ H Q I h;refine UnaryOp_ (thn #[GM] fun v s1 ⟨x,H1,I1,r1,q1⟩=>?_);obtain⟨c,rfl,q1⟩:=q1;cases r1;exact not_of (c6 ⟨.bl (!c),H1,I1,rfl,q1⟩)
noncomputable def tIf (t:TT) (ta tb:TE):TE:=fun σ H Q=>t σ H fun c H1=>if c=true then ta σ H1 Q else tb σ H1 Q
theorem zcj {c:Expr} (hc:PT X c tA) (ha:PE X a ta) (hb:PE X b tb):PE X (.IfExp c a b pos) (tIf tA ta tb):=by
 intro mO s σ H Q I h;refine wpAny_IfExp (thn #[VY] fun d s1 ⟨H1,I1,q1⟩=>?_);cases d with
 | true=>exact ha mO s1 σ H1 Q I1 q1
 | false=>exact hb mO s1 σ H1 Q I1 q1
end
noncomputable def mS (K:af) (H:Hp) (a:Addr) (xs:List V):Prop :=
 Rd H a #[Sr] \/
  ∃ (o:Obj) (mT:Array Value) (n:Nat),K.lookup a=some o/\o.cls = .type "list"/\o.dict=none/\o.data = .seq mT n/\mT.size<=sizeLine/\zM xs mT.toList
noncomputable def m7 (K:af) (H:Hp) (a:Addr) (xs:List V):Prop :=
 Rd H a #[Sc] \/
  ∃ (o:Obj) (mT:Array Value) (n:Nat),K.lookup a=some o/\o.cls = .type "tuple"/\o.data = .seq mT n/\mT.size<=sizeLine/\zM xs mT.toList
noncomputable def zqF:Value->Option V
 | .none=>some .non
 | .bool b=>some (.bl b)
 | .int i _=>some #[Xk]
 | .str x _=>some (.str x)
 | .bytes b _=>some (.byt b)
 | .float b _=>some (.flt b)
 | .ref a=>some #[RC]
 | .type n=>some (.ty n)
 | _=>none
theorem RelV.abs {x:V} {u:Value} (r:RelV x u):zqF u=some x:=by
 cases x with
 | non=>cases r; rfl
 | bl _=>cases r; rfl
 | int _=>obtain⟨t,rfl⟩:=r; rfl
 | str _=>obtain⟨t,rfl⟩:=r; rfl
 | byt _=>obtain⟨t,rfl⟩:=r; rfl
 | flt _=>obtain⟨t,rfl⟩:=r; rfl
 | ref _=>cases r; rfl
 | ty _=>cases r; rfl
theorem RelV.inj {x:V} {u:Value} (r:RelV x u) (q:RelV y u):x=y:=aO (r.abs.symm.trans q.abs)
theorem zM.inj:∀ {xs ys:List V} {us:List Value},zM xs us->zM ys us->xs=ys
 | _,_,_,.nil,.nil=>rfl
 | _,_,_,.cons r t,.cons r' t'=>by rw [r.inj r',zM.inj t t']
section
variable {X:Cx} {mO:List (Addr×Obj)} {σ:St} {H:Hp} {s:Shared} {a:Addr} {xs ys:List V}
theorem mS.of (h:H a=some #[Sr]):mS K H a xs:=.inl (.inl h)
theorem m7.of (h:H a=some #[Sc]):m7 K H a xs:=.inl (.inl h)
theorem Inv.list (I:Inv X mO σ H s) (h:mS X.K H a xs):∃ mT:List Value,zM xs mT/\PlainL s.heap a mT.toArray/\xs.length<=sizeLine:=by
 rcases h with h | ⟨o,mT,n,hk,hc,hd,hs,hz,r⟩
 ·obtain⟨z,mT,n,r,e⟩:=h.ok I.hok;exact⟨mT,r,⟨_,n,e,rfl,rfl,rfl⟩,z⟩
 ·refine⟨mT.toList,r,⟨o,n,I.kIn a o hk,hc,hd,by simpa using hs⟩,?_⟩;have e:=r.length;simp only [aC] at e;lia
theorem Inv.tuple (I:Inv X mO σ H s) (h:m7 X.K H a xs):∃ mT:List Value,zM xs mT/\IsTup s.heap a mT.toArray/\xs.length<=sizeLine:=by
 rcases h with h | ⟨o,mT,n,hk,hc,hs,hz,r⟩
 ·obtain⟨z,mT,r,p⟩:=h.ok I.hok;exact⟨mT,r,p,z⟩
 ·refine⟨mT.toList,r,⟨o,I.kIn a o hk,hc,n,by simpa using hs⟩,?_⟩;have e:=r.length;simp only [aC] at e;lia
theorem Inv.Li (I:Inv X mO σ H s) (h:mS X.K H a xs) (h':mS X.K H a ys):xs=ys:=by
 obtain⟨mT,r,⟨o,n,e,_,_,d⟩,_⟩:=I.list h;obtain⟨its',r',⟨o',n',e',_,_,d'⟩,_⟩:=I.list h';rw [e] at e'; cases e';rw [d] at d';injection d' with d1 _
 have:mT=its':=by simpa using congrArg mB d1
 subst this;exact r.inj r'
theorem Inv.LF (I:Inv X mO σ H s) (h:m7 X.K H a xs) (h':m7 X.K H a ys):xs=ys:=by
 obtain⟨mT,r,⟨o,e,_,n,d⟩,_⟩:=I.tuple h;obtain⟨its',r',⟨o',e',_,n',d'⟩,_⟩:=I.tuple h';rw [e] at e'; cases e';rw [d] at d';injection d' with d1 _
 have:mT=its':=by simpa using congrArg mB d1
 subst this;exact r.inj r'
end
abbrev Cx.OK (X:Cx) (E:Value->Shared->Prop):Cx:={ X with xe:=E }
abbrev Cx.nox (X:Cx):Cx:=X.OK fun _ _=>False
theorem Cx.Ok.OK (ok:X.Ok) (E:Value->Shared->Prop):(X.OK E).Ok :=
 ⟨ok.mod,ok.kind,ok.glob,ok.blt,ok.above,ok.inj,ok.has,ok.cab,ok.hd,ok.frames,ok.stk,ok.exf,ok.bs,ok.bsz,ok.Qi,ok.QD,ok.NO,ok.frf⟩
theorem Cx.Ok.KL {E:Value->Shared->Prop} (ok:(X.OK E).Ok):X.Ok :=
 ⟨ok.mod,ok.kind,ok.glob,ok.blt,ok.above,ok.inj,ok.has,ok.cab,ok.hd,ok.frames,ok.stk,ok.exf,ok.bs,ok.bsz,ok.Qi,ok.QD,ok.NO,ok.frf⟩
section
variable {X:Cx} {mO:List (Addr×Obj)} {σ:St} {H:Hp} {s:Shared} {E:Value->Shared->Prop}
theorem Inv.OK (I:Inv X mO σ H s) (E:Value->Shared->Prop):Inv (X.OK E) mO σ H s:=⟨I.ok.OK E,I.os,I.bare,I.base,I.loc,I.cell,I.free,I.KS,I.pin,I.hok,I.len⟩
theorem Inv.KL (I:Inv (X.OK E) mO σ H s):Inv X mO σ H s:=⟨I.ok.KL,I.os,I.bare,I.base,I.loc,I.cell,I.free,I.KS,I.pin,I.hok,I.len⟩
theorem SP.KL {D:Ends} {f:Flow} (h:SP (X.OK E) mO D f s'):SP X mO D f s':=by
 cases f with
 | next=>obtain⟨σ',H',I,q⟩:=h; exact⟨σ',H',I.KL,q⟩
 | brk=>obtain⟨σ',H',I,q⟩:=h; exact⟨σ',H',I.KL,q⟩
 | cont=>obtain⟨σ',H',I,q⟩:=h; exact⟨σ',H',I.KL,q⟩
 | ret u=>obtain⟨v,σ',H',I,r,q⟩:=h; exact⟨v,σ',H',I.KL,r,q⟩
theorem PSs.nox {st:List Stmt} {t:TS} (h:PSs X.nox st t):PSs X st t:=fun mO s σ H D I hw =>
 bR (h mO s σ H D (I.OK _) hw) (fun _ _ q=>q.KL) fun _ _ z=>bV z
end
section
variable {X:Cx} {st:Stmt} {rest:List Stmt} {t u:TS} {e:Expr} {te:TE} {pos:Pos}
noncomputable def zpZ:TS:=fun D σ H=>D.nx σ H
noncomputable def zaE (t u:TS):TS:=fun D σ H=>t { D with nx:=u D } σ H
theorem zQ:PSs X [] zpZ:=fun _ _ σ H _ I h=>eP ⟨σ,H,I,h⟩
theorem ze (h1:PS X st t) (h2:PSs X rest u):PSs X (st :: rest) (zaE t u):=by
 intro mO s σ H D I h;refine iL (thn (h1 mO s σ H { D with nx:=u D } I h) fun f s1 q=>?_);cases f with
 | next =>
  obtain⟨σ',H',I',q⟩:=q;exact h2 mO s1 σ' H' D I' q
 | ret v=>exact q
 | brk=>exact q
 | cont=>exact q
theorem zj (h1:PS X st t):PSs X [st] t:=by
 intro mO s σ H D I h;refine iL (thn (h1 mO s σ H D I h) fun f s1 q=>?_);cases f with
 | next=>exact eP q
 | ret v=>exact q
 | brk=>exact q
 | cont=>exact q
theorem Inv.quiet {σ:St} (I:Inv X mO σ H s):interactive X.env=false:=by simp [interactive,I.ok.kind]
noncomputable def zp0 (te:TE):TS:=fun D σ H=>te σ H fun _ H1=>D.nx σ H1
theorem zaN (he:PE X e te) (hs:swapsWith e none pos.line X.env=pure false:=by rfl):PS X (.Expr e pos) (zp0 te):=by
 intro mO s σ H D I h;exact wpAny_Expr_any (thn #[KM] fun v s1 ⟨x,H1,I1,r1,q1⟩=>⟨σ,H1,I1,q1⟩) I.quiet hs
noncomputable def zqG (te:TE):TS:=fun D σ H=>te σ H D.rt
theorem zH (he:PE X e te):PS X (.Return (some e) pos) (zqG te):=by
 intro mO s σ H D I h;exact wpAny_Return_some (thn #[KM] fun v s1 ⟨x,H1,I1,r1,q1⟩=>⟨x,σ,H1,I1,r1,q1⟩)
noncomputable def zp1 (c:TT) (t u:TS):TS:=fun D σ H=>c σ H fun b H1=>if b=true then t D σ H1 else u D σ H1
theorem zam {c:Expr} {a b:List Stmt} {tc:TT} (hc:PT X c tc) (ha:PSs X a t) (hb:PSs X b u):PS X (.If c a b pos) (zp1 tc t u):=by
 intro mO s σ H D I h;refine wpAny_If (thn #[VY] fun d s1 ⟨H1,I1,q1⟩=>?_);cases d with
 | true=>exact ha mO s1 σ H1 D I1 q1
 | false=>exact hb mO s1 σ H1 D I1 q1
noncomputable def zoY:TS:=fun _ _ _=>False
theorem zko {sts:List Stmt}:PSs X sts zoY:=fun _ _ _ _ _ _ h=>h.elim
end
abbrev TG:=V->St->Hp->(St->Hp->Prop)->Prop
abbrev TGs:=List V->St->Hp->(St->Hp->Prop)->Prop
noncomputable def PG (X:Cx) (target:Expr) (t:TG):Prop :=
 ∀ (mO:List (Addr×Obj)) (s:Shared) (σ:St) (H:Hp) (v:V) (u:Value) (Q:St->Hp->Prop),Inv X mO σ H s->RelV v u->t v σ H Q ->
  wpAny #[on] X.A (assign target X.env u) (fun _ s'=>∃ σ' H',Inv X mO σ' H' s'/\Q σ' H') X.xe s
noncomputable def PGs (X:Cx) (ts:List Expr) (t:TGs):Prop :=
 ∀ (mO:List (Addr×Obj)) (s:Shared) (σ:St) (H:Hp) (vs:List V) (us:List Value) (Q:St->Hp->Prop),Inv X mO σ H s->zM vs us->t vs σ H Q ->
  wpAny #[on] X.A (assignInOrder ((assignEach ts X.env).map (·.2)) us) (fun _ s'=>∃ σ' H',Inv X mO σ' H' s'/\Q σ' H') X.xe s
abbrev zoZ:=V->V->V->Hp->(Hp->Prop)->Prop
noncomputable def zp2 (X:Cx) (t:zoZ):Prop :=
 ∀ (mO:List (Addr×Obj)) (s:Shared) (σ:St) (H:Hp) (o i v:V) (ov iv u:Value) (Q:Hp->Prop),Inv X mO σ H s->RelV o ov->RelV i iv->RelV v u->t o i v H Q ->
  wpAny #[on] X.A (setItem ov iv u) (fun _ s'=>∃ H',Inv X mO σ H' s'/\Q H') X.xe s
abbrev TIp:=V->V->Hp->VK->Prop
noncomputable def PIp (X:Cx) (op:Operator) (t:TIp):Prop :=
 ∀ (mO:List (Addr×Obj)) (s:Shared) (σ:St) (H:Hp) (x y:V) (v u:Value) (Q:VK),Inv X mO σ H s->RelV x v->RelV y u->t x y H Q ->
  wpAny #[on] X.A (inplaceOp op v u) #[P3] X.xe s
section
variable {X:Cx} {pos:Pos}
noncomputable def zaR (i:Nat):TG:=fun v σ H Q=>Q (σ.set i #[Vp]) H
theorem zm {i:Nat} {x:Str} (hN:X.N.Nodup) (hi:X.N[i]? = some x) (hx:Loc X.env.scope x) (hf:X.fn x=true\/X.env.scope.names.lookup x=some .local:=by first | exact .inl rfl | exact .inr rfl | assumption):PG X #[Us] (zaR i):=by
 intro mO s σ H v u Q I r h;exact wpAny_assign_Name (zci I hN hi hx r (fun s' I'=>⟨_,H,I',h⟩) hf)
noncomputable def zkp:TGs:=fun vs σ H Q=>vs = []/\Q σ H
noncomputable def zdm (t:TG) (u:TGs):TGs:=fun vs σ H Q=>∃ v r,vs=v :: r/\t v σ H fun σ' H'=>u r σ' H' Q
theorem zaf:PGs X [] zkp:=by
 intro mO s σ H vs us Q I r h;obtain⟨e,h⟩:=h;subst e;cases r;exact assignInOrder_nil ⟨σ,H,I,h⟩
theorem zt {e:Expr} {es:List Expr} {t:TG} {u:TGs} (h1:PG X e t) (h2:PGs X es u)
  (hs:(assignEach (e :: es) X.env).map (·.2)=assign e X.env :: #[S4].map (·.2):=by rfl):PGs X (e :: es) (zdm t u):=by
 intro mO s σ H vs us Q I r h;obtain⟨v,vr,e1,h⟩:=h;subst e1;cases r with
 | cons r rr =>
  rw [hs];refine assignInOrder_cons (thn (h1 mO s σ H _ _ _ I r h) fun _ s1 ⟨σ1,H1,I1,q1⟩=>?_);exact h2 mO s1 σ1 H1 _ _ Q I1 rr q1
noncomputable def ziA (K:af) (n:Nat) (t:TGs):TG:=fun v σ H Q=>∃ a xs,v = .ref a/\m7 K H a xs/\xs.length=n/\t xs σ H Q
theorem zbo {es:List Expr} {k:Nat} {t:TGs} {n:Nat} (hc:X.calm=true) (h:PGs X es t)
  (hn:#[S4].length=n:=by rfl) (pA:#[S4].findIdx? (·.1)=none:=by rfl):PG X #[Uj] (ziA X.K n t):=by
 intro mO s σ H v u Q I r hw;obtain⟨a,xs,e1,hq,hl,hw⟩:=hw;subst e1;cases r;obtain⟨mT,rv,ht,hz⟩:=I.tuple hq;refine assign_Tuple_tuple #[R0] ht (by simp [hn,<- hl,rv.length]) pA fun h' hx=>?_
 have I1:Inv X mO σ H { s with heap:=h' }:=I.kept (t':=s.toks) fun b o e=>hx b o (aQ (aG e)) e
 exact h mO _ σ H xs _ Q I1 (by simpa using rv) hw
noncomputable def zqH (to ti:TE) (t:zoZ):TG:=fun v σ H Q=>to σ H fun o H1=>ti σ H1 fun i H2=>t o i v H2 fun H3=>Q σ H3
theorem zgD {o i:Expr} {to ti:TE} {t:zoZ} (ho:PE X o to) (hi:PE X i ti) (hs:zp2 X t)
  (ha:∀ v,assign (.Subscript o i pos) X.env v=(do
   let ov <- holding [v] #[WN]
   let iv <- holding [v,ov] (eval i X.env)
   standAt pos
   holding [v,ov,iv] (setItem ov iv v)
   release [v,ov,iv] []):=by intro _; rfl):PG X (.Subscript o i pos) (zqH to ti t):=by
 intro mO s σ H v u Q I r h;rw [ha];refine aa (bQ (thn #[VW] fun ov s1 ⟨x,H1,I1,r1,q1⟩=>?_));refine aa (bQ (thn (hi mO s1 σ H1 _ I1 q1) fun iv s2 ⟨y,H2,I2,r2,q2⟩=>?_));refine aa (di (aa (bQ (thn (hs mO s2 σ H2 x y v ov iv u _ I2 r1 r2 r q2) fun _ s3 ⟨H3,I3,q3⟩=>?_))));exact wpAny_release ⟨σ,H3,I3,q3⟩
noncomputable def zfM (te:TE) (g:TG):TS:=fun D σ H=>te σ H fun x H1=>g x σ H1 D.nx
theorem zbh {tg e:Expr} {te:TE} {g:TG} (he:PE X e te) (hg:PG X tg g) (hs:swapsWithSole [tg] e pos.line X.env=pure false:=by rfl) (hw:swappedStores [tg] e X.env=pure none:=by rfl)
  (h1:(assignEach [tg] X.env).map (·.2) = [assign tg X.env]:=by rfl):PS X (.Assign [tg] e pos) (zfM te g):=by
 intro mO s σ H D I h;refine wpAny_Assign_stores (thn #[KM] fun v s1 ⟨x,H1,I1,r1,q1⟩=>?_) hs hw;rw [h1];exact thn (hg mO s1 σ H1 x v _ I1 r1 q1) fun _ s2 q=>q
theorem zq {i:Nat} {x:Str} {e:Expr} {te:TE} {pos':Pos} (hN:X.N.Nodup) (hi:X.N[i]? = some x) (hx:Loc X.env.scope x) (he:PE X e te) (hs:swapsWith e #[Xm] pos.line X.env=pure false:=by rfl) (hf:X.fn x=true\/X.env.scope.names.lookup x=some .local:=by first | exact .inl rfl | exact .inr rfl | assumption) :
  PS X (.Assign [.Name x pos'] e pos) (zfM te (zaR i)):=by
 intro mO s σ H D I h;refine wpAny_Assign_Name (thn #[KM] fun v s1 ⟨y,H1,I1,r1,q1⟩=>?_) hs;exact zci I1 hN hi hx r1 (fun s2 I2=>⟨_,H1,I2,q1⟩) hf
noncomputable def zqI (i:Nat) (te:TE) (ti:TIp):TS:=fun D σ H=>∃ x,σ[i]? = some (some x)/\te σ H fun y H1=>ti x y H1 fun z H2=>D.nx (σ.set i (some z)) H2
theorem zo0 {i:Nat} {x:Str} {e:Expr} {te:TE} {op:Operator} {ti:TIp} {pos':Pos} (hN:X.N.Nodup) (hi:X.N[i]? = some x) (hx:Loc X.env.scope x) (he:PE X e te) (ho:PIp X op ti) (hf:X.fn x=true\/X.env.scope.names.lookup x=some .local:=by first | exact .inl rfl | exact .inr rfl | assumption) :
  PS X (.AugAssign #[Sm] op e pos) (zqI i te ti):=by
 intro mO s σ H D I h;obtain⟨v,e1,h⟩:=h;obtain⟨m,hn,hl⟩:=I.loc;have vis:Vis X.env.scope x:=by rcases hx with k | k; exact .inl k; exact .inr (.inl k)
 obtain⟨u,r,l⟩:=hl i x v hi e1 vis;refine wpAny_AugAssign_Name ?_;have go:wpAny #[on] X.A #[Vr] (fun w s₂=>wpAny #[on] X.A (inplaceOp op u w) (fun r s₃=>wpAny #[on] X.A (storeName X.env x r) (fun _=>SP X mO D .next) X.xe s₃) X.xe s₂) X.xe s:=by
  refine thn #[KM] fun w s1 ⟨y,H1,I1,r1,q1⟩=>?_
  refine thn (ho mO s1 σ H1 v y u w _ I1 r r1 q1) fun z s2 ⟨zv,H2,I2,r2,q2⟩=>?_
  exact zci I2 hN hi hx r2 (fun s3 I3=>⟨_,H2,I3,q2⟩) hf
 rcases l with ⟨hk,hm⟩ | ⟨hk,c,hc,p8⟩
 ·exact jH I.ok.kind hk hn hm go
 ·rcases hk with hk | hk
  ·exact j2 I.ok.kind hk hc p8 go
  ·rcases hx with k | k
   ·have:X.env.scope.names.lookup x=some .free:=hk;rw [k] at this; cases this
   ·have:X.env.scope.names.lookup x=some .free:=hk;rw [k] at this; cases this
noncomputable def zlU (c:TT) (tb:TS):TS:=fun D σ H=>∃ W:Nat->St->Hp->Prop,(∃ m,W m σ H)/\∀ m σ H,W m σ H ->
 c σ H fun b H1=>if b=true then ∃ N:St->Hp->Prop,(∀ σ' H',N σ' H'->∃ m',m' < m/\W m' σ' H')/\tb { D with nx:=N,ct:=N,bk:=D.nx } σ H1 else D.nx σ H1
theorem zlV {c:Expr} {body:List Stmt} {tc:TT} {tb:TS} (hp:PassesOwn #[on] X.A X.env X.xe) (hc:PT X c tc) (hb:PSs X body tb):PS X (.While c body [] pos) (zlU tc tb):=by
 intro mO s σ H D I h;obtain⟨W,⟨m0,w0⟩,turn⟩:=h;refine wpAny_While (codeAny_whileLoop (fun n s'=>∃ σ' H',Inv X mO σ' H' s'/\W n σ' H') ?_ m0 ⟨σ,H,I,w0⟩);rintro n s1 ⟨σ1,H1,I1,w1⟩;refine dP hp (thn (hc mO s1 σ1 H1 _ I1 (turn n σ1 H1 w1)) fun b s2 ⟨H2,I2,q2⟩=>?_);cases b with
 | true =>
  obtain⟨N,hN,q2⟩:=q2;rw [if_pos rfl];refine dP hp (thn (hb mO s2 σ1 H2 _ I2 q2) fun f s3 q3=>?_);cases f with
  | next =>
   obtain⟨σ3,H3,I3,n3⟩:=q3;obtain⟨m',hm,w3⟩:=hN σ3 H3 n3;exact⟨m',hm,σ3,H3,I3,w3⟩
  | cont =>
   obtain⟨σ3,H3,I3,n3⟩:=q3;obtain⟨m',hm,w3⟩:=hN σ3 H3 n3;exact⟨m',hm,σ3,H3,I3,w3⟩
  | brk=>exact q3
  | ret v=>exact q3
 | false =>
  rw [if_neg aJ];exact eP ⟨σ1,H2,I2,q2⟩
end
structure It where
 go:Nat->Hp->Prop
 yld:Nat->Hp->V->Hp->Prop
 stop:Nat->Hp->Prop
noncomputable def zbL (X:Cx) (mO:List (Addr×Obj)) (H:Hp) (b:Addr):Prop :=
 H b=none/\b≠X.env.locals/\b∉X.fs/\(b∈X.ex\/X.s₀.heap.objs.size<=b)/\(∀ x c,X.env.cells.lookup x=some c->c≠b)/\∀ p∈X.pn++mO,p.1≠b
theorem Inv.NP {σ:St} {b:Addr} (I:Inv X mO σ H s) (hb:s.heap.objs.size<=b) (hn:H' b=none):zbL X mO H' b:=by
 refine⟨hn,eE (aU I.lt hb),I.Q8 hb,.inr (bq I.sz hb),fun x c e z=>?_,fun p hp z=>?_⟩
 ·obtain⟨v,q⟩:=I.cell x c e;exact absurd (aU q.lt (by rw [z]; exact hb)) (cm _)
 ·exact absurd (aU (aG (I.pin p hp).1) (by rw [z]; exact hb)) (cm _)
structure Turn (P:Program) (w:World) (K:af) (tg:Expr) (J:It) (fp:List Addr) (it:Addr) (tn:Nat->Heap->Prop):Prop where
 mem:it∈fp
 obj:∀ i h,tn i h->∀ b∈fp,∃ o,h.get? b=some o/\∀ v,o.data≠.cell v
 keep:∀ i h h',tn i h->(∀ b∈fp,∀ o,h.get? b=some o->h'.get? b=some o)->tn i h'
 item:∀ (X:Cx),X.prog=P->X.w=w->X.K=K->X.calm=true->∀ (i:Nat) (mO:List (Addr×Obj)) (s:Shared) (σ:St) (H:Hp) (E:Value->Shared->Prop),Inv X mO σ H s->(∀ b∈fp,zbL X mO H b)->tn i s.heap->J.go i H ->
  wpAny #[UF] X.A #[Tg] (fun r s1=>∃ u,r=some u /\
   wpAny #[UF] X.A #[Yi] (fun _ s2=>∃ x H',Inv X mO σ H' s2/\RelV x u/\J.yld i H x H'/\tn (i+1) s2.heap/\∀ b∈fp,H' b=none) E s1) E s
 done:∀ (X:Cx),X.prog=P->X.w=w->X.K=K->X.calm=true->∀ (i:Nat) (mO:List (Addr×Obj)) (s:Shared) (σ:St) (H:Hp) (E:Value->Shared->Prop),Inv X mO σ H s->(∀ b∈fp,zbL X mO H b)->tn i s.heap->J.stop i H ->
  wpAny #[UF] X.A #[Tg] (fun r s1=>r=none/\Inv X mO σ H s1) E s
 self:∀ (A:Around) (i:Nat) (s:Shared) (Q:Value->Shared->Prop) (E:Value->Shared->Prop),tn i s.heap->Q #[Ry] s->wpAny #[UF] A (pyIter #[Ry]) Q E s
abbrev TI:=St->Hp->(It->Hp->Prop)->Prop
noncomputable def PIE (X:Cx) (mO:List (Addr×Obj)) (σ:St) (tg:Expr) (R:It->Hp->Prop) (itv:Value) (s2:Shared):Prop :=
 ∃ (it:Addr) (fp:List Addr) (tn:Nat->Heap->Prop) (J:It) (H':Hp),itv = .ref it/\Inv X mO σ H' s2/\Turn X.prog X.w X.K tg J fp it tn/\tn 0 s2.heap/\(∀ b∈fp,zbL X mO H' b)/\R J H'
noncomputable def PI (X:Cx) (tg iter:Expr) (wi:TI):Prop :=
 ∀ (mO:List (Addr×Obj)) (s:Shared) (σ:St) (H:Hp) (R:It->Hp->Prop),Inv X mO σ H s->wi σ H R ->
  wpAny #[on] X.A (eval iter X.env) (fun v s1=>wpAny #[on] X.A (pyIter v) (PIE X mO σ tg R) X.xe s1) X.xe s
theorem zf1 {E:Value->Shared->Prop} {u:Value} {o:Obj} {n:String} {vs:Array Value} {Q:Unit->Shared->Prop} (ho:s.heap.get? it=some o) (hc:o.cls = .type n) (hd:o.data = .fields vs)
  (hn:["enumerate","zip","dict_itemiterator","dict_reverseitemiterator","odict_iterator","itertools.zip_longest","itertools.pairwise"].contains n=false) (hQ:Q () s):wpAny M A #[Yi] Q E s:=by
 unfold letOwnedTupleGo;cases tg <;> first
  | exact ag hQ
  | (cases u <;> first
    | exact ag hQ
    | (refine aa (lG ho ?_)
       rw [hc,hd];show wpAny M A (if (["enumerate","zip","dict_itemiterator","dict_reverseitemiterator","odict_iterator","itertools.zip_longest","itertools.pairwise"].contains n && vs[0]? == some (rawInt _))=true then _ else _) Q E s;rw [if_neg (by intro h; rw [hn,lU] at h; cases h)];exact ag hQ))
noncomputable def Itl (K:af) (a:Addr):It :=
 ⟨fun i H=>∃ xs x,mS K H a xs/\xs[i]? = some x,fun i H x H'=>H'=H/\∀ xs,mS K H a xs->xs[i]? = some x,fun i H=>∃ xs,mS K H a xs/\xs.length<=i⟩
noncomputable def Itt (K:af) (a:Addr):It :=
 ⟨fun i H=>∃ xs x,m7 K H a xs/\xs[i]? = some x,fun i H x H'=>H'=H/\∀ xs,m7 K H a xs->xs[i]? = some x,fun i H=>∃ xs,m7 K H a xs/\xs.length<=i⟩
noncomputable def Itr (lo:Int) (n:Nat):It:=⟨fun i _=>i < n,fun i H x H'=>H'=H/\x = .int (lo+i),fun i _=>n<=i⟩
theorem zf2 {P:Program} (a it:Addr):Turn P w K tg #[WG] [it] it (fun i h=>h.IsListIter it a i) where
 mem:=by simp
 obj:=fun i h st b hb=>by
  have e:b=it:=by simpa using hb
  subst e;obtain⟨o,e,c,d⟩:=st;exact⟨o,e,fun v z=>by rw [d] at z; cases z⟩
 keep:=fun i h h' st k=>st.at fun o e=>k it #[M] o e
 item:=by
  intro X hP hw hK hc i mO s σ H E I hf st hg;subst hP hw hK;obtain⟨xs,x,hq,hx⟩:=hg;obtain⟨mT,rv,p,hz⟩:=I.list hq;obtain⟨u,hu,ru⟩:=rv.get hx;obtain⟨f0,f1,f2,f3,f4,f5⟩:=hf it #[M];refine wpAny_pyNext_list_item st p.isList (x:=u) (by simpa using hu) fun h' mW sb=>?_
  have I1:Inv X mO σ H { s with heap:=h' }:=I.turned (t':=s.toks) (fun b o hb e=>(sb.2 b hb).trans e) f0 f1 f3 f4 f5;obtain⟨o,e,c,d⟩:=id mW;exact⟨u,rfl,zf1 (s:={ s with heap:=h' }) e c d #[D] ⟨x,H,I1,ru,⟨rfl,fun ys hy=>by rw [I.Li hy hq]; exact hx⟩,mW,fun b hb=>(hf b hb).1⟩⟩
 done:=by
  intro X hP hw hK hc i mO s σ H E I hf st hg;subst hP hw hK;obtain⟨xs,hq,hx⟩:=hg;obtain⟨mT,rv,p,hz⟩:=I.list hq;obtain⟨f0,f1,f2,f3,f4,f5⟩:=hf it #[M];have hl:=rv.length;exact wpAny_pyNext_list_end #[R0] st p.isList (by simp; lia) fun h' eb=>#[ut]
 self:=fun _ _ _ _ _ st h=>wpAny_pyIter_listiter st h
theorem ziB {P:Program} (a it:Addr):Turn P w K tg (Itt K a) [it] it (fun i h=>h.IsTupleIter it a i) where
 mem:=by simp
 obj:=fun i h st b hb=>by
  have e:b=it:=by simpa using hb
  subst e;obtain⟨o,e,c,d⟩:=st;exact⟨o,e,fun v z=>by rw [d] at z; cases z⟩
 keep:=fun i h h' st k=>st.at fun o e=>k it #[M] o e
 item:=by
  intro X hP hw hK hc i mO s σ H E I hf st hg;subst hP hw hK;obtain⟨xs,x,hq,hx⟩:=hg;obtain⟨mT,rv,p,hz⟩:=I.tuple hq;obtain⟨u,hu,ru⟩:=rv.get hx;obtain⟨f0,f1,f2,f3,f4,f5⟩:=hf it #[M];refine wpAny_pyNext_tuple_item st (show s.heap.IsTuple a mT.toArray from p) (x:=u) (by simpa using hu) fun h' mW sb=>?_
  have I1:Inv X mO σ H { s with heap:=h' }:=I.turned (t':=s.toks) (fun b o hb e=>(sb.2 b hb).trans e) f0 f1 f3 f4 f5;obtain⟨o,e,c,d⟩:=id mW;exact⟨u,rfl,zf1 (s:={ s with heap:=h' }) e c d #[D] ⟨x,H,I1,ru,⟨rfl,fun ys hy=>by rw [I.LF hy hq]; exact hx⟩,mW,fun b hb=>(hf b hb).1⟩⟩
 done:=by
  intro X hP hw hK hc i mO s σ H E I hf st hg;subst hP hw hK;obtain⟨xs,hq,hx⟩:=hg;obtain⟨mT,rv,p,hz⟩:=I.tuple hq;obtain⟨f0,f1,f2,f3,f4,f5⟩:=hf it #[M];have hl:=rv.length;exact wpAny_pyNext_tuple_end #[R0] st (show s.heap.IsTuple a mT.toArray from p) (by simp; lia) fun h' eb=>#[ut]
 self:=fun _ _ _ _ _ st h=>wpAny_pyIter_tupleiter st h
theorem ziC {P:Program} (it:Addr) (lo:Int) (n:Nat):Turn P w K tg (Itr lo n) [it] it (fun i h=>IsRangeIter h it (lo+(i:Nat)*1) ((n:Int) - (i:Nat)) 1) where
 mem:=by simp
 obj:=fun i h st b hb=>by
  have e:b=it:=by simpa using hb
  subst e;exact⟨_,st,fun v z=>by
   have z':lb _=Data.cell v:=z;cases z'⟩
 keep:=fun i h h' st k=>k it #[M] _ st
 item:=by
  intro X hP hw hK hc i mO s σ H E I hf st hg;subst hP hw hK;obtain⟨f0,f1,f2,f3,f4,f5⟩:=hf it #[M];have W:=Walks.range (prog:=X.prog) (w:=X.w) #[R0] it lo 1 n;refine W.item i s _ _ hg st fun v h' tk hv mW kk=>?_
  obtain⟨t,rfl⟩:=hv;have I1:Inv X mO σ H { s with heap:=h',toks:=tk }:=I.turned (fun b o hb e=>kk b o (by simpa using hb) e) f0 f1 f3 f4 f5;refine⟨_,rfl,zf1 (s:={ s with heap:=h',toks:=tk }) (n:="range_iterator") mW rfl rfl #[D] ⟨.int (lo+i),H,I1,⟨t,?_⟩,⟨rfl,rfl⟩,mW,fun b hb=>(hf b hb).1⟩⟩;rw [Int.mul_one]
 done:=by
  intro X hP hw hK hc i mO s σ H E I hf st hg;subst hP hw hK;obtain⟨f0,f1,f2,f3,f4,f5⟩:=hf it #[M];exact wpAny_pyNext_range_end #[R0] st (by have:n<=i:=hg; lia) fun h' eb=>#[ut]
 self:=fun _ _ _ _ _ st h=>wpAny_pyIter_rangeiter st h
section
variable {X:Cx} {tg:Expr}
noncomputable def zp3 (K:af) (tl:TE):TI:=fun σ H R=>tl σ H fun x H1=>∃ a,x = .ref a/\(∃ xs,mS K H1 a xs)/\R #[WG] H1
theorem zat {l:Expr} {tl:TE} (hl:PE X l tl):PI X tg l (zp3 X.K tl):=by
 intro mO s σ H R I h;refine thn #[VX] fun v s1 ⟨x,H1,I1,r1,q1⟩=>?_
 obtain⟨a,e,⟨xs,hq⟩,q⟩:=q1;subst e;cases r1;obtain⟨mT,rv,p,hz⟩:=I1.list hq;refine iC p.isList ?_;refine⟨s1.heap.objs.size,[s1.heap.objs.size],_,_,H1,rfl,I1.kept (t':=s1.toks) fun b o e=>ai _ e,zf2 a _,⟨_,aD _ rfl,rfl,rfl⟩,fun b hb=>?_,q⟩;have e:b=s1.heap.objs.size:=by simpa using hb
 subst e;exact I1.NP (ah _) #[RU]
theorem zho {σ:St} {R:It->Hp->Prop} {E:Value->Shared->Prop} {lo hi:Int} {t u v:Tok} (I:Inv X mO σ H s) (h1:-(2 ^ 62)<=lo) (h2:lo < 2 ^ 62) (h3:-(2 ^ 62)<=hi) (h4:hi < 2 ^ 62)
  (q:R (Itr lo (hi - lo).toNat) H):wpAny #[on] X.A (pyIter #[t0]) (PIE X mO σ tg R) E { s with heap:=s.heap.push { cls:=.type "range",data:=.fields #[Rf] },toks:=tk }:=by
 refine wpAny_pyIter_range (IsRange.new ..) (small_one h1 h2 h3 h4) ?_;have I1:Inv X mO σ H { s with heap:=s.heap.push { cls:=.type "range",data:=.fields #[Rf] },toks:=tk }:=I.kept fun b o e=>ai _ e
 refine⟨(s.heap.push { cls:=.type "range",data:=.fields #[Rf] }).objs.size,[(s.heap.push { cls:=.type "range",data:=.fields #[Rf] }).objs.size],_,_,H,rfl,
  I1.kept (t':=tk) fun b o e=>ai _ e,ziC _ lo (hi - lo).toNat,?_,fun b hb=>?_,q⟩
 ·have e1:lo+((0:Nat):Int)*1=lo:=by simp
  have e2:(((hi - lo).toNat:Nat):Int) - ((0:Nat):Int)=Builtin.Range.rangeSize lo hi 1:=by rw [rangeSize_one]; split <;> lia
  show IsRangeIter _ _ (lo+((0:Nat):Int)*1) ((((hi - lo).toNat:Nat):Int) - ((0:Nat):Int)) 1;rw [e1,e2];exact aD _ rfl
 ·have e:b=(s.heap.push { cls:=.type "range",data:=.fields #[Rf] }).objs.size:=by simpa using hb
  subst e;exact I1.NP (ah _) #[RU]
noncomputable def zp4 (ta:TA):TI:=fun σ H R=>ta σ H fun vs H1=>∃ j:Int,vs = [.int j]/\-(2 ^ 62)<=j/\j < 2 ^ 62/\R (Itr 0 j.toNat) H1
noncomputable def zp5 (ta:TA):TI:=fun σ H R=>ta σ H fun vs H1=>∃ i j:Int,vs = [.int i,.int j]/\(-(2 ^ 62)<=i/\i < 2 ^ 62/\-(2 ^ 62)<=j/\j < 2 ^ 62)/\R (Itr i (j - i).toNat) H1
theorem zaK {a:Expr} {ta:TA} {p pos:Pos} (hg:Gl X "range") (hm:X.mg "range" = none) (ha:PA X [a] ta) (hs:starEach [a] X.env = [#[R7]]:=by rfl):PI X tg (.Call (.Name "range" p) [a] [] pos) (zp4 ta):=by
 intro mO s σ H R I h;refine Call_ (zcc I hg hm lH (bS (thn #[FM] fun us s1 ⟨vs,H1,I1,r1,q1⟩=>?_) hs rfl));obtain⟨j,e,q1,q2,q⟩:=q1;subst e;cases r1 with
 | cons r rr =>
  cases rr;obtain⟨t,rfl⟩:=r;exact call_range_1 (zho I1 #[O] #[O] q1 q2 (by simpa using q))
theorem zkq {a b:Expr} {ta:TA} {p pos:Pos} (hg:Gl X "range") (hm:X.mg "range" = none) (ha:PA X [a,b] ta) (hs:starEach [a,b] X.env = [#[R7],#[Re]]:=by rfl) (o7:starEach [b] X.env = [#[Re]]:=by rfl) :
  PI X tg (.Call (.Name "range" p) [a,b] [] pos) (zp5 ta):=by
 intro mO s σ H R I h;refine Call_ (zcc I hg hm lH (bS (thn #[FM] fun us s1 ⟨vs,H1,I1,r1,q1⟩=>?_) (by rw [hs,o7]) (by rw [o7]; rfl)));obtain⟨i,j,e,⟨q1,q2,q3,q4⟩,q⟩:=q1;subst e;cases r1 with
 | cons r rr =>
  cases rr with
  | cons r' rr =>
   cases rr;obtain⟨t,rfl⟩:=r;obtain⟨t',rfl⟩:=r';exact call_range_2 (zho I1 q1 q2 q3 q4 q)
noncomputable def zqJ (wi:TI) (g:TG) (tb:TS):TS:=fun D σ H=>wi σ H fun J H1=>∃ W:Nat->Nat->St->Hp->Prop,(∃ m,W 0 m σ H1)/\∀ i m σ H,W i m σ H ->
 (J.stop i H/\D.nx σ H)\/(J.go i H/\∃ N:St->Hp->Prop,(∀ σ' H',N σ' H'->∃ m',m' < m/\W (i+1) m' σ' H')/\∀ x H',J.yld i H x H'->g x σ H' fun σ2 H2=>tb { D with nx:=N,ct:=N,bk:=D.nx } σ2 H2)
noncomputable def zbM (fp:List Addr) (h:Heap):List (Addr×Obj):=fp.filterMap fun b=>(h.get? b).map fun o=>(b,o)
theorem zbp {b:Addr} {o:Obj} (hb:b∈fp) (e:h.get? b=some o):(b,o)∈zbM fp h:=ig.mpr ⟨b,hb,by rw [e]; rfl⟩
theorem zed {p:Addr×Obj} (hp:p∈zbM fp h):p.1∈fp/\h.get? p.1=some p.2:=by
 obtain⟨b,hb,e⟩:=ig.mp hp;cases q:h.get? b with
 | none=>rw [q] at e; cases e
 | some o =>
  rw [q] at e;have e':(b,o)=p:=aO e;subst e';exact⟨hb,q⟩
theorem Inv.pinned {σ:St} (I:Inv X mO σ H s) (hf:∀ b∈fp,zbL X mO H b) (ho:∀ b∈fp,∃ o,s.heap.get? b=some o/\∀ v,o.data≠.cell v):Inv X (mO++zbM fp s.heap) σ H s :=
 I.Mw fun p hp=>(aP.mp hp).elim (fun z=>I.pin p (ar _ z)) fun z=>by
  obtain⟨hb,e⟩:=zed z;obtain⟨f0,f1,f2,_⟩:=hf p.1 hb;obtain⟨o,e',d⟩:=ho p.1 hb;rw [e] at e'; cases e';exact⟨e,f0,f1,f2,d⟩
theorem Inv.M9 {pl:List (Addr×Obj)} {σ:St} (I:Inv X (mO++pl) σ H s):Inv X mO σ H s:=I.Mw fun p hp=>I.pin p #[VT]
theorem zbi {iter:Expr} {body:List Stmt} {wi:TI} {g:TG} {tb:TS} {pos:Pos} (hp:PassesOwn #[on] X.A X.env X.xe) (hc:X.calm=true) (hi:PI X tg iter wi) (hg:PG X tg g) (hb:PSs X body tb)
  (hs:∀ x,foldedSetIterable iter X.env x=pure x:=by intro _; rfl):PS X (.For tg iter body [] pos) (zqJ wi g tb):=by
 intro mO s σ H D I h;refine wpAny_For (thn #[Uv] fun v s1 h1=>thn h1 fun itv s2 h2=>?_) hs;obtain⟨it,fp,tn,J,H2,e,I2,T,nR,f2,W,⟨m0,w0⟩,turn⟩:=h2;subst e;have CY:∀ {H':Hp},(∀ b∈fp,H' b=none)->∀ b∈fp,zbL X mO H' b:=fun hn b hb=>⟨hn b hb,(f2 b hb).2⟩
 refine codeAny_forLoop_any (fun n s'=>∃ i σ' H',Inv X mO σ' H' s'/\tn i s'.heap/\(∀ b∈fp,H' b=none)/\W i n σ' H') ?_ m0 ⟨0,σ,H2,I2,nR,fun b hb=>(f2 b hb).1,w0⟩;rintro n s3 ⟨i,σ3,H3,I3,Bp,fr3,w3⟩;rcases turn i n σ3 H3 w3 with ⟨stop,qn⟩ | ⟨go,N,hN,step⟩
 ·refine dP hp (thn (T.done X rfl rfl rfl hc i mO s3 σ3 H3 X.xe I3 (CY fr3) Bp stop) fun r s4 ⟨hr,I4⟩=>?_);subst hr;exact eP ⟨σ3,H3,I4,qn⟩
 ·refine dP hp (thn (T.item X rfl rfl rfl hc i mO s3 σ3 H3 X.xe I3 (CY fr3) Bp go) fun r s4 ⟨u,hr,h4⟩=>?_);subst hr;refine dP hp (thn h4 fun _ s5 ⟨x,H5,I5,r5,y5,Bq,fr5⟩=>?_);have I5':=I5.pinned (CY fr5) (T.obj _ _ Bq);refine dP hp (thn (hg _ s5 σ3 H5 x u _ I5' r5 (step x H5 y5)) fun _ s6 ⟨σ6,H6,I6,q6⟩=>?_);refine dP hp (thn (hb _ s6 σ6 H6 _ I6 q6) fun f s7 q7=>?_);have again:∀ {σ7:St} {H7:Hp},Inv X (mO++zbM fp s5.heap) σ7 H7 s7->N σ7 H7->∃ m,m < n/\∃ i σ' H',Inv X mO σ' H' s7/\tn i s7.heap/\(∀ b∈fp,H' b=none)/\W i m σ' H':=fun {σ7 H7} I7 n7=>by
   obtain⟨m',hm,w7⟩:=hN σ7 H7 n7;refine⟨m',hm,i+1,σ7,H7,I7.M9,T.keep _ _ _ Bq fun b hb o e=>#[Xj].1,fun b hb=>?_,w7⟩;obtain⟨o,e,d⟩:=T.obj _ _ Bq b hb;exact #[Xj].2.1
  cases f with
  | next=>obtain⟨σ7,H7,I7,n7⟩:=q7; exact again I7 n7
  | cont=>obtain⟨σ7,H7,I7,n7⟩:=q7; exact again I7 n7
  | brk=>obtain⟨σ7,H7,I7,q7⟩:=q7; exact⟨σ7,H7,I7.M9,q7⟩
  | ret v=>obtain⟨x7,σ7,H7,I7,r7,q7⟩:=q7; exact⟨x7,σ7,H7,I7.M9,r7,q7⟩
end
theorem zlW {a:Addr} {xs:List V} {g:TG} {tb:TS} {D:Ends} {σ:St} (Pv:Nat->St->Hp->Prop) (h0:Pv 0 σ H) (hl:∀ i σ H,i<=xs.length->Pv i σ H->mS K H a xs)
  (hs:∀ i x σ H,xs[i]? = some x->Pv i σ H->g x σ H fun σ2 H2=>tb { D with nx:=Pv (i+1),ct:=Pv (i+1),bk:=D.nx } σ2 H2) (hd:∀ σ H,Pv xs.length σ H->D.nx σ H) :
  ∃ W:Nat->Nat->St->Hp->Prop,(∃ m,W 0 m σ H)/\∀ i m σ H,W i m σ H ->
   (#[WG].stop i H/\D.nx σ H)\/(#[WG].go i H/\∃ N:St->Hp->Prop,(∀ σ' H',N σ' H'->∃ m',m' < m/\W (i+1) m' σ' H')/\∀ x H',#[WG].yld i H x H'->g x σ H' fun σ2 H2=>tb { D with nx:=N,ct:=N,bk:=D.nx } σ2 H2):=by
 refine⟨fun i m σ H=>m=xs.length - i/\i<=xs.length/\Pv i σ H,⟨xs.length,#[M],aZ _,h0⟩,?_⟩;rintro i m σ H ⟨rfl,hi,p⟩;have q:=hl i σ H hi p;by_cases nC:i < xs.length
 ·refine .inr ⟨⟨xs,xs[i],q,by simp [nC]⟩,Pv (i+1),fun σ' H' p'=>⟨xs.length - (i+1),#[O],rfl,nC,p'⟩,fun x H' y=>?_⟩;obtain⟨e,y⟩:=y;subst e;exact hs i x σ _ (y xs q) p
 ·have e:i=xs.length:=by lia
  subst e;exact .inl ⟨⟨xs,q,ah _⟩,hd σ H p⟩
theorem znu {a:Addr} {xs:List V} {g:TG} {tb:TS} {D:Ends} {σ:St} (Pv:Nat->St->Hp->Prop) (h0:Pv 0 σ H) (hl:∀ i σ H,i<=xs.length->Pv i σ H->m7 K H a xs)
  (hs:∀ i x σ H,xs[i]? = some x->Pv i σ H->g x σ H fun σ2 H2=>tb { D with nx:=Pv (i+1),ct:=Pv (i+1),bk:=D.nx } σ2 H2) (hd:∀ σ H,Pv xs.length σ H->D.nx σ H) :
  ∃ W:Nat->Nat->St->Hp->Prop,(∃ m,W 0 m σ H)/\∀ i m σ H,W i m σ H ->
   ((Itt K a).stop i H/\D.nx σ H)\/((Itt K a).go i H/\∃ N:St->Hp->Prop,(∀ σ' H',N σ' H'->∃ m',m' < m/\W (i+1) m' σ' H')/\∀ x H',(Itt K a).yld i H x H'->g x σ H' fun σ2 H2=>tb { D with nx:=N,ct:=N,bk:=D.nx } σ2 H2):=by
 refine⟨fun i m σ H=>m=xs.length - i/\i<=xs.length/\Pv i σ H,⟨xs.length,#[M],aZ _,h0⟩,?_⟩;rintro i m σ H ⟨rfl,hi,p⟩;have q:=hl i σ H hi p;by_cases nC:i < xs.length
 ·refine .inr ⟨⟨xs,xs[i],q,by simp [nC]⟩,Pv (i+1),fun σ' H' p'=>⟨xs.length - (i+1),#[O],rfl,nC,p'⟩,fun x H' y=>?_⟩;obtain⟨e,y⟩:=y;subst e;exact hs i x σ _ (y xs q) p
 ·have e:i=xs.length:=by lia
  subst e;exact .inl ⟨⟨xs,q,ah _⟩,hd σ H p⟩
theorem zkr {lo:Int} {n:Nat} {g:TG} {tb:TS} {D:Ends} {σ:St} (Pv:Nat->St->Hp->Prop) (h0:Pv 0 σ H)
  (hs:∀ i σ H,i < n->Pv i σ H->g (.int (lo+i)) σ H fun σ2 H2=>tb { D with nx:=Pv (i+1),ct:=Pv (i+1),bk:=D.nx } σ2 H2) (hd:∀ σ H,Pv n σ H->D.nx σ H) :
  ∃ W:Nat->Nat->St->Hp->Prop,(∃ m,W 0 m σ H)/\∀ i m σ H,W i m σ H ->
   ((Itr lo n).stop i H/\D.nx σ H)\/((Itr lo n).go i H/\∃ N:St->Hp->Prop,(∀ σ' H',N σ' H'->∃ m',m' < m/\W (i+1) m' σ' H')/\∀ x H',(Itr lo n).yld i H x H'->g x σ H' fun σ2 H2=>tb { D with nx:=N,ct:=N,bk:=D.nx } σ2 H2):=by
 refine⟨fun i m σ H=>m=n - i/\i<=n/\Pv i σ H,#[TV],?_⟩;rintro i m σ H ⟨rfl,hi,p⟩;by_cases nC:i < n
 ·refine .inr ⟨nC,Pv (i+1),fun σ' H' p'=>⟨n - (i+1),#[O],rfl,nC,p'⟩,fun x H' y=>?_⟩;obtain⟨e,y⟩:=y;subst e y;exact hs i σ _ nC p
 ·have e:i=n:=by lia
  subst e;exact .inl ⟨ah _,hd σ H p⟩
theorem zlX {c:TT} {tb:TS} {D:Ends} {σ:St} (Pv:St->Hp->Prop) (μ:St->Hp->Nat) (h0:Pv σ H)
  (hs:∀ σ H,Pv σ H->c σ H fun b H1=>if b=true then tb { D with nx:=fun σ' H'=>Pv σ' H'/\μ σ' H' < μ σ H,ct:=fun σ' H'=>Pv σ' H'/\μ σ' H' < μ σ H,bk:=D.nx } σ H1 else D.nx σ H1)
  (mono:∀ σ H Q Q',(∀ b H1,Q b H1->Q' b H1)->c σ H Q->c σ H Q'):zlU c tb D σ H:=by
 refine⟨fun m σ H=>m=μ σ H/\Pv σ H,⟨_,rfl,h0⟩,?_⟩;rintro m σ H ⟨rfl,p⟩;refine mono σ H _ _ (fun b H1 q=>?_) (hs σ H p);cases b with
 | true=>exact⟨_,fun σ' H' ⟨p',l⟩=>⟨_,l,rfl,p'⟩,q⟩
 | false=>exact q
abbrev R2:=V->V->Hp->VK->Prop
noncomputable def OpR (X:Cx) (f:Value->Value->Sem Value) (r:R2):Prop :=
 ∀ (mO:List (Addr×Obj)) (s:Shared) (σ:St) (H:Hp) (x y:V) (v u:Value) (Q:VK),Inv X mO σ H s->RelV x v->RelV y u->r x y H Q ->
  wpAny #[on] X.A (f v u) #[P3] X.xe s
noncomputable def UnR (X:Cx) (f:Value->Sem Value) (r:V->Hp->VK->Prop):Prop :=
 ∀ (mO:List (Addr×Obj)) (s:Shared) (σ:St) (H:Hp) (x:V) (v:Value) (Q:VK),Inv X mO σ H s->RelV x v->r x H Q ->
  wpAny #[on] X.A (f v) #[P3] X.xe s
noncomputable def zbm (X:Cx) (f:Value) (r:List V->Hp->VK->Prop):Prop :=
 ∀ (mO:List (Addr×Obj)) (s:Shared) (σ:St) (H:Hp) (xs:List V) (us:List Value) (Q:VK),Inv X mO σ H s->zM xs us->r xs H Q ->
  wpAny #[on] X.A (call f us) #[P3] X.xe s
noncomputable def zqK (X:Cx) (r:V->Hp->(Bool->Hp->Prop)->Prop):Prop :=
 ∀ (mO:List (Addr×Obj)) (s:Shared) (σ:St) (H:Hp) (x:V) (v:Value) (Q:Bool->Hp->Prop),Inv X mO σ H s->RelV x v->r x H Q ->
  wpAny #[on] X.A (truthy v) #[WR] X.xe s
noncomputable def tOp (r:R2) (ta tb:TE):TE:=fun σ H Q=>ta σ H fun x H1=>tb σ H1 fun y H2=>r x y H2 Q
noncomputable def tUn (r:V->Hp->VK->Prop) (ta:TE):TE:=fun σ H Q=>ta σ H fun x H1=>r x H1 Q
noncomputable def rI (C:Int->Int->Prop) (g:Int->Int->V):R2:=fun x y H Q=>∃ i j,x = .int i/\y = .int j/\C i j/\Q (g i j) H
noncomputable def rI0 (g:Int->Int->V):R2:=fun x y H Q=>∃ i j,x = .int i/\y = .int j/\Q (g i j) H
noncomputable def rU (g:Int->V):V->Hp->VK->Prop:=fun x H Q=>∃ i,x = .int i/\Q (g i) H
section
variable {X:Cx} {a b c:Expr} {ta tb tc:TE} {pos:Pos}
theorem zo1 (ha:PE X a ta) (hb:PE X b tb) {σ:St} {R:V->V->Hp->Prop} (I:Inv X mO σ H s)
  (h:ta σ H fun x H1=>tb σ H1 fun y H2=>R x y H2) {Q:Value->Shared->Prop} {f:Value->Value->Sem Value}
  (hf:∀ v u s2 x y H2,Inv X mO σ H2 s2->RelV x v->RelV y u->R x y H2->wpAny #[on] X.A (f v u) Q X.xe s2) :
  wpAny #[on] X.A (eval a X.env) (fun v s₁=>wpAny #[on] X.A (eval b X.env) (fun u s₂=>wpAny #[on] X.A (f v u) Q X.xe s₂) X.xe s₁) X.xe s:=by
 refine thn #[GM] fun v s1 ⟨x,H1,I1,r1,q1⟩=>?_
 refine thn #[Tj] fun u s2 ⟨y,H2,I2,r2,q2⟩=>?_
 exact hf v u s2 x y H2 I2 r1 r2 q2
theorem zn {op:Operator} {r:R2} (ho:OpR X (binaryOp op) r) (ha:PE X a ta) (hb:PE X b tb):PE X (.BinOp a op b pos) #[XI]:=by
 intro mO s σ H Q I h;exact wpAny_BinOp (zo1 ha hb I h fun v u s2 x y H2 I2 rx ry q=>ho mO s2 σ H2 x y v u Q I2 rx ry q)
theorem zjl {op:UnaryOp} {r:V->Hp->VK->Prop} (ho:UnR X (unaryOp op) r) (ha:PE X a ta):PE X (.UnaryOp op a pos) (tUn r ta):=by
 intro mO s σ H Q I h;exact UnaryOp_ (thn #[GM] fun v s1 ⟨x,H1,I1,r1,q1⟩=>ho mO s1 σ H1 x v Q I1 r1 q1)
theorem opI {f:Value->Value->Sem Value} {C:Int->Int->Prop} {g:Int->Int->Int}
  (rule:∀ (i j:Int) (t u:Tok) (s:Shared) (Q:Value->Shared->Prop) (E:Value->Shared->Prop),C i j->Q (.int (g i j) s.toks) { s with toks:=s.toks+1 }->wpAny #[on] X.A #[Vi] Q E s) :
  OpR X f (rI C fun i j=>.int (g i j)):=by
 intro mO s σ H x y v u Q I rx ry h;obtain⟨i,j,rfl,rfl,hc,q⟩:=h;obtain⟨t,rfl⟩:=rx;obtain⟨t',rfl⟩:=ry;exact rule i j t t' s _ _ hc #[Xx]
theorem zp6 {f:Value->Value->Sem Value} {g:Int->Int->Int}
  (rule:∀ (i j:Int) (t u:Tok) (s:Shared) (Q:Value->Shared->Prop) (E:Value->Shared->Prop),Q (.int (g i j) s.toks) { s with toks:=s.toks+1 }->wpAny #[on] X.A #[Vi] Q E s) :
  OpR X f (rI0 fun i j=>.int (g i j)):=by
 intro mO s σ H x y v u Q I rx ry h;obtain⟨i,j,rfl,rfl,q⟩:=h;obtain⟨t,rfl⟩:=rx;obtain⟨t',rfl⟩:=ry;exact rule i j t t' s _ _ #[Xx]
theorem znv {f:Value->Value->Sem Value} {g:Int->Int->Bool}
  (rule:∀ (i j:Int) (t u:Tok) (s:Shared) (Q:Value->Shared->Prop) (E:Value->Shared->Prop),Q (.bool (g i j)) s->wpAny #[on] X.A #[Vi] Q E s) :
  OpR X f (rI0 fun i j=>.bl (g i j)):=by
 intro mO s σ H x y v u Q I rx ry h;obtain⟨i,j,rfl,rfl,q⟩:=h;obtain⟨t,rfl⟩:=rx;obtain⟨t',rfl⟩:=ry;exact rule i j t t' s _ _ ⟨.bl (g i j),H,I,rfl,q⟩
noncomputable def zp7 (i j:Int):Prop:=0 < j/\j < 1073741824
noncomputable def zqL (i j:Int):Prop:=0<=j/\j<=1000000/\i.natAbs < 2 ^ 64
noncomputable def zo2 (i j:Int):Prop:=(-(2 ^ 64) < i/\i < 2 ^ 64)\/(-(2 ^ 64) < j/\j < 2 ^ 64)
theorem zo2.ok {i j:Int} (h:zo2 i j):IntMulOk i j:=by
 rcases h with ⟨h1,h2⟩ | ⟨h1,h2⟩
 ·exact .of_left (intBits_le_64 h1 h2)
 ·exact .of_right (intBits_le_64 h1 h2)
theorem zai:OpR X #[Wa] (rI0 fun i j=>.int (i+j)):=zp6 fun _ _ _ _ _ _ _ q=>add_int q
theorem zbj:OpR X (binaryOp .Sub) (rI0 fun i j=>.int (i - j)):=zp6 fun _ _ _ _ _ _ _ q=>sub_int q
theorem zan:OpR X (binaryOp .Mult) (rI zo2 fun i j=>.int (i*j)):=opI fun _ _ _ _ _ _ _ hc q=>mul_int q hc.ok
theorem zcs:OpR X (binaryOp .FloorDiv) (rI zp7 fun i j=>.int (i / j)):=opI fun i j _ _ _ _ _ hc q=>by
 have h1:(0:Int) < j:=hc.1;have h2:j < 1073741824:=hc.2;exact floordiv_int #[O] (by rw [iq i #[O]]; exact q) (.inl (jl #[O]))
theorem zO:OpR X (binaryOp .Mod) (rI (fun _ j=>0 < j) fun i j=>.int (i % j)):=opI fun i j _ _ _ _ _ hc q=>by
 have h1:(0:Int) < j:=hc;exact mod_int' #[O] (by rw [Int.fmod_eq_emod_of_nonneg i #[O]]; exact q)
theorem ziD:OpR X (binaryOp .Pow) (rI zqL fun i j=>.int (i ^ j.toNat)):=opI fun _ _ _ _ _ _ _ hc q=>pow_int_small hc.1 hc.2.1 hc.2.2 q
theorem zlY:OpR X (inplaceOp .FloorDiv) (rI zp7 fun i j=>.int (i / j)):=opI fun i j _ _ _ _ _ hc q=>by
 have h1:(0:Int) < j:=hc.1;have h2:j < 1073741824:=hc.2;exact ifloordiv_int #[O] (by rw [iq i #[O]]; exact q) (.inl (jl #[O]))
theorem unI {f:Value->Sem Value} {g:Int->Int}
  (rule:∀ (i:Int) (t:Tok) (s:Shared) (Q:Value->Shared->Prop) (E:Value->Shared->Prop),Q (.int (g i) s.toks) { s with toks:=s.toks+1 }->wpAny #[on] X.A (f (.int i t)) Q E s) :
  UnR X f (rU fun i=>.int (g i)):=by
 intro mO s σ H x v Q I rx h;obtain⟨i,rfl,q⟩:=h;obtain⟨t,rfl⟩:=rx;exact rule i t s _ _ ⟨.int (g i),H,I.tok _,⟨_,rfl⟩,q⟩
theorem zgE:UnR X (unaryOp .USub) (rU fun i=>.int (-i)):=unI fun _ _ _ _ _ q=>neg_int q
end
noncomputable def znw:V->V->Bool
 | .non,.non=>true | .non,.int _=>true | .int _,.non=>true | .non,.bl _=>true | .bl _,.non=>true | .non,.str _=>true | .str _,.non=>true
 | .int _,.int _=>true | .bl _,.bl _=>true | .str _,.str _=>true | .byt _,.byt _=>true
 | .int _,.str _=>true | .str _,.int _=>true | .bl _,.str _=>true | .str _,.bl _=>true
 | _,_=>false
noncomputable def rEq:R2:=fun x y H Q=>znw x y=true/\Q (.bl (decide (x=y))) H
noncomputable def rNe:R2:=fun x y H Q=>znw x y=true/\Q (.bl (!decide (x=y))) H
theorem zjm {i j:Int}:decide (V.int i=V.int j)=(i == j):=by
 rw [eQ];simp
theorem zlZ {i j:Bool}:decide (V.bl i=V.bl j)=(i == j):=by
 rw [eQ];simp
theorem zjn {i j:Str}:decide (V.str i=V.str j)=(i == j):=by
 rw [eQ];simp
theorem zjo {i j:Array UInt8}:decide (V.byt i=V.byt j)=(i.toList == j.toList):=by
 rw [eQ];cases i;cases j;simp
section
variable {X:Cx} {a b c:Expr} {ta tb tc:TE} {pos:Pos}
theorem z8 {σ:St} {Q:VK} {k k':Bool} (I:Inv X mO σ H s) (q:Q (.bl k) H) (e:k=k'):EP X mO σ Q (.bool k') s:=by
 subst e;exact⟨.bl k,H,I,rfl,q⟩
theorem zbF:OpR X (compareOp .Eq) rEq:=by
 intro mO s σ H x y v u Q I rx ry h;obtain⟨hs,q⟩:=h;cases x with
 | non =>
  cases rx;cases y with
  | non=>cases ry; exact PySem.EqNone.eq_none_none #[IO]
  | bl j=>cases ry; exact PySem.EqNone.eq_none_bool #[IO]
  | int j=>obtain⟨t',rfl⟩:=ry; exact PySem.EqNone.eq_none_int #[IO]
  | str j=>obtain⟨t',rfl⟩:=ry; exact PySem.EqNone.eq_none_str #[IO]
  | _=>exact absurd (show false=true from hs) aJ
 | bl i =>
  cases rx;cases y with
  | non=>cases ry; exact PySem.EqNone.eq_bool_none #[IO]
  | bl j=>cases ry; exact eq_bool (z8 I q zlZ)
  | str j=>obtain⟨t',rfl⟩:=ry; exact PySem.EqMixed.eq_bool_str #[IO]
  | _=>exact absurd (show false=true from hs) aJ
 | int i =>
  obtain⟨t,rfl⟩:=rx;cases y with
  | non=>cases ry; exact PySem.EqNone.eq_int_none #[IO]
  | int j=>obtain⟨t',rfl⟩:=ry; exact eq_int (z8 I q zjm)
  | str j=>obtain⟨t',rfl⟩:=ry; exact PySem.EqMixed.eq_int_str #[IO]
  | _=>exact absurd (show false=true from hs) aJ
 | str i =>
  obtain⟨t,rfl⟩:=rx;cases y with
  | non=>cases ry; exact PySem.EqNone.eq_str_none #[IO]
  | bl j=>cases ry; exact PySem.EqMixed.eq_str_bool #[IO]
  | int j=>obtain⟨t',rfl⟩:=ry; exact PySem.EqMixed.eq_str_int #[IO]
  | str j=>obtain⟨t',rfl⟩:=ry; exact eq_str (z8 I q zjn)
  | _=>exact absurd (show false=true from hs) aJ
 | byt i =>
  obtain⟨t,rfl⟩:=rx;cases y with
  | byt j=>obtain⟨t',rfl⟩:=ry; exact PySem.W.eq_bytes (z8 I q zjo)
  | _=>exact absurd (show false=true from hs) aJ
 | _=>cases y <;> exact absurd (show false=true from hs) aJ
theorem zhp:OpR X #[WW] rNe:=by
 intro mO s σ H x y v u Q I rx ry h;obtain⟨hs,q⟩:=h;cases x with
 | non =>
  cases rx;cases y with
  | non=>cases ry; exact PySem.EqNone.ne_none_none #[IO]
  | bl j=>cases ry; exact PySem.EqNone.ne_none_bool #[IO]
  | int j=>obtain⟨t',rfl⟩:=ry; exact PySem.EqNone.ne_none_int #[IO]
  | str j=>obtain⟨t',rfl⟩:=ry; exact PySem.EqNone.ne_none_str #[IO]
  | _=>exact absurd (show false=true from hs) aJ
 | bl i =>
  cases rx;cases y with
  | non=>cases ry; exact PySem.EqNone.ne_bool_none #[IO]
  | bl j=>cases ry; exact ne_bool (z8 I q (congrArg not zlZ))
  | str j=>obtain⟨t',rfl⟩:=ry; exact PySem.EqMixed.ne_bool_str #[IO]
  | _=>exact absurd (show false=true from hs) aJ
 | int i =>
  obtain⟨t,rfl⟩:=rx;cases y with
  | non=>cases ry; exact PySem.EqNone.ne_int_none #[IO]
  | int j=>obtain⟨t',rfl⟩:=ry; exact ne_int (z8 I q (congrArg not zjm))
  | str j=>obtain⟨t',rfl⟩:=ry; exact PySem.EqMixed.ne_int_str #[IO]
  | _=>exact absurd (show false=true from hs) aJ
 | str i =>
  obtain⟨t,rfl⟩:=rx;cases y with
  | non=>cases ry; exact PySem.EqNone.ne_str_none #[IO]
  | bl j=>cases ry; exact PySem.EqMixed.ne_str_bool #[IO]
  | int j=>obtain⟨t',rfl⟩:=ry; exact PySem.EqMixed.ne_str_int #[IO]
  | str j=>obtain⟨t',rfl⟩:=ry; exact ne_str (z8 I q (congrArg not zjn))
  | _=>exact absurd (show false=true from hs) aJ
 | byt i =>
  obtain⟨t,rfl⟩:=rx;cases y with
  | byt j=>obtain⟨t',rfl⟩:=ry; exact PySem.W.ne_bytes (z8 I q (congrArg not zjo))
  | _=>exact absurd (show false=true from hs) aJ
 | _=>cases y <;> exact absurd (show false=true from hs) aJ
theorem zcO:OpR X (compareOp .Lt) (rI0 fun i j=>.bl (decide (i < j))):=znv fun _ _ _ _ _ _ _ q=>lt_int q
theorem zhq:OpR X (compareOp .LtE) (rI0 fun i j=>.bl (decide (i<=j))):=znv fun _ _ _ _ _ _ _ q=>le_int q
theorem zhr:OpR X (compareOp .Gt) (rI0 fun i j=>.bl (decide (j < i))):=znv fun _ _ _ _ _ _ _ q=>gt_int q
theorem zl0:OpR X (compareOp .GtE) (rI0 fun i j=>.bl (decide (j<=i))):=znv fun _ _ _ _ _ _ _ q=>ge_int q
theorem ziE:OpR X (compareOp .Is) (fun x y H Q=>y = .non/\Q (.bl (decide (x = .non))) H):=by
 intro mO s σ H x y v u Q I rx ry h;obtain⟨rfl,q⟩:=h;cases ry;refine is_none_gen (z8 I q ?_);cases x <;> first
  | (cases rx; rfl)
  | (obtain⟨t,rfl⟩:=rx; rfl)
theorem zct:OpR X (compareOp .IsNot) (fun x y H Q=>y = .non/\Q (.bl (!decide (x = .non))) H):=by
 intro mO s σ H x y v u Q I rx ry h;obtain⟨rfl,q⟩:=h;cases ry;refine isnot_none_gen (z8 I q ?_);cases x <;> first
  | (cases rx; rfl)
  | (obtain⟨t,rfl⟩:=rx; rfl)
theorem zI (b:Expr) {op:CmpOp} (h:op≠.In:=by decide) (h2:op≠.NotIn:=by decide):behindInMarks op b=false:=by
 have e1:(op == CmpOp.In)=false:=by cases op <;> first | rfl | exact absurd rfl h
 have e2:(op == CmpOp.NotIn)=false:=by cases op <;> first | rfl | exact absurd rfl h2
 cases b <;> simp [behindInMarks,e1,e2]
theorem znx {op:CmpOp} {r:R2} (ho:OpR X #[WO] r) (ha:PE X a ta) (hb:PE X b tb) (hm:behindInMarks op b=false):PE X (.Compare a [op] [b] pos) #[XI]:=by
 intro mO s σ H Q I h;exact wpAny_Compare1 (zo1 ha hb I h fun v u s2 x y H2 I2 rx ry q=>ho mO s2 σ H2 x y v u Q I2 rx ry q) hm
noncomputable def zoE (t:TE):TT:=fun σ H Q=>t σ H fun x H'=>∃ k,x = .bl k/\Q k H'
theorem zA {op:CmpOp} {r:R2} (ho:OpR X #[WO] r) (ha:PE X a ta) (hb:PE X b tb) (hm:behindInMarks op b=false):PT X (.Compare a [op] [b] pos) (zoE #[XI]):=by
 intro mO s σ H Q I h;refine wpAny_isTrue_Compare1 (thn #[GM] fun v s1 ⟨x,H1,I1,r1,q1⟩=>thn #[Tj] fun u s2 ⟨y,H2,I2,r2,q2⟩ =>
  thn #[SO] fun c s3 ⟨z,H3,I3,r3,k,e,q3⟩=>?_) hm
 subst e;cases r3;exact c6 ⟨H3,I3,q3⟩
noncomputable def zl1 (r r':R2) (ta tb tc:TE):TE:=fun σ H Q=>ta σ H fun x H1=>tb σ H1 fun y H2=>r x y H2 fun z H3=>∃ k,z = .bl k /\
 (if k=true then tc σ H3 fun w' H4=>r' y w' H4 Q else Q #[X4] H3)
theorem zl2 {op CZ:CmpOp} {r r':R2} (ho:OpR X #[WO] r) (xo:OpR X (compareOp CZ) r') (ha:PE X a ta) (hb:PE X b tb) (hc:PE X c tc)
  (hm:lastMarks [op,CZ] [b,c]=false:=by with_unfolding_all rfl):PE X (.Compare a [op,CZ] [b,c] pos) (zl1 r r' ta tb tc):=by
 intro mO s σ H Q I h;refine Compare_chain (thn #[GM] fun v s1 ⟨x,H1,I1,r1,q1⟩=>chain_link (thn #[Tj] fun u s2 ⟨y,H2,I2,r2,q2⟩ =>
  thn #[SO] fun d s3 ⟨z,H3,I3,r3,k,e,q3⟩=>?_)) hm
 subst e;cases r3;refine c6 ?_;cases k with
 | false=>exact ite_ff ⟨.bl false,H3,I3,rfl,q3⟩
 | true=>exact ite_tt (chain_last (thn (hc mO s3 σ H3 _ I3 q3) fun w' s4 ⟨z',H4,I4,r4,q4⟩=>xo mO s4 σ H4 y z' u w' Q I4 r2 r4 q4))
theorem zdG {op CZ:CmpOp} {r r':R2} (ho:OpR X #[WO] r) (xo:OpR X (compareOp CZ) r') (ha:PE X a ta) (hb:PE X b tb) (hc:PE X c tc)
  (hm:lastMarks [op,CZ] [b,c]=false:=by with_unfolding_all rfl):PT X (.Compare a [op,CZ] [b,c] pos) (zoE (zl1 r r' ta tb tc)):=by
 intro mO s σ H Q I h;refine isTrue_chain (thn #[GM] fun v s1 ⟨x,H1,I1,r1,q1⟩=>test_link (thn #[Tj] fun u s2 ⟨y,H2,I2,r2,q2⟩ =>
  thn #[SO] fun d s3 ⟨z,H3,I3,r3,k,e,q3⟩=>?_)) hm
 subst e;cases r3;refine c6 ?_;cases k with
 | false =>
  obtain⟨k',e',q'⟩:=q3;cases e';exact ite_ff ⟨H3,I3,q'⟩
 | true =>
  refine ite_tt (test_last (thn (hc mO s3 σ H3 _ I3 q3) fun w' s4 ⟨z',H4,I4,r4,q4⟩=>thn (xo mO s4 σ H4 y z' u w' _ I4 r2 r4 q4) fun d' s5 ⟨z2,H5,I5,r5,k2,e2,q5⟩=>?_));subst e2;cases r5;exact c6 ⟨H5,I5,q5⟩
noncomputable def zo3 (K:af) (x:V) (H:Hp) (k:Bool):Prop :=
 match x with
 | .non=>k=false
 | .bl b=>k=b
 | .int i=>k=(i != 0)
 | .str y=>y.length<=sizeLine/\k=((y.length:Int) != 0)
 | .byt y=>y.size<=sizeLine/\k=((y.size:Int) != 0)
 | .ref p=>(∃ xs,mS K H p xs/\k = !xs.isEmpty)\/(∃ xs,m7 K H p xs/\k = !xs.isEmpty)\/∃ mZ,H p=some (.dK mZ)/\k = !mZ.isEmpty
 | _=>False
theorem ziF {κ:Type} {mZ:List (κ×V)} {vs:List (κ×Value)} (r:KV mZ vs):(!vs.isEmpty) = !mZ.isEmpty:=by
 cases r <;> rfl
theorem ze7 {xs:List V} (r:zM xs mT):(!mT.toArray.isEmpty) = !xs.isEmpty:=by
 cases r <;> simp
theorem ze8:(sizeLine:Nat) < 2 ^ 63:=by rw [a8]; decide
theorem zl3:zqK X (fun x H Q=>∃ k,zo3 X.K x H k/\Q k H):=by
 intro mO s σ H x v Q I rx h;obtain⟨k,e,q⟩:=h;have hl:=ze8;have hs:sizeLine=16777216:=a8;cases x with
 | non =>
  cases rx;have e':k=false:=e;subst e';exact truthy_none ⟨H,I,q⟩
 | bl b =>
  cases rx;have e':k=b:=e;subst e';exact c6 ⟨H,I,q⟩
 | int i =>
  obtain⟨t,rfl⟩:=rx;have e':k=(i != 0):=e;subst e';exact PySem.P.truthy_int ⟨H,I,q⟩
 | str y =>
  obtain⟨t,rfl⟩:=rx;obtain⟨hy,e'⟩:y.length<=sizeLine/\k=((y.length:Int) != 0):=e;subst e';exact PySem.P.truthy_str #[O] ⟨H,I.tok _,q⟩
 | byt y =>
  obtain⟨t,rfl⟩:=rx;obtain⟨hy,e'⟩:y.size<=sizeLine/\k=((y.size:Int) != 0):=e;subst e';exact PySem.W.truthy_bytes #[O] ⟨H,I.tok _,q⟩
 | ref p =>
  cases rx;have e':(∃ xs,mS X.K H p xs/\k = !xs.isEmpty)\/(∃ xs,m7 X.K H p xs/\k = !xs.isEmpty)\/∃ mZ,H p=some (.dK mZ)/\k = !mZ.isEmpty:=e;rcases e' with ⟨xs,hx,e'⟩ | ⟨xs,hx,e'⟩ | ⟨mZ,hx,e'⟩
  ·subst e';obtain⟨mT,r,pl,hz⟩:=I.list hx;have nj:=r.length;exact wpAny_truthy_list pl.isList (by simp only [au]; lia) ⟨H,I.tok _,by rw [ze7 r]; exact q⟩
  ·subst e';obtain⟨mT,r,pl,hz⟩:=I.tuple hx;have nj:=r.length;exact truthy_tuple pl (by simp only [au]; lia) ⟨H,I.tok _,by rw [ze7 r]; exact q⟩
  ·subst e';obtain⟨hz,hS,vs,r,m⟩:mZ.length<=sizeLine/\(p == sysModules)=false/\∃ vs,KV mZ vs/\s.heap.DictOf (zaC X.prog X.w) p vs:=I.hok p _ hx;have nj:mZ.length=vs.length:=gg r;exact wpAny_truthy_dict hS m #[O] ⟨H,I.tok _,by rw [ziF r]; exact q⟩
 | _=>exact (show False from e).elim
theorem zhs (ha:PE X a ta) (he:∀ whole,isTrue a X.env whole=(do let v <- whole; standAt a.pos; holding [v] (truthy v))) :
  PT X a (fun σ H Q=>ta σ H fun x H'=>∃ k,zo3 X.K x H' k/\Q k H'):=by
 intro mO s σ H Q I h;exact isTrue_plain (thn #[GM] fun v s1 ⟨x,H1,I1,r1,q1⟩=>zl3 mO s1 σ H1 x v Q I1 r1 q1) (he _)
theorem vals1 {x:V} (r:zM [x] us):∃ u,us = [u]/\RelV x u:=by
 cases r with
 | cons r1 r2=>cases r2; exact⟨_,rfl,r1⟩
theorem vals2 {x:V} (r:zM [x,y] us):∃ u w',us = [u,w']/\RelV x u/\RelV y w':=by
 cases r with
 | cons r1 r2 =>
  cases r2 with
  | cons r3 r4=>cases r4; exact⟨_,_,rfl,r1,r3⟩
theorem zf3 (hc:X.calm=true):zbm X (.builtin "max") (fun xs H Q=>∃ i j,xs = [.int i,.int j]/\Q (.int (if j > i then j else i)) H):=by
 intro mO s σ H xs us Q I r h;obtain⟨i,j,rfl,q⟩:=h;obtain⟨u,w',rfl,⟨t,rfl⟩,⟨t',rfl⟩⟩:=vals2 r;refine max_two_ints #[R0] fun h' tk k=>⟨_,H,I.kept k,?_,q⟩
 by_cases hj:j > i
 ·rw [if_pos hj,if_pos hj]; exact⟨_,rfl⟩
 ·rw [if_neg hj,if_neg hj]; exact⟨_,rfl⟩
theorem zf4 (hc:X.calm=true):zbm X (.builtin "min") (fun xs H Q=>∃ i j,xs = [.int i,.int j]/\Q (.int (if j < i then j else i)) H):=by
 intro mO s σ H xs us Q I r h;obtain⟨i,j,rfl,q⟩:=h;obtain⟨u,w',rfl,⟨t,rfl⟩,⟨t',rfl⟩⟩:=vals2 r;refine min_two_ints #[R0] fun h' tk k=>⟨_,H,I.kept k,?_,q⟩
 by_cases hj:j < i
 ·rw [if_pos hj,if_pos hj]; exact⟨_,rfl⟩
 ·rw [if_neg hj,if_neg hj]; exact⟨_,rfl⟩
theorem zkt:zbm X (.type "int") (fun xs H Q=>(∃ i,xs = [.int i]/\Q #[Xk] H)\/∃ k,xs = [.bl k]/\Q (.int (if k then 1 else 0)) H):=by
 intro mO s σ H xs us Q I r h;rcases h with ⟨i,rfl,q⟩ | ⟨k,rfl,q⟩
 ·obtain⟨u,rfl,t,rfl⟩:=vals1 r;exact call_int_int ⟨.int i,H,I,⟨_,rfl⟩,q⟩
 ·obtain⟨u,rfl,r1⟩:=vals1 r;cases r1;exact call_int_bool ⟨.int (if k then 1 else 0),H,I.tok _,⟨_,rfl⟩,q⟩
end
structure QA (h:Heap) (x dx C:Addr) (mA:Str->Option Value):Prop where
 obj:h.get? x=some (dC C dx)
 ns:h.Ns1 dx mA
 ne:dx≠x
theorem zku {dx:Addr} {mA:Str->Option Value} (n:h.Ns1 dx mA):∃ od,h.get? dx=some od/\∀ name,gZ name od=some (mA name):=by
 obtain⟨o,es,ep,ho,hd,hk,_,hm⟩:=n;refine⟨o,ho,fun name=>?_⟩;have e:=hm name;unfold nsFind findBy at e;rw [<- Array.find?_toList] at e;unfold gZ;rw [hd];dsimp only;split
 ·rename_i y q
  rw [q] at e;exact congrArg some e
 ·rename_i q
  rw [q] at e;have a:es.toList.any (·.refKey)=false:=by
   rw [List.any_eq_false];intro y hy;obtain⟨z,t,pT⟩:=hk y (jI.mp hy);simp [DictEntry.refKey,pT]
  have a':¬ es.toList.any (·.refKey)=true:=by rw [a]; exact aJ
  rw [if_neg a'];exact congrArg some e
theorem QA.look {x dx:Addr} {mA:Str->Option Value} (I:QA h x dx C mA):∃ od,PySem.W.InstAt h x (dC C dx) C (some od)/\∀ name,gZ name od=some (mA name) :=
 let ⟨od,ho,hl⟩:=zku I.ns
 ⟨od,⟨I.obj,rfl,rfl,ho⟩,hl⟩
section
variable {prog:Program} {w:World} {A:Around} {E:Value->Shared->Prop} {s:Shared} {K:af} {x dx C f:Addr} {mA:Str->Option Value} {name:Str} {v:Value}
theorem zny {expr:Bool} {Q:Value->Shared->Prop} (X:K.In s.heap) (I:QA s.heap x dx C mA) (hg:fk K C name=true) (hh:fX K C=true)
  (ha:aK K #[Rl] name=some none) (hv:mA name=some v) (HG:lj v=true) (h:Q v { s with toks:=s.toks+1 }) :
  wpAny #[or] A (getAttr #[UC] name expr) Q E s:=by
 obtain⟨od,J,hl⟩:=I.look;exact PySem.W.get_value X J (gU hg).1 (PySem.W.findObj_own hh ha rfl (by rw [hl,hv])) HG h
theorem zl4 {pl:Sem Bool} {Q:Value×List Value->Shared->Prop} (X:K.In s.heap) (I:QA s.heap x dx C mA) (hg:fk K C name=true)
  (hf:aK K #[Rl] name=some #[UG]) (ht:gE K #[SL]=true) (hv:mA name=none) (h:Q (.ref f,[.ref x]) s) :
  wpAny #[or] A (getMethod #[UC] name pl) Q E s:=by
 obtain⟨od,J,hl⟩:=I.look;exact PySem.W.method_fn X J (gU hg).1 (gU hg).2 hf (beq_iff_eq.mp ht) (by show (gZ name od).map (·.isSome)=some false; rw [hl,hv]; rfl) h
theorem znz {ns:List Str} {Q:Unit->Shared->Prop} (X:K.In s.heap) (I:QA s.heap x dx C mA)
  (hs:aK K #[Rl] "__setattr__" = some (some (.builtin "object.__setattr__"))) (hp:iD K C=true) (ht:jd K C name=some none) (hh:fX K C=true)
  (hw:kh mA ns) (hsz:ns.length<=sizeLine)
  (h:∀ h',QA h' x dx C (fun y=>if y=name then some v else mA y)->bh dx s.heap h'->Q () { s with heap:=h',toks:=s.toks+2 }) :
  wpAny #[or] A (setAttr #[UC] name v) Q E s:=by
 obtain⟨od,J,hl⟩:=I.look;refine PySem.W.set_plain X J hs (PySem.W.osa_open (s:={ s with toks:=s.toks+1 }) (r:=none) X J hp ht fun b=>?_);obtain⟨cd,hc,Bo⟩:=PySem.W.any_some hh;have hx:s.heap.get? x=some ⟨.ref C,some dx,.plain,#[]⟩:=I.obj;refine aa (ag (aa (aa (wpAny_loadPart hx (aa (PySem.W.Looks.here (s:={ s with toks:=s.toks+1 }) (PySem.W.looks_clsIn X hc) ?_))))));rw [Bo];refine ag (a:=some dx) (aa (ag (aa ?_)));refine wpAny_nsSet1 (s:={ s with toks:=s.toks+1 }) I.ns fun h' uK o7=>?_
 obtain⟨oD,esD,epD,hoD,hdD,hcD⟩:=uK.count (PySem.Within.cons name v hw);refine aa (wpAny_lookBehind hoD (by rw [hdD]; exact pastItsLine_dict (bq hcD (by rw [bf]; lia))) ?_);exact ag (h _ ⟨(o7.2 _ (cX I.ne)).trans I.obj,uK,I.ne⟩ o7)
theorem zl5 (X:K.In s.heap) (hm:je K C=true)
  (hi:aK K #[Rl] "__init__" = some #[UG]) (hf:PySem.W.typeIn K #[SL]=some (.type "function"))
  (h:codeAny #[or] (A.under (.builtin "type.__call__" ⟨.ref C :: vs,kw⟩)) (.call #[SL] ⟨.ref #[ul] :: vs,kw⟩) (PySem.W.InitBack #[ul] R)
   { s with heap:=#[Tx].push #[Ts] }) :
  codeAny #[or] A (.call #[Rl] ⟨vs,kw⟩) R s:=by
 obtain⟨hh,g,d,t,os⟩:=s;exact PySem.W.make_core (PySem.W.makes_of X hm) (gF X hi) (fun self=>PySem.W.bind_fn X self hf) #[Os] h
end
noncomputable def zaz (f:Str) (v:V):List (Str×V)->List (Str×V)
 | []=>[(f,v)]
 | (g,x) :: r=>if g=f then (g,v) :: r else (g,x) :: zaz f v r
theorem zeo (f g:Str) (v:V):∀ fs:List (Str×V),#[WK].lookup g=if g=f then some v else fs.lookup g
 | []=>by
  show dg g [(f,v)]=_;by_cases h:g=f
  ·have hb:(g == f)=true:=beq_iff_eq.mpr h;simp only [dg,hb,if_pos h]
  ·have hb:(g == f)=false:=beq_eq_false_iff_ne.mpr h;simp only [dg,hb,if_neg h]
 | (k,x) :: r=>by
  have ih:=zeo f g v r;rw [show zaz f v ((k,x) :: r)=(if k=f then (k,v) :: r else (k,x) :: zaz f v r) from rfl];by_cases hk:k=f
  ·rw [if_pos hk];by_cases h:g=k
   ·have hb:(g == k)=true:=beq_iff_eq.mpr h;simp only [dg,hb,if_pos (h.trans hk)]
   ·have hb:(g == k)=false:=beq_eq_false_iff_ne.mpr h;simp only [dg,hb,if_neg (fun e:g=f=>h (e.trans hk.symm))]
  ·rw [if_neg hk];by_cases h:g=k
   ·have hb:(g == k)=true:=beq_iff_eq.mpr h;simp only [dg,hb,if_neg (fun e:g=f=>hk (h.symm.trans e))]
   ·have hb:(g == k)=false:=beq_eq_false_iff_ne.mpr h;simp only [dg,hb];exact ih
theorem zee (f:Str) (v:V):∀ fs:List (Str×V),f∈#[WK].map (·.1)/\∀ g,g∈fs.map (·.1)->g∈#[WK].map (·.1)
 | []=>⟨by simp [zaz],fun g h=>by simp at h⟩
 | (k,x) :: r=>by
  obtain⟨i1,i2⟩:=zee f v r;rw [show zaz f v ((k,x) :: r)=(if k=f then (k,v) :: r else (k,x) :: zaz f v r) from rfl];by_cases hk:k=f
  ·rw [if_pos hk];subst hk;exact⟨#[M],fun g h=>by simpa using h⟩
  ·rw [if_neg hk];refine⟨?_,fun g h=>?_⟩
   ·rw [bj];exact aq _ i1
   ·rw [bj] at h |-;rcases az.mp h with e | e
    ·exact az.mpr (.inl e)
    ·exact aq _ (i2 g e)
theorem zep (f:Str) (v:V):∀ fs:List (Str×V),#[WK].length<=fs.length+1
 | []=>by simp [zaz]
 | (k,x) :: r=>by
  have ih:=zep f v r;rw [show zaz f v ((k,x) :: r)=(if k=f then (k,v) :: r else (k,x) :: zaz f v r) from rfl];by_cases hk:k=f
  ·rw [if_pos hk,bf,bf]; lia
  ·rw [if_neg hk,bf,bf]; lia
theorem zec.some_of {v:V} {o:Option Value} (r:zec #[Vp] o):∃ u,o=some u/\RelV v u:=by
 cases o with
 | none=>exact (show False from r).elim
 | some u=>exact⟨u,rfl,r⟩
theorem zec.none_of {o:Option Value} (r:zec none o):o=none:=by
 cases o with
 | none=>rfl
 | some u=>exact (show False from r).elim
theorem zkv {v:V} {u:Value} (r:RelV v u):lj u=true:=by
 cases v with
 | non=>cases (show u=ci from r); rfl
 | bl b=>cases (show u=fj b from r); rfl
 | int i=>obtain⟨t,e⟩:=(show ∃ t,u=c9 i t from r); cases e; rfl
 | str x=>obtain⟨t,e⟩:=(show ∃ t,u=jc x t from r); cases e; rfl
 | byt b=>obtain⟨t,e⟩:=(show ∃ t,u=Value.bytes b t from r); cases e; rfl
 | flt b=>obtain⟨t,e⟩:=(show ∃ t,u=k9 b t from r); cases e; rfl
 | ref a=>cases (show u=aN a from r); rfl
 | ty n=>cases (show u=fN n from r); rfl
section
variable {P:Program} {w:World} {H H':Hp} {h h':Heap} {a C dx:Addr} {fs fs':List (Str×V)}
theorem zeN (hok:HOk P w H h) (e:H a=some #[Sl]):∃ mA,QA h a dx C mA/\(∀ f,zec (fs.lookup f) (mA f))/\kh mA (fs.map (·.1))/\fs.length<=1000/\H dx=some (.own a):=by
 obtain⟨d,z,ne,ob,mA,n,r,q⟩:=(show zab P w H h a #[Sl] from hok a _ e);exact⟨mA,⟨ob,n,ne⟩,r,q,z,d⟩
end
structure Cls (K:af) (C:Addr):Prop where
 pg:fk K C Str.empty=true
 hd:fX K C=true
 po:iD K C=true
 sa:aK K #[Rl] "__setattr__" = some (some (.builtin "object.__setattr__"))
theorem Cls.get (c:Cls K C) (f:Str):fk K C f=true:=c.pg
noncomputable def zbR (K:af) (C:Addr) (f:Str):Prop:=aK K #[Rl] f=some none
theorem zbR.QX {f:Str} (n:zbR K C f):jd K C f=some none:=by
 unfold jd;rw [show aK K #[Rl] f=some none from n];rfl
structure OH (K:af) (C:Addr) (m:Str) (f:Addr):Prop where
 at_:aK K #[Rl] m=some #[UG]
 fn:gE K #[SL]=true
 kp:cY K #[SL]=true
section
variable {X:Cx} {mO:List (Addr×Obj)} {σ:St} {H:Hp} {s:Shared} {a C dx:Addr} {fs:List (Str×V)} {f:Str} {v:V} {A:Around} {E:Value->Shared->Prop}
theorem ziG {b:Bool} {Q:Value->Shared->Prop} (I:Inv X mO σ H s) (e:H a=some #[Sl]) (c:Cls X.K C) (n:zbR X.K C f) (l:fs.lookup f=some v)
  (h:∀ u s',Inv X mO σ H s'->RelV v u->Q u s'):wpAny #[on] A (getAttr #[RC] f b) Q E s:=by
 obtain⟨mA,O,r,_,_,_⟩:=zeN I.hok e;obtain⟨u,hu,ru⟩:=zec.some_of (v:=v) (o:=mA f) (by rw [<- l]; exact r f);exact zny I.kIn O (c.get f) c.hd n hu (zkv ru) (h u _ (I.tok _) ru)
theorem zcu {g:Addr} {pl:Sem Bool} {Q:Value×List Value->Shared->Prop} (I:Inv X mO σ H s) (e:H a=some #[Sl]) (c:Cls X.K C) (k:OH X.K C m g) (l:fs.lookup m=none)
  (h:Q (.ref g,[.ref a]) s):wpAny #[on] A (getMethod #[RC] m pl) Q E s:=by
 obtain⟨mA,O,r,_,_,_⟩:=zeN I.hok e;have hn:mA m=none:=zec.none_of (by rw [<- l]; exact r m);exact zl4 I.kIn O (c.get m) k.at_ k.fn hn h
theorem ziH {u:Value} {Q:Unit->Shared->Prop} (I:Inv X mO σ H s) (e:H a=some #[Sl]) (c:Cls X.K C) (n:zbR X.K C f) (hl:fs.length < 1000) (ry:RelV y u)
  (h:∀ s',Inv X mO σ (mR H a (.ins C dx (zaz f y fs))) s'->Q () s'):wpAny #[on] A (setAttr #[RC] f u) Q E s:=by
 obtain⟨mA,O,r,wi,_,ho⟩:=zeN I.hok e;have hz:(fs.map (·.1)).length<=sizeLine:=by rw [ae,a8]; lia
 refine znz I.kIn O c.sa c.po n.QX c.hd wi hz fun h' O' sb=>h _ ?_
 have hd:∃ o,h'.get? dx=some o:=let ⟨o,_,_,e',_⟩:=O'.ns; ⟨o,e'⟩
 refine I.write (x:=a) (e:=dx) (by rw [e]; exact d9) (.inr ho) (fun b q hb z=>(sb.2 b hb).trans z) hd ?_;refine⟨by rw [zg O.ne]; exact ho,?_,O.ne,O'.obj,_,O'.ns,fun g=>?_,fun g hg=>?_⟩
 ·have:=zep f y fs; lia
 ·show zec ((zaz f y fs).lookup g) (if g=f then some u else mA g);rw [zeo];by_cases q:g=f
  ·rw [if_pos q,if_pos q]; exact ry
  ·rw [if_neg q,if_neg q]; exact r g
 ·by_cases q:g=f
  ·rw [q]; exact (zee f y fs).1
  ·refine (zee f y fs).2 g (wi g fun z=>hg ?_);show (if g=f then some u else mA g)=none;rw [if_neg q]; exact z
theorem Inv.made (I:Inv X mO σ H s):Inv X mO σ (mR (mR H s.heap.objs.size (.own #[ul])) #[ul] (.ins C s.heap.objs.size []))
  { s with heap:=#[Tx].push #[Ts] }:=by
 have e1:#[Tx].get? s.heap.objs.size=some cM:=aD s.heap rfl;have e2:(#[Tx].push #[Ts]).get? #[ul]=some #[Ts]:=by
  have:=aD #[Tx] (o:=dC C s.heap.objs.size) rfl
  rwa [bz] at this
 have e3:#[Tx].Ns s.heap.objs.size #[Ym]:=⟨cM,#[],_,e1,rfl,(fun e he=>absurd he #[M]),fun _=>rfl⟩;have I1:=I.laid (a:=s.heap.objs.size) (o:=.own #[ul]) (h':=s.heap.push cM) (t':=s.toks) (fun b u q=>ai _ q) (ah _) ⟨_,e1⟩;refine I1.laid (a:=s.heap.objs.size+1) (o:=.ins C s.heap.objs.size []) (t':=s.toks) (fun b u q=>ai _ q) (ko (bz _ _)) ?_;have ne:s.heap.objs.size≠s.heap.objs.size+1:=aQ (fm _);refine⟨by rw [zg ne,zb],aZ _,ne,e2,fun _=>none,(Heap.Ns1.of_empty e3).at fun o q=>ai _ q,fun _=>d9,fun y hy=>absurd rfl hy⟩
theorem znA {e:Expr} {f:Str} {Q:Value->Shared->Prop} (hb:attributeBase e f env (eval e env)=eval e env)
  (h:wpAny #[or] A (eval e env) (fun o s₁=>wpAny #[or] A (getAttr o f true) Q E s₁) E s):wpAny #[or] A (eval (.Attribute e f pos) env) Q E s :=
 Attribute_any_ h (by rw [arm_eval_Attribute,hb])
end
noncomputable def zqM (K:af) (ta:TE) (f:Str):TE:=fun σ H Q=>ta σ H fun x H1=>∃ a C dx fs v,x = .ref a/\H1 a=some #[Sl]/\Cls K C/\zbR K C f/\fs.lookup f=some v/\Q v H1
noncomputable def zqN (K:af) (ta tv:TE) (f:Str):TS:=fun D σ H=>tv σ H fun y H1=>ta σ H1 fun x H2=>∃ a C dx fs,x = .ref a/\H2 a=some #[Sl]/\Cls K C/\zbR K C f/\fs.length < 1000 /\
 D.nx σ (mR H2 a (.ins C dx (zaz f y fs)))
section
variable {X:Cx} {o e value:Expr} {f:Str} {pos pos' tY:Pos} {ta tv:TE}
theorem zal (he:PE X e ta) (hb:attributeBase e f X.env #[Vr]=eval e X.env):PE X (.Attribute e f pos) (zqM X.K ta f):=by
 intro mO s σ H Q I h;refine znA hb (thn #[KM] fun u s1 ⟨x,H1,I1,rx,a,C,dx,fs,v,ex,ea,c,n,l,q⟩=>?_);subst ex;obtain rfl:u=aN a:=rx;exact ziG I1 ea c n l fun u' s2 I2 ru=>⟨v,H1,I2,ru,q⟩
theorem zef (ha:PE X o ta) (hv:PE X value tv) (hs:swapsWith value (some (.Attribute o f pos')) pos.line X.env=pure false):PS X (.Assign [.Attribute o f pos'] value pos) (zqN X.K ta tv f):=by
 intro mO s σ H D I h;refine plainObj_wpAny_Assign_Attribute (thn (hv mO s σ H _ I h) fun u s1 ⟨y,H1,I1,ry,q⟩=>thn (ha mO s1 σ H1 _ I1 q) fun ov s2 ⟨x,H2,I2,rx,a,C,dx,fs,ex,ea,c,n,l,q2⟩=>?_) hs;subst ex;obtain rfl:ov=aN a:=rx;exact ziH I2 ea c n l ry fun s3 I3=>⟨σ,_,I3,q2⟩
end
section
variable {X:Cx} {mO:List (Addr×Obj)} {σ:St} {H:Hp} {s:Shared} {A:Around} {E:Value->Shared->Prop} {Q:Value->Shared->Prop} {c:Value} {b:Bool}
inductive OG (K:af) (H:Hp):V->Value->Prop where
 | non:OG K H .non (.type "NoneType")
 | bl (x:Bool):OG K H (.bl x) (.type "bool")
 | int (i:Int):OG K H #[Xk] (.type "int")
 | str (x:Str):OG K H (.str x) (.type "str")
 | flt (x:UInt64):OG K H (.flt x) (.type "float")
 | lst {a:Addr} {xs:List V} (e:H a=some #[Sr]):OG K H #[RC] (.type "list")
 | frz {a:Addr} {o:Obj} {xs:List V} (e:H a=some (.frz o #[Sr])):OG K H #[RC] (.type "list")
 | tup {a:Addr} {xs:List V} (e:H a=some #[Sc]):OG K H #[RC] (.type "tuple")
 | dK {a:Addr} {mZ:List (Key×V)} (e:H a=some (.dK mZ)):OG K H #[RC] (.type "dict")
 | dT {a:Addr} {mZ:List (List Key×V)} (e:H a=some #[VO]):OG K H #[RC] (.type "dict")
 | ins {a C dx:Addr} {fs:List (Str×V)} (e:H a=some #[Sl]) (cl:Cls K C) (ha:aK K #[Rl] "__class__" = some (some (.builtin "object.__class__")))
   (hn:PySem.W.specialIn K (.builtin "object.__class__") "__get__" = some (some (.builtin "getset_descriptor.__get__"))) (htk:PySem.W.takesIn K (.builtin "object.__class__")=some true)
   (hm:bC K C (.type "object")=some true):OG K H #[RC] #[Rl]
theorem zkw {x:V} {u t:Value} (I:Inv X mO σ H s) (rx:RelV x u) (ty:OG X.K H x t) (e:ak X.K t c=some b) (h:∀ tk,Q (.bool b) { s with toks:=tk }) :
  wpAny #[on] A (call (.builtin "isinstance") [u,c]) Q E s:=by
 cases ty with
 | non=>cases (show u=ci from rx); exact ca PySem.W.kitx_none I.kIn d9 e (fun z=>nomatch z) h
 | bl y=>cases (show u=fj y from rx); exact ca PySem.W.kitx_bool I.kIn d9 e (fun z=>nomatch z) h
 | int i=>obtain⟨t,q⟩:=(show ∃ t,u=c9 i t from rx); cases q; exact ca PySem.W.kitx_int I.kIn d9 e (fun z=>nomatch z) h
 | str y=>obtain⟨t,q⟩:=(show ∃ t,u=jc y t from rx); cases q; exact ca PySem.W.kitx_str I.kIn d9 e (fun z=>nomatch z) h
 | flt y=>obtain⟨t,q⟩:=(show ∃ t,u=k9 y t from rx); cases q; exact ca PySem.W.kitx_float I.kIn d9 e (fun z=>nomatch z) h
 | @lst a xs ea =>
  cases (show u=aN a from rx);obtain⟨_,_,n,_,h1⟩:=(show zab X.prog X.w H s.heap a #[Sr] from I.hok a _ ea);exact ca kQ I.kIn ⟨_,h1,rfl⟩ e (fun z=>nomatch z) h
 | @frz a ob xs ea =>
  cases (show u=aN a from rx);obtain⟨_,_,_,n,_,h1⟩:=(show zab X.prog X.w H s.heap a (.frz ob #[Sr]) from I.hok a _ ea);exact ca kQ I.kIn ⟨_,h1,rfl⟩ e (fun z=>nomatch z) h
 | @tup a xs ea =>
  cases (show u=aN a from rx);obtain⟨_,_,_,p⟩:=(show zab X.prog X.w H s.heap a #[Sc] from I.hok a _ ea);obtain⟨o,h1,h2,_⟩:=p;exact ca PySem.W.kitx_tuple I.kIn ⟨o,h1,h2⟩ e (fun z=>nomatch z) h
 | @dK a mZ ea =>
  cases (show u=aN a from rx);obtain⟨_,_,vs,_,p⟩:=(show zab X.prog X.w H s.heap a (.dK mZ) from I.hok a _ ea);obtain⟨o,es,ep,h1,h2,_⟩:=p;exact ca kR I.kIn ⟨o,h1,h2.1⟩ e (fun z=>nomatch z) h
 | @dT a mZ ea =>
  cases (show u=aN a from rx);obtain⟨_,_,xs,_,o,es,ep,h1,h2,_⟩:=(show zab X.prog X.w H s.heap a #[VO] from I.hok a _ ea);exact ca kR I.kIn ⟨o,h1,h2.1⟩ e (fun z=>nomatch z) h
 | @ins a C dx fs ea cl ha hn htk hm =>
  cases (show u=aN a from rx);obtain⟨mA,O,_⟩:=zeN I.hok ea;obtain⟨od,J,_⟩:=O.look;exact ca (PySem.W.kitx_own (cl.get _) cl.hd ha hn htk hm) I.kIn J e (fun z=>nomatch z) h
end
structure LU (k:Nat) (A:Around):Prop where
 hd:A.handled=none
 dp:A.depth+3*k+5 < recursionLimit
 un:A.units+16*k+200 < cLine
theorem LU.mono (r:LU k A) (h:j<=k):LU j A:=⟨r.hd,by have:=r.dp; lia,by have:=r.un; lia⟩
theorem LU.deeper (r:LU (k+1) A) (env:Env):LU k (A.deeper env) :=
 ⟨r.hd,by have:=r.dp; show A.depth+1+3*k+5 < _; lia,by have:=r.un; show A.units+3+16*k+200 < _; lia⟩
theorem ziI:(A.under (.builtin "type.__call__" #[Um])).depth=A.depth+1:=by
 first | rfl | simp [kq,Code.weight,Code.isCreation,Code.isGuard,Code.isCaller,Code.frames,kr,guardIds]
theorem ziJ:(A.under (.builtin "type.__call__" #[Um])).units=A.units+1:=by
 first | rfl | simp [kq,Code.cUnits,Code.frames,kr]
theorem LU.make (r:LU (k+1) A) (C:Addr) (us:List Value) (kw:List (Str×Value)):LU k (A.under (.builtin "type.__call__" #[Um])) :=
 ⟨r.hd,by have:=r.dp; rw [ziI]; lia,by have:=r.un; rw [ziJ]; lia⟩
theorem LU.depth (r:LU k A):A.depth < recursionLimit:=by have:=r.dp; lia
theorem LU.units (r:LU k A):A.units+64 < cLine:=by have:=r.un; lia
noncomputable def zl6:TA:=fun _ H Q=>Q [] H
noncomputable def zjp (ta:TE) (tr:TA):TA:=fun σ H Q=>ta σ H fun x H1=>tr σ H1 fun xs H2=>Q (x :: xs) H2
section
variable {X:Cx} {e:Expr} {es:List Expr} {te:TE} {t:TA} {pos:Pos}
theorem zf:PA X [] zl6:=fun _ _ _ _ H Q I h=>kS ⟨[],H,I,.nil,h⟩
theorem za (ha:PE X e te) (hr:PA X es t) (hs:starEach (e :: es) X.env=#[FB] :: starEach es X.env:=by rfl):PA X (e :: es) (zjp te t):=by
 intro pos mO s σ H Q I h;rw [hs];show wpAny _ _ (spliced (#[FB] :: backTo pos (starEach es X.env))) _ _ s;refine ku (thn #[GM] fun u s1 ⟨x,H1,I1,r1,q1⟩=>?_);exact thn (hr pos mO s1 σ H1 _ I1 q1) fun us s2 ⟨xs,H2,I2,r2,q2⟩=>⟨x :: xs,H2,I2,.cons r1 r2,q2⟩
theorem ya {X:Cx} {e:Expr} {te:TE} (a:PE X e te) (b:starEach [e] X.env=#[FB] :: starEach [] X.env):PA X [e] (zjp te zl6):=za a zf b
noncomputable def zqO (t:TA):TE:=fun σ H Q=>t σ H fun xs H1=>xs.length<=sizeLine/\∀ p,H1 p=none->Q (.ref p) (mR H1 p #[Sc])
noncomputable def ziK (t:TA):TE:=fun σ H Q=>t σ H fun xs H1=>xs.length<=sizeLine/\∀ p,H1 p=none->Q (.ref p) (mR H1 p #[Sr])
theorem zad {x1} (h:PA X es t):PE X (.Tuple es x1 pos) (zqO t):=by
 intro mO s σ H Q I hq;refine wpAny_Tuple_spliced (thn (h pos mO s σ H _ I hq) fun us s1 ⟨xs,H1,I1,r,z,q⟩=>⟨by rw [<- r.length]; exact z,?_⟩);have hf:H1 s1.heap.objs.size=none:=I1.hok.fresh (ah _);refine⟨.ref s1.heap.objs.size,mR H1 s1.heap.objs.size #[Sc],I1.laid (t':=s1.toks) (fun b u e=>ai _ e) (ah _) ?_,rfl,q _ hf⟩;exact⟨z,us,r,⟨_,aD _ rfl,rfl,_,rfl⟩⟩
theorem zP (h:PA X es t):PE X (.List es pos) (ziK t):=by
 intro mO s σ H Q I hq;refine wpAny_List_spliced (thn (h pos mO s σ H _ I hq) fun us s1 ⟨xs,H1,I1,r,z,q⟩=>⟨by rw [<- r.length]; exact z,?_⟩);have hf:H1 s1.heap.objs.size=none:=I1.hok.fresh (ah _);refine⟨.ref s1.heap.objs.size,mR H1 s1.heap.objs.size #[Sr],I1.laid (t':=s1.toks) (fun b u e=>ai _ e) (ah _) ?_,rfl,q _ hf⟩;exact⟨z,us,0,r,aD _ rfl⟩
end
abbrev Sp:=List V->Hp->VK->XK->Prop
abbrev CXT:=List Env->Hp->Shared->XK->Value->Shared->Prop
structure Qf (P:Program) (w:World) (K:af) (mg:Str->Option Value) (base:Heap) (A:Around) (outer:List Env) (s:Shared) (H:Hp):Prop where
 frames:A.frames=some outer
 mod:Mod K mg base
 bs:∀ b o,base.get? b=some o->s.heap.get? b=some o/\H b=none
 bsz:base.objs.size<=s.heap.objs.size
 NO:s.heap.FunFrames base outer
 frf:∀ b∈frs outer,H b=none
 hok:HOk P w H s.heap
 bare:AllBare s.gens
noncomputable def CE (outer:List Env) (P:Program) (w:World) (H:Hp) (s:Shared) (Q:VK) (u:Value) (s':Shared):Prop :=
 ∃ v H',s'.os=s.os/\AllBare s'.gens/\Un (frs outer) [] H H' s.heap s'.heap/\HOk P w H' s'.heap/\RelV v u/\Q v H'
noncomputable def CR (CX:CXT) (outer:List Env) (P:Program) (w:World) (H:Hp) (s:Shared) (Q:VK) (E:XK) (r:Result) (s':Shared):Prop :=
 match r with
 | .ok (.ret u)=>CE outer P w H s Q u s'
 | .ok _=>False
 | .error e=>CX outer H s E e s'
structure Kx (P:Program) (w:World) (K:af) (mg:Str->Option Value) (base:Heap) (CX:CXT) (k:Nat) (f:Addr) (fd:FuncData) (ps:List Str) (sp:Sp):Prop where
 len:∀ vs H Q E,sp vs H Q E->vs.length=ps.length
 run:∀ (A:Around) (outer:List Env) (s:Shared) (H:Hp) (args:Args) (us:List Value) (vs:List V) (Q:VK) (E:XK),LU k A->Qf P w K mg base A outer s H->BindsTo s fd args #[Ws]->zM vs us->sp vs H Q E ->
  codeAny #[UF] A (.call #[SL] args) (CR CX outer P w H s Q E) s
theorem Qf.make {P:Program} {base:Heap} (e:Qf P w K mg base A outer s H) (C:Addr) (us:List Value) (kw:List (Str×Value)) :
  Qf P w K mg base (A.under (.builtin "type.__call__" #[Um])) outer s H:=⟨by first | exact e.frames | (simpa [kq,Code.envs,kr,pushEnvs] using e.frames),e.mod,e.bs,e.bsz,e.NO,e.frf,e.hok,e.bare⟩
section
variable {X:Cx} {mO:List (Addr×Obj)} {σ:St} {H:Hp} {s s':Shared}
theorem Inv.QP (I:Inv X mO σ H s):Qf X.prog X.w X.K X.mg X.base X.A X.stack s H :=
 ⟨I.ok.frames,I.ok.mod,I.bs,bq I.ok.bsz I.sz,I.stack,I.Mv,I.hok,I.bare⟩
theorem Inv.after {Q:VK} {u:Value} (I:Inv X mO σ H s) (h:CE X.stack X.prog X.w H s Q u s'):EP X mO σ Q u s':=by
 obtain⟨v,H',os,bare,un,hok,r,q⟩:=h;obtain⟨hh,g,d,t,HH⟩:=s';obtain rfl:HH=s.os:=os;exact⟨v,H',I.call (h':=hh) (g':=g) (d':=d) (t':=t) (ch:=[]) un hok bare (fun b z=>absurd z #[M]),r,q⟩
end
noncomputable def zoF (sp:Sp) (qF:List V) (E:XK) (t:TA):TE:=fun σ H Q=>t σ H fun vs H1=>sp (vs++qF) H1 Q E
noncomputable def zjq (C:Addr) (m:Str) (sp:Sp) (qF:List V) (E:XK) (ta:TE) (t:TA):TE:=fun σ H Q=>ta σ H fun x H1=>∃ a dx fs,x = .ref a/\H1 a=some #[Sl]/\fs.lookup m=none /\
 t σ H1 fun vs H2=>sp (x :: (vs++qF)) H2 Q E
noncomputable def zp8 (C:Addr) (sp:Sp) (qF:List V) (E:XK) (t:TA):TE:=fun σ H Q=>t σ H fun vs H1=>∀ x dx,H1 x=none->H1 dx=none->dx≠x ->
 sp (.ref x :: (vs++qF)) (mR (mR H1 dx (.own x)) x (.ins C dx [])) (fun v H2=>v = .non/\Q #[UC] H2) E
noncomputable def Binds (K:af) (fd:FuncData) (ps:List Str) (ds:List Value):Prop :=
 ∀ (s:Shared) (us:List Value),K.In s.heap->(us++ds).length=ps.length->BindsTo s fd ⟨us,[]⟩ (ps.zip (us++ds))
theorem Binds.all {ps:List Str} (h:∀ us:List Value,us.length=ps.length->bindArgs fd ⟨us,[]⟩=pure #[Ws]):Binds K fd ps []:=fun s us _ hl=>by
 rw [cb] at hl |-;exact .of_eq (h us hl)
noncomputable def zcv (CX:CXT) (X:Cx) (E:XK):Prop:=∀ (mO:List (Addr×Obj)) (σ:St) (H:Hp) (s:Shared) (e:Value) (s':Shared),Inv X mO σ H s->CX X.stack H s E e s'->X.xe e s'
section
variable {X:Cx} {CX:CXT} {k:Nat} {f C:Addr} {fd:FuncData} {ps:List Str} {sp:Sp} {qF:List V} {ds:List Value} {E:XK} {x m:Str} {p pos apos:Pos} {e o:Expr} {es:List Expr} {ta:TE} {t:TA}
theorem ziL {σ:St} {Q:VK} {vs:List V} (F:Kx X.prog X.w X.K X.mg X.base CX k f fd ps sp) (hr:LU k X.A) (hb:Binds X.K fd ps ds) (hd:zM qF ds) (hx:zcv CX X E)
  (I:Inv X mO σ H s) (r:zM vs us) (h:sp (vs++qF) H Q E):wpAny #[on] X.A (call #[SL] us) #[P3] X.xe s:=by
 have r2:zM (vs++qF) (us++ds):=r.append hd;have hl:(us++ds).length=ps.length:=by rw [<- r2.length]; exact F.len _ _ _ _ h
 refine gG (fH (F.run X.A X.stack s H ⟨us,[]⟩ (us++ds) (vs++qF) Q E hr I.QP (hb s us I.kIn hl) r2 h) fun r s' hq=>?_);cases r with
 | error e=>exact hx mO σ H s e s' I hq
 | ok fl =>
  cases fl with
  | ret u=>exact I.after hq
  | next=>exact bV hq
  | brk=>exact bV hq
  | cont=>exact bV hq
theorem zF (F:Kx X.prog X.w X.K X.mg X.base CX k f fd ps sp) (hr:LU k X.A) (hg:Gl X x) (hm:X.mg x=some #[SL]) (hk:cY X.K #[SL]=true) (hb:Binds X.K fd ps ds) (hd:zM qF ds) (hx:zcv CX X E)
  (ha:PA X (e :: es) t) (Br:(x == ("__debug__" : Str))=false:=by decide) (he:starEach (e :: es) X.env=#[FB] :: starEach es X.env:=by rfl) (oR:#[Do].any (·.1)=false:=by rfl) :
  PE X (.Call #[X5] (e :: es) [] pos) (zoF sp qF E t):=by
 intro mO s σ H Q I h;refine eR #[Wg];refine eU (h₀:=X.base) I.ok.mod.kin hk (thn #[FM] fun us s1 ⟨vs,H1,I1,r,q⟩=>⟨I1.kIn,?_⟩) he oR;exact ziL F hr hb hd hx I1 r q
theorem zc8 {pl:Sem Bool} (he:PE X o ta) (c:Cls X.K C) (hm:OH X.K C m f) (F:Kx X.prog X.w X.K X.mg X.base CX k f fd ps sp) (hr:LU k X.A) (hb:Binds X.K fd ps ds) (hd:zM qF ds) (hx:zcv CX X E) (ha:PA X (e :: es) t)
  (pA:starEach (e :: es) X.env=#[FB] :: starEach es X.env:=by rfl) (oR:#[Do].any (·.1)=false:=by rfl)
  (ht:eval (.Call #[Rz] (e :: es) [] pos) X.env=(do
   let ov <- eval o X.env
   standAt apos.atName
   let (f,first) <- holding [ov] #[UO]
   callWith pos f first (backTo pos #[S7]) (backToKw pos (keywordEach [] X.env))):=by rfl) :
  PE X (.Call #[Rz] (e :: es) [] pos) (zjq C m sp qF E ta t):=by
 intro mO s σ H Q I h;refine fb (pl:=pl) (thn #[KM] fun u s1 ⟨x,H1,I1,rx,a,dx,fs,ex,ea,l,q⟩=>?_) ht;subst ex;obtain rfl:u=aN a:=rx;refine zcu I1 ea c hm l ?_;refine eU (first:=[.ref a]) (h₀:=X.base) I.ok.mod.kin hm.kp (thn #[XR] fun us s2 ⟨vs,H2,I2,r,q2⟩=>⟨I2.kIn,?_⟩) pA oR;exact ziL (us:=.ref a :: us) (vs:=.ref a :: vs) F hr hb hd hx I2 (.cons rfl r) q2
theorem zdH {pl:Sem Bool} (he:PE X o ta) (c:Cls X.K C) (hm:OH X.K C m f) (F:Kx X.prog X.w X.K X.mg X.base CX k f fd ps sp) (hr:LU k X.A) (hb:Binds X.K fd ps ds) (hd:zM qF ds) (hx:zcv CX X E)
  (ht:eval (.Call #[Rz] [] [] pos) X.env=(do
   let ov <- eval o X.env
   standAt apos.atName
   let (f,first) <- holding [ov] #[UO]
   callWith pos f first (backTo pos (starEach [] X.env)) (backToKw pos (keywordEach [] X.env))):=by rfl) :
  PE X (.Call #[Rz] [] [] pos) (zjq C m sp qF E ta zl6):=by
 intro mO s σ H Q I h;refine fb (pl:=pl) (thn #[KM] fun u s1 ⟨x,H1,I1,rx,a,dx,fs,ex,ea,l,q⟩=>?_) ht;subst ex;obtain rfl:u=aN a:=rx;refine zcu I1 ea c hm l ?_;exact j3 (first:=[.ref a]) I1.kIn hm.kp (ziL (us:=[.ref a]) (vs:=[.ref a]) F hr hb hd hx I1 #[VG] q)
structure Mk (K:af) (C f:Addr):Prop where
 makes:je K C=true
 init:aK K #[Rl] "__init__" = some #[UG]
 fn:gE K #[SL]=true
 kp:cY K #[Rl]=true
theorem zl7 {σ:St} {Q:VK} {vs:List V} (M:Mk X.K C f) (F:Kx X.prog X.w X.K X.mg X.base CX k f fd ps sp) (hr:LU (k+1) X.A) (hb:Binds X.K fd ps ds) (hd:zM qF ds)
  (hx:zcv CX X E) (I:Inv X mO σ H s) (r:zM vs us)
  (h:∀ x dx,H x=none->H dx=none->dx≠x->sp (.ref x :: (vs++qF)) (mR (mR H dx (.own x)) x (.ins C dx [])) (fun v H2=>v = .non/\Q #[UC] H2) E) :
  wpAny #[on] X.A (call #[Rl] us) #[P3] X.xe s:=by
 have hq:=h #[ul] s.heap.objs.size (I.hok.fresh (gc _)) #[Ti] (aQ (fm _));have I2:=Inv.made (C:=C) I;have r2:zM (V.ref #[ul] :: (vs++qF)) (aN #[ul] :: (us++ds)):=.cons rfl (r.append hd);have hl:(aN #[ul] :: us++ds).length=ps.length:=by
  have e:=r2.length;rw [F.len _ _ _ _ hq] at e;exact e.symm
 refine gG (zl5 (f:=f) I.kIn M.makes M.init (beq_iff_eq.mp M.fn) (fH (F.run _ X.stack _ _ ⟨aN #[ul] :: us,[]⟩ (aN #[ul] :: (us++ds)) _ _ E (hr.make C us [])
  (I2.QP.make C us []) (hb _ (aN #[ul] :: us) I2.kIn hl) r2 hq) fun r s' uw=>?_))
 cases r with
 | error e=>exact hx mO σ _ _ e s' I2 uw
 | ok fl =>
  cases fl with
  | ret u =>
   obtain⟨v,H',I3,rv,ev,q3⟩:=I2.after uw;subst ev;exact⟨rv,⟨V.ref #[ul],H',I3,rfl,q3⟩⟩
  | next=>exact bV uw
  | brk=>exact bV uw
  | cont=>exact bV uw
theorem znB (M:Mk X.K C f) (F:Kx X.prog X.w X.K X.mg X.base CX k f fd ps sp) (hr:LU (k+1) X.A) (hg:Gl X x) (hm:X.mg x=some #[Rl]) (hb:Binds X.K fd ps ds) (hd:zM qF ds) (hx:zcv CX X E)
  (ha:PA X (e :: es) t) (Br:(x == ("__debug__" : Str))=false:=by decide) (he:starEach (e :: es) X.env=#[FB] :: starEach es X.env:=by rfl) (oR:#[Do].any (·.1)=false:=by rfl) :
  PE X (.Call #[X5] (e :: es) [] pos) (zp8 C sp qF E t):=by
 intro mO s σ H Q I h;refine eR #[Wg];refine eU (h₀:=X.base) I.ok.mod.kin M.kp (thn #[FM] fun us s1 ⟨vs,H1,I1,r,q⟩=>⟨I1.kIn,?_⟩) he oR;exact zl7 M F hr hb hd hx I1 r q
end
structure Ko (N P:List Str) (sc:Scope):Prop where
 kind:sc.kind = .function
 co:sc.isCoroutine=false
 gen:sc.isGenerator=false
 nd:N.Nodup
 pre:N.take P.length=P
 par:∀ x∈P,sc.names.lookup x=some .local\/sc.names.lookup x=some .cell
 QI:∀ y∈sc.names,y.2≠.free
theorem zf5 {kindOf:Str->Option NameKind} {x:Str}:∀ {binds:List (Str×Value)} {m:Str->Option Value},(∀ v,(x,v)∉binds)->bindL kindOf binds m x=m x
 | [],_,_=>rfl
 | (n,v) :: r,m,h=>by
  unfold bindL;rw [zf5 fun w hw=>h w (aq _ hw)];split
  ·have:x≠n:=by rintro rfl; exact h v aE
   simp [this]
  ·rfl
theorem zf6 {kindOf:Str->Option NameKind} {x:Str}:∀ {binds:List (Str×Value)} {m:Str->Option Value},(∀ v,(x,v)∉binds)->bindC kindOf binds m x=m x
 | [],_,_=>rfl
 | (n,v) :: r,m,h=>by
  unfold bindC;rw [zf6 fun w hw=>h w (aq _ hw)];split
  ·rfl
  ·have:x≠n:=by rintro rfl; exact h v aE
   simp [this]
theorem zf7 {kindOf:Str->Option NameKind} {x:Str} {v:Value}:∀ {P:List Str} {vs:List Value} {i:Nat} {m:Str->Option Value},P.Nodup->P[i]? = some x->vs[i]? = some v->kindOf x=some .local ->
  bindL kindOf (P.zip vs) m x=some v
 | [],_,_,_,_,h,_,_=>by simp at h
 | _ :: _,[],_,_,_,_,h,_=>by simp at h
 | p :: P,w :: vs,0,m,nd,h1,h2,hk=>by
  simp at h1 h2; subst h1; subst h2;show bindL kindOf #[Va] m p=_;unfold bindL;rw [zf5 fun v hv=>(dQ.mp nd).1 (gH hv).1,if_pos hk];simp
 | p :: P,w :: vs,i+1,m,nd,h1,h2,hk=>by
  show bindL kindOf #[Va] m x=_;unfold bindL;exact zf7 (i:=i) (dQ.mp nd).2 (by simpa using h1) (by simpa using h2) hk
theorem zf8 {kindOf:Str->Option NameKind} {x:Str} {v:Value}:∀ {P:List Str} {vs:List Value} {i:Nat} {m:Str->Option Value},P.Nodup->P[i]? = some x->vs[i]? = some v->kindOf x≠some .local ->
  bindC kindOf (P.zip vs) m x=some v
 | [],_,_,_,_,h,_,_=>by simp at h
 | _ :: _,[],_,_,_,_,h,_=>by simp at h
 | p :: P,w :: vs,0,m,nd,h1,h2,hk=>by
  simp at h1 h2; subst h1; subst h2;show bindC kindOf #[Va] m p=_;unfold bindC;rw [zf6 fun v hv=>(dQ.mp nd).1 (gH hv).1,if_neg hk];simp
 | p :: P,w :: vs,i+1,m,nd,h1,h2,hk=>by
  show bindC kindOf #[Va] m x=_;unfold bindC;exact zf8 (i:=i) (dQ.mp nd).2 (by simpa using h1) (by simpa using h2) hk
noncomputable def start (N:List Str) (vs:List V):St:=vs.map some++am (N.length - vs.length) none
noncomputable def zb1 (CX:CXT) (P:Program) (w:World) (K:af) (mg:Str->Option Value) (base:Heap) (N:List Str) (qual:Str) (scope:Scope) (f:Addr) (cd:Value) (A:Around) (outer:List Env) (s:Shared) (H:Hp) (E:XK):Cx where
 prog:=P
 w:=w
 K:=K
 mg:=mg
 base:=base
 A:=A.deeper #[LE]
 N:=N
 s₀:=s
 H₀:=H
 env:=envOfC qual scope s.heap.objs.size f cd
 outer:=outer
 stack:=envOfC qual scope s.heap.objs.size f cd :: outer
 ex:=[]
 calm:=true
 fn:=fun _=>true
 pn:=[]
 xe:=fun e s'=>wpAny #[UF] (A.deeper #[LE]) (leaving #[LE] e) (fun _ E6=>CX outer H s E e E6) (fun e' E6=>CX outer H s E e' E6) s'
theorem zht {sc:Scope} {n:Nat} {x:Str} (h:sc.names.lookup x=some .cell):∃ c,(cellsFrom n sc.names []).lookup x=some c:=by
 have q:=gd sc.names n [] (.inl h);exact Option.isSome_iff_exists.mp q
theorem zf9 {P:Program} {base:Heap} {ps:List Str} {f:Addr} {E:XK} {vs:List V}
  (S:Ko N ps scope) (hd:A.handled=none) (e0:Qf P w K mg base A outer s H) (hl:vs.length=ps.length) (r:zM vs us)
  (x:InCallC s s.heap.objs.size (bindL #[LE].kindOf #[Ws] fun _=>none) (cellsFrom #[ul] scope.names []) (bindC #[LE].kindOf #[Ws] fun _=>none) s1) :
  Inv #[T5] [] #[SY] H s1:=by
 have oR:ps.length<=N.length:=by have:=congrArg eA S.pre; rw [aA] at this; lia
 obtain⟨h1,tk,rfl,hk⟩:=x.done;have Bs:∀ b:Addr,b∉#[T5].ex:=fun b z=>absurd (show b∈([]:List Addr) from z) #[M]
 refine⟨⟨e0.mod,S.kind,rfl,rfl,ah _,fun y z c h1 h2=>?_,fun y hy=>?_,fun y c _ h=>?_,fun _=>hd,Around.frames_deeper e0.frames,.inr ⟨rfl,rfl⟩,fun b z=>absurd z (Bs b),e0.bs,e0.bsz,fun b _ _=>Bs b,fun b z=>absurd z (Bs b),e0.NO,e0.frf⟩,
  rfl,e0.bare,Un.kept hk,⟨_,x.toInCall.ns,fun i y v h1 h2 h3=>?_⟩,fun y c h=>⟨_,x.cell y c h⟩,e0.hok.fresh (ah _),fun y c h=>?_,fun p hp=>absurd (show p∈([]:List (Addr×Obj)) from hp) #[M],e0.hok.kept hk,?_⟩
 ·exact name_of_addr x.apart (eJ h1) (eJ h2)
 ·have hy:scope.names.lookup y=some .cell\/scope.names.lookup y=some .free:=hy;rcases hy with hy | hy
  ·exact zht hy
  ·exact absurd rfl (S.QI _ (eJ hy))
 ·exact iK (x.above y c (eJ h))
 ·have hi:i < vs.length:=by
   unfold start at h2;by_cases hi:i < vs.length
   ·exact hi
   ·rw [bg (by simpa using hi)] at h2;rw [List.getElem?_replicate] at h2;split at h2 <;> cases h2
  have ha:vs[i]? = some v:=by
   unfold start at h2;rw [aX (by simpa using hi),ao] at h2;cases e:vs[i]? with
   | none=>rw [e] at h2; cases h2
   | some a=>rw [e] at h2; cases h2; rfl
  obtain⟨u,hu,rv⟩:=r.get ha;have hp:ps[i]? = some y:=by
   rw [<- S.pre,cf #[O]]; exact h1
  have ndP:ps.Nodup:=by rw [<- S.pre]; exact S.nd.sublist (cN _ _)
  refine⟨u,rv,?_⟩;rcases S.par y (aV hp) with k | k
  ·exact .inl ⟨k,zf7 ndP hp hu k⟩
  ·obtain⟨c,e⟩:=zht (n:=s.heap.objs.size+1) k;refine .inr ⟨.inl k,c,e,?_⟩;have q:=x.cell y c e;rw [zf8 ndP hp hu (by show scope.names.lookup y≠_; rw [k]; decide)] at q;exact q
 ·exact e0.hok.fresh (iK (x.above y c (eJ h)))
 ·unfold start;show _=N.length;rw [aF,ae,dR];lia
theorem zoG {P:Program} {base:Heap} {f:Addr} {name:Str} {params:Arguments} {body:List Stmt} {dV kV:Value} 
  {ps:List Str} (lk:K.lookup f=some ⟨oc,od,.func #[IR],yA⟩) (uJ:eC K nA qual=true) (S:Ko N ps scope)
  (len:∀ vs H Q E,sp vs H Q E->vs.length=ps.length)
  (qG:∀ (A:Around) (outer:List Env) (s:Shared) (H:Hp) (vs:List V) (Q:VK) (E:XK),LU k #[Ul]->sp vs H Q E ->
   ∃ t,PSs #[RH] body t/\t { nx:=fun _ H'=>Q .non H',rt:=Q } #[SY] H) :
  Kx P w K mg base CX (k+1) f #[IR] ps sp:=by
 refine#[T4];have hl:=len _ _ _ _ uL;have KX:K.In s.heap:=e0.mod.kin.keeps fun b o e=>#[XM].1
 have lim:s.heap.NoLimit:=e0.mod.nolimit.keeps fun b o e=>#[XM].1
 have su:∀ y∈ps.zip us,scope.names.lookup y.1=some .local\/(scope.names.lookup y.1=some .cell/\((cellsFrom #[ul] scope.names []).lookup y.1).isSome=true):=fun ⟨n,v⟩ hy=>by
  rcases S.par n (gH hy).1 with q | q
  ·exact .inl q
  ·exact .inr ⟨q,gd _ _ _ (.inl q)⟩
 refine jy hr.depth (KX _ _ lk) rfl S.co S.gen rfl (ky KX uJ) (hb _ _ _ _ ?_);refine ir S.kind su fun env he s1 x=>?_
 subst he;refine#[UR];obtain⟨t,ht,hq⟩:=qG A outer s H vs Q E (hr.deeper _) uL;have I:Inv #[RH] [] #[SY] H s1:=zf9 S hr.hd e0 hl r x;refine bR (ht [] s1 #[SY] H _ I hq) (fun fl s' hs=>?_) fun e s' hs=>hs
 have fin:∀ {σ':St} {H':Hp} {v:V} {u:Value},Inv #[RH] [] σ' H' s'->RelV v u->Q v H'->CE outer P w H s Q u s' :=
  fun {σ' H' v u} J rv q=>⟨v,H',J.os,J.bare,J.base,J.hok,rv,q⟩
 cases fl with
 | ret u =>
  obtain⟨v,σ',H',J,rv,q⟩:=hs;exact fin J rv q
 | next =>
  obtain⟨σ',H',J,q⟩:=hs;exact fin (v:=V.non) (u:=ci) J rfl q
 | brk =>
  obtain⟨_,_,_,q⟩:=hs;exact bV q
 | cont =>
  obtain⟨_,_,_,q⟩:=hs;exact bV q
section
variable {X:Cx} {x:Str} {p pos:Pos} {e:Expr} {es:List Expr} {t:TA} {id T:String} {r:List V->Hp->VK->Prop}
noncomputable def tCB (r:List V->Hp->VK->Prop) (t:TA):TE:=fun σ H Q=>t σ H fun vs H1=>r vs H1 Q
theorem zr (hc:zbm X #[TJ] r) (hg:Gl X x) (hm:X.mg x=none) (hv:bootBuiltins x=some #[TJ]) (ha:PA X (e :: es) t) (hn:x≠"__name__":=by decide) (Br:(x == ("__debug__" : Str))=false:=by decide)
  (he:starEach (e :: es) X.env=#[FB] :: starEach es X.env:=by rfl) (oR:#[Do].any (·.1)=false:=by rfl):PE X (.Call #[X5] (e :: es) [] pos) (tCB r t):=by
 intro mO s σ H Q I h;refine eR #[Yo];exact PyProof.Rows.callWith_builtin1 (thn #[FM] fun us s1 ⟨vs,H1,I1,r1,q1⟩=>hc mO s1 σ H1 vs us Q I1 r1 q1) he oR
theorem zaW (hc:zbm X (.type T) r) (hg:Gl X x) (hm:X.mg x=none) (hv:bootBuiltins x=some (.type T)) (ha:PA X (e :: es) t) (hn:x≠"__name__":=by decide) (Br:(x == ("__debug__" : Str))=false:=by decide)
  (he:starEach (e :: es) X.env=#[FB] :: starEach es X.env:=by rfl) (oR:#[Do].any (·.1)=false:=by rfl):PE X (.Call #[X5] (e :: es) [] pos) (tCB r t):=by
 intro mO s σ H Q I h;refine eR #[Yo];exact bS (thn #[FM] fun us s1 ⟨vs,H1,I1,r1,q1⟩=>hc mO s1 σ H1 vs us Q I1 r1 q1) he oR
end
end L2
namespace HT
open PySem PyProof.Rows
section
variable {prog:Program} {w:World} {A:Around} {E:Value->Shared->Prop} {s:Shared}
theorem Qw {t b:Addr} {vs ws:List Value} {Q:Value->Shared->Prop} (ht:IsTup s.heap t vs.toArray) (hb:IsTup s.heap b ws.toArray) (hv:vs≠[])
  (h1:ws = []->Q (.ref t) s) (h2:ws≠[]->Q #[t0] { s with heap:=s.heap.push { cls:=.type "tuple",data:=.seq (vs++ws).toArray } })
  (hsz:vs.length+ws.length<=sizeLine):wpAny #[or] A (binaryOp .Add (.ref t) (.ref b)) Q E s:=by
 obtain⟨⟨cls,dd,data,sl⟩,ho,hc,n,hd⟩:=id ht;obtain⟨⟨HI,GR,data2,Bb⟩,tZ,Cp,n2,hd2⟩:=id hb;simp only at hc hd Cp hd2;subst hc hd Cp hd2;have e:vs.toArray++ws.toArray=(vs++ws).toArray:=by simp
 by_cases hw:ws = []
 ·exact kz ⟨_,ho,rfl⟩ ⟨_,tZ,rfl⟩ iM jW ge fU (fI _ _)
   (tuple_addW1 t b vs.toArray ws.toArray n n2 dd GR sl Bb (by simpa using hv) (by simp [hw])) ⟨ho,tZ,h1 hw⟩
 ·refine kz ⟨_,ho,rfl⟩ ⟨_,tZ,rfl⟩ iM jW ge fU (fI _ _)
   (tuple_addW2 t b vs.toArray ws.toArray n n2 dd GR sl Bb (by simpa using hv) (by simpa using hw) (by rw [au,au]; exact hsz)) ⟨ho,tZ,?_⟩
  rw [e];exact h2 hw
noncomputable def sIx (n d:Nat):Option Int->Nat
 | none=>d
 | some v=>if v < 0 then (v+(n:Int)).toNat else min v.toNat n
theorem Ov (n d:Nat):sIx n d none=d:=rfl
theorem Pf (n d k:Nat):sIx n d (some (k:Int))=min k n:=by
 show (if (k:Int) < 0 then ((k:Int)+(n:Int)).toNat else min (k:Int).toNat n)=min k n;rw [if_neg #[O],bd]
end
end HT
namespace L2
open PySem PySem.Spec PyProof.Rows
variable {A:Around} {H:Hp} {j t':Nat} {mO:List (Addr×Obj)} {mT us:List Value} {ns:List Int} {s:Shared} {y:V}
abbrev TO:=St->Hp->(Option Int->Hp->Prop)->Prop
noncomputable def PO (X:Cx) (e:Option Expr) (t:TO):Prop :=
 ∀ (mO:List (Addr×Obj)) (s:Shared) (σ:St) (H:Hp) (Q:Option Int->Hp->Prop),Inv X mO σ H s->t σ H Q ->
  wpAny #[on] X.A (evalPart e X.env) (fun u s'=>∃ o H',Inv X mO σ H' s'/\IsPart u o/\Q o H') X.xe s
noncomputable def znC:TO:=fun _ H Q=>Q none H
noncomputable def zp9 (t:TE):TO:=fun σ H Q=>t σ H fun x H1=>∃ i,x = .int i/\Q (some i) H1
theorem intsAre_of:∀ {us:List Value},zM #[AT] us->IntsAre us ns:=by
 induction ns with
 | nil=>intro us r; rw [kA] at r; cases r; exact .nil
 | cons n ns ih =>
  intro us r;rw [bj] at r;cases r with
  | cons r1 r2 =>
   obtain⟨t,e⟩:=r1;subst e;exact .cons n t (ih r2)
section
variable {X:Cx} {e:Expr} {te:TE} {lo hi:Option Expr} {tl th:TO} {pos p2:Pos}
theorem zcw:PO X none znC:=by
 intro mO s σ H Q I h;rw [evalPart_none];exact ag ⟨none,H,I,.none,h⟩
theorem zcx (h:PE X e te):PO X (some e) (zp9 te):=by
 intro mO s σ H Q I hw;rw [evalPart_some];refine thn #[VZ] fun u s1 ⟨x,H1,I1,r1,q1⟩=>?_
 obtain⟨i,rfl,q⟩:=q1;obtain⟨t,rfl⟩:=r1;exact⟨some i,H1,I1,.int i t,q⟩
noncomputable def SlR (X:Cx) (r:V->Option Int->Option Int->Hp->VK->Prop):Prop :=
 ∀ (mO:List (Addr×Obj)) (s:Shared) (σ:St) (H:Hp) (x:V) (v vl vu:Value) (lo hi:Option Int) (sl:Addr) (Q:VK),Inv X mO σ H s->RelV x v->s.heap.IsSliceOf sl vl vu .none->IsPart vl lo->IsPart vu hi->r x lo hi H Q ->
  ∃ T id,typeLookup (.type T) "__getitem__" = pure (some #[TJ])/\s.TypeIs v T/\wpAny #[on] X.A (getItem v (.ref sl)) #[P3] X.xe s
noncomputable def tSl (r:V->Option Int->Option Int->Hp->VK->Prop) (te:TE) (tl th:TO):TE:=fun σ H Q=>te σ H fun x H1=>tl σ H1 fun l H2=>th σ H2 fun u H3=>r x l u H3 Q
theorem zbS {r:V->Option Int->Option Int->Hp->VK->Prop} (hr:SlR X r) (he:PE X e te) (hl:PO X lo tl) (hu:PO X hi th):PE X (.Subscript e (.Slice lo hi none p2) pos) (tSl r te tl th):=by
 intro mO s σ H Q I h;refine Subscript_ (thn #[KM] fun v s1 ⟨x,H1,I1,r1,q1⟩=>?_);refine wpAny_Slice (thn (hl mO s1 σ H1 _ I1 q1) fun vl s2 ⟨l,H2,I2,pl,q2⟩=>thn (hu mO s2 σ H2 _ I2 q2) fun vu s3 ⟨u,H3,I3,pu,q3⟩=>?_);rw [evalPart_none];refine ag ?_;have I4:Inv X mO σ H3 { s3 with heap:=s3.heap.push { cls:=.type "slice",data:=.fields #[vl,vu,.none] } }:=I3.kept (t':=s3.toks) fun b ob q=>ai _ q
 obtain⟨T,id,hT,ht,hg⟩:=hr mO { s3 with heap:=s3.heap.push { cls:=.type "slice",data:=.fields #[vl,vu,.none] } } σ H3 x v vl vu l u s3.heap.objs.size Q I4 r1 (Heap.IsSliceOf.new ..) pl pu q3;show wpAny #[on] X.A (subscriptTail e (.Slice lo hi none p2) v (.ref s3.heap.objs.size)) #[P3] X.xe { s3 with heap:=s3.heap.push { cls:=.type "slice",data:=.fields #[vl,vu,.none] } };exact tail_any (ops:=[.ref s3.heap.objs.size,v]) ht hT hg (by with_unfolding_all rfl)
noncomputable def zcy (xs:List V) (lo hi:Option Int):List V:=(xs.drop (HT.sIx xs.length 0 lo)).take #[TL]
theorem zhu (xs:List V) (lo hi:Option Int):(zcy xs lo hi).length<=xs.length:=by
 unfold zcy;rw [aA,bP];lia
noncomputable def zqa (K:af):R2:=fun x y H Q=>∃ a b xs ys,x = .ref a/\y = .ref b/\m7 K H a xs/\m7 K H b ys/\xs≠[]/\xs.length+ys.length<=sizeLine /\
 (ys = []->Q #[RC] H)/\(ys≠[]->∀ p,H p=none->Q (.ref p) (mR H p (.tup (xs++ys))))
theorem zM.Ng {xs:List V} (r:zM xs us):us = []↔xs = []:=by
 cases r with
 | nil=>simp
 | cons _ _=>simp
theorem znD:OpR X #[Wa] (zqa X.K):=by
 intro mO s σ H x y v u Q I rx ry h;obtain⟨a,b,xs,ys,rfl,rfl,ha,hb,hx,hz,q1,q2⟩:=h;cases rx;cases ry;obtain⟨mT,r1,p1,_⟩:=I.tuple ha;obtain⟨nS,r2,p2,_⟩:=I.tuple hb;refine HT.Qw p1 p2 (fun z=>hx (r1.Ng.mp z)) (fun z=>⟨.ref a,H,I,rfl,q1 (r2.Ng.mp z)⟩) (fun z=>?_) (by rw [<- r1.length,<- r2.length]; exact hz);refine⟨.ref s.heap.objs.size,_,I.laid (t':=s.toks) (o:=.tup (xs++ys)) (fun b ob q=>ai _ q) (ah _) ?_,rfl,q2 (fun w=>z (r2.Ng.mpr w)) _ #[Ti]⟩;exact⟨by rw [aF]; exact hz,_,r1.append r2,IsTup.new _ _⟩
end
noncomputable def ixN (n:Nat) (i:Int):Option Nat:=if 0<=i then (if i < n then some i.toNat else none) else if -(n:Int)<=i then some (i+n).toNat else none
noncomputable def atI {α:Type} (xs:List α) (i:Int):Option α:=(ixN xs.length i).bind fun j=>xs[j]?
theorem zjr {n:Nat} {i:Int} (h:ixN n i=some j):seqIndex? i n=some j/\j < n/\-(n:Int)<=i/\i < n:=by
 unfold ixN at h;by_cases h0:0<=i
 ·rw [if_pos h0] at h;by_cases h1:i < n
  ·rw [if_pos h1] at h;have e:i.toNat=j:=aO h;exact⟨by rw [hX h0 h1,e],#[O],#[O],h1⟩
  ·rw [if_neg h1] at h; cases h
 ·rw [if_neg h0] at h;by_cases h1:-(n:Int)<=i
  ·rw [if_pos h1] at h;have e:(i+n).toNat=j:=aO h;exact⟨by rw [kB #[O] h1,e],#[O],h1,#[O]⟩
  ·rw [if_neg h1] at h; cases h
theorem zjs {α:Type} {xs:List α} {i:Int} {v:α} (h:atI xs i=some v):∃ j,seqIndex? i xs.length=some j/\xs[j]? = some v/\j < xs.length/\-(xs.length:Int)<=i/\i < xs.length:=by
 unfold atI at h;cases e:ixN xs.length i with
 | none=>rw [e] at h; cases h
 | some j =>
  rw [e] at h;obtain⟨h1,h2,h3,h4⟩:=zjr e;exact⟨j,h1,h,h2,h3,h4⟩
theorem zag {α:Type} {xs:List α} {v:α} (h:xs[j]? = some v):atI xs (j:Int)=some v:=by
 have hj:j < xs.length:=(aj.mp h).1;have e:ixN xs.length (j:Int)=some j:=by
  unfold ixN;rw [if_pos #[O],if_pos #[O]]; simp
 unfold atI; rw [e]; exact h
theorem zl8 {α:Type} (xs:List α) (v:α):atI (xs++[v]) (-1)=some v:=by
 have hl:(xs++[v]).length=xs.length+1:=by simp
 have e:ixN (xs++[v]).length (-1)=some xs.length:=by
  unfold ixN;rw [hl,if_neg #[D],if_pos #[O]];congr 1;lia
 unfold atI;rw [e];show (xs++[v])[xs.length]? = some v;simp
noncomputable def znE (b:Expr):Prop:=∀ o i,subscripted b false o i=operate [o,i] (getItem o i)
noncomputable def IxR (X:Cx) (r:R2):Prop :=
 ∀ (value slice:Expr) (mO:List (Addr×Obj)) (s:Shared) (σ:St) (H:Hp) (x y:V) (v u:Value) (Q:VK),Inv X mO σ H s->RelV x v->RelV y u->r x y H Q ->
  subscripted slice false v u=operate [v,u] (getItem v u)->wpAny #[on] X.A (subscriptTail value slice v u) #[P3] X.xe s
noncomputable def MtR (X:Cx) (id:String) (r:V->List V->Hp->VK->Prop):Prop :=
 ∀ (mO:List (Addr×Obj)) (s:Shared) (σ:St) (H:Hp) (x:V) (xs:List V) (v:Value) (us:List Value) (Q:VK),Inv X mO σ H s->RelV x v->zM xs us->r x xs H Q ->
  wpAny #[on] X.A (call #[TJ] (v :: us)) #[P3] X.xe s
section
variable {X:Cx} {a b:Expr} {ta tb:TE} {pos:Pos}
theorem zB {r:R2} (hr:IxR X r) (ha:PE X a ta) (hb:PE X b tb) (hs:znE b):PE X (.Subscript a b pos) #[XI]:=by
 intro mO s σ H Q I h;exact Subscript_ (zo1 ha hb I h fun v u s2 x y H2 I2 rx ry q=>hr a b mO s2 σ H2 x y v u Q I2 rx ry q (hs _ _))
noncomputable def zqb (K:af):R2:=fun x y H Q=>∃ p xs i v,x = .ref p/\y = .int i/\mS K H p xs/\atI xs i=some v/\Q v H
noncomputable def zqc (K:af):R2:=fun x y H Q=>∃ p xs i v,x = .ref p/\y = .int i/\m7 K H p xs/\atI xs i=some v/\Q v H
theorem zU:IxR X (zqb X.K):=by
 intro value slice mO s σ H x y v u Q I rx ry h hs;obtain⟨p,xs,i,z,rfl,rfl,hq,he,q⟩:=h;cases rx;obtain⟨t,rfl⟩:=ry;obtain⟨mT,r,pl,hz⟩:=I.list hq;obtain⟨j,h1,h2,h3,h4,h5⟩:=zjs he;obtain⟨w,ew,E7⟩:=r.get h2;have hl:=r.length;have hn:=ze8;have fin:EP X mO σ Q w s:=⟨z,H,I,E7,q⟩;by_cases h0:0<=i
 ·have hj:i.toNat=j:=by
   rw [hX h0 h5] at h1;exact aO h1
  exact item_listR pl.isList h0 #[O] (by rw [hj]; simpa using ew) fin hs
 ·have hj:(i+(mT.toArray.size:Int)).toNat=j:=by
   rw [kB #[O] h4] at h1;rw [au,<- hl];exact aO h1
  exact jm (x:=w) pl.isList.typeIs slot_list_getitem.lookup
   (wpAny_getItem_list_neg (Q:=fun r s'=>r=w/\EP X mO σ Q r s') pl.isList #[O] (by rw [au] <;> lia) #[O] (by rw [hj]; simpa using ew) ⟨rfl,fin⟩) hs
theorem zW:IxR X (zqc X.K):=by
 intro value slice mO s σ H x y v u Q I rx ry h hs;obtain⟨p,xs,i,z,rfl,rfl,hq,he,q⟩:=h;cases rx;obtain⟨t,rfl⟩:=ry;obtain⟨mT,r,pl,hz⟩:=I.tuple hq;obtain⟨j,h1,h2,h3,h4,h5⟩:=zjs he;obtain⟨w,ew,E7⟩:=r.get h2;have hl:=r.length;have hn:=ze8;have fin:EP X mO σ Q w s:=⟨z,H,I,E7,q⟩;exact jm (x:=w) pl.typeIs slot_tuple_getitem.lookup
  (getItem_tuple (j:=j) (Q:=fun r s'=>r=w/\EP X mO σ Q r s') pl #[O] #[O] (by rw [au,<- hl]; exact h1) (by simpa using ew) ⟨rfl,fin⟩) hs
theorem ziM (mT:List Value) (n j:Nat) (u:Value):cI (·.setIfInBounds j u) { cls:=.type "list",data:=.seq mT.toArray n } = { cls:=.type "list",data:=.seq (mT.set j u).toArray n }:=by
 simp [cI]
theorem Inv.lst {mO:List (Addr×Obj)} {σ:St} {H:Hp} {s:Shared} {p:Addr} {xs:List V} (I:Inv X mO σ H s) (h:H p=some #[Sr]) :
  ∃ (mT:List Value) (n:Nat),zM xs mT/\s.heap.get? p=some { cls:=.type "list",data:=.seq mT.toArray n }/\xs.length<=sizeLine:=by
 obtain⟨z,mT,n,r,e⟩:=I.hok p _ h;exact⟨mT,n,r,e,z⟩
theorem Inv.QL {σ:St} {p:Addr} {xs ys:List V} {its':List Value} {n n':Nat} {f:Obj->Obj} (I:Inv X mO σ H s) (h:H p=some #[Sr])
  (ho:s.heap.get? p=some { cls:=.type "list",data:=.seq mT.toArray n }) (hf:f { cls:=.type "list",data:=.seq mT.toArray n } = { cls:=.type "list",data:=.seq its'.toArray n' }) (r:zM ys its') (hz:ys.length<=sizeLine) (t:Nat) :
  Inv X mO σ (mR H p #[VA]) { s with heap:=s.heap.update p f,toks:=t }:=by
 have e:(s.heap.update p f).get? p=some { cls:=.type "list",data:=.seq its'.toArray n' }:=by
  rw [bW f ho (by rw [hf] <;> rfl),hf]
 refine I.write (x:=p) (e:=p) (by rw [h]; trivial) #[Os] (fun b u hb q=>(dN _ _ (cX hb)).trans q) ⟨_,e⟩ ?_;exact⟨hz,its',n',r,e⟩
noncomputable def zqd:V->V->V->Hp->(Hp->Prop)->Prop:=fun o i v H Q=>∃ p xs k j,o = .ref p/\i = .int k/\H p=some #[Sr]/\ixN xs.length k=some j/\Q (mR H p (.lst (xs.set j v)))
theorem set_list:zp2 X zqd:=by
 intro mO s σ H o i v ov iv u Q I ro ri rv h;obtain⟨p,xs,k,j,rfl,rfl,hp,hj,q⟩:=h;cases ro;obtain⟨t,rfl⟩:=ri;obtain⟨mT,n,r,ho,hz⟩:=I.lst hp;obtain⟨h1,h2,h3,h4⟩:=zjr hj;have hl:=r.length;have hn:=ze8;have I':Inv X mO σ (mR H p (.lst (xs.set j v))) { s with heap:=s.heap.update p (cI (·.setIfInBounds j u)) } :=
  I.QL hp ho (ziM mT n j u) (r.set rv j) (by rw [jf]; exact hz) s.toks
 by_cases h0:0<=k
 ·have hk:k.toNat=j:=by
   rw [hX h0 h4] at h1;exact aO h1
  exact PySem.W.ki_setAt ho h0 #[O] (by rw [au,<- hl]; exact h4) (by rw [hk]; exact⟨_,I',q⟩)
 ·have hk:(k+(mT.toArray.size:Int)).toNat=j:=by
   rw [kB #[O] h3] at h1;rw [au,<- hl];exact aO h1
  exact PySem.W.ki_setBack ho #[O] (by rw [au,<- hl]; exact h3) #[O] (by rw [hk]; exact⟨_,I',q⟩)
theorem zgF (lo hi:Option Int) (n:Nat):#[UN].1=((HT.sIx n 0 lo:Nat):Int)/\#[UN].2.1=((HT.sIx n n hi:Nat):Int)/\#[UN].2.2=1:=by
 refine⟨?_,?_,rfl⟩
 ·cases lo with
  | none=>simp [sliceBounds,HT.sIx]
  | some i =>
   simp only [sliceBounds,HT.sIx,lp,show (1:Int) > 0 by decide,if_true];by_cases h:i < 0
   ·simp only [h,if_true] <;> lia
   ·simp only [h,if_false] <;> lia
 ·cases hi with
  | none=>simp [sliceBounds,HT.sIx]
  | some i =>
   simp only [sliceBounds,HT.sIx,lp,show (1:Int) > 0 by decide,if_true];by_cases h:i < 0
   ·simp only [h,if_true] <;> lia
   ·simp only [h,if_false] <;> lia
theorem zfN (mT:List Value) (lo hi:Option Int):slicePick mT.toArray lo hi none=((mT.drop (HT.sIx mT.length 0 lo)).take (HT.sIx mT.length mT.length hi - HT.sIx mT.length 0 lo)).toArray:=by
 obtain⟨h1,h2,h3⟩:=zgF lo hi mT.toArray.size;unfold slicePick;rw [h1,h2,h3];simp only [sliceRange_one,pick_run,au] <;> rfl
noncomputable def zqP (K:af):V->Option Int->Option Int->Hp->VK->Prop:=fun x lo hi H Q=>∃ a xs,x = .ref a/\mS K H a xs/\∀ p,H p=none->Q (.ref p) (mR H p (.lst (zcy xs lo hi)))
theorem zcz:SlR X (zqP X.K):=by
 intro mO s σ H x v vl vu lo hi sl Q I rx hs pl pu h;obtain⟨a,xs,rfl,hx,q⟩:=h;cases rx;obtain⟨mT,r,ht,hz⟩:=I.list hx;have nj:=r.length;refine⟨"list",_,slot_list_getitem.lookup,ht.isList.typeIs,?_⟩;refine wpAny_getItem_list_slice ht.isList hs pl pu .none #[M] ?_ (by rw [au] <;> lia);rw [zfN,<- nj];refine⟨.ref s.heap.objs.size,_,I.laid (t':=s.toks) (o:=.lst (zcy xs lo hi)) (fun b ob q=>ai _ q) (ah _) ?_,rfl,q _ #[Ti]⟩;exact⟨bq (zhu xs lo hi) hz,_,0,(r.drop (HT.sIx xs.length 0 lo)).take #[TL],aD _ rfl⟩
noncomputable def zcP:V->Bool
 | .non=>true
 | .bl _=>true
 | .int _=>true
 | .str _=>true
 | _=>false
noncomputable def eqV:V->V->Bool
 | .non,.non=>true
 | .bl a,.bl b=>a == b
 | .bl a,.int b=>(if a then 1 else 0) == b
 | .int a,.bl b=>a == (if b then 1 else 0)
 | .int a,.int b=>a == b
 | .str a,.str b=>a == b
 | _,_=>false
theorem zl9 {x:V} {u v:Value} (ry:RelV y u) (rx:RelV x v) (fy:zcP y=true) (fx:zcP x=true):jJ A s u v (eqV y x):=by
 cases y with
 | non =>
  cases ry;cases x with
  | non=>cases rx; exact lI _
  | bl b=>cases rx; exact SeqAt.EqAt.none_bool b
  | int b=>obtain⟨t,rfl⟩:=rx; exact SeqAt.EqAt.none_int b t
  | str b=>obtain⟨t,rfl⟩:=rx; exact SeqAt.EqAt.none_str b t
  | _=>exact absurd (show false=true from fx) aJ
 | bl a =>
  cases ry;cases x with
  | non=>cases rx; exact SeqAt.EqAt.bool_none a
  | bl b=>cases rx; exact SeqAt.EqAt.bool_bool a b
  | int b=>obtain⟨t,rfl⟩:=rx; exact SeqAt.EqAt.bool_int a b t
  | str b=>obtain⟨t,rfl⟩:=rx; exact SeqAt.EqAt.bool_str a b t
  | _=>exact absurd (show false=true from fx) aJ
 | int a =>
  obtain⟨t',rfl⟩:=ry;cases x with
  | non=>cases rx; exact SeqAt.EqAt.int_none a t'
  | bl b=>cases rx; exact SeqAt.EqAt.int_bool a t' b
  | int b=>obtain⟨t,rfl⟩:=rx; exact SeqAt.EqAt.int_int a t' b t
  | str b=>obtain⟨t,rfl⟩:=rx; exact kf a t' b t
  | _=>exact absurd (show false=true from fx) aJ
 | str a =>
  obtain⟨t',rfl⟩:=ry;cases x with
  | non=>cases rx; exact SeqAt.EqAt.str_none a t'
  | bl b=>cases rx; exact SeqAt.EqAt.str_bool a t' b
  | int b=>obtain⟨t,rfl⟩:=rx; exact kg a t' b t
  | str b=>obtain⟨t,rfl⟩:=rx; exact SeqAt.EqAt.str_str a t' b t
  | _=>exact absurd (show false=true from fx) aJ
 | _=>exact absurd (show false=true from fy) aJ
noncomputable def eqU (x:V) (u:Value):Bool:=match u with
 | .none=>eqV .non x
 | .bool b=>eqV (.bl b) x
 | .int i _=>eqV #[Xk] x
 | .str z _=>eqV (.str z) x
 | _=>false
theorem zma {x:V} {u:Value} (r:RelV y u) (f:zcP y=true):eqU x u=eqV y x:=by
 cases y with
 | non=>cases r; rfl
 | bl b=>cases r; rfl
 | int i=>obtain⟨t,rfl⟩:=r; rfl
 | str z=>obtain⟨t,rfl⟩:=r; rfl
 | _=>exact absurd (show false=true from f) aJ
theorem zgG {x:V}:∀ {xs:List V} {us:List Value},zM xs us->xs.all zcP=true->us.any (eqU x)=xs.any fun y=>eqV y x
 | _,_,.nil,_=>rfl
 | y :: xs,u :: us,.cons r t,f=>by
  rw [jX,cg] at f;rw [gh,gh,zma r f.1,zgG t f.2]
theorem ze9 {A:Around} {s:Shared} {x:V} {v:Value} (rx:RelV x v) (fx:zcP x=true):∀ {xs:List V} {us:List Value},zM xs us->xs.all zcP=true->∀ u∈us,jJ A s u v (eqU x u)
 | _,_,.nil,_=>fun u hu=>by cases hu
 | y :: xs,u :: us,.cons r t,f=>fun u' hu=>by
  rw [jX,cg] at f;rcases az.mp hu with rfl | hu
  ·rw [zma r f.1]; exact zl9 r rx f.1 fx
  ·exact ze9 rx fx t f.2 u' hu
noncomputable def inV (x:V) (xs:List V):Bool:=xs.any fun y=>eqV y x
noncomputable def rIn (K:af) (neg:Bool):R2:=fun x y H Q=>∃ p xs,y = .ref p/\(mS K H p xs\/m7 K H p xs)/\zcP x=true/\xs.all zcP=true/\Q (.bl (if neg then !inV x xs else inV x xs)) H
theorem zga:OpR X (compareOp .In) (rIn X.K false):=by
 intro mO s σ H x y v u Q I rx ry h;obtain⟨p,xs,rfl,hq,fx,fs,q⟩:=h;cases ry;rcases hq with hq | hq
 ·obtain⟨mT,r,pl,hz⟩:=I.list hq;refine SeqAt.in_listAt (eqU x) pl.isList (fun w hw=>ze9 rx fx r fs w (by simpa using hw)) #[Td];rw [show mT.toArray.any (eqU x)=mT.any (eqU x) by simp,zgG r fs];exact q
 ·obtain⟨mT,r,pl,hz⟩:=I.tuple hq;refine SeqAt.in_tupleAt (eqU x) pl (fun w hw=>ze9 rx fx r fs w (by simpa using hw)) #[Td];rw [show mT.toArray.any (eqU x)=mT.any (eqU x) by simp,zgG r fs];exact q
theorem zy:zbm X (.builtin "len") (fun xs H Q=>∃ p ys,xs = [.ref p]/\(mS X.K H p ys\/m7 X.K H p ys)/\Q (.int ys.length) H):=by
 intro mO s σ H xs us Q I r h;obtain⟨p,ys,rfl,hq,q⟩:=h;obtain⟨u,rfl,rx⟩:=vals1 r;cases rx;have hn:=ze8;rcases hq with hq | hq
 ·obtain⟨mT,r',pl,hz⟩:=I.list hq;have nj:=r'.length;exact Calls.call_len_list pl.isList (by simp only [au] <;> lia) ⟨.int ys.length,H,I.tok _,⟨s.toks+1,by rw [au,nj]⟩,q⟩
 ·obtain⟨mT,r',pl,hz⟩:=I.tuple hq;have nj:=r'.length;exact len_tuple pl (by simp only [au] <;> lia) ⟨.int ys.length,H,I.tok _,⟨s.toks+1,by rw [au,nj]⟩,q⟩
theorem zdI:zbm X (.type "list") (fun xs H Q=>∃ p ys,xs = [.ref p]/\(mS X.K H p ys\/m7 X.K H p ys)/\∀ l,H l=none->Q #[SX] (mR H l #[VA])):=by
 intro mO s σ H xs us Q I r h;obtain⟨p,ys,rfl,hq,q⟩:=h;obtain⟨u,rfl,rx⟩:=vals1 r;cases rx;have fin:∀ (mT:List Value),zM ys mT->ys.length<=sizeLine->∀ (h':Heap) (c':Nat),(∀ b o',s.heap.get? b=some o'->h'.get? b=some o') ->
   h'.get? s.heap.objs.size=some { cls:=.type "list",dict:=none,data:=.seq mT.toArray c',slots:=#[] }->EP X mO σ Q #[t0] { s with heap:=h' }:=fun mT r' hz h' c' kp e =>
  ⟨.ref s.heap.objs.size,_,I.laid (t':=s.toks) kp (ah _) (show zab X.prog X.w _ h' _ #[VA] from ⟨hz,mT,c',r',e⟩),rfl,q _ #[Ti]⟩
 rcases hq with hq | hq
 ·obtain⟨mT,r',pl,hz⟩:=I.list hq;have nj:=r'.length;obtain⟨o,ho,hc,n,hd⟩:=pl.isList;exact call_list_seq p #[Os] ho hc hd #[Vo] (by simp only [au] <;> lia)
 ·obtain⟨mT,r',pl,hz⟩:=I.tuple hq;have nj:=r'.length;obtain⟨o,ho,hc,n,hd⟩:=pl;exact call_list_seq p (.inr rfl) ho hc hd #[Vo] (by simp only [au] <;> lia)
theorem zbz:zbm X (.type "tuple") (fun xs H Q=>∃ p ys,xs = [.ref p]/\((mS X.K H p ys/\∀ l,H l=none->Q #[SX] (mR H l (.tup ys)))\/(m7 X.K H p ys/\Q (.ref p) H))):=by
 intro mO s σ H xs us Q I r h;obtain⟨p,ys,rfl,h⟩:=h;obtain⟨u,rfl,rx⟩:=vals1 r;cases rx;rcases h with ⟨hq,q⟩ | ⟨hq,q⟩
 ·obtain⟨mT,r',pl,hz⟩:=I.list hq;have nj:=r'.length;refine call_tuple_list pl.isList (fun h' kp=>?_) (by simp only [au] <;> lia);have I1:Inv X mO σ H { s with heap:=h' }:=I.kept (t':=s.toks) kp;have I2:Inv X mO σ (mR H h'.objs.size (.tup ys)) { s with heap:=h'.push { cls:=.type "tuple",data:=.seq mT.toArray } } :=
   I1.laid (t':=s.toks) (fun b o e=>ai _ e) (ah _) (show zab X.prog X.w _ _ _ (.tup ys) from ⟨hz,mT,r',IsTup.new _ _⟩)
  exact⟨.ref h'.objs.size,_,I2,rfl,q _ #[RU]⟩
 ·obtain⟨mT,r',pl,hz⟩:=I.tuple hq;exact call_tuple_same pl ⟨.ref p,H,I,rfl,q⟩
noncomputable def tyV (K:af) (T:String) (x:V) (H:Hp):Prop:=match x with
 | .str _=>T = "str"
 | .int _=>T = "int"
 | .ref p=>(T = "list"/\∃ xs,mS K H p xs)\/(T = "tuple"/\∃ o,K.lookup p=some o/\o.cls = .type "tuple"/\o.dict=none) \/
   (T = "dict"/\((∃ mZ,H p=some (.dK mZ))\/∃ mZ,H p=some #[VO]))\/(T = "set"/\∃ S n,H p=some (.set S n))
 | _=>False
theorem zmb {σ:St} {T:String} {x:V} {v:Value} (I:Inv X mO σ H s) (r:RelV x v) (ty:tyV X.K T x H) :
  s.TypeIs v T/\∀ a,v = .ref a->∃ ob,s.heap.get? a=some ob/\ob.dict=none:=by
 cases x with
 | str z =>
  obtain⟨t,rfl⟩:=r;cases (show T = "str" from ty);exact⟨typeIs_str s z t,fun _ e=>nomatch e⟩
 | int i =>
  obtain⟨t,rfl⟩:=r;cases (show T = "int" from ty);exact⟨lJ s i t,fun _ e=>nomatch e⟩
 | ref p =>
  cases r;rcases ty with ⟨rfl,xs,hq⟩ | ⟨rfl,o,hk,hc,hd⟩ | ⟨rfl,hk⟩ | ⟨rfl,S,n,hk⟩
  ·obtain⟨mT,_,pl,_⟩:=I.list hq;refine⟨pl.isList.typeIs,fun a e=>?_⟩;cases e;obtain⟨o,n,e,c,hd,_⟩:=pl;exact⟨o,e,hd⟩
  ·refine⟨⟨o,I.kIn p o hk,hc⟩,fun a e=>?_⟩;cases e;exact⟨o,I.kIn _ o hk,hd⟩
  ·have z:∃ o,s.heap.get? p=some o/\o.ExactDict:=by
    rcases hk with ⟨mZ,hk⟩ | ⟨mZ,hk⟩
    ·obtain⟨_,_,_,_,o,_,_,e,ex,_⟩:=I.hok p _ hk;exact⟨o,e,ex⟩
    ·obtain⟨_,_,_,_,o,_,_,e,ex,_⟩:=I.hok p _ hk;exact⟨o,e,ex⟩
   obtain⟨o,e,ex⟩:=z;refine⟨⟨o,e,ex.1⟩,fun a e2=>?_⟩;cases e2;exact⟨o,e,ex.2.1⟩
  ·obtain⟨o,_,_,_,e,ex,_⟩:=I.hok p _ hk;refine⟨⟨o,e,ex.1⟩,fun a e2=>?_⟩;cases e2;exact⟨o,e,ex.2.1⟩
 | _=>exact bV ty
noncomputable def zqQ (K:af) (T:String) (r:V->List V->Hp->VK->Prop) (to:TE):TE:=fun σ H Q=>to σ H fun x H1=>tyV K T x H1/\r x [] H1 Q
noncomputable def tBM (K:af) (T:String) (r:V->List V->Hp->VK->Prop) (to:TE) (t:TA):TE:=fun σ H Q=>to σ H fun x H1=>tyV K T x H1/\t σ H1 fun xs H2=>r x xs H2 Q
variable {o e:Expr} {es:List Expr} {to:TE} {t:TA} {name:Str} {apos oS:Pos} {T id:String} {r:V->List V->Hp->VK->Prop}
theorem zmc (pa:PlainAttrs T) (slot:Slot T name id) (E8:typeOf #[TJ]=pure (.type "method_descriptor")) (hm:MtR X id r) (ho:PE X o to)
  (vi:attributeBase o name X.env #[WN]=eval o X.env:=by rfl) (vj:(apos.endLine == oS.line)=true:=by rfl):PE X (.Call #[U6] [] [] oS) (zqQ X.K T r to):=by
 intro mO s σ H Q I h;refine wpAny_Call_method0_late vi vj (thn #[VW] fun v s1 ⟨x,H1,I1,r1,ty,q1⟩=>?_);obtain⟨h1,h2⟩:=zmb I1 r1 ty;exact⟨T,id,pa,slot,E8,h1,h2,jn rfl (PySem.evalArgs_none (hm mO s1 σ H1 x [] v [] Q I1 r1 .nil q1))⟩
theorem zcQ (pa:PlainAttrs T) (slot:Slot T name id) (E8:typeOf #[TJ]=pure (.type "method_descriptor")) (hm:MtR X id r) (ho:PE X o to) (ha:PA X (e :: es) t)
  (vi:attributeBase o name X.env #[WN]=eval o X.env:=by rfl)
  (t9:((backTo oS #[S7]).all (fun x=>!x.1) && (backToKw oS (keywordEach [] X.env)).all (fun x=>x.1.isSome)
   && decide ((e :: es).length+([]:List Keyword).length+(if ([]:List Keyword).isEmpty then 0 else 1) < 30))=true:=by rfl)
  (vj:(apos.endLine == oS.line)=true:=by rfl) (hs:starEach (e :: es) X.env=#[FB] :: starEach es X.env:=by rfl) (wg:#[TZ].any (·.1)=false:=by rfl) :
  PE X (.Call #[U6] (e :: es) [] oS) (tBM X.K T r to t):=by
 intro mO s σ H Q I h;refine wpAny_Call_method_late vi t9 vj rfl (thn #[VW] fun v s1 ⟨x,H1,I1,r1,ty,q1⟩=>?_);obtain⟨h1,h2⟩:=zmb I1 r1 ty;refine⟨T,id,pa,slot,E8,h1,h2,?_⟩;have hA:=ha oS mO s1 σ H1 _ I1 q1;rw [hs] at hA |-;refine jn (by show (false || #[TZ].any (·.1))=false; rw [wg] <;> rfl) (jK ?_);exact thn hA fun us s2 ⟨vs,H2,I2,r2,q2⟩=>hm mO s2 σ H2 x vs v us Q I2 r1 r2 q2
end
noncomputable def MtM (X:Cx) (id:String) (r:V->List V->Hp->VK->Prop):Prop :=
 ∀ (mO:List (Addr×Obj)) (s:Shared) (σ:St) (H:Hp) (x:V) (xs:List V) (v:Value) (us:List Value) (Q:VK),Inv X mO σ H s->RelV x v->zM xs us->r x xs H Q ->
  wpAny #[on] X.A (call #[TJ] (v :: us)) #[P3] X.xe s
theorem zM.one:∀ {x:V} {us:List Value},zM [x] us->∃ u,us = [u]/\RelV x u
 | _,_,.cons r .nil=>⟨_,rfl,r⟩
theorem zM.zero:∀ {us:List Value},zM [] us->us = []
 | _,.nil=>rfl
theorem zM.dropLast {xs:List V} (h:zM xs us):zM xs.dropLast us.dropLast:=by
 induction h with
 | nil=>exact .nil
 | cons r t ih =>
  cases t with
  | nil=>exact .nil
  | cons q t'=>exact .cons r ih
theorem zM.eraseIdx:∀ {xs:List V} {us:List Value} (i:Nat),zM xs us->zM (xs.eraseIdx i) (us.eraseIdx i)
 | _,_,_,.nil=>.nil
 | _,_,0,.cons _ t=>t
 | _,_,i+1,.cons r t=>.cons r (zM.eraseIdx i t)
theorem zM.rep {xs:List V} {us:List Value} (h:zM xs us):∀ k:Nat,zM (am k xs).flatten (am k us).flatten
 | 0=>.nil
 | k+1=>by
  rw [bt,bt,dY,dY];exact zM.append h (zM.rep h k)
theorem ziN {α:Type} (l:List α):l.eraseIdx (l.length - 1)=l.dropLast:=by
 induction l with
 | nil=>rfl
 | cons a r ih =>
  cases r with
  | nil=>rfl
  | cons b r =>
   have e:(a :: b :: r).length - 1=((b :: r).length - 1)+1:=by
    have h1:(a :: b :: r).length=r.length+2:=rfl;have h2:(b :: r).length=r.length+1:=rfl;lia
   rw [e,ja,ih]
   all_goals rfl
theorem zgb {α:Type}:∀ (l:List α) (i:Nat),(l.eraseIdx i).length<=l.length
 | [],_=>ah _
 | _ :: _,0=>gc _
 | _ :: r,i+1=>gm (zgb r i)
theorem foldl_rep (mT:List Value):∀ (k:Nat) (acc:List Value),
  lK #[Xs] acc.toArray (am k mT.toArray)=(acc++(am k mT).flatten).toArray
 | 0,acc=>by simp
 | k+1,acc=>by
  have e:acc.toArray++mT.toArray=(acc++mT).toArray:=by simp
  have e2:(acc++mT)++(am k mT).flatten=acc++(am (k+1) mT).flatten:=by
   rw [bt,dY,bu]
  rw [<- e2,<- foldl_rep mT k (acc++mT),<- e,bt,gI]
section
variable {X:Cx} {mO:List (Addr×Obj)} {σ:St} {H:Hp} {s:Shared} {l b:Addr} {xs ys zs:List V}
theorem Inv.QO {its':List Value} {n:Nat} {f:Array Value->Array Value} (I:Inv X mO σ H s) (hH:H l=some #[Sr])
  (e:s.heap.get? l=some { cls:=.type "list",data:=.seq mT.toArray n }) (hf:f mT.toArray=its'.toArray) (hv:zM ys its') (hz:ys.length<=sizeLine) :
  Inv X mO σ (mR H l #[VA]) { s with heap:=s.heap.update l (cI f),toks:=t' }:=by
 have q:=lu e f;rw [hf] at q;refine I.write (x:=l) (e:=l) (by rw [hH]; exact trivial) #[Os] (fun b' u hb hu=>(dN s.heap (cI f) (cX hb)).trans hu) ⟨_,q⟩ ?_;exact⟨hz,its',_,hv,q⟩
theorem Inv.Q5 (I:Inv X mO σ H s) (hv:zM ys mT) (hz:ys.length<=sizeLine) :
  Inv X mO σ (mR H s.heap.objs.size #[VA]) { s with heap:=s.heap.push { cls:=.type "list",data:=.seq mT.toArray },toks:=t' } :=
 I.laid (fun _ _ q=>ai _ q) (ah _) ⟨hz,mT,0,hv,aD _ rfl⟩
theorem Inv.fresh (I:Inv X mO σ H s):H s.heap.objs.size=none:=I.hok.fresh (ah _)
theorem Inv.PF (I:Inv X mO σ H s) (hH:H l=some #[Sr]):xs.length<=sizeLine/\∃ (mT:List Value) (n:Nat),zM xs mT/\xs.length=mT.length/\s.heap.get? l=some { cls:=.type "list",data:=.seq mT.toArray n }:=by
 obtain⟨z,mT,n,r,e⟩:=I.hok l _ hH;exact⟨z,mT,n,r,r.length,e⟩
theorem zhv {n:Nat} (h:n<=sizeLine):eF n=false:=by
 unfold eF;exact decide_eq_false #[O]
end
section
variable {X:Cx}
noncomputable def znF:V->List V->Hp->VK->Prop:=fun x vs H Q=>∃ l xs y,x = .ref l/\vs = [y]/\H l=some #[Sr]/\xs.length < sizeLine/\Q .non (mR H l (.lst (xs++[y])))
theorem zbq:MtM X "list.append" znF:=by
 intro mO s σ H x vs v us Q I rx rv h;obtain⟨l,xs,y,rfl,rfl,hH,hz,q⟩:=h;cases rx;obtain⟨u,rfl,ru⟩:=rv.one;obtain⟨z,mT,n,r,hl,e⟩:=I.PF hH;refine eV kC ⟨_,e,rfl⟩ j4 (jL _ _) (kT l mT.toArray n u (by rw [au]; lia)) ⟨e,?_⟩;refine⟨.non,_,I.QO (its':=mT++[u]) hH e #[M] (r.append (.cons ru .nil)) ?_,rfl,q⟩;rw [aF,gz];lia
noncomputable def znG:V->List V->Hp->VK->Prop:=fun x vs H Q=>∃ l b xs zs,x = .ref l/\vs = [.ref b]/\H l=some #[Sr]/\H b=some (.lst zs)/\xs.length+zs.length<=sizeLine/\Q .non (mR H l (.lst (xs++zs)))
theorem zgc:MtM X "list.extend" znG:=by
 intro mO s σ H x vs v us Q I rx rv h;obtain⟨l,b,xs,zs,rfl,rfl,hH,hB,hz,q⟩:=h;cases rx;obtain⟨u,rfl,ru⟩:=rv.one;cases ru;obtain⟨z,mT,n,r,hl,e⟩:=I.PF hH;obtain⟨z2,nS,n2,r2,qX,e2⟩:=I.PF hB;have hsz:mT.toArray.size+nS.toArray.size<=sizeLine:=by rw [au,au]; lia
 have yI:¬ (!mT.toArray.isEmpty && eF (mT.toArray.size+nS.toArray.size))=true:=by
  rw [zhv hsz,lV];exact aJ
 refine eV F.slot_list_extend ⟨_,e,rfl⟩ F.entry_list_extend (F.args_list_extend_2 _ _)
  (AutoSeq1.list_extend_list_list_0 l mT.toArray n b nS.toArray n2 yI (by rw [au]; lia) #[O]) ⟨e,e2,?_⟩
 refine⟨.non,_,I.QO (its':=mT++nS) hH e #[M] (r.append r2) ?_,rfl,q⟩;rw [aF];lia
noncomputable def zqR:V->List V->Hp->VK->Prop:=fun x vs H Q=>∃ l xs y,x = .ref l/\vs = []/\H l=some #[Sr]/\xs[xs.length - 1]? = some y/\Q y (mR H l (.lst xs.dropLast))
theorem zmd:MtM X "list.pop" zqR:=by
 intro mO s σ H x vs v us Q I rx rv h;obtain⟨l,xs,y,rfl,rfl,hH,hy,q⟩:=h;cases rx;have nM:=rv.zero;subst nM;obtain⟨z,mT,n,r,hl,e⟩:=I.PF hH;obtain⟨u,hu,ru⟩:=r.get hy;have C0:mT.toArray[mT.toArray.size - 1]? = some u:=by
  show mT.toArray[mT.length - 1]? = some u;rw [<- aT,<- hl];exact hu
 refine eV F.slot_list_pop ⟨_,e,rfl⟩ lx (F.args_list_pop_1 _) (MeetsSeq.list_pop_last l mT.toArray n u C0 (by rw [au]; lia)) ⟨e,?_⟩;refine⟨y,_,I.QO (its':=mT.dropLast) hH e ?_ r.dropLast ?_,ru,q⟩
 ·show mT.toArray.eraseIdxIfInBounds (mT.toArray.size - 1)=mT.dropLast.toArray;rw [au,gD,ziN]
 ·rw [jM];lia
noncomputable def zo4:V->List V->Hp->VK->Prop:=fun x vs H Q=>∃ l xs i k y,x = .ref l/\vs = [.int i]/\H l=some #[Sr]/\-(2 ^ 63)<=i/\i < 2 ^ 63/\seqIndex? i xs.length=some k/\xs[k]? = some y/\Q y (mR H l (.lst (xs.eraseIdx k)))
theorem zme:MtM X "list.pop" zo4:=by
 intro mO s σ H x vs v us Q I rx rv h;obtain⟨l,xs,i,k,y,rfl,rfl,hH,h1,h2,hk,hy,q⟩:=h;cases rx;obtain⟨u,rfl,ru⟩:=rv.one;obtain⟨t,rfl⟩:=ru;obtain⟨z,mT,n,r,hl,e⟩:=I.PF hH;obtain⟨w,hw,E7⟩:=r.get hy;refine eV F.slot_list_pop ⟨_,e,rfl⟩ lx (F.args_list_pop_2 _ _)
  (MeetsSeq.list_pop_at l mT.toArray n i t k w (fitsIndex_both h1 h2) (by rw [au,<- hl]; exact hk) (by rw [<- aT]; exact hw) (by rw [au]; lia)) ⟨e,?_⟩
 refine⟨y,_,I.QO (its':=mT.eraseIdx k) hH e ?_ (r.eraseIdx k) ?_,E7,q⟩
 ·show mT.toArray.eraseIdxIfInBounds k=(mT.eraseIdx k).toArray;rw [gD]
 ·have:=zgb xs k;lia
noncomputable def zqS:R2:=fun x y H Q=>∃ l b xs zs,x = .ref l/\y = .ref b/\H l=some #[Sr]/\H b=some (.lst zs)/\xs.length+zs.length<=sizeLine/\∀ p,H p=none->Q (.ref p) (mR H p (.lst (xs++zs)))
theorem zcd:OpR X #[Wa] zqS:=by
 intro mO s σ H x y v u Q I rx ry h;obtain⟨l,b,xs,zs,rfl,rfl,hH,hB,hz,q⟩:=h;cases rx;cases ry;obtain⟨z,mT,n,r,hl,e⟩:=I.PF hH;obtain⟨z2,nS,n2,r2,qX,e2⟩:=I.PF hB;refine PySem.P.add_list e e2 ?_ (by rw [au,au]; lia);have ea:mT.toArray++nS.toArray=(mT++nS).toArray:=by simp
 rw [ea];exact⟨.ref _,_,I.Q5 (t':=s.toks) (r.append r2) (by rw [aF]; lia),rfl,q _ I.fresh⟩
noncomputable def zqT:R2:=fun x y H Q=>∃ l k xs,x = .ref l/\y = .int k/\H l=some #[Sr]/\-(2 ^ 63)<=k/\k < 2 ^ 63/\xs.length*k.toNat<=sizeLine /\
 ∀ p,H p=none->Q (.ref p) (mR H p (.lst (am k.toNat xs).flatten))
theorem len_rep {α:Type} (xs:List α) (k:Nat):(am k xs).flatten.length=k*xs.length:=by
 induction k with
 | zero=>simp
 | succ k ih=>rw [bt,dY,aF,ih,Nat.succ_mul,Nat.add_comm]
theorem zfa:OpR X (binaryOp .Mult) zqT:=by
 intro mO s σ H x y v u Q I rx ry h;obtain⟨l,k,xs,rfl,rfl,hH,h1,h2,hz,q⟩:=h;cases rx;obtain⟨t,rfl⟩:=ry;obtain⟨z,mT,n,r,hl,e⟩:=I.PF hH;have nj:mT.toArray.size*k.toNat<=sizeLine:=by rw [au,<- hl]; exact hz
 have HJ:¬ mT.toArray.size*k.toNat > (2 ^ 63 - 1) / 8:=by
  have:(sizeLine:Nat)<=(2 ^ 63 - 1) / 8:=by decide
  lia
 have Bt:¬ (!Builtin.List.listFitsIndex k)=true:=by
  rw [fitsIndex_both h1 h2];exact aJ
 have yI:¬ eF (mT.toArray.size*k.toNat)=true:=by
  rw [zhv nj];exact aJ
 have HK:lK #[Xs] #[] (am (if mT.toArray.isEmpty=true then 0 else k.toNat) mT.toArray)=(am k.toNat mT).flatten.toArray:=by
  have f0:∀ m:Nat,lK #[Xs] #[] (am m mT.toArray)=(am m mT).flatten.toArray:=fun m=>by
   have:=foldl_rep mT m [];rw [fF] at this;exact this
  rw [f0];cases mT with
  | nil=>simp
  | cons a r'=>rw [if_neg #[M]]
 refine wpAny_binaryOp_repeat_ref (T:="list") (U:="int") #[D] ⟨_,e,rfl⟩ (fun s'=>lJ s' k t) noFill_list_mul F.fills_int_mul F.slot_int_rmul repeat_list F.slot_int_index.lookup
  (eV F.slot_int_rmul (lJ s k t) F.entry_int_rmul (F.args_int_rmul_2 _ _) (int___rmul___int_list k t l mT.toArray n)
   ⟨e,rfl,⟨_,e,rfl⟩,eV F.slot_list_mul ⟨_,e,rfl⟩ F.entry_list_mul (F.args_list_mul_2 _ _) (AutoListH.list___mul___list_int_3 l mT.toArray n k t Bt HJ yI) ⟨e,?_⟩⟩)
 rw [HK];exact⟨.ref _,_,I.Q5 (t':=s.toks) (r.rep k.toNat) (by rw [len_rep,Nat.mul_comm]; exact hz),rfl,q _ I.fresh⟩
end
end L2
namespace Att
open PySem PySem.W PySem.Calls PyProof.Rows
theorem zeF {P:Params} {h:Heap}:∀ (ns:List Int) (vs:List Value),WellAll P h vs (ns.map WData.int)->IntsAre vs ns:=by
 intro ns;induction ns with
 | nil =>
  intro vs w;rw [kA] at w;cases w;exact .nil
 | cons n ns ih =>
  intro vs w;rw [bj] at w;cases w with
  | cons a b =>
   cases a;exact .cons _ _ (ih _ b)
theorem zkx {l:OpenLaw} {n:Nat} (hn:l.most=some n) {P:Params} {h:Heap} {args:List WData} {vals:List Value}
  (Bu:l.row.toRowW.claim.pre args=true) (E9:WellAll P h vals args) :
  ∃ a vs ns,vals = [aN a]/\args = [WData.list (ns.map WData.int)]/\h.get? a=some { cls:=.type "list",data:=.seq vs.toArray }/\IntsAre vs ns/\ns.length<=n:=by
 have hsh:WShape.hasAll [] args [.list .int]=true:=(pre_splitW Bu).1;have hc:l.pre.holds [] { args:=args }=true:=(pre_splitW Bu).2;obtain⟨d,r,rfl,h1,h2⟩:=hasAllW_cons hsh;obtain rfl:=hasAllW_nil h2;obtain⟨xs,rfl,h3⟩:=hasW_list h1;obtain⟨ns,rfl⟩:=items_int h3;have nj:ns.length<=n:=by
  unfold OpenLaw.pre at hc;have h4:(WTm.not (.lt (.lit (.int (n:Int))) (.len (.arg 0)))).holds [] { args:=[.list (ns.map .int)] }=true:=by
   have h4:=(holds_andW hc).1;rw [hn] at h4;exact h4
  have h5:=condW_of h4 (w_not (w_lt w_lit (w_len_list (w_arg rfl))));rw [ae] at h5;refine iN fun q=>?_
  have q':(n:Int) < ((ns.length:Nat):Int):=by lia
  first
   | (rw [decide_eq_true q'] at h5; exact absurd h5 #[D])
   | (simp at h5; lia)
 cases E9 with
 | cons w1 w2 =>
  cases w2;cases w1 with
  | list ho qH=>exact⟨_,_,ns,rfl,rfl,ho,zeF ns _ qH,nj⟩
theorem zky (l:OpenLaw) (args:List WData):l.row.toRowW.claim.post args #[TR] args=true :=
 postW_of (r:=l.row.toRowW) (X:=(true == true))
  (show WShape.has [] #[TR] .bool=true by first | rfl | decide | simp [WShape.has,WShape.arms,WShape.armsAll])
  (show (WTm.eq .res (.lit #[TR])).value [] { args:=args,res:=some #[TR],after:=args }=some (.bool (true == true)) from w_eq_bool (w_res rfl) w_lit) rfl
theorem Oj {l:OpenLaw} {n:Nat} {q:Program} {loose:List Str} {XP:#[WX]->Heap->Prop} {YP:World->Heap->Prop} {d:DefRec}
  (hn:l.most=some n) (Fb:d.params.defaults = [])
  (call:∀ (w:World) (s₀ s₁:Shared) (mg mb:Str->Option Value) (fa:Addr) (o:Obj) (pm cd doc:Value) (a:Addr) (vs:List Value) (ns:List Int),
   Ground q loose [] XP w s₀ mg mb s₁.heap->YP w s₁.heap ->
   s₁.heap.get? fa=some o->o.data = .func (docDef d.name d.params d.body d.scope pm cd doc)->s₁.heap.CodeRec cd d.name->mg d.name=some (.ref fa) ->
   s₁.heap.get? a=some { cls:=.type "list",data:=.seq vs.toArray }->IntsAre vs ns->ns.length<=n->s₁.gens = #[] ->
   codeAny (model l.prog w) callerA (.call (.ref fa) ⟨[.ref a],[]⟩) (fun r s'=>r = .ok (.ret #[TR])/\OldK s₁.heap s'.heap/\s'.os=s₁.os/\AllBare s'.gens) s₁) :
  WalkO q loose XP YP l.row.toRowW d [] #[WV]:=by
 intro w s₀ s₁ mg mb G Y fa o pm cd doc dV kV ho hd uJ hD xG hg args vals as Bu hlay GU E9 rT;obtain rfl:dV = .none:=Dflts.none hD Fb;obtain rfl:kV = .none:=Dflts.noKw hD;obtain⟨a,vs,ns,rfl,rfl,C1,hints,nj⟩:=zkx hn Bu E9;refine enter_call (fH (call w s₀ s₁ mg mb fa o pm cd doc a vs ns G Y ho (fd_plain hd) uJ xG C1 hints nj hg) fun r s' hq=>?_);obtain⟨rfl,h2,h3,h4⟩:=hq;exact⟨.inl ⟨.bool true,.bool true,[],rfl,fun _=>rfl,.bool true,zky l _,fun _=>⟨fY,fun _ hm=>(nomatch hm)⟩⟩,h2,h3,h4⟩
end Att
namespace L2
open PySem PySem.Spec PyProof.Rows
variable {CX:CXT} {H H' H1 H2:Hp} {K:af} {N:List Str} {an od:Option Addr} {ct doc nA oc pm:Value} {fd:FuncData} {k:Nat} {mg:Str->Option Value} {ns:List Int} {qual:Str} {sp:Sp} {vs:List Value} {w:World} {yA:Array #[TU]}
theorem zgd:∀ {vs:List Value} {ns:List Int},IntsAre vs ns->zM #[AT] vs
 | _,_,.nil=>.nil
 | _,_,.cons n t h=>.cons ⟨t,rfl⟩ (zgd h)
noncomputable def zo5 (H:Hp):Prop:=∀ b,H b=none\/∃ o xs,H b=some (.frz o #[Sr])
theorem zmf {P:Program} {mb:Str->Option Value} {fa a:Addr} {x:Str} {s₁:Shared} 
  (KX:K.In s₁.heap) (yB:s₁.heap.Ns mainGlobals mg) (hb:s₁.heap.Ns builtinsNs mb) (hbb:∀ x:Str,x≠"__name__"->mb x=bootBuiltins x) (HL:s₁.heap.NoLimit) (hg:s₁.gens = #[])
  (ha:s₁.heap.get? a=some { cls:=.type "list",data:=.seq vs.toArray }) (hi:IntsAre vs ns) (hl:ns.length<=sizeLine) (hr:LU k callerA)
  (F:∀ base:Heap,K.In base->base.Ns mainGlobals mg->Kx P w K mg base CX k fa fd [x] sp) (Fc:∀ (s:Shared) (u:Value),BindsTo s fd ⟨[u],[]⟩ [(x,u)])
  (uL:∀ H:Hp,zo5 H->mS K H a #[AT]->sp [.ref a] H (fun v _=>v = .bl true) fun _ _ _=>False)
  (HM:∀ H e s',CX [] H s₁ (fun _ _ _=>False) e s'->False) :
  codeAny #[UF] callerA (.call (.ref fa) ⟨[.ref a],[]⟩) (fun r s'=>r = .ok (.ret #[TR])/\OldK s₁.heap s'.heap/\s'.os=s₁.os/\AllBare s'.gens) s₁:=by
 have rv:=zgd hi;have HN:=hi.length;have core:∀ H:Hp,zo5 H->mS K H a #[AT]->HOk P w H s₁.heap->(∀ b,H b≠none->b=a)->(H a≠none->K.lookup a=none) ->
   codeAny #[UF] callerA (.call (.ref fa) ⟨[.ref a],[]⟩) (fun r s'=>r = .ok (.ret #[TR])/\OldK s₁.heap s'.heap/\s'.os=s₁.os/\AllBare s'.gens) s₁:=by
  intro H hO hS hok hA hK;have xq:∀ {b:Addr} {o:Obj},s₁.heap.get? b=some o->H b=none->#[Uh].get? b=some o:=fun e n=>zlR e n
  have Bs:∀ {b:Addr} {o:Obj} {es:Array DictEntry} {ep:Nat},s₁.heap.get? b=some o->o.data = .dict es ep->H b=none:=fun {b o es ep} e d=>by
   cases q:H b with
   | none=>rfl
   | some u =>
    have e':b=a:=hA b (by rw [q]; simp);subst e';rw [ha] at e; cases e;have d':Data.seq vs.toArray _=Data.dict es ep:=d;cases d'
  have GV:∀ {b:Addr} {m:Str->Option Value},s₁.heap.Ns b m->#[Uh].Ns b m:=fun {b m} ⟨o,es,ep,e,d,r⟩=>⟨o,es,ep,xq e (Bs e d),d,r⟩
  have hKb:K.In #[Uh]:=fun b o e=>xq (KX b o e) (by
   cases q:H b with
   | none=>rfl
   | some u =>
    have e':b=a:=hA b (by rw [q]; simp);subst e';rw [hK (by rw [q]; simp)] at e; cases e)
  have hM:Mod K mg #[Uh]:=⟨hKb,GV yB,⟨mb,GV hb,hbb⟩,let ⟨mc,h1,h2⟩:=HL; ⟨mc,GV h1,h2⟩⟩;have e0:Qf P w K mg #[Uh] callerA [] s₁ H:=⟨rfl,hM,fun b o e=>znt e,ko (zkn _ _),trivial,fun b hb=>absurd (show b∈([]:List Addr) from hb) #[M],hok,.of_eq hg⟩;refine fH ((F _ hKb (GV yB)).run callerA [] s₁ H ⟨[.ref a],[]⟩ [.ref a] [.ref a] _ _ hr e0 (Fc s₁ #[RC]) #[VG] (uL H hO hS)) fun r s' h=>?_
  cases r with
  | error e=>exact (HM H e s' h).elim
  | ok fl =>
   cases fl with
   | next=>exact bV h
   | brk=>exact bV h
   | cont=>exact bV h
   | ret u =>
    obtain⟨v,H',os,bare,un,HP,r',q⟩:=h;have q':v = .bl true:=q;subst q';obtain rfl:u=fj true:=r';refine⟨rfl,OldK.of_keep fun b o e=>?_,os,bare⟩;cases q:H b with
    | none=>exact un.keep b o e q (by intro z; exact absurd (show b∈([]:List Addr) from z) #[M]) #[M]
    | some u =>
     rcases hO b with z | ⟨ob,xs,z⟩
     ·rw [q] at z; cases z
     ·have z2:=un.M7 b ob _ z;obtain⟨e1,_⟩:=hok b _ z;obtain⟨e2,_⟩:=HP b _ z2;rw [e] at e1; cases e1;exact e2
 cases hk:K.lookup a with
 | some o =>
  have e:=KX a o hk;rw [ha] at e;cases e;refine core #[Ym] (fun _=>.inl rfl) (.inr ⟨_,vs.toArray,_,hk,rfl,rfl,rfl,by rw [au,HN]; exact hl,by simpa using rv⟩) (fun b u z=>by have z':(none:Option HO)=some u:=z; cases z') (fun b z=>absurd rfl z) fun z=>absurd rfl z
 | none =>
  refine core (fun b=>if b=a then some (.frz { cls:=.type "list",data:=.seq vs.toArray } (.lst #[AT])) else none) (fun b=>?_) (.inl (.inr ⟨{ cls:=.type "list",data:=.seq vs.toArray },if_pos rfl⟩)) (fun b u z=>?_) (fun b z=>?_) fun _=>hk
  ·by_cases hb:b=a
   ·exact .inr ⟨_,_,if_pos hb⟩
   ·exact .inl (if_neg hb)
  ·by_cases hb:b=a
   ·have z':=(if_pos hb).symm.trans z;cases z';subst hb;exact⟨ha,by rw [ae]; exact hl,vs,_,rv,ha⟩
   ·have z':=(if_neg hb).symm.trans z;cases z'
  ·by_cases hb:b=a
   ·exact hb
   ·exact absurd (if_neg hb) z
theorem znH {l:jg} {n:Nat} {q:Program} {loose:List Str} {XP:#[WX]->Heap->Prop} {YP:World->Heap->Prop} {d:DefRec} {K:Params->af} {CX:World->CXT} {sp:World->Sp} {x:Str}
  (hn:l.most=some n) (uK:n<=sizeLine) (Fb:d.params.defaults = []) (hr:LU k callerA)
  (hY:∀ (w:World) (h:Heap),YP w h->#[S0].In h)
  (F:∀ (w:World) (mg:Str->Option Value) (fa:Addr) (h:Heap),#[S0].In h->h.Ns mainGlobals mg->mg d.name=some (.ref fa) ->
   ∃ fd:FuncData,(∀ (s:Shared) (u:Value),BindsTo s fd ⟨[u],[]⟩ [(x,u)]) /\
    ∀ base:Heap,#[S0].In base->base.Ns mainGlobals mg->Kx l.prog w #[S0] mg base (CX w) k fa fd [x] (sp w))
  (uL:∀ (w:World) (H:Hp) (a:Addr) (ns:List Int),ns.length<=n->zo5 H->mS #[S0] H a #[AT]->sp w [.ref a] H (fun v _=>v = .bl true) fun _ _ _=>False)
  (HM:∀ (w:World) (H:Hp) (s:Shared) (e:Value) (s':Shared),CX w [] H s (fun _ _ _=>False) e s'->False) :
  mf q loose XP YP l.row.toRowW d [] #[WV]:=by
 refine Att.Oj hn Fb fun w s₀ s₁ mg mb fa o pm cd doc a vs ns G Y ho hd uJ xG C1 hints nj hg=>?_
 have KX:=hY w _ Y;obtain⟨fd,hb,hF⟩:=F w mg fa _ KX G.T.g xG;exact zmf KX G.T.g G.T.b G.T.builtins G.T.nolimit hg C1 hints (bq nj uK) hr hF hb (fun H hO hS=>uL w H a ns nj hO hS) fun H e s'=>HM w H s₁ e s'
noncomputable def inClass (s:Stmt) (j:Nat):Stmt:=match s with
 | .ClassDef _ _ _ body _ _ _ _ _ _ _=>body.getD j (.Pass ⟨0,0,0,0⟩)
 | _=>.Pass ⟨0,0,0,0⟩
noncomputable def zbA (s:Stmt):Arguments:=match s with
 | .FunctionDef _ a _ _ _ _ _ _ _ _=>a
 | _=>{ posonlyargs:=[],args:=[],vararg:=none,kwonlyargs:=[],kw_defaults:=[],kwarg:=none,defaults:=[] }
noncomputable def zaX (s:Stmt):List Stmt:=match s with
 | .FunctionDef _ _ b _ _ _ _ _ _ _=>b
 | _=>[]
noncomputable def zi (s:Stmt):Scope:=match s with
 | .FunctionDef _ _ _ _ _ _ sc _ _ _=>sc
 | _=>{ kind:=.function,names:=[],isGenerator:=false,isCoroutine:=false }
abbrev CX0:CXT:=fun _ _ _ _ _ _=>False
abbrev E0:XK:=fun _ _ _=>False
theorem zY {X:Cx}:zcv CX0 X E0:=fun _ _ _ _ _ _ _ h=>h.elim
structure Fun (K:af) (x qual:Str) (st:Stmt) (f:Addr) (fd:FuncData):Prop where
 ex:∃ (oc:Value) (od:Option Addr) (kV doc pm:Value) (an:Option Addr) (nA ct:Value) (yA:Array #[TU]),
  fd=cB x qual (zbA st) (zaX st) (zi st) .none kV doc pm an nA ct/\K.lookup f=some ⟨oc,od,.func fd,yA⟩/\eC K nA qual=true
 kp:cY K #[SL]=true
section
variable {P:Program} {w:World} {K:af} {mg:Str->Option Value} {base:Heap}
theorem Fun.ok {x:Str} {st:Stmt} {f:Addr} {ps:List Str} (F:Fun K x qual st f fd) (S:Ko N ps (zi st)) (len:∀ vs H Q E,sp vs H Q E->vs.length=ps.length)
  (qG:∀ (nA:Value) (A:Around) (outer:List Env) (s:Shared) (H:Hp) (vs:List V) (Q:VK) (E:XK),LU k #[RM]->sp vs H Q E ->
   ∃ t,PSs (zb1 CX0 P w K mg base N qual (zi st) f nA A outer s H E).nox (zaX st) t/\t { nx:=fun _ H'=>Q .non H',rt:=Q } #[SY] H):Kx P w K mg base CX0 (k+1) f fd ps sp:=by
 obtain⟨oc,od,kV,doc,pm,an,nA,ct,yA,rfl,lk,uJ⟩:=F.ex;refine zoG lk uJ S len fun A outer s H vs Q E hr uL=>?_
 obtain⟨t,h,q⟩:=qG nA A outer s H vs Q E hr uL;exact⟨t,h.nox,q⟩
theorem Fun.binds {x:Str} {st:Stmt} {f:Addr} {ps:List Str} (F:Fun K x qual st f fd)
  (h:∀ (kV doc pm:Value) (an:Option Addr) (nA ct:Value) (us:List Value),us.length=ps.length->bindArgs #[Rx] ⟨us,[]⟩=pure #[Ws]):Binds K fd ps []:=by
 obtain⟨oc,od,kV,doc,pm,an,nA,ct,yA,rfl,lk,uJ⟩:=F.ex;exact .all (h kV doc pm an nA ct)
theorem ziO {x:Str} {st:Stmt} {f:Addr} {kV:Value} (l:K.lookup f=some ⟨oc,od,.func #[Rx],yA⟩)
  (c:eC K nA qual=true) (k:cY K #[SL]=true):Fun K x qual st f #[Rx]:=⟨⟨oc,od,kV,doc,pm,an,nA,ct,yA,rfl,l,c⟩,k⟩
end
theorem zaS {A B:Prop} (h:B):if false=true then A else B:=by
 rw [if_neg aJ];exact h
theorem zaI {A B:Prop} (h:A):if true=true then A else B:=by
 rw [if_pos rfl];exact h
theorem za6 {c A B:Prop} [Decidable c] (h1:c->A) (h2:¬ c->B):if c then A else B:=by
 by_cases h:c
 ·rw [if_pos h];exact h1 h
 ·rw [if_neg h];exact h2 h
noncomputable def zC (H H':Hp):Prop:=∀ b o,H b=some o->H' b=some o
theorem zC.trans (a:zC H H1) (b:zC H1 H2):zC H H2:=fun c o h=>b c o (a c o h)
theorem zC.free (e:zC H H') {l:Addr} (h:H' l=mI):H l=mI:=by
 cases q:H l with
 | none=>rfl
 | some o =>
  rw [e l o q] at h;cases h
theorem zC.seq {a:Addr} {xs:List V} (e:zC H H') (h:mS K H a xs):mS K H' a xs:=by
 rcases h with (h | ⟨o,h⟩) | h
 ·exact .inl (.inl (e _ _ h))
 ·exact .inl (.inr ⟨o,e _ _ h⟩)
 ·exact .inr h
end L2
section
namespace L2
open PySem
abbrev Ends.n (D:Ends) (N:St->Hp->Prop):Ends:={ D with nx:=N }
section
variable {r1 r2 r3 r4 r5 r6 r7 r8 r9 r10 r11 r12 r13 r14 r15:TS} {D:Ends} {σ:St} {H:Hp}
theorem zo6 (h:let N2:=r2 D; r1 (D.n N2) σ H):(zaE r1 r2) D σ H:=h
theorem zfO (h:let N3:=r3 D; let N2:=r2 (D.n N3); r1 (D.n N2) σ H):(zaE r1 (zaE r2 r3)) D σ H:=h
theorem zgH (h:let N4:=r4 D; let N3:=r3 (D.n N4); let N2:=r2 (D.n N3); r1 (D.n N2) σ H):(zaE r1 (zaE r2 (zaE r3 r4))) D σ H:=h
theorem zqe (h:let N5:=r5 D; let N4:=r4 (D.n N5); let N3:=r3 (D.n N4); let N2:=r2 (D.n N3); r1 (D.n N2) σ H):(zaE r1 (zaE r2 (zaE r3 (zaE r4 r5)))) D σ H:=h
theorem zo7 (h:let N6:=r6 D; let N5:=r5 (D.n N6); let N4:=r4 (D.n N5); let N3:=r3 (D.n N4); let N2:=r2 (D.n N3); r1 (D.n N2) σ H):(zaE r1 (zaE r2 (zaE r3 (zaE r4 (zaE r5 r6))))) D σ H:=h
theorem zqf (h:let N7:=r7 D; let N6:=r6 (D.n N7); let N5:=r5 (D.n N6); let N4:=r4 (D.n N5); let N3:=r3 (D.n N4); let N2:=r2 (D.n N3); r1 (D.n N2) σ H):(zaE r1 (zaE r2 (zaE r3 (zaE r4 (zaE r5 (zaE r6 r7)))))) D σ H:=h
theorem zqU (h:let N8:=r8 D; let N7:=r7 (D.n N8); let N6:=r6 (D.n N7); let N5:=r5 (D.n N6); let N4:=r4 (D.n N5); let N3:=r3 (D.n N4); let N2:=r2 (D.n N3); r1 (D.n N2) σ H):(zaE r1 (zaE r2 (zaE r3 (zaE r4 (zaE r5 (zaE r6 (zaE r7 r8))))))) D σ H:=h
theorem zqg (h:let N9:=r9 D; let N8:=r8 (D.n N9); let N7:=r7 (D.n N8); let N6:=r6 (D.n N7); let N5:=r5 (D.n N6); let N4:=r4 (D.n N5); let N3:=r3 (D.n N4); let N2:=r2 (D.n N3); r1 (D.n N2) σ H):(zaE r1 (zaE r2 (zaE r3 (zaE r4 (zaE r5 (zaE r6 (zaE r7 (zaE r8 r9)))))))) D σ H:=h
theorem zaJ {X0:Cx} {B:List PySem.Stmt} (h:let X:=X0; ∃ t,PSs X B t/\t D σ H):∃ t,PSs X0 B t/\t D σ H:=h
end
end L2
end
section
namespace L2
open PySem PySem.Spec PyProof.Rows
variable {A:Around} {H:Hp} {J:It} {M:Model} {X:Cx} {env:Env} {mO:List (Addr×Obj)} {qual:Str} {s:Shared} {scope:Scope} {te:TE} {ts:TT} {σ0:St}
noncomputable def zR (cs:List (Str×Addr)):List (Str×NameKind)->List (Str×Addr)->List (Str×Addr)
 | [],acc=>acc
 | (n,k) :: r,acc=>if k == .free then zR cs r ((n,(cs.lookup n).getD 0) :: acc) else zR cs r acc
theorem zce (h:∀ y∈scope.names,y.2 = .free->∃ c,env.cells.lookup y.1=some c) :
  closureFor scope env=pure (zR env.cells scope.names []):=by
 have go:∀ (names:List (Str×NameKind)) (acc:List (Str×Addr)),(∀ y∈names,y.2 = .free->∃ c,env.cells.lookup y.1=some c) ->
   (forIn names acc (fun (x:Str×NameKind) (cs:List (Str×Addr))=>(if (x.2 == cn)=true then do
    let a <- cellOf env x.1
    pure (cP ((x.1,a) :: cs)) else pure (cP cs):Sem (ForInStep (List (Str×Addr))))))=(pure (zR env.cells names acc):Sem _):=by
  intro names;induction names with
  | nil=>intro acc _; rfl
  | cons y r ih =>
   intro acc hy;obtain⟨n,k⟩:=y;rw [dS];cases hk:(k == cn) with
   | true =>
    obtain⟨c,hc⟩:=hy (n,k) aE (by simpa using hk);have p8:cellOf env n=pure c:=by
     unfold cellOf;have nh:env.cells.lookup n=some c:=hc;rw [nh]
    simp only [hk,if_true,p8];have e:=ih ((n,c) :: acc) fun y C0=>hy y (aq _ C0)
    have nh:env.cells.lookup n=some c:=hc;simp only [zR,hk,if_true,nh,iO];exact e
   | false =>
    simp only [hk,ba,if_false];have e:=ih acc fun y C0=>hy y (aq _ C0)
    simp only [zR,hk,ba,if_false];exact e
 have e:=go scope.names [] h;unfold closureFor;show (forIn scope.names [] _ >>= fun cs=>pure cs)=_
 first
  | (rw [e]; rfl)
  | (simp only []; rw [e]; rfl)
  | (have e':=e; simp at e' |-; exact e')
theorem zbB {cs:List (Str×Addr)}:∀ (names:List (Str×NameKind)) (acc:List (Str×Addr)),
  (∀ y∈names,y.2 = .free->∃ c,cs.lookup y.1=some c)->(∀ x c,acc.lookup x=some c->cs.lookup x=some c) ->
  ∀ x c,(zR cs names acc).lookup x=some c->cs.lookup x=some c
 | [],acc,_,h,x,c,e=>h x c e
 | (n,k) :: r,acc,hy,h,x,c,e=>by
  have hr:∀ y∈r,y.2 = .free->∃ c,cs.lookup y.1=some c:=fun y C0=>hy y (aq _ C0)
  unfold zR at e;cases hk:(k == cn) with
  | false =>
   rw [hk] at e;exact zbB r acc hr h x c e
  | true =>
   rw [hk] at e;obtain⟨d,hd⟩:=hy (n,k) aE (by simpa using hk);have Bo:cs.lookup n=some d:=hd;refine zbB r _ hr (fun x c e'=>?_) x c e;rw [Bo,iO,bA] at e';cases hx:(x == n) with
   | true =>
    rw [hx] at e';have:x=n:=by simpa using hx
    subst this;rw [Bo];exact e'
   | false =>
    rw [hx] at e';exact h x c e'
theorem zbr {cs:List (Str×Addr)}:∀ (names:List (Str×NameKind)) (acc:List (Str×Addr)) (x:Str),
  ((∃ c,acc.lookup x=some c)\/(x,cn)∈names)->∃ c,(zR cs names acc).lookup x=some c
 | [],acc,x,h=>by
  rcases h with h | h
  ·exact h
  ·cases h
 | (n,k) :: r,acc,x,h=>by
  unfold zR;cases hk:(k == cn) with
  | false =>
   refine zbr r acc x ?_;rcases h with h | h
   ·exact .inl h
   ·rcases az.mp h with h | h
    ·cases h;exact absurd hk #[D]
    ·exact .inr h
  | true =>
   refine zbr r _ x ?_;cases hx:(x == n) with
   | true=>exact .inl ⟨_,by rw [bA,hx]⟩
   | false =>
    rcases h with ⟨c,h⟩ | h
    ·exact .inl ⟨c,by rw [bA,hx]; exact h⟩
    ·rcases az.mp h with h | h
     ·cases h;simp at hx
     ·exact .inr h
theorem lookup_mem {α:Type}:∀ {l:List (Str×α)} {x:Str} {k:α},l.lookup x=some k->(x,k)∈l
 | [],x,k,h=>by simp at h
 | (n,j) :: r,x,k,h=>by
  rw [bA] at h;cases hx:(x == n) with
  | true =>
   rw [hx] at h;have:x=n:=by simpa using hx
   subst this;cases h;exact aE
  | false =>
   rw [hx] at h;exact aq _ (lookup_mem h)
theorem za4 {env:Env}:∀ {names:List (Str×NameKind)} {x:Str},names.lookup x=some .free ->
  (names.map fun (n,k)=>if (k == cn && env.scope.kind == .function && env.kindOf n == some .cell) then (n,cW) else (n,k)).lookup x=some .cell \/
  (names.map fun (n,k)=>if (k == cn && env.scope.kind == .function && env.kindOf n == some .cell) then (n,cW) else (n,k)).lookup x=some .free
 | [],_,h=>by simp at h
 | (n,k) :: r,x,h=>by
  have ih:=@za4 env r x;simp only [bj];cases hx:x == n with
  | true =>
   simp only [bA,hx] at h; cases h;by_cases hc:(cn == cn && env.scope.kind == .function && env.kindOf n == some .cell)=true
   ·rw [if_pos hc]; left; simp only [bA,hx]
   ·rw [if_neg hc]; right; simp only [bA,hx]
  | false =>
   simp only [bA,hx] at h; rcases kD ((k == cn && env.scope.kind == .function && env.kindOf n == some .cell)=true) with hc | hc
   ·exact (by rw [if_pos hc]; simp only [bA,hx]; exact ih h)
   ·exact (by rw [if_neg hc]; simp only [bA,hx]; exact ih h)
theorem zcA {env:Env}:∀ {names:List (Str×NameKind)} {x:Str},
  ((names.map fun (n,k)=>if (k == cn && env.scope.kind == .function && env.kindOf n == some .cell) then (n,cW) else (n,k)).lookup x=some .cell \/
  (names.map fun (n,k)=>if (k == cn && env.scope.kind == .function && env.kindOf n == some .cell) then (n,cW) else (n,k)).lookup x=some .free) ->
  names.lookup x=some .free\/names.lookup x=some .cell
 | [],_,h=>by simp at h
 | (n,k) :: r,x,h=>by
  have ih:=@zcA env r x;simp only [bj] at h;cases hx:x == n with
  | true =>
   rcases kD ((k == cn && env.scope.kind == .function && env.kindOf n == some .cell)=true) with hc | hc
   ·have hk:k = .free:=by
     simp only [cg] at hc; simpa using hc.1.1
    subst hk;exact .inl (by simp only [bA,hx])
   ·rw [if_neg hc] at h;simp only [bA,hx] at h |-;rcases h with h | h
    ·exact .inr h
    ·exact .inl h
  | false =>
   rcases kD ((k == cn && env.scope.kind == .function && env.kindOf n == some .cell)=true) with hc | hc
   ·rw [if_pos hc] at h;simp only [bA,hx] at h |-;exact ih h
   ·rw [if_neg hc] at h;simp only [bA,hx] at h |-;exact ih h
theorem zfb:∀ (names:List (Str×NameKind)) (n:Nat) (acc:List (Str×Addr)) (x:Str),(x,cW)∉names->(cellsFrom n names acc).lookup x=acc.lookup x
 | [],_,_,_,_=>rfl
 | (y,k) :: r,n,acc,x,h=>by
  have hr:(x,cW)∉r:=fun z=>h (aq _ z)
  unfold cellsFrom;split
  ·rename_i hk
   have ux:k = .cell:=by simpa using hk
   rw [zfb r _ _ x hr,bA];cases hx:(x == y) with
   | true =>
    have:x=y:=by simpa using hx
    subst this;subst ux;exact absurd aE h
   | false=>rfl
  ·exact zfb r _ _ x hr
theorem zeg:∀ (names:List (Str×NameKind)) (n:Nat) (acc:List (Str×Addr)) (x:Str),(x,cW)∈names->∃ c,(cellsFrom n names acc).lookup x=some c/\n<=c
 | (y,k) :: r,n,acc,x,h=>by
  by_cases hr:(x,cW)∈r
  ·unfold cellsFrom;split
   ·obtain⟨c,e,l⟩:=zeg r (n+1) ((y,n) :: acc) x hr;exact⟨c,e,#[O]⟩
   ·exact zeg r n acc x hr
  ·rcases az.mp h with e | e
   ·cases e;unfold cellsFrom;rw [if_pos #[D],zfb r _ _ _ hr,bA,beq_self_eq_true];exact⟨n,rfl,ah _⟩
   ·exact absurd e hr
structure CO (h:Heap) (lo:Nat) (old cs:List (Str×Addr)):Prop where
 each:∀ x c,cs.lookup x=some c->(h.IsCell c none/\lo<=c)\/(old.lookup x=some c/\c < lo)
 inj:∀ x y c,cs.lookup x=some c->cs.lookup y=some c->x=y
theorem zjt {lo:Nat} {old:List (Str×Addr)}:∀ (names:List (Str×NameKind)) (h:Heap) (acc:List (Str×Addr)),CO h lo old acc->lo<=h.objs.size->CO (pushCells h names) lo old (cellsFrom h.objs.size names acc)
 | [],_,_,a,_=>a
 | (y,k) :: r,h,acc,a,hl=>by
  unfold pushCells cellsFrom;split
  ·have lt:∀ x c,acc.lookup x=some c->c < h.objs.size:=fun x c e=>(a.each x c e).elim (fun z=>z.1.lt) fun z=>aU z.2 hl
   have key:∀ x c,dg x ((y,h.objs.size) :: acc)=some c->(x=y/\c=h.objs.size)\/acc.lookup x=some c:=fun x c e=>by
    rw [bA] at e;cases hx:(x == y) with
    | true =>
     rw [hx] at e;exact .inl ⟨by simpa using hx,(aO e).symm⟩
    | false =>
     rw [hx] at e;exact .inr e
   have:=zjt (lo:=lo) (old:=old) r (h.push { cls:=.type "cell",data:=.cell none }) ((y,h.objs.size) :: acc) ⟨fun x c e=>?_,fun x z c e1 e2=>?_⟩ (by rw [bz]; lia)
   ·rw [bz] at this;exact this
   ·rcases key x c e with ⟨_,rfl⟩ | e
    ·exact .inl ⟨⟨_,aD _ rfl,rfl⟩,hl⟩
    ·rcases a.each x c e with z | z
     ·exact .inl ⟨z.1.keeps fun b o e=>ai _ e,z.2⟩
     ·exact .inr z
   ·rcases key x c e1 with ⟨p1,q1⟩ | f1 <;> rcases key z c e2 with ⟨p2,q2⟩ | f2
    ·exact p1.trans p2.symm
    ·exact absurd (lt _ _ f2) (by rw [q1]; exact cm _)
    ·exact absurd (lt _ _ f1) (by rw [q2]; exact cm _)
    ·exact a.inj x z c f1 f2
  ·exact zjt r h acc a hl
theorem zge {E:Value->Shared->Prop} {globals:Addr} {closure:List (Str×Addr)} {Q:Env->Shared->Prop}
  (h:Q (newEnv scope s.heap.objs.size globals (cellsFrom #[ul] scope.names closure) qual none .none (some env) builtinsNs) { s with heap:=pushCells (s.heap.push { cls:=.type "dict",data:=.dict #[] }) scope.names }) :
  wpAny M A (newFunctionEnv scope globals closure [] qual none .none (some env)) Q E s:=by
 (simp only [newFunctionEnv,kE,if_true])
 (refine aa (wpAny_alloc ?_))
 (refine aa (wpAny_layCells _ (fun name kind cells=>by cases hkc:kind == cW <;> simp [hkc]) _ _ _ _ ?_))
 rw [show ({ s with heap:=s.heap.push { cls:=.type "dict",data:=.dict #[] } }:Shared).heap.objs.size=s.heap.objs.size+1 from bz ..]
 (exact aa (ag (ag h)))
abbrev zN (X:Cx) (N':List Str) (scope:Scope) (s₃:Shared) (H₃:Hp) (ex:List Addr) (mO:List (Addr×Obj)):Cx :=
 { X with N:=N',s₀:=s₃,H₀:=H₃,env:=compEnvC scope (cellsFrom (s₃.heap.objs.size+1) scope.names (zR X.env.cells scope.names [])) s₃.heap.objs.size X.env,outer:=X.stack,stack:=X.stack,ex:=ex,fn:=fun x=>scope.names.lookup x == some .cell,pn:=X.pn++mO,xe:=fun _ _=>False }
noncomputable def ziP (ifs:List Expr) (env:Env):Sem Bool :=
 forIn ifs true fun c r=>if r=true then do let ok <- isTrue c env (eval c env); pure (cP ok) else pure (cP r)
noncomputable def zdx (X:Cx) (ifs:List Expr) (t:TT):Prop :=
 ∀ (mO:List (Addr×Obj)) (s:Shared) (σ:St) (H:Hp) (Q:Bool->Hp->Prop),Inv X mO σ H s->t σ H Q->wpAny #[on] X.A (ziP ifs X.env) #[WR] X.xe s
noncomputable def zo8:TT:=fun _ H Q=>Q true H
theorem zau {X:Cx}:zdx X [] zo8:=fun _ _ _ H _ I h=>ag ⟨H,I,h⟩
theorem zbk {X:Cx} {c:Expr} {t:TT} (h:PT X c t):zdx X [c] t:=by
 intro mO s σ H Q I hw;unfold ziP;rw [dS];simp only [if_true];exact aa (aa (thn #[VZ] fun b s1 q=>ag (ag q)))
structure Kr (X:Cx) (N':List Str) (ix:List #[AC]) (scope:Scope):Prop where
 kind:scope.kind = .function
 cells:∀ y∈scope.names,y.2 = .cell->scope.names.lookup y.1=some .cell
 names:∀ y∈scope.names,y.2 = .local->scope.names.lookup y.1=some .local
 free:∀ y∈scope.names,y.2 = .free->X.env.kindOf y.1=some .cell\/X.env.kindOf y.1=some .free
 len:N'.length=ix.length
 cap:∀ j i:Nat,ix[j]? = some (some i)->∃ x,N'[j]? = some x/\X.N[i]? = some x/\scope.names.lookup x=some .free
noncomputable def zju (Ey:Scope) (oN N':List Str) (ix:List #[AC]) (scope:Scope):Bool :=
 (scope.kind == .function) && (scope.names.all fun y=>y.2 != .cell || scope.names.lookup y.1 == some .cell) && (scope.names.all fun y=>y.2 != .local || scope.names.lookup y.1 == some .local) &&
 (scope.names.all fun y=>y.2 != .free || (Ey.names.lookup y.1 == some .cell || Ey.names.lookup y.1 == some .free)) && (N'.length == ix.length) &&
 ((bn ix.length).all fun j=>match ix[j]? with
  | some (some i)=>(match N'[j]? with
   | some x=>oN[i]? == some x && scope.names.lookup x == some .free
   | none=>false)
  | _=>true)
theorem Kr.of {N':List Str} {ix:List #[AC]} (Ey:Scope) (oN:List Str) (h1:X.env.scope=Ey) (h2:X.N=oN) (hb:zju Ey oN N' ix scope=true):Kr X N' ix scope:=by
 unfold zju at hb;simp only [cg,dk] at hb;obtain⟨⟨⟨⟨⟨a,b⟩,c⟩,d⟩,e⟩,f⟩:=hb;refine⟨?_,fun y hy hl=>?_,fun y hy hl=>?_,fun y hy hf=>?_,by simpa using e,fun j i hj=>?_⟩
 ·revert a
  cases scope.kind <;> first | (intro _; rfl) | (intro h; exact absurd h #[D])
 ·have:=b y hy;rw [hl] at this;simpa using this
 ·have:=c y hy;rw [hl] at this;simpa using this
 ·have:=d y hy;rw [hf] at this;have e1:X.env.kindOf y.1=Ey.names.lookup y.1:=by rw [<- h1]; rfl
  rw [e1];simpa using this
 ·have nC:j < ix.length:=(aj.mp hj).1;have:=f j (bU.mpr nC);rw [hj] at this;cases hN:N'[j]? with
  | none =>
   rw [hN] at this;simp at this
  | some x =>
   rw [hN] at this;refine⟨x,rfl,?_⟩;rw [h2];simpa using this
noncomputable def zbG (ix:List #[AC]) (σ:St):St:=ix.map fun o=>match o with
 | none=>none
 | some i=>(σ[i]?).join
theorem Inv.Pd {σ:St} {D:Addr} {o:HO} (I:Inv X mO σ H s) (hn:H D=none) (hs:X.s₀.heap.objs.size<=D) (hL:X.env.locals≠D)
  (hC:∀ x c,X.env.cells.lookup x=some c->c≠D) (hp:∀ p∈X.pn++mO,p.1≠D) (ok:zab X.prog X.w (mR H D o) s.heap D o):Inv X mO σ (mR H D o) s:=by
 have ne:∀ b u,H b=some u->b≠D:=fun b u e=>zl e hn
 refine⟨I.ok,I.os,I.bare,#[R8],I.loc,I.cell,?_,fun x c e=>?_,fun p rQ=>?_,fun b u e=>?_,I.len⟩
 ·have:b≠D:=aQ (aU (aG e) hs);rw [zg this];exact I.base.free b u e n hx
 ·have:=I.base.MS b xs e;rw [zg (ne b _ this)];exact this
 ·have:=I.base.M7 b u xs e;rw [zg (ne b _ this)];exact this
 ·obtain⟨more,q⟩:=I.base.Nb b ps e;exact⟨more,by rw [zg (ne b _ q)]; exact q⟩
 ·rw [zg hL];exact I.free
 ·rw [zg (hC x c e)];exact I.KS x c e
 ·obtain⟨a1,a2,a3⟩:=I.pin p rQ;exact⟨a1,by rw [zg (hp p rQ)]; exact a2,a3⟩
 ·by_cases hb:b=D
  ·subst hb;rw [zb] at e;cases e;exact ok
  ·rw [zg hb] at e;exact #[VS].NH (fun c v _ q=>q) (fun c q=>by rw [zg (ne c _ q)]; exact q) fun c xs q=>by rw [zg (ne c _ q)]; exact q
noncomputable def cGo (g:TG) (ts:TT) (te:TE) (σ0:St) (J:It) (Q:VK) (H1:Hp):Prop :=
 ∃ W:Nat->Nat->List V->Hp->Prop,(∃ m,W 0 m [] H1)/\∀ i m ys H,W i m ys H ->
  (J.stop i H/\∀ D,H D=none->Q #[Ri] (mR H D #[VA])) \/
  (J.go i H/\∃ N:List V->Hp->Prop,(∀ rR H',N rR H'->∃ m',m' < m/\W (i+1) m' rR H')/\∀ x H',J.yld i H x H'->g x σ0 H' fun σ2 H2=>ts σ2 H2 fun b H3 =>
   if b=true then te σ2 H3 fun y H4=>ys.length < sizeLine/\N (ys++[y]) H4 else N ys H3)
noncomputable def zoH (ix:List #[AC]) (wi:TI) (g:TG) (ts:TT) (te:TE):TE:=fun σ H Q=>wi σ H fun J H1=>cGo g ts te #[UD] J Q H1
theorem zeO {n:Nat} {g:TG} {Q:VK} (Pv:Nat->List V->Hp->Prop) (h0:Pv 0 [] H) (yJ:∀ i ys H,i < n->Pv i ys H->J.go i H) (pA:∀ ys H,Pv n ys H->J.stop n H)
  (hs:∀ i x ys H H',i < n->Pv i ys H->J.yld i H x H'->g x σ0 H' fun σ2 H2=>ts σ2 H2 fun b H3=>if b=true then te σ2 H3 fun y H4=>ys.length < sizeLine/\Pv (i+1) (ys++[y]) H4 else Pv (i+1) ys H3)
  (hd:∀ ys H D,Pv n ys H->H D=none->Q #[Ri] (mR H D #[VA])):cGo g ts te σ0 J Q H:=by
 refine⟨fun i m ys H=>m=n - i/\i<=n/\Pv i ys H,#[TV],?_⟩;rintro i m ys H ⟨rfl,hi,p⟩;by_cases nC:i < n
 ·exact .inr #[Fa]
 ·have e:i=n:=by lia
  subst e;exact .inl ⟨pA ys H p,fun D hD=>hd ys H D p hD⟩
theorem zo9 {n:Nat} {g:TG} {tb:TS} {D:Ends} {σ:St} (Pv:Nat->St->Hp->Prop) (h0:Pv 0 σ H) (yJ:∀ i σ H,i < n->Pv i σ H->J.go i H) (pA:∀ σ H,Pv n σ H->J.stop n H)
  (hs:∀ i x σ H H',i < n->Pv i σ H->J.yld i H x H'->g x σ H' fun σ2 H2=>tb { D with nx:=Pv (i+1),ct:=Pv (i+1),bk:=D.nx } σ2 H2) (hd:∀ σ H,Pv n σ H->D.nx σ H) :
  ∃ W:Nat->Nat->St->Hp->Prop,(∃ m,W 0 m σ H)/\∀ i m σ H,W i m σ H ->
   (J.stop i H/\D.nx σ H)\/(J.go i H/\∃ N:St->Hp->Prop,(∀ σ' H',N σ' H'->∃ m',m' < m/\W (i+1) m' σ' H')/\∀ x H',J.yld i H x H'->g x σ H' fun σ2 H2=>tb { D with nx:=N,ct:=N,bk:=D.nx } σ2 H2):=by
 refine⟨fun i m σ H=>m=n - i/\i<=n/\Pv i σ H,#[TV],?_⟩;rintro i m σ H ⟨rfl,hi,p⟩;by_cases nC:i < n
 ·exact .inr ⟨yJ i σ H nC p,Pv (i+1),fun σ' H' p'=>⟨n - (i+1),#[O],rfl,nC,p'⟩,fun x H' y=>hs i x σ H H' nC p y⟩
 ·have e:i=n:=by lia
  subst e;exact .inl ⟨pA σ H p,hd σ H p⟩
end L2
end
section
namespace L2
open PySem
variable {H:Hp} {J:It} {te:TE} {ts:TT} {σ0:St}
abbrev Lp (J:It) (g:TG) (tb:TS) (D:Ends) (σ:St) (H:Hp):Prop:=∃ W:Nat->Nat->St->Hp->Prop,(∃ m,W 0 m σ H)/\∀ i m σ H,W i m σ H->(J.stop i H/\D.nx σ H)\/(J.go i H/\∃ N:St->Hp->Prop,(∀ σ' H',N σ' H'->∃ m',m' < m/\W (i+1) m' σ' H')/\∀ x H',J.yld i H x H'->g x σ H' fun σ2 H2=>tb { D with nx:=N,ct:=N,bk:=D.nx } σ2 H2)
abbrev Ends.l (D:Ends) (Pv:Nat->St->Hp->Prop) (i:Nat):Ends:={ D with nx:=Pv (i+1),ct:=Pv (i+1),bk:=D.nx }
section
variable {g:TG} {tb:TS} {D:Ends} {σ:St} {H:Hp} (Pv:Nat->St->Hp->Prop) {n:Nat} {K:af} {a:Addr} {xs:List V}
theorem zjv (h0:Pv 0 σ H) (yJ:∀ i σ H,i < n->Pv i σ H->J.go i H) (pA:∀ σ H,Pv n σ H->J.stop n H) (hs:let N:=D.l Pv; let T:=tb; ∀ i x σ H H',i < n->Pv i σ H->J.yld i H x H'->g x σ H' (T (N i))) (hd:∀ σ H,Pv n σ H->D.nx σ H):Lp J g tb D σ H:=zo9 Pv h0 yJ pA hs hd
theorem zbe (h0:Pv 0 σ H) (hl:∀ i σ H,i<=xs.length->Pv i σ H->mS K H a xs) (hs:let N:=D.l Pv; let T:=tb; ∀ i x σ H,xs[i]? = some x->Pv i σ H->g x σ H (T (N i))) (hd:∀ σ H,Pv xs.length σ H->D.nx σ H):Lp #[WG] g tb D σ H:=zlW Pv h0 hl hs hd
theorem zmg (h0:Pv 0 σ H) (hl:∀ i σ H,i<=xs.length->Pv i σ H->m7 K H a xs) (hs:let N:=D.l Pv; let T:=tb; ∀ i x σ H,xs[i]? = some x->Pv i σ H->g x σ H (T (N i))) (hd:∀ σ H,Pv xs.length σ H->D.nx σ H):Lp (Itt K a) g tb D σ H:=znu Pv h0 hl hs hd
theorem zbT {lo:Int} (h0:Pv 0 σ H) (hs:let N:=D.l Pv; let T:=tb; ∀ i σ H,i < n->Pv i σ H->g (.int (lo+i)) σ H (T (N i))) (hd:∀ σ H,Pv n σ H->D.nx σ H):Lp (Itr lo n) g tb D σ H:=zkr Pv h0 hs hd
end
theorem zao {n:Nat} {g:TG} {Q:VK} (Pv:Nat->List V->Hp->Prop) (h0:Pv 0 [] H) (yJ:∀ i ys H,i < n->Pv i ys H->J.go i H) (pA:∀ ys H,Pv n ys H->J.stop n H)
  (hs:let S:=σ0; let T:=ts; let E:=te; ∀ i x ys H H',i < n->Pv i ys H->J.yld i H x H'->g x S H' fun σ2 H2=>T σ2 H2 fun b H3=>if b=true then E σ2 H3 fun y H4=>ys.length < sizeLine/\Pv (i+1) (ys++[y]) H4 else Pv (i+1) ys H3)
  (hd:∀ ys H D,Pv n ys H->H D=none->Q #[Ri] (mR H D #[VA])):cGo g ts te σ0 J Q H:=zeO Pv h0 yJ pA hs hd
end L2
end
section
namespace L2
theorem mP {α β:Type} {a:β} {f:α->β} {B:α->Prop} {v:α} (h:a=f v) (hb:B v):∃ v,a=f v/\B v:=⟨v,h,hb⟩
theorem m8 {α β γ δ:Type} {a:γ} {b:δ} {f:α->γ} {g:β->δ} {B:α->β->Prop} {v:α} {w:β} (h:a=f v) (h':b=g w) (hb:B v w):∃ v w,a=f v/\b=g w/\B v w:=⟨v,w,h,h',hb⟩
theorem ex3 {A0 A1 A2:Type} {P:A0->A1->A2->Prop} (x0:A0) (x1:A1) (x2:A2) (h:P x0 x1 x2):∃ x0 x1 x2,P x0 x1 x2:=⟨x0,x1,x2,h⟩
theorem ex4 {A0 A1 A2 A3:Type} {P:A0->A1->A2->A3->Prop} (x0:A0) (x1:A1) (x2:A2) (x3:A3) (h:P x0 x1 x2 x3):∃ x0 x1 x2 x3,P x0 x1 x2 x3:=⟨x0,x1,x2,x3,h⟩
theorem ex5 {A0 A1 A2 A3 A4:Type} {P:A0->A1->A2->A3->A4->Prop} (x0:A0) (x1:A1) (x2:A2) (x3:A3) (x4:A4) (h:P x0 x1 x2 x3 x4):∃ x0 x1 x2 x3 x4,P x0 x1 x2 x3 x4:=⟨x0,x1,x2,x3,x4,h⟩
theorem ex6 {A0 A1 A2 A3 A4 A5:Type} {P:A0->A1->A2->A3->A4->A5->Prop} (x0:A0) (x1:A1) (x2:A2) (x3:A3) (x4:A4) (x5:A5) (h:P x0 x1 x2 x3 x4 x5):∃ x0 x1 x2 x3 x4 x5,P x0 x1 x2 x3 x4 x5:=⟨x0,x1,x2,x3,x4,x5,h⟩
theorem ex7 {A0 A1 A2 A3 A4 A5 A6:Type} {P:A0->A1->A2->A3->A4->A5->A6->Prop} (x0:A0) (x1:A1) (x2:A2) (x3:A3) (x4:A4) (x5:A5) (x6:A6) (h:P x0 x1 x2 x3 x4 x5 x6):∃ x0 x1 x2 x3 x4 x5 x6,P x0 x1 x2 x3 x4 x5 x6:=⟨x0,x1,x2,x3,x4,x5,x6,h⟩
theorem ex8 {A0 A1 A2 A3 A4 A5 A6 A7:Type} {P:A0->A1->A2->A3->A4->A5->A6->A7->Prop} (x0:A0) (x1:A1) (x2:A2) (x3:A3) (x4:A4) (x5:A5) (x6:A6) (x7:A7) (h:P x0 x1 x2 x3 x4 x5 x6 x7):∃ x0 x1 x2 x3 x4 x5 x6 x7,P x0 x1 x2 x3 x4 x5 x6 x7:=⟨x0,x1,x2,x3,x4,x5,x6,x7,h⟩
theorem ex9 {A0 A1 A2 A3 A4 A5 A6 A7 A8:Type} {P:A0->A1->A2->A3->A4->A5->A6->A7->A8->Prop} (x0:A0) (x1:A1) (x2:A2) (x3:A3) (x4:A4) (x5:A5) (x6:A6) (x7:A7) (x8:A8) (h:P x0 x1 x2 x3 x4 x5 x6 x7 x8):∃ x0 x1 x2 x3 x4 x5 x6 x7 x8,P x0 x1 x2 x3 x4 x5 x6 x7 x8:=⟨x0,x1,x2,x3,x4,x5,x6,x7,x8,h⟩
theorem zqV {A0 A1 A2 A3 A4 A5 A6 A7 A8 A9:Type} {P:A0->A1->A2->A3->A4->A5->A6->A7->A8->A9->Prop} (x0:A0) (x1:A1) (x2:A2) (x3:A3) (x4:A4) (x5:A5) (x6:A6) (x7:A7) (x8:A8) (x9:A9) (h:P x0 x1 x2 x3 x4 x5 x6 x7 x8 x9):∃ x0 x1 x2 x3 x4 x5 x6 x7 x8 x9,P x0 x1 x2 x3 x4 x5 x6 x7 x8 x9:=⟨x0,x1,x2,x3,x4,x5,x6,x7,x8,x9,h⟩
theorem zqh {A0 A1 A2 A3 A4 A5 A6 A7 A8 A9 yK:Type} {P:A0->A1->A2->A3->A4->A5->A6->A7->A8->A9->yK->Prop} (x0:A0) (x1:A1) (x2:A2) (x3:A3) (x4:A4) (x5:A5) (x6:A6) (x7:A7) (x8:A8) (x9:A9) (uM:yK) (h:P x0 x1 x2 x3 x4 x5 x6 x7 x8 x9 uM):∃ x0 x1 x2 x3 x4 x5 x6 x7 x8 x9 uM,P x0 x1 x2 x3 x4 x5 x6 x7 x8 x9 uM:=⟨x0,x1,x2,x3,x4,x5,x6,x7,x8,x9,uM,h⟩
theorem zqW {A0 A1 A2 A3 A4 A5 A6 A7 A8 A9 yK Cq Cr:Type} {P:A0->A1->A2->A3->A4->A5->A6->A7->A8->A9->yK->Cq->Cr->Prop} (x0:A0) (x1:A1) (x2:A2) (x3:A3) (x4:A4) (x5:A5) (x6:A6) (x7:A7) (x8:A8) (x9:A9) (uM:yK) (xr:Cq) (xt:Cr) (h:P x0 x1 x2 x3 x4 x5 x6 x7 x8 x9 uM xr xt):∃ x0 x1 x2 x3 x4 x5 x6 x7 x8 x9 uM xr xt,P x0 x1 x2 x3 x4 x5 x6 x7 x8 x9 uM xr xt:=⟨x0,x1,x2,x3,x4,x5,x6,x7,x8,x9,uM,xr,xt,h⟩
theorem znI {A0 A1 A2 A3 A4 A5 A6 A7 A8 A9 yK Cq Cr Fd:Type} {P:A0->A1->A2->A3->A4->A5->A6->A7->A8->A9->yK->Cq->Cr->Fd->Prop} (x0:A0) (x1:A1) (x2:A2) (x3:A3) (x4:A4) (x5:A5) (x6:A6) (x7:A7) (x8:A8) (x9:A9) (uM:yK) (xr:Cq) (xt:Cr) (Bv:Fd) (h:P x0 x1 x2 x3 x4 x5 x6 x7 x8 x9 uM xr xt Bv):∃ x0 x1 x2 x3 x4 x5 x6 x7 x8 x9 uM xr xt Bv,P x0 x1 x2 x3 x4 x5 x6 x7 x8 x9 uM xr xt Bv:=⟨x0,x1,x2,x3,x4,x5,x6,x7,x8,x9,uM,xr,xt,Bv,h⟩
theorem zqi {A0 A1 A2 A3 A4 A5 A6 A7 A8 A9 yK Cq Cr Fd A14:Type} {P:A0->A1->A2->A3->A4->A5->A6->A7->A8->A9->yK->Cq->Cr->Fd->A14->Prop} (x0:A0) (x1:A1) (x2:A2) (x3:A3) (x4:A4) (x5:A5) (x6:A6) (x7:A7) (x8:A8) (x9:A9) (uM:yK) (xr:Cq) (xt:Cr) (Bv:Fd) (GW:A14) (h:P x0 x1 x2 x3 x4 x5 x6 x7 x8 x9 uM xr xt Bv GW):∃ x0 x1 x2 x3 x4 x5 x6 x7 x8 x9 uM xr xt Bv GW,P x0 x1 x2 x3 x4 x5 x6 x7 x8 x9 uM xr xt Bv GW:=⟨x0,x1,x2,x3,x4,x5,x6,x7,x8,x9,uM,xr,xt,Bv,GW,h⟩
end L2
end
section
namespace L2
open PySem PySem.Spec PyProof.Rows
variable {A:Around} {H H' H2:Hp} {J:It} {K:af} {R:Result->Shared->Prop} {X:Cx} {ch fp:List Addr} {elt i1 iter tg:Expr} {env:Env} {f1:List Expr} {h:Heap} {it:Addr} {js:List Nat} {k t':Nat} {mO pz:List (Addr×Obj)} {mT:List Value} {pos:Pos} {prog:Program} {s s' s2:Shared} {scope:Scope} {te:TE} {tn:Nat->Heap->Prop} {w:World} {wi:TI}
abbrev TM:=List V->St->Hp->(List V->Hp->Prop)->Prop
abbrev zeG (mT:List Value) (nn:Nat):Obj:={ cls:=.type "list",data:=.seq mT.toArray nn }
structure AccAt (Y:Cx) (mO:List (Addr×Obj)) (H:Hp) (s:Shared) (D:Addr) (ys:List V) (mT:List Value) (nn:Nat):Prop where
 fp:zbL Y mO H D
 here:s.heap.get? D=some (zeG mT nn)
 vals:zM ys mT
 len:ys.length<=sizeLine
noncomputable def zcV (js:List Nat) (σ:St):Prop:=∀ j∈js,∀ v,σ[j]?≠some #[Vp]
noncomputable def Kp (js:List Nat) (σ σ2:St):Prop:=σ2.length=σ.length/\∀ j,j∉js->σ2[j]? = σ[j]?
theorem Kp.refl {σ:St}:Kp js σ σ:=#[VU]
theorem Kp.set {σ σ2:St} {i:Nat} {v:Option V} (hi:i∈js) (h:Kp js σ σ2):Kp js σ (σ2.set i v):=by
 refine⟨by rw [jf]; exact h.1,fun j hj=>?_⟩;rw [d8 (fun z=>hj (by rw [<- z]; exact hi))];exact h.2 j hj
noncomputable def GS (js:List Nat) (g:TG):Prop:=∀ (σ σ1:St) (x:V) (H:Hp) (Q:St->Hp->Prop),Kp js σ σ1->g x σ1 H Q->g x σ1 H fun σ2 H2=>Kp js σ σ2/\Q σ2 H2
noncomputable def GSs (js:List Nat) (g:TGs):Prop:=∀ (σ σ1:St) (xs:List V) (H:Hp) (Q:St->Hp->Prop),Kp js σ σ1->g xs σ1 H Q->g xs σ1 H fun σ2 H2=>Kp js σ σ2/\Q σ2 H2
theorem zjw {i:Nat} (hi:i∈js):GS js (zaR i):=fun σ σ1 x H Q hw h=>⟨hw.set hi,h⟩
theorem zjx:GSs js zkp:=fun σ σ1 xs H Q hw h=>⟨h.1,hw,h.2⟩
theorem zfc {i:Nat} {u:TGs} (hi:i∈js) (h2:GSs js u):GSs js (zdm (zaR i) u):=fun σ σ1 xs H Q hw h=>by
 obtain⟨v,r,e,h⟩:=h;exact⟨v,r,e,h2 σ _ r H Q (hw.set hi) h⟩
theorem zmh {n:Nat} {t:TGs} (h:GSs js t):GS js (ziA K n t):=fun σ σ1 x H Q hw hg=>by
 obtain⟨a,xs,e,hq,hl,hg⟩:=hg;exact⟨a,xs,e,hq,hl,h σ σ1 xs H Q hw hg⟩
theorem Inv.Np {σ:St} (I:Inv X mO σ H s) (h:∀ p∈pz,p∈mO):Inv X pz σ H s :=
 I.Mw fun p hp=>I.pin p (ar _ (h p hp))
section
variable {Y:Cx} {mO:List (Addr×Obj)} {σ:St} {H:Hp} {s:Shared} {D:Addr} {ys:List V} {mT:List Value} {nn:Nat}
theorem AccAt.pin (a:AccAt Y mO H s D ys mT nn) (I:Inv Y mO σ H s):Inv Y (mO++[#[Tf]]) σ H s :=
 I.Mw fun p hp=>by
  rcases (aP.mp hp) with hp | hp
  ·exact I.pin p (ar _ hp)
  ·obtain rfl:p=(D,zeG mT nn):=by simpa using hp
   obtain⟨a0,a1,a2,_⟩:=a.fp;exact⟨a.here,a0,a1,a2,fun v z=>by cases z⟩
theorem AccAt.back {σ':St} (a:AccAt Y mO H s D ys mT nn) (I:Inv Y pz σ' H' s') (hm:#[Tf]∈pz):AccAt Y mO H' s' D ys mT nn:=by
 have p:=I.pin #[Tf] (ar _ hm);exact⟨⟨p.2.1,a.fp.2⟩,p.1,a.vals,a.len⟩
end
noncomputable def PM (Y:Cx) (D:Addr) (js:List Nat) (mk:Sem Fin->Sem Fin) (tm:TM):Prop :=
 ∀ (last:Sem Fin) (mO:List (Addr×Obj)) (s:Shared) (σ:St) (H:Hp) (ys:List V) (mT:List Value) (nn:Nat) (Q:List V->Hp->Prop) (Φ:Fin->Shared->Prop),Inv Y mO σ H s->AccAt Y mO H s D ys mT nn->zcV js σ->tm ys σ H Q ->
  (∀ (s':Shared) (rR:List V) (its':List Value) (C2:Nat) (H':Hp),Inv Y mO σ H' s'->AccAt Y mO H' s' D rR its' C2->Q rR H'->wpAny #[RG] Y.A last Φ #[Rt] s') ->
  wpAny #[RG] Y.A (mk last) Φ #[Rt] s
noncomputable def zgf (elt:Expr) (acc:Value) (env:Env) (last:Sem Fin):Sem Fin:=(eval elt env >>= fun x=>call (.builtin "list.append") [acc,x] >>= fun _=>pure ()) >>= fun _=>last
noncomputable def zjy (e iter:Expr) (d:Nat) (acc:Value) (env:Env) (last:Sem Fin):Sem Fin :=
 eval iter env >>= fun x=>standAt iter.pos >>= fun _=>foldedSetIterable iter env x >>= fun x=>holding [x] (pyIter x) >>= fun itv=>runOwn (.compStart e d itv acc env) env >>= fun _=>last
noncomputable def zmi (te:TE):TM:=fun ys σ H Q=>te σ H fun y H4=>ys.length < sizeLine/\Q (ys++[y]) H4
noncomputable def cIn (g:TG) (ts:TT) (tm:TM) (σ:St) (J:It) (Q:List V->Hp->Prop) (ys:List V) (H1:Hp):Prop :=
 ∃ W:Nat->Nat->List V->Hp->Prop,(∃ m,W 0 m ys H1)/\∀ i m ys H,W i m ys H ->
  (J.stop i H/\Q ys H) \/
  (J.go i H/\∃ N:List V->Hp->Prop,(∀ rR H',N rR H'->∃ m',m' < m/\W (i+1) m' rR H')/\∀ x H',J.yld i H x H'->g x σ H' fun σ2 H2=>ts σ2 H2 fun b H3 =>
   if b=true then tm ys σ2 H3 N else N ys H3)
noncomputable def zmj (wi:TI) (g:TG) (ts:TT) (tm:TM):TM:=fun ys σ H Q=>wi σ H fun J H1=>cIn g ts tm σ J Q ys H1
noncomputable def ziQ (ix:List #[AC]) (wi:TI) (g:TG) (ts:TT) (tm:TM):TE:=fun σ H Q=>wi σ H fun J H1=>cIn g ts tm #[UD] J (fun ys H'=>∀ D,H' D=none->Q #[Ri] #[Tz]) [] H1
theorem thx {α:Type} {m:Sem α} {P Q:α->Shared->Prop} {E:Value->Shared->Prop} (hx:X.xe=fun _ _=>False) (h:wpAny #[on] X.A m P X.xe s) (k:∀ a s',P a s'->Q a s'):wpAny #[on] X.A m Q E s :=
 bR h k fun _ _ z=>by rw [hx] at z; exact z.elim
theorem ziR {Y:Cx} {D:Addr} (hx:Y.xe=fun _ _=>False) (he:PE Y elt te):PM Y D [] (zgf elt #[Ri] Y.env) (zmi te):=by
 intro last mO s σ H ys mT nn Q Φ I a no h k;unfold zgf;refine aa (aa (thx hx (he (mO++[#[Tf]]) s σ H _ (a.pin I) h) fun yv s1 ⟨y,H1,I1,r1,hz,q1⟩=>aa ?_));have a1:=a.back I1 #[XC];have J1:Inv Y mO σ H1 s1:=I1.Np fun p hp=>aH _ hp
 have GX:=a1.vals.length;refine eV kC ⟨_,a1.here,rfl⟩ j4 (jL _ _) (kT D mT.toArray nn yv (by rw [au]; lia)) ⟨a1.here,?_⟩;refine ag ?_;have q:=lu a1.here (·.push yv);have Bw:∀ b o,b≠D->s1.heap.get? b=some o->(s1.heap.update D (cI (·.push yv))).get? b=some o:=fun b o hb e=>(dN s1.heap (cI (·.push yv)) (cX hb)).trans e
 obtain⟨b0,b1,b2,b3,b4,b5⟩:=a1.fp;have HQ:Inv Y mO σ H1 { s1 with heap:=s1.heap.update D (cI (·.push yv)) }:=J1.turned (t':=s1.toks) Bw b0 b1 b3 b4 b5;have e1:mT.toArray.push yv=(mT++[yv]).toArray:=by simp
 rw [e1] at q;refine k _ (ys++[y]) (mT++[yv]) _ H1 HQ ⟨a1.fp,q,a1.vals.append (.cons r1 .nil),?_⟩ q1;rw [aF,gz];lia
section
variable {Y:Cx} {D:Addr} {js js':List Nat} {elt:Expr} {gens:List Comprehension} {scope:Scope} {pos:Pos} {d:Nat} {tg:Expr} {ifs:List Expr} {p:Pos} {mk:Sem Fin->Sem Fin} {g:TG} {ts:TT} {tm:TM}
noncomputable def zbs (tg:Expr) (ifs:List Expr) (p:Pos) (mk:Sem Fin->Sem Fin) (c:Code) (it:Value) (env:Env):Sem Fin :=
 standAt p >>= fun _=>pyNext it >>= fun r=>match r with
  | none=>pure (.done .next)
  | some v=>letOwnedTupleGo tg it v >>= fun _=>assign tg env v >>= fun _=>ziP ifs env >>= fun ok=>if ok=true then mk (again c) else again c
theorem zjz (hc:Y.calm=true) (hx:Y.xe=fun _ _=>False) (xH:GS js g) (qc:∀ j∈js,j∉js') (hg:PG Y tg g) (ht:zdx Y ifs ts) (hm:PM Y D js' mk tm)
  (oO:∀ it,compTurn #[wv] d it #[Ri] Y.env=zbs tg ifs p mk #[W5] it Y.env)
  {σ:St} {Q:List V->Hp->Prop} {ys:List V} {nn:Nat}
  (I2:Inv Y mO σ H2 s2) (a2:AccAt Y mO H2 s2 D ys mT nn) (no:zcV (js++js') σ) (T:Turn Y.prog Y.w Y.K tg J fp it tn) (nR:tn 0 s2.heap) (f2:∀ b∈fp,zbL Y mO H2 b) (fD:∀ b∈fp,b≠D) (q:cIn g ts tm σ J Q ys H2)
  (hR:∀ (s':Shared) (rR:List V) (its':List Value) (C2:Nat) (H':Hp),Inv Y mO σ H' s'->AccAt Y mO H' s' D rR its' C2->Q rR H'->R (.ok .next) s') :
  codeAny #[RG] Y.A #[WE] R s2:=by
 obtain⟨W,⟨m0,w0⟩,turn⟩:=q;have xI:∀ {H':Hp} {mT:List Value} {nn:Nat},(∀ b∈fp,H' b=none)->∀ b∈fp,zbL Y (mO++[#[Tf]]) H' b:=fun {H' mT nn} hn b hb=>by
  obtain⟨_,a1,a2,a3,a4,a5⟩:=f2 b hb;refine#[Yd];rcases (aP.mp hp) with hp | hp
  ·exact a5 p (aH _ hp)
  ·rcases (aP.mp hp) with hp | hp
   ·exact a5 p (ar _ hp)
   ·obtain rfl:p=(D,zeG mT nn):=by simpa using hp
    exact (fD b hb).symm
 refine codeAny_loop rfl (fun n s'=>∃ i ys H' mT nn,Inv Y mO σ H' s'/\tn i s'.heap/\(∀ b∈fp,H' b=none)/\AccAt Y mO H' s' D ys mT nn/\W i n ys H') ?_ m0
  ⟨0,ys,H2,mT,nn,I2,nR,fun b hb=>(f2 b hb).1,a2,w0⟩
 rintro n s5 ⟨i,ys,H5,mT,nn,I5,Bq,fr5,a5,w5⟩;show wpAny _ Y.A ((compTurn #[wv] d #[Ry] #[Ri] Y.env).onRaise (fun x=>do noteFrame x Y.env; theTreesLotGoes x)) _ _ s5;refine wpAny_noted ?_;rw [oO];unfold zbs;have Fe:=a5.pin I5
 (refine aa #[Xn])
 rcases turn i n ys H5 w5 with ⟨stop,qn⟩ | ⟨go,N,hN,step⟩
 ·refine bR #[To] (fun r s6 ⟨hr,I6⟩=>?_) fun _ _ z=>z.elim
  subst hr;exact ag (hR s6 ys mT nn H5 (I6.Np fun p hp=>aH _ hp) (a5.back I6 #[XC]) qn)
 ·refine bR #[Tu] (fun r s6 ⟨u,hr,h6⟩=>?_) fun _ _ z=>z.elim
  subst hr;refine aa (bR h6 (fun _ s7 ⟨x,H7,I7,r7,y7,C3,fr7⟩=>?_) fun _ _ z=>z.elim);have HR:=I7.pinned (xI fr7) (T.obj _ _ C3);refine aa (thx hx #[S8] fun _ s8 ⟨σ8,H8,I8,kp,q8⟩=>?_);refine aa (thx hx (ht _ s8 σ8 H8 _ I8 q8) fun ok s9 ⟨H9,I9,q9⟩=>?_);have mD:#[Tf]∈(mO++[#[Tf]])++zbM fp s7.heap:=aH _ #[XC];have a9:=a5.back I9 mD;have K9:Inv Y #[Ss] σ8 H9 s9:=I9.Np fun p hp=>(aP.mp hp).elim (fun z=>aH _ (aH _ z)) fun z=>ar _ z
  have wk:∀ (j:Nat) v,σ[j]? = some #[Vp]->σ8[j]? = some #[Vp]:=fun j v e=>by
   have hj:j∉js:=fun z=>no j (aH _ z) v e
   rw [kp.2 j hj];exact e
  have back:∀ {H':Hp} {s':Shared},Inv Y #[Ss] σ8 H' s'->Inv Y mO σ H' s'/\tn (i+1) s'.heap/\∀ b∈fp,H' b=none:=fun {H' s'} I'=>by
   refine⟨(I'.Np fun p hp=>aH _ hp).weak kp.1.symm wk,T.keep _ _ _ C3 fun b hb o e=>#[RS].1,fun b hb=>?_⟩;obtain⟨o,e,d⟩:=T.obj _ _ C3 b hb;exact #[RS].2.1
  cases ok with
  | false =>
   rw [if_neg aJ] at q9 |-;obtain⟨m',Bx,w9⟩:=hN _ _ q9;obtain⟨b1,b2,b3⟩:=back K9;exact ag ⟨rfl,m',Bx,i+1,ys,H9,mT,nn,b1,b2,b3,a9,w9⟩
  | true =>
   rw [if_pos rfl] at q9 |-;have HS:AccAt Y #[Ss] H9 s9 D ys mT nn:=by
    obtain⟨b0,b1,b2,b3,b4,b5⟩:=a9.fp;refine⟨⟨b0,b1,b2,b3,b4,fun p hp=>?_⟩,a9.here,a9.vals,a9.len⟩;rcases (aP.mp hp) with hp | hp
    ·exact b5 p (aH _ hp)
    ·rcases (aP.mp hp) with hp | hp
     ·exact b5 p (ar _ hp)
     ·exact fD _ (zed hp).1
   have HU:zcV js' σ8:=fun j hj v e=>by
    have rj:j∉js:=fun z=>qc j z hj
    rw [kp.2 j rj] at e;exact no j (ar _ hj) v e
   refine bR (hm (again _) _ s9 σ8 H9 ys mT nn N (fun fin s'=>match fin with | .done f=>R (.ok f) s' | .again c'=>c'=_/\∃ m,m < n/\_) K9 HS HU q9 fun s' rR its' C2 H' I' a' n'=>?_) (fun _ _ z=>z) fun _ _ z=>z.elim
   obtain⟨m',Bx,w'⟩:=hN _ _ n';obtain⟨b1,b2,b3⟩:=back I';obtain⟨c0,c1,c2,c3,c4,c5⟩:=a'.fp;refine ag ⟨rfl,m',Bx,i+1,rR,H',its',C2,b1,b2,b3,⟨#[Uy],a'.here,a'.vals,a'.len⟩,w'⟩;rcases (aP.mp hp) with hp | hp
   ·exact c5 p (aH _ hp)
   ·exact c5 p #[VT]
theorem zhw {it acc:Value} (hd:gens[d]? = some ⟨tg,iter,ifs,0⟩)
  (h0:codeAny #[or] A (.compLoop #[wv] d it acc env) R s)
  (h:wpAny #[or] A (pyIter it) (fun C4 s'=>codeAny #[or] A (.compLoop #[wv] d C4 acc env) R s') #[Rt] s) :
  codeAny #[or] A (.compStart #[wv] d it acc env) R s:=by
 refine codeAny_of_tree ?_;show wpAny _ _ ((compStart #[wv] d it acc env).onRaise (fun x=>do noteFrame x env; standAt theWindowsPlace)) _ _ s;refine wpAny_notedAt ?_;unfold compStart;have e1:(clausesOf #[wv])[d]? = some ⟨tg,iter,ifs,0⟩:=hd;rw [e1]
 (show wpAny _ _ (ask >>= _) _ _ s)
 (refine aa (gn (wpAny_ite ?_)))
 split
 ·first
   | (exact aa (ag (ag ⟨rfl,h0⟩)))
   | (exact ag ⟨rfl,h0⟩)
 ·first
   | exact aa (cj (aa (di (aa (bR h #[Sv] fun _ _ x=>x.elim)))))
   | (refine aa (cj ?_); show wpAny _ _ (standAt iter.pos >>= _) _ _ s; exact aa (di (aa (bR h #[Sv] fun _ _ x=>x.elim))))
theorem zpa (hc:Y.calm=true) (hx:Y.xe=fun _ _=>False) (xH:GS js g) (qc:∀ j∈js,j∉js') (hi:PI Y tg iter wi) (hg:PG Y tg g) (ht:zdx Y ifs ts) (hm:PM Y D js' mk tm) (hd:gens[d]? = some ⟨tg,iter,ifs,0⟩)
  (oO:∀ it,compTurn #[wv] d it #[Ri] Y.env=zbs tg ifs p mk #[W5] it Y.env)
  (hs:∀ x,foldedSetIterable iter Y.env x=pure x:=by intro _; rfl) :
  PM Y D (js++js') (zjy #[wv] iter d #[Ri] Y.env) (zmj wi g ts tm):=by
 intro last mO s σ H ys mT nn Q Φ I a no h k;unfold zjy;refine aa (thx hx (hi (mO++[#[Tf]]) s σ H _ (a.pin I) h) fun v s1 h1=>aa #[Xn]);rw [hs v];refine ag (aa (bQ (thx hx h1 fun itv s2 h2=>?_)));obtain⟨it,fp,tn,J,H2,e,I2,T,nR,f2,q⟩:=h2;subst e;have a2:=a.back I2 #[XC];have J2:Inv Y mO σ H2 s2:=I2.Np fun p hp=>aH _ hp
 have GY:∀ b∈fp,zbL Y mO H2 b:=fun b hb=>by
  obtain⟨c0,c1,c2,c3,c4,c5⟩:=f2 b hb;refine#[Uy];rcases (aP.mp hp) with hp | hp
  ·exact c5 p (aH _ hp)
  ·exact c5 p #[VT]
 have fD:∀ b∈fp,b≠D:=fun b hb=>((f2 b hb).2.2.2.2.2 #[Tf] (ar _ #[XC])).symm
 have loop:codeAny #[RG] Y.A #[WE] (fun r s'=>match r with | .ok f=>wpAny #[RG] Y.A last Φ #[Rt] s' | .error e=>cameBackBy #[RG] Y.A Y.env #[Rt] e s') s2 :=
  zjz hc hx xH qc hg ht hm oO J2 a2 no T nR GY fD q fun s' rR its' C2 H' I' a' q'=>k s' rR its' C2 H' I' a' q'
 exact aa (wpAny_runOwn (zhw hd loop (T.self _ 0 _ _ _ nR loop)))
end
section
variable {X:Cx} {elt tg iter:Expr} {ifs:List Expr} {gs:List Comprehension} {scope:Scope} {pos:Pos} {N':List Str} {ix:List #[AC]} {js js':List Nat} {g:TG} {ts:TT} {tm:TM} {mk:Addr->Env->Sem Fin->Sem Fin}
theorem zeq {σ:St} {Q:VK} {E:Value->Shared->Prop} {RR:Value->Addr->Result->Shared->Prop}
  (SC:Kr X N' ix scope) (hc:X.calm=true) (xH:GS js g) (qc:∀ j∈js,j∉js') (yL:∀ j∈js++js',ix[j]? = some none)
  (hg:∀ s₃ H₃ ex mO,PG #[mt] tg g) (ht:∀ s₃ H₃ ex mO,zdx #[mt] ifs ts) (hm:∀ s₃ H₃ ex mO D,PM #[mt] D js' (mk D #[mt].env) tm)
  (oO:∀ it D env,compTurn #[pc] 0 it #[Ri] env=zbs tg ifs iter.pos (mk D env) #[T3] it env)
  (I2:Inv X mO σ H2 s2) (T:Turn X.prog X.w X.K tg J fp it tn) (nR:tn 0 s2.heap) (f2:∀ b∈fp,zbL X mO H2 b) (q:cIn g ts tm #[UD] J (fun ys H'=>∀ D,H' D=none->Q #[Ri] #[Tz]) [] H2)
  (HV:∀ (D C:Addr) (s':Shared) (ys:List V) (H':Hp) (m:Str->Option Value),Inv X mO σ #[Tz] s'->zbL X mO #[Tz] C->s'.heap.Ns C m->Q #[Ri] #[Tz]->RR #[Ri] C (.ok .next) s') :
  wpAny #[on] X.A (newList []) (fun acc s₃=>wpAny #[on] X.A (newFunctionEnv scope X.env.globals (zR X.env.cells scope.names []) [] X.env.qual none .none (some X.env)) (fun yM s₄ =>
   codeAny #[on] X.A (.compStart #[pc] 0 #[Ry] acc { yM with scope:=relabel scope X.env }) (RR acc yM.locals) s₄) E s₃) E s2:=by
 have yN:∀ y∈scope.names,y.2 = .free->∃ c,X.env.cells.lookup y.1=some c:=fun y hy hf=>I2.ok.has y.1 #[Ui]
 have ub:∀ x c,(zR X.env.cells scope.names []).lookup x=some c->X.env.cells.lookup x=some c:=zbB scope.names [] yN (fun x c e=>by simp at e);refine bJ (zge ?_);have I3:Inv X mO σ H2 { s2 with heap:=s2.heap.push { cls:=.type "list",dict:=none,data:=.seq ([]:List Value).toArray } }:=I2.kept (t':=s2.toks) fun b o e=>ai _ e
 have C5:(s2.heap.push { cls:=.type "list",dict:=none,data:=.seq ([]:List Value).toArray }).get? s2.heap.objs.size=some { cls:=.type "list",dict:=none,data:=.seq ([]:List Value).toArray }:=aD _ rfl;have yO:tn 0 (s2.heap.push { cls:=.type "list",dict:=none,data:=.seq ([]:List Value).toArray }):=T.keep _ _ _ nR fun b hb o e=>ai _ e
 have yP:(s2.heap.push { cls:=.type "list",dict:=none,data:=.seq ([]:List Value).toArray }).objs.size=s2.heap.objs.size+1:=bz _ _;generalize hh3:s2.heap.push { cls:=.type "list",dict:=none,data:=.seq ([]:List Value).toArray }=h3 at *;have C6:=T.obj _ _ nR;have vm:∀ b∈fp,b < s2.heap.objs.size:=fun b hb=>by obtain⟨o,e,_⟩:=C6 b hb; exact aG e
 have stk:∀ b∈frs X.stack,b=X.env.locals\/b∈X.fs:=fun b hb=>az.mp (I2.Ou b hb)
 have yQ:zbL X mO H2 s2.heap.objs.size:=I2.NP (ah _) I2.fresh;have rk:∀ b∈s2.heap.objs.size :: fp,zbL X mO H2 b:=fun b hb=>by
  rcases (az.mp hb) with e | hb
  ·rw [e]; exact yQ
  ·exact f2 b hb
 have wj:∀ b∈s2.heap.objs.size :: fp,b < h3.objs.size:=fun b hb=>by
  rw [yP];rcases (az.mp hb) with e | hb; · rw [e]; exact fm _
  ·exact c7 (vm b hb)
 have vn:∀ b∈s2.heap.objs.size :: fp,b∉frs X.stack:=fun b hb z=>by
  obtain⟨_,a1,a2,_⟩:=rk b hb;rcases stk b z with e | e
  ·exact a1 e
  ·exact a2 e
 have hns₁:(pushCells (h3.push { cls:=.type "dict",data:=.dict #[] }) scope.names).Ns h3.objs.size #[Ym]:=(mJ h3 (.type "dict")).keeps (gJ _ _);have old:∀ b o,h3.get? b=some o->(pushCells (h3.push { cls:=.type "dict",data:=.dict #[] }) scope.names).get? b=some o:=fun b o e=>gJ _ _ b o (ai _ e)
 have C7:∀ x c,X.env.cells.lookup x=some c->c < h3.objs.size:=fun x c e=>by
  obtain⟨v,q⟩:=I3.cell x c e;exact q.lt
 have co:CO (pushCells (h3.push { cls:=.type "dict",data:=.dict #[] }) scope.names) #[Ix] (zR X.env.cells scope.names []) (cellsFrom #[Ix] scope.names (zR X.env.cells scope.names [])):=by
  have:=zjt (lo:=h3.objs.size+1) (old:=zR X.env.cells scope.names []) scope.names (h3.push { cls:=.type "dict",data:=.dict #[] }) (zR X.env.cells scope.names [])
   #[RZ] (by rw [bz]; exact ah _)
  rw [bz] at this;exact this
 generalize pushCells (h3.push { cls:=.type "dict",data:=.dict #[] }) scope.names=h₁ at hns₁ old co |-;have C8:∀ {x c},(cellsFrom #[Ix] scope.names (zR X.env.cells scope.names [])).lookup x=some c->(h₁.IsCell c none/\h3.objs.size+1<=c)\/X.env.cells.lookup x=some c:=fun {x c} e=>(co.each x c e).elim .inl fun z=>.inr (ub x c z.1)
 have Ff:∀ x,scope.names.lookup x=some .free->(cellsFrom #[Ix] scope.names (zR X.env.cells scope.names [])).lookup x=(zR X.env.cells scope.names []).lookup x:=fun x hx=>zfb _ _ _ _ fun z=>by
  have:=SC.cells _ z rfl;rw [hx] at this;cases this
 let s3:Shared:={ s2 with heap:=h3 }
 let Y:Cx:=zN X N' scope s3 H2 #[Yr] mO
 have rV:Inv X mO σ H2 s3:=I3;have Fg:Y.Ok:=by
  refine#[NE]
  ·have v7:=zcA (env:=X.env) (names:=scope.names) (x:=x) hx;rcases v7 with v7 | v7
   ·obtain⟨c,e⟩:=zbr (cs:=X.env.cells) scope.names [] x (.inr #[V7]);exact⟨c,(Ff x v7).trans e⟩
   ·obtain⟨c,e,_⟩:=zeg scope.names #[Ix] (zR X.env.cells scope.names []) x #[V7];exact⟨c,e⟩
  ·obtain⟨c',e',l'⟩:=zeg scope.names #[Ix] (zR X.env.cells scope.names []) x (lookup_mem (by have z':(scope.names.lookup x == some cW)=true:=z; simpa using z'));have e2:(cellsFrom #[Ix] scope.names (zR X.env.cells scope.names [])).lookup x=some c:=e;rw [e'] at e2;cases e2;exact dZ l'
  ·refine⟨aQ (wj b hb),fun x c e=>(C8 e).elim (fun z y=>?_) fun z=>(rk b hb).2.2.2.2.1 x c z⟩;subst y;exact cm _ (aU (wj _ hb) (dZ z.2))
  ·exact bq I2.ok.bsz rV.sz
  ·obtain⟨_,_,_,a3,_⟩:=rk b hb;rcases a3 with z | z
   ·exact I2.ok.Qi b o e z
   ·have:=(I2.ok.bs b o e).1;exact absurd (aU (aG this) z) (cm _)
 have zkz:Inv Y [] #[UD] H2 { s3 with heap:=h₁ }:=by
  refine⟨Fg,rfl,I2.bare,Un.kept old,#[Wz],fun x c e=>?_,rV.fresh,fun x c e=>(C8 e).elim (fun z=>rV.hok.fresh (dZ z.2)) fun z=>I2.KS x c z,fun p hp=>?_,rV.hok.kept old,?_⟩
  ·unfold zbG at e2;rw [ao] at e2;cases hj:ix[j]? with
   | none=>rw [hj] at e2; simp at e2
   | some oi =>
    rw [hj] at e2;cases oi with
    | none=>simp at e2
    | some i =>
     obtain⟨y,h1,h2,By⟩:=SC.cap j i hj;have GZ:y=x:=by
      have Fh:N'[j]? = some x:=e1;rw [h1] at Fh;exact aO Fh
     subst GZ;have yR:(σ[i]?).join=some v:=by simpa using e2
     have C9:σ[i]? = some #[Vp]:=by
      cases hs:σ[i]? with
      | none=>rw [hs] at yR; simp at yR
      | some w=>rw [hs] at yR; simp at yR; rw [yR]
     obtain⟨m,hn,hl⟩:=rV.loc;have hk:=SC.free (y,.free) #[V8] rfl;have De:Vis X.env.scope y:=hk.elim (fun z=>.inr (.inl z)) fun z=>.inr (.inr z)
     obtain⟨u,r,l⟩:=hl i y v h2 C9 De;refine⟨u,r,.inr ⟨za4 By,?_⟩⟩;obtain⟨c,oK⟩:=zbr (cs:=X.env.cells) scope.names [] y (.inr #[V8]);refine⟨c,(Ff y By).trans oK,?_⟩;rcases l with ⟨ux,_⟩ | ⟨_,c',nh,p8⟩
     ·rcases hk with hk | hk
      ·have uc:X.env.kindOf y=some .cell:=hk;rw [uc] at ux; cases ux
      ·have uc:X.env.kindOf y=some .free:=hk;rw [uc] at ux; cases ux
     ·have:=ub y c oK;rw [nh] at this;cases this;obtain⟨o,ho,hd⟩:=p8;exact⟨o,old _ _ ho,hd⟩
  ·rcases C8 e with z | z
   ·exact⟨_,z.1⟩
   ·obtain⟨v,o,ho,hd⟩:=rV.cell x c z;exact⟨v,o,old _ _ ho,hd⟩
  ·have rQ:p∈X.pn++mO:=by
    have:p∈(X.pn++mO)++([]:List (Addr×Obj)):=hp;simpa using this
   obtain⟨a1,a2,a3,a4,a5⟩:=rV.pin p rQ;exact⟨old _ _ a1,a2,aQ (aG a1),fun z=>(stk _ z).elim a3 a4,a5⟩
  ·unfold zbG;rw [ae];exact SC.len.symm
 have xI:∀ {H':Hp},(∀ b∈s2.heap.objs.size :: fp,H' b=none)->∀ b∈s2.heap.objs.size :: fp,zbL Y [] H' b:=fun {H'} hn b hb=>by
  obtain⟨_,a1,a2,a3,a4,a5⟩:=rk b hb;refine⟨hn b hb,aQ (wj b hb),vn b hb,.inl hb,(Fg.exf b hb).2,fun p hp=>?_⟩;have:p∈(X.pn++mO)++([]:List (Addr×Obj)):=hp;exact a5 p (by simpa using this)
 have Fi:∀ b∈s2.heap.objs.size :: fp,H2 b=none:=fun b hb=>(rk b hb).1
 have Bs:zcV (js++js') #[UD]:=fun j hj v e=>by
  unfold zbG at e;rw [ao,yL j hj] at e;simp at e
 have loop:∀ s₅:Shared,s₅ = { s2 with heap:=h₁ } ->
   codeAny #[on] X.A (.compLoop #[pc] 0 #[Ry] #[Tk] (compEnvC scope (cellsFrom #[Ix] scope.names (zR X.env.cells scope.names [])) h3.objs.size X.env)) (RR #[Tk] h3.objs.size) s₅:=by
  rintro s₅ rfl;refine zjz (Y:=Y) (mO:=[]) (σ:=zbG ix σ) (mT:=[]) (nn:=0) hc rfl xH qc (hg s3 H2 _ mO) (ht s3 H2 _ mO) #[Wc] (fun it=>oO it _ _) zkz ⟨xI Fi _ aE,old _ _ C5,.nil,aZ _⟩ Bs T (T.keep _ _ _ yO fun b hb o e=>old b o e)
   (fun b hb=>xI Fi b (aq _ hb)) (fun b hb=>aQ (vm b hb)) q fun s6 ys mT nn H5 I6 a6 qn=>?_
  have Fj:H5 s2.heap.objs.size=none:=a6.fp.1;have I7:Inv X mO σ H5 s6:=by
   refine rV.Qx (s':=s6) (ch:=s2.heap.objs.size :: fp) I6.os I6.base I6.hok I6.bare fun b hb=>?_
   obtain⟨_,a1,a2,a3,a4,a5⟩:=rk b hb;exact⟨a3,a1,a4,a5⟩
  have I8:Inv X mO σ (mR H5 s2.heap.objs.size #[VA]) s6:=by
   obtain⟨_,a1,a2,a3,a4,a5⟩:=yQ;exact I7.Pd Fj I2.sz (cX a1) a4 a5 ⟨a6.len,mT,nn,a6.vals,a6.here⟩
  obtain⟨mm,Fk,_⟩:=I6.loc;have HW:h3.objs.size≠s2.heap.objs.size:=by rw [yP]; exact gp _
  refine HV _ _ s6 ys H5 mm I8 (rV.NP (H':=mR H5 s2.heap.objs.size #[VA]) (ah _) ?_) Fk (qn _ Fj);show mR H5 s2.heap.objs.size #[VA] h3.objs.size=none;rw [zg HW];exact I6.free
 exact zhw rfl (loop _ rfl) (T.self _ 0 _ _ _ (T.keep _ _ _ yO fun b hb o e=>old b o e) (loop _ rfl))
theorem zmk (SC:Kr X N' ix scope) (hc:X.calm=true) (xH:GS js g) (qc:∀ j∈js,j∉js') (yL:∀ j∈js++js',ix[j]? = some none) (hi:PI X tg iter wi)
  (hg:∀ s₃ H₃ ex mO,PG #[mt] tg g) (ht:∀ s₃ H₃ ex mO,zdx #[mt] ifs ts) (hm:∀ s₃ H₃ ex mO D,PM #[mt] D js' (mk D #[mt].env) tm)
  (oO:∀ it D env,compTurn #[pc] 0 it #[Ri] env=zbs tg ifs iter.pos (mk D env) #[T3] it env)
  (hs:∀ x,foldedSetIterable iter X.env x=pure x:=by intro _; rfl):PE X #[pc] (ziQ ix wi g ts tm):=by
 intro mO s σ H Q I h;rw [eval_ListComp];have yN:∀ y∈scope.names,y.2 = .free->∃ c,X.env.cells.lookup y.1=some c:=fun y hy hf=>I.ok.has y.1 #[Ui]
 refine fJ (use:=none) rfl hs (zce yN) SC.kind SC.names (thn #[Uv] fun v s1 h1=>thn h1 fun itv s2 h2=>?_);obtain⟨it,fp,tn,J,H2,e,I2,T,nR,f2,q⟩:=h2;subst e;refine zeq (RR:=fun acc C=>compPost #[on] X.A X.xe none #[P3] acc C) SC hc xH qc yL hg ht hm oO I2 T nR f2 q ?_;intro D C s' ys H' m I' Fl hm q';refine#[W3];obtain⟨f0,f1,GY,f3,f4,f5⟩:=Fl;exact I'.turned (t':=s'.toks) #[Wn] f0 f1 f3 f4 f5
theorem zer {i:Nat} {x:Str} {pos' qI:Pos} (hN:X.N.Nodup) (BA:X.N[i]? = some x) (hx:Loc X.env.scope x) (SC:Kr X N' ix scope) (hc:X.calm=true) (xH:GS js g) (qc:∀ j∈js,j∉js') (yL:∀ j∈js++js',ix[j]? = some none) (hi:PI X tg iter wi)
  (hg:∀ s₃ H₃ ex mO,PG #[mt] tg g) (ht:∀ s₃ H₃ ex mO,zdx #[mt] ifs ts) (hm:∀ s₃ H₃ ex mO D,PM #[mt] D js' (mk D #[mt].env) tm)
  (oO:∀ it D env,compTurn #[pc] 0 it #[Ri] env=zbs tg ifs iter.pos (mk D env) #[T3] it env)
  (Fm:swapsWith #[pc] #[Xm] qI.line X.env=pure true:=by rfl)
  (hs:∀ x,foldedSetIterable iter X.env x=pure x:=by intro _; rfl) (hf:X.fn x=true\/X.env.scope.names.lookup x=some .local:=by first | exact .inl rfl | exact .inr rfl | assumption) :
  PS X (.Assign [.Name x pos'] #[pc] qI) (zfM (ziQ ix wi g ts tm) (zaR i)):=by
 intro mO s σ H D I h;have yN:∀ y∈scope.names,y.2 = .free->∃ c,X.env.cells.lookup y.1=some c:=fun y hy hf=>I.ok.has y.1 #[Ui]
 rw [exec_Assign_Name_used _ _ _ _ Fm]; refine aa #[Xn];show wpAny _ X.A (do let _ <- comprehension #[pc] scope X.env _ (newList []) false (eval iter X.env) (some #[Wi])) _ _ s;refine aa (bR (fJ (use:=some #[Wi]) (Q:=fun _ s'=>SP X mO D .next s') rfl hs (zce yN) SC.kind SC.names
  (thn #[Uv] fun v s1 h1=>thn h1 fun itv s2 h2=>?_)) (fun _ s' hq=>ag (ag hq)) fun _ _ e=>e)
 obtain⟨it,fp,tn,J,H2,e,I2,T,nR,f2,q⟩:=h2;subst e;refine zeq (Q:=fun x H1=>zaR i x σ H1 D.nx) (RR:=fun acc C=>compPost #[on] X.A X.xe (some #[Wi]) (fun _ s'=>SP X mO D .next s') acc C) SC hc xH qc yL hg ht hm oO I2 T nR f2 q ?_;intro Da C s' ys H' m I' Fl hm q';show wpAny _ X.A (assign #[Sm] X.env (.ref Da)) _ _ _;refine wpAny_assign_Name (zf0 I' hN BA hx (show RelV (.ref Da) (.ref Da) from rfl) (fun E6 I'' ⟨a,oM,ha⟩=>?_) hf);obtain⟨f0,f1,GY,f3,f4,f5⟩:=Fl;have hCa:C≠a:=by
  rcases ha with e | e
  ·rw [e]; exact f1
  ·exact cX (f4 x a e)
 refine⟨m,hm.sameBut oM hCa,fun h₃ hs₃=>⟨_,_,?_,q'⟩⟩;exact I''.turned (t':=E6.toks) (fun b o hb e=>hs₃.extBut b o hb e) f0 f1 f3 f4 f5
end
theorem zpb {t1 t2 i2:Expr} {f2:List Expr} (it:Value) (D:Addr) (env:Env):compTurn (.ListComp elt [⟨t1,i1,f1,0⟩,⟨t2,i2,f2,0⟩] scope pos) 0 it #[Ri] env =
  zbs t1 f1 i1.pos (zjy (.ListComp elt [⟨t1,i1,f1,0⟩,⟨t2,i2,f2,0⟩] scope pos) i2 1 #[Ri] env) (.compLoop (.ListComp elt [⟨t1,i1,f1,0⟩,⟨t2,i2,f2,0⟩] scope pos) 0 it #[Ri] env) it env:=by rfl
theorem zpc {t1 t2 i2:Expr} {f2:List Expr} (it:Value) (D:Addr) (env:Env):compTurn (.ListComp elt [⟨t1,i1,f1,0⟩,⟨t2,i2,f2,0⟩] scope pos) 1 it #[Ri] env =
  zbs t2 f2 i2.pos (zgf elt #[Ri] env) (.compLoop (.ListComp elt [⟨t1,i1,f1,0⟩,⟨t2,i2,f2,0⟩] scope pos) 1 it #[Ri] env) it env:=by rfl
noncomputable def zdy (ix:List #[AC]):List Nat:=(bn ix.length).filter fun j=>ix[j]? == some none
theorem zbU {ix:List #[AC]} {i:Nat}:i∈zdy ix↔ix[i]? = some none:=by
 unfold zdy;rw [db,bU,beq_iff_eq];exact⟨fun h=>h.2,fun h=>⟨(aj.mp h).1,h⟩⟩
noncomputable def GK (ix:List #[AC]) (g:TG):Prop:=GS (zdy ix) g
noncomputable def GKs (ix:List #[AC]) (g:TGs):Prop:=GSs (zdy ix) g
theorem zaO {ix:List #[AC]} {i:Nat} (hi:ix[i]? = some none):GK ix (zaR i):=zjw (zbU.2 hi)
theorem zb2 {ix:List #[AC]}:GKs ix zkp:=zjx
theorem zap {ix:List #[AC]} {i:Nat} {u:TGs} (hi:ix[i]? = some none) (h2:GKs ix u):GKs ix (zdm (zaR i) u):=zfc (zbU.2 hi) h2
theorem zcW {ix:List #[AC]} {K:af} {n:Nat} {t:TGs} (h:GKs ix t):GK ix (ziA K n t):=zmh h
theorem zkA {ix:List #[AC]} {g:TG} {u:TGs} (h1:GK ix g) (h2:GKs ix u) (mono:∀ (x:V) (σ:St) (H:Hp) (Q Q':St->Hp->Prop),(∀ σ' H',Q σ' H'->Q' σ' H')->g x σ H Q->g x σ H Q'):GKs ix (zdm g u):=fun σ σ1 xs H Q hw h=>by
 obtain⟨v,r,e,h⟩:=h;refine⟨v,r,e,mono v σ1 H _ _ (fun σ' H' q=>?_) (h1 σ σ1 v H _ hw h)⟩;exact h2 σ σ' r H' Q q.1 q.2
theorem zoI {t1:Expr} (it:Value) (D:Addr) (env:Env):compTurn (.ListComp elt [⟨t1,i1,f1,0⟩] scope pos) 0 it #[Ri] env =
  zbs t1 f1 i1.pos (zgf elt #[Ri] env) (.compLoop (.ListComp elt [⟨t1,i1,f1,0⟩] scope pos) 0 it #[Ri] env) it env:=by rfl
section
variable {X:Cx} {elt tg iter:Expr} {ifs:List Expr} {scope:Scope} {pos:Pos} {N':List Str} {ix:List #[AC]} {g:TG} {ts:TT} {te:TE}
theorem zaP {wi:TI} (SC:Kr X N' ix scope) (hc:X.calm=true) (hk:GK ix g) (hi:PI X tg iter wi)
  (hg:∀ s₃ H₃ ex mO,PG #[mt] tg g) (ht:∀ s₃ H₃ ex mO,zdx #[mt] ifs ts) (he:∀ s₃ H₃ ex mO,PE #[mt] elt te)
  (hs:∀ x,foldedSetIterable iter X.env x=pure x:=by intro _; rfl):PE X (.ListComp elt [⟨tg,iter,ifs,0⟩] scope pos) (zoH ix wi g ts te) :=
 zmk (mk:=fun D env=>zgf elt #[Ri] env) (js:=zdy ix) (js':=[]) SC hc hk (fun _ _ h=>nomatch h) (fun j h=>zbU.1 (by simpa using h)) hi hg ht #[Up] (fun _ _ _=>zoI _ _ _) hs
theorem zbt {wi:TI} {i:Nat} {x:Str} {pos' qI:Pos} (hN:X.N.Nodup) (BA:X.N[i]? = some x) (hx:Loc X.env.scope x) (SC:Kr X N' ix scope) (hc:X.calm=true) (hk:GK ix g) (hi:PI X tg iter wi)
  (hg:∀ s₃ H₃ ex mO,PG #[mt] tg g) (ht:∀ s₃ H₃ ex mO,zdx #[mt] ifs ts) (he:∀ s₃ H₃ ex mO,PE #[mt] elt te)
  (Fm:swapsWith (.ListComp elt [⟨tg,iter,ifs,0⟩] scope pos) #[Xm] qI.line X.env=pure true:=by rfl)
  (hs:∀ x,foldedSetIterable iter X.env x=pure x:=by intro _; rfl) (hf:X.fn x=true\/X.env.scope.names.lookup x=some .local:=by first | exact .inl rfl | exact .inr rfl | assumption) :
  PS X (.Assign [.Name x pos'] (.ListComp elt [⟨tg,iter,ifs,0⟩] scope pos) qI) (zfM (zoH ix wi g ts te) (zaR i)) :=
 zer (mk:=fun D env=>zgf elt #[Ri] env) (js:=zdy ix) (js':=[]) hN BA hx SC hc hk (fun _ _ h=>nomatch h) (fun j h=>zbU.1 (by simpa using h)) hi hg ht #[Up] (fun _ _ _=>zoI _ _ _) Fm hs hf
end
section
variable {X:Cx} {mO:List (Addr×Obj)} {σ:St} {H:Hp} {s:Shared} {h':Heap}
theorem Inv.Na (I:Inv X mO σ H s) (k:∀ b o,b∉ch->s.heap.get? b=some o->h'.get? b=some o) (hf:∀ b∈ch,zbL X mO H b)
  (th:∀ b∈ch,∃ o,h'.get? b=some o):Inv X mO σ H { s with heap:=h',toks:=t' }:=by
 have xp:∀ b u,H b=some u->b∉ch:=fun b u e z=>by rw [(hf b z).1] at e; cases e
 refine I.step (g':=s.gens) (d':=s.drawn) (ch:=ch) (fun b hb=>?_) (fun b o _ _ hc e _=>k b o hc e) (fun b o _ _ hc e _=>⟨o.slots,k b o hc e⟩) #[T7]
  (fun b o hc e=>⟨o,k b o hc e⟩) #[UW] #[UX] (fun b ps e=>⟨#[],by rw [e]; simp⟩) #[VD] (fun b u e=>?_) I.bare
 ·obtain⟨_,a1,_,a3,a4,a5⟩:=hf b hb;exact⟨a3,a1,a4,a5⟩
 ·obtain⟨o,es,ep,ho,r⟩:=hm;exact⟨o,es,ep,k _ o (fun z=>(hf _ z).2.1 rfl) ho,r⟩
 ·refine #[VS].NH (fun c v hc q=>k c v ?_ q) #[UH] fun _ _ q=>q
  rcases hc with z | z
  ·rw [z]; exact xp b u e
  ·exact xp c _ z
theorem Inv.Mt {T:Addr} {o:HO} (I:Inv X mO σ H s) (k:∀ b o,b∉ch->s.heap.get? b=some o->h'.get? b=some o) (hf:∀ b∈ch,zbL X mO H b)
  (th:∀ b∈ch,∃ o,h'.get? b=some o) (hT:s.heap.objs.size<=T) (ok:zab X.prog X.w (mR H T o) h' T o):Inv X mO σ (mR H T o) { s with heap:=h',toks:=t' }:=by
 have I1:Inv X mO σ H { s with heap:=h',toks:=t' }:=I.Na k hf th;have hn:H T=none:=I.hok.fresh hT;obtain⟨_,a1,a2,a3,a4,a5⟩:=I.NP (H':=H) hT hn;exact I1.Pd hn (bq I.sz hT) (cX a1) a4 a5 ok
end
theorem zcB {T:Addr} {a b:Value} (e:h.get? T=some { cls:=.type "tuple",data:=.seq #[a,b] }):IsTup h T ([a,b]:List Value).toArray:=⟨_,e,rfl,_,rfl⟩
theorem zbH:2<=sizeLine:=by rw [a8]; decide
noncomputable def zkB (uy uz:Hp->Addr->List V->Prop) (a b:Addr):It :=
 ⟨fun i H=>∃ xs ys x y,uy H a xs/\uz H b ys/\xs[i]? = some x/\ys[i]? = some y,
  fun i H x H'=>∃ T u v,H T=none/\x = .ref T/\H'=mR H T (.tup [u,v])/\(∀ xs,uy H a xs->xs[i]? = some u)/\∀ ys,uz H b ys->ys[i]? = some v,
  fun i H=>∃ xs ys,uy H a xs/\uz H b ys/\(xs.length<=i\/ys.length<=i)⟩
theorem zkC {P:Program} {es:List Expr} (a b:Addr) (n:Nat) (ha:a < n) (hb:b < n):Turn P w K #[Uj] (zkB (mS K) (mS K) a b) [n+4,n+2,n+3,n,n+1] (n+4)
  (fun i h=>IsZip h (n+4) (n+2) (n+3) .none/\IsPair h (n+2) (.ref n) #[X3]/\(∃ u v,IsPair h (n+3) u v)/\h.IsListIter n a i/\h.IsListIter (n+1) b i) where
 mem:=by simp
 obj:=fun i h st c hc=>by
  obtain⟨h1,h2,⟨u,v,h3⟩,⟨o4,e4,_,d4⟩,⟨o5,e5,_,d5⟩⟩:=st;simp only [az,bi,or_false] at hc;rcases hc with z | z | z | z | z <;> subst z
  ·exact⟨_,h1,fun v z=>by cases z⟩
  ·exact⟨_,h2,fun v z=>by cases z⟩
  ·exact⟨_,h3,fun v z=>by cases z⟩
  ·exact⟨_,e4,fun v z=>by rw [d4] at z; cases z⟩
  ·exact⟨_,e5,fun v z=>by rw [d5] at z; cases z⟩
 keep:=fun i h h' st kk=>by
  obtain⟨h1,h2,⟨u,v,h3⟩,h4,h5⟩:=st;exact⟨kk _ #[M] _ h1,kk _ #[M] _ h2,#[VH],h4.at fun o eo=>kk _ #[M] o eo,h5.at fun o eo=>kk _ #[M] o eo⟩
 item:=by
  intro X hP hw hK hc i mO s σ H E I hf st hg;subst hP hw hK;obtain⟨xs,ys,x,y,uf,rl,hx,hy⟩:=hg;obtain⟨h1,h2,⟨u0,v0,h3⟩,h4,h5⟩:=st;obtain⟨oE,xu,p1,sk⟩:=I.list uf;obtain⟨nS,xJ,p2,yS⟩:=I.list rl;obtain⟨u,hu,ru⟩:=xu.get hx;obtain⟨v,hv,rv⟩:=xJ.get hy;have hzs:n+4 < s.heap.objs.size:=aG h1;refine wpAny_pyNext_zip_item #[U3] h1 h2 h3 h4 h5 p1.isList p2.isList (x:=u) (y:=v) (by simpa using hu) (by simpa using hv) fun h' a1 a2 a3 a4 a5 a6 kk=>?_
  have k1:∀ c o,c∉[n+4,n+3,n,n+1]->s.heap.get? c=some o->h'.get? c=some o:=fun c o nh eo =>
   kk c o (fun z=>nh (by simp [z])) (fun z=>nh (by simp [z])) (fun z=>nh (by simp [z])) (fun z=>nh (by simp [z])) eo
  have sub:∀ c∈[n+4,n+3,n,n+1],c∈[n+4,n+2,n+3,n,n+1]:=fun c nh=>by
   simp only [az,bi,or_false] at nh |-;rcases nh with z | z | z | z <;> subst z <;> simp
  have Fn:∀ c∈[n+4,n+3,n,n+1],∃ o,h'.get? c=some o:=fun c nh=>by
   simp only [az,bi,or_false] at nh;rcases nh with z | z | z | z <;> subst z
   ·exact⟨_,a1⟩
   ·exact⟨_,a2⟩
   ·obtain⟨o,e,_⟩:=a3; exact⟨o,e⟩
   ·obtain⟨o,e,_⟩:=a4; exact⟨o,e⟩
  have I1:Inv X mO σ (mR H s.heap.objs.size (.tup [x,y])) { s with heap:=h' } :=
   I.Mt (t':=s.toks) k1 (fun c nh=>hf c (sub c nh)) Fn (ah _) ⟨zbH,_,.cons ru (.cons rv .nil),zcB a5⟩
  refine⟨_,rfl,wpAny_letOwnedTupleGo_zip a1 fun Bz yT qd=>?_⟩;have fr:∀ c∈[n+4,n+2,n+3,n,n+1],mR H s.heap.objs.size (.tup [x,y]) c=none:=fun c nh=>by
   have nC:c < s.heap.objs.size:=by
    simp only [az,bi,or_false] at nh;rcases nh with z | z | z | z | z <;> subst z <;> lia
   rw [zg (aQ nC)];exact (hf c nh).1
  have I2:Inv X mO σ (mR H s.heap.objs.size (.tup [x,y])) { s with heap:=Bz } :=
   Inv.Na (s:={ s with heap:=h' }) (ch:=[n+4]) (t':=s.toks) I1 (fun c o nh eo=>qd.extBut c o (by simpa using nh) eo) (fun c nh=>by
    have z:c=n+4:=by simpa using nh
    subst z;exact⟨fr _ #[M],(hf _ #[M]).2⟩) (fun c nh=>by
    have z:c=n+4:=by simpa using nh
    subst z;exact⟨_,yT⟩)
  refine⟨.ref s.heap.objs.size,_,I2,rfl,⟨_,x,y,I.fresh,rfl,rfl,fun zs hz=>by rw [I.Li hz uf]; exact hx,fun zs hz=>by rw [I.Li hz rl]; exact hy⟩,
   ⟨yT,qd.extBut _ _ #[U3].TIz (kk _ _ #[U3].TIz #[U3].TITO #[U3].TIi1 #[U3].TIi2 h2),⟨_,_,qd.extBut _ _ #[U3].TOz a2⟩,a3.extBut qd.extBut #[U3].i1z,a4.extBut qd.extBut #[U3].i2z⟩,fr⟩
 done:=by
  intro X hP hw hK hc i mO s σ H E I hf st hg;subst hP hw hK;obtain⟨xs,ys,uf,rl,hx⟩:=hg;obtain⟨h1,h2,⟨u0,v0,h3⟩,h4,h5⟩:=st;obtain⟨oE,xu,p1,sk⟩:=I.list uf;obtain⟨nS,xJ,p2,yS⟩:=I.list rl;have vc:=xu.length;have qX:=xJ.length;refine wpAny_pyNext_zip_end #[R0] #[U3] h1 h2 h3 h4 h5 p1.isList p2.isList ?_ fun h' kk=>#[Vc]
  ·rcases hx with z | z
   ·exact .inl (by simp; lia)
   ·exact .inr (by simp; lia)
  ·have hth:∀ c∈[n+4,n+3,n,n+1],c∈[n+4,n+2,n+3,n,n+1]:=fun c nh=>by
    simp only [az,bi,or_false] at nh |-;rcases nh with z | z | z | z <;> subst z <;> simp
   refine I.step (g':=s.gens) (d':=s.drawn) (t':=s.toks) (ch:=[n+4,n+3,n,n+1]) (fun c nh=>?_) (fun c o _ _ oK e _=>kk c o (fun z=>oK (by simp [z])) (fun z=>oK (by simp [z])) (fun z=>oK (by simp [z])) (fun z=>oK (by simp [z])) e)
    (fun c o _ _ oK e _=>⟨o.slots,kk c o (fun z=>oK (by simp [z])) (fun z=>oK (by simp [z])) (fun z=>oK (by simp [z])) (fun z=>oK (by simp [z])) e⟩) #[T7]
    (fun c o oK e=>⟨o,kk c o (fun z=>oK (by simp [z])) (fun z=>oK (by simp [z])) (fun z=>oK (by simp [z])) (fun z=>oK (by simp [z])) e⟩) #[UW] #[UX] (fun c ps e=>⟨#[],by rw [e]; simp⟩) #[VD] (fun c u e=>?_) I.bare
   ·obtain⟨_,a1,_,a3,a4,a5⟩:=hf c (hth c nh);exact⟨a3,a1,a4,a5⟩
   ·obtain⟨o,es',ep,ho,r⟩:=hm;have ne:∀ c∈[n+4,n+2,n+3,n,n+1],X.env.locals≠c:=fun c nh=>cX (hf c nh).2.1
    exact⟨o,es',ep,kk _ o (ne _ #[M]) (ne _ #[M]) (ne _ #[M]) (ne _ #[M]) ho,r⟩
   ·have xp:∀ d u',H d=some u'->∀ c∈[n+4,n+2,n+3,n,n+1],d≠c:=fun d u' e' c nh z=>by rw [z,(hf c nh).1] at e'; cases e'
    refine (I.hok c u e).NH (fun d v' hd q=>kk d v' ?_ ?_ ?_ ?_ q) #[UH] fun _ _ q=>q
    all_goals
     rcases hd with z | z
     ·rw [z]; exact xp c u e _ #[M]
     ·exact xp d _ z _ #[M]
 self:=fun _ _ _ _ _ st h=>gq st.1 h
noncomputable def iZp (uy uz:Hp->Addr->List V->Prop) (ta:TA):TI:=fun σ H R=>ta σ H fun vs H1=>∃ a b xs ys,vs = [.ref a,.ref b]/\uy H1 a xs/\uz H1 b ys/\R (zkB uy uz a b) H1
theorem zeP {X:Cx} {es:List Expr} {k:Nat} {tY p pos:Pos} {a b:Expr} {ta:TA} (hg:Gl X "zip") (hm:X.mg "zip" = none) (ha:PA X [a,b] ta) (hs:starEach [a,b] X.env = [#[R7],#[Re]]:=by rfl) (o7:starEach [b] X.env = [#[Re]]:=by rfl) :
  PI X #[UK] (.Call (.Name "zip" p) [a,b] [] pos) (iZp (mS X.K) (mS X.K) ta):=by
 intro mO s σ H R I h;refine Call_ (zcc I hg hm boot_zip (bS (thn #[FM] fun us s1 ⟨vs,H1,I1,r1,q1⟩=>?_) (by rw [hs,o7]) (by rw [o7]; rfl)));obtain⟨l1,l2,xs,ys,e,uf,rl,q⟩:=q1;subst e;cases r1 with
 | cons r rr =>
  cases rr with
  | cons r' rr =>
   cases rr;cases r;cases r';obtain⟨oE,xu,Cs,sk⟩:=I1.list uf;obtain⟨nS,xJ,Df,yS⟩:=I1.list rl;have uN:l1 < s1.heap.objs.size:=by obtain⟨_,_,e,_⟩:=Cs; exact aG e
   have uO:l2 < s1.heap.objs.size:=by obtain⟨_,_,e,_⟩:=Df; exact aG e
   refine call_zip_2 Cs.isList Df.isList fun h' b1 b2 b3 b4 b5 b6 kk=>?_
   have I2:Inv X mO σ H1 { s1 with heap:=h' }:=I1.kept (t':=s1.toks) kk;refine gq b1 ?_;refine⟨_,_,_,zkB (mS X.K) (mS X.K) l1 l2,H1,rfl,I2,zkC l1 l2 s1.heap.objs.size uN uO,⟨b1,b2,⟨_,_,b3⟩,b4,b5⟩,fun c hc=>?_,q⟩;have hle:s1.heap.objs.size<=c:=by
    simp only [az,bi,or_false] at hc;rcases hc with z | z | z | z | z <;> subst z <;> lia
   exact I1.NP hle #[WY]
noncomputable def zhx (Sq:Hp->Addr->List V->Prop) (a:Addr) (n:Nat):It :=
 ⟨fun i H=>i < n/\∃ xs,Sq H a xs/\xs.length=n,fun i H x H'=>H'=H/\∀ xs,Sq H a xs->xs[n - 1 - i]? = some x,fun i H=>n<=i⟩
theorem zkD {P:Program} (a it:Addr) (n:Nat):Turn P w K tg (zhx (mS K) a n) [it] it (fun i h=>i<=n/\h.IsRevIter it a ((n:Int) - 1 - (i:Int))) where
 mem:=by simp
 obj:=fun i h st b hb=>by
  have z:b=it:=by simpa using hb
  subst z;obtain⟨_,o,e,c,d⟩:=st;exact⟨o,e,fun v z=>by rw [d] at z; cases z⟩
 keep:=fun i h h' st k=>⟨st.1,st.2.at fun o e=>k it #[M] o e⟩
 item:=by
  intro X hP hw hK hc i mO s σ H E I hf st hg;subst hP hw hK;obtain⟨pU,xs,hq,hl⟩:=hg;obtain⟨mT,rv,p,hz⟩:=I.list hq;have nj:=rv.length;obtain⟨x,hx⟩:∃ x,xs[n - 1 - i]? = some x:=⟨xs[n - 1 - i]'#[O],#[M]⟩;obtain⟨u,hu,ru⟩:=rv.get hx;obtain⟨f0,f1,f2,f3,f4,f5⟩:=hf it #[M];have e:(n:Int) - 1 - (i:Int)=((n - 1 - i:Nat):Int):=by lia
  have hit:=st.2;rw [e] at hit;refine wpAny_pyNext_rev_item hit p.isList (x:=u) (by simpa using hu) fun h' mW sb=>?_
  have I1:Inv X mO σ H { s with heap:=h' }:=I.turned (t':=s.toks) (fun b o hb e=>(sb.2 b hb).trans e) f0 f1 f3 f4 f5;have e2:((n - 1 - i:Nat):Int) - 1=(n:Int) - 1 - ((i+1:Nat):Int):=by lia
  rw [e2] at mW;obtain⟨o,eo,c,d⟩:=id mW;exact⟨u,rfl,zf1 (s:={ s with heap:=h' }) eo c d #[D] ⟨x,H,I1,ru,⟨rfl,fun ys hy=>by rw [I.Li hy hq]; exact hx⟩,⟨pU,mW⟩,fun b hb=>(hf b hb).1⟩⟩
 done:=by
  intro X hP hw hK hc i mO s σ H E I hf st hg;subst hP hw hK;obtain⟨f0,f1,f2,f3,f4,f5⟩:=hf it #[M];have pU:n<=i:=hg;have e:(n:Int) - 1 - (i:Int) = -1:=by have:=st.1; lia
  have hit:=st.2;rw [e] at hit;exact wpAny_pyNext_rev_end #[R0] hit fun h' eb=>#[ut]
 self:=fun _ _ _ _ _ st h=>jN st.2 h
end L2
end
section
namespace PySem
namespace F
theorem zgg:Manifest.owners.lookup (String.ofList ['d','e','s','r','e','v','e','r'].reverse)=some Manifest.sig_reversed:=by kernel_rfl
theorem Ku:Slot "reversed" "__next__" "reversed.__next__" :=
 .of (owner:="reversed") (n:="__next__") (by rw [eW,dm]; kernel_rfl) #[N] #[N] #[N] (by first | exact .inl #[N] | exact .inr #[N]) (by rw [eD]; kernel_rfl)
theorem Lq:entryFor table "reversed.__next__" = some Builtin.«reversed.__next__»:=entryFor_of_tree (by kernel_rfl)
theorem Lf (a:Value):argsOk "reversed.__next__" ⟨[a],[]⟩:=by
 unfold argsOk; rw [signature?_of (id:="reversed.__next__") (n:=['_','_','t','x','e','n','_','_']) (o:=['d','e','s','r','e','v','e','r']) (by kernel_rfl) zgg]; kernel_rfl
theorem LG:Slot "reversed" "__iter__" "reversed.__iter__" :=
 .of (owner:="reversed") (n:="__iter__") (by rw [eW,dm]; kernel_rfl) #[N] #[N] #[N] (by first | exact .inl #[N] | exact .inr #[N]) (by rw [eD]; kernel_rfl)
theorem MP (a:Value):argsOk "reversed.__iter__" ⟨[a],[]⟩:=by
 unfold argsOk; rw [signature?_of (id:="reversed.__iter__") (n:=['_','_','r','e','t','i','_','_']) (o:=['d','e','s','r','e','v','e','r']) (by kernel_rfl) zgg]; kernel_rfl
theorem MX:entryFor table "reversed.__iter__" = some Builtin.«dict_keyiterator.__iter__»:=jz (id':="dict_keyiterator.__iter__") (by kernel_rfl) (by first | rfl | decide +kernel | (unfold String.splitOn; simp +decide [String.splitOnAux])) #[N] (by kernel_rfl)
theorem zfP:Slot "reversed" "__init__" "object.__init__":=.of (owner:="object") (n:="__init__") (by rw [eW,dm]; kernel_rfl) #[N] #[N] #[N] (by first | exact .inl #[N] | exact .inr #[N]) (by rw [eD]; kernel_rfl)
theorem O0:TypeCalled "reversed" "reversed.__new__" "object.__init__" :=
 ⟨#[N],#[N],⟨_,_,mro_reversed⟩,made_reversed,#[N],by rw [eD]; kernel_rfl,zfP⟩
theorem NT:typeLookup (.type "tuple") "__reversed__" = pure none:=by rw [eW,dm]; kernel_rfl
end F
noncomputable def zgI (l:Addr) (i:Int):Obj:={ cls:=.type "reversed",data:=.fields #[.ref l,rawInt i] }
noncomputable def Heap.MR (h:Heap) (a l:Addr) (i:Int):Prop:=∃ o,h.get? a=some o/\o.cls = .type "reversed"/\o.data = .fields #[.ref l,rawInt i]
theorem Heap.MR.typeIs {s:Shared} {a l:Addr} {i:Int} (x:s.heap.MR a l i):s.TypeIs #[RC] "reversed":=let ⟨o,ho,hc,_⟩:=x; ⟨o,ho,hc⟩
theorem Heap.MR.at {h h':Heap} {a l:Addr} {i:Int} (x:h.MR a l i) (e:∀ o,h.get? a=some o->h'.get? a=some o):h'.MR a l i:=let ⟨o,ho,r⟩:=x; ⟨o,e _ ho,r⟩
open PyProof.Rows in
theorem zfQ (l:Addr) (items:Array Value) :
  Meets (Builtin.«reversed.__new__» ⟨[.type "reversed",.ref l],[]⟩) (fun _ R s=>IsTup s.heap l items/\(items.size:Int) < 2 ^ 63 /\
   R (.ok (.ret #[t0])) { s with heap:=s.heap.push (zgI l ((items.size:Int) - 1)),toks:=s.toks+1+1 }) :=
 .of_wp fun prog w A R s h=>by
  obtain⟨hl,hsz,h⟩:=h;unfold Builtin.«reversed.__new__»; refine aa (eB (newClass_reversed _) ?_)
  try dsimp only
  iterate 2 refine aa (eB (a:=()) (by first | rfl | kernel_rfl) ?_)
  try dsimp only
  refine aa (gK hl.typeIs F.NT ?_)
  try dsimp only
  refine aa (aa (m:=isInstance #[SX] (.type "dict")) (dH hl.typeIs F.sub_tuple_dict ?_));simp only [ba,if_false]; refine aa (m:=specialOf #[SX] "__getitem__") #[UY];refine ag ?_
  try dsimp only
  try simp only [gi,ba,if_false]
  refine aa (len_tuple hl hsz ?_);refine aa (m:=asInt? _) (eB (a:=some (items.size:Int)) rfl ?_)
  try dsimp only
  refine aa (m:=lW _ _) ?_;show wpAny _ _ (newObj (.type "reversed") (.fields #[.ref l,rawInt ((items.size:Int) - 1)]) none) _ _ _;refine bJ ?_;exact ag ⟨_,rfl,h⟩
section
variable {prog:Program} {w:World} {A:Around} {E:Value->Shared->Prop} {s:Shared}
open PyProof.Rows
theorem zfd {l:Addr} {items:Array Value} {Q:Value->Shared->Prop} (hl:IsTup s.heap l items) (hsz:(items.size:Int) < 2 ^ 63)
  (h:Q #[t0] { s with heap:=s.heap.push (zgI l ((items.size:Int) - 1)),toks:=s.toks+1+1 }):wpAny #[or] A (call (.type "reversed") [.ref l]) Q E s:=by
 refine kG F.O0 #[D] (F.typeCall_reversed_1 _) (F.newCall_reversed_1 _) (fun obj=>jO obj _) F.entry_reversed_new (zfQ l items) ⟨hl,hsz,?_⟩; exact⟨⟨_,aD _ rfl,rfl⟩,h⟩
theorem zcU {it l:Addr} {i:Nat} {items:Array Value} {x:Value} {Q:Option Value->Shared->Prop} (hit:s.heap.MR it l (i:Int)) (hl:IsTup s.heap l items) (hx:items[i]? = some x) (hi:(i:Int) < 2 ^ 62)
  (hQ:∀ h',h'.MR it l ((i:Int) - 1)->bh it s.heap h'->Q (some x) { s with heap:=h',toks:=s.toks+1 }):wpAny #[or] A #[Tg] Q E s:=by
 obtain⟨o,ho,hc,hd⟩:=id hit; unfold pyNext;refine aa (cp (bv (name:=bT "__next__") hit.typeIs F.Ku
  (br F.Ku hit.typeIs F.Lq ?_ (F.Lf _))))
 unfold Builtin.«reversed.__next__»;refine aa (eB (a:=(aN it,[])) rfl ?_); try dsimp only
 refine aa #[Yu]; refine aa (bF ho hd (x:=rawInt (i:Int)) rfl ?_);show wpAny _ _ (if (i:Int) < 0 then _ else _) _ _ s; rw [if_neg #[O]];refine aa #[UY]
 try simp only [Option.isNone_some,ba,if_false]
 refine aa (wpAny_mkInt ?_); have nC:i < items.size:=by
  obtain⟨h1,_⟩:=dj.mp hx;exact h1
 refine aa (cp (getItem_tuple (j:=i) hl #[O] #[O] (by rw [hX #[O] #[O]]; simp) hx ?_))
 try dsimp only
 refine aa (bF (s:={ s with toks:=s.toks+1 }) ho hd (x:=rawInt (i:Int)) rfl ?_);show wpAny _ _ (setField #[Ry] 1 (rawInt ((i:Int) - 1)) >>= _) _ _ _;refine aa (cZ (s:={ s with toks:=s.toks+1 }) ho hd #[M] (ag ⟨x,rfl,ag (hQ _ ?_ (bL ..))⟩));exact⟨_,bW _ ho (dn (bY hd _)),(eX ..).trans hc,by rw [bY hd]; simp⟩
theorem zcX {it l:Addr} {Q:Option Value->Shared->Prop} (hh:A.handled=none) (hit:s.heap.MR it l (-1)) (hQ:∀ h',jo it s.heap h'->Q none { s with heap:=h' }):wpAny #[or] A #[Tg] Q E s:=by
 obtain⟨o,ho,hc,hd⟩:=id hit; unfold pyNext;refine aa (cp (bv (name:=bT "__next__") hit.typeIs F.Ku
  (br F.Ku hit.typeIs F.Lq ?_ (F.Lf _))))
 unfold Builtin.«reversed.__next__»;refine aa (eB (a:=(aN it,[])) rfl ?_); try dsimp only
 refine aa #[Yu]; refine aa (bF ho hd (x:=rawInt (-1)) rfl ?_);show wpAny _ _ (if (-1:Int) < 0 then _ else _) _ _ s; rw [if_pos #[D]];refine aa (cj ?_);refine aa (aa (m:=setField #[Ry] 1 (rawInt (-1))) #[Vg]);have hd2:=bY hd (·.setIfInBounds 1 (rawInt (-1)));have tZ:=bW (fA (·.setIfInBounds 1 (rawInt (-1)))) ho (dn hd2);refine cZ tZ hd2 #[M] ?_
 try dsimp only
 refine aa ?_; show wpAny _ _ (newExc (.type "StopIteration") [] >>= _) _ _ _;refine aa ?_;simp only [newExc,newTuple];refine aa (bJ ?_ (by size_fits)); refine aa (m:=firstArgMember _ _) (eB (a:=ci) (by first | rfl | (simp only [firstArgMember]; rfl)) ?_);refine bJ ?_ (by size_fits); simp only [raiseNew];refine aa (iu ?_); first | rw [show A.in1.handled=none from hh] | rw [hh]
 refine aa (ag (jp ?_)); refine aa (dH (T:="StopIteration") (b:=true) ⟨_,aD _ rfl,rfl⟩ fO ?_);exact ag (hQ _ ((((bL ..).extBut.trans (bL ..).extBut).push _).push _))
theorem zck {it l:Addr} {i:Int} {Q:Value->Shared->Prop} (hit:s.heap.MR it l i) (h:Q #[Ry] s):wpAny #[or] A (pyIter #[Ry]) Q E s:=by
 refine eY hit.typeIs F.LG (br F.LG hit.typeIs F.MX ?_ (F.MP _));show wpAny _ _ (ret #[Ry]) _ _ s; exact ag ⟨_,rfl,"reversed",_,hit.typeIs,F.Ku.lookup,h⟩
end
section
variable {prog:Program} {w:World} {A:Around} {E:Value->Shared->Prop} {s:Shared}
theorem zhy {it t:Addr} {i:Nat} {items:Array Value} {x:Value} {Q:Value->Shared->Prop} (hit:s.heap.IsTupleIter it t i) (ht:s.heap.IsTuple t items) (hx:items[i]? = some x)
  (hQ:∀ h',h'.IsTupleIter it t (i+1)->bh it s.heap h'->Q x { s with heap:=h' }):wpAny #[or] A (bo #[Ry]) Q E s:=by
 obtain⟨o,ho,hc,hd⟩:=id hit; obtain⟨ot,HX,_,nt,HY⟩:=ht;unfold bo; refine aa (bv (name:=bT "__next__") hit.typeIs dX #[Xg]);show wpAny _ _ (field #[Ry] 0 >>= _) _ _ s; refine aa #[Yt]; show wpAny _ _ (if (aN t == ci)=true then _ else _) _ _ _; rw [if_neg (by exact aJ)];refine aa #[XU]; refine aa (m:=seqItems? _) (dI HX HY ?_); simp only [bd,hx];have hn:=bW (fA (·.setIfInBounds 1 (rawInt ((i+1:Nat):Int)))) ho (dn (bY hd _));refine aa (cZ ho hd #[M] (ag ⟨x,rfl,ag (hQ _ ⟨_,hn,(eX ..).trans hc,?_⟩ (bL ..))⟩)); rw [bY hd]; simp [rawInt]
theorem zhz {it t:Addr} {i:Nat} {items:Array Value} {Q:Value->Shared->Prop} (hh:A.handled=none) (hit:s.heap.IsTupleIter it t i) (ht:s.heap.IsTuple t items) (hx:items[i]? = none)
  (hE:∀ h' e,jo it s.heap h'->(∃ o,h'.get? e=some o/\o.cls = .type "StopIteration")->E #[UV] { s with heap:=h' }):wpAny #[or] A (bo #[Ry]) Q E s:=by
 obtain⟨o,ho,hc,hd⟩:=id hit; obtain⟨ot,HX,_,nt,HY⟩:=ht;unfold bo; refine aa (bv (name:=bT "__next__") hit.typeIs dX #[Xg]);show wpAny _ _ (field #[Ry] 0 >>= _) _ _ s; refine aa #[Yt]; show wpAny _ _ (if (aN t == ci)=true then _ else _) _ _ _; rw [if_neg (by exact aJ)];refine aa #[XU]; refine aa (m:=seqItems? _) (dI HX HY ?_); simp only [bd,hx];refine aa (cj (aa #[Vg])); show wpAny _ _ (newExc (.type "StopIteration") [] >>= _) _ _ _; refine aa ?_;simp only [newExc,newTuple]; refine aa (bJ ?_ (by size_fits)); refine aa (m:=firstArgMember _ _) (eB (a:=ci) (by first | rfl | (simp only [firstArgMember]; rfl)) ?_);refine bJ ?_ (by size_fits); simp only [raiseNew]; refine aa (iu ?_); first | rw [show A.in1.handled=none from hh] | rw [hh]
 refine aa (ag (jp ?_)); exact hE _ _ (((bL ..).extBut.push _).push _) ⟨_,aD _ rfl,rfl⟩
end
theorem Draws.tuple {prog:Program} {w:World} {A:Around} (hh:A.handled=none) (it t:Addr) (o8:t≠it) (items:Array Value):Draws prog w A it [it,t] items.size (fun i v=>items[i]? = some v) (fun i h=>h.IsTupleIter it t i/\h.IsTuple t items) where
 live:=fun i h st=>st.1.imp fun o r=>r.1
 frame:=fun i h h' st kk=>⟨st.1.at fun o=>kk it #[M] o,st.2.at fun o=>kk t #[M] o⟩
 item:=fun i s Q E hi st hQ=>zhy st.1 st.2 (x:=items[i]) (by simp [hi]) fun h' a b=>hQ _ h' s.toks (by simp [hi]) ⟨a,st.2.extBut b.extBut o8⟩ b
 done:=fun s Q E st hE=>zhz hh st.1 st.2 #[M] hE
noncomputable def zcR (t:Addr):Obj:={ cls:=.type "tuple_iterator",data:=.fields #[.ref t,.int 0 0] }
noncomputable def zml (it:Addr):Obj:={ cls:=.type "enumerate",data:=.fields #[.none,.bool false,.ref it,rawInt 0,.none,.none] }
end PySem
namespace L2
open PySem PySem.Spec PyProof.Rows
variable {H1:Hp} {K:af} {X:Cx} {j:Nat} {mO:List (Addr×Obj)} {s1:Shared} {tg:Expr} {us:List Value} {w:World}
theorem zkE {P:Program} (a it:Addr) (n:Nat):Turn P w K tg (zhx (m7 K) a n) [it] it (fun i h=>i<=n/\h.MR it a ((n:Int) - 1 - (i:Int))) where
 mem:=by simp
 obj:=fun i h st b hb=>by
  have z:b=it:=by simpa using hb
  subst z;obtain⟨_,o,e,c,d⟩:=st;exact⟨o,e,fun v z=>by rw [d] at z; cases z⟩
 keep:=fun i h h' st k=>⟨st.1,st.2.at fun o e=>k it #[M] o e⟩
 item:=by
  intro X hP hw hK hc i mO s σ H E I hf st hg;subst hP hw hK;obtain⟨pU,xs,hq,hl⟩:=hg;obtain⟨mT,rv,p,hz⟩:=I.tuple hq;have nj:=rv.length;have qJ:=a8;obtain⟨x,hx⟩:∃ x,xs[n - 1 - i]? = some x:=⟨xs[n - 1 - i]'#[O],#[M]⟩;obtain⟨u,hu,ru⟩:=rv.get hx;obtain⟨f0,f1,f2,f3,f4,f5⟩:=hf it #[M];have e:(n:Int) - 1 - (i:Int)=((n - 1 - i:Nat):Int):=by lia
  have hit:=st.2;rw [e] at hit;refine zcU hit p (x:=u) (by simpa using hu) #[O] fun h' mW sb=>?_
  have I1:Inv X mO σ H { s with heap:=h',toks:=s.toks+1 }:=I.turned (t':=s.toks+1) (fun b o hb e=>(sb.2 b hb).trans e) f0 f1 f3 f4 f5;have e2:((n - 1 - i:Nat):Int) - 1=(n:Int) - 1 - ((i+1:Nat):Int):=by lia
  rw [e2] at mW;obtain⟨o,eo,c,d⟩:=id mW;exact⟨u,rfl,zf1 (s:={ s with heap:=h',toks:=s.toks+1 }) eo c d #[D] ⟨x,H,I1,ru,⟨rfl,fun ys hy=>by rw [I.LF hy hq]; exact hx⟩,⟨pU,mW⟩,fun b hb=>(hf b hb).1⟩⟩
 done:=by
  intro X hP hw hK hc i mO s σ H E I hf st hg;subst hP hw hK;obtain⟨f0,f1,f2,f3,f4,f5⟩:=hf it #[M];have pU:n<=i:=hg;have e:(n:Int) - 1 - (i:Int) = -1:=by have:=st.1; lia
  have hit:=st.2;rw [e] at hit;exact zcX #[R0] hit fun h' eb=>#[ut]
 self:=fun _ _ _ _ _ st h=>zck st.2 h
theorem zgJ {σ:St} {R:It->Hp->Prop} {l:Addr} {xs:List V} (I1:Inv X mO σ H1 s1) (hq:m7 X.K H1 l xs) (q:R (zhx (m7 X.K) l xs.length) H1) :
  wpAny #[on] X.A (call (.type "reversed") [.ref l]) #[Tt] X.xe s1:=by
 obtain⟨mT,rv,pl,hz⟩:=I1.tuple hq;have nj:=rv.length;have qJ:=a8;refine zfd pl (by rw [au]; lia) ?_;have I2:Inv X mO σ H1 { s1 with heap:=s1.heap.push (zgI l ((mT.toArray.size:Int) - 1)),toks:=s1.toks+1+1 }:=I1.kept fun b o e=>ai _ e
 have hr:(s1.heap.push (zgI l ((mT.toArray.size:Int) - 1))).MR s1.heap.objs.size l ((xs.length:Int) - 1 - ((0:Nat):Int)):=by
  refine⟨_,aD _ rfl,rfl,?_⟩;have e1:(mT.toArray.size:Int) - 1=(xs.length:Int) - 1 - ((0:Nat):Int):=by rw [au,nj]; lia
  show lb #[.ref l,rawInt ((mT.toArray.size:Int) - 1)]=_;rw [e1]
 refine zck hr ?_;refine⟨_,[s1.heap.objs.size],_,zhx (m7 X.K) l xs.length,H1,rfl,I2,zkE l s1.heap.objs.size xs.length,⟨aZ _,hr⟩,fun b hb=>?_,q⟩;have z:b=s1.heap.objs.size:=by simpa using hb
 subst z;exact I1.NP (ah _) #[RU]
theorem zhA {σ:St} {R:It->Hp->Prop} {l:Addr} {xs:List V} (I1:Inv X mO σ H1 s1) (hq:mS X.K H1 l xs) (q:R (zhx (mS X.K) l xs.length) H1) :
  wpAny #[on] X.A (call (.type "reversed") [.ref l]) #[Tt] X.xe s1:=by
 obtain⟨mT,rv,pl,hz⟩:=I1.list hq;have nj:=rv.length;refine call_reversed_list pl.isList ?_;have I2:Inv X mO σ H1 { s1 with heap:=s1.heap.push (revObj l ((mT.toArray.size:Int) - 1)) }:=I1.kept (t':=s1.toks) fun b o e=>ai _ e
 have hr:(s1.heap.push (revObj l ((mT.toArray.size:Int) - 1))).IsRevIter s1.heap.objs.size l ((xs.length:Int) - 1 - ((0:Nat):Int)):=by
  refine⟨_,aD _ rfl,rfl,?_⟩;have e1:(mT.toArray.size:Int) - 1=(xs.length:Int) - 1 - ((0:Nat):Int):=by rw [au,nj]; lia
  show lb #[.ref l,rawInt ((mT.toArray.size:Int) - 1)]=_;rw [e1]
 refine jN hr ?_;refine⟨_,[s1.heap.objs.size],_,zhx (mS X.K) l xs.length,H1,rfl,I2,zkD l s1.heap.objs.size xs.length,⟨aZ _,hr⟩,fun b hb=>?_,q⟩;have z:b=s1.heap.objs.size:=by simpa using hb
 subst z;exact I1.NP (ah _) #[RU]
noncomputable def zqX (K:af) (ta:TA):TI:=fun σ H R=>ta σ H fun vs H1=>∃ a xs,vs = [.ref a]/\((mS K H1 a xs/\R (zhx (mS K) a xs.length) H1)\/(m7 K H1 a xs/\R (zhx (m7 K) a xs.length) H1))
theorem zpd {X:Cx} {tg:Expr} {p pos:Pos} {a:Expr} {ta:TA} (hg:Gl X "reversed") (hm:X.mg "reversed" = none) (ha:PA X [a] ta) (hs:starEach [a] X.env = [#[R7]]:=by rfl) :
  PI X tg (.Call (.Name "reversed" p) [a] [] pos) (zqX X.K ta):=by
 intro mO s σ H R I h;refine Call_ (zcc I hg hm boot_reversed (bS (thn #[FM] fun us s1 ⟨vs,H1,I1,r1,q1⟩=>?_) hs rfl));obtain⟨l,xs,e,hq⟩:=q1;subst e;cases r1 with
 | cons r rr =>
  cases rr;cases r;rcases hq with ⟨hq,q⟩ | ⟨hq,q⟩
  ·exact zhA I1 hq q
  ·exact zgJ I1 hq q
inductive EqD (K:af) (H:Hp):Nat->V->V->Bool->Prop where
 | flat {d:Nat} {x y:V} (hx:zcP x=true) (hy:zcP y=true):EqD K H d x y (eqV x y)
 | same {d:Nat} {a:Addr}:EqD K H d #[RC] #[RC] true
 | lists {d:Nat} {a b:Addr} {xs ys:List V} {e:Nat->Bool} (o8:a≠b) (ha:mS K H a xs) (hb:mS K H b ys) (hl:xs.length=ys.length)
   (he:∀ (j:Nat) x y,xs[j]? = some x->ys[j]? = some y->EqD K H d x y (e j)):EqD K H (d+1) #[RC] (.ref b) (#[WP].all e)
 | lens {d:Nat} {a b:Addr} {xs ys:List V} (o8:a≠b) (ha:mS K H a xs) (hb:mS K H b ys) (hl:xs.length≠ys.length):EqD K H (d+1) #[RC] (.ref b) false
 | MS {d:Nat} {a b:Addr} {xs ys:List V} {e:Nat->Bool} (o8:a≠b) (ha:m7 K H a xs) (hb:m7 K H b ys)
   (he:∀ (j:Nat) x y,xs[j]? = some x->ys[j]? = some y->EqD K H d x y (e j)):EqD K H (d+1) #[RC] (.ref b) ((bn (min xs.length ys.length)).all e && xs.length == ys.length)
theorem zM.PH {xs:List V} (r:zM xs us) (h:j < us.toArray.size):∃ x,xs[j]? = some x/\RelV x us.toArray[j]:=by
 have hl:=r.length;have hj:j < xs.length:=by rw [hl]; simpa using h
 obtain⟨u,hu,ru⟩:=r.get (i:=j) (x:=xs[j]) #[M];refine⟨xs[j],#[M],?_⟩;have:us.toArray[j]=u:=by
  have h2:j < us.length:=by simpa using h
  rw [aI h2] at hu;simpa using aO hu
 rw [this];exact ru
theorem EqD.at {X:Cx} {mO:List (Addr×Obj)} {σ:St} {H:Hp} {s:Shared} (I:Inv X mO σ H s) {d:Nat} {x y:V} {b:Bool} (h:EqD X.K H d x y b) :
  ∀ (A:Around) (u v:Value),RelV x u->RelV y v->A.units+d < cLine->jJ A s u v b:=by
 induction h with
 | flat hx hy=>exact fun A u v rx ry _=>zl9 rx ry hx hy
 | same=>intro A u v rx ry _; cases rx; cases ry; exact lI _
 | lists o8 ha hb hl he ih =>
  intro A u v rx ry hu;cases rx; cases ry;obtain⟨Dg,r1,p1,_⟩:=I.list ha;obtain⟨Dh,r2,p2,_⟩:=I.list hb;have l1:=r1.length;have l2:=r2.length;refine ik o8 ?_;have q:=SeqAt.RcAt.lists (A:=A) p1.isList p2.isList (by simp only [au]; lia) #[O] fun j h1 h2=>by
   obtain⟨x,hx,rx⟩:=r1.PH h1;obtain⟨y,hy,ry⟩:=r2.PH h2;exact ih j x y hx hy A.in1 _ _ rx ry (by simp only [fo]; lia)
  rw [au,<- l1] at q;exact q
 | lens o8 ha hb hl =>
  intro A u v rx ry hu;cases rx; cases ry;obtain⟨Dg,r1,p1,_⟩:=I.list ha;obtain⟨Dh,r2,p2,_⟩:=I.list hb;have l1:=r1.length;have l2:=r2.length;exact ik o8 (SeqAt.RcAt.lists_lengths p1.isList p2.isList (by simp only [au,bne_iff_ne]; lia) #[O])
 | MS o8 ha hb he ih =>
  intro A u v rx ry hu;cases rx; cases ry;obtain⟨Dg,r1,p1,_⟩:=I.tuple ha;obtain⟨Dh,r2,p2,_⟩:=I.tuple hb;have l1:=r1.length;have l2:=r2.length;refine ik o8 ?_;have q:=SeqAt.RcAt.tuples (A:=A) (s:=s) p1 p2 #[O] fun j h1 h2=>by
   obtain⟨x,hx,rx⟩:=r1.PH h1;obtain⟨y,hy,ry⟩:=r2.PH h2;exact ih j x y hx hy A.in1 _ _ rx ry (by simp only [fo]; lia)
  rw [au,au,<- l1,<- l2] at q;exact q
noncomputable def znJ (K:af) (neg:Bool):R2:=fun x y H Q=>∃ a b xs ys,x = .ref a/\y = .ref b/\((mS K H a xs/\mS K H b ys)\/(m7 K H a xs/\m7 K H b ys)) /\
 ((xs.length≠ys.length/\(∀ (j:Nat) x y,xs[j]? = some x->ys[j]? = some y->∃ c,EqD K H 8 x y c)/\Q (.bl neg) H) \/
  (xs.length=ys.length/\∃ e:Nat->Bool,(∀ (j:Nat) x y,xs[j]? = some x->ys[j]? = some y->EqD K H 8 x y (e j))/\Q (.bl (if neg then !#[WP].all e else #[WP].all e)) H))
theorem ziS {X:Cx} (hu:X.A.units+20 < cLine):OpR X #[WW] (znJ X.K true):=by
 intro mO s σ H x y v u Q I rx ry h;obtain⟨a,b,xs,ys,rfl,rfl,hk,h⟩:=h;cases rx; cases ry;rcases hk with ⟨ha,hb⟩ | ⟨ha,hb⟩
 ·obtain⟨Dg,r1,p1,_⟩:=I.list ha;obtain⟨Dh,r2,p2,_⟩:=I.list hb;have l1:=r1.length;have l2:=r2.length;rcases h with ⟨hl,_,q⟩ | ⟨hl,e,he,q⟩
  ·exact SeqAt.RcNeAt.lists_lengths p1.isList p2.isList (by simp only [au,bne_iff_ne]; lia) #[O] _ _ _ _ ⟨.bl true,H,I,rfl,q⟩
  ·refine SeqAt.RcNeAt.lists p1.isList p2.isList (e:=e) (by simp only [au]; lia) #[O] #[Ya] _ _ _ _ #[Td]
   ·obtain⟨x,hx,rx⟩:=r1.PH h1;obtain⟨y,hy,ry⟩:=r2.PH h2;exact (he j x y hx hy).at I _ _ _ rx ry (by simp only [fo]; lia)
   ·rw [au,<- l1];exact q
 ·obtain⟨Dg,r1,p1,_⟩:=I.tuple ha;obtain⟨Dh,r2,p2,_⟩:=I.tuple hb;have l1:=r1.length;have l2:=r2.length;rcases h with ⟨hl,he,q⟩ | ⟨hl,e,he,q⟩
  ·have BB:∀ j:Nat,∃ c:Bool,∀ x y,xs[j]? = some x->ys[j]? = some y->EqD X.K H 8 x y c:=fun j=>by
    cases hx:xs[j]? with
    | none=>exact⟨true,fun x y z=>by cases z⟩
    | some x =>
     cases hy:ys[j]? with
     | none=>exact⟨true,fun x y _ z=>by cases z⟩
     | some y =>
      obtain⟨c,hc⟩:=he j x y hx hy;exact⟨c,fun x' y' z1 z2=>by cases z1; cases z2; exact hc⟩
   obtain⟨e,BC⟩:=Classical.axiomOfChoice BB;refine j5 (s:=s) p1 p2 (e:=e) #[O] #[Ya] _ _ _ _ #[Td]
   ·obtain⟨x,hx,rx⟩:=r1.PH h1;obtain⟨y,hy,ry⟩:=r2.PH h2;exact (BC j x y hx hy).at I _ _ _ rx ry (by simp only [fo]; lia)
   ·have uA:(Dg.toArray.size == Dh.toArray.size)=false:=by
     rw [au,au]; exact beq_eq_false_iff_ne.mpr #[O]
    rw [uA,lV];exact q
  ·refine j5 (s:=s) p1 p2 (e:=e) #[O] #[Ya] _ _ _ _ #[Td]
   ·obtain⟨x,hx,rx⟩:=r1.PH h1;obtain⟨y,hy,ry⟩:=r2.PH h2;exact (he j x y hx hy).at I _ _ _ rx ry (by simp only [fo]; lia)
   ·have uA:(Dg.toArray.size == Dh.toArray.size)=true:=by
     rw [au,au]; exact beq_iff_eq.mpr #[O]
    have HZ:min Dg.toArray.size Dh.toArray.size=xs.length:=by rw [au,au]; lia
    rw [uA,Bool.and_true,HZ];exact q
theorem zb3 {X:Cx}:zbm X (.builtin "isinstance") (fun xs H Q=>∃ x t n b,xs = [x,.ty n]/\OG X.K H x t/\ak X.K t (.type n)=some b/\Q (.bl b) H):=by
 intro mO s σ H xs us Q I r h;obtain⟨x,t,n,b,rfl,ty,hk,q⟩:=h;obtain⟨u,u',rfl,rx,r2⟩:=vals2 r;cases r2;exact zkw I rx ty hk fun tk=>⟨.bl b,H,I.tok tk,rfl,q⟩
theorem zhB {X:Cx}:zbm X (.type "range") (fun xs H Q=>∃ j:Int,xs = [.int j]/\∀ l,H l=none->Q #[SX] (mR H l (.rng 0 j))):=by
 intro mO s σ H xs us Q I r h;obtain⟨j,rfl,q⟩:=h;obtain⟨u,rfl,t,rfl⟩:=vals1 r;refine call_range_1 ?_;exact⟨.ref s.heap.objs.size,_,I.laid (o:=.rng 0 j) (fun b o e=>ai _ e) (ah _) ⟨_,_,_,aD _ rfl⟩,rfl,q _ I.fresh⟩
noncomputable def zcf (lo:Int) (n:Nat):List Int:=(bn n).map fun (i:Nat)=>lo+(i:Int)
theorem zdn (lo:Int) (n:Nat):(zcf lo n).length=n:=by simp [zcf]
theorem zfR {acc:Array Value} {lo:Int} {n:Nat} (h:ItemsOf (fun i v=>∃ t,v = .int (lo+(i:Nat)*1) t) acc n):zM ((zcf lo n).map V.int) acc.toList:=by
 obtain⟨hsz,hv⟩:=h;have go:∀ (us:List Value) (k:Nat),(∀ (j:Nat) v,us[j]? = some v->∃ t,v = .int (lo+((k+j:Nat):Int)) t)->zM (((bn us.length).map fun (i:Nat)=>V.int (lo+((k+i:Nat):Int)))) us:=by
  intro us;induction us with
  | nil=>intro k _; exact .nil
  | cons u us ih =>
   intro k hu;rw [bf,gf,bj,bD];refine .cons ?_ ?_
   ·obtain⟨t,e⟩:=hu 0 u rfl;exact⟨t,e⟩
   ·have:=ih (k+1) fun j v e=>by
     obtain⟨t,z⟩:=hu (j+1) v (by simpa using e);exact⟨t,by rw [z]; congr 1; lia⟩
    have e2:(fun (i:Nat)=>V.int (lo+((k+1+i:Nat):Int)))=((fun (i:Nat)=>V.int (lo+((k+i:Nat):Int))) ∘ Nat.succ):=by
     funext i;show V.int _=V.int _;congr 2;show ((k+1+i:Nat):Int)=((k+(i+1):Nat):Int);lia
    rw [<- e2];exact this
 have h1:=go acc.toList 0 fun j v e=>by
  obtain⟨t,z⟩:=hv j v (by simpa using e);exact⟨t,by rw [z]; simp⟩
 have e1:acc.toList.length=n:=by simpa using hsz
 rw [e1] at h1;unfold zcf;rw [bD];have e2:(V.int ∘ fun (i:Nat)=>lo+(i:Int))=fun (i:Nat)=>V.int (lo+((0+i:Nat):Int)):=by
  funext i;show V.int (lo+(i:Int))=V.int (lo+((0+i:Nat):Int));rw [cC]
 rw [e2];exact h1
theorem zfS {X:Cx} (hc:X.calm=true):zbm X (.type "list") (fun xs H Q=>∃ p hi,xs = [.ref p]/\H p=some (.rng 0 hi)/\0<=hi/\hi<=1000/\∀ l,H l=none->Q #[SX] (mR H l (.lst ((zcf 0 hi.toNat).map V.int)))):=by
 intro mO s σ H xs us Q I r h;obtain⟨p,hi,rfl,hp,h0,h1,q⟩:=h;obtain⟨u,rfl,rx⟩:=vals1 r;cases rx;obtain⟨t,u',v,e⟩:=(show zab X.prog X.w H s.heap p (.rng 0 hi) from I.hok p _ hp);have qJ:=a8;refine call_list_range (n:=hi.toNat) #[R0] (show IsRange s.heap p 0 hi 1 t u' v from e) (small_one #[O] #[O] #[O] #[O]) (by rw [rangeSize_one]; split <;> lia) #[O] fun h' tk Di c' kk ho wm=>?_
 have hv:=zfR (lo:=0) (n:=hi.toNat) wm;refine⟨.ref s.heap.objs.size,_,I.laid kk (ah _) ?_,rfl,q _ I.fresh⟩;exact⟨by rw [ae,zdn]; lia,Di.toList,c',hv,by simpa using ho⟩
noncomputable def zqY (K:af) (tl:TE):TI:=fun σ H R=>tl σ H fun x H1=>∃ a,x = .ref a/\(((∃ xs,mS K H1 a xs)/\R #[WG] H1)\/((∃ xs,m7 K H1 a xs)/\R (Itt K a) H1))
theorem zpe {X:Cx} {tg l:Expr} {tl:TE} (hl:PE X l tl):PI X tg l (zqY X.K tl):=by
 intro mO s σ H R I h;refine thn #[VX] fun v s1 ⟨x,H1,I1,r1,q1⟩=>?_
 obtain⟨a,e,q⟩:=q1;subst e;cases r1;rcases q with ⟨⟨xs,hq⟩,q⟩ | ⟨⟨xs,hq⟩,q⟩
 ·obtain⟨mT,rv,p,hz⟩:=I1.list hq;refine iC p.isList ?_;refine⟨s1.heap.objs.size,[s1.heap.objs.size],_,_,H1,rfl,I1.kept (t':=s1.toks) fun b o e=>ai _ e,zf2 a _,⟨_,aD _ rfl,rfl,rfl⟩,fun b hb=>?_,q⟩;have e:b=s1.heap.objs.size:=by simpa using hb
  subst e;exact I1.NP (ah _) #[RU]
 ·obtain⟨mT,rv,p,hz⟩:=I1.tuple hq;refine kH (show s1.heap.IsTuple a mT.toArray from p) ?_;refine⟨s1.heap.objs.size,[s1.heap.objs.size],_,_,H1,rfl,I1.kept (t':=s1.toks) fun b o e=>ai _ e,ziB a _,⟨_,aD _ rfl,rfl,rfl⟩,fun b hb=>?_,q⟩;have e:b=s1.heap.objs.size:=by simpa using hb
  subst e;exact I1.NP (ah _) #[RU]
noncomputable def intsOf:List Expr->Option #[Id]
 | []=>some []
 | .Constant #[Xk] _ _ :: r=>(intsOf r).map (i :: ·)
 | _=>none
noncomputable def zgh (ns:List Int):TA:=fun _ H Q=>Q #[AT] H
theorem zmm:∀ (es:List Expr) (ns:List Int),intsOf es=some ns->PA X es (zgh ns):=by
 intro es;induction es with
 | nil =>
  intro ns h;have e:ns = []:=(aO h).symm;subst e;exact zf
 | cons e r ih =>
  intro ns h;unfold intsOf at h;split at h
  ·rename_i heq
   cases heq
  ·rename_i i j p r' heq
   injection heq with e1 e2
   subst e1 e2;cases hr:intsOf r with
   | none=>rw [hr] at h; cases h
   | some ms =>
    rw [hr] at h;have e:i :: ms=ns:=aO h;subst e;exact za zh (ih ms hr)
  ·cases h
theorem znK {X:Cx} {es:List Expr} {ns:List Int} (h:intsOf es=some ns):PA X es (zgh ns):=zmm es ns h
theorem zhC {X:Cx} {i:Int} {j:Nat} {p:Pos} {es:List Expr} {t:TA} (hr:PA X es t):PA X (.Constant #[Xk] j p :: es) (zjp (tC #[Xk]) t):=za zh hr
theorem zmn {X:Cx} {i:Nat} {x:Str} {pos' qe qI:Pos} {rest:List Stmt} {u:TS} {es:List Expr} {ns:List Int} (h:intsOf es=some ns) (hN:X.N.Nodup) (hi:X.N[i]? = some x) (hx:Loc X.env.scope x)
  (hf:X.fn x=true\/X.env.scope.names.lookup x=some .local) (hr:PSs X rest u):PSs X (.Assign [.Name x pos'] #[U9] qI :: rest) (zaE (zfM (ziK (zgh ns)) (zaR i)) u):=by
 have h1:PE X #[U9] (ziK (zgh ns)):=@zP X es (zgh ns) qe (@znK X es ns h);have h2:PS X (.Assign [.Name x pos'] #[U9] qI) (zfM (ziK (zgh ns)) (zaR i)):=zq hN hi hx h1 (by rfl) hf;exact ze h2 hr
section
variable {X:Cx} {K:af}
theorem zbV (hK:X.K=K):IxR X (zqb K):=by subst hK; exact zU
theorem zaY (hK:X.K=K):IxR X (zqc K):=by subst hK; exact zW
noncomputable def zqj (K:af):List V->Hp->VK->Prop:=fun xs H Q=>∃ p ys,xs = [.ref p]/\(mS K H p ys\/m7 K H p ys)/\Q (.int ys.length) H
theorem zbC (hK:X.K=K):zbm X (.builtin "len") (zqj K):=by subst hK; exact zy
theorem zbN {es:List Expr} {k:Nat} {t:TGs} {n:Nat} {pos:Pos} (hK:X.K=K) (hc:X.calm=true) (h:PGs X es t)
  (hn:#[S4].length=n:=by rfl) (pA:#[S4].findIdx? (·.1)=none:=by rfl):PG X #[Uj] (ziA K n t):=by subst hK; exact zbo hc h hn pA
theorem zpf {o e:Expr} {es:List Expr} {to:TE} {t:TA} {name:Str} {apos oS:Pos} {T id:String} {r:V->List V->Hp->VK->Prop} (hK:X.K=K) (pa:PlainAttrs T) (slot:Slot T name id) (E8:typeOf #[TJ]=pure (.type "method_descriptor")) (hm:MtR X id r) (ho:PE X o to) (ha:PA X (e :: es) t)
  (vi:attributeBase o name X.env #[WN]=eval o X.env:=by rfl)
  (t9:((backTo oS #[S7]).all (fun x=>!x.1) && (backToKw oS (keywordEach [] X.env)).all (fun x=>x.1.isSome)
   && decide ((e :: es).length+([]:List Keyword).length+(if ([]:List Keyword).isEmpty then 0 else 1) < 30))=true:=by rfl)
  (vj:(apos.endLine == oS.line)=true:=by rfl) (hs:starEach (e :: es) X.env=#[FB] :: starEach es X.env:=by rfl) (wg:#[TZ].any (·.1)=false:=by rfl) :
  PE X (.Call #[U6] (e :: es) [] oS) (tBM K T r to t):=by subst hK; exact zcQ pa slot E8 hm ho ha vi t9 vj hs wg
end
end L2
end
section
namespace My
variable {done nc:List (Int×Int)} {z:Int}
noncomputable def Cg (p a b:Int):Prop:=∃ k,a=b+p*k
theorem Cg.refl (p a:Int):Cg p a a:=⟨0,by grind⟩
theorem Cg.symm {p a b:Int} (h:Cg p a b):Cg p b a:=by obtain⟨k,e⟩:=h; exact⟨-k,by grind⟩
theorem Cg.trans {p a b c:Int} (h:Cg p a b) (h':Cg p b c):Cg p a c:=by
 obtain⟨k,e⟩:=h; obtain⟨l,e'⟩:=h'; exact⟨k+l,by grind⟩
theorem Cg.add {p a b c d:Int} (h:Cg p a b) (h':Cg p c d):Cg p (a+c) (b+d):=by
 obtain⟨k,e⟩:=h; obtain⟨l,e'⟩:=h'; exact⟨k+l,by grind⟩
theorem Cg.sub {p a b c d:Int} (h:Cg p a b) (h':Cg p c d):Cg p (a - c) (b - d):=by
 obtain⟨k,e⟩:=h; obtain⟨l,e'⟩:=h'; exact⟨k - l,by grind⟩
theorem Cg.mul {p a b c d:Int} (h:Cg p a b) (h':Cg p c d):Cg p (a*c) (b*d):=by
 obtain⟨k,e⟩:=h; obtain⟨l,e'⟩:=h';exact⟨k*d+b*l+p*k*l,by subst e e'; grind⟩
theorem Cg.of_eq {p a b:Int} (h:a=b):Cg p a b:=h ▸ Cg.refl p a
theorem Cg.emod (p a:Int):Cg p (a % p) a:=⟨-(a / p),by have:=Int.emod_add_mul_ediv a p; grind⟩
theorem Cg.mod_eq {p a b:Int} (h:Cg p a b):a % p=b % p:=by
 obtain⟨k,e⟩:=h; rw [e,Int.add_mul_emod_self_left]
theorem Cg.Ox {p a b:Int} (h:a % p=b % p):Cg p a b:=(Cg.emod p a).symm.trans (h ▸ Cg.emod p b)
theorem Cg.eq {p a b:Int} (h:Cg p a b) (ha:0<=a) (Fo:a < p) (hb:0<=b) (uA:b < p):a=b:=by
 have:=h.mod_eq
 rwa [d6 ha Fo,d6 hb uA] at this
noncomputable def zw (p x:Int):List Int->Int
 | []=>0
 | c :: r=>(c+x*zw p x r) % p
theorem zb4 {p x:Int} (hp:0 < p):∀ l,0<=zw p x l
 | []=>cK 0
 | _ :: _=>aR _ #[O]
theorem zb5 {p x:Int} (hp:0 < p):∀ l,zw p x l < p
 | []=>hp
 | _ :: _=>aL _ hp
theorem zaj (p x c:Int) (r:List Int):Cg p (zw p x (c :: r)) (c+x*zw p x r):=Cg.emod _ _
theorem ziT {p x:Int} (m:Nat):zw p x (am m 0)=0:=by
 induction m with
 | zero=>rfl
 | succ m ih=>rw [bt]; show (0+x*zw p x (am m 0)) % p=0; rw [ih]; simp
theorem zhD {p x:Int} (m:Nat):∀ l,zw p x (l++am m 0)=zw p x l
 | []=>ziT m
 | c :: r=>by show (c+x*zw p x (r++am m 0)) % p=(c+x*zw p x r) % p; rw [zhD m r]
noncomputable def lv (p x:Int):Int->Int->List Int->Int
 | ni,_,[]=>ni
 | ni,power,c :: r=>lv p x ((ni+c*power) % p) (power*x % p) r
theorem zoJ {p x:Int}:∀ (l:List Int) (ni power:Int),Cg p (lv p x ni power l) (ni+power*zw p x l)
 | [],ni,power=>Cg.of_eq (by show ni=ni+power*0; grind)
 | c :: r,ni,power=>by
  have h1:=zoJ (p:=p) (x:=x) r ((ni+c*power) % p) (power*x % p);refine h1.trans ?_;have h2:Cg p ((ni+c*power) % p+power*x % p*zw p x r) (ni+c*power+power*x*zw p x r):=#[U8].add ((Cg.emod p (power*x)).mul #[SQ]);refine h2.trans ?_;have h3:Cg p (ni+power*(c+x*zw p x r)) (ni+power*zw p x (c :: r)):=#[SQ].add (#[SQ].mul (zaj p x c r).symm);refine (Cg.of_eq ?_).trans h3;grind
theorem zmo {p x:Int} (hp:0 < p):∀ (l:List Int) (ni power:Int),0<=ni->ni < p->0<=lv p x ni power l/\lv p x ni power l < p
 | [],ni,power,h1,h2=>⟨h1,h2⟩
 | c :: r,ni,power,h1,h2=>zmo hp r _ _ (aR _ #[O]) (aL _ hp)
theorem zjA {p x:Int} (hp:0 < p) (l:List Int):lv p x 0 1 l=zw p x l:=by
 obtain⟨a,b⟩:=zmo (x:=x) hp l 0 1 (cK _) hp;exact ((zoJ l 0 1).trans (Cg.of_eq (by grind))).eq a b (zb4 hp l) (zb5 hp l)
noncomputable def zJ:List Int:=[5,7,11,13,17,19,23,29,31,37,41,43,47,53,59,61,67,71,73,79,83,89,97]
noncomputable def zc9 (p:Int):Nat->Int->Int->Int->Int
 | 0,prod,_,_=>prod
 | n+1,prod,sq,left=>if 0 < left then zc9 p n (if left % 2=1 then prod*sq % p else prod) (sq*sq % p) (left / 2) else prod
noncomputable def inv (p h:Int):Int:=zc9 p 7 1 (h % p) (p - 2)
noncomputable def zqZ:Bool:=zJ.all fun p=>(bn p.toNat).all fun h=>h == 0 || (inv p h*h) % p == 1
theorem zkF:zqZ=true:=by decide +kernel
theorem z6 {p:Int} (hp:p∈zJ):5<=p/\p<=97:=by
 have:zJ.all (fun p=>decide (5<=p/\p<=97))=true:=by decide +kernel
 have:=dk.mp this p hp;simpa using this
theorem zgK {p h:Int} (hp:p∈zJ) (h0:0 < h) (h1:h < p):Cg p (inv p h*h) 1:=by
 have e:=dk.mp (dk.mp zkF p hp) h.toNat (bU.mpr #[O]);have hh:((h.toNat:Nat):Int)=h:=by lia
 have:h.toNat≠0:=by lia
 simp only [bG,beq_iff_eq,hh,this,false_or] at e;have hr:=z6 hp;exact Cg.Ox (by rw [e,d6 #[O] #[O]])
theorem zhE {p a b:Int} (hp:p∈zJ) (h:Cg p (a*b) 0):Cg p a 0\/Cg p b 0:=by
 have hr:=z6 hp;by_cases ha:a % p=0
 ·exact .inl (Cg.Ox (by rw [ha]; simp))
 ·right;have h0:0 < a % p:=by have:=aR a (show p≠0 by lia); lia
  have hi:=zgK hp h0 (aL a #[O]);have h1:Cg p (inv p (a % p)*(a*b)) 0:=(#[SQ].mul h).trans (Cg.of_eq (by grind));have h2:Cg p (inv p (a % p)*(a % p)*b) (1*b):=hi.mul (Cg.refl p b);have h3:Cg p (inv p (a % p)*(a*b)) (inv p (a % p)*(a % p)*b):=by
   have:=((Cg.refl p (inv p (a % p))).mul (Cg.emod p a).symm).mul (Cg.refl p b);exact (Cg.of_eq (by grind)).trans this
  exact ((Cg.of_eq (by grind)).trans (h2.symm.trans (h3.symm.trans h1)))
noncomputable def trF (p r:Int) (high low:Int):Int:=(high - r*low) % p
noncomputable def zdo (p r:Int) (v:List Int):List Int:=aY #[Vz] (0 :: v) (v++[0])
theorem zoK {p r z:Int}:∀ (v:List Int) (h:Int),Cg p (zw p z (aY #[Vz] (h :: v) (v++[0]))) (h+(z - r)*zw p z v)
 | [],h=>by
  show Cg p ((trF p r h 0+z*0) % p) (h+(z - r)*0);refine #[U8].trans ?_;have:Cg p (trF p r h 0) (h - r*0):=Cg.emod p _;exact (this.add (Cg.refl p (z*0))).trans (Cg.of_eq (by grind))
 | c :: w,h=>by
  show Cg p ((trF p r h c+z*zw p z (aY #[Vz] (c :: w) (w++[0]))) % p) (h+(z - r)*zw p z (c :: w));have ih:=zoK (p:=p) (r:=r) (z:=z) w c;have h1:Cg p (trF p r h c) (h - r*c):=Cg.emod p _;refine #[U8].trans ((h1.add ((Cg.refl p z).mul ih)).trans ?_);have h2:Cg p (h+(z - r)*(c+z*zw p z w)) (h+(z - r)*zw p z (c :: w)):=(Cg.refl p h).add (#[SQ].mul (zaj p z c w).symm);exact (Cg.of_eq (by grind)).trans h2
theorem znL {p r:Int} (v:List Int):Cg p (zw p z (zdo p r v)) ((z - r)*zw p z v):=(zoK v 0).trans (Cg.of_eq (by grind))
theorem zgi (p r:Int) (v:List Int):(zdo p r v).length=v.length+1:=by simp [zdo]
theorem zhF {α β γ:Type} {f:α->β->γ}:∀ {as:List α} {bs:List β} {c:γ},c∈aY f as bs->∃ a b,c=f a b
 | [],_,c,h=>by simp at h
 | _ :: _,[],c,h=>by simp at h
 | a :: as,b :: bs,c,h=>by
  rcases az.mp h with e | e
  ·exact⟨a,b,e⟩
  ·exact zhF e
theorem zpg {p r:Int} (hp:0 < p) (v:List Int):∀ c∈zdo p r v,0<=c/\c < p:=by
 intro c hc;obtain⟨a,b,e⟩:=zhF hc;rw [e]; exact⟨aR _ #[O],aL _ hp⟩
noncomputable def ad (p f:Int):List Int->List Int->List Int
 | c :: cs,v :: vs=>(c+f*v) % p :: ad p f cs vs
 | cs,[]=>cs
 | [],_ :: _=>[]
theorem zgj (p f:Int):∀ (cs vs:List Int),#[WQ].length=cs.length
 | _ :: cs,_ :: vs=>by show #[WQ].length+1=_; rw [zgj p f cs vs]; rfl
 | [],[]=>rfl
 | _ :: _,[]=>rfl
 | [],_ :: _=>rfl
theorem zmp {p f:Int} (hp:0 < p):∀ (cs vs:List Int),(∀ c∈cs,0<=c/\c < p)->∀ c∈ad p f cs vs,0<=c/\c < p
 | c :: cs,v :: vs,h,d,hd=>by
  rcases az.mp hd with e | e
  ·rw [e]; exact⟨aR _ #[O],aL _ hp⟩
  ·exact zmp hp cs vs (fun c hc=>h c (aq _ hc)) d e
 | [],[],h,d,hd=>h d hd
 | _ :: _,[],h,d,hd=>h d hd
 | [],_ :: _,h,d,hd=>by cases hd
theorem zjB {p f z:Int}:∀ (cs vs:List Int),vs.length<=cs.length->Cg p (zw p z #[WQ]) (zw p z cs+f*zw p z vs)
 | c :: cs,v :: vs,h=>by
  have ih:=zjB (p:=p) (f:=f) (z:=z) cs vs (by simpa using h);show Cg p (((c+f*v) % p+z*zw p z #[WQ]) % p) (zw p z (c :: cs)+f*zw p z (v :: vs));refine #[U8].trans (((Cg.emod p (c+f*v)).add ((Cg.refl p z).mul ih)).trans ?_);have h2:Cg p ((c+z*zw p z cs)+f*(v+z*zw p z vs)) (zw p z (c :: cs)+f*zw p z (v :: vs)):=(zaj p z c cs).symm.add ((Cg.refl p f).mul (zaj p z v vs).symm);exact (Cg.of_eq (by grind)).trans h2
 | [],[],_=>Cg.of_eq (by show (0:Int)=0+f*0; grind)
 | c :: cs,[],_=>Cg.of_eq (by show zw p z (c :: cs)=zw p z (c :: cs)+f*0; grind)
 | [],_ :: _,h=>by simp at h
noncomputable def zb6 (p:Int) (s:List Int×List Int) (q:Int×Int):List Int×List Int :=
 (ad p ((q.2 - zw p q.1 s.1)*inv p (zw p q.1 s.2) % p) s.1 s.2,zdo p q.1 s.2)
noncomputable def zqk (p:Int) (n:Nat) (nc:List (Int×Int)):List Int×List Int:=nc.foldl (zb6 p) (am n 0,[1])
noncomputable def thr (p:Int) (nc:List (Int×Int)):List Int:=(zqk p nc.length nc).1
noncomputable def zcY (z:Int):List (Int×Int)->Int
 | []=>1
 | q :: r=>(z - q.1)*zcY z r
theorem zfe (z:Int) (q:Int×Int):∀ l,zcY z (l++[q])=zcY z l*(z - q.1)
 | []=>by show (z - q.1)*1=1*(z - q.1); grind
 | a :: l=>by show (z - a.1)*zcY z (l++[q])=(z - a.1)*zcY z l*(z - q.1); rw [zfe z q l]; grind
theorem zff {z:Int}:∀ {l:List (Int×Int)},(∃ q∈l,q.1=z)->zcY z l=0
 | [],h=>by obtain⟨q,hq,_⟩:=h; cases hq
 | a :: l,h=>by
  show (z - a.1)*zcY z l=0;obtain⟨q,hq,e⟩:=h;rcases az.mp hq with hq | hq
  ·subst hq; rw [e]; simp
  ·rw [zff ⟨q,hq,e⟩]; simp
theorem zhG {p z:Int} (hp:p∈zJ) (hz:0<=z) (G0:z < p):∀ {l:List (Int×Int)},(∀ q∈l,0<=q.1/\q.1 < p/\q.1≠z)->¬ Cg p (zcY z l) 0
 | [],_,h=>by
  have hr:=z6 hp;have:=h.mod_eq;have e1:(zcY z []:Int)=1:=rfl;rw [e1,d6 #[O] #[O]] at this;simp at this
 | a :: l,hl,h=>by
  rcases zhE hp (show Cg p ((z - a.1)*zcY z l) 0 from h) with h | h
  ·obtain⟨h1,h2,h3⟩:=hl a aE;have:Cg p z a.1:=by
    have:=h.add (Cg.refl p a.1);exact (Cg.of_eq (by grind)).trans (this.trans (Cg.of_eq (by grind)))
   exact h3 (this.eq hz G0 h1 h2).symm
  ·exact zhG hp hz G0 (fun q hq=>hl q (aq _ hq)) h
structure Nw (p:Int) (n:Nat) (done:List (Int×Int)) (s:List Int×List Int):Prop where
 lc:s.1.length=n
 lv:s.2.length=done.length+1
 rc:∀ c∈s.1,0<=c/\c < p
 rv:∀ c∈s.2,0<=c/\c < p
 van:∀ z,Cg p (zw p z s.2) (zcY z done)
 hit:∀ q∈done,zw p q.1 s.1=q.2
theorem zfg {p:Int} (hp:p∈zJ) (n:Nat):Nw p n [] (am n 0,[1]):=by
 have hr:=z6 hp;refine⟨#[M],rfl,fun c hc=>?_,fun c hc=>?_,fun z=>?_,fun q hq=>by cases hq⟩
 ·obtain⟨_,e⟩:=List.mem_replicate.mp hc;lia
 ·have:c=1:=by simpa using hc
  lia
 ·show Cg p ((1+z*0) % p) 1;exact #[U8].trans (Cg.of_eq (by grind))
theorem zgL {p:Int} {n:Nat} {s:List Int×List Int} (hp:p∈zJ) (h:Nw p n done s) {q:Int×Int} (q0:0<=q.1) (q1:q.1 < p) (hd:∀ a∈done,0<=a.1/\a.1 < p/\a.1≠q.1) :
  0 < zw p q.1 s.2/\zw p q.1 s.2 < p:=by
 have hr:=z6 hp;refine⟨?_,zb5 #[O] _⟩;have h0:=zb4 (x:=q.1) (show 0 < p by lia) s.2;by_cases e:zw p q.1 s.2=0
 ·exact absurd ((h.van q.1).symm.trans (Cg.of_eq e)) (zhG hp q0 q1 hd)
 ·lia
theorem zgk {p:Int} {n:Nat} {s:List Int×List Int} (hp:p∈zJ) (h:Nw p n done s) {q:Int×Int} (q0:0<=q.1) (q1:q.1 < p) (hd:∀ a∈done,0<=a.1/\a.1 < p/\a.1≠q.1) :
  Cg p ((q.2 - zw p q.1 s.1)*inv p (zw p q.1 s.2) % p*zw p q.1 s.2) (q.2 - zw p q.1 s.1):=by
 obtain⟨h0,h1⟩:=zgL hp h q0 q1 hd;have hi:=zgK hp h0 h1;refine (#[U8].mul #[SQ]).trans ?_;have:=(Cg.refl p (q.2 - zw p q.1 s.1)).mul hi;exact (Cg.of_eq (by grind)).trans (this.trans (Cg.of_eq (by grind)))
theorem zgM {p:Int} {n:Nat} {s:List Int×List Int} (hp:p∈zJ) (h:Nw p n done s) {q:Int×Int} (hn:done.length < n) (q0:0<=q.1) (q1:q.1 < p) (q2:0<=q.2) (q3:q.2 < p)
  (hd:∀ a∈done,0<=a.1/\a.1 < p/\a.1≠q.1/\0<=a.2/\a.2 < p):Nw p n (done++[q]) (zb6 p s q):=by
 have hr:=z6 hp;have Bo:∀ a∈done,0<=a.1/\a.1 < p/\a.1≠q.1:=fun a ha=>⟨(hd a ha).1,(hd a ha).2.1,(hd a ha).2.2.1⟩
 have hlv:=h.lv;have hlc:=h.lc;have hle:s.2.length<=s.1.length:=by lia
 refine⟨by show (ad _ _ _ _).length=n; rw [zgj,h.lc],by show (zdo _ _ _).length=_; rw [zgi,h.lv,aF,gz],zmp #[O] _ _ h.rc,zpg #[O] _,fun z=>?_,fun a ha=>?_⟩
 ·rw [zfe];exact (znL s.2).trans ((#[SQ].mul (h.van z)).trans (Cg.of_eq (by grind)))
 ·have hv:=zjB (p:=p) (f:=(q.2 - zw p q.1 s.1)*inv p (zw p q.1 s.2) % p) (z:=a.1) s.1 s.2 hle; rcases aP.mp ha with ha | ha
  ·obtain⟨b0,b1,b2,b3,b4⟩:=hd a ha;have hz:Cg p (zw p a.1 s.2) 0:=(h.van a.1).trans (Cg.of_eq (zff ⟨a,ha,rfl⟩));have h2:Cg p (zw p a.1 (ad p ((q.2 - zw p q.1 s.1)*inv p (zw p q.1 s.2) % p) s.1 s.2)) (zw p a.1 s.1):=hv.trans (((Cg.refl p (zw p a.1 s.1)).add (#[SQ].mul hz)).trans (Cg.of_eq (by rw [Int.mul_zero,Int.add_zero])));rw [h.hit a ha] at h2;exact h2.eq (zb4 #[O] _) (zb5 #[O] _) b3 b4
  ·have e:a=q:=by simpa using ha
   subst e;have h2:Cg p (zw p a.1 (ad p ((a.2 - zw p a.1 s.1)*inv p (zw p a.1 s.2) % p) s.1 s.2)) a.2:=hv.trans (((Cg.refl p (zw p a.1 s.1)).add (zgk hp h q0 q1 Bo)).trans #[RT]);exact h2.eq (zb4 #[O] _) (zb5 #[O] _) q2 q3
structure Pts (p:Int) (nc:List (Int×Int)):Prop where
 nd:(nc.map (·.1)).Nodup
 rg:∀ q∈nc,0<=q.1/\q.1 < p/\0<=q.2/\q.2 < p
theorem Pts.apart {p:Int} {rest:List (Int×Int)} {q:Int×Int} (h:Pts p (done++q :: rest)):∀ a∈done,0<=a.1/\a.1 < p/\a.1≠q.1/\0<=a.2/\a.2 < p:=fun a ha=>by
 obtain⟨r1,r2,r3,r4⟩:=h.rg a (aH _ ha);refine⟨r1,r2,fun e=>?_,r3,r4⟩;have nd:=h.nd;rw [aB,fZ] at nd;exact nd.2.2 a.1 (be.mpr ⟨a,ha,rfl⟩) q.1 #[M] e
theorem zmq {p:Int} (hp:p∈zJ) {n:Nat}:∀ (rest done:List (Int×Int)) (s:List Int×List Int),Pts p (done++rest)->(done++rest).length=n->Nw p n done s->Nw p n (done++rest) (rest.foldl (zb6 p) s)
 | [],done,s,_,_,h=>by rw [cb]; exact h
 | q :: rest,done,s,hP,hn,h=>by
  have E4:done.length < n:=by rw [<- hn]; simp
  obtain⟨a,b,c,d⟩:=hP.rg q #[M];have hs:=zgM hp h (q:=q) E4 a b c d hP.apart;have e:done++q :: rest=(done++[q])++rest:=by simp
  rw [e] at hP hn |-;exact zmq hp rest (done++[q]) _ hP hn hs
theorem ziU {p:Int} (hp:p∈zJ) (hP:Pts p nc):(thr p nc).length=nc.length/\(∀ c∈thr p nc,0<=c/\c < p)/\∀ q∈nc,zw p q.1 (thr p nc)=q.2:=by
 have h:=zmq hp (n:=nc.length) nc [] _ (by simpa using hP) #[M] (zfg hp nc.length);exact⟨h.lc,h.rc,h.hit⟩
theorem zkG {p high step f m:Int} (hp:p∈zJ) (h0:0 < high) (h1:high < p) (hf:Cg p (f*high) step) (hm:Cg p (m*high) step) (f0:0<=f) (f1:f < p) (m0:0<=m) (m1:m < p):f=m:=by
 have hi:=zgK hp h0 h1;have h2:Cg p (f*high) (m*high):=hf.trans hm.symm;have h3:=(Cg.refl p (inv p high)).mul h2;have h4:Cg p (inv p high*high*f) (1*f):=hi.mul (Cg.refl p f);have h5:Cg p (inv p high*high*m) (1*m):=hi.mul (Cg.refl p m);have h6:Cg p f m:=(Cg.of_eq (by grind)).trans (h4.symm.trans ((Cg.of_eq (by grind)).trans (h3.trans ((Cg.of_eq (by grind)).trans (h5.trans (Cg.of_eq (by grind)))))));exact h6.eq f0 f1 m0 m1
theorem zgN {p f:Int} (hp:0 < p):∀ (cs vs:List Int) (m:Nat),(∀ c∈cs,0<=c/\c < p)->cs.length<=vs.length+m->vs.length<=cs.length->aY (fun one other=>(one+f*other) % p) cs (vs++am m 0)=ad p f cs vs
 | c :: cs,v :: vs,m,h,h1,h2=>by
  show (c+f*v) % p :: aY _ cs (vs++am m 0)=(c+f*v) % p :: ad p f cs vs;rw [zgN hp cs vs m (fun d hd=>h d (aq _ hd)) (by simp at h1; lia) (by simpa using h2)]
 | [],[],m,_,_,_=>by simp [ad]
 | [],_ :: _,_,_,_,h2=>by simp at h2
 | c :: cs,[],m,h,h1,h2=>by
  cases m with
  | zero=>simp at h1
  | succ m =>
   obtain⟨c0,c1⟩:=h c aE;have ih:=zgN (f:=f) hp cs [] m (fun d hd=>h d (aq _ hd)) (by simp at h1 |-; lia) #[M];have e:ad p f cs []=cs:=by cases cs <;> rfl
   rw [e,fF] at ih;rw [fF,bt];show (c+f*0) % p :: aY _ cs (am m 0)=c :: cs;rw [ih,Int.mul_zero,Int.add_zero,d6 c0 c1]
theorem zgl {p r:Int}:∀ m:Nat,aY #[Vz] (am (m+1) 0) (am m 0)=am m 0
 | 0=>by simp
 | m+1=>by
  rw [bt (n:=m+1),bt (n:=m)];show trF p r 0 0 :: aY #[Vz] (0 :: am m 0) (am m 0)=0 :: am m 0;have:=zgl (p:=p) (r:=r) m;rw [bt] at this;rw [this];have e:trF p r 0 0=0:=by simp [trF]
  rw [e]
theorem zjC {p r:Int} (m:Nat):∀ (v:List Int) (h:Int),aY #[Vz] (h :: #[XH]) #[XH]=aY #[Vz] (h :: v) (v++[0])++am m 0
 | [],h=>by
  rw [fF,bt];show trF p r h 0 :: aY #[Vz] (0 :: am m 0) (am m 0)=trF p r h 0 :: am m 0;have:=zgl (p:=p) (r:=r) m;rw [bt] at this;rw [this]
 | c :: v,h=>by
  show trF p r h c :: aY #[Vz] (c :: #[XH]) #[XH]=trF p r h c :: (aY #[Vz] (c :: v) (v++[0])++am m 0);rw [zjC m v c]
end My
end
section
namespace My
open PySem L2 PyProof.Rows
variable {H H':Hp} {K:af} {as cs ms ns:List Int} {j k:Nat} {te:TE} {ts:TT} {y:V}
section
variable {K:af}
theorem zmr {k:Int} (h0:0<=k) (h1:k < ns.length):∃ c:Int,ns[k.toNat]? = some c/\atI #[AT] k=some (.int c):=by
 have nC:k.toNat < ns.length:=by lia
 have e:atI #[AT] ((k.toNat:Nat):Int)=some (.int ns[k.toNat]):=zag (by simp [ao,aI nC]);have hk:((k.toNat:Nat):Int)=k:=by lia
 rw [hk] at e;exact⟨ns[k.toNat],#[M],e⟩
theorem zb7 {k:Int} (h0:0<=k) (h1:k < ns.length):∃ c:Int,atI #[AT] k=some (.int c):=let ⟨c,_,e⟩:=zmr h0 h1; ⟨c,e⟩
theorem zd {a:Addr} {o:HO} (h:H a=none):zC H #[Ug]:=fun b u e=>by rw [zg (zl e h)]; exact e
theorem zaZ {a:Addr} {o:HO} (s:zC H H') (h:H a=none):zC H (mR H' a o):=fun b u e=>by rw [zg (zl e h)]; exact s b u e
theorem zav {n:Nat} (h:n<=10000):n < sizeLine:=by rw [a8]; lia
noncomputable def zkH (K:af):Sp:=fun vs H Q _=>∃ (a:Addr) (ns:List Int) (k:Int),vs = [.ref a,.int k]/\mS K H a #[AT]/\ns.length<=63/\0<=k/\k<=1000/\∀ c:Int,Q (.int c) H
noncomputable def zjD (many:Nat) (base:Int) (ds:List Int):Prop:=ds.length=many/\∀ d∈ds,0<=d/\d < base
noncomputable def ziV (K:af):Sp:=fun vs H Q _=>∃ (a:Addr) (ns:List Int) (k many base:Int),vs = [.ref a,.int k,.int many,.int base]/\mS K H a #[AT]/\ns.length<=63/\0<=k/\k<=1000/\0<=many/\many<=1000/\0 < base/\base < 1073741824 /\
 ∀ (l:Addr) (ds:List Int) (H':Hp),H l=none->zC H H'->zjD many.toNat base ds->H' l=some #[Xo]->Q #[SX] H'
abbrev znM:List V:=[.int 2147483647,.int 2147483629,.int 2147483587,.int 2147483579,.int 2147483563,.int 2147483549,.int 2147483543,.int 2147483497]
theorem znN {m:Int} (h0:0<=m) (h1:m < 8):∃ q:Int,atI znM m=some (.int q)/\0 < q/\q < 2147483648:=by
 have:m=0\/m=1\/m=2\/m=3\/m=4\/m=5\/m=6\/m=7:=by lia
 rcases this with e | e | e | e | e | e | e | e <;> subst e <;> exact⟨_,rfl,#[D],#[D]⟩
theorem zfh (j:Int):∃ q:Int,atI znM (j % 8)=some (.int q)/\0 < q/\q < 2147483648:=znN (aR _ #[D]) (aL _ #[D])
theorem gY {i:Nat} {x:V} {σ:L2.St} {A B:L2.St->Hp->Prop} (h:A #[SR] H):zaR i x σ H (fun σ2 H2=>zo8 σ2 H2 fun b H3=>if b=true then A σ2 H3 else B σ2 H3):=by
 show (if true=true then A #[SR] H else B #[SR] H);rw [if_pos rfl];exact h
structure Qk (mk mn p k:Int) (pl:List Int):Prop where
 pr:p∈zJ
 k1:1<=k
 kk:k<=mk
 kl:k<=pl.length
 ln:(pl.length:Int)<=mn
 nd:pl.Nodup
 rg:∀ x∈pl,0<=x/\x < p
noncomputable def zkI (K:af):Sp:=fun vs H Q _=>∃ (a:Addr) (ns:List Int) (at' mk mn:Int),vs = [.ref a,.int at',.int mk,.int mn]/\mS K H a #[AT]/\ns.length<=63/\0<=at'/\at'<=1000/\1<=mk/\mk<=5/\mk<=mn/\mn<=16 /\
 ∀ (c tt:Addr) (p k:Int) (pl:List Int) (H':Hp),H c=none->zC H H'->Qk mk mn p k pl->H' c=some (.tup [.int p,.int k,.ref tt])->H' tt=some (.tup #[Sa])->Q #[Tv] H'
theorem zph {x y m:Int} (h0:0<=m) (h1:m < 2):∃ z:Int,atI [V.int x,V.int y] m=some (.int z)/\(z=x\/z=y):=by
 have:m=0\/m=1:=by lia
 rcases this with e | e <;> subst e
 ·exact⟨x,rfl,.inl rfl⟩
 ·exact⟨y,rfl,.inr rfl⟩
theorem zms {k:Int} (h0:0<=k) (h1:k < ns.length):∃ c:Int,c∈ns/\atI #[AT] k=some (.int c):=by
 obtain⟨c,e,h⟩:=zmr h0 h1;exact⟨c,aV e,h⟩
theorem zgm {α β:Type} (f:α->β):∀ (l:List α) (k:Nat),(l.map f).eraseIdx k=(l.eraseIdx k).map f
 | [],_=>rfl
 | _ :: _,0=>rfl
 | a :: l,k+1=>by show f a :: (l.map f).eraseIdx k=f a :: (l.eraseIdx k).map f; rw [zgm f l k]
theorem KQ {α:Type}:∀ {l:List α} {k:Nat} {x:α},l[k]? = some x->(x :: l.eraseIdx k).Perm l
 | [],_,_,h=>by simp at h
 | a :: l,0,x,h=>by
  have e:a=x:=by simpa using h
  subst e;exact List.Perm.refl _
 | a :: l,k+1,x,h=>by
  have ih:=KQ (l:=l) (k:=k) (x:=x) (by simpa using h);exact (lX a x _).trans (ih.cons a)
theorem znO {p:Int} {xs ls:List Int} {x:Int} (h:ls[k]? = some x) (nd:(xs++ls).Nodup) (rg:∀ y∈xs++ls,0<=y/\y < p):((xs++[x])++ls.eraseIdx k).Nodup/\∀ y∈(xs++[x])++ls.eraseIdx k,0<=y/\y < p:=by
 have hp:((xs++[x])++ls.eraseIdx k).Perm (xs++ls):=by
  rw [bu];exact (KQ h).append_left xs
 exact⟨hp.nodup_iff.mpr nd,fun y hy=>rg y (hp.mem_iff.mp hy)⟩
theorem zkJ (p:Int):(zcf 0 p.toNat).Nodup/\∀ y∈zcf 0 p.toNat,0<=y/\y < p:=by
 unfold zcf;constructor
 ·rw [iw,d7];exact (iw.mp (List.nodup_range (n:=p.toNat))).imp fun {a b} hab=>by lia
 ·intro y hy;obtain⟨i,hi,e⟩:=be.mp hy;have:=bU.mp hi;lia
noncomputable def zes (K:af):Sp:=fun vs H Q _=>∃ (p x:Int) (a:Addr) (cs:List Int),vs = [.int p,.ref a,.int x]/\(mS K H a #[Tc]\/m7 K H a #[Tc])/\0 < p/\p<=97/\0<=x/\x < p/\Q (.int (zw p x cs)) H
noncomputable def ziW (K:af):Sp:=zes K
theorem zgn {i:Nat} {c:Int} (hi:i < cs.length) (h:cs[cs.length - 1 - i]? = some c):cs.drop (cs.length - (i+1))=c :: cs.drop (cs.length - i):=by
 have e:cs.length - (i+1)=cs.length - 1 - i:=by lia
 have nC:cs.length - 1 - i < cs.length:=by lia
 rw [e,cQ nC];have:cs[cs.length - 1 - i]=c:=by
  rw [aI nC] at h;exact aO h
 rw [this];congr 2;lia
theorem zaF {x:V} (h:#[Tc][j]? = some x):∃ c,x = .int c/\cs[j]? = some c:=by
 rw [ao] at h;cases e:cs[j]? with
 | none=>rw [e] at h; cases h
 | some c=>rw [e] at h; exact⟨c,(aO h).symm,rfl⟩
theorem zjE {p x ni power c:Int} {i:Nat} (h:cs[i]? = some c):lv p x ni power (cs.drop i)=lv p x ((ni+c*power) % p) (power*x % p) (cs.drop (i+1)):=by
 obtain⟨nC,e⟩:=aj.mp h;rw [cQ nC,e];rfl
noncomputable def ziX (K:af):Sp:=fun vs H Q _=>∃ (p h:Int),vs = [.int p,.int h]/\p∈zJ/\0<=h/\h < p/\Q (.int (inv p h)) H
noncomputable def zpi (σ:L2.St):Nat:=match (σ[4]?:Option (Option V)) with
 | some (some (V.int l))=>l.toNat
 | _=>0
theorem zgO {p prod sq left:Int} {n:Nat} (h0:0 < left) (h1:left < 2 ^ (n+1)):zc9 p (n+1) prod sq left=zc9 p n (if left % 2=1 then prod*sq % p else prod) (sq*sq % p) (left / 2):=by
 show (if 0 < left then _ else _)=_;rw [if_pos h0]
theorem zhH {p prod sq:Int}:∀ n,zc9 p n prod sq 0=prod
 | 0=>rfl
 | n+1=>by show (if (0:Int) < 0 then _ else prod)=prod; rw [if_neg #[D]]
theorem gY2 {i:Nat} {T:Addr} {x:V} {σ:L2.St} {A B:L2.St->Hp->Prop} (hT:m7 K H T [x,y]) (h:A (#[SR].set j (some y)) H) :
  ziA K 2 #[Uk] (.ref T) σ H (fun σ2 H2=>zo8 σ2 H2 fun b H3=>if b=true then A σ2 H3 else B σ2 H3):=by
 refine⟨T,_,rfl,hT,rfl,x,_,rfl,y,_,rfl,rfl,?_⟩;show (if true=true then A (#[SR].set j (some y)) H else B (#[SR].set j (some y)) H);rw [if_pos rfl];exact h
theorem zhI {f:Int->Int->Int} {bs:List Int} {i:Nat} {x y:Int} (hx:as[i]? = some x) (hy:bs[i]? = some y):#[VC].take (i+1)=#[VC].take i++[f x y]:=by
 have e:#[VC][i]? = some (f x y):=by rw [List.getElem?_zipWith,hx,hy]
 rw [kU,e,mh]
noncomputable def zfT (K:af):Sp:=fun vs H Q _=>∃ (p r:Int) (a:Addr) (cs:List Int),vs = [.int p,.ref a,.int r]/\H a=some (.lst #[Tc])/\cs.length<=1000/\0 < p/\0<=r/\r<=97 /\
 ∀ (l:Addr) (H':Hp),H l=none->zC H H'->H' l=some (.lst ((zdo p r cs).map V.int))->Q #[SX] H'
noncomputable def zjF (K:af) (H:Hp) (a:Addr) (nc:List (Int×Int)):Prop:=∃ bs:List Addr,mS K H a #[UJ]/\bs.length=nc.length/\∀ (i:Nat) (b:Addr) (q:Int×Int),bs[i]? = some b->nc[i]? = some q->H b=some (.tup [.int q.1,.int q.2])
theorem zfi (n:Nat):(am n [V.int 0]).flatten=(am n (0:Int)).map V.int:=by
 induction n with
 | zero=>rfl
 | succ n ih=>rw [bt,dY,ih,bt]; rfl
theorem zdJ {n:Nat} (h:j < n):ixN n (j:Int)=some j:=by
 unfold ixN;rw [if_pos #[O],if_pos #[O]];rfl
theorem zaQ {bs:List Addr} {i:Nat} {x:V} (h:#[UJ][i]? = some x):∃ b,x = .ref b/\bs[i]? = some b:=by
 rw [ao] at h;cases e:bs[i]? with
 | none=>rw [e] at h; cases h
 | some b=>rw [e] at h; exact⟨b,(aO h).symm,rfl⟩
theorem take_snoc {α:Type} {l:List α} {i:Nat} {x:α} (h:l[i]? = some x):l.take (i+1)=l.take i++[x]:=by
 rw [kU,h,mh]
theorem zcC {α:Type} {l:List α} {i:Nat} {x:α} (h:l[i]? = some x):l=l.take i++x :: l.drop (i+1):=by
 obtain⟨hi,e⟩:=aj.mp h; have:=cD i l;rw [cQ hi,e] at this;exact this.symm
noncomputable def ziY (K:af):Sp:=fun vs H Q _=>∃ (p:Int) (a:Addr) (nc:List (Int×Int)),vs = [.int p,.ref a]/\zjF K H a nc/\nc.length<=100/\p∈zJ/\Pts p nc /\
 ∀ (l:Addr) (H':Hp),H l=none->zC H H'->H' l=some (.tup ((thr p nc).map V.int))->Q #[SX] H'
noncomputable def zgP (K:af):Sp:=ziY K
theorem zmt {f:Int->Int->Int} {bs:List Int} {n:Nat} (h1:n<=as.length) (h2:n<=bs.length) (h3:as.length<=n\/bs.length<=n):#[VC].length=n:=by
 rw [gV];lia
theorem zeh {a b:Addr} {bs:List Int} {n:Nat} {f:Int->Int->Int} {g:TG} {σ0:L2.St} {Q:VK} (ha:H a=some (.lst (as.map V.int))) (hb:H b=some (.lst (bs.map V.int))) (h1:n<=as.length) (h2:n<=bs.length) (h3:as.length<=n\/bs.length<=n) (hn:n<=10000)
  (hs:∀ (i:Nat) (x y:Int) (H1:Hp) (T:Addr) (R:VK) (B:L2.St->Hp->Prop),as[i]? = some x->bs[i]? = some y->zC H H1->H1 T=none->R (.int (f x y)) (mR H1 T (.tup [.int x,.int y]))->g (.ref T) σ0 (mR H1 T (.tup [.int x,.int y])) fun σ2 H2=>ts σ2 H2 fun b H3=>if b=true then te σ2 H3 R else B σ2 H3)
  (hd:∀ D H1,zC H H1->H1 D=none->Q #[Ri] (mR H1 D (.lst (#[VC].map V.int)))):cGo g ts te σ0 (zkB (mS K) (mS K) a b) Q H:=by
 have hl:=zmt (f:=f) h1 h2 h3;refine zeO (n:=n) (fun i ys H'=>ys=(#[VC].take i).map V.int/\zC H H') ⟨#[M],fun _ _ e=>e⟩ ?_ ?_ ?_ ?_
 ·rintro i ys H3 hi ⟨_,s3⟩;obtain⟨x,hx⟩:∃ x,as[i]? = some x:=⟨as[i]'#[O],#[M]⟩;obtain⟨y,hy⟩:∃ y,bs[i]? = some y:=⟨bs[i]'#[O],#[M]⟩;exact⟨_,_,.int x,.int y,mS.of (s3 _ _ ha),mS.of (s3 _ _ hb),by rw [ao,hx]; rfl,by rw [ao,hy]; rfl⟩
 ·rintro ys H3 ⟨_,s3⟩;exact⟨_,_,mS.of (s3 _ _ ha),mS.of (s3 _ _ hb),by rw [ae,ae]; exact h3⟩
 ·rintro i x ys H3 H4 hi ⟨rfl,s3⟩ ⟨T,u,v,hT,rfl,rfl,hu,hv⟩;obtain⟨x,rfl,hx⟩:=zaF (hu _ (mS.of (s3 _ _ ha)));obtain⟨y,rfl,hy⟩:=zaF (hv _ (mS.of (s3 _ _ hb)));refine hs i x y H3 T _ _ hx hy s3 hT ⟨zav ?_,?_,s3.trans (zd hT)⟩
  ·rw [ae];exact bq (fE _ _) #[O]
  ·rw [zhI hx hy,aB];rfl
 ·rintro ys H3 D ⟨rfl,s3⟩ hD;rw [aW #[O]];exact hd D H3 s3 hD
theorem zkK {a:Addr} {xs fs:List V} {g:TG} {σ0:L2.St} {Q:VK} (ha:mS K H a xs) (hl:fs.length=xs.length) (hn:xs.length<=10000)
  (hs:∀ (i:Nat) (x y:V) (R:VK) (B:L2.St->Hp->Prop),xs[i]? = some x->fs[i]? = some y->R y H->g x σ0 H fun σ2 H2=>ts σ2 H2 fun b H3=>if b=true then te σ2 H3 R else B σ2 H3)
  (hd:∀ D,H D=none->Q #[Ri] (mR H D (.lst fs))):cGo g ts te σ0 #[WG] Q H:=by
 refine zeO (n:=xs.length) (fun i ys H'=>ys=fs.take i/\H'=H) ⟨#[M],rfl⟩ ?_ ?_ ?_ ?_
 ·rintro i ys H3 hi ⟨_,rfl⟩;exact⟨_,xs[i],ha,#[M]⟩
 ·rintro ys H3 ⟨_,rfl⟩;exact⟨_,ha,ah _⟩
 ·rintro i x ys H3 H4 hi ⟨rfl,rfl⟩ ⟨rfl,hx⟩;have hy:fs[i]? = some fs[i]:=by simp
  refine hs i x fs[i] _ _ (hx _ ha) hy ⟨zav (bq (fE _ _) #[O]),?_,rfl⟩;rw [take_snoc hy]
 ·rintro ys H3 D ⟨rfl,rfl⟩ hD;rw [aW #[O]];exact hd D hD
theorem zmu (ds:List Int) (lo hi:Option Int):∃ ms:List Int,zcy #[RF] lo hi=ms.map V.int/\ms.length<=ds.length:=by
 refine⟨(ds.drop (HT.sIx #[RF].length 0 lo)).take (HT.sIx #[RF].length #[RF].length hi - HT.sIx #[RF].length 0 lo),?_,?_⟩
 ·unfold zcy; rw [gj,iz]
 ·rw [aA,bP];lia
theorem zhJ {f:Int->V} {i:Nat} {x:V} (hx:#[Sb][i]? = some x) (hy:(ms.map f)[i]? = some y):∃ c,ms[i]? = some c/\x = .int c/\y=f c:=by
 obtain⟨c,rfl,hc⟩:=zaF hx;rw [ao,hc] at hy;exact⟨c,hc,rfl,(aO hy).symm⟩
noncomputable def zgQ (K:af):Sp:=fun vs H Q _=>∃ (a:Addr) (ns:List Int),vs = [.ref a]/\mS K H a #[AT]/\ns.length<=63/\∀ H',Q (.bl true) H'
end
end My
end
section
namespace PySem
abbrev IsZ (h:Heap) (z TI TO:Addr) (f0 f1:Value):Prop:=h.get? z=some { cls:=.type "zip",dict:=none,data:=.fields #[f0,f1,.bool false,.ref TI,.ref TO],slots:=#[] }
noncomputable def ZF (f0 f1:Value):Prop:=(f0 = .none\/∃ a t,f0 = .int a t)/\∃ b,f1 = .bool b
structure Zap (z TI TO i1 i2:Addr) (tU tV:List Addr):Prop where
 zTI:TI≠z
 zTO:TO≠z
 z1:i1≠z
 z2:i2≠z
 TT:TI≠TO
 T1:TI≠i1
 T2:TI≠i2
 O1:TO≠i1
 O2:TO≠i2
 ii:i1≠i2
 a1:z∉tU
 a2:TO∉tU
 a3:i2∉tU
 b1:z∉tV
 b2:TO∉tV
 b3:i1∉tV
section
variable {prog:Program} {w:World} {A:Around} {E:Value->Shared->Prop} {s:Shared}
theorem zkL {a:Addr} {Q:Option Obj->Shared->Prop} (h:Q (s.heap.get? a) s):wpAny #[or] A (loadIfAlive a) Q E s:=fun _ _ _=>h
theorem zmv {z TI TO:Addr} {f0 f1:Value} {Q:Bool->Shared->Prop} (hz:IsZ s.heap z TI TO f0 f1) (hf:ZF f0 f1) (h1:Q true s)
  (h2:∀ h',IsZ h' z TI TO f0 #[TR]->bh z s.heap h'->Q false { s with heap:=h' }):wpAny #[or] A (bX #[UU]) Q E s:=by
 obtain⟨hf,b,rfl⟩:=hf;unfold bX; rcases hf with rfl | ⟨a,t,rfl⟩
 ·exact aa (bF hz rfl (x:=.none) rfl (ag h1))
 ·refine aa (bF hz rfl (x:=.int a t) rfl ?_);refine aa (zkL ?_);cases s.heap.get? a.toNat with
  | none=>exact ag h1
  | some o =>
   refine aa (bF hz rfl (x:=.bool b) rfl ?_);cases b with
   | true=>exact ag (h2 s.heap hz #[VU])
   | false=>exact aa (bK hz #[M] fun h' a' b'=>ag (h2 h' a' b'))
theorem zjG {z TI TO i1 i2:Addr} {tU tV:List Addr} {n1 n2 k1 k2:Nat} {P1 P2:Nat->Value->Prop} {S1 S2:Nat->Heap->Prop} {f0 f1 a b:Value} {Q:Value->Shared->Prop} (D1:Draws prog w A i1 tU n1 P1 S1) (D2:Draws prog w A i2 tV n2 P2 S2) (Z:Zap z TI TO i1 i2 tU tV)
  (hz:IsZ s.heap z TI TO f0 f1) (hf:ZF f0 f1) (xK:IsPair s.heap TI #[U1] #[U0]) (yC:IsPair s.heap TO a b) (p9:S1 k1 s.heap) (nR:S2 k2 s.heap) (l1:k1 < n1) (l2:k2 < n2)
  (hQ:∀ x y h' tk g0 g1 a' b',P1 k1 x->P2 k2 y->IsZ h' z TI TO g0 g1->ZF g0 g1->IsPair h' TI #[U1] #[U0]->IsPair h' TO a' b'->S1 (k1+1) h'->S2 (k2+1) h'->IsPair h' s.heap.objs.size x y->h'.objs.size=s.heap.objs.size+1 ->
   (∀ c o,c≠z->c≠TO->c≠i1->c≠i2->s.heap.get? c=some o->h'.get? c=some o)->Q #[t0] { s with heap:=h',toks:=tk }):wpAny #[or] A (Builtin.«zip.__next__» ⟨[.ref z],[]⟩) (fun fin s'=>∃ v,fin = .done (.ret v)/\Q v s') E s:=by
 obtain⟨hp,g,d,G2,os⟩:=s;show wpAny _ _ (field #[UU] 2 >>= _) _ _ _; refine aa #[WD]; show wpAny _ _ (field #[UU] 3 >>= _) _ _ _;refine aa #[XT]; refine aa (dI xK rfl ?_);show wpAny _ _ (bX #[UU] >>= _) _ _ _; refine aa (zmv hz hf ?_ fun h0 hz0 xv=>?_)
 ·simp only [if_true];refine aa #[We];refine aa (bK hz #[M] fun ha Ct uP=>?_);replace Ct:IsZ ha z TI TO .ellipsis f1:=Ct;replace uP:bh z hp ha:=uP;refine aa ?_;simp only [ly,lM,dS,fP]; refine aa (aa (gk ?_)); show wpAny _ _ (bo #[U1] >>= _) _ _ _;refine aa (D1.item k1 _ _ _ l1 (D1.frame _ _ _ p9 fun c hc o e=>uP.extBut c o (fun q=>Z.a1 (q ▸ hc)) e) fun x hb Fp px Fq oM=>ag ?_);replace oM:bh i1 ha hb:=oM;have yU:IsPair hb TO a b:=oM.extBut _ _ Z.O1 (uP.extBut _ _ Z.zTO yC);refine aa (dI yU rfl (aa (gL yU fun hc BD xM=>?_)));replace BD:IsPair hc TO x b:=BD;replace xM:bh TO hb hc:=xM;refine aa (jq (ag (aa (aa (gk ?_))))); show wpAny _ _ (bo #[U0] >>= _) _ _ _;refine aa (D2.item k2 _ _ _ l2 (D2.frame _ _ _ nR fun c rW o e=>xM.extBut c o (fun q=>Z.b2 (q ▸ rW)) (oM.extBut c o (fun q=>Z.b3 (q ▸ rW)) (uP.extBut c o (fun q=>Z.b1 (q ▸ rW)) e))) fun y hd Ia py Ib uB=>ag ?_);replace uB:bh i2 hc hd:=uB;have BE:IsPair hd TO x b:=uB.extBut _ _ Z.O2 BD;refine aa (dI BE rfl (aa (gL BE fun he BF Dj=>?_)));replace BF:IsPair he TO x y:=BF;replace Dj:bh TO hd he:=Dj;refine aa (jq (ag (ag ?_))); refine aa (dI BF rfl (aa (g7 ?_)));have hsz:he.objs.size=hp.objs.size:=by rw [Dj.1,uB.1,xM.1,oM.1,uP.1]
  have hze:IsZ he z TI TO .ellipsis f1:=Dj.extBut _ _ Z.zTO.symm (uB.extBut _ _ Z.z2.symm #[T6]);have kk:∀ c o,c≠z->c≠TO->c≠i1->c≠i2->hp.get? c=some o->he.get? c=some o:=fun c o c1 c2 c3 c4 e=>Dj.extBut _ _ c2 (uB.extBut _ _ c4 (xM.extBut _ _ c2 (oM.extBut _ _ c3 (uP.extBut _ _ c1 e))))
  have Ic:S1 (k1+1) he:=D1.frame _ _ _ Fq fun c rW o e=>Dj.extBut c o (fun q=>Z.a2 (q ▸ rW)) (uB.extBut c o (fun q=>Z.a3 (q ▸ rW)) (xM.extBut c o (fun q=>Z.a2 (q ▸ rW)) e))
  have Ie:S2 (k2+1) he:=D2.frame _ _ _ Ib fun c rW o e=>Dj.extBut c o (fun q=>Z.b2 (q ▸ rW)) e
  have zlt:z < he.objs.size:=aG hze;show wpAny _ _ (cS #[UU] (.ref he.objs.size) >>= _) _ _ _;refine aa ?_;unfold cS; have BG:IsZ (he.push { cls:=.type "tuple",data:=.seq #[x,y] }) z TI TO .ellipsis f1:=ai _ hze;refine aa (bK BG #[M] fun h7 Ig Cu=>?_);replace Ig:IsZ h7 z TI TO (rawInt he.objs.size) f1:=Ig;refine bK Ig #[M] fun h8 G3 Ih=>ag ⟨_,rfl,?_⟩
  replace G3:IsZ h8 z TI TO (rawInt he.objs.size) #[XO]:=G3;have up:∀ c o,c≠z->he.get? c=some o->h8.get? c=some o:=fun c o c1 e=>Ih.extBut _ _ c1 (Cu.extBut _ _ c1 (ai _ e))
  have Fs:IsPair h8 he.objs.size x y:=Ih.extBut _ _ (eE zlt) (Cu.extBut _ _ (eE zlt) (aD _ rfl));have yV:h8.objs.size=he.objs.size+1:=by rw [Ih.1,Cu.1,bz]
  show Q (.ref he.objs.size) _;rw [hsz] at G3 Fs yV |-;exact hQ x y h8 Ia _ _ _ _ px py G3 ⟨.inr ⟨_,_,rfl⟩,_,rfl⟩ (up _ _ Z.zTI #[Wm]) (up _ _ Z.zTO BF) (D1.frame _ _ _ Ic fun c rW o e=>up c o (fun q=>Z.a1 (q ▸ rW)) e) (D2.frame _ _ _ Ie fun c rW o e=>up c o (fun q=>Z.b1 (q ▸ rW)) e) Fs yV fun c o c1 c2 c3 c4 e=>up c o c1 (kk c o c1 c2 c3 c4 e)
 ·simp only [ba,if_false]; replace xv:bh z hp h0:=xv;rw [show (#[aN i1,aN i2]:Array Value) = [aN i1,aN i2].toArray from rfl];simp only [kJ,dS,fP];refine aa (aa (aa (bQ ?_))); show wpAny _ _ (bo #[U1] >>= _) _ _ _;refine aa (D1.item k1 _ _ _ l1 (D1.frame _ _ _ p9 fun c hc o e=>xv.extBut c o (fun q=>Z.a1 (q ▸ hc)) e) fun x hb Fp px Fq oM=>ag (ag ?_));replace oM:bh i1 h0 hb:=oM;refine aa (aa (bQ ?_)); show wpAny _ _ (bo #[U0] >>= _) _ _ _;refine aa (D2.item k2 _ _ _ l2 (D2.frame _ _ _ nR fun c rW o e=>oM.extBut c o (fun q=>Z.b3 (q ▸ rW)) (xv.extBut c o (fun q=>Z.b1 (q ▸ rW)) e)) fun y hd Ia py Ib uB=>ag (ag (ag ?_)));replace uB:bh i2 hb hd:=uB;show wpAny _ _ (newTuple [x,y] >>= _) _ _ _;refine aa (g7 (ag ⟨_,rfl,?_⟩));have hsz:hd.objs.size=hp.objs.size:=by rw [uB.1,oM.1,xv.1]
  have kk:∀ c o,c≠z->c≠TO->c≠i1->c≠i2->hp.get? c=some o->hd.get? c=some o:=fun c o c1 c2 c3 c4 e=>uB.extBut _ _ c4 (oM.extBut _ _ c3 (xv.extBut _ _ c1 e))
  have G4:IsZ hd z TI TO f0 #[TR]:=uB.extBut _ _ Z.z2.symm (oM.extBut _ _ Z.z1.symm hz0);have BE:IsPair hd TO a b:=uB.extBut _ _ Z.O2 (oM.extBut _ _ Z.O1 (xv.extBut _ _ Z.zTO yC));have Ii:S1 (k1+1) hd:=D1.frame _ _ _ Fq fun c rW o e=>uB.extBut c o (fun q=>Z.a3 (q ▸ rW)) e
  have up:∀ c o,hd.get? c=some o->(hd.push { cls:=.type "tuple",data:=.seq #[x,y] }).get? c=some o:=fun c o e=>ai _ e
  have Fs:IsPair (hd.push { cls:=.type "tuple",data:=.seq #[x,y] }) hd.objs.size x y:=aD _ rfl;have yV:(hd.push { cls:=.type "tuple",data:=.seq #[x,y] }).objs.size=hd.objs.size+1:=bz ..;show Q (.ref hd.objs.size) _;rw [hsz] at Fs yV |-;exact hQ x y _ Ia _ _ _ _ px py (up _ _ G4) ⟨hf.1,_,rfl⟩ (up _ _ #[Wm]) (up _ _ BE) (D1.frame _ _ _ Ii fun c _ o e=>up c o e) (D2.frame _ _ _ Ib fun c _ o e=>up c o e) Fs yV fun c o c1 c2 c3 c4 e=>up c o (kk c o c1 c2 c3 c4 e)
theorem zmw {z TI TO i1 i2:Addr} {tU tV:List Addr} {n1 n2 k1 k2:Nat} {P1 P2:Nat->Value->Prop} {S1 S2:Nat->Heap->Prop} {f0 f1 a b:Value} {Q:Fin->Shared->Prop} (D1:Draws prog w A i1 tU n1 P1 S1) (D2:Draws prog w A i2 tV n2 P2 S2) (Z:Zap z TI TO i1 i2 tU tV)
  (hz:IsZ s.heap z TI TO f0 f1) (hf:ZF f0 f1) (xK:IsPair s.heap TI #[U1] #[U0]) (yC:IsPair s.heap TO a b) (p9:S1 k1 s.heap) (nR:S2 k2 s.heap) (l1:k1=n1\/(k1 < n1/\k2=n2))
  (hE:∀ h' tk e,(∀ c o,c≠z->c≠TO->c≠i1->c≠i2->s.heap.get? c=some o->h'.get? c=some o)->(∃ o,h'.get? e=some o/\o.cls = .type "StopIteration")->E #[UV] { s with heap:=h',toks:=tk }):wpAny #[or] A (Builtin.«zip.__next__» ⟨[.ref z],[]⟩) Q E s:=by
 obtain⟨hp,g,d,G2,os⟩:=s;have nz:∀ {h:Heap} {e:Addr} {o:Obj} {x y:Value},IsZ h z TI TO x y->h.get? e=some o->o.cls = .type "StopIteration"->e≠z:=fun h1 h2 h3 q=>by subst q; rw [h1] at h2; cases h2; simp at h3
 show wpAny _ _ (field #[UU] 2 >>= _) _ _ _; refine aa #[WD]; show wpAny _ _ (field #[UU] 3 >>= _) _ _ _;refine aa #[XT]; refine aa (dI xK rfl ?_);show wpAny _ _ (bX #[UU] >>= _) _ _ _; refine aa (zmv hz hf ?_ fun h0 hz0 xv=>?_)
 ·simp only [if_true];refine aa #[We];refine aa (bK hz #[M] fun ha Ct uP=>?_);replace Ct:IsZ ha z TI TO .ellipsis f1:=Ct;replace uP:bh z hp ha:=uP;refine aa ?_;simp only [ly,lM,dS,fP]; refine aa (aa (gk ?_)); show wpAny _ _ (bo #[U1] >>= _) _ _ _;have yW:S1 k1 ha:=D1.frame _ _ _ p9 fun c hc o e=>uP.extBut c o (fun q=>Z.a1 (q ▸ hc)) e
  rcases l1 with rfl | ⟨l1,rfl⟩
  ·refine aa (D1.done _ _ _ yW fun hb e oM ⟨oe,Ft,Ez⟩=>?_);have hzb:IsZ hb z TI TO .ellipsis f1:=oM _ _ Z.z1.symm Ct;exact bK hzb #[M] fun h3 _ xN=>hE h3 G2 e (fun c o c1 _ c3 _ x=>xN.extBut _ _ c1 (oM _ _ c3 (uP.extBut _ _ c1 x))) ⟨oe,xN.extBut _ _ (nz hzb Ft Ez) Ft,Ez⟩
  ·refine aa (D1.item k1 _ _ _ l1 yW fun x hb Fp px Fq oM=>ag ?_);replace oM:bh i1 ha hb:=oM;have yU:IsPair hb TO a b:=oM.extBut _ _ Z.O1 (uP.extBut _ _ Z.zTO yC);refine aa (dI yU rfl (aa (gL yU fun hc BD xM=>?_)));replace xM:bh TO hb hc:=xM;refine aa (jq (ag (aa (aa (gk ?_))))); show wpAny _ _ (bo #[U0] >>= _) _ _ _;refine aa (D2.done _ _ _ (D2.frame _ _ _ nR fun c rW o e=>xM.extBut c o (fun q=>Z.b2 (q ▸ rW)) (oM.extBut c o (fun q=>Z.b3 (q ▸ rW)) (uP.extBut c o (fun q=>Z.b1 (q ▸ rW)) e))) fun hd e uB ⟨oe,Ft,Ez⟩=>?_);have G4:IsZ hd z TI TO .ellipsis f1:=uB _ _ Z.z2.symm #[T6];exact bK G4 #[M] fun h3 _ xN=>hE h3 Fp e (fun c o c1 c2 c3 c4 x=>xN.extBut _ _ c1 (uB _ _ c4 (xM.extBut _ _ c2 (oM.extBut _ _ c3 (uP.extBut _ _ c1 x))))) ⟨oe,xN.extBut _ _ (nz G4 Ft Ez) Ft,Ez⟩
 ·simp only [ba,if_false]; replace xv:bh z hp h0:=xv;rw [show (#[aN i1,aN i2]:Array Value) = [aN i1,aN i2].toArray from rfl];simp only [kJ,dS,fP];refine aa (aa (aa (bQ ?_))); show wpAny _ _ (bo #[U1] >>= _) _ _ _;have yW:S1 k1 h0:=D1.frame _ _ _ p9 fun c hc o e=>xv.extBut c o (fun q=>Z.a1 (q ▸ hc)) e
  rcases l1 with rfl | ⟨l1,rfl⟩
  ·exact aa (D1.done _ _ _ yW fun hb e oM he=>hE hb G2 e (fun c o c1 _ c3 _ x=>oM _ _ c3 (xv.extBut _ _ c1 x)) he)
  ·refine aa (D1.item k1 _ _ _ l1 yW fun x hb Fp px Fq oM=>ag (ag ?_));replace oM:bh i1 h0 hb:=oM;refine aa (aa (bQ ?_)); show wpAny _ _ (bo #[U0] >>= _) _ _ _;exact aa (D2.done _ _ _ (D2.frame _ _ _ nR fun c rW o e=>oM.extBut c o (fun q=>Z.b3 (q ▸ rW)) (xv.extBut c o (fun q=>Z.b1 (q ▸ rW)) e)) fun hd e uB he=>hE hd Fp e (fun c o c1 _ c3 c4 x=>uB _ _ c4 (oM.extBut _ _ c3 (xv.extBut _ _ c1 x))) he)
theorem znP {e z TI TO i1 i2:Addr} {tU tV:List Addr} {n1 n2 i:Nat} {P1 P2:Nat->Value->Prop} {S1 S2:Nat->Heap->Prop} {f0 f1 a b old:Value} {Q:Option Value->Shared->Prop} (D1:Draws prog w A.in1.in1 i1 tU n1 P1 S1) (D2:Draws prog w A.in1.in1 i2 tV n2 P2 S2) (Z:Zap z TI TO i1 i2 tU tV)
  (he:IsEnum s.heap e z i old) (ez:e≠z) (eT:e≠TI) (eO:e≠TO) (e1:e≠i1) (e2:e≠i2) (ef1:e∉tU) (ef2:e∉tV)
  (hz:IsZ s.heap z TI TO f0 f1) (hf:ZF f0 f1) (xK:IsPair s.heap TI #[U1] #[U0]) (yC:IsPair s.heap TO a b) (p9:S1 i s.heap) (nR:S2 i s.heap) (l1:i < n1) (l2:i < n2)
  (hQ:∀ x y h' tk g0 g1 a' b',P1 i x->P2 i y->IsEnumOut h' e z ((i:Int)+1) #[t0] #[ul]->IsZ h' z TI TO g0 g1->ZF g0 g1->IsPair h' TI #[U1] #[U0]->IsPair h' TO a' b'->S1 (i+1) h'->S2 (i+1) h'->IsPair h' s.heap.objs.size x y ->
   IsPair h' #[ul] (.int i tk) #[t0]->h'.objs.size=s.heap.objs.size+2 ->
   (∀ c o,c≠e->c≠z->c≠TO->c≠i1->c≠i2->s.heap.get? c=some o->h'.get? c=some o)->Q (some (.ref #[ul])) { s with heap:=h',toks:=tk+1 }):wpAny #[or] A (pyNext #[UV]) Q E s:=by
 have hT:s.TypeIs #[UV] "enumerate":=⟨_,he,rfl⟩; have yX:s.TypeIs #[UU] "zip":=⟨_,hz,rfl⟩;unfold pyNext;refine aa (cp (bv (name:=bT "__next__") hT fc (br fc hT jr ?_ (jb _))));obtain⟨hp,g,d,G2,os⟩:=s;show wpAny _ _ (field #[UV] 2 >>= _) _ _ _; refine aa #[Xi];unfold bo; refine aa (bv (name:=bT "__next__") yX dE #[TK]);refine zjG D1 D2 Z hz hf xK yC p9 nR l1 l2 fun x y h1 tk g0 g1 a' b' px py sk Fu Dk Dq Dr Ds uQ Du kk=>ag ?_
 have Cv:IsEnum h1 e z i old:=kk _ _ ez eO e1 e2 he;have elt:e < hp.objs.size:=aG he;show wpAny _ _ (field #[UV] 3 >>= _) _ _ ⟨h1,g,d,tk,os⟩; refine aa (bF Cv rfl (x:=rawInt i) rfl ?_);show wpAny _ _ (field #[UV] 4 >>= _) _ _ ⟨h1,g,d,tk,os⟩; refine aa (bF Cv rfl (x:=.none) rfl ?_);show wpAny _ _ (mkInt i >>= _) _ _ ⟨h1,g,d,tk,os⟩; refine aa (wpAny_mkInt ?_);show wpAny _ _ (setField #[UV] 3 (rawInt ((i:Int)+1)) >>= _) _ _ ⟨h1,g,d,tk+1,os⟩; refine aa (bK Cv #[M] fun h2 Ij o7=>?_);replace o7:bh e h1 h2:=o7;replace Ij:IsEnum h2 e z ((i:Int)+1) old:=Ij;show wpAny _ _ (setField #[UV] 4 .none >>= _) _ _ ⟨h2,g,d,tk+1,os⟩; refine aa (bK Ij #[M] fun h3 Cw xN=>?_);replace xN:bh e h2 h3:=xN;replace Cw:IsEnum h3 e z ((i:Int)+1) old:=Cw;show wpAny _ _ (newTuple [.int i tk,.ref hp.objs.size] >>= _) _ _ ⟨h3,g,d,tk+1,os⟩; refine aa (g7 ?_);have z3:h3.objs.size=hp.objs.size+1:=by rw [xN.1,o7.1]; exact Du
 rw [z3];have G5:IsEnum (h3.push { cls:=.type "tuple",data:=.seq #[RL] }) e z ((i:Int)+1) old:=ai _ Cw;have Ik:=aD h3 (o:={ cls:=.type "tuple",data:=.seq #[RL] }) rfl;rw [z3] at Ik;have k4:∀ c o,c≠e->h1.get? c=some o->(h3.push { cls:=.type "tuple",data:=.seq #[RL] }).get? c=some o:=fun c o ce x=>ai _ (xN.extBut c o ce (o7.extBut c o ce x))
 have z4:(h3.push { cls:=.type "tuple",data:=.seq #[RL] }).objs.size=hp.objs.size+2:=by rw [bz,z3]
 generalize h3.push { cls:=.type "tuple",data:=.seq #[RL] }=h4 at G5 Ik k4 z4 |-;show wpAny _ _ (bX #[UV] >>= _) _ _ ⟨h4,g,d,tk+1,os⟩;refine aa ?_;unfold bX; refine aa (bF G5 rfl (x:=.none) rfl (ag ?_));simp only [if_true]; refine aa (cj (aa (bF G5 rfl (x:=old) rfl ?_)));refine aa (bK G5 #[M] fun h5 EA G6=>?_);replace G6:bh e h4 h5:=G6;replace EA:IsEnum h5 e z ((i:Int)+1) #[Wk]:=EA;show wpAny _ _ (cS #[UV] (.ref (hp.objs.size+1)) >>= _) _ _ ⟨h5,g,d,tk+1,os⟩;refine aa ?_;unfold cS; refine aa (bK EA #[M] fun h6 Il G7=>?_);replace G7:bh e h5 h6:=G7;replace Il:IsEnumOut h6 e z ((i:Int)+1) #[Wk] (hp.objs.size+1):=Il;refine bK Il #[M] fun h7 Im Cu=>?_
 replace Cu:bh e h6 h7:=Cu;replace Im:IsEnumOut h7 e z ((i:Int)+1) #[Wk] (hp.objs.size+1):=Im;have up:∀ c o,c≠e->h4.get? c=some o->h7.get? c=some o:=fun c o ce x=>Cu.extBut c o ce (G7.extBut c o ce (G6.extBut c o ce x))
 have z7:h7.objs.size=hp.objs.size+2:=by rw [Cu.1,G7.1,G6.1,z4]
 refine aa (jq (ag ⟨_,rfl,ag ?_⟩));exact hQ x y h7 tk g0 g1 a' b' px py Im (up _ _ ez.symm (k4 _ _ ez.symm sk)) Fu (up _ _ eT.symm (k4 _ _ eT.symm Dk)) (up _ _ eO.symm (k4 _ _ eO.symm Dq))
  (D1.frame _ _ _ Dr fun c hc o x=>up c o (fun q=>ef1 (q ▸ hc)) (k4 c o (fun q=>ef1 (q ▸ hc)) x)) (D2.frame _ _ _ Ds fun c hc o x=>up c o (fun q=>ef2 (q ▸ hc)) (k4 c o (fun q=>ef2 (q ▸ hc)) x))
  (up _ _ (eE elt) (k4 _ _ (eE elt) uQ)) (up _ _ (eE (c7 elt)) Ik) z7 fun c o ce cz cO c1 c2 x=>up c o ce (k4 c o ce (kk c o cz cO c1 c2 x))
theorem zpj {e z TI TO i1 i2:Addr} {tU tV:List Addr} {n1 n2 k:Nat} {i:Int} {P1 P2:Nat->Value->Prop} {S1 S2:Nat->Heap->Prop} {f0 f1 a b old:Value} {Q:Option Value->Shared->Prop} (D1:Draws prog w A.in1.in1 i1 tU n1 P1 S1) (D2:Draws prog w A.in1.in1 i2 tV n2 P2 S2) (Z:Zap z TI TO i1 i2 tU tV)
  (he:IsEnum s.heap e z i old) (hz:IsZ s.heap z TI TO f0 f1) (hf:ZF f0 f1) (xK:IsPair s.heap TI #[U1] #[U0]) (yC:IsPair s.heap TO a b) (p9:S1 k s.heap) (nR:S2 k s.heap) (l1:k=n1\/(k < n1/\k=n2))
  (hQ:∀ h' tk,(∀ c o,c≠z->c≠TO->c≠i1->c≠i2->s.heap.get? c=some o->h'.get? c=some o)->Q none { s with heap:=h',toks:=tk }):wpAny #[or] A (pyNext #[UV]) Q E s:=by
 have hT:s.TypeIs #[UV] "enumerate":=⟨_,he,rfl⟩; have yX:s.TypeIs #[UU] "zip":=⟨_,hz,rfl⟩;unfold pyNext;refine aa (cp (bv (name:=bT "__next__") hT fc (br fc hT jr ?_ (jb _))));show wpAny _ _ (field #[UV] 2 >>= _) _ _ _; refine aa #[Xi];unfold bo; refine aa (bv (name:=bT "__next__") yX dE #[TK]);refine zmw D1 D2 Z hz hf xK yC p9 nR l1 fun h' tk x kk ⟨o,ho,hc⟩=>?_
 exact aa (dH (T:="StopIteration") (b:=true) ⟨o,ho,hc⟩ fO (ag (hQ h' tk kk)))
end
noncomputable def zgR (x y:Value):Obj:={ cls:=.type "tuple",data:=.seq #[x,y] }
noncomputable def zql (a b:Addr):Obj:={ cls:=.type "zip",data:=.fields #[.none,.bool false,.bool false,.ref a,.ref b] }
noncomputable def itO (C:String) (l:Addr):Obj:={ cls:=.type C,data:=.fields #[.ref l,.int 0 0] }
abbrev zt2 (C:String) (h:Heap) (l1 l2:Addr):Heap:=#[X9].push (itO C l2)
abbrev zt4 (C:String) (h:Heap) (l1 l2:Addr):Heap:=((zt2 C h l1 l2).push (zgR (.ref h.objs.size) (.ref #[X9].objs.size))).push (zgR .none .none)
abbrev zt5 (C:String) (h:Heap) (l1 l2:Addr):Heap:=(zt4 C h l1 l2).push (zql (zt2 C h l1 l2).objs.size ((zt2 C h l1 l2).push (zgR (.ref h.objs.size) (.ref #[X9].objs.size))).objs.size)
noncomputable def ItC (C:String) (h:Heap) (a l:Addr) (i:Nat):Prop:=∃ o,h.get? a=some o/\o.cls = .type C/\o.data = .fields #[.ref l,.int i 0]
structure SkH (C:String) (Is:Heap->Addr->Array Value->Prop):Prop where
 it:∀ {prog:Program} {w:World} {A:Around} {E:Value->Shared->Prop} {s:Shared} {l:Addr} {items:Array Value} {Q:Value->Shared->Prop},Is s.heap l items->Q #[t0] { s with heap:=s.heap.push (itO C l) }->wpAny #[or] A (pyIter #[SX]) Q E s
 pu:∀ {h:Heap} {l:Addr} {items:Array Value} (o:Obj),Is h l items->Is (h.push o) l items
 dr:∀ {prog:Program} {w:World} {A:Around},A.handled=none->∀ (it l:Addr),l≠it->∀ (items:Array Value),Draws prog w A it [it,l] items.size (fun i v=>items[i]? = some v) fun i h=>ItC C h it l i/\Is h l items
theorem skL:SkH "list_iterator" Heap.IsList:=⟨fun h q=>iC h q,fun o h=>Heap.IsList.push h o,fun hh it l ne items=>lN hh it l ne items⟩
theorem zhK {C:String} {Is:Heap->Addr->Array Value->Prop} (S:SkH C Is) (l1 l2:Addr) (xs ys:Array Value):Meets (Builtin.«zip.__new__» ⟨[.type "zip",.ref l1,.ref l2],[]⟩) (fun _ R s=>s.heap.IsTuple l1 xs/\Is s.heap l2 ys/\R (.ok (.ret (.ref #[VV].objs.size))) { s with heap:=zt5 C s.heap l1 l2 }) :=
 .of_wp fun prog w A R s h=>by
  obtain⟨hp,g,d,tk,os⟩:=s; obtain⟨vc,qX,h⟩:=h; have sv:=sub_zip;have EB:Heap.IsTuple (lg ⟨hp,g,d,tk,os⟩) l1 xs:=vc;have EC:Is (lg ⟨hp.push { cls:=.type "tuple_iterator",data:=.fields #[.ref l1,.int 0 0] },g,d,tk,os⟩) l2 ys:=S.pu _ qX
  wp_walk using kH EB,S.it EC
  exact⟨_,rfl,h⟩
section
variable {prog:Program} {w:World} {A:Around} {E:Value->Shared->Prop} {s:Shared}
theorem zfj {C:String} {Is:Heap->Addr->Array Value->Prop} (S:SkH C Is) {l1 l2:Addr} {xs ys:Array Value} {Q:Value->Shared->Prop} (vc:s.heap.IsTuple l1 xs) (qX:Is s.heap l2 ys)
  (h:∀ h' n,n=s.heap.objs.size->IsZ h' (n+4) (n+2) (n+3) .none #[XO]->IsPair h' (n+2) (.ref n) #[X3]->IsPair h' (n+3) .none .none->h'.IsTupleIter n l1 0->ItC C h' (n+1) l2 0->h'.objs.size=n+5 ->
   (∀ c o,s.heap.get? c=some o->h'.get? c=some o)->Q (.ref (n+4)) { s with heap:=h' }):wpAny #[or] A (call (.type "zip") [.ref l1,.ref l2]) Q E s:=by
 refine kG F.called_zip #[D] (F.typeCall_zip_2 _ _) (F.newCall_zip_2 _ _) (fun obj=>F.args_object_init_3 obj _ _) F.entry_zip_new (zhK S l1 l2 xs ys) ⟨vc,qX,?_⟩;have z1:#[Rp].objs.size=s.heap.objs.size+1:=bz ..;have z2:#[RE].objs.size=s.heap.objs.size+2:=by rw [bz,z1]
 have z3:(#[RE].push (zgR #[t0] (.ref #[Rp].objs.size))).objs.size=s.heap.objs.size+3:=by rw [bz,z2]
 have z4:#[VV].objs.size=s.heap.objs.size+4:=by rw [bz,z3]
 have g5:=aD #[VV] (o:=zql #[RE].objs.size (#[RE].push (zgR #[t0] (.ref #[Rp].objs.size))).objs.size) rfl;have g4:#[RD].get? _=some _:=ai _ (aD (#[RE].push (zgR #[t0] (.ref #[Rp].objs.size))) (o:=zgR .none .none) rfl);have g3:#[RD].get? _=some _:=ai _ (ai _ (aD #[RE] (o:=zgR #[t0] (.ref #[Rp].objs.size)) rfl));have g2:#[RD].get? _=some _:=ai _ (ai _ (ai _ (aD #[Rp] (o:=itO C l2) rfl)));have g1:#[RD].get? s.heap.objs.size=some (zcR l1):=ai _ (ai _ (ai _ (ai _ (aD _ rfl))));have z5:#[RD].objs.size=s.heap.objs.size+5:=by rw [bz,z4]
 have k5:∀ c o,s.heap.get? c=some o->#[RD].get? c=some o:=fun c o x=>ai _ (ai _ (ai _ (ai _ (ai _ x))))
 show _/\_;rw [z4] at g5 |-;rw [z3] at g4;rw [z2] at g3;rw [z1] at g2;refine⟨⟨_,g5,rfl⟩,h _ _ rfl ?_ ?_ g4 ⟨_,g1,rfl,rfl⟩ ⟨_,g2,rfl,rfl⟩ z5 k5⟩
 ·have:IsZ #[RD] (s.heap.objs.size+4) #[RE].objs.size (#[RE].push (zgR #[t0] (.ref #[Rp].objs.size))).objs.size .none #[XO]:=g5;rw [z2,z3] at this;exact this
 ·have:IsPair #[RD] (s.heap.objs.size+2) #[t0] (.ref #[Rp].objs.size):=g3;rw [z1] at this;exact this
theorem ziZ {l1 l2:Addr} {xs ys:Array Value} {Q:Value->Shared->Prop} (vc:s.heap.IsTuple l1 xs) (qX:s.heap.IsList l2 ys)
  (h:∀ h' n,n=s.heap.objs.size->IsZ h' (n+4) (n+2) (n+3) .none #[XO]->IsPair h' (n+2) (.ref n) #[X3]->IsPair h' (n+3) .none .none->h'.IsTupleIter n l1 0->h'.IsListIter (n+1) l2 0->h'.objs.size=n+5 ->
   (∀ c o,s.heap.get? c=some o->h'.get? c=some o)->Q (.ref (n+4)) { s with heap:=h' }):wpAny #[or] A (call (.type "zip") [.ref l1,.ref l2]) Q E s:=zfj skL vc qX h
end
open AutoSeq1 (wpAny_loadPart') in
theorem zhL (z TI TO:Addr) (f0:Value):Meets (Builtin.«enumerate.__new__» ⟨[.type "enumerate",.ref z],[]⟩) (fun _ R s=>IsZip s.heap z TI TO f0/\R (.ok (.ret #[t0])) { s with heap:=s.heap.push (zml z) }) :=
 .of_wp fun prog w A R s h=>by
  obtain⟨hp,g,d,tk,os⟩:=s; obtain⟨hz,h⟩:=h;have hZ:IsZip (lg ⟨hp,g,d,tk,os⟩) z TI TO f0:=hz;have sv:=sub_enumerate; wp_walk using jh hz;refine wpAny_stack_any fun st=>ag ?_; split
  ·rename_i c _ _ _ _ _; cases (c == fN "enumerate") <;> (wp_walk using jh hz,gq hZ; exact⟨_,rfl,h⟩)
  ·wp_walk using jh hz,gq hZ; exact⟨_,rfl,h⟩
theorem zi0 {prog:Program} {w:World} {A:Around} {E:Value->Shared->Prop} {s:Shared} {z TI TO:Addr} {f0:Value} {Q:Value->Shared->Prop} (hz:IsZip s.heap z TI TO f0)
  (h:∀ h',IsEnum h' s.heap.objs.size z 0 .none->h'.objs.size=s.heap.objs.size+1->(∀ b o,s.heap.get? b=some o->h'.get? b=some o)->Q #[t0] { s with heap:=h' }):wpAny #[or] A (call (.type "enumerate") [.ref z]) Q E s:=by
 refine kG F.called_enumerate #[D] (F.typeCall_enumerate_1 _) (F.newCall_enumerate_1 _) (fun obj=>jO obj _) F.entry_enumerate_new (zhL z TI TO f0) ⟨hz,?_⟩;have he:=aD s.heap (o:=zml z) rfl;exact⟨⟨_,he,rfl⟩,h _ he (bz ..) fun b o x=>ai _ x⟩
end PySem
end
section
namespace L2
open PySem PySem.Spec PyProof.Rows
variable {K:af} {j k:Nat} {pos:Pos} {w:World}
noncomputable def znQ (uy uz:Hp->Addr->List V->Prop) (a b:Addr):It :=
 ⟨fun i H=>∃ xs ys x y,uy H a xs/\uz H b ys/\xs[i]? = some x/\ys[i]? = some y,
  fun i H x H'=>∃ T1 T2 u v,H T1=none/\H T2=none/\T1≠T2/\x = .ref T2/\H'=mR (mR H T1 (.tup [u,v])) T2 (.tup [.int i,.ref T1])/\(∀ xs,uy H a xs->xs[i]? = some u)/\∀ ys,uz H b ys->ys[i]? = some v,
  fun i H=>∃ xs ys,uy H a xs/\uz H b ys/\xs.length=i⟩
abbrev zfk (n:Nat):List Addr:=[n+5,n+4,n+2,n+3,n,n+1]
abbrev zpk (n a b:Nat) (i:Nat) (h:Heap):Prop:=(∃ old,IsEnum h (n+5) (n+4) i old)/\(∃ f0 f1,IsZ h (n+4) (n+2) (n+3) f0 f1/\ZF f0 f1)/\IsPair h (n+2) (.ref n) #[X3]/\(∃ u v,IsPair h (n+3) u v)/\h.IsTupleIter n a i/\h.IsListIter (n+1) b i
theorem nq {x y:Nat} (h:x≠y):@Ne Addr x y:=h
theorem nl {x y:Nat} (h:x < y):@LT.lt Nat _ x y:=h
theorem nm2 {c x y:Nat} (h1:c≠x) (h2:c≠y):¬ @Membership.mem Addr (List Addr) _ [x,y] c:=fun h=>by
 rcases az.mp h with e | e
 ·exact h1 e
 ·exact h2 (aS.mp e)
theorem zeQ {n a b:Nat} (ha:a < n) (hb:b < n):Zap (n+4) (n+2) (n+3) n (n+1) [n,a] [n+1,b] :=
 ⟨nq #[O],nq #[O],nq #[O],nq #[O],nq #[O],nq #[O],nq #[O],nq #[O],nq #[O],nq #[O],nm2 #[O] #[O],nm2 #[O] #[O],nm2 #[O] #[O],nm2 #[O] #[O],nm2 #[O] #[O],nm2 #[O] #[O]⟩
theorem znR {P:Program} {es:List Expr} (a b n:Nat) (ha:a < n) (hb:b < n):Turn P w K #[Uj] (znQ (m7 K) (mS K) a b) (zfk n) (n+5) (zpk n a b) where
 mem:=by simp
 obj:=fun i h st c hc=>by
  obtain⟨⟨old,h0⟩,⟨f0,f1,h1,_⟩,h2,⟨u,v,h3⟩,⟨o4,e4,_,d4⟩,⟨o5,e5,_,d5⟩⟩:=st;simp only [zfk,az,bi,or_false] at hc;rcases hc with z | z | z | z | z | z <;> subst z
  ·exact⟨_,h0,fun v z=>by cases z⟩
  ·exact⟨_,h1,fun v z=>by cases z⟩
  ·exact⟨_,h2,fun v z=>by cases z⟩
  ·exact⟨_,h3,fun v z=>by cases z⟩
  ·exact⟨_,e4,fun v z=>by rw [d4] at z; cases z⟩
  ·exact⟨_,e5,fun v z=>by rw [d5] at z; cases z⟩
 keep:=fun i h h' st kk=>by
  obtain⟨⟨old,h0⟩,⟨f0,f1,h1,hf⟩,h2,⟨u,v,h3⟩,h4,h5⟩:=st;exact⟨⟨old,kk _ #[M] _ h0⟩,⟨f0,f1,kk _ #[M] _ h1,hf⟩,kk _ #[M] _ h2,#[VH],h4.at fun o eo=>kk _ #[M] o eo,h5.at fun o eo=>kk _ #[M] o eo⟩
 item:=by
  intro X hP hw hK hc i mO s σ H E I hf st hg;subst hP hw hK;obtain⟨xs,ys,x,y,uf,rl,hx,hy⟩:=hg;obtain⟨⟨old,h0⟩,⟨f0,f1,h1,BG⟩,h2,⟨u0,v0,h3⟩,h4,h5⟩:=st;obtain⟨oE,xu,p1,sk⟩:=I.tuple uf;obtain⟨nS,xJ,p2,yS⟩:=I.list rl;obtain⟨u,hu,ru⟩:=xu.get hx;obtain⟨v,hv,rv⟩:=xJ.get hy;have yD:n+5 < s.heap.objs.size:=aG h0;have hh:X.A.in1.in1.handled=none:=by simp [I.ok.hd hc]
  have uN:i < oE.toArray.size:=by have:=(aj.mp hu).1; simpa using this
  have uO:i < nS.toArray.size:=by have:=(aj.mp hv).1; simpa using this
  refine znP #[RB] #[Yj] (zeQ ha hb) h0 #[TH] #[TH] #[TH] #[TH] #[TH] (nm2 #[O] #[O]) (nm2 #[O] #[O]) h1 BG h2 h3 ⟨h4,(show s.heap.IsTuple a oE.toArray from p1)⟩ ⟨h5,p2.isList⟩ uN uO
   fun x' y' h' tk g0 g1 a' b' px py eo ez Io e2 e3 t4 t5 pp pe hsz kk=>?_
  have eu:x'=u:=by
   have e1:oE[i]? = some x':=by simpa using px
   rw [hu] at e1; exact (aO e1).symm
  have ev:y'=v:=by
   have e1:nS[i]? = some y':=by simpa using py
   rw [hv] at e1; exact (aO e1).symm
  subst eu ev;have ch:∀ c∈[n+5,n+4,n+3,n,n+1],c∈zfk n:=fun c nh=>by
   simp only [zfk,az,bi,or_false] at nh |-;rcases nh with z | z | z | z | z <;> subst z <;> simp
  have k1:∀ c o,c∉[n+5,n+4,n+3,n,n+1]->s.heap.get? c=some o->h'.get? c=some o:=fun c o nh eo=>by
   simp only [az,bi,or_false,not_or] at nh;exact kk c o nh.1 nh.2.1 nh.2.2.1 nh.2.2.2.1 nh.2.2.2.2 eo
  have Fn:∀ c∈[n+5,n+4,n+3,n,n+1],∃ o,h'.get? c=some o:=fun c nh=>by
   simp only [az,bi,or_false] at nh;rcases nh with z | z | z | z | z <;> subst z
   ·exact⟨_,eo⟩
   ·exact⟨_,ez⟩
   ·exact⟨_,e3⟩
   ·obtain⟨o,e,_⟩:=t4.1; exact⟨o,e⟩
   ·obtain⟨o,e,_⟩:=t5.1; exact⟨o,e⟩
  have I1:Inv X mO σ (mR H s.heap.objs.size (.tup [x,y])) { s with heap:=h',toks:=tk+1 } :=
   I.Mt k1 (fun c nh=>hf c (ch c nh)) Fn (ah _) #[VL]
  have uK:H #[ul]=none:=I.hok.fresh (gc _);have Ip:mR H s.heap.objs.size (.tup [x,y]) #[ul]=none:=by rw [zg (gp _)]; exact uK
  obtain⟨_,a1,a2,a3,a4,a5⟩:=I.NP (H':=H) (gc s.heap.objs.size) uK;have I1':Inv X mO σ (mR (mR H s.heap.objs.size (.tup [x,y])) #[ul] (.tup [.int i,.ref s.heap.objs.size])) { s with heap:=h',toks:=tk+1 } :=
   I1.Pd Ip (bq I.sz (gc _)) (cX a1) a4 a5 ⟨zbH,_,.cons ⟨tk,rfl⟩ #[VG],zcB pe⟩
  refine⟨_,rfl,wpAny_letOwnedTupleGo_enum eo fun Bz BC qd=>?_⟩;have fr:∀ c∈zfk n,mR (mR H s.heap.objs.size (.tup [x,y])) #[ul] (.tup [.int i,.ref s.heap.objs.size]) c=none:=fun c nh=>by
   have nC:c < s.heap.objs.size:=by
    simp only [zfk,az,bi,or_false] at nh;rcases nh with z | z | z | z | z | z <;> subst z <;> exact nl #[O]
   rw [zg (aQ (c7 nC)),zg (aQ nC)];exact (hf c nh).1
  have I2:Inv X mO σ (mR (mR H s.heap.objs.size (.tup [x,y])) #[ul] (.tup [.int i,.ref s.heap.objs.size])) { s with heap:=Bz,toks:=tk+1 } :=
   Inv.Na (s:={ s with heap:=h',toks:=tk+1 }) (ch:=[n+5]) (t':=tk+1) I1' (fun c o nh eo=>qd.extBut c o (by simpa using nh) eo) (fun c nh=>by
    have z:c=n+5:=by simpa using nh
    subst z;exact⟨fr _ #[M],(hf _ #[M]).2⟩) (fun c nh=>by
    have z:c=n+5:=by simpa using nh
    subst z;exact⟨_,BC⟩)
  have up:∀ c o,c≠n+5->h'.get? c=some o->Bz.get? c=some o:=fun c o nh e=>qd.extBut c o nh e
  exact⟨.ref #[ul],_,I2,rfl,⟨_,_,x,y,I.fresh,uK,aQ (fm _),rfl,rfl,fun zs hz=>by rw [I.LF hz uf]; exact hx,fun zs hz=>by rw [I.Li hz rl]; exact hy⟩,
   ⟨⟨_,by simpa using BC⟩,⟨g0,g1,up _ _ #[TH] ez,Io⟩,up _ _ #[TH] e2,⟨_,_,up _ _ #[TH] e3⟩,t4.1.at fun o e=>up _ o #[TH] e,t5.1.at fun o e=>up _ o #[TH] e⟩,fr⟩
 done:=by
  intro X hP hw hK hc i mO s σ H E I hf st hg;subst hP hw hK;obtain⟨xs,ys,uf,rl,hx⟩:=hg;obtain⟨⟨old,h0⟩,⟨f0,f1,h1,BG⟩,h2,⟨u0,v0,h3⟩,h4,h5⟩:=st;obtain⟨oE,xu,p1,sk⟩:=I.tuple uf;obtain⟨nS,xJ,p2,yS⟩:=I.list rl;have hh:X.A.in1.in1.handled=none:=by simp [I.ok.hd hc]
  have vc:=xu.length;refine zpj #[RB] #[Yj] (zeQ ha hb) h0 h1 BG h2 h3 ⟨h4,(show s.heap.IsTuple a oE.toArray from p1)⟩ ⟨h5,p2.isList⟩ (.inl (by rw [au]; lia)) fun h' tk kk=>#[Vc]
  have sub:∀ c∈[n+4,n+3,n,n+1],c∈zfk n:=fun c nh=>by
   simp only [zfk,az,bi,or_false] at nh |-;rcases nh with z | z | z | z <;> subst z <;> simp
  have k1:∀ c o,c∉[n+4,n+3,n,n+1]->s.heap.get? c=some o->h'.get? c=some o:=fun c o nh e=>by
   simp only [az,bi,or_false,not_or] at nh;exact kk c o nh.1 nh.2.1 nh.2.2.1 nh.2.2.2 e
  have xp:∀ d u',H d=some u'->d∉[n+4,n+3,n,n+1]:=fun d u' e' hd=>by rw [(hf d (sub d hd)).1] at e'; cases e'
  refine I.step (g':=s.gens) (d':=s.drawn) (t':=tk) (ch:=[n+4,n+3,n,n+1]) (fun c nh=>?_) #[WC] #[Vb] #[T7]
   (fun c o oK e=>⟨o,k1 c o oK e⟩) #[UW] #[UX] (fun c ps e=>⟨#[],by rw [e]; simp⟩) #[VD] (fun c u e=>?_) I.bare
  ·obtain⟨_,a1,_,a3,a4,a5⟩:=hf c (sub c nh);exact⟨a3,a1,a4,a5⟩
  ·obtain⟨o,es',ep,ho,r⟩:=hm;exact⟨o,es',ep,k1 _ o (fun z=>(hf _ (sub _ z)).2.1 rfl) ho,r⟩
  ·refine (I.hok c u e).NH #[XS] #[UH] fun _ _ q=>q
   rcases hd with z | z
   ·rw [z]; exact xp c u e
   ·exact xp d _ z
 self:=fun _ _ _ _ _ st h=>by
  obtain⟨⟨old,he⟩,_⟩:=st;exact wpAny_pyIter_enum he h
noncomputable def iEZ (uy uz:Hp->Addr->List V->Prop) (ta:TA):TI:=fun σ H R=>ta σ H fun vs H1=>∃ a b xs ys,vs = [.ref a,.ref b]/\uy H1 a xs/\uz H1 b ys/\R (znQ uy uz a b) H1
theorem zi1 {X:Cx} {es:List Expr} {k:Nat} {tY p p2 pos qe:Pos} {a b:Expr} {ta:TA} (hg:Gl X "enumerate") (hm:X.mg "enumerate" = none) (Fv:Gl X "zip") (wo:X.mg "zip" = none) (ha:PA X [a,b] ta) (hs:starEach [a,b] X.env = [#[R7],#[Re]]:=by rfl) (o7:starEach [b] X.env = [#[Re]]:=by rfl)
  (xN:starEach [.Call (.Name "zip" p2) [a,b] [] qe] X.env = [(false,eval (.Call (.Name "zip" p2) [a,b] [] qe) X.env)]:=by rfl) :
  PI X #[UK] (.Call (.Name "enumerate" p) [.Call (.Name "zip" p2) [a,b] [] qe] [] pos) (iEZ (m7 X.K) (mS X.K) ta):=by
 intro mO s σ H R I h;refine Call_ (zcc I hg hm boot_enumerate (bS ?_ xN rfl));rw [xN];show wpAny _ _ (spliced ((false,eval (.Call (.Name "zip" p2) [a,b] [] qe) X.env) :: [])) _ _ s;refine ku ?_;refine Call_ (zcc I Fv wo boot_zip (bS (thn (ha qe mO s σ H _ I h) fun us s1 ⟨vs,H1,I1,r1,q1⟩=>?_) (by rw [hs,o7]) (by rw [o7]; rfl)));obtain⟨l1,l2,xs,ys,e,uf,rl,q⟩:=q1;subst e;cases r1 with
 | cons r rr =>
  cases rr with
  | cons r' rr =>
   cases rr;cases r;cases r';obtain⟨oE,xu,Cs,sk⟩:=I1.tuple uf;obtain⟨nS,xJ,Df,yS⟩:=I1.list rl;have uN:l1 < s1.heap.objs.size:=by obtain⟨_,e,_⟩:=Cs; exact aG e
   have uO:l2 < s1.heap.objs.size:=by obtain⟨_,_,e,_⟩:=Df; exact aG e
   refine ziZ (show s1.heap.IsTuple l1 oE.toArray from Cs) Df.isList fun h' n hn b1 b2 b3 b4 b5 b6 kk=>?_
   refine kS ?_;refine zi0 b1 fun h2 he hsz ED=>?_
   have I2:Inv X mO σ H1 { s1 with heap:=h2 }:=I1.kept (t':=s1.toks) fun c o e=>ED c o (kk c o e)
   refine wpAny_pyIter_enum he ?_; have e5:h'.objs.size=n+5:=b6;have BB:IsEnum h2 (n+5) (n+4) 0 .none:=by rw [<- e5]; exact he
   refine⟨_,zfk n,zpk n l1 l2,znQ (m7 X.K) (mS X.K) l1 l2,H1,rfl,I2,?_,⟨⟨_,BB⟩,⟨_,_,ED _ _ b1,.inl rfl,_,rfl⟩,ED _ _ b2,⟨_,_,ED _ _ b3⟩,b4.at fun o e=>ED _ o e,b5.at fun o e=>ED _ o e⟩,fun c hc=>?_,q⟩
   ·show Turn X.prog X.w X.K #[UK] (znQ (m7 X.K) (mS X.K) l1 l2) (zfk n) h'.objs.size (zpk n l1 l2);rw [e5];exact znR l1 l2 n (by rw [hn]; exact uN) (by rw [hn]; exact uO)
   ·have hle:s1.heap.objs.size<=c:=by
     simp only [zfk,az,bi,or_false] at hc;rw [<- hn];rcases hc with z | z | z | z | z | z <;> subst z
     all_goals first | exact iP _ _ | exact ah _
    exact I1.NP hle #[WY]
theorem zi2 {i:Nat}:∀ (x:V) (σ:St) (H:Hp) (Q Q':St->Hp->Prop),(∀ σ' H',Q σ' H'->Q' σ' H')->ziA K 2 #[Uk] x σ H Q->ziA K 2 #[Uk] x σ H Q':=fun x σ H Q Q' hq ⟨a,xs,e1,h1,h2,v,r,e3,v2,r2,e4,e5,h⟩=>⟨a,xs,e1,h1,h2,v,r,e3,v2,r2,e4,e5,hq _ _ h⟩
end L2
end
section
namespace My
open PySem L2 PyProof.Rows
variable {H H':Hp} {j:Nat} {nr pl:List Int} {rw:List #[EQ]} {te:TE} {ts:TT} {z:Int}
section
variable {K:af}
inductive Qg (H:Hp):V->Prop where
 | non:Qg H .non
 | bl (b:Bool):Qg H (.bl b)
 | int (i:Int):Qg H #[Xk]
 | str (x:Str):Qg H (.str x)
 | lst {a:Addr} {xs:List V} (e:H a=some #[Sr]):Qg H #[RC]
 | tup {a:Addr} {xs:List V} (e:H a=some #[Sc]):Qg H #[RC]
noncomputable def isI:V->Bool
 | .int _=>true
 | .bl _=>true
 | _=>false
noncomputable def isB:V->Bool
 | .bl _=>true
 | _=>false
noncomputable def isW:V->Bool
 | .int _=>true
 | _=>false
noncomputable def zmx (H:Hp):V->Option (List V)
 | .ref a=>match H a with
  | some #[Sr]=>some xs
  | _=>none
 | _=>none
theorem zpl {v:V} (h:Qg H v):∃ t,OG K H v t/\ak K t (.type "int")=some (isI v)/\ak K t (.type "bool")=some (isB v)/\ak K t (.type "list")=some (zmx H v).isSome:=by
 cases h with
 | non=>exact⟨_,.non,rfl,rfl,rfl⟩
 | bl b=>exact⟨_,.bl b,rfl,rfl,rfl⟩
 | int i=>exact⟨_,.int i,rfl,rfl,rfl⟩
 | str x=>exact⟨_,.str x,rfl,rfl,rfl⟩
 | lst e=>exact⟨_,.lst e,rfl,rfl,by simp only [zmx,e]; rfl⟩
 | tup e=>exact⟨_,.tup e,rfl,rfl,by simp only [zmx,e]; rfl⟩
noncomputable def za5 (H:Hp) (c tt:Addr) (p k:Int) (pl:List Int):Prop:=H c=some (.tup [.int p,.int k,.ref tt])/\H tt=some (.tup #[Sa])
theorem za5.same {c tt:Addr} {p k:Int} (s:zC H H') (h:za5 H c tt p k pl):za5 H' c tt p k pl:=⟨s _ _ h.1,s _ _ h.2⟩
noncomputable def zgS (p:Int):V->Bool
 | .int i=>decide (0<=i) && decide (i < p)
 | _=>false
noncomputable def zgT (K:af):Sp:=fun vs H Q _=>∃ v,vs = [v]/\Qg H v/\Q (.bl (isW v)) H
noncomputable def zgU (K:af):Sp:=fun vs H Q _=>∃ (p:Int) (v:V),vs = [.int p,v]/\Qg H v/\Q (.bl (zgS p v)) H
theorem znS {v:V} (h:isW v=true):∃ i,v = .int i:=by
 cases v with
 | int i=>exact⟨i,rfl⟩
 | _=>cases h
theorem zkM {a:Addr} {xs:List V} {kp:V->Bool} {f:V->V} {g:TG} {σ0:L2.St} {Q:VK} (ha:mS K H a xs) (hn:xs.length<=10000)
  (hs:∀ (i:Nat) (x:V) (R:VK) (B:Hp->Prop),xs[i]? = some x->(if kp x=true then R (f x) H else B H)->g x σ0 H fun σ2 H2=>ts σ2 H2 fun b H3=>if b=true then te σ2 H3 R else B H3)
  (hd:∀ D,H D=none->Q #[Ri] (mR H D (.lst ((xs.filter kp).map f)))):cGo g ts te σ0 #[WG] Q H:=by
 refine zeO (n:=xs.length) (fun i ys H'=>ys=((xs.take i).filter kp).map f/\H'=H) ⟨#[M],rfl⟩ ?_ ?_ ?_ ?_
 ·rintro i ys H3 hi ⟨_,rfl⟩;exact⟨_,xs[i],ha,#[M]⟩
 ·rintro ys H3 ⟨_,rfl⟩;exact⟨_,ha,ah _⟩
 ·rintro i x ys H3 H4 hi ⟨rfl,rfl⟩ ⟨rfl,hx⟩;refine hs i x _ _ (hx _ ha) ?_;rw [take_snoc (hx _ ha),cT,aB];by_cases h:kp x=true
  ·rw [if_pos h];refine⟨zav ?_,?_,rfl⟩
   ·rw [ae];exact bq (dq _ _) (bq (fE _ _) #[O])
   ·congr 1;simp [h]
  ·rw [if_neg h];refine⟨?_,rfl⟩;simp [h]
 ·rintro ys H3 D ⟨rfl,rfl⟩ hD;rw [bx];exact hd D hD
noncomputable def ng:Option Int->V
 | none=>.non
 | some i=>.int i
noncomputable def zcS (p:Int) (pl:List Int) (rw:List #[EQ]) (nr:List Int) (j:Nat):Bool:=match pl[j]?,rw[j]? with
 | some x,some (some i)=>decide (i=zw p x nr)
 | _,_=>false
noncomputable def zdK (p:Int) (pl:List Int) (rw:List #[EQ]) (nr:List Int) (n:Nat):List Int:=((bn n).filter (zcS p pl rw nr)).map fun (j:Nat)=>(j:Int)
theorem zgo {p:Int} {n:Nat}:zdK p pl rw nr (n+1)=zdK p pl rw nr n++if zcS p pl rw nr n then [(n:Int)] else []:=by
 unfold zdK;rw [fG,cT,aB];congr 1;by_cases h:zcS p pl rw nr n=true
 ·rw [if_pos h]; simp [h]
 ·rw [if_neg h]; simp [h]
theorem zhM (p:Int) (pl:List Int) (rw:List #[EQ]) (nr:List Int) (n:Nat):(zdK p pl rw nr n).length<=n:=by
 unfold zdK;rw [ae];exact bq (dq _ _) (by rw [cw]; exact ah _)
theorem zgV {x:V} (h:(rw.map ng)[j]? = some x):∃ o,x=ng o/\rw[j]? = some o:=by
 rw [ao] at h;cases e:rw[j]? with
 | none=>rw [e] at h; cases h
 | some c=>rw [e] at h; exact⟨c,(aO h).symm,rfl⟩
noncomputable def hide (H:Hp) (a:Addr):Hp:=fun b=>if b=a then none else H b
theorem zcZ (H:Hp) (a:Addr):zC (hide H a) H:=fun b o e=>by
 unfold hide at e;split at e
 ·cases e
 ·exact e
theorem zfl {a:Addr} {o:HO}:hide #[Ug] a=hide H a:=by
 funext b;unfold hide;by_cases h:b=a
 ·rw [if_pos h,if_pos h]
 ·rw [if_neg h,if_neg h,zg h]
theorem zbf {a:Addr} (s:zC H H'):zC (hide H a) (hide H' a):=fun b o e=>by
 unfold hide at e |-;by_cases h:b=a
 ·rw [if_pos h] at e; cases e
 ·rw [if_neg h] at e |-; exact s _ _ e
theorem za8 {a b:Addr} {o:HO} (h:H b=some o) (o8:b≠a):hide H a b=some o:=by unfold hide; rw [if_neg o8]; exact h
noncomputable def zjH (K:af):Sp:=fun vs H Q _=>∃ (c tt ra po:Addr) (p k:Int) (pl nr:List Int) (rw:List #[EQ]),vs = [.ref c,.ref ra,.ref po]/\za5 H c tt p k pl/\H ra=some #[Vh]/\rw.length=pl.length/\H po=some #[V1]/\0 < p/\p<=97/\(∀ x∈pl,0<=x/\x < p)/\pl.length<=100 /\
 ∀ (l:Addr) (H':Hp),H l=none->zC H H'->H' l=some (.lst ((zdK p pl rw nr pl.length).map V.int))->Q #[SX] H'
noncomputable def zkN (K:af):Sp:=zjH K
theorem zmy (o:Option Int) (z:Int):znw (ng o) (.int z)=true:=by cases o <;> rfl
theorem zkO (o:Option Int) (z:Int):znw (.int z) (ng o)=true:=by cases o <;> rfl
theorem zhN {p:Int} {x:Int} {o:Option Int} (hx:pl[j]? = some x) (ho:rw[j]? = some o):zcS p pl rw nr j=decide (ng o = .int (zw p x nr)):=by
 unfold zcS;rw [hx,ho];cases o with
 | none=>rfl
 | some i=>simp [ng]
noncomputable def zar (rw:List #[EQ]) (n:Nat):List Int:=((bn n).filter fun j=>(rw[j]?.getD none).isSome).map fun (j:Nat)=>(j:Int)
theorem zdz {n:Nat}:zar rw (n+1)=zar rw n++if (rw[n]?.getD none).isSome=true then [(n:Int)] else []:=by
 unfold zar;rw [fG,cT,aB];congr 1;by_cases h:(rw[n]?.getD none).isSome=true
 ·rw [if_pos h]; simp [h]
 ·rw [if_neg h]; simp [h]
theorem zbO (rw:List #[EQ]) (n:Nat):(zar rw n).length<=n:=by
 unfold zar;rw [ae];exact bq (dq _ _) (by rw [cw]; exact ah _)
noncomputable def zpm (p:Int) (pl:List Int) (rw:List #[EQ]) (nr:List Int):V->Bool
 | .int z=>zcS p pl rw nr z.toNat
 | _=>false
theorem zkP {p:Int} (n:Nat):(((zar rw n).map V.int).filter (zpm p pl rw nr)).map id=(zdK p pl rw nr n).map V.int:=by
 rw [jt];unfold zar zdK;rw [lO,lO,List.filter_filter];congr 2;refine List.filter_congr fun j _=>?_
 show (zcS p pl rw nr ((j:Int)).toNat && (rw[j]?.getD none).isSome)=zcS p pl rw nr j;rw [bd];by_cases h:zcS p pl rw nr j=true
 ·rw [h,mi];unfold zcS at h;split at h
  ·rename_i _ _ e; rw [e]; rfl
  ·cases h
 ·rw [kW.mpr h,lU]
theorem zkQ {n:Nat} (h:z∈zar rw n):∃ j:Nat,z=j/\j < n:=by
 unfold zar at h;obtain⟨j,hj,e⟩:=be.mp h;exact⟨j,e.symm,bU.mp (db.mp hj).1⟩
end
end My
end
section
namespace PySem
section
variable {prog:Program} {w:World} {A:Around} {E:Value->Shared->Prop} {s:Shared}
theorem znT {z TI TO i1 i2:Addr} {tU tV:List Addr} {n1 n2 k1 k2:Nat} {P1 P2:Nat->Value->Prop} {S1 S2:Nat->Heap->Prop} {f0 f1 a b:Value} {Q:Option Value->Shared->Prop} (D1:Draws prog w A.in1 i1 tU n1 P1 S1) (D2:Draws prog w A.in1 i2 tV n2 P2 S2) (Z:Zap z TI TO i1 i2 tU tV)
  (hz:IsZ s.heap z TI TO f0 f1) (hf:ZF f0 f1) (xK:IsPair s.heap TI #[U1] #[U0]) (yC:IsPair s.heap TO a b) (p9:S1 k1 s.heap) (nR:S2 k2 s.heap) (l1:k1 < n1) (l2:k2 < n2)
  (hQ:∀ x y h' tk g0 g1 a' b',P1 k1 x->P2 k2 y->IsZ h' z TI TO g0 g1->ZF g0 g1->IsPair h' TI #[U1] #[U0]->IsPair h' TO a' b'->S1 (k1+1) h'->S2 (k2+1) h'->IsPair h' s.heap.objs.size x y->h'.objs.size=s.heap.objs.size+1 ->
   (∀ c o,c≠z->c≠TO->c≠i1->c≠i2->s.heap.get? c=some o->h'.get? c=some o)->Q (some #[t0]) { s with heap:=h',toks:=tk }):wpAny #[or] A (pyNext #[UU]) Q E s:=by
 have yX:s.TypeIs #[UU] "zip":=⟨_,hz,rfl⟩;unfold pyNext;refine aa (cp (bv (name:=bT "__next__") yX dE #[TK]));exact zjG D1 D2 Z hz hf xK yC p9 nR l1 l2 fun x y h1 tk g0 g1 a' b' px py sk Fu Dk Dq Dr Ds uQ Du kk=>ag (hQ x y h1 tk g0 g1 a' b' px py sk Fu Dk Dq Dr Ds uQ Du kk)
theorem zpn {z TI TO i1 i2:Addr} {tU tV:List Addr} {n1 n2 k1 k2:Nat} {P1 P2:Nat->Value->Prop} {S1 S2:Nat->Heap->Prop} {f0 f1 a b:Value} {Q:Option Value->Shared->Prop} (D1:Draws prog w A.in1 i1 tU n1 P1 S1) (D2:Draws prog w A.in1 i2 tV n2 P2 S2) (Z:Zap z TI TO i1 i2 tU tV)
  (hz:IsZ s.heap z TI TO f0 f1) (hf:ZF f0 f1) (xK:IsPair s.heap TI #[U1] #[U0]) (yC:IsPair s.heap TO a b) (p9:S1 k1 s.heap) (nR:S2 k2 s.heap) (l1:k1=n1\/(k1 < n1/\k2=n2))
  (hQ:∀ h' tk,(∀ c o,c≠z->c≠TO->c≠i1->c≠i2->s.heap.get? c=some o->h'.get? c=some o)->Q none { s with heap:=h',toks:=tk }):wpAny #[or] A (pyNext #[UU]) Q E s:=by
 have yX:s.TypeIs #[UU] "zip":=⟨_,hz,rfl⟩;unfold pyNext;refine aa (cp (bv (name:=bT "__next__") yX dE #[TK]));refine zmw D1 D2 Z hz hf xK yC p9 nR l1 fun h' tk x kk ⟨o,ho,hc⟩=>?_
 exact aa (dH (T:="StopIteration") (b:=true) ⟨o,ho,hc⟩ fO (ag (hQ h' tk kk)))
theorem zjI {z TI TO:Addr} {f0 f1:Value} {Q:Value->Shared->Prop} (hz:IsZ s.heap z TI TO f0 f1) (h:Q #[UU] s):wpAny #[or] A (pyIter #[UU]) Q E s:=by
 have hT:s.TypeIs #[UU] "zip":=⟨_,hz,rfl⟩; refine eY hT F.slot_zip_iter (br F.slot_zip_iter hT F.entry_zip_iter ?_ (F.args_zip_iter_1 _));show wpAny _ _ (ret #[UU]) _ _ s; exact ag ⟨_,rfl,"zip",_,hT,F.slot_zip_next.lookup,h⟩
theorem zqm {elts:List Expr} {x1} {pos:Pos} {z TI TO T:Addr} {f0 f1:Value} {Q:Unit->Shared->Prop} (hz:IsZ s.heap z TI TO f0 f1) (hf:ZF f0 f1)
  (hQ:∀ h' g0,IsZ h' z TI TO g0 f1->ZF g0 f1->bh z s.heap h'->Q () { s with heap:=h' }):wpAny #[or] A (letOwnedTupleGo (.Tuple elts x1 pos) #[UU] (.ref T)) Q E s:=by
 unfold letOwnedTupleGo; refine aa (lG hz ?_);show wpAny _ _ (if _ then _ else _) Q E s;split
 ·refine aa (cj ?_); show wpAny _ _ (setField #[UU] 0 .none) Q E s;exact bK hz #[M] fun h' G0 pB=>hQ h' .none G0 ⟨.inl rfl,hf.2⟩ pB
 ·exact ag (hQ s.heap f0 hz hf #[VU])
end
end PySem
namespace L2
open PySem PySem.Spec PyProof.Rows
variable {A:Around} {C:Addr} {H H':Hp} {K:af} {M:Model} {N:List Str} {R:Result->Shared->Prop} {X:Cx} {an od:Option Addr} {ct doc nA oc pm:Value} {env:Env} {fd:FuncData} {h h':Heap} {k t' tk:Nat} {mO:List (Addr×Obj)} {mZ:List (List Key×V)} {outer:List Env} {pos:Pos} {qual:Str} {s:Shared} {scope:Scope} {sp:Sp} {us vs:List Value} {w:World} {y:V} {yA:Array #[TU]}
noncomputable def zpo (uy uz:Hp->Addr->List V->Prop) (a b:Addr):It :=
 ⟨(zkB uy uz a b).go,(zkB uy uz a b).yld,fun i H=>∃ xs ys,uy H a xs/\uz H b ys/\(xs.length=i\/(i < xs.length/\ys.length=i))⟩
abbrev zfU (n:Nat):List Addr:=[n+4,n+2,n+3,n,n+1]
abbrev zqn (C:String) (n a b:Nat) (i:Nat) (h:Heap):Prop:=(∃ f0 f1,IsZ h (n+4) (n+2) (n+3) f0 f1/\ZF f0 f1)/\IsPair h (n+2) (.ref n) #[X3]/\(∃ u v,IsPair h (n+3) u v)/\h.IsTupleIter n a i/\ItC C h (n+1) b i
structure Sk (C:String) (Is:Heap->Addr->Array Value->Prop) (Sq:af->Hp->Addr->List V->Prop):Prop where
 h:SkH C Is
 inv:∀ {X:Cx} {mO:List (Addr×Obj)} {σ:St} {H:Hp} {s:Shared} {a:Addr} {xs:List V},Inv X mO σ H s->Sq X.K H a xs->∃ mT:List Value,zM xs mT/\Is s.heap a mT.toArray/\a < s.heap.objs.size
 inj:∀ {X:Cx} {mO:List (Addr×Obj)} {σ:St} {H:Hp} {s:Shared} {a:Addr} {xs ys:List V},Inv X mO σ H s->Sq X.K H a xs->Sq X.K H a ys->xs=ys
theorem sqL:Sk "list_iterator" Heap.IsList mS:=⟨skL,fun I h=>let ⟨mT,r,p,_⟩:=I.list h; ⟨mT,r,p.isList,by obtain⟨_,_,e,_⟩:=p; exact aG e⟩,fun I h h'=>I.Li h h'⟩
theorem zmz {C:String} {Is:Heap->Addr->Array Value->Prop} {Sq:af->Hp->Addr->List V->Prop} (S:Sk C Is Sq) {P:Program} {es:List Expr} (a b n:Nat) (ha:a < n) (hb:b < n):Turn P w K #[Uj] (zpo (m7 K) (Sq K) a b) (zfU n) (n+4) (zqn C n a b) where
 mem:=by simp
 obj:=fun i h st c hc=>by
  obtain⟨⟨f0,f1,h1,_⟩,h2,⟨u,v,h3⟩,⟨o4,e4,_,d4⟩,⟨o5,e5,_,d5⟩⟩:=st;simp only [zfU,az,bi,or_false] at hc;rcases hc with z | z | z | z | z <;> subst z
  ·exact⟨_,h1,fun v z=>by cases z⟩
  ·exact⟨_,h2,fun v z=>by cases z⟩
  ·exact⟨_,h3,fun v z=>by cases z⟩
  ·exact⟨_,e4,fun v z=>by rw [d4] at z; cases z⟩
  ·exact⟨_,e5,fun v z=>by rw [d5] at z; cases z⟩
 keep:=fun i h h' st kk=>by
  obtain⟨⟨f0,f1,h1,hf⟩,h2,⟨u,v,h3⟩,h4,h5⟩:=st;obtain⟨o5,e5,r5⟩:=h5;exact⟨⟨f0,f1,kk _ #[M] _ h1,hf⟩,kk _ #[M] _ h2,#[VH],h4.at fun o eo=>kk _ #[M] o eo,o5,kk _ #[M] _ e5,r5⟩
 item:=by
  intro X hP hw hK hc i mO s σ H E I hf st hg;subst hP hw hK;obtain⟨xs,ys,x,y,uf,rl,hx,hy⟩:=hg;obtain⟨⟨f0,f1,h1,BG⟩,h2,⟨u0,v0,h3⟩,h4,h5⟩:=st;obtain⟨oE,xu,p1,sk⟩:=I.tuple uf;obtain⟨nS,xJ,p2,_⟩:=S.inv I rl;obtain⟨u,hu,ru⟩:=xu.get hx;obtain⟨v,hv,rv⟩:=xJ.get hy;have yD:n+4 < s.heap.objs.size:=aG h1;have hh:X.A.in1.handled=none:=by simp [I.ok.hd hc]
  have uN:i < oE.toArray.size:=by have:=(aj.mp hu).1; simpa using this
  have uO:i < nS.toArray.size:=by have:=(aj.mp hv).1; simpa using this
  refine znT #[RB] #[W4] (zeQ ha hb) h1 BG h2 h3 ⟨h4,(show s.heap.IsTuple a oE.toArray from p1)⟩ ⟨h5,p2⟩ uN uO
   fun x' y' h' tk g0 g1 a' b' px py ez Io e2 e3 t4 t5 pp hsz kk=>?_
  have eu:x'=u:=by
   have e1:oE[i]? = some x':=by simpa using px
   rw [hu] at e1; exact (aO e1).symm
  have ev:y'=v:=by
   have e1:nS[i]? = some y':=by simpa using py
   rw [hv] at e1; exact (aO e1).symm
  subst eu ev;have ch:∀ c∈[n+4,n+3,n,n+1],c∈zfU n:=fun c nh=>by
   simp only [zfU,az,bi,or_false] at nh |-;rcases nh with z | z | z | z <;> subst z <;> simp
  have k1:∀ c o,c∉[n+4,n+3,n,n+1]->s.heap.get? c=some o->h'.get? c=some o:=fun c o nh eo=>by
   simp only [az,bi,or_false,not_or] at nh;exact kk c o nh.1 nh.2.1 nh.2.2.1 nh.2.2.2 eo
  have Fn:∀ c∈[n+4,n+3,n,n+1],∃ o,h'.get? c=some o:=fun c nh=>by
   simp only [az,bi,or_false] at nh;rcases nh with z | z | z | z <;> subst z
   ·exact⟨_,ez⟩
   ·exact⟨_,e3⟩
   ·obtain⟨o,e,_⟩:=t4.1; exact⟨o,e⟩
   ·obtain⟨o,e,_⟩:=t5.1; exact⟨o,e⟩
  have I1:Inv X mO σ (mR H s.heap.objs.size (.tup [x,y])) { s with heap:=h',toks:=tk } :=
   I.Mt k1 (fun c nh=>hf c (ch c nh)) Fn (ah _) #[VL]
  refine⟨_,rfl,zqm (s:={ s with heap:=h',toks:=tk }) ez Io fun Bz g2 yT Fw qd=>?_⟩;have fr:∀ c∈zfU n,mR H s.heap.objs.size (.tup [x,y]) c=none:=fun c nh=>by
   have nC:c < s.heap.objs.size:=by
    simp only [zfU,az,bi,or_false] at nh;rcases nh with z | z | z | z | z <;> subst z <;> exact nl #[O]
   rw [zg (aQ nC)];exact (hf c nh).1
  have I2:Inv X mO σ (mR H s.heap.objs.size (.tup [x,y])) { s with heap:=Bz,toks:=tk } :=
   Inv.Na (s:={ s with heap:=h',toks:=tk }) (ch:=[n+4]) (t':=tk) I1 (fun c o nh eo=>qd.extBut c o (by simpa using nh) eo) (fun c nh=>by
    have z:c=n+4:=by simpa using nh
    subst z;exact⟨fr _ #[M],(hf _ #[M]).2⟩) (fun c nh=>by
    have z:c=n+4:=by simpa using nh
    subst z;exact⟨_,yT⟩)
  have up:∀ c o,c≠n+4->h'.get? c=some o->Bz.get? c=some o:=fun c o nh e=>qd.extBut c o nh e
  exact⟨.ref s.heap.objs.size,_,I2,rfl,⟨_,x,y,I.fresh,rfl,rfl,fun zs hz=>by rw [I.LF hz uf]; exact hx,fun zs hz=>by rw [S.inj I hz rl]; exact hy⟩,
   ⟨⟨g2,g1,yT,Fw⟩,up _ _ #[TH] e2,⟨_,_,up _ _ #[TH] e3⟩,t4.1.at fun o e=>up _ o #[TH] e,⟨t5.1.choose,up _ _ #[TH] t5.1.choose_spec.1,t5.1.choose_spec.2⟩⟩,fr⟩
 done:=by
  intro X hP hw hK hc i mO s σ H E I hf st hg;subst hP hw hK;obtain⟨xs,ys,uf,rl,hx⟩:=hg;obtain⟨⟨f0,f1,h1,BG⟩,h2,⟨u0,v0,h3⟩,h4,h5⟩:=st;obtain⟨oE,xu,p1,sk⟩:=I.tuple uf;obtain⟨nS,xJ,p2,_⟩:=S.inv I rl;have hh:X.A.in1.handled=none:=by simp [I.ok.hd hc]
  have vc:=xu.length;have qX:=xJ.length;refine zpn #[RB] #[W4] (zeQ ha hb) h1 BG h2 h3 ⟨h4,(show s.heap.IsTuple a oE.toArray from p1)⟩ ⟨h5,p2⟩ (by rw [au,au]; lia) fun h' tk kk=>#[Vc]
  have sub:∀ c∈[n+4,n+3,n,n+1],c∈zfU n:=fun c nh=>by
   simp only [zfU,az,bi,or_false] at nh |-;rcases nh with z | z | z | z <;> subst z <;> simp
  have k1:∀ c o,c∉[n+4,n+3,n,n+1]->s.heap.get? c=some o->h'.get? c=some o:=fun c o nh e=>by
   simp only [az,bi,or_false,not_or] at nh;exact kk c o nh.1 nh.2.1 nh.2.2.1 nh.2.2.2 e
  have xp:∀ d u',H d=some u'->d∉[n+4,n+3,n,n+1]:=fun d u' e' hd=>by rw [(hf d (sub d hd)).1] at e'; cases e'
  refine I.step (g':=s.gens) (d':=s.drawn) (t':=tk) (ch:=[n+4,n+3,n,n+1]) (fun c nh=>?_) #[WC] #[Vb] #[T7]
   (fun c o oK e=>⟨o,k1 c o oK e⟩) #[UW] #[UX] (fun c ps e=>⟨#[],by rw [e]; simp⟩) #[VD] (fun c u e=>?_) I.bare
  ·obtain⟨_,a1,_,a3,a4,a5⟩:=hf c (sub c nh);exact⟨a3,a1,a4,a5⟩
  ·obtain⟨o,es',ep,ho,r⟩:=hm;exact⟨o,es',ep,k1 _ o (fun z=>(hf _ (sub _ z)).2.1 rfl) ho,r⟩
  ·refine (I.hok c u e).NH #[XS] #[UH] fun _ _ q=>q
   rcases hd with z | z
   ·rw [z]; exact xp c u e
   ·exact xp d _ z
 self:=fun _ _ _ _ _ st h=>by
  obtain⟨⟨f0,f1,hz,_⟩,_⟩:=st;exact zjI hz h
noncomputable def iZq (uy uz:Hp->Addr->List V->Prop) (ta:TA):TI:=fun σ H R=>ta σ H fun vs H1=>∃ a b xs ys,vs = [.ref a,.ref b]/\uy H1 a xs/\uz H1 b ys/\R (zpo uy uz a b) H1
theorem zmA {C:String} {Is:Heap->Addr->Array Value->Prop} {Sq:af->Hp->Addr->List V->Prop} (S:Sk C Is Sq) {es:List Expr} {tY p:Pos} {a b:Expr} {ta:TA} (hg:Gl X "zip") (hm:X.mg "zip" = none) (ha:PA X [a,b] ta) (hs:starEach [a,b] X.env = [#[R7],#[Re]]:=by rfl) (o7:starEach [b] X.env = [#[Re]]:=by rfl) :
  PI X #[UK] (.Call (.Name "zip" p) [a,b] [] pos) (iZq (m7 X.K) (Sq X.K) ta):=by
 intro mO s σ H R I h;refine Call_ (zcc I hg hm boot_zip (bS (thn #[FM] fun us s1 ⟨vs,H1,I1,r1,q1⟩=>?_) (by rw [hs,o7]) (by rw [o7]; rfl)));obtain⟨l1,l2,xs,ys,e,uf,rl,q⟩:=q1;subst e;cases r1 with
 | cons r rr =>
  cases rr with
  | cons r' rr =>
   cases rr;cases r;cases r';obtain⟨oE,xu,Cs,sk⟩:=I1.tuple uf;obtain⟨nS,xJ,Df,uO⟩:=S.inv I1 rl;have uN:l1 < s1.heap.objs.size:=by obtain⟨_,e,_⟩:=Cs; exact aG e
   refine zfj S.h (show s1.heap.IsTuple l1 oE.toArray from Cs) Df fun h' n hn b1 b2 b3 b4 b5 b6 kk=>?_
   have I2:Inv X mO σ H1 { s1 with heap:=h' }:=I1.kept (t':=s1.toks) kk;refine zjI b1 ?_;refine⟨_,zfU n,zqn C n l1 l2,zpo (m7 X.K) (Sq X.K) l1 l2,H1,rfl,I2,zmz S l1 l2 n (by rw [hn]; exact uN) (by rw [hn]; exact uO),⟨⟨_,_,b1,.inl rfl,_,rfl⟩,b2,⟨_,_,b3⟩,b4,b5⟩,fun c hc=>?_,q⟩;have hle:s1.heap.objs.size<=c:=by
    simp only [zfU,az,bi,or_false] at hc;rw [<- hn];rcases hc with z | z | z | z | z <;> subst z
    all_goals first | exact iP _ _ | exact ah _
   exact I1.NP hle #[WY]
theorem zmB {X:Cx} {es:List Expr} {k:Nat} {tY p pos:Pos} {a b:Expr} {ta:TA} (hg:Gl X "zip") (hm:X.mg "zip" = none) (ha:PA X [a,b] ta) (hs:starEach [a,b] X.env = [#[R7],#[Re]]:=by rfl) (o7:starEach [b] X.env = [#[Re]]:=by rfl) :
  PI X #[UK] (.Call (.Name "zip" p) [a,b] [] pos) (iZq (m7 X.K) (mS X.K) ta):=zmA sqL hg hm ha hs o7
section
variable {prog:Program} {w:World} {A:Around} {h:Heap} {g:Array GenState} {d:Drawn} {tk:Nat} {os:OsState} {K:af} {x C:Addr} {E:Value->Shared->Prop}
theorem zi3 {tp:Value} (J:∀ M,gl M h #[Xp] #[Rl]) (X:K.In h)
  (hm:bC K C (.type "object")=some true) (q:R (.ok (.ret #[Rl])) ⟨h,g,d,tk,os⟩) :
  codeAny #[or] A (Code.call (.builtin "getset_descriptor.__get__") { pos:=[.builtin "object.__class__",.ref x,tp] }) R ⟨h,g,d,tk,os⟩:=by
 refine jP PySem.W.KF.slot_gs.plain PySem.W.KF.entry_gs (PySem.W.KF.slot_gs.check _ _ _ _ _ _ _ _ ?_ (PySem.W.KF.args_gs _ _ _) ?_)
 ·exact gA
 ·unfold Builtin.«getset_descriptor.__get__» kX;rw [PySem.W.dga_obj];refine aa (ag ?_)
  try dsimp only
  unfold kd
  try dsimp only
  refine aa ?_;unfold ju jx
  try dsimp only
  rw [PySem.W.KF.owner_class];refine aa (ag ?_)
  try dsimp only
  unfold isInstance;refine aa (aa ((J _).at ((gW X hm).at ?_)));refine de rfl (ag ?_);unfold again;refine ag ⟨Code.quiet_builtin _ #[N],?_⟩;refine ji PySem.W.KF.entry_class ?_;unfold Builtin.«object.__class__»
  try dsimp only
  unfold shownTypeOf;refine aa (aa ((J _).at ?_));refine de rfl (ag ?_);unfold ret;exact ag q
theorem zkR {Cy:Value} {Q:Unit->Shared->Prop} (J:∀ M,gl M h #[Xp] #[Rl]) (X:K.In h) (hm:bC K C (.type "BaseException")=some true) (q:Q () ⟨h,g,d,tk,os⟩) :
  wpAny M A (checkBuiltinCall "BaseException.__getattribute__" { pos:=[.ref x,Cy] }) Q E ⟨h,g,d,tk,os⟩:=by
 have hk:builtinKind "BaseException.__getattribute__" = some mK:=#[N];have hs:splitId "BaseException.__getattribute__" = some ("BaseException","__getattribute__"):=by decide +kernel
 unfold checkBuiltinCall;rw [hk,hs]
 try dsimp only
 unfold isInstance;refine aa (aa ((J _).at ((gW X hm).at ?_)));refine de rfl ?_;have ok:=F.args_bexc_ga #[UC] Cy;unfold argsOk at ok;generalize Manifest.signature? "BaseException.__getattribute__" = sg at ok |-;cases sg with
 | none=>exact ag q
 | some sig =>
  dsimp only at ok |-;rw [ok];exact ag q
theorem zkS {Q:Option Value->Shared->Prop} (J:∀ M,gl M h #[Xp] #[Rl]) (X:K.In h)
  (F1:aK K #[Rl] "__getattribute__" = some (some (.builtin "BaseException.__getattribute__"))) (F2:aK K #[Rl] "__getattr__" = some none)
  (F3:aK K #[Rl] "__class__" = some (some (.builtin "object.__class__"))) (hm:bC K C (.type "object")=some true) (hb:bC K C (.type "BaseException")=some true)
  (q:Q (some #[Rl]) ⟨h,g,d,tk+1,os⟩):wpAny #[or] A (getAttr? #[UC] "__class__") Q E ⟨h,g,d,tk,os⟩:=by
 unfold getAttr?
 (refine aa (wpAny_mkText ?_))
 unfold getAttrBy?
 (refine aa (cp ?_))
 unfold getAttrBy;refine bQ (aa ((J _).at (aa ((gF X F1).at ?_))))
 try dsimp only
 refine de rfl ?_;unfold getAttrByItsOwn;refine aa ((PySem.W.looks_hook (mc:=.ref C) X (r:=none) (by rw [show onTheHeap (aN C)=true from rfl,if_pos rfl]; exact F2)).at ?_)
 (refine aa (cp (bQ ?_)))
 unfold callGetattribute;refine de rfl ?_;unfold boundAndCalled;rw [F.attrBase_ValueError.ga.bind];refine aa (ag ?_)
 try dsimp only
 refine gG ?_;refine jP F.attrBase_ValueError.ga.plain F.entry_bexc_ga (zkR J X hb ?_)
 (unfold Builtin.«object.__getattribute__»)
 refine aa ?_;unfold slotArgs
 try dsimp only
 refine de rfl (de rfl (ag ?_))
 try dsimp only
 unfold l9
 try dsimp only
 refine aa (ag (aa ((J _).at (aa ?_))));unfold mF;refine aa ((gF X F3).at ?_);unfold mC
 try dsimp only
 refine aa (j6 gA F.slot_gs_get.lookup ?_);unfold kY
 try dsimp only
 refine aa ?_;unfold lP;refine aa (aa (j6 gA F.slot_gs_set.lookup ?_));refine g8 rfl (ag ?_);refine g8 rfl (ag ?_)
 try dsimp only
 (refine aa (cj (ag ?_)))
 try dsimp only
 unfold mw
 try dsimp only
 refine aa (bQ (gG (zi3 J X hm ?_)))
 try dsimp only
 unfold ret;refine ag ?_
 try dsimp only
 unfold handedOut
 try dsimp only
 refine ag ?_
 try dsimp only
 exact ag q
end
structure Xc (K:af) (C:Addr):Prop where
 f1:aK K #[Rl] "__getattribute__" = some (some (.builtin "BaseException.__getattribute__"))
 f2:aK K #[Rl] "__getattr__" = some none
 f3:aK K #[Rl] "__class__" = some (some (.builtin "object.__class__"))
 ob:bC K C (.type "object")=some true
 bb:bC K C (.type "BaseException")=some true
 kc:bZ K #[Rl] #[Rl]=some true
theorem zfm {x:Addr} (e:∃ o,h.get? x=some o/\o.cls = .ref C) (M:Model):gl M h #[Xp] #[Rl]:=by
 obtain⟨o,e,c⟩:=e;intro A Q E s k q;obtain⟨h',g,d,t,os⟩:=s;unfold typeOf;refine aa (wpAny_loadPart_at (k _ _ e) (ag ?_));rw [c];exact q
theorem zpp {b:Value} {r:Bool} (m:bC K C b=some r):∃ oc dd cd sl,K.lookup C=some ⟨oc,dd,.cls cd,sl⟩:=by
 unfold bC PySem.W.clsIn at m;cases e:dg C K with
 | none=>rw [e] at m; cases m
 | some o =>
  obtain⟨oc,dd,da,sl⟩:=o;cases da with
  | cls cd=>exact⟨oc,dd,cd,sl,rfl⟩
  | _=>rw [e] at m; cases m
theorem zhO {x:Addr} (c:Xc K C):PySem.W.KitX K #[UC] #[Rl] (fun h=>∃ o,h.get? x=some o/\o.cls = .ref C):=by
 refine⟨fun M h _ e=>zfm e M,fun M h X e=>(lQ X c.kc).2.1,fun h tp dd mT n sl X e=>?_,fun {prog w A E Q s} X e q=>?_⟩
 ·obtain⟨oc,Fx,cd,GO,l⟩:=zpp c.ob;have e2:=X _ _ l;have ne:C≠tp:=fun z=>by
   rw [z,e] at e2;cases e2
  exact decide_eq_false fun z=>ne (by injection z)
 ·obtain⟨h,g,d,tk,os⟩:=s;exact zkS (fun M=>zfm e M) X c.f1 c.f2 c.f3 c.ob c.bb q
noncomputable def zmC (a C:Addr):HO:=.ext fun h=>∃ o,h.get? a=some o/\o.cls = .ref C
theorem zac {X:Cx}:zbm X (.builtin "isinstance") (fun xs H Q=>∃ a C y b,xs = [.ref a,y]/\H a=some (zmC a C)/\Xc X.K C/\((∃ D,y = .ref D/\ak X.K #[Rl] #[Ri]=some b)\/∃ n,y = .ty n/\ak X.K #[Rl] (.type n)=some b)/\Q (.bl b) H):=by
 intro mO s σ H xs us Q I r h;obtain⟨a,C,y,b,rfl,ha,c,hy,q⟩:=h;obtain⟨u,u',rfl,rx,r2⟩:=vals2 r;cases rx;obtain⟨he,_,_⟩:=(show zab X.prog X.w H s.heap a (zmC a C) from I.hok a _ ha);rcases hy with ⟨D,rfl,hk⟩ | ⟨n,rfl,hk⟩
 ·cases r2;exact ca (zhO c) I.kIn he hk (fun z=>nomatch z) fun tk=>⟨.bl b,H,I.tok tk,rfl,q⟩
 ·cases r2;exact ca (zhO c) I.kIn he hk (fun z=>nomatch z) fun tk=>⟨.bl b,H,I.tok tk,rfl,q⟩
abbrev zei:List Value:=[.type "ValueError",.type "Exception",.type "BaseException",.type "object"]
structure Rb (C:Addr) (h:Heap) (bmB:List Value) (newId:String):Prop where
 ex:∃ nm q N bs bm hdct sn sub ab col dd k0 k1 k2 k3 k5,∃ mN:Str->Option Value,h.get? C=some (excClassObj nm q C N bs bm hdct sn sub ab col dd k0 k1 k2 k3 k5 newId)/\h.Ns N mN/\mN "__init__" = none/\OwnTail h bmB bm
theorem zkT {bmB:List Value} {newId:String} (X:K.In h) (e:cA K C bmB newId=true):Rb C h bmB newId:=by
 unfold cA at e;split at e
 ·rename_i dict cd sl hl
  split at e
  ·rename_i C' bm a0 a1 a2 a3 n a5 hm hs
   simp only [cg,beq_iff_eq] at e;obtain⟨⟨⟨⟨⟨rfl,rfl⟩,Dv⟩,ht⟩,hn⟩,hi⟩:=e;obtain⟨sll⟩:=sl;have hs:sll = [a0,a1,a2,a3,some (Value.builtin n),a5]:=hs;subst hs;have ho:=X _ _ hl;cases cd;dsimp only at hm hn hi Dv;subst hm;simp only [kZ] at Dv;subst Dv;exact⟨_,_,_,_,_,_,_,_,_,_,_,_,_,_,_,_,_,ho,Heap.Ns.of_isNs (PySem.W.isNs_of_in X hn),PySem.W.nsMap_none_of_in X hn hi,PySem.W.tail_of_in X ht⟩
  ·cases e
 ·cases e
theorem zet {h h' base B:Heap} (k:∀ b o,h.get? b=some o->h'.get? b=some o):∀ {l:List Env},h.FunFrames base l->(∀ b∈frs l,B.get? b=none)->h'.FunFrames B l
 | [],_,_=>trivial
 | env :: r,hl,hb=>by
  obtain⟨hk,⟨L,o,hf,hn,ho,hd⟩,hr⟩:=hl;have e:frs (env :: r)=L :: frs r:=by unfold frs; rw [cu,hf]
  rw [e] at hb;exact⟨hk,⟨L,o,hf,hb L #[M],k _ _ ho,hd⟩,zet k hr fun b z=>hb b (aq _ z)⟩
structure Xl (P:Program) (w:World) (outer:List Env) (H:Hp) (h:Heap) (H':Hp) (h' B:Heap) (e C:Addr):Prop where
 new:h.get? e=none
 hok:HOk P w H' B
 fly:∃ t,B.FlyingW outer e #[Rl] t h'
 keep:∀ b o,h.get? b=some o->H b=none->b∉frs outer->B.get? b=some o
 slot:∀ b o,h.get? b=some o->H b=none->b∈frs outer->∃ sl,h'.get? b=some { o with slots:=sl }
 free:∀ b o,h.get? b=some o->H b=none->H' b=none
 there:∀ b o,h.get? b=some o->b∉frs outer->∃ o',B.get? b=some o'
 MS:∀ b xs,H b=some #[Sc]->H' b=some #[Sc]
 M7:∀ b o u,H b=some #[WJ]->H' b=some #[WJ]
 Nb:∀ b ps,H b=some (.tbl ps)->∃ more,H' b=some (.tbl (ps++more))
noncomputable def CX1 (P:Program) (w:World):CXT:=fun outer H s E ev s'=>∃ (e C:Addr) (H':Hp) (B:Heap),ev = .ref e/\s'.os=s.os/\AllBare s'.gens/\Xl P w outer H s.heap H' s'.heap B e C/\E #[Rl] none H'
section
variable {P:Program} {w:World} {outer:List Env} {H H':Hp} {h h' B:Heap} {e C:Addr}
theorem zmD {o:HO} {a:Addr} (x:zab P w H h a o):∃ ob,h.get? a=some ob:=by
 cases o with
 | lst xs=>obtain⟨_,_,_,_,e⟩:=x; exact⟨_,e⟩
 | tup xs=>obtain⟨_,_,_,o,e,_⟩:=x; exact⟨_,e⟩
 | dK mZ=>obtain⟨_,_,_,_,o,_,_,e,_⟩:=x; exact⟨_,e⟩
 | dT mZ=>obtain⟨_,_,_,_,o,_,_,e,_⟩:=x; exact⟨_,e⟩
 | set S n=>obtain⟨o,_,_,_,e,_⟩:=x; exact⟨_,e⟩
 | ins C dx fs=>obtain⟨_,_,_,e,_⟩:=x; exact⟨_,e⟩
 | own y=>obtain⟨_,e⟩:=x; exact⟨_,e⟩
 | xd fs=>obtain⟨_,⟨_,_,_,e,_⟩,_⟩:=x; exact⟨_,e⟩
 | rng lo hi=>obtain⟨_,_,_,e⟩:=x; exact⟨_,e⟩
 | frz ob u=>obtain⟨e,_⟩:=x; exact⟨_,e⟩
 | tbl ps=>exact⟨_,(show h.get? a=some _ from x)⟩
 | met f y=>exact⟨_,(show h.get? a=some _ from x)⟩
 | ext φ=>obtain⟨_,⟨_,e⟩,_⟩:=x; exact⟨_,e⟩
theorem Xl.fresh (x:Xl P w outer H h H' h' B e C):H' e=none:=by
 obtain⟨t,_,hb,_⟩:=x.fly;cases q:H' e with
 | none=>rfl
 | some u =>
  obtain⟨ob,z⟩:=zmD (x.hok e u q);rw [hb] at z;cases z
theorem Xl.un (x:Xl P w outer H h H' h' B e C) (hf:∀ b∈frs outer,H b=none):Un (frs outer) [] H H' h h' where
 keep:=fun b o q n hb _=>by
  obtain⟨t,st,_⟩:=x.fly;exact st _ _ (x.keep b o q n hb)
 slot:=fun b o q n hb _=>x.slot b o q n hb
 free:=fun b o q n _=>x.free b o q n
 there:=fun b o q _=>by
  by_cases hb:b∈frs outer
  ·obtain⟨sl,z⟩:=x.slot b o q (hf b hb) hb;exact⟨_,z⟩
  ·obtain⟨o',z⟩:=x.there b o q hb;obtain⟨t,st,_⟩:=x.fly;exact⟨o',st _ _ z⟩
 MS:=x.MS
 M7:=x.M7
 Nb:=x.Nb
end
section
variable {X:Cx} {σ:St} {H:Hp} {s:Shared} {mO:List (Addr×Obj)}
theorem Inv.hid (I:Inv X mO σ H s):HOk X.prog X.w H (dO s.heap (frs X.stack)):=fun a o q =>
 (I.hok a o q).NH (fun b u hb z=>fC _ z fun m=>by
  have n:=I.Mv b m;rcases hb with rfl | hb
  ·rw [q] at n; cases n
  ·rw [hb] at n; cases n) (fun _ z=>z) fun _ _ z=>z
theorem zhP {L:Addr} (hf:env.frame=some L):frs (env :: outer)=L :: frs outer:=by unfold frs; rw [cu,hf]
theorem Inv.Nf (I:Inv X mO σ H s) {b:Addr} {o:Obj} (q:X.s₀.heap.get? b=some o):b≠X.env.locals:=aQ (aU (aG q) I.ok.above)
end
section
variable {P:Program} {w:World} {K:af} {mg:Str->Option Value} {base:Heap} {N:List Str} {qual:Str} {scope:Scope} {f:Addr} {cd:Value} {A:Around} {outer:List Env} {s₀:Shared} {H₀:Hp} {E:XK}
abbrev cxX (P:Program) (w:World) (K:af) (mg:Str->Option Value) (base:Heap) (N:List Str) (qual:Str) (scope:Scope) (f:Addr) (cd:Value) (A:Around) (outer:List Env) (s:Shared) (H:Hp) (E:XK):Cx:=zb1 #[WH] P w K mg base N qual scope f cd A outer s H E
theorem zbu {σ:St} {h1:Heap} {e:Addr} (I:Inv #[sw] mO σ H s) (m:s.heap.MadeExcOf h1 e #[Rl] vs) (q:E #[Rl] none H) :
  (cxX P w K mg base N qual scope f cd A outer s₀ H₀ E).xe #[UV] { s with heap:=h1 }:=by
 have EE:frs #[sw].stack=s₀.heap.objs.size :: frs outer:=zhP rfl;obtain⟨t,he,_,_⟩:=m.there;have stays:(dO s.heap (frs #[sw].stack)).StaysIn h1:=fun b o z=>m.keeps _ _ (ie _ z)
 have uR:(dO s.heap (frs #[sw].stack)).get? e=none:=by
  cases z:(dO s.heap (frs #[sw].stack)).get? e with
  | none=>rfl
  | some o=>have:=ie _ z; rw [m.new] at this; cases this
 refine wpAny_leaving_firstW (base:=dO s.heap (frs #[sw].stack)) (outer:=outer) I.ok.frames (zet m.keeps I.stack fun b z=>jG _ z) rfl he stays uR rfl rfl rfl fun h2 left=>?_
 obtain⟨nR,ff2,tr2,Bb⟩:=left;refine⟨e,C,H,dO s.heap (frs #[sw].stack),rfl,I.os,I.bare,⟨?_,I.hid,⟨_,nR,uR,ff2.2.2,tr2⟩,fun b o z n hb=>?_,fun b o z n hb=>?_,fun b o z n=>I.base.free b o z n (by simp [cxX,zb1]),fun b o z hb=>?_,I.base.MS,I.base.M7,I.base.Nb⟩,q⟩
 ·cases z:s₀.heap.get? e with
  | none=>rfl
  | some o =>
   obtain⟨o',z'⟩:=I.base.there e o z (by simp [cxX,zb1]);rw [m.new] at z'; cases z'
 ·refine fC _ (I.base.keep b o z n hb (by simp [cxX,zb1])) fun hm=>?_
  rw [EE] at hm;rcases az.mp hm with z' | z'
  ·exact I.Nf z z'
  ·exact hb z'
 ·obtain⟨sl,z1⟩:=I.base.slot b o z n hb (by simp [cxX,zb1]);obtain⟨_,ob,zo,nd⟩:=I.ok.NO.mem hb;have eo:ob=o:=by
   have z3:s₀.heap.get? b=some ob:=zo;rw [z] at z3; exact (aO z3).symm
  subst eo;obtain⟨GO,z2⟩:=Bb b _ (m.keeps _ _ z1) nd;exact⟨GO,z2⟩
 ·obtain⟨o',z1⟩:=I.base.there b o z (by simp [cxX,zb1]);refine⟨o',fC _ z1 fun hm=>?_⟩;rw [EE] at hm;rcases az.mp hm with z' | z'
  ·exact I.Nf z z'
  ·exact hb z'
theorem zfn:zcv #[WH] #[sw] E:=by
 intro mO σ H s ev s' I hq;obtain⟨e,C,H',B,rfl,os,bare,L,q⟩:=hq;have EE:frs #[sw].stack=s₀.heap.objs.size :: frs outer:=zhP rfl;obtain⟨t,fl⟩:=L.fly;show wpAny _ _ (leaving _ _) _ _ _;unfold leaving;refine aa (wpAny_looks_onW (base:=B) (outer:=outer) I.ok.frames rfl fl fun h2 held u2=>?_);refine wpAny_landsW held fun h3 Fy u3=>?_
 obtain⟨Bp,uR,ff3,tr3⟩:=Fy;refine⟨e,C,H',B,rfl,os.trans I.os,bare,⟨?_,L.hok,⟨_,Bp,uR,ff3.2.2,tr3⟩,fun b o z n hb=>?_,fun b o z n hb=>?_,fun b o z n=>?_,fun b o z hb=>?_,fun b xs z=>L.MS b xs (I.base.MS b xs z),fun b o u z=>L.M7 b o u (I.base.M7 b o u z),fun b ps z=>?_⟩,q⟩
 ·cases z:s₀.heap.get? e with
  | none=>rfl
  | some o =>
   obtain⟨o',z'⟩:=I.base.there e o z (by simp [cxX,zb1]);rw [L.new] at z'; cases z'
 ·refine L.keep b o (I.base.keep b o z n hb (by simp [cxX,zb1])) (I.base.free b o z n (by simp [cxX,zb1])) fun hm=>?_
  rw [EE] at hm;rcases az.mp hm with z' | z'
  ·exact I.Nf z z'
  ·exact hb z'
 ·obtain⟨sl,z1⟩:=I.base.slot b o z n hb (by simp [cxX,zb1]);obtain⟨_,ob,zo,nd⟩:=I.ok.NO.mem hb;have eo:ob=o:=by
   have z3:s₀.heap.get? b=some ob:=zo;rw [z] at z3; exact (aO z3).symm
  subst eo;obtain⟨Bb,z2⟩:=L.slot b _ z1 (I.base.free b _ z n (by simp [cxX,zb1])) (by rw [EE]; exact aq _ hb);obtain⟨sl3,z3⟩:=u2 b _ z2 nd;obtain⟨G8,z4⟩:=u3 b _ z3 nd;exact⟨G8,z4⟩
 ·obtain⟨o',z'⟩:=I.base.there b o z (by simp [cxX,zb1]);exact L.free b o' z' (I.base.free b o z n (by simp [cxX,zb1]))
 ·obtain⟨o',z'⟩:=I.base.there b o z (by simp [cxX,zb1]);refine L.there b o' z' fun hm=>?_
  rw [EE] at hm;rcases az.mp hm with z' | z'
  ·exact I.Nf z z'
  ·exact hb z'
 ·obtain⟨m1,e1⟩:=I.base.Nb b ps z;obtain⟨m2,e2⟩:=L.Nb b _ e1;exact⟨m1++m2,by rw [e2,ki]⟩
theorem Fun.okX {x:Str} {st:Stmt} {ps:List Str} (F:Fun K x qual st f fd) (S:Ko N ps (zi st)) (len:∀ vs H Q E,sp vs H Q E->vs.length=ps.length)
  (qG:∀ (nA:Value) (A:Around) (outer:List Env) (s:Shared) (H:Hp) (vs:List V) (Q:VK) (E:XK),LU k #[RM]->sp vs H Q E ->
   ∃ t,PSs (cxX P w K mg base N qual (zi st) f nA A outer s H E) (zaX st) t/\t { nx:=fun _ H'=>Q .non H',rt:=Q } #[SY] H):Kx P w K mg base #[WH] (k+1) f fd ps sp:=by
 obtain⟨oc,od,kV,doc,pm,an,nA,ct,yA,rfl,lk,uJ⟩:=F.ex;exact zoG lk uJ S len fun A outer s H vs Q E hr uL=>qG nA A outer s H vs Q E hr uL
end
section
variable {X:Cx} {x:Str} {C:Addr} {e:Expr} {te:TE} {np oS pos:Pos} {E:XK}
noncomputable def zmE (X:Cx) (E:XK):Prop:=∀ (mO:List (Addr×Obj)) (σ:St) (H:Hp) (s:Shared) (h1:Heap) (e C:Addr) (vs:List Value),Inv X mO σ H s->s.heap.MadeExcOf h1 e #[Rl] vs->E #[Rl] none H->X.xe #[UV] { s with heap:=h1 }
noncomputable def zpq (C:Addr) (E:XK) (te:TE):TS:=fun _ σ H=>zjp te zl6 σ H fun vs H1=>vs.length=1/\E #[Rl] none H1
theorem zcl (hx:zmE X E) (hc:X.calm=true) (hg:Gl X x) (hm:X.mg x=some #[Rl]) (xc:cA X.K C zei "ValueError.__new__" = true) (he:PE X e te) (hd:(x == ("__debug__" : Str))=false:=by decide)
  (oR:((backTo oS (starEach [e] X.env)).any fun x=>x.fst)=false:=by rfl) (pA:starEach [e] X.env=#[FB] :: starEach [] X.env:=by rfl) :
  PS X (.Raise (some (.Call (.Name x np) [e] [] oS)) none pos) (zpq C E te):=by
 intro mO s σ H D I h;obtain⟨nm,q,N,bs,bm,hdct,sn,sub,ab,col,dd,k0,k1,k2,k3,k5,mN,Iq,yB,pU,xO⟩:=(zkT I.mod.kin xc).ex;refine wpAny_Raise_call_subU (nm:=nm) (q:=q) (N:=N) (bs:=bs) (hdct:=hdct) (sn:=sn) (sub:=sub) (ab:=ab) (col:=col) (dd:=dd) (k0:=k0) (k1:=k1) (k2:=k2) (k3:=k3) (k5:=k5) (bm:=bm) (bmB:=zei) (bmN:=zei) jQ rfl jQ (OwnTail.hasType xO rfl) #[R0] oR pU (zc6 I hg hm #[Vc] hd);have pa:PA X [e] (zjp te zl6):=za he zf pA;have go:=pa oS mO s σ H (fun vs H1=>vs.length=1/\E #[Rl] none H1) I h;rw [pA] at go |-;refine jK (thn go fun us s2 ⟨vs,H2,I2,r2,ql,q2⟩=>⟨rfl,?_,I2.bk _ _ Iq,yB.keeps I2.bk,xO.keeps I2.bk,fun h1 ea m=>hx mO σ H2 s2 h1 ea C _ I2 m q2⟩);have:=r2.length;have qJ:1<=sizeLine:=by decide
 show us.length<=sizeLine;lia
end
noncomputable def zpr (X:Cx) (mO:List (Addr×Obj)) (σ:St) (e:Expr) (t:TE):Prop:=∀ (s:Shared) (H:Hp) (Q:VK),Inv X mO σ H s->t σ H Q->wpAny #[on] X.A #[Vr] #[P3] X.xe s
noncomputable def zps (X:Cx) (mO:List (Addr×Obj)) (σ:St) (st:Stmt) (t:TS):Prop:=∀ (s:Shared) (H:Hp) (D:Ends),Inv X mO σ H s->t D σ H->wpAny #[on] X.A (exec st X.env) #[X2] X.xe s
noncomputable def zjJ (X:Cx) (mO:List (Addr×Obj)) (σ:St) (st:List Stmt) (t:TS):Prop:=∀ (s:Shared) (H:Hp) (D:Ends),Inv X mO σ H s->t D σ H->wpAny #[on] X.A (execs st X.env) #[X2] X.xe s
noncomputable def zdL (CX:CXT) (X:Cx) (mO:List (Addr×Obj)) (σ:St) (E:XK):Prop:=∀ (H:Hp) (s:Shared) (e:Value) (s':Shared),Inv X mO σ H s->CX X.stack H s E e s'->X.xe e s'
section
variable {X:Cx} {mO:List (Addr×Obj)} {σ:St} {CX:CXT} {k:Nat} {f C:Addr} {fd:FuncData} {ps:List Str} {sp:Sp} {qF:List V} {ds:List Value} {E:XK} {x m:Str} {p pos apos:Pos} {e o:Expr} {es:List Expr} {ta te:TE} {t:TA}
theorem zgp {Q:VK} {vs:List V} (F:Kx X.prog X.w X.K X.mg X.base CX k f fd ps sp) (hr:LU k X.A) (hb:Binds X.K fd ps ds) (hd:zM qF ds) (hx:zdL CX X mO σ E)
  (I:Inv X mO σ H s) (r:zM vs us) (h:sp (vs++qF) H Q E):wpAny #[on] X.A (call #[SL] us) #[P3] X.xe s:=by
 have r2:zM (vs++qF) (us++ds):=r.append hd;have hl:(us++ds).length=ps.length:=by rw [<- r2.length]; exact F.len _ _ _ _ h
 refine gG (fH (F.run X.A X.stack s H ⟨us,[]⟩ (us++ds) (vs++qF) Q E hr I.QP (hb s us I.kIn hl) r2 h) fun r s' hq=>?_);cases r with
 | error e=>exact hx H s e s' I hq
 | ok fl =>
  cases fl with
  | ret u=>exact I.after hq
  | next=>exact bV hq
  | brk=>exact bV hq
  | cont=>exact bV hq
theorem zfo {pl:Sem Bool} (he:PE X o ta) (c:Cls X.K C) (hm:OH X.K C m f) (F:Kx X.prog X.w X.K X.mg X.base CX k f fd ps sp) (hr:LU k X.A) (hb:Binds X.K fd ps ds) (hd:zM qF ds) (hx:zdL CX X mO σ E) (ha:PA X (e :: es) t)
  (pA:starEach (e :: es) X.env=#[FB] :: starEach es X.env:=by rfl) (oR:#[Do].any (·.1)=false:=by rfl)
  (ht:eval (.Call #[Rz] (e :: es) [] pos) X.env=(do
   let ov <- eval o X.env
   standAt apos.atName
   let (f,first) <- holding [ov] #[UO]
   callWith pos f first (backTo pos #[S7]) (backToKw pos (keywordEach [] X.env))):=by rfl) :
  zpr X mO σ (.Call #[Rz] (e :: es) [] pos) (zjq C m sp qF E ta t):=by
 intro s H Q I h;refine fb (pl:=pl) (thn #[KM] fun u s1 ⟨x,H1,I1,rx,a,dx,fs,ex,ea,l,q⟩=>?_) ht;subst ex;obtain rfl:u=aN a:=rx;refine zcu I1 ea c hm l ?_;refine eU (first:=[.ref a]) (h₀:=X.base) I.ok.mod.kin hm.kp (thn #[XR] fun us s2 ⟨vs,H2,I2,r,q2⟩=>⟨I2.kIn,?_⟩) pA oR;exact zgp (us:=.ref a :: us) (vs:=.ref a :: vs) F hr hb hd hx I2 (.cons rfl r) q2
theorem zeu {pl:Sem Bool} (he:PE X o ta) (c:Cls X.K C) (hm:OH X.K C m f) (F:Kx X.prog X.w X.K X.mg X.base CX k f fd ps sp) (hr:LU k X.A) (hb:Binds X.K fd ps ds) (hd:zM qF ds) (hx:zdL CX X mO σ E)
  (ht:eval (.Call #[Rz] [] [] pos) X.env=(do
   let ov <- eval o X.env
   standAt apos.atName
   let (f,first) <- holding [ov] #[UO]
   callWith pos f first (backTo pos (starEach [] X.env)) (backToKw pos (keywordEach [] X.env))):=by rfl) :
  zpr X mO σ (.Call #[Rz] [] [] pos) (zjq C m sp qF E ta zl6):=by
 intro s H Q I h;refine fb (pl:=pl) (thn #[KM] fun u s1 ⟨x,H1,I1,rx,a,dx,fs,ex,ea,l,q⟩=>?_) ht;subst ex;obtain rfl:u=aN a:=rx;refine zcu I1 ea c hm l ?_;exact j3 (first:=[.ref a]) I1.kIn hm.kp (zgp (us:=[.ref a]) (vs:=[.ref a]) F hr hb hd hx I1 #[VG] q)
theorem zdb {i:Nat} {pos':Pos} (hN:X.N.Nodup) (hi:X.N[i]? = some x) (hx:Loc X.env.scope x) (he:zpr X mO σ e te) (hs:swapsWith e #[Xm] pos.line X.env=pure false:=by rfl) (hf:X.fn x=true\/X.env.scope.names.lookup x=some .local:=by first | exact .inl rfl | exact .inr rfl | assumption) :
  zps X mO σ (.Assign [.Name x pos'] e pos) (zfM te (zaR i)):=by
 intro s H D I h;refine wpAny_Assign_Name (thn (he s H _ I h) fun v s1 ⟨y,H1,I1,r1,q1⟩=>?_) hs;exact zci I1 hN hi hx r1 (fun s2 I2=>⟨_,H1,I2,q1⟩) hf
theorem zfp {c:Expr} {a b:List Stmt} {tc:TT} {ts u:TS} (hc:PT X c tc) (ha:zjJ X mO σ a ts) (hb:zjJ X mO σ b u):zps X mO σ (.If c a b pos) (zp1 tc ts u):=by
 intro s H D I h;refine wpAny_If (thn #[VY] fun d s1 ⟨H1,I1,q1⟩=>?_);cases d with
 | true=>exact ha s1 H1 D I1 q1
 | false=>exact hb s1 H1 D I1 q1
theorem zbb {st:Stmt} {ts:TS} (h:zps X mO σ st ts):zjJ X mO σ [st] ts:=by
 intro s H D I h1;refine iL (thn (h s H D I h1) fun f s1 q=>?_);cases f with
 | next=>exact eP q
 | ret v=>exact q
 | brk=>exact q
 | cont=>exact q
end
section
variable {X:Cx} {σ:St} {H:Hp} {s:Shared} {mO:List (Addr×Obj)}
theorem zkU {E:Value->Shared->Prop} {i:Nat} {x:Str} {v:V} {Q:Unit->Shared->Prop} (I:Inv X mO σ H s) (hN:X.N.Nodup) (hi:X.N[i]? = some x) (hk:X.env.scope.names.lookup x=some .local) (hv:σ[i]? = some #[Vp])
  (h:∀ s',Inv X mO #[V4] H s'->Q () s'):wpAny M A (unbindName X.env x) Q E s:=by
 obtain⟨m,hn,hl⟩:=id I.loc;have yH:(X.env.scope.kind == .class || (X.env.scope.kind == .module && X.env.locals != X.env.globals))=false:=by rw [I.ok.kind]; rfl
 have hiσ:i < σ.length:=by rw [I.len]; exact (aj.mp hi).1
 have cne:=I.cne;obtain⟨u,r,lk⟩:=hl i x v hi hv (.inl hk);have hm:m x=some u:=by
  rcases lk with ⟨_,z⟩ | ⟨z,_⟩
  ·exact z
  ·have z:X.env.scope.names.lookup x=some .cell\/X.env.scope.names.lookup x=some .free:=z;rw [hk] at z;rcases z with z | z <;> cases z
 refine wpAny_unbindName_local hk hn hm yH fun h' u' E4 hs=>?_
 obtain⟨oL,_,_,Ex,_⟩:=id hn;refine h _ ⟨I.ok,I.os,I.bare,#[Ch],#[Xw],fun y c e=>?_,I.free,I.KS,fun p hp=>?_,fun b ob e=>?_,by simpa using I.len⟩
 ·exact (hs.2 b #[RA]).trans #[ST]
 ·obtain⟨sl,e1⟩:=I.base.slot b o e n hb hx;exact⟨sl,(hs.2 b #[RA]).trans e1⟩
 ·obtain⟨o',e1⟩:=I.base.there b o e hx;exact⟨o',(hs.2 b #[RA]).trans e1⟩
 ·by_cases hj:j=i
  ·subst hj;rw [dM hiσ] at e2;cases e2
  ·rw [d8 (cX hj)] at e2;obtain⟨u',r',q⟩:=hl j y v' e1 e2 e3;refine⟨u',r',?_⟩;rcases q with ⟨k,e⟩ | ⟨k,c,e,z⟩
   ·refine .inl ⟨k,?_⟩;have:y≠x:=fun e=>hj (ze6 hN e1 (e ▸ hi))
    simp [this,e]
   ·exact .inr #[Xv]
 ·obtain⟨w',z⟩:=I.cell y c e;exact#[Xa]
 ·obtain⟨e,n,ne,nf,d⟩:=I.pin p hp;exact⟨(hs.2 p.1 ne).trans e,n,ne,nf,d⟩
 ·refine (I.hok b ob e).NH (fun c w' hc q=>(hs.2 c ?_).trans q) #[UH] fun _ _ q=>q
  rintro rfl;rcases hc with rfl | hc
  ·rw [I.free] at e; cases e
  ·rw [I.free] at hc; cases hc
theorem Inv.QG {a:Addr} {o:HO} (I:Inv X mO σ H s) (hn:H a=none) (h0:X.s₀.heap.get? a=none) (hL:a≠X.env.locals) (hc:∀ x c,X.env.cells.lookup x=some c->c≠a) (hp:∀ p∈X.pn++mO,p.1≠a) (new:zab X.prog X.w #[Ug] s.heap a o) :
  Inv X mO σ #[Ug] s:=by
 have hok:HOk X.prog X.w #[Ug] s.heap:=fun b u e=>by
  by_cases hb:b=a
  ·subst hb;rw [zb] at e;cases e;exact new
  ·rw [zg hb] at e;exact #[VS].NH (fun c v _ q=>q) (fun c q=>by rw [zg (zl q hn)]; exact q) fun c xs q=>by rw [zg (zl q hn)]; exact q
 refine⟨I.ok,I.os,I.bare,#[R8],I.loc,I.cell,?_,fun x c e=>?_,fun p G9=>?_,hok,I.len⟩
 ·rw [zg (fun z=>by rw [z,h0] at e; cases e)];exact I.base.free b u e n hx
 ·have:=I.base.MS b xs e;rw [zg (zl this hn)]; exact this
 ·have:=I.base.M7 b u xs e;rw [zg (zl this hn)]; exact this
 ·obtain⟨m1,this⟩:=I.base.Nb b ps e;exact⟨m1,by rw [zg (zl this hn)]; exact this⟩
 ·rw [zg (cX hL)]; exact I.free
 ·rw [zg (hc x c e)]; exact I.KS x c e
 ·obtain⟨e,n,ne,nf,d⟩:=I.pin p G9;exact⟨e,by rw [zg (hp p G9)]; exact n,ne,nf,d⟩
end
abbrev Cx.Ml (X:Cx) (e:Addr):Cx:={ X with A:=X.A.mark (some #[UV]),calm:=false,xe:=fun _ _=>False }
section
variable {X:Cx} {mO:List (Addr×Obj)} {σ:St} {H:Hp} {s:Shared} {e:Addr}
theorem Cx.Ok.Ml (ok:X.Ok) (e:Addr):(X.Ml e).Ok :=
 ⟨ok.mod,ok.kind,ok.glob,ok.blt,ok.above,ok.inj,ok.has,ok.cab,fun z=>(by cases z),ok.frames,ok.stk,ok.exf,ok.bs,ok.bsz,ok.Qi,ok.QD,ok.NO,ok.frf⟩
theorem Inv.Ml (I:Inv X mO σ H s) (e:Addr):Inv (X.Ml e) mO σ H s:=⟨I.ok.Ml e,I.os,I.bare,I.base,I.loc,I.cell,I.free,I.KS,I.pin,I.hok,I.len⟩
theorem Inv.QH (I:Inv (X.Ml e) mO σ H s) (ok:X.Ok):Inv X mO σ H s:=⟨ok,I.os,I.bare,I.base,I.loc,I.cell,I.free,I.KS,I.pin,I.hok,I.len⟩
theorem zhQ {E:Value->Shared->Prop} {g:Array GenState} {d:Drawn} {os:OsState} {S:Addr} {Q:Bool->Shared->Prop} (X:K.In h) (he:∃ o,h.get? e=some o/\o.cls = .ref C) (hk:bZ K #[Rl] (.ref S)=some true)
  (hs:bC K S (.type "BaseException")=some true) (q:Q true ⟨h,g,d,tk,os⟩):wpAny M A (excMatches #[UV] (.ref S)) Q E ⟨h,g,d,tk,os⟩:=by
 obtain⟨l1,l2,l3⟩:=lQ (M:=M) X hk;unfold excMatches isInstance;refine aa (aa (l1.at ?_));rw [tc_notTuple];refine ag (de rfl (aa (ag ?_)));dsimp only
 (simp only [dS,fP])
 refine aa (aa (aa ?_));unfold isExcClass;refine aa (l2.at (g8 rfl ((gW X hs).at ?_)));refine de rfl (ag (ag ?_));refine aa ((zfm he M).at ?_);refine aa (aa (aa (l3.at (g8 rfl (ag (ag ?_))))));exact ag q
end
noncomputable def Ends.but (D:Ends) (i:Nat):Ends:={ nx:=fun σ H=>D.nx #[V4] H,rt:=D.rt,bk:=fun σ H=>D.bk #[V4] H,ct:=fun σ H=>D.ct #[V4] H }
noncomputable def zq0 (K:af) (S:Addr) (i:Nat) (tb:XK->TS) (th:TS):TS:=fun D σ H =>
 tb (fun cls _ H'=>∃ C,cls = .ref C/\bZ K #[Rl] (.ref S)=some true/\∀ e,H' e=none->th (D.but i) (σ.set i (some #[UV])) (mR H' e (zmC e C))) D σ H
section
variable {X:Cx} {x n:Str} {S:Addr} {i:Nat} {body yY:List Stmt} {b₀:Stmt} {tb:XK->TS} {th:TS} {np xP pos:Pos}
theorem zpt (hex:X.ex = []) (Fz:X.stack=X.env :: X.outer) (yN:X.env.frame=some X.env.locals) (hg:Gl X x) (hm:X.mg x=some (.ref S)) (hS:bC X.K S (.type "BaseException")=some true)
  (hN:X.N.Nodup) (hi:X.N[i]? = some n) (hk:X.env.scope.names.lookup n=some .local)
  (hb:∀ (xe:Value->Shared->Prop) (mO:List (Addr×Obj)) (σ:St) (E:XK),zdL (CX1 X.prog X.w) (X.OK xe) mO σ E->zjJ (X.OK xe) mO σ body (tb E))
  (hh:∀ e:Addr,PSs (X.Ml e) (b₀ :: yY) th) (hd:(x == ("__debug__" : Str))=false:=by decide) :
  PS X (.Try body [.ExceptHandler (some (.Name x np)) (some n) (b₀ :: yY) xP] [] [] pos) (zq0 X.K S i tb th):=by
 intro mO s σ H D I h;refine wpAny_Try_except ?_;refine bR (hb (fun ev s1=>wpAny #[on] X.A (noteFrame ev X.env) (fun _ s₂=>wpAny #[on] X.A (setFlight ev none) (fun _ s₃=>wpAny #[on] X.A (handleBy ev X.env [ExceptHandler.ExceptHandler (some (Expr.Name x np)) (some n) (b₀ :: yY) xP]) #[X2] X.xe s₃) X.xe s₂) X.xe s1) mO σ _ ?_ s H D (I.OK _) h) (fun f s1 q=>?_) fun ev s1 z=>z
 ·
  intro H1 s1 ev s2 I1 hq;have I1:=I1.KL;obtain⟨e,C,H',B,rfl,os,bare,L,C',hC,ub,q⟩:=hq;cases hC;obtain⟨t,fl⟩:=L.fly;have vo:∀ b∈frs X.stack,H1 b=none:=I1.Mv;show wpAny _ _ (noteFrame _ _) _ _ _;have fl0:B.FlyingW (X.env :: X.outer) e #[Rl] t s2.heap:=by rw [<- Fz]; exact fl
  refine wpAny_looks_onW (base:=B) (outer:=X.outer) (by rw [<- Fz]; exact I1.ok.frames) yN fl0 fun h2 held u2=>?_
  refine wpAny_landsW held fun h3 Fy u3=>?_
  have Bp:∀ (h4:Heap),B.FlyingW (X.env :: X.outer) e #[Rl] t h4->s2.heap.UpToSlots h4->∀ (tk:Nat),Inv X mO σ H' ⟨h4,s2.gens,s2.drawn,tk,s2.os⟩:=by
   intro h4 EF u4 tk;refine I1.Qx (s':=⟨h4,s2.gens,s2.drawn,tk,s2.os⟩) (ch:=[]) os ?_ (L.hok.kept EF.1) bare (fun b z=>absurd z #[M]);have U:=L.un vo;refine⟨fun b o z nn hb _=>EF.1 _ _ (L.keep b o z nn hb),fun b o z nn hb _=>?_,U.free,fun b o z _=>?_,L.MS,L.M7,L.Nb⟩
   ·obtain⟨sl,z1⟩:=L.slot b o z nn hb;obtain⟨_,ob,zo,nd⟩:=I1.stack.mem hb;rw [z] at zo;cases zo;obtain⟨Bb,z2⟩:=u4 b _ z1 nd;exact⟨Bb,z2⟩
   ·by_cases hb:b∈frs X.stack
    ·obtain⟨sl,z1⟩:=L.slot b o z (vo b hb) hb;obtain⟨_,ob,zo,nd⟩:=I1.stack.mem hb;rw [z] at zo;cases zo;obtain⟨Bb,z2⟩:=u4 b _ z1 nd;exact⟨_,z2⟩
    ·obtain⟨o',z1⟩:=L.there b o z hb;exact⟨o',EF.1 _ _ z1⟩
  have I3:=Bp h3 Fy (u2.trans u3) s2.toks;refine wpAny_handleBy_cons (codeAny_handlers_test ?_) (by intro z; cases z);refine zc6 (X:=X.Ml e) (I3.Ml e) hg hm ?_ hd;refine zhQ I3.kIn Fy.there ub hS ?_;rw [if_pos rfl]
  (refine codeAny_handlers_suite_as ?_)
  refine PyProof.Rows.lands_againW Fy fun h4 EF u4=>?_
  have I4:=Bp h4 EF ((u2.trans u3).trans u4) s2.toks;have ne:H' e=none:=L.fresh;have e0:X.s₀.heap.get? e=none:=by
   cases z:X.s₀.heap.get? e with
   | none=>rfl
   | some o =>
    obtain⟨o',z'⟩:=I1.base.there e o z (by rw [hex]; simp);rw [L.new] at z'; cases z'
  have I5:Inv X mO σ (mR H' e (zmC e C)) ⟨h4,s2.gens,s2.drawn,s2.toks,s2.os⟩:=by
   refine I4.QG ne e0 (fun z=>?_) (fun y c hc z=>?_) (fun p hp z=>?_) ?_
   ·obtain⟨m,⟨o,_,_,ho,_⟩,_⟩:=I1.loc;rw [<- z,L.new] at ho;cases ho
   ·obtain⟨v,o,ho,_⟩:=I1.cell y c hc;rw [z,L.new] at ho;cases ho
   ·have:=(I1.pin p hp).1;rw [z,L.new] at this;cases this
   ·obtain⟨ob,ho,yH⟩:=EF.there;exact⟨⟨ob,ho,yH⟩,⟨ob,ho⟩,fun h1 h2 ⟨o,z,c⟩ k=>⟨o,k o z,c⟩⟩
  refine zci (X:=X.Ml e) (v:=.ref e) (I5.Ml e) hN hi (.inl hk) rfl (fun s6 I6=>?_) (.inr hk);refine bR (hh e mO s6 _ _ (D.but i) I6 (q e ne)) (fun f s7 q7=>?_) fun _ _ z=>z.elim
  have fin:∀ {σ':St} {H7:Hp} {R:Shared->Prop},Inv (X.Ml e) mO σ' H7 s7->(∀ s8,Inv X mO (σ'.set i none) H7 s8->R s8)->wpAny #[on] X.A (do bindName X.env n ci; unbindBehindTheSuite X.env n xP) (fun _ s8=>R s8) X.xe s7:=by
   intro σ' H7 R I7 hR;have I7:=I7.QH I.ok;refine aa (wpAny_bindName (zci (v:=.non) I7 hN hi (.inl hk) rfl (fun s8 I8=>?_) (.inr hk)));unfold unbindBehindTheSuite;refine gk ?_;have Cz:i < σ'.length:=by rw [I7.len]; exact (aj.mp hi).1
   refine zkU (v:=.non) I8 hN hi hk (by rw [dM Cz]) fun s9 I9=>hR s9 ?_
   rw [List.set_set] at I9;exact I9
  cases f with
  | next =>
   obtain⟨σ',H7,I7,q8⟩:=q7;exact fin I7 fun s8 I8=>⟨_,_,I8,q8⟩
  | brk =>
   obtain⟨σ',H7,I7,q8⟩:=q7;exact fin I7 fun s8 I8=>⟨_,_,I8,q8⟩
  | cont =>
   obtain⟨σ',H7,I7,q8⟩:=q7;exact fin I7 fun s8 I8=>⟨_,_,I8,q8⟩
  | ret v =>
   obtain⟨u,σ',H7,I7,r,q8⟩:=q7;exact fin I7 fun s8 I8=>⟨u,_,_,I8,r,q8⟩
 ·cases f with
  | next=>exact eP (SP.KL q)
  | ret v=>exact SP.KL q
  | brk=>exact SP.KL q
  | cont=>exact SP.KL q
end
structure M4 (k:Nat) (A:Around):Prop where
 dp:A.depth+3*k+5 < recursionLimit
 un:A.units+16*k+200 < cLine
theorem M4.of {e:Addr} (r:LU k A):M4 k (A.mark (some #[UV])):=⟨r.dp,r.un⟩
theorem M4.deeper (r:M4 (k+1) A) (env:Env):M4 k (A.deeper env) :=
 ⟨by have:=r.dp; show A.depth+1+3*k+5 < _; lia,by have:=r.un; show A.units+3+16*k+200 < _; lia⟩
structure Qe (P:Program) (w:World) (K:af) (mg:Str->Option Value) (base:Heap) (k:Nat) (f:Addr) (fd:FuncData) (ps:List Str) (sp:Sp):Prop where
 len:∀ vs H Q E,sp vs H Q E->vs.length=ps.length
 run:∀ (A:Around) (outer:List Env) (s:Shared) (H:Hp) (args:Args) (us:List Value) (vs:List V) (Q:VK) (E:XK),M4 k A->Qf P w K mg base A outer s H->BindsTo s fd args #[Ws]->zM vs us->sp vs H Q E ->
  codeAny #[UF] A (.call #[SL] args) (CR CX0 outer P w H s Q E) s
abbrev cxH (P:Program) (w:World) (K:af) (mg:Str->Option Value) (base:Heap) (N:List Str) (qual:Str) (scope:Scope) (f:Addr) (cd:Value) (A:Around) (outer:List Env) (s:Shared) (H:Hp) (E:XK):Cx :=
 { zb1 CX0 P w K mg base N qual scope f cd A outer s H E with calm:=false,xe:=fun _ _=>False }
section
variable {P:Program} {w:World} {K:af} {mg:Str->Option Value} {base:Heap}
theorem zpu {f:Addr} {name:Str} {params:Arguments} {body:List Stmt} {dV kV:Value} 
  {ps:List Str} (lk:K.lookup f=some ⟨oc,od,.func #[IR],yA⟩) (uJ:eC K nA qual=true) (S:Ko N ps scope)
  (len:∀ vs H Q E,sp vs H Q E->vs.length=ps.length)
  (qG:∀ (A:Around) (outer:List Env) (s:Shared) (H:Hp) (vs:List V) (Q:VK) (E:XK),M4 k #[Ul]->sp vs H Q E ->
   ∃ t,PSs #[RQ] body t/\t { nx:=fun _ H'=>Q .non H',rt:=Q } #[SY] H) :
  Qe P w K mg base (k+1) f #[IR] ps sp:=by
 refine#[T4];have hl:=len _ _ _ _ uL;have KX:K.In s.heap:=e0.mod.kin.keeps fun b o e=>#[XM].1
 have lim:s.heap.NoLimit:=e0.mod.nolimit.keeps fun b o e=>#[XM].1
 have su:∀ y∈ps.zip us,scope.names.lookup y.1=some .local\/(scope.names.lookup y.1=some .cell/\((cellsFrom #[ul] scope.names []).lookup y.1).isSome=true):=fun ⟨n,v⟩ hy=>by
  rcases S.par n (gH hy).1 with q | q
  ·exact .inl q
  ·exact .inr ⟨q,gd _ _ _ (.inl q)⟩
 refine jy (by have:=hr.dp; lia) (KX _ _ lk) rfl S.co S.gen rfl (ky KX uJ) (hb _ _ _ _ ?_);refine ir S.kind su fun env he s1 x=>?_
 subst he;refine#[UR];obtain⟨t,ht,hq⟩:=qG A outer s H vs Q E (hr.deeper _) uL;have e1:Qf P w K mg base { A with handled:=none } outer s H:=⟨e0.frames,e0.mod,e0.bs,e0.bsz,e0.NO,e0.frf,e0.hok,e0.bare⟩;have I0:Inv (zb1 CX0 P w K mg base N qual scope f nA { A with handled:=none } outer s H E) [] #[SY] H s1:=zf9 S rfl e1 hl r x;have I:Inv #[RQ] [] #[SY] H s1 :=
  ⟨⟨I0.ok.mod,I0.ok.kind,I0.ok.glob,I0.ok.blt,I0.ok.above,I0.ok.inj,I0.ok.has,I0.ok.cab,fun z=>(by cases z),I0.ok.frames,I0.ok.stk,I0.ok.exf,I0.ok.bs,I0.ok.bsz,I0.ok.Qi,I0.ok.QD,I0.ok.NO,I0.ok.frf⟩,I0.os,I0.bare,I0.base,I0.loc,I0.cell,I0.free,I0.KS,I0.pin,I0.hok,I0.len⟩
 refine bR (ht [] s1 #[SY] H _ I hq) (fun fl s' hs=>?_) fun e s' hs=>hs.elim
 have fin:∀ {σ':St} {H':Hp} {v:V} {u:Value},Inv #[RQ] [] σ' H' s'->RelV v u->Q v H'->CE outer P w H s Q u s' :=
  fun {σ' H' v u} J rv q=>⟨v,H',J.os,J.bare,J.base,J.hok,rv,q⟩
 cases fl with
 | ret u =>
  obtain⟨v,σ',H',J,rv,q⟩:=hs;exact fin J rv q
 | next =>
  obtain⟨σ',H',J,q⟩:=hs;exact fin (v:=V.non) (u:=ci) J rfl q
 | brk =>
  obtain⟨_,_,_,q⟩:=hs;exact bV q
 | cont =>
  obtain⟨_,_,_,q⟩:=hs;exact bV q
theorem Fun.okH {x:Str} {st:Stmt} {f:Addr} {ps:List Str} (F:Fun K x qual st f fd) (S:Ko N ps (zi st)) (len:∀ vs H Q E,sp vs H Q E->vs.length=ps.length)
  (qG:∀ (nA:Value) (A:Around) (outer:List Env) (s:Shared) (H:Hp) (vs:List V) (Q:VK) (E:XK),M4 k #[RM]->sp vs H Q E ->
   ∃ t,PSs (cxH P w K mg base N qual (zi st) f nA A outer s H E) (zaX st) t/\t { nx:=fun _ H'=>Q .non H',rt:=Q } #[SY] H):Qe P w K mg base (k+1) f fd ps sp:=by
 obtain⟨oc,od,kV,doc,pm,an,nA,ct,yA,rfl,lk,uJ⟩:=F.ex;exact zpu lk uJ S len fun A outer s H vs Q E hr uL=>qG nA A outer s H vs Q E hr uL
end
section
variable {X:Cx} {k:Nat} {f:Addr} {fd:FuncData} {ps:List Str} {sp:Sp} {x:Str} {p pos:Pos} {e:Expr} {es:List Expr} {t:TA}
theorem zmF (F:Qe X.prog X.w X.K X.mg X.base k f fd ps sp) (hr:M4 k X.A) (hg:Gl X x) (hm:X.mg x=some #[SL]) (hk:cY X.K #[SL]=true) (hb:Binds X.K fd ps [])
  (ha:PA X (e :: es) t) (Br:(x == ("__debug__" : Str))=false:=by decide) (he:starEach (e :: es) X.env=#[FB] :: starEach es X.env:=by rfl) (oR:#[Do].any (·.1)=false:=by rfl) :
  PE X (.Call #[X5] (e :: es) [] pos) (zoF sp [] E0 t):=by
 intro mO s σ H Q I h;refine eR #[Wg];refine eU (h₀:=X.base) I.ok.mod.kin hk (thn #[FM] fun us s1 ⟨vs,H1,I1,r,q⟩=>⟨I1.kIn,?_⟩) he oR;have r2:zM (vs++[]) (us++[]):=r.append .nil;have hl:(us++[]).length=ps.length:=by rw [<- r2.length]; exact F.len _ _ _ _ q
 refine gG (fH (F.run X.A X.stack s1 H1 ⟨us,[]⟩ (us++[]) (vs++[]) Q E0 hr I1.QP (hb s1 us I1.kIn hl) r2 q) fun r s' hq=>?_);cases r with
 | error e=>exact hq.elim
 | ok fl =>
  cases fl with
  | ret u=>exact I1.after hq
  | next=>exact bV hq
  | brk=>exact bV hq
  | cont=>exact bV hq
end
theorem zdA:∀ {bs:List Bool} {us:List Value},zM (bs.map V.bl) us->us=bs.map fj
 | [],_,r=>by cases r; rfl
 | b :: bs,_,r=>by
  cases r with
  | cons r1 r2 =>
   rw [zdA r2];cases r1;rfl
theorem zew {h:Heap}:∀ (bs:List Bool),∃ as,ReadsAll h (bs.map fj) (bs.map mL) as
 | []=>⟨_,.nil⟩
 | b :: bs=>by
  obtain⟨as,r⟩:=zew (h:=h) bs;exact⟨_,.cons (by constructor) r⟩
theorem zex:∀ (bs:List Bool),(bs.map mL).all Spec.Shape.bool.has=true
 | []=>rfl
 | _ :: bs=>by
  rw [bj,jX,zex bs];rfl
theorem zhR {bs:List Bool} (k:Bool) (y:Value) (hy:y∈bs.map fj) (A:Around) (s:Shared):jJ A s y (.bool k) (isBoolOf k y):=by
 obtain⟨as,r⟩:=zew (h:=s.heap) bs;exact eq_isBoolOf k r (zex bs) y hy A s
theorem zdM (k:Bool):∀ bs:List Bool,List.countP (isBoolOf k) (bs.map fj)=bs.count k
 | []=>rfl
 | b :: bs=>by
  rw [bj,List.countP_cons,List.count_cons,zdM k bs];rfl
section
variable {X:Cx}
noncomputable def znU:V->List V->Hp->VK->Prop:=fun x vs H Q=>∃ (l:Addr) (bs:List Bool) (k:Bool),x = .ref l/\vs = [.bl k]/\H l=some (.lst (bs.map V.bl))/\Q (.int ((bs.count k:Nat):Int)) H
theorem zkV:MtM X "list.count" znU:=by
 intro mO s σ H x vs v us Q I rx rv h;obtain⟨l,bs,k,rfl,rfl,hH,q⟩:=h;cases rx;obtain⟨u,rfl,ru⟩:=rv.one;cases ru;obtain⟨z,mT,n,r,hl,e⟩:=I.PF hH;have hi:=zdA r;subst hi;refine eV F.slot_list_count ⟨_,e,rfl⟩ F.entry_list_count (F.args_list_count_2 _ _) (SeqAt.list_countAt l _ n _ _ (.bool k) (isBoolOf k)) ⟨e,fun y hy=>zhR (bs:=bs) k y (by simpa using hy) _ _,?_⟩;rw [List.toList_toArray,zdM];exact⟨.int ((bs.count k:Nat):Int),H,I.tok _,⟨_,rfl⟩,q⟩
noncomputable def znV:V->List V->Hp->VK->Prop:=fun x vs H Q=>∃ (l:Addr) (bs:List Bool) (k:Bool) (j:Nat),x = .ref l/\vs = [.bl k]/\H l=some (.lst (bs.map V.bl))/\bs[j]? = some k/\(∀ m,m < j->bs[m]? = some (!k))/\j < 1000/\Q (.int (j:Int)) H
theorem zkW:MtM X "list.index" znV:=by
 intro mO s σ H x vs v us Q I rx rv h;obtain⟨l,bs,k,j,rfl,rfl,hH,hj,hm,h1000,q⟩:=h;cases rx;obtain⟨u,rfl,ru⟩:=rv.one;cases ru;obtain⟨z,mT,n,r,hl,e⟩:=I.PF hH;have hi:=zdA r;subst hi;obtain⟨hjl,hje⟩:=aj.mp hj;refine eV F.slot_list_index ⟨_,e,rfl⟩ F.entry_list_index (F.args_list_index_2 _ _) (SeqAt.list_indexAt l _ n _ _ (.bool k) (isBoolOf k) j (by simpa using hjl) #[O] ?_ ?_) ⟨e,fun y hy=>zhR (bs:=bs) k y (by simpa using hy) _ _,?_⟩
 ·simp [isBoolOf,hje]
 ·intro m h1 h2;have:=hm m h2;obtain⟨_,hme⟩:=aj.mp this;simp [isBoolOf,hme]
 ·exact⟨.int (j:Int),H,I.tok _,⟨_,rfl⟩,q⟩
end
noncomputable def strsOf:List Expr->Option (List Str)
 | []=>some []
 | .Constant (.str i) _ _ :: r=>(strsOf r).map (i :: ·)
 | _=>none
noncomputable def zhS (ns:List Str):TA:=fun _ H Q=>Q (ns.map V.str) H
theorem znW {X:Cx}:∀ (es:List Expr) (ns:List Str),strsOf es=some ns->PA X es (zhS ns):=by
 intro es;induction es with
 | nil =>
  intro ns h;have e:ns = []:=(aO h).symm;subst e;exact zf
 | cons e r ih =>
  intro ns h;unfold strsOf at h;split at h
  ·rename_i heq
   cases heq
  ·rename_i i j p r' heq
   injection heq with e1 e2
   subst e1 e2;cases hr:strsOf r with
   | none=>rw [hr] at h; cases h
   | some ms =>
    rw [hr] at h;have e:i :: ms=ns:=aO h;subst e;exact za zV (ih ms hr)
  ·cases h
theorem zmG {X:Cx} {i:Nat} {x:Str} {pos' qe qI:Pos} {rest:List Stmt} {u:TS} {es:List Expr} {ns:List Str} (h:strsOf es=some ns) (hN:X.N.Nodup) (hi:X.N[i]? = some x) (hx:Loc X.env.scope x)
  (hf:X.fn x=true\/X.env.scope.names.lookup x=some .local) (hr:PSs X rest u):PSs X (.Assign [.Name x pos'] #[U9] qI :: rest) (zaE (zfM (ziK (zhS ns)) (zaR i)) u):=by
 have h1:PE X #[U9] (ziK (zhS ns)):=@zP X es (zhS ns) qe (@znW X es ns h);have h2:PS X (.Assign [.Name x pos'] #[U9] qI) (zfM (ziK (zhS ns)) (zaR i)):=zq hN hi hx h1 (by rfl) hf;exact ze h2 hr
section
variable {κ:Type} [DecidableEq κ]
noncomputable def zi4 (mZ:List (κ×V)) (k:κ):Option V:=(mZ.find? fun kv=>decide (kv.1=k)).map (·.2)
noncomputable def putK (mZ:List (κ×V)) (k:κ) (v:V):List (κ×V) :=
 if (mZ.any fun kv=>decide (kv.1=k))=true then mZ.map (fun kv=>if kv.1=k then (kv.1,v) else kv) else mZ++[(k,v)]
theorem zhT {p:κ×V} {r:List (κ×V)} {k:κ} (e:p.1=k):zi4 (p :: r) k=some p.2:=by simp [zi4,gM,e]
theorem zhU {p:κ×V} {r:List (κ×V)} {k:κ} (e:¬ p.1=k):zi4 (p :: r) k=zi4 r k:=by simp [zi4,gM,e]
theorem zhV (k:κ):∀ mZ:List (κ×V),(mZ.any fun kv=>decide (kv.1=k))=(zi4 mZ k).isSome
 | []=>rfl
 | p :: r=>by
  rw [gh];by_cases e:p.1=k
  ·simp only [zhT e,decide_eq_true e,Bool.true_or,kE]
  ·rw [zhU e,decide_eq_false e,Bool.false_or]; exact zhV k r
theorem zey (mZ:List (κ×V)) (k:κ) (v:V):#[Ur].length<=mZ.length+1:=by
 unfold putK;split
 ·rw [ae]; lia
 ·rw [aF,bf,dU]; lia
theorem zec.Po {o:Option V} {u:Option Value} (r:zec o u):o.isSome=u.isSome:=by
 cases o with
 | none=>cases u with
  | none=>rfl
  | some _=>exact (show False from r).elim
 | some _=>cases u with
  | none=>exact (show False from r).elim
  | some _=>rfl
theorem KV.any {mZ:List (κ×V)} {vs:List (κ×Value)} (r:KV mZ vs) (k:κ):(mZ.any fun kv=>decide (kv.1=k))=vs.any fun kv=>decide (kv.1=k):=by
 unfold KV at r;induction r with
 | nil=>rfl
 | cons h t ih=>rw [gh,gh,ih,h.1]
theorem KV.QY {mZ:List (κ×V)} {vs:List (κ×Value)} (r:KV mZ vs) (k:κ) {u:Value} (ry:RelV y u) :
  KV (mZ.map fun kv=>if kv.1=k then (kv.1,y) else kv) (vs.map fun kv=>if kv.1=k then (kv.1,u) else kv):=by
 unfold KV at r |-;induction r with
 | nil=>exact .nil
 | @cons p q ps qs h t ih =>
  rw [bj,bj];refine .cons ?_ ih;obtain⟨h1,h2⟩:=h;by_cases e:p.1=k
  ·rw [if_pos e,if_pos (h1.symm.trans e)]; exact⟨h1,ry⟩
  ·rw [if_neg e,if_neg (fun z=>e (h1.trans z))]; exact⟨h1,h2⟩
theorem KV.put {mZ:List (κ×V)} {vs:List (κ×Value)} (r:KV mZ vs) (k:κ) {u:Value} (ry:RelV y u):KV (putK mZ k y) (stored vs k u):=by
 unfold putK stored;rw [r.any k];by_cases e:(vs.any fun kv=>decide (kv.1=k))=true
 ·rw [if_pos e,if_pos e]; exact r.QY k ry
 ·rw [if_neg e,if_neg e]; exact dh r ⟨rfl,ry⟩
theorem KV.length {mZ:List (κ×V)} {vs:List (κ×Value)} (r:KV mZ vs):mZ.length=vs.length:=gg r
end
theorem zoL {P:Program} {k:Key} {u:Value} (r:RelV (kV k) u):(zaC P w).is k u=true:=by
 cases k with
 | inl i=>obtain⟨t,e⟩:=(show ∃ t,u=c9 i t from r); subst e; exact zhm P w i t
 | inr x=>obtain⟨t,e⟩:=(show ∃ t,u=jc x t from r); subst e; exact zhn P w x t
theorem zgq {P:Program} {w:World}:∀ {ks:List Key} {us:List Value},zM (ks.map kV) us->ItemsAre (zaC P w) ks us
 | [],_,r=>by rw [kA] at r; cases r; exact .nil
 | k :: ks,_,r=>by
  rw [bj] at r;cases r with
  | cons h t=>exact .cons (zoL h) (zgq t)
abbrev KT (H:Hp):List (List Key×V)->List (List Key×Addr×Value)->Prop:=Paired fun p q=>p.1=q.1/\H q.2.1=some (.tup (p.1.map kV))/\RelV p.2 q.2.2
theorem KT.val {xs:List (List Key×Addr×Value)} (r:KT H mZ xs) (k:List Key):zec (zi4 mZ k) ((atKey xs k).map (·.2)):=by
 induction r with
 | nil=>exact d9
 | @cons p q ps qs h t ih =>
  obtain⟨h1,_,h2⟩:=h;by_cases e:p.1=k
  ·have e':q.1=k:=h1.symm.trans e;have b:atKey (q :: qs) k=some q.2:=by simp [atKey,gM,e']
   rw [zhT e,b]; exact h2
  ·have e':¬ q.1=k:=fun z=>e (h1.trans z)
   have b:atKey (q :: qs) k=atKey qs k:=by simp [atKey,gM,e']
   rw [zhU e,b]; exact ih
theorem KT.QY {xs:List (List Key×Addr×Value)} (r:KT H mZ xs) (k:List Key) {u:Value} (ry:RelV y u) :
  KT H (mZ.map fun kv=>if kv.1=k then (kv.1,y) else kv) (xs.map (putAt k u)):=by
 induction r with
 | nil=>exact .nil
 | @cons p q ps qs h t ih =>
  rw [bj,bj];refine .cons ?_ ih;obtain⟨h1,h2,h3⟩:=h;unfold putAt;by_cases e:p.1=k
  ·rw [if_pos e,if_pos (h1.symm.trans e)]; exact⟨h1,h2,ry⟩
  ·rw [if_neg e,if_neg (fun z=>e (h1.trans z))]; exact⟨h1,h2,h3⟩
theorem KT.put {xs:List (List Key×Addr×Value)} (r:KT H mZ xs) (k:List Key) {b:Addr} {u:Value} (hb:H b=some #[Uu]) (ry:RelV y u) :
  KT H (putK mZ k y) (storedH xs k b u):=by
 have e:(mZ.any fun kv=>decide (kv.1=k))=(atKey xs k).isSome:=by
  rw [zhV,(r.val k).Po,Option.isSome_map]
 unfold putK storedH;rw [e];by_cases q:(atKey xs k).isSome=true
 ·rw [if_pos q,if_pos q]; exact r.QY k ry
 ·rw [if_neg q,if_neg q]; exact dh r ⟨rfl,hb,ry⟩
theorem KT.keeps {xs:List (List Key×Addr×Value)} (r:KT H mZ xs) (ht:∀ b ys,H b=some (.tup ys)->H' b=some (.tup ys)):KT H' mZ xs :=
 Paired.Q3 r fun _ _ z=>⟨z.1,ht _ _ z.2.1,z.2.2⟩
section
variable {P:Program} {w:World} {H:Hp} {h:Heap} {a:Addr}
theorem zoM {u:HO} (ok:HOk P w H h) (e:Rd H a u):zab P w H h a u:=e.ok ok
theorem zqo {mZ:List (Key×V)} (ok:HOk P w H h) (e:Rd H a (.dK mZ)):mZ.length<=sizeLine/\(a == sysModules)=false/\∃ vs,KV mZ vs/\h.DictOf (zaC P w) a vs :=
 show zab P w H h a (.dK mZ) from zoM ok e
theorem zqp {mZ:List (Key×V)} (ok:HOk P w H h) (e:H a=some (.dK mZ)):mZ.length<=sizeLine/\(a == sysModules)=false/\∃ vs,KV mZ vs/\h.DictOf (zaC P w) a vs:=zqo ok (.inl e)
theorem zmH {ks:List Key} (ok:HOk P w H h) (e:H a=some (.tup (ks.map kV))):#[Si].is h ks a:=by
 obtain⟨_,mT,r,o,h1,h2,n,h3⟩:=(show zab P w H h a (.tup (ks.map kV)) from ok a _ e);exact⟨o,mT.toArray,n,h1,h2,h3,by simpa using zgq r⟩
theorem zqq (ok:HOk P w H h) (e:Rd H a #[VO]):mZ.length<=sizeLine/\(a == sysModules)=false /\
  ∃ xs,KT H mZ xs/\h.DictOfH #[Si] a xs:=by
 obtain⟨z,y,xs,r,o,es,ep,h1,h2,h3,h4,h5⟩:=(show zab P w H h a #[VO] from zoM ok e);refine⟨z,y,xs,r,o,es,ep,h1,h2,h3,h4,fun x hx=>?_,h5⟩;have all:∀ {l:List (List Key×V)} {m:List (List Key×Addr×Value)},KT H l m->∀ x∈m,#[Si].is h x.1 x.2.1:=by
  intro l m q;induction q with
  | nil=>intro x hx; exact nomatch hx
  | @cons p q ps qs hq t ih =>
   intro x hx;rcases az.mp hx with e | hx
   ·subst e;exact zmH ok (by rw [<- hq.1]; exact hq.2.1)
   ·exact ih x hx
 exact all r x hx
theorem zqr (ok:HOk P w H h) (e:H a=some #[VO]):mZ.length<=sizeLine/\(a == sysModules)=false /\
  ∃ xs,KT H mZ xs/\h.DictOfH #[Si] a xs:=zqq ok (.inl e)
end
noncomputable def zkX (H:Hp) (a:Addr) (y v:V) (H':Hp):Prop :=
 (∃ mZ k,H a=some (.dK mZ)/\y=kV k/\mZ.length < sizeLine/\H'=mR H a (.dK #[Ur])) \/
 ∃ mZ k b,H a=some #[VO]/\y = .ref b/\H b=some #[Uu]/\mZ.length < sizeLine/\H'=mR H a (.dT #[Ur])
theorem zkX.t {a b:Addr} {k:List Key} {v:V} (e:H a=some #[VO]) (eb:H b=some #[Uu]) (hl:mZ.length < sizeLine) :
  zkX H a (.ref b) v (mR H a (.dT #[Ur])):=.inr ⟨mZ,k,b,e,rfl,eb,hl,rfl⟩
section
variable {X:Cx} {mO:List (Addr×Obj)} {σ:St} {H:Hp} {s:Shared} {a:Addr} {y v:V} {u r:Value} {o:Option V} {A:Around} {E:Value->Shared->Prop}
theorem Inv.big (I:Inv X mO σ H s):sysModules < s.heap.objs.size:=by
 have h:mainGlobals < s.heap.objs.size:=(I.mod.glob.keeps I.bk).lt;exact kK #[D] h
theorem zjK {ob:HO} (I:Inv X mO σ H s) (mu:Mut (H a)) (hs:bh a s.heap h') (he:∃ q,h'.get? a=some q) (new:zab X.prog X.w (mR H a ob) h' a ob) :
  Inv X mO σ (mR H a ob) { s with heap:=h',toks:=t' } :=
 I.write (x:=a) (e:=a) mu #[Os] (fun b q hb z=>(hs.2 b hb).trans z) he new
theorem zpv {P:Program} {mZ:List (Key×V)} {vs:List (Key×Value)} (z:mZ.length<=sizeLine) (hd:(a == sysModules)=false) (rel:KV mZ vs) (dd:h'.DictOf (zaC P w) a vs) :
  zab P w H' h' a (.dK mZ):=⟨z,hd,vs,rel,dd⟩
theorem zkY {Q:Unit->Shared->Prop} (hu:A.units+1 < cLine) (I:Inv X mO σ H s) (g:zkX H a y v H') (ry:RelV y u) (rv:RelV v r) (h:∀ s',Inv X mO σ H' s'->Q () s') :
  wpAny #[on] A (setItem #[RC] u r) Q E s:=by
 rcases g with ⟨mZ,k,e,ey,l,eH⟩ | ⟨mZ,k,b,e,ey,eb,l,eH⟩
 ·subst ey eH;obtain⟨z,hd,vs,rel,dd⟩:=zqp I.hok e;have hz:vs.length<=sizeLine:=by rw [<- rel.length]; exact z
  have hl:#[Ur].length<=sizeLine:=by have:=zey mZ k v; lia
  refine wpAny_setItem_pairs (hsz:=hz) (zoL ry) dd fun h' Fx hs=>h _ ?_
  have he:∃ q,h'.get? a=some q:=let ⟨q,_,_,hq,_⟩:=Fx; ⟨q,hq⟩
  exact zjK I (by rw [e]; exact d9) hs he (zpv hl hd (rel.put k rv) Fx)
 ·subst ey eH;cases (show u=aN b from ry);obtain⟨z,hd,xs,rel,dd⟩:=zqr I.hok e;have hz:xs.length<=sizeLine:=by rw [<- gg rel]; exact z
  have hl:#[Ur].length<=sizeLine:=by have:=zey mZ k v; lia
  refine wpAny_setItem_heap (hsz:=hz) (tupleKind_room_in1 hu) (zmH I.hok eb) dd fun h' Fx hs=>h _ ?_
  obtain⟨q,es,ep,hq,h2,h3,h4,_,h5⟩:=Fx;refine zjK I (by rw [e]; exact d9) hs ⟨q,hq⟩ ⟨hl,hd,_,(rel.put k eb rv).keeps fun c ys ec=>?_,q,es,ep,hq,h2,h3,h4,h5⟩;rw [zg (za3 ec e (fun z=>nomatch z))];exact ec
end
noncomputable def zqs (td ty tv:TE):TS:=fun D σ H=>tv σ H fun v H1=>td σ H1 fun x H2=>ty σ H2 fun y H3=>∃ a H4,x = .ref a/\zkX H3 a y v H4/\D.nx σ H4
section
variable {X:Cx} {o i e value:Expr} {pos pos' tY:Pos} {td ty tv:TE}
theorem zjL (hu:X.A.units+1 < cLine) (ho:PE X o td) (hi:PE X i ty) (hv:PE X value tv) (hs:swapsWith value (some (.Subscript o i pos')) pos.line X.env=pure false) :
  PS X (.Assign [.Subscript o i pos'] value pos) (zqs td ty tv):=by
 intro mO s σ H D I h;refine wpAny_Assign_Subscript (thn (hv mO s σ H _ I h) fun r s1 ⟨v,H1,I1,rv,q1⟩=>thn (ho mO s1 σ H1 _ I1 q1) fun u s2 ⟨x,H2,I2,rx,q2⟩=>thn (hi mO s2 σ H2 _ I2 q2) fun iv s3 ⟨y,H3,I3,ry,a,H4,ex,g,q3⟩=>?_) hs;subst ex;obtain rfl:u=aN a:=rx;exact zkY hu I3 g ry rv fun s4 I4=>⟨σ,H4,I4,q3⟩
end
theorem zmI {P:Program} (h:Heap) (hb:sysModules < h.objs.size):zab P w H (h.push { cls:=.type "dict",data:=.dict #[] }) h.objs.size (.dT []) :=
 ⟨aZ _,beq_eq_false_iff_ne.mpr (cX (aQ hb)),[],.nil,_,#[],0,aD _ rfl,⟨rfl,rfl,rfl⟩,rfl,rfl,List.nodup_nil⟩
noncomputable def zpw:TE:=fun _ H Q=>∀ p,H p=none->Q (.ref p) (mR H p (.dT []))
section
variable {X:Cx} {pos:Pos}
theorem zhW:PE X (.Dict [] [] pos) zpw:=fun mO s σ H Q I h =>
 wpAny_Dict_empty ⟨.ref s.heap.objs.size,_,I.laid (a:=s.heap.objs.size) (o:=.dT []) (t':=s.toks) (fun _ _ q=>ai _ q) (ah _) (zmI s.heap I.big),rfl,h _ #[Ti]⟩
end
end L2
namespace PySem
open PyProof.Rows
end PySem
namespace L2
open PySem PySem.Spec PyProof.Rows
end L2
namespace My
open PySem L2 PyProof.Rows
section
variable {K:af}
structure QN (K:af) (H:Hp) (r:Addr) (n:Nat) (rw:List #[EQ]):Prop where
 at':mS K H r (rw.map ng)
 len:rw.length=n
end
end My
end
section
namespace Srt
open PySem PyProof.Rows
variable {arr:Array Keyed} {j nk:Nat} {st₀:SortSt}
noncomputable def Vk (val:Keyed->Int) (xs:Array Keyed) (i:Nat):Int:=match xs[i]? with
 | some p=>val p
 | none=>0
theorem zak {val:Keyed->Int} {xs ys:Array Keyed} {i:Nat} (h:xs[i]? = ys[j]?):Vk val xs i=Vk val ys j:=by unfold Vk; rw [h]
theorem z9 {val:Keyed->Int} {xs:Array Keyed} {i:Nat} {p:Keyed} (h:xs[i]? = some p):Vk val xs i=val p:=by unfold Vk; rw [h]
noncomputable def SIn (val:Keyed->Int) (xs:Array Keyed) (lo hi:Nat):Prop:=∀ i j,lo<=i->i<=j->j < hi->Vk val xs i<=Vk val xs j
noncomputable def DIn (val:Keyed->Int) (xs:Array Keyed) (lo hi:Nat):Prop:=∀ i j,lo<=i->i<=j->j < hi->Vk val xs j<=Vk val xs i
structure SB (κ:SortKind) (a₀:Array Keyed) (st:SortSt):Prop where
 perm:#[wf].Perm a₀
 kind:kindOf st=κ
 failed:failedOf st=none
theorem SB.size {κ:SortKind} {a₀:Array Keyed} {st:SortSt} (h:SB κ a₀ st):#[wf].size=a₀.size:=h.perm.size_eq
theorem SB.mem {κ:SortKind} {a₀:Array Keyed} {st:SortSt} (h:SB κ a₀ st) {i:Nat} (hi:i < a₀.size):∃ p,#[wf][i]? = some p/\p∈a₀.toList:=by
 (have pq:i < #[wf].size:=by rw [h.size]; exact hi)
 exact⟨#[wf][i],getElem?_pos _ i pq,(fB.mp h.perm).mem_iff.mp #[M]⟩
structure SF (κ:SortKind) (a₀:Array Keyed) (lo:Nat) (st₀ st:SortSt):Prop where
 b:SB κ a₀ st
 low:∀ k,k < lo->#[wf][k]? = (arrOf st₀)[k]?
 pend:pendingOf st=pendingOf st₀
theorem SF.refl {κ:SortKind} {a₀:Array Keyed} {lo:Nat} {st:SortSt} (h:SB κ a₀ st):SF κ a₀ lo st st:=⟨h,fun _ _=>rfl,rfl⟩
theorem SF.setArr {κ:SortKind} {a₀:Array Keyed} {lo:Nat} {st₀ st:SortSt} (h:SF κ a₀ lo st₀ st) {xs:Array Keyed} (hp:xs.Perm #[wf]) (hl:∀ k,k < lo->xs[k]? = #[wf][k]?):SF κ a₀ lo st₀ (setArr st xs) :=
 ⟨⟨hp.trans h.b.perm,h.b.kind,h.b.failed⟩,fun k hk=>(hl k hk).trans (h.low k hk),h.pend⟩
section
variable {prog:Program} {w:World} {A:Around} {E:Value->Shared->Prop} {s:Shared} {a₀:Array Keyed} {κ:SortKind} {val:Keyed->Int}
noncomputable def Cmp (prog:Program) (w:World) (A:Around) (s:Shared) (κ:SortKind) (val:Keyed->Int) (a₀:Array Keyed):Prop :=
 ∀ x y,x∈a₀.toList->y∈a₀.toList->∀ (Q:Bool->Shared->Prop) (E:Value->Shared->Prop),Q (decide (val x < val y)) s->wpAny #[or] A (keyLt' κ x.1 y.1) Q E s
theorem zmJ {st:SortSt} {x y:Keyed} {Q:Option Bool->SortSt->Prop} (hC:Cmp prog w A s κ val a₀) (hk:kindOf st=κ) (hx:x∈a₀.toList) (hy:y∈a₀.toList) (h:Q (some (decide (val x < val y))) st) :
  wpS #[or] A E s (lt' x y) Q st:=by
 rw [lt'_eq];refine av (fQ ?_);rw [hk];refine av (g9 (cp (hC x y hx hy _ _ #[Vc])));exact aw h
theorem zZ {st:SortSt} {i:Nat} {p:Keyed} {Q:Keyed->SortSt->Prop} (hi:arr[i]? = some p) (h:Q p st):wpS #[or] A E s (elem' arr i) Q st:=by
 rw [elem'_eq,hi];exact aw h
theorem zfq {st:SortSt} {i:Nat} {Q:Option Bool->SortSt->Prop} (hC:Cmp prog w A s κ val a₀) (hB:SB κ a₀ st) (hi:i < a₀.size) (hj:j < a₀.size) (h:Q (some (decide (Vk val #[wf] i < Vk val #[wf] j))) st) :
  (wpS #[or] A E s (ltAt' i j) Q st):=by
 obtain⟨x,ex,mx⟩:=hB.mem hi;obtain⟨y,ey,my⟩:=hB.mem hj;rw [ltAt'_eq];refine av (fQ ?_)
 (show wpS _ _ _ _ (do let x <- elem' #[wf] i; let y <- elem' #[wf] j; lt' x y) Q st)
 refine av (zZ ex (av (zZ ey (zmJ hC hB.kind mx my ?_))));rw [z9 ex,z9 ey] at h;exact h
theorem zjM {st:SortSt} {i:Nat} {Q:Unit->SortSt->Prop} (h:Q () (setArr st (mirror #[wf] i j ((j - i) / 2)))) :
  (wpS #[or] A E s (reverseSlice' i j) Q st):=by
 ((rw [reverseSlice'_eq]; exact fq h))
theorem zfr {xs:Array Keyed} {i:Nat} (hj:j<=xs.size) (k:Nat):Vk val (mirror xs i j ((j - i) / 2)) k=if i<=k/\k < j then Vk val xs (i+j - 1 - k) else Vk val xs k:=by
 (have e:=j7 (i:=i) hj k)
 by_cases h1:i<=k/\k < j
 ·rw [if_pos h1] at e |-; exact zak e
 ·rw [if_neg h1] at e |-; exact zak e
theorem zbI {xs:Array Keyed} {i:Nat} (hj:j<=xs.size) (heq:∀ k,i<=k->k < j->Vk val xs k=Vk val xs (j - 1)) (k:Nat):Vk val (mirror xs i j ((j - i) / 2)) k=Vk val xs k:=by
 rw [zfr hj];split
 ·(rw [heq _ #[O] #[O],heq k #[O] #[O]])
 ·rfl
theorem zcD {xs:Array Keyed} {lo i:Nat} (hj:j<=xs.size) (hi:lo<=i):∀ k,k < lo->(mirror xs i j ((j - i) / 2))[k]? = xs[k]?:=fun k hk=>by
 rw [j7 hj,if_neg #[O]]
theorem zi5 {xs:Array Keyed} {lo src d:Nat} (hs:src < xs.size) (hd:d<=src) (hl:lo<=src - d):∀ k,k < lo->(bubble xs src d)[k]? = xs[k]?:=fun k hk=>by
 rw [getElem?_bubble hs d hd,if_neg #[O],if_neg #[O]]
noncomputable def zmK (lo a nk:Nat):StateT SortSt Sem AscSt :=
 forIn [a:nk] ((none,a):AscSt) fun _ st=>do
  let x <- ltAt' (lo+st.snd) (lo+st.snd - 1)
  match x with
  | some uS=>if uS=true then pure (fR (none,st.snd)) else pure (cP (none,st.snd+1))
  | _=>pure (fR (some none,st.snd))
noncomputable def zhX (lo n nk:Nat):StateT SortSt Sem #[AC]:=do
 reverseSlice' lo (lo+n)
 let st <- zmK lo n nk
 match st.fst with
 | some r=>pure r
 | none=>pure (some st.snd)
noncomputable def zjN (lo n nk:Nat):StateT SortSt Sem DescSt :=
 forIn [n:nk] ((none,n,0):DescSt) fun _ st=>do
  let x <- ltAt' #[Ww] (lo+st.snd.fst - 1)
  match x with
  | some uS =>
   if uS=true then
    if st.snd.snd > 0 then do
     reverseSlice' (lo+st.snd.fst - (st.snd.snd+1)) #[Ww]
     pure (cP (none,st.snd.fst+1,0))
    else pure (cP (none,st.snd.fst+1,0))
   else do
    let x <- ltAt' (lo+st.snd.fst - 1) #[Ww]
    match x with
    | some Dw =>
     if Dw=true then pure (fR (none,st.snd.fst,st.snd.snd))
     else pure (cP (none,st.snd.fst+1,st.snd.snd+1))
    | _=>pure #[Wo]
  | _=>pure #[Wo]
noncomputable def zhY (lo n nk:Nat):StateT SortSt Sem #[AC]:=do
 liftM (rule "list.sort.descending-run"); let st <- zjN lo (n+1) nk
 match st.fst with
 | some r=>pure r
 | none =>
  if st.snd.snd > 0 then do
   reverseSlice' (lo+st.snd.fst - (st.snd.snd+1)) #[Ww]
   zhX lo st.snd.fst nk
  else zhX lo st.snd.fst nk
theorem zgW (lo nk:Nat):countRun' lo nk=(do
  let st <- zmK lo 1 nk
  match st.fst with
  | some r=>pure r
  | none =>
   if (st.snd == nk)=true then pure (some st.snd)
   else if st.snd > 1 then do
    let x <- ltAt' lo (lo+st.snd - 1)
    match x with
    | some FA=>if FA=true then pure (some st.snd) else do
      reverseSlice' lo (lo+st.snd)
      zhY lo st.snd nk
    | _=>pure none
   else zhY lo st.snd nk):=by
 rw [countRun'_eq];unfold zhY zhX zjN zmK;dsimp only;refine congrArg (bind _) ?_;funext c;obtain⟨r,n⟩:=c;cases r with
 | some r=>rfl
 | none =>
  dsimp only;split
  ·rfl
  ·split
   ·congr 1;funext x;cases x with
    | none=>rfl
    | some FA =>
     dsimp only;split
     ·rfl
     ·congr 1;funext _r;congr 1; funext _u; congr 1; congr 1; funext s2; obtain⟨r2,n2,q2⟩:=s2;cases r2 with
      | some r2=>rfl
      | none =>
       dsimp only;split
       ·congr 1; funext _v; congr 1; funext _w; congr 1; funext s3; obtain⟨r3,n3⟩:=s3; cases r3 <;> rfl
       ·congr 1; funext _w; congr 1; funext s3; obtain⟨r3,n3⟩:=s3; cases r3 <;> rfl
   ·congr 1; funext _u; congr 1; congr 1; funext s2; obtain⟨r2,n2,q2⟩:=s2;cases r2 with
    | some r2=>rfl
    | none =>
     dsimp only;split
     ·congr 1; funext _v; congr 1; funext _w; congr 1; funext s3; obtain⟨r3,n3⟩:=s3; cases r3 <;> rfl
     ·congr 1; funext _w; congr 1; funext s3; obtain⟨r3,n3⟩:=s3; cases r3 <;> rfl
theorem zoN {st:SortSt} {lo a:Nat} {Q:AscSt->SortSt->Prop} (hC:Cmp prog w A s κ val a₀) (hn:lo+nk<=a₀.size) (ha:1<=a) (han:a<=nk) (hB:SF κ a₀ lo st₀ st)
  (hs:SIn val #[wf] lo (lo+a))
  (h:∀ n,a<=n->n<=nk->SIn val #[wf] lo (lo+n)->(n=nk\/Vk val #[wf] (lo+n) < Vk val #[wf] (lo+n - 1))->Q (none,n) st) :
  wpS #[or] A E s (zmK lo a nk) Q st:=by
 unfold zmK;refine cU (I:=fun x c mW=>mW=st/\c=(none,x)/\SIn val #[wf] lo (lo+x)) ?step ?fin ⟨rfl,rfl,hs⟩
 case fin =>
  rintro c mW ⟨rfl,rfl,pB⟩
  (rw [show max a nk=nk by lia] at pB |-)
  (exact h nk han (ah _) pB #[Os])
 case step =>
  (rintro x c mW Ir G' ⟨rfl,rfl,pB⟩)
  dsimp only;refine av (zfq hC hB.b #[O] #[O] ?_);by_cases oP:Vk val #[xL] (lo+x) < Vk val #[xL] (lo+x - 1)
  ·(simp only [oP,decide_true,if_true])
   (exact aw (h x Ir #[O] pB (.inr oP)))
  ·(simp only [oP,decide_false,ba,if_false])
   refine aw ⟨rfl,rfl,fun i j vp tW hj=>?_⟩;by_cases FC:j < lo+x
   ·exact pB i j vp tW FC
   ·have rj:j=lo+x:=by lia
    subst rj;by_cases pq:i=lo+x
    ·(subst pq; exact cK _)
    ·exact cq (pB i (lo+x - 1) vp #[O] #[O]) (Int.not_lt.mp oP)
theorem zmL {st:SortSt} {lo n:Nat} {Q:Option Nat->SortSt->Prop} (hC:Cmp prog w A s κ val a₀) (hn:lo+nk<=a₀.size) (h1:1<=n) (yE:n<=nk) (hB:SF κ a₀ lo st₀ st)
  (hs:DIn val #[wf] lo (lo+n)) (h:∀ m mW,SF κ a₀ lo st₀ mW->1<=m->m<=nk->SIn val #[xL] lo (lo+m)->Q (some m) mW) :
  wpS #[or] A E s (zhX lo n nk) Q st:=by
 unfold zhX;have hsz:lo+n<=#[wf].size:=by rw [hB.b.size]; lia
 refine av (zjM ?_);have qf:=hB.setArr (jv #[wf] lo (lo+n) ((lo+n - lo) / 2)) (zcD hsz (ah _));refine av (zoN hC hn h1 yE qf ?_ fun m Bc wo yZ _=>aw (h m _ qf #[O] wo yZ));intro i j vp tW hj;show Vk val (mirror #[wf] lo (lo+n) ((lo+n - lo) / 2)) i<=Vk val (mirror #[wf] lo (lo+n) ((lo+n - lo) / 2)) j;rw [zfr hsz,zfr hsz,if_pos #[O],if_pos #[O]];exact hs _ _ #[O] #[O] #[O]
theorem zpx {st:SortSt} {lo n:Nat} {Q:DescSt->SortSt->Prop} (hC:Cmp prog w A s κ val a₀) (hn:lo+nk<=a₀.size) (h1:1<=n) (yE:n<=nk) (hB:SF κ a₀ lo st₀ st)
  (hs:DIn val #[wf] lo (lo+n))
  (h:∀ m wq mW,SF κ a₀ lo st₀ mW->n<=m->m<=nk->DIn val #[xL] lo (lo+m)->wq+1<=m->(∀ i,lo+m - (wq+1)<=i->i < lo+m->Vk val #[xL] i=Vk val #[xL] (lo+m - 1))->Q (none,m,wq) mW) :
  wpS #[or] A E s (zjN lo n nk) Q st:=by
 unfold zjN;refine cU (I:=fun x c mW=>∃ wq,c=(none,x,wq)/\SF κ a₀ lo st₀ mW/\DIn val #[xL] lo (lo+x)/\wq+1<=x /\
   (∀ i,lo+x - (wq+1)<=i->i < lo+x->Vk val #[xL] i=Vk val #[xL] (lo+x - 1))) ?step ?fin ⟨0,rfl,hB,hs,#[O],fun i h1 h2=>by congr 1; lia⟩
 case fin =>
  (rintro c mW ⟨wq,rfl,qf,pB,hq,he⟩)
  (rw [show max n nk=nk by lia] at pB hq he |-)
  (exact h nk wq mW qf yE (ah _) pB hq he)
 case step =>
  (rintro x c mW Ir G' ⟨wq,rfl,qf,pB,hq,he⟩)
  dsimp only;have hsz:lo+x<=#[xL].size:=by rw [qf.b.size]; lia
  refine av (zfq hC qf.b #[O] #[O] ?_);by_cases oP:Vk val #[xL] (lo+x) < Vk val #[xL] (lo+x - 1)
  ·(simp only [oP,decide_true,if_true])
   have step1:∀ xs:Array Keyed,(∀ k,Vk val xs k=Vk val #[xL] k)->DIn val xs lo (lo+(x+1)):=by
    intro xs hk i j vp tW hj;rw [hk,hk];by_cases FC:j < lo+x
    ·exact pB i j vp tW FC
    ·have rj:j=lo+x:=by lia
     subst rj;by_cases pq:i=lo+x
     ·(subst pq; exact cK _)
     ·exact cq (fe oP) (pB i (lo+x - 1) vp #[O] #[O])
   by_cases y4:wq > 0
   ·rw [if_pos y4];refine av (zjM (aw ⟨0,rfl,qf.setArr (jv _ _ _ _) (zcD hsz #[O]),step1 _ (zbI hsz he),#[O],fun i h1 h2=>by congr 1; lia⟩))
   ·rw [if_neg y4]
    (exact aw ⟨0,rfl,qf,step1 _ (fun _=>rfl),#[O],fun i h1 h2=>by congr 1; lia⟩)
  ·(simp only [oP,decide_false,ba,if_false])
   refine av (zfq hC qf.b #[O] #[O] ?_);by_cases xw:Vk val #[xL] (lo+x - 1) < Vk val #[xL] (lo+x)
   ·(simp only [xw,decide_true,if_true])
    (exact aw (h x wq mW qf Ir #[O] pB hq he))
   ·(simp only [xw,decide_false,ba,if_false])
    have FD:Vk val #[xL] (lo+x)=Vk val #[xL] (lo+x - 1):=by lia
    refine aw ⟨wq+1,rfl,qf,fun i j vp tW hj=>?_,#[O],fun i h1 h2=>?_⟩
    ·by_cases FC:j < lo+x
     ·exact pB i j vp tW FC
     ·have rj:j=lo+x:=by lia
      subst rj;by_cases pq:i=lo+x
      ·(subst pq; exact cK _)
      ·rw [FD]; exact pB i (lo+x - 1) vp #[O] #[O]
    ·rw [show lo+(x+1) - 1=lo+x by lia];by_cases hix:i=lo+x
     ·subst hix; rfl
     ·(rw [FD]; exact he i #[O] #[O])
theorem zjO {st:SortSt} {lo n:Nat} {Q:Option Nat->SortSt->Prop} (hC:Cmp prog w A s κ val a₀) (hn:lo+nk<=a₀.size) (yE:n+1<=nk) (hB:SF κ a₀ lo st₀ st)
  (hs:DIn val #[wf] lo (lo+(n+1))) (h:∀ m mW,SF κ a₀ lo st₀ mW->1<=m->m<=nk->SIn val #[xL] lo (lo+m)->Q (some m) mW) :
  wpS #[or] A E s (zhY lo n nk) Q st:=by
 unfold zhY
 (refine av #[Sg])
 refine av (zpx hC hn #[O] yE hB hs fun m wq mW qf Bc wo pB hq he=>?_);dsimp only;have hsz:lo+m<=#[xL].size:=by rw [qf.b.size]; lia
 by_cases y4:wq > 0
 ·rw [if_pos y4];refine av (zjM (zmL hC hn #[O] wo (qf.setArr (jv _ _ _ _) (zcD hsz #[O])) ?_ h));intro i j vp tW hj;show Vk val (mirror #[xL] _ _ _) j<=Vk val (mirror #[xL] _ _ _) i;rw [zbI hsz he,zbI hsz he];exact pB i j vp tW hj
 ·rw [if_neg y4];exact zmL hC hn #[O] wo qf pB h
theorem znX {st:SortSt} {lo:Nat} {Q:Option Nat->SortSt->Prop} (hC:Cmp prog w A s κ val a₀) (hn:lo+nk<=a₀.size) (h1:1<=nk) (hB:SF κ a₀ lo st₀ st)
  (h:∀ m mW,SF κ a₀ lo st₀ mW->1<=m->m<=nk->SIn val #[xL] lo (lo+m)->Q (some m) mW) :
  wpS #[or] A E s (countRun' lo nk) Q st:=by
 rw [zgW];refine av (zoN hC hn (ah 1) h1 hB (fun i j vp tW hj=>(by
   have e:i=j:=by lia
   rw [e];exact cK _)) fun n Bd uK Be hor=>?_)
 dsimp only;by_cases yE:n=nk
 ·(rw [if_pos (by simpa using yE)])
  (exact aw (h n st hB Bd uK Be))
 ·(rw [if_neg (by simpa using yE)])
  have nC:Vk val #[wf] (lo+n) < Vk val #[wf] (lo+n - 1):=hor.resolve_left yE;by_cases hgt:n > 1
  ·rw [if_pos hgt];refine av (zfq hC hB.b #[O] #[O] ?_);by_cases CA:Vk val #[wf] lo < Vk val #[wf] (lo+n - 1)
   ·(simp only [CA,decide_true,if_true])
    (exact aw (h n st hB Bd uK Be))
   ·(simp only [CA,decide_false,ba,if_false])
    have hsz:lo+n<=#[wf].size:=by rw [hB.b.size]; lia
    have qH:∀ k,lo<=k->k < lo+n->Vk val #[wf] k=Vk val #[wf] (lo+n - 1):=by
     intro k yF hk;have a1:=Be lo k (ah _) yF hk;have a2:=Be k (lo+n - 1) yF #[O] #[O];lia
    refine av (zjM (zjO hC hn #[O] (hB.setArr (jv _ _ _ _) (zcD hsz (ah _))) ?_ h));intro i j vp tW hj;show Vk val (mirror #[wf] _ _ _) j<=Vk val (mirror #[wf] _ _ _) i;rw [zbI hsz qH,zbI hsz qH];by_cases hjn:j < lo+n
    ·(rw [qH i #[O] #[O],qH j #[O] hjn]; exact cK _)
    ·have rj:j=lo+n:=by lia
     subst rj;by_cases pq:i=lo+n
     ·(subst pq; exact cK _)
     ·(rw [qH i #[O] #[O]]; exact fe nC)
  ·rw [if_neg hgt];have Iu:n=1:=by lia
   subst Iu;refine zjO hC hn #[O] hB ?_ h;intro i j vp tW hj;by_cases pq:i=j
   ·(subst pq; exact cK _)
   ·have hi0:i=lo:=by lia
    have Dx:j=lo+1:=by lia
    subst hi0; subst Dx;exact fe nC
theorem zhZ {xs:Array Keyed} {src d:Nat} (hs:src < xs.size) (hd:d<=src) (k:Nat) :
  Vk val (bubble xs src d) k=if k=src - d then Vk val xs src else if src - d < k/\k<=src then Vk val xs (k - 1) else Vk val xs k:=by
 (have e:=getElem?_bubble hs d hd k)
 by_cases h1:k=src - d
 ·rw [if_pos h1] at e |-; exact zak e
 ·rw [if_neg h1] at e |-
  (by_cases h2:src - d < k/\k<=src)
  ·rw [if_pos h2] at e |-; exact zak e
  ·rw [if_neg h2] at e |-; exact zak e
theorem zqt {st:SortSt} {lo n ok:Nat} {Q:Bool->SortSt->Prop} (hC:Cmp prog w A s κ val a₀) (hn:lo+n<=a₀.size) (hok:ok<=n) (hB:SF κ a₀ lo st₀ st) (hs:SIn val #[wf] lo (lo+ok))
  (h:∀ mW,SF κ a₀ lo st₀ mW->SIn val #[xL] lo (lo+n)->Q true mW):wpS #[or] A E s (binarySort' lo n ok) Q st:=by
 rw [binarySort'_eq];refine av (dJ (cU (I:=fun k c mW=>c=(none,())/\SF κ a₀ lo st₀ mW/\SIn val #[xL] lo (lo+min k n))
  (Q:=fun c mW=>c=(none,())/\SF κ a₀ lo st₀ mW/\SIn val #[xL] lo (lo+n)) ?step ?fin ?init) ?post)
 case post =>
  rintro c mW ⟨rfl,qf,pB⟩
  (exact aw (h mW qf pB))
 case init =>
  refine⟨rfl,hB,fun i j vp tW hj=>?_⟩;by_cases h1:ok=0
  ·have e:i=j:=by lia
   rw [e]; exact cK _
  ·exact hs i j vp tW #[O]
 case fin =>
  rintro c mW ⟨hc,qf,pB⟩;refine⟨hc,qf,?_⟩
  (rwa [show min (max (max ok 1) n) n=n by lia] at pB)
 case step =>
  (rintro k c mW hak Ha ⟨rfl,qf,pB⟩)
  (rw [show min k n=k by lia] at pB)
  have hk:lo+k < a₀.size:=#[O]; refine av (dJ (cU (I:=fun x c pC=>pC=mW/\∃ l r,c=(none,l,r)/\l<=r/\r<=k/\r - l<=k - x /\
    (∀ i,i < l->Vk val #[xL] (lo+i)<=Vk val #[xL] (lo+k))/\(∀ i,r<=i->i < k->Vk val #[xL] (lo+k) < Vk val #[xL] (lo+i)))
   (Q:=fun c pC=>pC=mW/\∃ l r,c=(none,l,r)/\l<=k/\(∀ i,i < l->Vk val #[xL] (lo+i)<=Vk val #[xL] (lo+k))/\(∀ i,l<=i->i < k->Vk val #[xL] (lo+k) < Vk val #[xL] (lo+i))) ?istep ?ifin ?iinit) ?ipost)
  case iinit=>(exact⟨rfl,0,k,rfl,#[O],#[O],#[O],fun i hi=>by lia,fun i h1 h2=>by lia⟩)
  case ifin =>
   (rintro c pC ⟨rfl,l,r,rfl,CB,Iv,hm,rT,BH⟩)
   have:l=r:=by lia
   subst this
   (exact⟨rfl,l,l,rfl,Iv,rT,BH⟩)
  case istep =>
   (rintro x c pC _ hxk ⟨rfl,l,r,rfl,CB,Iv,hm,rT,BH⟩)
   dsimp only;by_cases qY:l>=r
   ·rw [if_pos qY];have:l=r:=by lia
    subst this
    (exact aw ⟨rfl,l,l,rfl,Iv,rT,BH⟩)
   ·rw [if_neg qY];refine av (zfq hC qf.b hk #[O] ?_);by_cases oP:Vk val #[Vq] (lo+k) < Vk val #[Vq] (lo+(l+r) / 2)
    ·(simp only [oP,decide_true,if_true])
     (refine aw ⟨rfl,l,(l+r) / 2,rfl,#[O],#[O],#[O],rT,fun i h1 h2=>?_⟩)
     exact Int.lt_of_lt_of_le oP (pB _ _ #[O] #[O] #[O])
    ·(simp only [oP,decide_false,ba,if_false])
     (refine aw ⟨rfl,(l+r) / 2+1,r,rfl,#[O],#[O],#[O],fun i h1=>?_,BH⟩)
     exact cq (pB (lo+i) (lo+(l+r) / 2) #[O] #[O] #[O]) (Int.not_lt.mp oP)
  case ipost =>
   (rintro c pC ⟨rfl,l,r,rfl,hlk,rT,BH⟩)
   show wpS _ _ _ _ (do moveDown' (lo+k) (lo+l); pure (cP (none,()))) _ _;rw [moveDown'_eq];have Iw:lo+k < #[Vq].size:=by rw [qf.b.size]; exact hk
   refine av (fq (aw ⟨rfl,qf.setArr (bubble_perm _ _ _) (zi5 Iw #[O] #[O]),?_⟩))
   (rw [show min (k+1) n=k+1 by lia])
   intro i j vp tW hj;show Vk val (bubble #[Vq] (lo+k) (lo+k - (lo+l))) i<=Vk val (bubble #[Vq] (lo+k) (lo+k - (lo+l))) j;rw [zhZ Iw #[O],zhZ Iw #[O],show lo+k - (lo+k - (lo+l))=lo+l by lia];have Dy:∀ i,lo<=i->i < lo+l->Vk val #[Vq] i<=Vk val #[Vq] (lo+k):=fun i h1 h2=>by
    have:=rT (i - lo) #[O]
    rwa [show lo+(i - lo)=i by lia] at this
   have Iy:∀ i,lo+l<=i->i < lo+k->Vk val #[Vq] (lo+k) < Vk val #[Vq] i:=fun i h1 h2=>by
    have:=BH (i - lo) #[O] #[O]
    rwa [show lo+(i - lo)=i by lia] at this
   repeat' split
   all_goals first
    | (exfalso; lia)
    | exact cK _
    | exact Dy _ #[O] #[O]
    | exact fe (Iy _ #[O] #[O])
    | exact pB _ _ #[O] #[O] #[O]
end
end Srt
end
section
namespace Srt
open PySem PyProof.Rows
variable {A:Around} {M:Model} {arr:Array Keyed} {j:Nat} {key:Keyed} {s:Shared}
noncomputable def znY:Bool->Keyed->Array Keyed->Nat->Nat->Nat->StateT SortSt Sem #[AC]:=sortPriv% PySem.Builtin.gallop
noncomputable def zmM:Array Keyed->Array Keyed->StateT SortSt Sem (Array Keyed):=sortPriv% PySem.Builtin.mergeLo
noncomputable def zmN:Array Keyed->Array Keyed->StateT SortSt Sem (Array Keyed):=sortPriv% PySem.Builtin.mergeHi
noncomputable def zdp:Nat->StateT SortSt Sem Unit:=sortPriv% PySem.Builtin.setMinGallop
theorem zgX {E:Value->Shared->Prop} {α:Type} {m:StateT SortSt Sem α} {Q:α->SortSt->Prop} {st:SortSt} (h:wpAny M A (m st) (fun r s'=>s'=s/\Q r.1 r.2) E s):wpS M A E s m Q st:=h
theorem zgY {E:Value->Shared->Prop} {α:Type} {m:StateT SortSt Sem α} {Q:α->SortSt->Prop} {st:SortSt} (h:wpS M A E s m Q st):wpAny M A (m st) (fun r s'=>s'=s/\Q r.1 r.2) E s:=h
section
variable {prog:Program} {w:World} {A:Around} {E:Value->Shared->Prop} {s:Shared} {a₀:Array Keyed} {κ:SortKind} {val:Keyed->Int}
noncomputable def bB (val:Keyed->Int) (left:Bool) (key:Keyed) (arr:Array Keyed) (base i:Nat):Bool:=if left then decide (Vk val arr (base+i) < val key) else !decide (val key < Vk val arr (base+i))
theorem zdN {left:Bool} {base n i:Nat} (hs:SIn val arr base (base+n)) (tW:i<=j) (hj:j < n) (h:bB val left key arr base j=true):bB val left key arr base i=true:=by
 have:=hs (base+i) (base+j) #[O] #[O] #[O];unfold bB at h |-;cases left <;> simp at h |- <;> lia
theorem zc0 {st:SortSt} {left:Bool} {base i:Nat} {Q:Option Bool->SortSt->Prop} {p:Keyed} (hC:Cmp prog w A s κ val a₀) (hk:kindOf st=κ) (pT:key∈a₀.toList) (he:arr[base+i]? = some p) (hp:p∈a₀.toList)
  (h:Q (some (bB val left key arr base i)) st):wpS #[or] A E s (do
   let x <- elem' arr (base+i)
   if left then lt' x key else do
    let r <- lt' key x
    return r.map (!·)) Q st:=by
 refine av (zZ he ?_);unfold bB at h;rw [z9 he] at h;cases left with
 | true=>exact zmJ hC hk hp pT h
 | false=>exact av (zmJ hC hk pT hp (aw h))
abbrev znZ:=Option #[AC]×Nat×Nat
theorem zmO {st:SortSt} {left:Bool} {base n lo hi:Nat} {f:Nat->znZ->StateT SortSt Sem (ForInStep znZ)} (hs:SIn val arr base (base+n)) (hlh:lo<=hi) (hhn:hi<=n)
  (h1:∀ i,i < lo->bB val left key arr base i=true) (h2:∀ i,hi<=i->i < n->bB val left key arr base i=false)
  (hf:∀ (x l r:Nat) (R:ForInStep znZ->SortSt->Prop),r<=n->(l>=r->R (.done (none,l,r)) st)->(l < r->R (if bB val left key arr base (l+(r - l) / 2)=true then .yield (none,l+(r - l) / 2+1,r) else .yield (none,l,l+(r - l) / 2)) st)->wpS #[or] A E s (f x (none,l,r)) R st) :
  wpS #[or] A E s (forIn [0:n] ((none,lo,hi):znZ) f) (fun c mW=>mW=st/\∃ l,c=(none,l,l)/\l<=n/\(∀ i,i < l->bB val left key arr base i=true)/\(∀ i,l<=i->i < n->bB val left key arr base i=false)) st:=by
 refine cU (I:=fun x c mW=>mW=st/\∃ l r,c=(none,l,r)/\l<=r/\r<=n/\r - l<=n - x/\(∀ i,i < l->bB val left key arr base i=true)/\(∀ i,r<=i->i < n->bB val left key arr base i=false)) ?step ?fin ⟨rfl,lo,hi,rfl,hlh,hhn,#[O],h1,h2⟩
 case fin =>
  rintro c mW ⟨rfl,l,r,rfl,CB,Dz,hm,a1,a2⟩;have:l=r:=by lia
  subst this;exact⟨rfl,l,rfl,Dz,a1,a2⟩
 case step =>
  rintro x c mW _ G' ⟨rfl,l,r,rfl,CB,Dz,hm,a1,a2⟩;refine hf x l r _ Dz (fun qY=>?_) (fun nC=>?_)
  ·have:l=r:=by lia
   subst this;exact⟨rfl,l,rfl,Dz,a1,a2⟩
  ·cases hb:bB val left key arr base (l+(r - l) / 2) with
   | true =>
    rw [if_pos rfl];exact⟨rfl,l+(r - l) / 2+1,r,rfl,#[O],Dz,#[O],fun i hi=>zdN hs #[O] #[O] hb,a2⟩
   | false =>
    rw [if_neg #[D]];refine⟨rfl,l,l+(r - l) / 2,rfl,#[O],#[O],#[O],a1,fun i hi pU=>?_⟩;cases e:bB val left key arr base i with
    | false=>rfl
    | true=>rw [zdN hs hi pU e] at hb; cases hb
theorem zbJ {st:SortSt} {left:Bool} {base n hint:Nat} {Q:Option Nat->SortSt->Prop} (hC:Cmp prog w A s κ val a₀) (hk:kindOf st=κ) (pT:key∈a₀.toList)
  (ha:∀ i,i < n->∃ p,arr[base+i]? = some p/\p∈a₀.toList) (hs:SIn val arr base (base+n)) (hh:hint < n)
  (h:∀ k,k<=n->(∀ i,i < k->bB val left key arr base i=true)->(∀ i,k<=i->i < n->bB val left key arr base i=false)->Q (some k) st) :
  wpS #[or] A E s (znY left key arr base n hint) Q st:=by
 refine zgX ?_
 wp_delta
 wp_delta
 refine zgY ?_;dsimp only;obtain⟨p,ep,mp⟩:=ha hint hh;refine av #[Su];dsimp only;have up:∀ {i j:Nat},i<=j->j < n->bB val left key arr base i=false->bB val left key arr base j=false:=fun {i j} tW hj h=>by
  cases e:bB val left key arr base j with
  | false=>rfl
  | true=>rw [zdN hs tW hj e] at h; cases h
 cases hr:bB val left key arr base hint with
 | true =>
  simp only [if_true];refine av (dJ (cU (I:=fun x c mW=>mW=st/\∃ l o,c=(none,l,o)/\l < o/\x+1<=o/\hint+l < n/\bB val left key arr base (hint+l)=true)
   (Q:=fun c mW=>mW=st/\∃ l o,c=(none,l,o)/\l < o/\hint+l < n/\bB val left key arr base (hint+l)=true/\(hint+o < n->bB val left key arr base (hint+o)=false)) ?step ?fin ⟨rfl,0,1,rfl,#[O],#[O],hh,hr⟩) ?post)
  case fin =>
   rintro c mW ⟨rfl,l,o,rfl,rT,hx,hl,hb⟩;exact⟨rfl,l,o,rfl,rT,hl,hb,fun z=>by lia⟩
  case step =>
   rintro x c mW _ G' ⟨rfl,l,o,rfl,rT,hx,hl,hb⟩;dsimp only;by_cases qY:o>=n - hint
   ·rw [if_pos qY];exact aw ⟨rfl,l,o,rfl,rT,hl,hb,fun z=>by lia⟩
   ·rw [if_neg qY];obtain⟨p,ep,mp⟩:=ha (hint+o) #[O];refine av #[Su];dsimp only;cases xy:bB val left key arr base (hint+o) with
    | true =>
     rw [if_neg #[D]];exact aw ⟨rfl,o,2*o+1,rfl,#[O],#[O],#[O],xy⟩
    | false =>
     rw [if_pos #[D]];exact aw ⟨rfl,l,o,rfl,rT,hl,hb,fun _=>xy⟩
  case post =>
   rintro c mW ⟨rfl,l,o,rfl,rT,hl,hb,xy⟩;dsimp only;refine av (dJ (zmO (val:=val) (left:=left) (key:=key) (arr:=arr) (base:=base) hs #[O] #[O] (fun i hi=>zdN hs #[O] hl hb) (fun i hi pU=>(by
    by_cases ho:hint+o < n
    ·exact up #[O] pU (xy ho)
    ·lia)) #[Yk]) ?_)
   ·dsimp only;by_cases qY:l'>=r'
    ·rw [if_pos qY];exact aw (k1 qY)
    ·rw [if_neg qY];obtain⟨p,ep,mp⟩:=ha (l'+(r' - l') / 2) #[O];refine av #[Su];have k3:=k2 #[O];dsimp only;cases CC:bB val left key arr base (l'+(r' - l') / 2) with
     | true=>rw [CC] at k3; rw [if_pos rfl] at k3 |-; exact aw k3
     | false=>rw [CC] at k3; rw [if_neg #[D]] at k3 |-; exact aw k3
   ·rintro c pC ⟨rfl,l,rfl,hl,b1,b2⟩;exact aw (h l hl b1 b2)
 | false =>
  (simp only [ba,if_false])
  refine av (dJ (cU (I:=fun x c mW=>mW=st/\∃ l o,c=(none,l,o)/\l < o/\x+1<=o/\l<=hint/\bB val left key arr base (hint - l)=false)
   (Q:=fun c mW=>mW=st/\∃ l o,c=(none,l,o)/\l < o/\l<=hint/\bB val left key arr base (hint - l)=false/\(o<=hint->bB val left key arr base (hint - o)=true)) ?step ?fin ⟨rfl,0,1,rfl,#[O],#[O],#[O],hr⟩) ?post)
  case fin =>
   rintro c mW ⟨rfl,l,o,rfl,rT,hx,hl,hb⟩;exact⟨rfl,l,o,rfl,rT,hl,hb,fun z=>by lia⟩
  case step =>
   rintro x c mW _ G' ⟨rfl,l,o,rfl,rT,hx,hl,hb⟩;dsimp only;by_cases qY:o>=hint+1
   ·rw [if_pos qY];exact aw ⟨rfl,l,o,rfl,rT,hl,hb,fun z=>by lia⟩
   ·rw [if_neg qY];obtain⟨p,ep,mp⟩:=ha (hint - o) #[O];refine av #[Su];dsimp only;cases xy:bB val left key arr base (hint - o) with
    | false =>
     rw [if_neg #[D]];exact aw ⟨rfl,o,2*o+1,rfl,#[O],#[O],#[O],xy⟩
    | true =>
     rw [if_pos rfl];exact aw ⟨rfl,l,o,rfl,rT,hl,hb,fun _=>xy⟩
  case post =>
   rintro c mW ⟨rfl,l,o,rfl,rT,hl,hb,xy⟩;dsimp only;refine av (dJ (zmO (val:=val) (left:=left) (key:=key) (arr:=arr) (base:=base) hs #[O] #[O] (fun i hi=>(by
    by_cases ho:o<=hint
    ·exact zdN hs #[O] #[O] (xy ho)
    ·lia)) (fun i hi pU=>up hi pU hb) #[Yk]) ?_)
   ·dsimp only;by_cases qY:l'>=r'
    ·rw [if_pos qY];exact aw (k1 qY)
    ·rw [if_neg qY];obtain⟨p,ep,mp⟩:=ha (l'+(r' - l') / 2) #[O];refine av #[Su];have k3:=k2 #[O];dsimp only;cases CC:bB val left key arr base (l'+(r' - l') / 2) with
     | true=>rw [CC] at k3; rw [if_pos rfl] at k3 |-; exact aw k3
     | false=>rw [CC] at k3; rw [if_neg #[D]] at k3 |-; exact aw k3
   ·rintro c pC ⟨rfl,l,rfl,hl,b1,b2⟩;exact aw (h l hl b1 b2)
end
end Srt
end
section
namespace Srt
open PySem PyProof.Rows
variable {k:Nat}
abbrev zaq (st:SortSt) (g:Nat):SortSt:=lR (kindOf st) #[wf] #[UI] g (failedOf st)
theorem zej (g:Nat):zdp g=modify fun s=>zaq s g:=rfl
noncomputable def Le (val:Keyed->Int) (xs ys:List Keyed):Prop:=∀ x∈xs,∀ y∈ys,val x<=val y
noncomputable def Ris (val:Keyed->Int) (xs:List Keyed):Prop:=xs.Pairwise fun x y=>val x<=val y
theorem zay {val:Keyed->Int} {xs ys:List Keyed}:Ris val (xs++ys)↔Ris val xs/\Ris val ys/\Le val xs ys:=jR
structure MI (val:Keyed->Int) (T o l r:List Keyed):Prop where
 perm:(o++l++r).Perm T
 so:Ris val o
 sl:Ris val l
 sr:Ris val r
 ol:Le val o l
 or':Le val o r
noncomputable def Good (val:Keyed->Int) (T res:List Keyed):Prop:=res.Perm T/\Ris val res
section
variable {val:Keyed->Int} {T o l l1 l2 r r1 r2:List Keyed}
theorem Le.left {xs ys zs:List Keyed} (h:Le val (xs++ys) zs):Le val xs zs:=fun x hx y hy=>h x (aH _ hx) y hy
theorem Le.right {xs ys zs:List Keyed} (h:Le val (xs++ys) zs):Le val ys zs:=fun x hx y hy=>h x (ar _ hx) y hy
theorem Le.app {xs ys zs:List Keyed} (h1:Le val xs zs) (h2:Le val ys zs):Le val (xs++ys) zs:=fun x hx y hy=>by
 rcases aP.mp hx with h | h
 ·exact h1 x h y hy
 ·exact h2 x h y hy
theorem Le.QR {xs ys zs:List Keyed} (h1:Le val xs ys) (h2:Le val xs zs):Le val xs (ys++zs):=fun x hx y hy=>by
 rcases aP.mp hy with h | h
 ·exact h1 x hx y h
 ·exact h2 x hx y h
theorem Le.sub {xs ys zs:List Keyed} (h1:Le val xs (ys++zs)):Le val xs ys/\Le val xs zs:=⟨fun x hx y hy=>h1 x hx y (aH _ hy),fun x hx y hy=>h1 x hx y (ar _ hy)⟩
theorem MI.Nc (h:MI val T o (l1++l2) r) (hle:Le val l1 r):MI val T (o++l1) l2 r:=by
 obtain⟨a1,a2,a3⟩:=zay.mp h.sl;obtain⟨b1,b2⟩:=h.ol.sub;exact⟨by have:=h.perm; simpa [bu] using this,zay.mpr ⟨h.so,a1,b1⟩,a2,h.sr,b2.app a3,h.or'.app hle⟩
theorem MI.Mu (h:MI val T o l (r1++r2)) (hle:Le val r1 l):MI val T (o++r1) l r2:=by
 obtain⟨a1,a2,a3⟩:=zay.mp h.sr;obtain⟨b1,b2⟩:=h.or'.sub;refine⟨?_,zay.mpr ⟨h.so,a1,b1⟩,h.sl,a2,h.ol.app hle,b2.app a3⟩;refine dW ?_ h.perm;have:(r1++l++r2).Perm (l++r1++r2):=List.perm_append_comm.append_right _;simpa [bu] using this.append_left o
theorem MI.Ma (h:MI val T o l []):Good val T (o++l):=⟨by have:=h.perm; simpa using this,zay.mpr ⟨h.so,h.sl,h.ol⟩⟩
theorem MI.L9 (h:MI val T o [] r):Good val T (o++r):=⟨by have:=h.perm; simpa using this,zay.mpr ⟨h.so,h.sr,h.or'⟩⟩
theorem MI.last (h:MI val T o l r) (hle:Le val r l):Good val T (o++r++l):=by
 refine⟨dW ?_ h.perm,?_⟩
 ·rw [bu,bu];exact List.perm_append_comm.append_left o
 ·exact zay.mpr ⟨zay.mpr ⟨h.so,h.sr,h.or'⟩,h.sl,h.ol.app hle⟩
end
section
variable {val:Keyed->Int} {T:List Keyed} {a b out:Array Keyed} {ia ib:Nat}
abbrev MA (val:Keyed->Int) (T:List Keyed) (a b out:Array Keyed) (ia ib:Nat):Prop:=MI val T out.toList (a.toList.drop ia) (b.toList.drop ib)
theorem zeR {xs:Array Keyed} {i:Nat} {p:Keyed} (h:xs[i]? = some p):xs.toList.drop i=p :: xs.toList.drop (i+1):=by
 have hi:i < xs.toList.length:=by
  have:=(dj.mp h).1;simpa using this
 rw [cQ hi];congr 1;have:=(dj.mp h).2;simpa using this
theorem zdO {xs:Array Keyed} (h:SIn val xs 0 xs.size):∀ i,Ris val #[TW]:=by
 have all:Ris val xs.toList:=by
  unfold Ris
  (rw [ee])
  intro i j hi hj tW
  (have pq:i < xs.size:=by simpa using hi)
  (have rj:j < xs.size:=by simpa using hj)
  have:=h i j (aZ _) #[O] rj;rw [z9 (getElem?_pos xs i pq),z9 (getElem?_pos xs j rj)] at this;simpa using this
 exact fun i=>jA (k6 _ _) all
theorem zeS {xs:Array Keyed} {i:Nat} {p q:Keyed} (h:SIn val xs 0 xs.size) (hp:xs[i]? = some p) (hq:q∈xs.toList.drop i):val p<=val q:=by
 have:=zdO h i;rw [zeR hp] at this hq;rcases (az.mp hq) with rfl | hq
 ·exact cK _
 ·exact List.rel_of_pairwise_cons this hq
theorem MA.NI {y x:Keyed} (h:MA val T a b out ia ib) (sa:SIn val a 0 a.size) (hy:b[ib]? = some y) (hx:a[ia]? = some x) (hle:val y<=val x):MA val T a b (out.push y) ia (ib+1):=by
 unfold MA at h |-;rw [zeR hy] at h;have:=MI.Mu (r1:=[y]) h fun p hp q hq=>by
  rw [aS.mp hp];exact cq hle (zeS sa hx hq)
 simpa using this
theorem MA.Mb {y x:Keyed} (h:MA val T a b out ia ib) (sb:SIn val b 0 b.size) (hy:b[ib]? = some y) (hx:a[ia]? = some x) (hle:val x<=val y):MA val T a b (out.push x) (ia+1) ib:=by
 unfold MA at h |-;rw [zeR hx] at h;have:=MI.Nc (l1:=[x]) h fun p hp q hq=>by
  rw [aS.mp hp];exact cq hle (zeS sb hy hq)
 simpa using this
theorem zmP (xs:Array Keyed) (i k:Nat):xs.toList.drop i=#[WT].toList++xs.toList.drop (i+k):=by
 rw [cJ];have:(xs.toList.extract i (i+k))=#[TW].take k:=by
  simp [dA] <;> lia
 rw [this,<- jB,cD]
theorem zeT {xs:Array Keyed} {i:Nat} {p:Keyed} (h:p∈#[WT].toList):∃ j,j < k/\xs[i+j]? = some p:=by
 have e0:#[WT].toList=#[TW].take k:=by
  rw [cJ];simp [dA] <;> lia
 rw [e0] at h
 (obtain⟨j,hj,e⟩:=eK h)
 have wa:j < k/\j < #[TW].length:=by
  rw [aA] at hj;lia
 refine⟨j,wa.1,?_⟩;rw [<- aT,<- il,aI wa.2,<- e,iE]
theorem MA.Nc {y:Keyed} (h:MA val T a b out ia ib) (sb:SIn val b 0 b.size) (hy:b[ib]? = some y) (hle:∀ i,i < k->Vk val a (ia+i)<=val y):MA val T a b (out++a.extract ia (ia+k)) (ia+k) ib:=by
 unfold MA at h |-;rw [zmP a ia k] at h;have:=MI.Nc h fun p hp q hq=>by
  obtain⟨j,hj,e⟩:=zeT hp;have:=hle j hj;rw [z9 e] at this;exact cq this (zeS sb hy hq)
 simpa using this
theorem MA.Mu {x:Keyed} (h:MA val T a b out ia ib) (sa:SIn val a 0 a.size) (hx:a[ia]? = some x) (hle:∀ i,i < k->Vk val b (ib+i)<=val x):MA val T a b (out++b.extract ib (ib+k)) ia (ib+k):=by
 unfold MA at h |-;rw [zmP b ib k] at h;have:=MI.Mu h fun p hp q hq=>by
  obtain⟨j,hj,e⟩:=zeT hp;have:=hle j hj;rw [z9 e] at this;exact cq this (zeS sa hx hq)
 simpa using this
theorem zdc (xs:Array Keyed) (i:Nat):(xs.extract i xs.size).toList=xs.toList.drop i:=by
 rw [cJ];simp only [dA]
 (exact aW #[M])
theorem MA.L9 (h:MA val T a b out ia ib) (e:ib=b.size):Good val T (out++a.extract ia a.size++b.extract ib b.size).toList:=by
 unfold MA at h;rw [show b.toList.drop ib = [] from cL (by simp [e])] at h;have:=h.Ma;rw [bE,bE,zdc,zdc,show b.toList.drop ib = [] from cL (by simp [e]),cb];exact this
theorem MA.Ma (h:MA val T a b out ia ib) (e:ia=a.size):Good val T (out++a.extract ia a.size++b.extract ib b.size).toList:=by
 unfold MA at h;rw [show a.toList.drop ia = [] from cL (by simp [e])] at h;have:=h.L9;rw [bE,bE,zdc,zdc,show a.toList.drop ia = [] from cL (by simp [e]),cb];exact this
theorem MA.last (h:MA val T a b out ia ib) (e:ia+1=a.size) (hl:∀ i,i < b.size->Vk val b i<=Vk val a (a.size - 1)):Good val T (out++b.extract ib b.size++a.extract ia a.size).toList:=by
 unfold MA at h;have hx:a[ia]? = some (a[ia]'#[O]):=getElem?_pos a ia #[O];have:=h.last fun p hp q hq=>by
  rw [zeR hx,show a.toList.drop (ia+1) = [] from cL (by simp [e])] at hq;rw [aS.mp hq];obtain⟨j,hj,ej⟩:=eK (jS hp);have rj:j < b.size:=by simpa using hj
  have:=hl j rj;rw [z9 (getElem?_pos b j rj),show a.size - 1=ia by lia,z9 hx] at this;rw [<- ej];simpa using this
 rw [bE,bE,zdc,zdc];exact this
end
end Srt
end
section
namespace Srt
open PySem PyProof.Rows
variable {M:Model} {arr:Array Keyed} {key:Keyed}
section
variable {prog:Program} {w:World} {A:Around} {E:Value->Shared->Prop} {s:Shared} {a₀:Array Keyed} {κ:SortKind} {val:Keyed->Int}
theorem zdP {st:SortSt} {g:Nat} {Q:Unit->SortSt->Prop} (h:Q () (zaq st g)):wpS #[or] A E s (zdp g) Q st:=by
 rw [zej];exact fq h
theorem zaw {g:Prop} {xs:Array Keyed} {i:Nat} (h:i < xs.size) (k:∀ p,xs[i]? = some p->p∈xs.toList->g):g:=k _ (getElem?_pos xs i h) #[M]
theorem zcE {base i:Nat} (h:bB val true key arr base i=true):Vk val arr (base+i) < val key:=by
 unfold bB at h;simpa using h
theorem zdQ {base i:Nat} (h:bB val false key arr base i=true):Vk val arr (base+i)<=val key:=by
 unfold bB at h;simp at h;lia
theorem zdB {base i:Nat} (h:bB val true key arr base i=false):val key<=Vk val arr (base+i):=by
 unfold bB at h;simp at h;lia
theorem zeU {base i:Nat} (h:bB val false key arr base i=false):val key < Vk val arr (base+i):=by
 unfold bB at h;simp at h;exact h
theorem SIn.sub {xs:Array Keyed} {lo hi lo' pq:Nat} (h:SIn val xs lo hi) (h1:lo<=lo') (h2:pq<=hi):SIn val xs lo' pq:=fun i j a b c=>h i j #[O] b #[O]
theorem zK {σ α:Type} {c:Prop} {inst:Decidable c} {x y:StateT σ Sem α} {Q:α->σ->Prop} {st:σ} (h:c) (k:wpS M A E s x Q st):wpS M A E s #[Wj] Q st:=by rw [if_pos h]; exact k
theorem zL {σ α:Type} {c:Prop} {inst:Decidable c} {x y:StateT σ Sem α} {Q:α->σ->Prop} {st:σ} (h:¬ c) (k:wpS M A E s y Q st):wpS M A E s #[Wj] Q st:=by rw [if_neg h]; exact k
theorem dup {P X:Prop} (h:P->P->X) (k:P):X:=h k k
theorem zq1 {P X:Prop} (h:(Unit->P)->(Unit->P)->X) (k:P):X:=h (fun _=>k) (fun _=>k)
theorem fr5 {σ β A1 A2 A3 A4 A5:Type} {lo hi:Nat} {f:Nat->β->StateT σ Sem (ForInStep β)} {Q:β->σ->Prop} {c:β} {st:σ} (xA:A1->A2->A3->A4->A5->β) (y6:A1->A2->A3->A4->A5->σ) (J:Nat->A1->A2->A3->A4->A5->Prop) (start:∃ a1 a2 a3 a4 a5,st=y6 a1 a2 a3 a4 a5/\c=xA a1 a2 a3 a4 a5/\J lo a1 a2 a3 a4 a5) (fin:∀ a1 a2 a3 a4 a5,J (max lo hi) a1 a2 a3 a4 a5->Q #[Wh] (y6 a1 a2 a3 a4 a5))
  (step:∀ x a1 a2 a3 a4 a5,lo<=x->x < hi->J x a1 a2 a3 a4 a5->wpS M A E s (f x #[Wh]) (fun r mW=>match r with | .done c'=>Q c' mW | .yield c'=>∃ a1 a2 a3 a4 a5,mW=y6 a1 a2 a3 a4 a5/\c'=xA a1 a2 a3 a4 a5/\J (x+1) a1 a2 a3 a4 a5) (y6 a1 a2 a3 a4 a5)):wpS M A E s (forIn [lo:hi] c f) Q st:=by
 refine cU (I:=fun x c mW=>∃ a1 a2 a3 a4 a5,mW=y6 a1 a2 a3 a4 a5/\c=xA a1 a2 a3 a4 a5/\J x a1 a2 a3 a4 a5) ?_ ?_ start
 ·rintro x c mW h1 h2 ⟨a1,a2,a3,a4,a5,rfl,rfl,j⟩;exact step x _ _ _ _ _ h1 h2 j
 ·rintro c mW ⟨a1,a2,a3,a4,a5,rfl,rfl,j⟩;exact fin _ _ _ _ _ j
theorem fr7 {σ β A1 A2 A3 A4 A5 A6 A7:Type} {lo hi:Nat} {f:Nat->β->StateT σ Sem (ForInStep β)} {Q:β->σ->Prop} {c:β} {st:σ} (xA:A1->A2->A3->A4->A5->A6->A7->β) (y6:A1->A2->A3->A4->A5->A6->A7->σ) (J:Nat->A1->A2->A3->A4->A5->A6->A7->Prop) (start:∃ a1 a2 a3 a4 a5 a6 a7,st=y6 a1 a2 a3 a4 a5 a6 a7/\c=xA a1 a2 a3 a4 a5 a6 a7/\J lo a1 a2 a3 a4 a5 a6 a7) (fin:∀ a1 a2 a3 a4 a5 a6 a7,J (max lo hi) a1 a2 a3 a4 a5 a6 a7->Q #[Yq] #[Yp])
  (step:∀ x a1 a2 a3 a4 a5 a6 a7,lo<=x->x < hi->J x a1 a2 a3 a4 a5 a6 a7->wpS M A E s (f x #[Yq]) (fun r mW=>match r with | .done c'=>Q c' mW | .yield c'=>∃ a1 a2 a3 a4 a5 a6 a7,mW=y6 a1 a2 a3 a4 a5 a6 a7/\c'=xA a1 a2 a3 a4 a5 a6 a7/\J (x+1) a1 a2 a3 a4 a5 a6 a7) #[Yp]):wpS M A E s (forIn [lo:hi] c f) Q st:=by
 refine cU (I:=fun x c mW=>∃ a1 a2 a3 a4 a5 a6 a7,mW=y6 a1 a2 a3 a4 a5 a6 a7/\c=xA a1 a2 a3 a4 a5 a6 a7/\J x a1 a2 a3 a4 a5 a6 a7) ?_ ?_ start
 ·rintro x c mW h1 h2 ⟨a1,a2,a3,a4,a5,a6,a7,rfl,rfl,j⟩;exact step x _ _ _ _ _ _ _ h1 h2 j
 ·rintro c mW ⟨a1,a2,a3,a4,a5,a6,a7,rfl,rfl,j⟩;exact fin _ _ _ _ _ _ _ j
theorem zoO {σ α γ δ A1 A2 A3 A4 A5:Type} {x:StateT σ Sem (Option γ×δ)} {k:Option γ×δ->StateT σ Sem α} {R:α->σ->Prop} {st:σ} (xA:A1->A2->A3->A4->A5->Option γ×δ) (G:γ->Prop) (J:A1->A2->A3->A4->A5->Prop) (Iz:σ) (hx:wpS M A E s x (fun c mW=>mW=Iz/\((∃ r o,c=(some r,o)/\G r)\/∃ a1 a2 a3 a4 a5,c=xA a1 a2 a3 a4 a5/\J a1 a2 a3 a4 a5)) st) (h1:∀ r o,G r->wpS M A E s (k (some r,o)) R Iz) (h:∀ a1 a2 a3 a4 a5,J a1 a2 a3 a4 a5->wpS M A E s (k #[Wh]) R Iz):wpS M A E s (x >>= k) R st:=by
 refine av (dJ hx ?_);rintro c mW ⟨rfl,⟨r,o,rfl,g⟩ | ⟨a1,a2,a3,a4,a5,rfl,j⟩⟩
 ·exact h1 _ _ g
 ·exact h _ _ _ _ _ j
theorem za9 {σ α:Type} {c:Prop} {inst:Decidable c} {x y:StateT σ Sem α} {Q:α->σ->Prop} {st:σ} (h:c->wpS M A E s x Q st) (k:¬ c->wpS M A E s y Q st):wpS M A E s #[Wj] Q st:=by
 by_cases hc:c
 ·rw [if_pos hc]; exact h hc
 ·rw [if_neg hc]; exact k hc
theorem zkZ {st:SortSt} {a b:Array Keyed} {Q:Array Keyed->SortSt->Prop} (hC:Cmp prog w A s κ val a₀) (hk:kindOf st=κ) (ma:∀ p∈a.toList,p∈a₀.toList) (mb:∀ p∈b.toList,p∈a₀.toList)
  (sa:SIn val a 0 a.size) (sb:SIn val b 0 b.size) (h1:1<=a.size) (h2:1<=b.size) (hf:Vk val b 0<=Vk val a 0) (hl:∀ i,i < b.size->Vk val b i<=Vk val a (a.size - 1))
  (h:∀ out g,Good val #[wp] out.toList->Q out (zaq st g)):wpS #[or] A E s (zmM a b) Q st:=by
 refine zgX ?_
 wp_delta
 wp_delta
 refine zgY ?_
 (refine av #[Sg])
 refine zaw (xs:=b) (i:=0) #[O] fun y0 Bf IA=>?_
 refine zaw (xs:=a) (i:=0) #[O] fun x0 Bg IB=>?_
 refine av (zZ Bf ?_);have I0:MA val #[wp] a b #[] 0 0:=⟨#[M],fY,zdO sa 0,zdO sb 0,fun x hx=>by simp at hx,fun x hx=>by simp at hx⟩;have I1:MA val #[wp] a b #[y0] 0 1:=I0.NI sa Bf Bg (by rw [z9 Bf,z9 Bg] at hf; exact hf);dsimp only;by_cases wc:1=b.size
 ·refine zK (by simpa using wc) ?_;exact aw (h _ #[VR] (I1.L9 wc))
 refine zL (by simpa using wc) ?_;by_cases xB:0+1=a.size
 ·refine zK (by simpa using xB) ?_;exact aw (h _ #[VR] (I1.last #[O] hl))
 refine zL (by simpa using xB) ?_;refine av (fQ ?_);refine av (dJ (fr5 (fun g out ia ib mg=>(none,out,ia,ib,mg)) (fun g out ia ib mg=>zaq st g) (fun x g out ia ib mg=>MA val #[wp] a b out ia ib/\ia+1 < a.size/\ib < b.size/\x+1<=ia+ib)
  (Q:=fun c mW=>∃ g r o,mW=zaq st g/\c=(some r,o)/\Good val #[wp] r.toList) ⟨gallopOf st,#[y0],0,1,gallopOf st,rfl,rfl,I1,#[O],#[O],#[O]⟩ ?fin ?step) ?post)
 case post =>
  rintro c mW ⟨g,r,o,rfl,rfl,hG⟩;exact aw (h _ g hG)
 case fin =>
  rintro g out ia ib mg ⟨hI,b1,b2,b3⟩;lia
 case step =>
  intro x g out ia ib mg xC hx J;have hI:=J.1;have b1:=J.2.1;have b2:=J.2.2.1;have b3:=J.2.2.2;dsimp only;refine zoO #[Xb] #[Xz] (fun nu oQ oH ac bc=>MA val #[wp] a b nu oQ oH/\oQ+1 < a.size/\oH < b.size/\ia+ib+1<=oQ+oH) (zaq st g) (fr5 #[Xb] (fun nu oQ oH ac bc=>zaq st g) (fun x nu oQ oH ac bc=>MA val #[wp] a b nu oQ oH/\oQ+1 < a.size/\oH < b.size/\ia+ib+x<=oQ+oH) ⟨out,ia,ib,0,0,rfl,rfl,hI,b1,b2,#[O]⟩ ?fin1 ?step1) #[Ys] ?post1
  case fin1 =>
   rintro nu oQ oH ac bc ⟨hI,b1,b2,b3⟩;exact⟨rfl,.inr ⟨nu,oQ,oH,ac,bc,rfl,hI,b1,b2,#[O]⟩⟩
  case step1 =>
   intro x1 nu oQ oH ac bc Hb Hc J;have hI:=J.1;have b1:=J.2.1;have b2:=J.2.2.1;have b3:=J.2.2.2;dsimp only;refine zaw (xs:=b) (i:=oH) #[O] fun y ey my=>?_
   refine zaw (xs:=a) (i:=oQ) #[O] fun z ez mz=>?_
   refine av #[Uz];dsimp only;by_cases FE:val y < val z
   ·refine zK (by simpa using FE) ?_;refine av #[XX];have qZ:=hI.NI sa ey ez #[O];by_cases e1:oH+1=b.size
    ·refine zK (by simpa using e1) ?_;exact aw ⟨rfl,.inl ⟨_,_,rfl,qZ.L9 e1⟩⟩
    refine zL (by simpa using e1) ?_;refine za9 #[PP] #[PP]
    ·exact aw ⟨rfl,.inr ⟨_,_,_,_,_,rfl,qZ,b1,#[O],#[O]⟩⟩
    ·exact aw ⟨_,_,_,_,_,rfl,rfl,qZ,b1,#[O],#[O]⟩
   ·refine zL (by simpa using FE) ?_;refine av #[U2];have qZ:=hI.Mb sb ey ez #[O];by_cases e1:oQ+1+1=a.size
    ·refine zK (by simpa using e1) ?_;exact aw ⟨rfl,.inl ⟨_,_,rfl,qZ.last e1 hl⟩⟩
    refine zL (by simpa using e1) ?_;refine za9 #[PP] #[PP]
    ·exact aw ⟨rfl,.inr ⟨_,_,_,_,_,rfl,qZ,#[O],b2,#[O]⟩⟩
    ·exact aw ⟨_,_,_,_,_,rfl,rfl,qZ,#[O],b2,#[O]⟩
  case post1 =>
   intro DA IC ID IE IF J;have IG:=J.1;have c1:=J.2.1;have c2:=J.2.2.1;have c3:=J.2.2.2;dsimp only
   (refine av #[Sg])
   refine av (dJ (fr7 (fun g nu oQ oH mg ac bc=>(none,nu,oQ,oH,mg,ac,bc)) (fun g nu oQ oH mg ac bc=>zaq st g) (fun x g nu oQ oH mg ac bc=>MA val #[wp] a b nu oQ oH/\oQ+1 < a.size/\oH < b.size/\IC+ID<=oQ+oH)
    (Q:=fun c mW=>∃ g,mW=zaq st g/\((∃ r o,c=(some r,o)/\Good val #[wp] r.toList)\/∃ nu oQ oH mg ac bc,c=(none,nu,oQ,oH,mg,ac,bc)/\MA val #[wp] a b nu oQ oH/\oQ+1 < a.size/\oH < b.size/\IC+ID<=oQ+oH)) ⟨g,DA,IC,ID,_,IE,IF,rfl,rfl,IG,c1,c2,ah _⟩ ?fin2 ?step2) ?post2)
   case fin2 =>
    rintro g nu oQ oH mg ac bc ⟨hI,b1,b2,b3⟩;exact⟨g,rfl,.inr ⟨nu,oQ,oH,mg,ac,bc,rfl,hI,b1,b2,b3⟩⟩
   case post2 =>
    rintro c mW ⟨g,rfl,hc⟩;rcases hc with ⟨r,o,rfl,hG⟩ | ⟨DB,ia2,ib2,mg2,ac2,bc2,rfl,qZ,d1,d2,d3⟩
    ·exact aw ⟨g,r,_,rfl,rfl,hG⟩
    dsimp only;refine av (zdP (aw ⟨_,DB,ia2,ib2,_,rfl,rfl,qZ,d1,d2,#[O]⟩))
   case step2 =>
    intro x2 g nu oQ oH DC ac bc FF FG J;have hI:=J.1;have b1:=J.2.1;have b2:=J.2.2.1;have b3:=J.2.2.2;dsimp only;refine zaw (xs:=b) (i:=oH) #[O] fun y ey my=>?_
    apply dup
    ·intro k1 k2;by_cases xG:DC > 1
     ·refine zK xG ?_;clear xG;generalize DC - 1=m0
      revert m0
      exact k1
     ·refine zL xG ?_;clear xG;generalize DC=m0
      revert m0
      exact k2
    intro mg0;refine av (zdP (av (zZ ey (av (zbJ hC hk (mb y my) (fun i hi=>(by
     refine zaw (xs:=a) (i:=oQ+i) #[O] fun p ep mp=>?_
     exact⟨p,ep,ma p mp⟩)) (sa.sub #[O] #[O]) #[O] fun k FH uc BI=>?_)))))
    dsimp only;have qZ:=hI.Nc (k:=k) sb ey fun i hi=>zdQ (uc i hi)
    by_cases yF:k > 0
    ·refine zK yF ?_;by_cases e1:oQ+k+1=a.size
     ·refine zK (by simpa using e1) ?_;exact aw ⟨_,rfl,.inl ⟨_,_,rfl,qZ.last e1 hl⟩⟩
     refine zL (by simpa using e1) ?_;by_cases e2:oQ+k=a.size
     ·refine zK (by simpa using e2) ?_;exact aw ⟨_,rfl,.inl ⟨_,_,rfl,qZ.Ma e2⟩⟩
     refine zL (by simpa using e2) ?_;refine av #[XX];refine zaw (xs:=a) (i:=oQ+k) #[O] fun z ez mz=>?_
     have wt:=qZ.NI sa ey ez (by have:=zeU (BI k (ah _) #[O]); rw [z9 ez] at this; lia);by_cases e3:oH+1=b.size
     ·refine zK (by simpa using e3) ?_;exact aw ⟨_,rfl,.inl ⟨_,_,rfl,wt.L9 e3⟩⟩
     refine zL (by simpa using e3) ?_;refine av (zZ ez (av (zbJ hC hk (ma z mz) (fun i hi=>(by
      refine zaw (xs:=b) (i:=oH+1+i) #[O] fun p ep mp=>?_
      exact⟨p,ep,mb p mp⟩)) #[Vs] #[O] fun j Dx wa BJ=>?_)))
     dsimp only;have xQ:=wt.Mu (k:=j) sa ez fun i hi=>fe (zcE (wa i hi))
     by_cases we:j > 0
     ·refine zK we ?_;by_cases e4:oH+1+j=b.size
      ·refine zK (by simpa using e4) ?_;exact aw ⟨_,rfl,.inl ⟨_,_,rfl,xQ.L9 e4⟩⟩
      refine zL (by simpa using e4) ?_;refine zaw (xs:=b) (i:=oH+1+j) #[O] fun y2 sx DD=>?_
      refine av #[U2];have qg:=xQ.Mb sb sx ez (by have:=zdB (BJ j (ah _) #[O]); rw [z9 sx] at this; exact this);by_cases e9:oQ+k+1+1=a.size
      ·refine zK (by simpa using e9) ?_;exact aw ⟨_,rfl,.inl ⟨_,_,rfl,qg.last e9 hl⟩⟩
      refine zL (by simpa using e9) ?_;refine za9 #[PP] #[PP]
      ·exact aw #[Rj]
      ·exact aw #[RV]
     ·refine zL we ?_;have DE:j=0:=by lia
      subst DE;refine zaw (xs:=b) (i:=oH+1) #[O] fun y2 sx DD=>?_
      refine av #[U2];have qg:=wt.Mb sb sx ez (by have:=zdB (BJ 0 (ah _) #[O]); rw [ff,z9 sx] at this; exact this);by_cases e9:oQ+k+1+1=a.size
      ·refine zK (by simpa using e9) ?_;exact aw ⟨_,rfl,.inl ⟨_,_,rfl,qg.last e9 hl⟩⟩
      refine zL (by simpa using e9) ?_;refine za9 #[PP] #[PP]
      ·exact aw #[Rj]
      ·exact aw #[RV]
    ·refine zL yF ?_;have IH:k=0:=by lia
     subst IH;refine av #[XX];refine zaw (xs:=a) (i:=oQ) #[O] fun z ez mz=>?_
     have wt:=hI.NI sa ey ez (by have:=zeU (BI 0 (ah _) #[O]); rw [ff,z9 ez] at this; lia);by_cases e3:oH+1=b.size
     ·refine zK (by simpa using e3) ?_;exact aw ⟨_,rfl,.inl ⟨_,_,rfl,wt.L9 e3⟩⟩
     refine zL (by simpa using e3) ?_;refine av (zZ ez (av (zbJ hC hk (ma z mz) (fun i hi=>(by
      refine zaw (xs:=b) (i:=oH+1+i) #[O] fun p ep mp=>?_
      exact⟨p,ep,mb p mp⟩)) #[Vs] #[O] fun j Dx wa BJ=>?_)))
     dsimp only;have xQ:=wt.Mu (k:=j) sa ez fun i hi=>fe (zcE (wa i hi))
     by_cases we:j > 0
     ·refine zK we ?_;by_cases e4:oH+1+j=b.size
      ·refine zK (by simpa using e4) ?_;exact aw ⟨_,rfl,.inl ⟨_,_,rfl,xQ.L9 e4⟩⟩
      refine zL (by simpa using e4) ?_;refine zaw (xs:=b) (i:=oH+1+j) #[O] fun y2 sx DD=>?_
      refine av #[U2];have qg:=xQ.Mb sb sx ez (by have:=zdB (BJ j (ah _) #[O]); rw [z9 sx] at this; exact this);by_cases e9:oQ+1+1=a.size
      ·refine zK (by simpa using e9) ?_;exact aw ⟨_,rfl,.inl ⟨_,_,rfl,qg.last e9 hl⟩⟩
      refine zL (by simpa using e9) ?_;refine za9 #[PP] #[PP]
      ·exact aw #[Rj]
      ·exact aw #[RV]
     ·refine zL we ?_;have DE:j=0:=by lia
      subst DE;refine zaw (xs:=b) (i:=oH+1) #[O] fun y2 sx DD=>?_
      refine av #[U2];have qg:=wt.Mb sb sx ez (by have:=zdB (BJ 0 (ah _) #[O]); rw [ff,z9 sx] at this; exact this);by_cases e9:oQ+1+1=a.size
      ·refine zK (by simpa using e9) ?_;exact aw ⟨_,rfl,.inl ⟨_,_,rfl,qg.last e9 hl⟩⟩
      refine zL (by simpa using e9) ?_;refine za9 #[PP] #[PP]
      ·exact aw #[Rj]
      ·exact aw #[RV]
end
end Srt
end
section
namespace Srt
open PySem PyProof.Rows
structure MH (val:Keyed->Int) (T l r o:List Keyed):Prop where
 perm:(l++r++o).Perm T
 so:Ris val o
 sl:Ris val l
 sr:Ris val r
 lo:Le val l o
 ro:Le val r o
section
variable {val:Keyed->Int} {T o l l1 l2 r r1 r2:List Keyed}
theorem MH.Nc (h:MH val T (l1++l2) r o) (hle:Le val r l2):MH val T l1 r (l2++o):=by
 obtain⟨a1,a2,a3⟩:=zay.mp h.sl;refine⟨?_,zay.mpr ⟨a2,h.so,h.lo.right⟩,a1,h.sr,a3.QR h.lo.left,hle.QR h.ro⟩;refine dW ?_ h.perm;have:(r++l2).Perm (l2++r):=List.perm_append_comm;have:=(this.append_left l1).append_right o;simpa [bu] using this
theorem MH.Mu (h:MH val T l (r1++r2) o) (hle:Le val l r2):MH val T l r1 (r2++o):=by
 obtain⟨a1,a2,a3⟩:=zay.mp h.sr;exact⟨by have:=h.perm; simpa [bu] using this,zay.mpr ⟨a2,h.so,h.ro.right⟩,h.sl,a1,hle.QR h.lo,a3.QR h.ro.left⟩
theorem MH.Ma (h:MH val T [] r o):Good val T (r++o):=⟨by have:=h.perm; simpa using this,zay.mpr ⟨h.sr,h.so,h.ro⟩⟩
theorem MH.L9 (h:MH val T l [] o):Good val T (l++o):=⟨by have:=h.perm; simpa using this,zay.mpr ⟨h.sl,h.so,h.lo⟩⟩
theorem MH.first (h:MH val T l r o) (hle:Le val r l):Good val T (r++l++o):=by
 refine⟨dW (List.perm_append_comm.append_right _) h.perm,?_⟩;exact zay.mpr ⟨zay.mpr ⟨h.sr,h.sl,hle⟩,h.so,h.ro.app h.lo⟩
end
section
variable {val:Keyed->Int} {T:List Keyed} {a b out:Array Keyed} {na nb:Nat}
abbrev MB (val:Keyed->Int) (T:List Keyed) (a b out:Array Keyed) (na nb:Nat):Prop:=MH val T (a.toList.take na) (b.toList.take nb) out.toList.reverse
theorem zjP {xs:Array Keyed} {n:Nat} {p:Keyed} (h:xs[n]? = some p):xs.toList.take (n+1)=xs.toList.take n++[p]:=by
 rw [List.take_succ,aT,h];rfl
theorem zh0 {xs:Array Keyed} (h:SIn val xs 0 xs.size) (i:Nat):Ris val (xs.toList.take i):=by
 have:=zdO h 0;rw [fS] at this;exact jA (cN _ _) this
theorem zfs {xs:Array Keyed} {n:Nat} {p:Keyed} (h:p∈xs.toList.take n):∃ j,j < n/\j < xs.size/\xs[j]? = some p:=by
 (obtain⟨j,hj,e⟩:=eK h)
 have wa:j < n/\j < xs.toList.length:=by
  rw [aA] at hj;lia
 refine⟨j,wa.1,by simpa using wa.2,?_⟩;rw [<- aT,aI wa.2,<- e,iE]
theorem zeV {xs:Array Keyed} {n:Nat} {p q:Keyed} (h:SIn val xs 0 xs.size) (hp:xs[n]? = some p) (hq:q∈xs.toList.take (n+1)):val q<=val p:=by
 obtain⟨j,hj,yL,e⟩:=zfs hq;have hn:=(dj.mp hp).1;have:=h j n (aZ _) #[O] hn;rw [z9 e,z9 hp] at this;exact this
theorem MB.Mb {y x:Keyed} (h:MB val T a b out (na+1) nb) (sb:SIn val b 0 b.size) (hn:1<=nb) (hy:b[nb - 1]? = some y) (hx:a[na]? = some x) (hle:val y<=val x):MB val T a b (out.push x) na nb:=by
 unfold MB at h |-;rw [zjP hx] at h;have:=MH.Nc h fun p hp q hq=>by
  rw [aS.mp hq];exact cq (zeV sb hy (by rw [show nb - 1+1=nb by lia]; exact hp)) hle
 simpa using this
theorem MB.NI {y x:Keyed} (h:MB val T a b out na (nb+1)) (sa:SIn val a 0 a.size) (hn:1<=na) (hy:b[nb]? = some y) (hx:a[na - 1]? = some x) (hle:val x<=val y):MB val T a b (out.push y) na nb:=by
 unfold MB at h |-;rw [zjP hy] at h;have:=MH.Mu h fun p hp q hq=>by
  rw [aS.mp hq];exact cq (zeV sa hx (by rw [show na - 1+1=na by lia]; exact hp)) hle
 simpa using this
theorem zjQ (xs:Array Keyed) {i n:Nat} (h:i<=n):xs.toList.take n=xs.toList.take i++(xs.extract i n).toList:=by
 rw [cJ];simp only [dA];rw [<- cD i (xs.toList.take n),lY,gN h,List.drop_take]
theorem MB.Nc {y:Keyed} {at':Nat} (h:MB val T a b out na nb) (sb:SIn val b 0 b.size) (pv:at'<=na) (hn:1<=nb) (hy:b[nb - 1]? = some y) (hle:∀ i,at'<=i->i < na->val y<=Vk val a i):MB val T a b (out++(a.extract at' na).reverse) at' nb:=by
 unfold MB at h |-;rw [zjQ a pv] at h;have:=MH.Nc h fun p hp q hq=>by
  have rl:q∈(a.extract at' (at'+(na - at'))).toList:=by rw [show at'+(na - at')=na by lia]; exact hq
  obtain⟨j,hj,e⟩:=zeT rl;have:=hle (at'+j) #[O] #[O];rw [z9 e] at this;exact cq (zeV sb hy (by rw [show nb - 1+1=nb by lia]; exact hp)) this
 simpa using this
theorem MB.Mu {x:Keyed} {at':Nat} (h:MB val T a b out na nb) (sa:SIn val a 0 a.size) (pv:at'<=nb) (hn:1<=na) (hx:a[na - 1]? = some x) (hle:∀ i,at'<=i->i < nb->val x<=Vk val b i):MB val T a b (out++(b.extract at' nb).reverse) na at':=by
 unfold MB at h |-;rw [zjQ b pv] at h;have:=MH.Mu h fun p hp q hq=>by
  have rl:q∈(b.extract at' (at'+(nb - at'))).toList:=by rw [show at'+(nb - at')=nb by lia]; exact hq
  obtain⟨j,hj,e⟩:=zeT rl;have:=hle (at'+j) #[O] #[O];rw [z9 e] at this;exact cq (zeV sa hx (by rw [show na - 1+1=na by lia]; exact hp)) this
 simpa using this
theorem zcm (xs:Array Keyed) (n:Nat):(xs.extract 0 n).toList=xs.toList.take n:=by
 rw [cJ];simp [dA]
theorem MB.Ma (h:MB val T a b out na nb) (e:na=0):Good val T (a.extract 0 na++b.extract 0 nb++out.reverse).toList:=by
 unfold MB at h;subst e;have:=MH.Ma h;rw [bE,bE,zcm,zcm,fg,fF,gO];exact this
theorem MB.L9 (h:MB val T a b out na nb) (e:nb=0):Good val T (a.extract 0 na++b.extract 0 nb++out.reverse).toList:=by
 unfold MB at h;subst e;have:=MH.L9 h;rw [bE,bE,zcm,zcm,fg,cb,gO];exact this
theorem MB.first (h:MB val T a b out na nb) (e:nb=1) (sa:SIn val a 0 a.size) (h2:1<=b.size) (hf:Vk val b 0<=Vk val a 0):Good val T (b.extract 0 nb++a.extract 0 na++out.reverse).toList:=by
 unfold MB at h;subst e;have:=MH.first h fun p hp q hq=>by
  obtain⟨j,hj,yL,ej⟩:=zfs hp;have we:j=0:=by lia
  subst we;obtain⟨i,hi,his,ei⟩:=zfs hq;have:=sa 0 i (aZ _) (aZ _) his;rw [z9 ei] at this;rw [z9 ej] at hf;lia
 rw [bE,bE,zcm,zcm,gO];exact this
end
section
variable {prog:Program} {w:World} {A:Around} {E:Value->Shared->Prop} {s:Shared} {a₀:Array Keyed} {κ:SortKind} {val:Keyed->Int}
theorem zk0 {st:SortSt} {a b:Array Keyed} {Q:Array Keyed->SortSt->Prop} (hC:Cmp prog w A s κ val a₀) (hk:kindOf st=κ) (ma:∀ p∈a.toList,p∈a₀.toList) (mb:∀ p∈b.toList,p∈a₀.toList)
  (sa:SIn val a 0 a.size) (sb:SIn val b 0 b.size) (h1:1<=a.size) (h2:1<=b.size) (hf:Vk val b 0<=Vk val a 0) (hl:∀ i,i < b.size->Vk val b i<=Vk val a (a.size - 1))
  (h:∀ out g,Good val #[wp] out.toList->Q out (zaq st g)):wpS #[or] A E s (zmN a b) Q st:=by
 refine zgX ?_
 wp_delta
 wp_delta
 refine zgY ?_
 (refine av #[Sg])
 refine zaw (xs:=a) (i:=a.size - 1) #[O] fun x0 Bg IB=>?_
 refine zaw (xs:=b) (i:=b.size - 1) #[O] fun y0 Bf IA=>?_
 refine av (zZ Bg ?_);have I0:MB val #[wp] a b #[] (a.size - 1+1) b.size:=by
  refine⟨?_,fY,zh0 sa _,zh0 sb _,fun x _ y hy=>by simp at hy,fun x _ y hy=>by simp at hy⟩;rw [show a.size - 1+1=a.size by lia,aW #[M],aW #[M]];simp
 have I1:MB val #[wp] a b #[x0] (a.size - 1) b.size:=I0.Mb sb h2 Bf Bg (by have:=hl (b.size - 1) #[O]; rw [z9 Bf,z9 Bg] at this; exact this);dsimp only;by_cases xB:a.size - 1=0
 ·refine zK (by simpa using xB) ?_;exact aw (h _ #[VR] (I1.Ma xB))
 refine zL (by simpa using xB) ?_;by_cases wc:b.size=1
 ·refine zK (by simpa using wc) ?_;exact aw (h _ #[VR] (I1.first wc sa h2 hf))
 refine zL (by simpa using wc) ?_;refine av (fQ ?_);refine av (dJ (fr5 (fun g out na nb mg=>(none,na,nb,out,mg)) (fun g out na nb mg=>zaq st g) (fun x g out na nb mg=>MB val #[wp] a b out na nb/\1<=na/\2<=nb/\na<=a.size/\nb<=b.size/\x+na+nb+1<=a.size+b.size)
  (Q:=fun c mW=>∃ g r o,mW=zaq st g/\c=(some r,o)/\Good val #[wp] r.toList) ⟨gallopOf st,#[x0],a.size - 1,b.size,gallopOf st,rfl,rfl,I1,#[O],#[O],#[O],#[O],#[O]⟩ ?fin ?step) ?post)
 case post =>
  rintro c mW ⟨g,r,o,rfl,rfl,hG⟩;exact aw (h _ g hG)
 case fin =>
  rintro g out na nb mg ⟨hI,b1,b2,b3⟩;lia
 case step =>
  intro x g out na nb mg xC hx J;have hI:=J.1;have b1:=J.2.1;have b2:=J.2.2.1;have b4:=J.2.2.2.1;have b5:=J.2.2.2.2.1;have b3:=J.2.2.2.2.2;dsimp only;refine zoO #[Xd] #[Xz] (fun nu o2 o3 ac bc=>MB val #[wp] a b nu o2 o3/\1<=o2/\2<=o3/\o2<=a.size/\o3<=b.size/\1+o2+o3<=na+nb) (zaq st g) (fr5 #[Xd] (fun nu o2 o3 ac bc=>zaq st g) (fun x nu o2 o3 ac bc=>MB val #[wp] a b nu o2 o3/\1<=o2/\2<=o3/\o2<=a.size/\o3<=b.size/\x+o2+o3<=na+nb) ⟨out,na,nb,0,0,rfl,rfl,hI,b1,b2,b4,b5,#[O]⟩ ?fin1 ?step1) #[Ys] ?post1
  case fin1 =>
   rintro nu o2 o3 ac bc ⟨hI,b1,b2,b4,b5,b3⟩;exact⟨rfl,.inr ⟨nu,o2,o3,ac,bc,rfl,hI,b1,b2,b4,b5,#[O]⟩⟩
  case step1 =>
   intro x1 nu o2 o3 ac bc Hb Hc J;have hI:=J.1;have b1:=J.2.1;have b2:=J.2.2.1;have b4:=J.2.2.2.1;have b5:=J.2.2.2.2.1;have b3:=J.2.2.2.2.2;dsimp only;obtain⟨n1,rfl⟩:∃ n1,o2=n1+1:=⟨o2 - 1,#[O]⟩;obtain⟨m1,rfl⟩:∃ m1,o3=m1+1:=⟨o3 - 1,#[O]⟩;simp only [cV];refine zaw (xs:=b) (i:=m1) #[O] fun y ey my=>?_
   refine zaw (xs:=a) (i:=n1) #[O] fun z ez mz=>?_
   refine av #[Uz];dsimp only;by_cases FE:val y < val z
   ·refine zK (by simpa using FE) ?_;refine av #[U2];have qZ:=hI.Mb sb #[O] ey ez #[O];by_cases e1:n1=0
    ·refine zK (by simpa using e1) ?_;exact aw ⟨rfl,.inl ⟨_,_,rfl,qZ.Ma e1⟩⟩
    refine zL (by simpa using e1) ?_;refine za9 #[PP] #[PP]
    ·exact aw #[Yc]
    ·exact aw ⟨_,_,_,_,_,rfl,rfl,qZ,#[O],#[O],#[O],#[O],#[O]⟩
   ·refine zL (by simpa using FE) ?_;refine av #[XX];have qZ:=hI.NI sa #[O] ey ez #[O];by_cases e1:m1=1
    ·refine zK (by simpa using e1) ?_;exact aw ⟨rfl,.inl ⟨_,_,rfl,qZ.first e1 sa h2 hf⟩⟩
    refine zL (by simpa using e1) ?_;refine za9 #[PP] #[PP]
    ·exact aw #[Yc]
    ·exact aw ⟨_,_,_,_,_,rfl,rfl,qZ,#[O],#[O],#[O],#[O],#[O]⟩
  case post1 =>
   intro DA II IJ IE IF J;have IG:=J.1;have c1:=J.2.1;have c2:=J.2.2.1;have c4:=J.2.2.2.1;have c5:=J.2.2.2.2.1;have c3:=J.2.2.2.2.2;dsimp only
   (refine av #[Sg])
   refine av (dJ (fr7 (fun g nu o2 o3 mg ac bc=>(none,o2,o3,nu,mg,ac,bc)) (fun g nu o2 o3 mg ac bc=>zaq st g) (fun x g nu o2 o3 mg ac bc=>MB val #[wp] a b nu o2 o3/\1<=o2/\2<=o3/\o2<=a.size/\o3<=b.size/\o2+o3<=II+IJ)
    (Q:=fun c mW=>∃ g,mW=zaq st g/\((∃ r o,c=(some r,o)/\Good val #[wp] r.toList)\/∃ nu o2 o3 mg ac bc,c=(none,o2,o3,nu,mg,ac,bc)/\MB val #[wp] a b nu o2 o3/\1<=o2/\2<=o3/\o2<=a.size/\o3<=b.size/\o2+o3<=II+IJ)) ⟨g,DA,II,IJ,_,IE,IF,rfl,rfl,IG,c1,c2,c4,c5,ah _⟩ ?fin2 ?step2) ?post2)
   case fin2 =>
    rintro g nu o2 o3 mg ac bc ⟨hI,b1,b2,b4,b5,b3⟩;exact⟨g,rfl,.inr ⟨nu,o2,o3,mg,ac,bc,rfl,hI,b1,b2,b4,b5,b3⟩⟩
   case post2 =>
    rintro c mW ⟨g,rfl,hc⟩;rcases hc with ⟨r,o,rfl,hG⟩ | ⟨DB,na2,nb2,mg2,ac2,bc2,rfl,qZ,d1,d2,d4,d5,d3⟩
    ·exact aw ⟨g,r,_,rfl,rfl,hG⟩
    dsimp only;refine av (zdP (aw ⟨_,DB,na2,nb2,_,rfl,rfl,qZ,d1,d2,d4,d5,#[O]⟩))
   case step2 =>
    intro x2 g nu o2 o3 DC ac bc FF FG J;have hI:=J.1;have b1:=J.2.1;have b2:=J.2.2.1;have b4:=J.2.2.2.1;have b5:=J.2.2.2.2.1;have b3:=J.2.2.2.2.2;dsimp only;obtain⟨m1,rfl⟩:∃ m1,o3=m1+1:=⟨o3 - 1,#[O]⟩;simp only [cV];refine zaw (xs:=b) (i:=m1) #[O] fun y ey my=>?_
    apply dup
    ·intro k1 k2;by_cases xG:DC > 1
     ·refine zK xG ?_;clear xG;generalize DC - 1=m0
      revert m0
      exact k1
     ·refine zL xG ?_;clear xG;generalize DC=m0
      revert m0
      exact k2
    intro mg0;refine av (zdP (av (zZ ey (av (zbJ hC hk (mb y my) (fun i hi=>(by
     refine zaw (xs:=a) (i:=0+i) #[O] fun p ep mp=>?_
     exact⟨p,ep,ma p mp⟩)) (sa.sub #[O] #[O]) #[O] fun k FH uc BI=>?_)))))
    dsimp only;have qZ:=hI.Nc (at':=k) sb FH #[O] ey fun i h1 h2=>fe (by have:=zeU (BI i h1 h2); rwa [cC] at this)
    by_cases yF:o2 - k > 0
    ·refine zK yF ?_;by_cases e1:k=0
     ·refine zK (by simpa using e1) ?_;exact aw ⟨_,rfl,.inl ⟨_,_,rfl,qZ.Ma e1⟩⟩
     refine zL (by simpa using e1) ?_;obtain⟨n1,rfl⟩:∃ n1,k=n1+1:=⟨k - 1,#[O]⟩;simp only [cV];refine av #[XX];refine zaw (xs:=a) (i:=n1) #[O] fun z ez mz=>?_
     have wt:=qZ.NI sa #[O] ey (show a[n1+1 - 1]? = some z by rw [cV]; exact ez) (by have:=zdQ (uc n1 #[O]); rw [cC,z9 ez] at this; exact this);by_cases e3:m1=1
     ·refine zK (by simpa using e3) ?_;exact aw ⟨_,rfl,.inl ⟨_,_,rfl,wt.first e3 sa h2 hf⟩⟩
     refine zL (by simpa using e3) ?_;refine av (zZ ez (av (zbJ hC hk (ma z mz) (fun i hi=>(by
      refine zaw (xs:=b) (i:=0+i) #[O] fun p ep mp=>?_
      exact⟨p,ep,mb p mp⟩)) #[Vs] #[O] fun j Dx wa BJ=>?_)))
     dsimp only;have xQ:=wt.Mu (at':=j) sa Dx #[O] (show a[n1+1 - 1]? = some z by rw [cV]; exact ez) fun i h1 h2=>(by have:=zdB (BJ i h1 h2); rwa [cC] at this)
     by_cases we:m1 - j > 0
     ·refine zK we ?_;by_cases e4:j=1
      ·refine zK (by simpa using e4) ?_;exact aw ⟨_,rfl,.inl ⟨_,_,rfl,xQ.first e4 sa h2 hf⟩⟩
      refine zL (by simpa using e4) ?_;by_cases e5:j=0
      ·refine zK (by simpa using e5) ?_;exact aw ⟨_,rfl,.inl ⟨_,_,rfl,xQ.L9 e5⟩⟩
      refine zL (by simpa using e5) ?_;refine zaw (xs:=b) (i:=j - 1) #[O] fun y2 sx DD=>?_
      refine av #[U2];have qg:=xQ.Mb sb #[O] sx ez (by have:=zcE #[VJ]; rw [cC,z9 sx] at this; lia);by_cases e9:n1=0
      ·refine zK (by simpa using e9) ?_;exact aw ⟨_,rfl,.inl ⟨_,_,rfl,qg.Ma e9⟩⟩
      refine zL (by simpa using e9) ?_;refine za9 #[PP] #[PP]
      ·exact aw #[No]
      ·exact aw #[Rr]
     ·refine zL we ?_;have IK:j=m1:=by lia
      subst IK;refine zaw (xs:=b) (i:=j - 1) #[O] fun y2 sx DD=>?_
      refine av #[U2];have qg:=wt.Mb sb #[O] sx ez (by have:=zcE #[VJ]; rw [cC,z9 sx] at this; lia);by_cases e9:n1=0
      ·refine zK (by simpa using e9) ?_;exact aw ⟨_,rfl,.inl ⟨_,_,rfl,qg.Ma e9⟩⟩
      refine zL (by simpa using e9) ?_;refine za9 #[PP] #[PP]
      ·exact aw #[No]
      ·exact aw #[Rr]
    ·refine zL yF ?_;have Ha:k=o2:=by lia
     subst Ha;obtain⟨n1,rfl⟩:∃ n1,k=n1+1:=⟨k - 1,#[O]⟩;simp only [cV];refine av #[XX];refine zaw (xs:=a) (i:=n1) #[O] fun z ez mz=>?_
     have wt:=hI.NI sa #[O] ey (show a[n1+1 - 1]? = some z by rw [cV]; exact ez) (by have:=zdQ (uc n1 #[O]); rw [cC,z9 ez] at this; exact this);by_cases e3:m1=1
     ·refine zK (by simpa using e3) ?_;exact aw ⟨_,rfl,.inl ⟨_,_,rfl,wt.first e3 sa h2 hf⟩⟩
     refine zL (by simpa using e3) ?_;refine av (zZ ez (av (zbJ hC hk (ma z mz) (fun i hi=>(by
      refine zaw (xs:=b) (i:=0+i) #[O] fun p ep mp=>?_
      exact⟨p,ep,mb p mp⟩)) #[Vs] #[O] fun j Dx wa BJ=>?_)))
     dsimp only;have xQ:=wt.Mu (at':=j) sa Dx #[O] (show a[n1+1 - 1]? = some z by rw [cV]; exact ez) fun i h1 h2=>(by have:=zdB (BJ i h1 h2); rwa [cC] at this)
     by_cases we:m1 - j > 0
     ·refine zK we ?_;by_cases e4:j=1
      ·refine zK (by simpa using e4) ?_;exact aw ⟨_,rfl,.inl ⟨_,_,rfl,xQ.first e4 sa h2 hf⟩⟩
      refine zL (by simpa using e4) ?_;by_cases e5:j=0
      ·refine zK (by simpa using e5) ?_;exact aw ⟨_,rfl,.inl ⟨_,_,rfl,xQ.L9 e5⟩⟩
      refine zL (by simpa using e5) ?_;refine zaw (xs:=b) (i:=j - 1) #[O] fun y2 sx DD=>?_
      refine av #[U2];have qg:=xQ.Mb sb #[O] sx ez (by have:=zcE #[VJ]; rw [cC,z9 sx] at this; lia);by_cases e9:n1=0
      ·refine zK (by simpa using e9) ?_;exact aw ⟨_,rfl,.inl ⟨_,_,rfl,qg.Ma e9⟩⟩
      refine zL (by simpa using e9) ?_;refine za9 #[PP] #[PP]
      ·exact aw #[No]
      ·exact aw #[Rr]
     ·refine zL we ?_;have IK:j=m1:=by lia
      subst IK;refine zaw (xs:=b) (i:=j - 1) #[O] fun y2 sx DD=>?_
      refine av #[U2];have qg:=wt.Mb sb #[O] sx ez (by have:=zcE #[VJ]; rw [cC,z9 sx] at this; lia);by_cases e9:n1=0
      ·refine zK (by simpa using e9) ?_;exact aw ⟨_,rfl,.inl ⟨_,_,rfl,qg.Ma e9⟩⟩
      refine zL (by simpa using e9) ?_;refine za9 #[PP] #[PP]
      ·exact aw #[No]
      ·exact aw #[Rr]
end
end Srt
end
section
namespace Srt
open PySem PyProof.Rows
variable {j k sa:Nat}
noncomputable def wb (sa:Nat) (l:List (Keyed×Nat)) (xs:Array Keyed):Array Keyed:=l.foldl (fun a (p,j)=>a.setIfInBounds (sa+j) p) xs
theorem zmQ (sa:Nat):∀ (l:List Keyed) (n:Nat) (xs:Array Keyed) (k:Nat),sa+n+l.length<=xs.size->(wb sa (l.zipIdx n) xs)[k]? = if sa+n<=k/\k < sa+n+l.length then l[k - (sa+n)]? else xs[k]?
 | [],n,xs,k,h=>by
  rw [if_neg (by simp only [dU]; lia)];rfl
 | p :: l,n,xs,k,h=>by
  have hl:(p :: l).length=l.length+1:=rfl;rw [hl] at h |-;show (wb sa (l.zipIdx (n+1)) (xs.setIfInBounds (sa+n) p))[k]? = _;rw [zmQ sa l (n+1) _ k (by rw [iQ]; lia)];by_cases h1:sa+(n+1)<=k/\k < sa+(n+1)+l.length
  ·rw [if_pos h1,if_pos #[O],show k - (sa+n)=k - (sa+(n+1))+1 by lia,ck]
  ·rw [if_neg h1,Array.getElem?_setIfInBounds];by_cases h2:sa+n=k
   ·rw [if_pos h2,if_pos #[O],if_pos #[O],show k - (sa+n)=0 by lia];rfl
   ·rw [if_neg h2,if_neg #[O]]
theorem zn0 {m xs:Array Keyed} (h:sa+m.size<=xs.size):#[Yg].toList=xs.toList.take sa++m.toList++xs.toList.drop (sa+m.size):=by
 have hm:m.toList.length=m.size:=by simp
 have hx:xs.toList.length=xs.size:=by simp
 refine eZ fun k=>?_
 rw [aT,zmQ sa m.toList 0 xs k (by rw [hm]; lia),hm,ff];by_cases h1:k < sa
 ·rw [if_neg #[O],bu,aX (by rw [aA]; lia),cf h1,aT]
 ·by_cases h2:k < sa+m.size
  ·rw [if_pos #[O],bu,bg (by rw [aA]; lia),aA,hx,show min sa xs.size=sa by lia,aX #[O]]
  ·rw [if_neg #[O],bg (by rw [aF,aA]; lia),aF,aA,hx,show min sa xs.size=sa by lia,hm,il,show sa+m.size+(k - (sa+m.size))=k by lia,aT]
theorem zk1 (xs:List Keyed) {i:Nat} (h1:i<=j) (h2:j<=k):xs=xs.take i++((xs.drop i).take (j - i)++(xs.drop j).take (k - j))++xs.drop k:=by
 have e1:xs.drop i=(xs.drop i).take (j - i)++xs.drop j:=by
  have:=(cD (j - i) (xs.drop i)).symm
  rwa [jB,show i+(j - i)=j by lia] at this
 have e2:xs.drop j=(xs.drop j).take (k - j)++xs.drop k:=by
  have:=(cD (k - j) (xs.drop j)).symm
  rwa [jB,show j+(k - j)=k by lia] at this
 have e0:=(cD i xs).symm;rw [e1,e2] at e0;rw [bu,bu];exact e0
theorem zdR (xs:Array Keyed) (i j:Nat):#[Tw].toList=#[TW].take (j - i):=by
 rw [cJ]
theorem zn1 {sb e:Nat} {m xs:Array Keyed} (h1:sa<=sb) (h2:sb<=e) (h3:e<=xs.size) (hp:m.toList.Perm ((xs.extract sa sb).toList++(xs.extract sb e).toList)):#[Yg].Perm xs:=by
 have hms:m.size=e - sa:=by
  have:=hp.length_eq;rw [aF,zdR,zdR,aA,aA,bP,bP] at this;have hx:xs.toList.length=xs.size:=by simp
  have hm:m.toList.length=m.size:=by simp
  lia
 rw [fB,zn0 #[O],show sa+m.size=e by lia];refine dW ((hp.append_left _).append_right _) ?_;rw [zdR,zdR,<- zk1 xs.toList h1 h2]
section
variable {prog:Program} {w:World} {A:Around} {E:Value->Shared->Prop} {s:Shared} {a₀:Array Keyed} {κ:SortKind} {val:Keyed->Int}
theorem zdC {xs:Array Keyed} {i:Nat} (h:k < j - i) (hj:j<=xs.size):#[Tw][k]? = xs[i+k]?:=by
 rw [<- aT,zdR,cf h,il,aT]
theorem zdS {xs:Array Keyed} {i:Nat} (hj:j<=xs.size):#[Tw].size=j - i:=by rw [kL,gN hj]
theorem zjR {xs:Array Keyed} {i:Nat} (hj:j<=xs.size) (h:SIn val xs i j):SIn val #[Tw] 0 #[Tw].size:=by
 rw [zdS hj];intro p q _ hpq hq;rw [zak (zdC #[O] hj),zak (zdC hq hj)];exact h _ _ #[O] #[O] #[O]
theorem zeW {xs:Array Keyed} {i:Nat} (hj:j<=xs.size) {p:Keyed} (h:p∈#[Tw].toList):∃ k,i<=k/\k < j/\xs[k]? = some p:=by
 obtain⟨k,hk,e⟩:=eK h;have ux:k < j - i:=by
  rwa [aC,zdS hj] at hk
 refine⟨i+k,#[O],#[O],?_⟩;rw [<- zdC ux hj,<- aT,aI hk,e]
theorem zk2 {st:SortSt} {i na pw sb nb pw2:Nat} {Q:Bool->SortSt->Prop} (hC:Cmp prog w A s κ val a₀) (hB:SB κ a₀ st) (e1:#[UI][i]? = some (sa,na,pw)) (e2:#[UI][i+1]? = some (sb,nb,pw2))
  (oM:sb=sa+na) (hna:1<=na) (hnb:1<=nb) (hsz:sb+nb<=a₀.size) (sA:SIn val #[wf] sa (sa+na)) (sB:SIn val #[wf] sb (sb+nb))
  (h:∀ mW,SB κ a₀ mW->pendingOf mW=(#[UI].setIfInBounds i (sa,na+nb,pw)).eraseIdxIfInBounds (i+1)->(∀ k,(k < sa\/sb+nb<=k)->#[xL][k]? = #[wf][k]?)->SIn val #[xL] sa (sb+nb)->Q true mW) :
  wpS #[or] A E s (mergeAt' i) Q st:=by
 refine zgX ?_
 wp_delta
 wp_delta
 refine zgY ?_;refine av (fQ ?_);rw [e1,e2];dsimp only;have FI:=hB.size;obtain⟨y0,Bf,IA⟩:=hB.mem (i:=sb) #[O];generalize DF:(sortPriv% PySem.Builtin.SortState.mk) (kindOf st) #[wf] ((#[UI].setIfInBounds i (sa,na+nb,pw)).eraseIdxIfInBounds (i+1)) #[VR] (failedOf st)=p9;have y8:SB κ a₀ p9:=by subst DF; exact⟨hB.perm,hB.kind,hB.failed⟩
 have uQ:pendingOf p9=(#[UI].setIfInBounds i (sa,na+nb,pw)).eraseIdxIfInBounds (i+1):=by subst DF; rfl
 have xB:arrOf p9=arrOf st:=by subst DF; rfl
 have BK:∀ n,n < a₀.size->∃ p,#[wf][n]? = some p/\p∈a₀.toList:=fun n hn=>hB.mem hn
 refine av (show wpS _ _ _ _ (set p9) _ st from fq (f:=fun _=>p9) ?_);refine av (zZ Bf (av (zbJ (arr:=arrOf st) hC y8.kind IA (fun j hj=>BK (sa+j) #[O]) sA #[O] fun k FH uc BI=>?_)));dsimp only;have FJ:∀ j,sa<=j->j < sa+k->Vk val #[wf] j<=Vk val #[wf] sb:=fun j h1 h2=>by
  have:=zdQ (uc (j - sa) #[O])
  rwa [show sa+(j - sa)=j by lia,<- z9 (val:=val) Bf] at this
 by_cases yF:na - k=0
 ·rw [if_pos (by simpa using yF)];refine aw (h p9 y8 uQ (fun _ _=>by rw [xB]) ?_);rw [xB];intro p q h1 h2 h3;by_cases hq:q < sa+na
  ·exact sA p q h1 h2 hq
  ·by_cases hp:p < sa+na
   ·exact cq (FJ p h1 #[O]) (sB sb q #[O] #[O] h3)
   ·exact sB p q #[O] h2 h3
 rw [if_neg (by simpa using yF)];have FK:sa+k+(na - k) - 1=sa+na - 1:=by lia
 rw [FK];obtain⟨x0,Bg,IB⟩:=hB.mem (i:=sa+na - 1) #[O];refine av (zZ Bg (av (zbJ (arr:=arrOf st) hC y8.kind IB (fun j hj=>BK (sb+j) #[O]) sB #[O] fun m Bc wo IL=>?_)));dsimp only;have CD:∀ j,sb+m<=j->j < sb+nb->Vk val #[wf] (sa+na - 1)<=Vk val #[wf] j:=fun j h1 h2=>by
  have:=zdB (IL (j - sb) #[O] #[O])
  rwa [show sb+(j - sb)=j by lia,<- z9 (val:=val) Bg] at this
 have IM:∀ j,sb<=j->j < sb+m->Vk val #[wf] j < Vk val #[wf] (sa+na - 1):=fun j h1 h2=>by
  have:=zcE (wo (j - sb) #[O])
  rwa [show sb+(j - sb)=j by lia,<- z9 (val:=val) Bg] at this
 by_cases hm0:m=0
 ·rw [if_pos (by simpa using hm0)];refine aw (h p9 y8 uQ (fun _ _=>by rw [xB]) ?_);rw [xB];intro p q h1 h2 h3;by_cases hq:q < sa+na
  ·exact sA p q h1 h2 hq
  ·by_cases hp:p < sa+na
   ·exact cq (sA p (sa+na - 1) h1 #[O] #[O]) (CD q #[O] h3)
   ·exact sB p q #[O] h2 h3
 rw [if_neg (by simpa using hm0)];have zx:#[wf].size=a₀.size:=FI;have z1:=zdS (xs:=arrOf st) (i:=sa+k) (j:=sb) #[O];have z2:=zdS (xs:=arrOf st) (i:=sb) (j:=sb+m) #[O];have hf:Vk val (#[wf].extract sb (sb+m)) 0<=Vk val (#[wf].extract (sa+k) sb) 0:=by
  rw [zak (zdC #[O] #[O]),zak (zdC (xs:=arrOf st) (i:=sa+k) (j:=sb) (k:=0) #[O] #[O])];have:=zeU (BI k (ah _) #[O]);rw [<- z9 (val:=val) Bf] at this;simp only [ff] at this |-;lia
 have hl:∀ j,j < (#[wf].extract sb (sb+m)).size->Vk val (#[wf].extract sb (sb+m)) j<=Vk val (#[wf].extract (sa+k) sb) ((#[wf].extract (sa+k) sb).size - 1):=by
  intro j hj;rw [z2] at hj;rw [z1,zak (zdC #[O] #[O]),zak (zdC (xs:=arrOf st) (i:=sa+k) (j:=sb) #[O] #[O])];have:=IM (sb+j) #[O] #[O];rw [show sa+k+(sb - (sa+k) - 1)=sa+na - 1 by lia];lia
 have fin:∀ (out:Array Keyed) (g:Nat),Good val ((#[wf].extract (sa+k) sb).toList++(#[wf].extract sb (sb+m)).toList) out.toList ->
   wpS #[or] A E s (do
    modify fun s=>setArr s (out.toList.zipIdx.foldl (fun a (p,j)=>a.setIfInBounds (sa+k+j) p) (arrOf s))
    let s' <- get
    pure (failedOf s').isNone) Q (zaq p9 g):=by
  intro out g hG;refine av (fq (av (fQ ?_)));have hms:out.size=sb+m - (sa+k):=by
   have:=hG.1.length_eq;rw [aF] at this;have e1:out.toList.length=out.size:=by simp
   have e2:(#[wf].extract (sa+k) sb).toList.length=sb - (sa+k):=by rw [aC,z1]
   have e3:(#[wf].extract sb (sb+m)).toList.length=sb+m - sb:=by rw [aC,z2]
   lia
  have nW:=zn1 (xs:=arrOf st) (sa:=sa+k) (sb:=sb) (e:=sb+m) #[O] #[O] #[O] hG.1;have pv:∀ n,#[Fr][n]? = if sa+k<=n/\n < sb+m then out[n - (sa+k)]? else #[wf][n]?:=fun n=>by
   have:=zmQ (sa+k) out.toList 0 #[wf] n (by rw [aC]; lia);rw [aC,ff,hms,show sa+k+(sb+m - (sa+k))=sb+m by lia,aT] at this;exact this
  have E5:(failedOf (setArr (zaq p9 g) #[Fr])).isNone=true:=by
   show (failedOf p9).isNone=true;rw [y8.failed];rfl
  have IP:arrOf (zaq p9 g)=arrOf st:=xB;show wpS _ _ _ _ (pure (failedOf #[TD]).isNone) Q #[TD];rw [IP,E5];refine aw (h _ ⟨nW.trans hB.perm,y8.kind,y8.failed⟩ uQ (fun n hn=>?_) ?_)
  ·show #[Fr][n]? = _;rw [pv,if_neg #[O]]
  ·show SIn val #[Fr] sa (sb+nb);have pU:∀ n,sa+k<=n->n < sb+m->∃ q,sa+k<=q/\q < sb+m/\Vk val #[Fr] n=Vk val #[wf] q:=fun n h1 h2=>by
    have ho:n - (sa+k) < out.size:=by lia
    have tZ:out[n - (sa+k)]? = some out[n - (sa+k)]:=getElem?_pos out _ ho;have nH:out[n - (sa+k)]∈(#[wf].extract (sa+k) sb).toList++(#[wf].extract sb (sb+m)).toList:=hG.1.mem_iff.mp #[M];have hv:Vk val #[Fr] n=val out[n - (sa+k)]:=z9 (by rw [pv,if_pos ⟨h1,h2⟩,tZ]);rcases aP.mp nH with nH | nH
    ·obtain⟨q,q1,q2,q3⟩:=zeW #[O] nH;exact⟨q,q1,#[O],by rw [hv,z9 q3]⟩
    ·obtain⟨q,q1,q2,q3⟩:=zeW #[O] nH;exact⟨q,#[O],q2,by rw [hv,z9 q3]⟩
   have vq:∀ n,¬ (sa+k<=n/\n < sb+m)->Vk val #[Fr] n=Vk val #[wf] n:=fun n hn=>zak (by rw [pv,if_neg hn])
   intro p q h1 h2 h3;by_cases hp:p < sa+k
   ·rw [vq p #[O]];by_cases hq:q < sa+k
    ·rw [vq q #[O]];exact sA p q h1 h2 #[O]
    ·have key:∀ q',sa+k<=q'->q' < sb+nb->Vk val #[wf] p<=Vk val #[wf] q':=fun q' a1 a2=>by
      by_cases uw:q' < sb
      ·exact sA p q' h1 #[O] #[O]
      ·exact cq (FJ p h1 hp) (sB sb q' #[O] #[O] a2)
     by_cases rl:q < sb+m
     ·obtain⟨q',q1,q2,q3⟩:=pU q #[O] rl;rw [q3];exact key q' q1 #[O]
     ·rw [vq q #[O]];exact key q #[O] h3
   ·by_cases rX:p < sb+m
    ·by_cases rl:q < sb+m
     ·have xR:p - (sa+k) < out.size:=by lia
      have tZ:q - (sa+k) < out.size:=by lia
      rw [z9 (p:=out[p - (sa+k)]) (by rw [pv,if_pos #[O]]; exact getElem?_pos out _ xR),z9 (p:=out[q - (sa+k)]) (by rw [pv,if_pos #[O]]; exact getElem?_pos out _ tZ)];by_cases hpq:p=q
      ·subst hpq;exact cK _
      ·have:=ee.mp hG.2 (p - (sa+k)) (q - (sa+k)) (by simpa using xR) (by simpa using tZ) #[O];simpa using this
     ·obtain⟨p',p1,p2,p3⟩:=pU p #[O] rX;rw [p3,vq q #[O]];by_cases rQ:p' < sb
      ·exact cq (sA p' (sa+na - 1) #[O] #[O] #[O]) (CD q #[O] h3)
      ·exact sB p' q #[O] #[O] h3
    ·rw [vq p #[O],vq q #[O]];exact sB p q #[O] h2 h3
 have ma:∀ p∈(#[wf].extract (sa+k) sb).toList,p∈a₀.toList:=fun p hp=>by
  obtain⟨q,q1,q2,q3⟩:=zeW #[O] hp;obtain⟨p',e,m'⟩:=BK q #[O];rw [q3] at e;cases e;exact m'
 have mb:∀ p∈(#[wf].extract sb (sb+m)).toList,p∈a₀.toList:=fun p hp=>by
  obtain⟨q,q1,q2,q3⟩:=zeW #[O] hp;obtain⟨p',e,m'⟩:=BK q #[O];rw [q3] at e;cases e;exact m'
 have ss1:=zjR (val:=val) (xs:=arrOf st) (i:=sa+k) (j:=sb) #[O] (sA.sub #[O] #[O]);have ss2:=zjR (val:=val) (xs:=arrOf st) (i:=sb) (j:=sb+m) #[O] (sB.sub #[O] #[O]);by_cases hle:na - k<=m
 ·rw [if_pos hle];exact av (zkZ (a:=#[wf].extract (sa+k) sb) (b:=#[wf].extract sb (sb+m)) hC y8.kind ma mb ss1 ss2 #[O] #[O] hf hl fin)
 ·rw [if_neg hle];exact av (zk0 (a:=#[wf].extract (sa+k) sb) (b:=#[wf].extract sb (sb+m)) hC y8.kind ma mb ss1 ss2 #[O] #[O] hf hl fin)
end
end Srt
end
section
namespace Srt
open PySem PyProof.Rows
variable {j:Nat}
noncomputable def Runs (val:Keyed->Int) (xs:Array Keyed):List (Nat×Nat×Nat)->Nat->Nat->Prop
 | [],lo,hi=>lo=hi
 | (s,n,_) :: r,lo,hi=>s=lo/\1<=n/\SIn val xs lo (lo+n)/\Runs val xs r (lo+n) hi
section
variable {val:Keyed->Int}
theorem Runs.le {xs:Array Keyed}:∀ {p:List (Nat×Nat×Nat)} {lo hi:Nat},Runs val xs p lo hi->lo+p.length<=hi
 | [],lo,hi,h=>by
  have h:lo=hi:=h;simp only [dU];lia
 | (s,n,w) :: r,lo,hi,h=>by
  obtain⟨_,h1,_,h2⟩:=h;have:=h2.le;simp only [bf];lia
theorem Runs.append {xs:Array Keyed}:∀ {p q:List (Nat×Nat×Nat)} {lo hi:Nat},Runs val xs (p++q) lo hi↔∃ mid,Runs val xs p lo mid/\Runs val xs q mid hi
 | [],q,lo,hi=>⟨fun h=>⟨lo,rfl,h⟩,fun ⟨mid,h1,h2⟩=>by
   have h1:lo=mid:=h1;subst h1;exact h2⟩
 | (s,n,w) :: p,q,lo,hi=>by
  constructor
  ·rintro⟨h1,h2,h3,h4⟩;obtain⟨mid,h5,h6⟩:=Runs.append.mp h4;exact⟨mid,⟨h1,h2,h3,h5⟩,h6⟩
  ·rintro⟨mid,⟨h1,h2,h3,h5⟩,h6⟩;exact⟨h1,h2,h3,Runs.append.mpr ⟨mid,h5,h6⟩⟩
theorem Runs.keep {xs ys:Array Keyed}:∀ {p:List (Nat×Nat×Nat)} {lo hi:Nat},Runs val xs p lo hi->(∀ k,lo<=k->k < hi->ys[k]? = xs[k]?)->Runs val ys p lo hi
 | [],lo,hi,h,_=>h
 | (s,n,w) :: p,lo,hi,h,e=>by
  obtain⟨h1,h2,h3,h4⟩:=h;have:=h4.le;refine⟨h1,h2,fun i j a b c=>?_,h4.keep fun k a b=>e k #[O] b⟩;rw [zak (e i #[O] #[O]),zak (e j #[O] #[O])];exact h3 i j a b c
theorem zmR {α:Type} (p q:List α) (x y v:α):((p++x :: y :: q).toArray.setIfInBounds p.length v).eraseIdxIfInBounds (p.length+1)=(p++v :: q).toArray:=by
 simp [Array.eraseIdxIfInBounds];rw [List.eraseIdx_append_of_length_le #[O],show p.length+1 - p.length=1 by lia];rfl
theorem zmS {α:Type} (q:List α) (z:α) (f:α->α):(q++[z]).toArray.modify ((q++[z]).toArray.size - 1) f=(q++[f z]).toArray:=by
 apply Array.ext';simp;induction q with
 | nil=>rfl
 | cons a q ih =>
  show (a :: (q++[z])).modify (q.length+1) f=a :: (q++[f z]);rw [List.modify_succ_cons,ih]
theorem zjS {xs:Array Keyed} {p:List (Nat×Nat×Nat)} {n:Nat} (hl:p.length<=1) (hn:1<=n) (h:Runs val xs p 0 n):SIn val xs 0 n:=by
 match p,hl,h with
 | [],_,h =>
  have h:0=n:=h;lia
 | [(a,b,c)],_,h =>
  obtain⟨_,_,h3,h4⟩:=h;have h4:0+b=n:=h4;rw [<- h4];exact h3
 | _ :: _ :: _,hl,_=>simp at hl
theorem zk3 {α:Type} {p:List α} (h:j+2<=p.length):∃ pre x y post,p=pre++x :: y :: post/\pre.length=j:=by
 refine⟨p.take j,p[j],p[j+1],p.drop (j+2),?_,by rw [aA]; lia⟩;have e1:=(cD j p).symm;rw [cQ (show j < p.length by lia),cQ (show j+1 < p.length by lia)] at e1;exact e1
end
section
variable {prog:Program} {w:World} {A:Around} {E:Value->Shared->Prop} {s:Shared} {a₀:Array Keyed} {κ:SortKind} {val:Keyed->Int}
theorem zh1 {st:SortSt} {pre post:List (Nat×Nat×Nat)} {x y:Nat×Nat×Nat} {hi:Nat} {Q:Bool->SortSt->Prop} (hC:Cmp prog w A s κ val a₀) (hB:SB κ a₀ st) (hp:pendingOf st=(pre++x :: y :: post).toArray) (hR:Runs val #[wf] (pre++x :: y :: post) 0 hi) (BH:hi<=a₀.size)
  (h:∀ mW v,SB κ a₀ mW->pendingOf mW=(pre++v :: post).toArray->(∀ k,hi<=k->#[xL][k]? = #[wf][k]?)->Runs val #[xL] (pre++v :: post) 0 hi->Q true mW) :
  wpS #[or] A E s (mergeAt' pre.length) Q st:=by
 obtain⟨sa,na,pw⟩:=x;obtain⟨sb,nb,pw2⟩:=y;obtain⟨mid,r1,r2⟩:=Runs.append.mp hR;obtain⟨rfl,q1,q2,rfl,q4,q5,r3⟩:=r2;have hle:=r3.le;refine zk2 (i:=pre.length) (sa:=sa) (na:=na) (pw:=pw) (sb:=sa+na) (nb:=nb) (pw2:=pw2) hC hB (by rw [hp]; simp) (by rw [hp]; simp) rfl q1 q4 #[O] q2 q5 fun mW qf rQ hk hs=>?_
 refine h mW (sa,na+nb,pw) qf (by rw [rQ,hp,zmR]) (fun k ux=>hk k #[O]) ?_;refine Runs.append.mpr ⟨sa,r1.keep fun k _ b=>hk k #[O],rfl,#[O],?_,?_⟩
 ·rw [<- Nat.add_assoc];exact hs
 ·rw [<- Nat.add_assoc];exact r3.keep fun k a b=>hk k #[O]
theorem zn2 {n:Nat} {c:Prop} [Decidable c] (h:¬ n<=1):(if c then n - 2 - 1 else n - 2)+2<=n:=by
 by_cases hc:c
 ·rw [if_pos hc];lia
 ·rw [if_neg hc];lia
theorem zmT {st:SortSt} {p:List (Nat×Nat×Nat)} {hi:Nat} {Q:Bool->SortSt->Prop} (hj:j+2<=p.length) (hC:Cmp prog w A s κ val a₀) (hB:SB κ a₀ st) (hp:pendingOf st=p.toArray) (hR:Runs val #[wf] p 0 hi) (BH:hi<=a₀.size)
  (h:∀ mW p',SB κ a₀ mW->pendingOf mW=p'.toArray->Runs val #[xL] p' 0 hi->p'.length+1=p.length->Q true mW):wpS #[or] A E s (mergeAt' j) Q st:=by
 obtain⟨pre,x,y,post,rfl,rfl⟩:=zk3 hj;exact zh1 hC hB hp hR BH fun mW v a b _ d=>h mW _ a b d (by simp only [aF,bf]; lia)
theorem zpy {st:SortSt} {Q:Unit->SortSt->Prop} (hC:Cmp prog w A s κ val a₀) (hB:SB κ a₀ st) (hp:pendingOf st = #[]) (h2:1<=a₀.size)
  (h:∀ mW,SB κ a₀ mW->SIn val #[xL] 0 a₀.size->Q () mW):wpS #[or] A E s sortRuns' Q st:=by
 rw [sortRuns'_eq];refine av (fQ ?_);dsimp only;rw [hB.size];generalize minRun' a₀.size a₀.size 0=mr;refine av (dJ (cU (I:=fun x c mW=>∃ lo p,c=(none,lo)/\SB κ a₀ mW/\pendingOf mW=p.toArray/\Runs val #[xL] p 0 lo/\lo<=a₀.size/\min x a₀.size<=lo)
  (Q:=fun c mW=>∃ p,c=(none,a₀.size)/\SB κ a₀ mW/\pendingOf mW=p.toArray/\Runs val #[xL] p 0 a₀.size) ?step ?fin ⟨0,[],rfl,hB,hp,rfl,#[O],#[O]⟩) ?post)
 case fin =>
  rintro c mW ⟨lo,p,rfl,qf,rQ,hR,rT,hx⟩;have:lo=a₀.size:=by lia
  subst this;exact⟨p,rfl,qf,rQ,hR⟩
 case step =>
  rintro x c mW _ hx ⟨lo,p,rfl,qf,rQ,hR,rT,IQ⟩;dsimp only;by_cases qY:lo>=a₀.size
  ·rw [if_pos qY];have:lo=a₀.size:=by lia
   subst this;exact aw ⟨p,rfl,qf,rQ,hR⟩
  rw [if_neg qY];refine av (znX hC #[O] #[O] (SF.refl qf) fun m p9 hF1 Bc wo hs1=>?_);dsimp only;apply zq1
  ·intro k1 k2;by_cases IS:m < mr
   ·rw [if_pos IS]
    (refine av #[Sg])
    refine av (zqt hC #[O] #[O] hF1 hs1 fun nR CF o7=>?_);rw [if_neg #[D]];have Bd:1<=min #[Yb] mr:=by lia
    have uK:lo+min #[Yb] mr<=a₀.size:=by lia
    generalize min #[Yb] mr=n at o7 Bd uK |-
    revert uK; revert Bd; revert o7; revert CF; revert nR; revert n
    exact k1 ()
   ·rw [if_neg IS];have uK:lo+m<=a₀.size:=by lia
    clear wo IS
    revert uK; revert Bc; revert hs1; revert hF1; revert p9; revert m
    exact k2 ()
  intro n nR CF o7 Bd uK;refine av (fQ ?_);have uQ:pendingOf nR=p.toArray:=CF.pend.trans rQ;have EG:Runs val (arrOf nR) p 0 lo:=hR.keep fun k _ b=>CF.low k b
  rcases dt p with rfl | ⟨q,z,rfl⟩
  ·rw [uQ];show wpS _ _ _ _ (do
    modify fun s=>setPending s ((pendingOf s).push (lo,n,0)); pure (cP (none,lo+n))) _ _
   refine av (fq (aw ⟨lo+n,[(lo,n,0)],rfl,⟨CF.b.perm,CF.b.kind,CF.b.failed⟩,?_,?_,#[O],#[O]⟩))
   ·show #[Ta].push _=_;rw [uQ];rfl
   ·have h0:0=lo:=EG;subst h0;exact⟨rfl,Bd,o7,rfl⟩
  obtain⟨s1,n1,w1⟩:=z;rw [uQ,cR,show ((q++[(s1,n1,w1)]).toArray).back? = some (s1,n1,w1) by simp];rw [cR] at uQ EG;dsimp only;generalize power' a₀.size (2*s1+n1) (2*s1+n1+n1+n) a₀.size=pw;refine av (dJ (cU (I:=fun _ c mW=>c=(none,())/\∃ q' z,SB κ a₀ mW/\pendingOf mW=(q'++[z]).toArray/\Runs val #[xL] (q'++[z]) 0 lo/\(∀ k,lo<=k->#[xL][k]? = (arrOf nR)[k]?))
   (Q:=fun c mW=>c=(none,())/\∃ q' z,SB κ a₀ mW/\pendingOf mW=(q'++[z]).toArray/\Runs val #[xL] (q'++[z]) 0 lo/\(∀ k,lo<=k->#[xL][k]? = (arrOf nR)[k]?)) ?_ (fun _ _ hh=>hh) ⟨rfl,q,(s1,n1,w1),CF.b,uQ,EG,fun _ _=>rfl⟩) ?_)
  ·rintro x2 c nR _ FG ⟨rfl,q',z,vt,rX,y9,uc⟩;refine av (fQ ?_);rcases dt q' with rfl | ⟨q2,y,rfl⟩
   ·rw [rX,if_neg #[M]];exact aw ⟨rfl,[],z,vt,rX,y9,uc⟩
   rw [cR,bu] at rX y9;have esz:#[Ta].size - 2=q2.length:=by rw [rX]; simp
   have eel:(if #[Ta].size > 1 then #[Ta][#[Ta].size - 2]? else none)=some y:=by
    rw [if_pos (by rw [rX]; simp),esz,rX];simp
   rw [eel];obtain⟨y1,y2,y3⟩:=y;dsimp only;by_cases ho:y3<=pw
   ·rw [if_pos ho];exact aw ⟨rfl,q2++[(y1,y2,y3)],z,vt,by rw [rX,bu],by rw [bu]; exact y9,uc⟩
   ·rw [if_neg ho,esz];refine av (zh1 hC vt rX y9 #[O] fun Bp v IT Bh BI IU=>?_);rw [if_neg #[D]];exact aw ⟨rfl,q2,v,IT,Bh,IU,fun k hk=>(BI k hk).trans (uc k hk)⟩
  ·rintro c nR ⟨rfl,q',z,vt,rX,y9,uc⟩;obtain⟨z1,z2,z3⟩:=z;dsimp only;refine av (fq (av (fq (aw ⟨lo+n,q'++[(z1,z2,pw),(lo,n,0)],rfl,⟨vt.perm,vt.kind,vt.failed⟩,?_,?_,#[O],#[O]⟩))))
   ·show (#[Ta].modify (#[Ta].size - 1) fun x=>(x.fst,x.2.fst,pw)).push (lo,n,0)=_;rw [rX,zmS];simp
   ·show Runs val (arrOf nR) _ _ _;obtain⟨mid,r1,r2⟩:=Runs.append.mp y9;obtain⟨e1,e2,e3,e4⟩:=r2;have e4:mid+z2=lo:=e4;refine Runs.append.mpr ⟨mid,r1,e1,e2,e3,e4.symm,Bd,?_,?_⟩
    ·intro i j a1 a2 a3;rw [zak (uc i #[O]),zak (uc j #[O])];exact o7 i j #[O] a2 #[O]
    ·show mid+z2+n=lo+n;lia
 case post =>
  rintro c p9 ⟨p,rfl,y8,uQ,EG⟩;dsimp only;have oR:=EG.le;refine av (dJ (cU (I:=fun x c mW=>c=(none,())/\∃ p,SB κ a₀ mW/\pendingOf mW=p.toArray/\Runs val #[xL] p 0 a₀.size/\p.length<=max 1 (a₀.size - x))
   (Q:=fun c mW=>c=(none,())/\SB κ a₀ mW/\SIn val #[xL] 0 a₀.size) ?_ ?_ ⟨rfl,p,y8,uQ,EG,#[O]⟩) ?_)
  ·rintro x c nR _ hx ⟨rfl,p2,vt,rX,y9,qX⟩;refine av (fQ ?_);have hsz:#[Ta].size=p2.length:=by rw [rX]; simp
   rw [hsz];by_cases hle:p2.length<=1
   ·rw [if_pos hle];exact aw ⟨rfl,vt,zjS hle h2 y9⟩
   rw [if_neg hle];refine av (zmT (p:=p2) (zn2 hle) hC vt rX y9 (ah _) fun Bp p3 IT Bh IU hl3=>?_);rw [if_neg #[D]];exact aw ⟨rfl,p3,IT,Bh,IU,#[O]⟩
  ·rintro c nR ⟨rfl,p2,vt,rX,y9,qX⟩;exact⟨rfl,vt,zjS #[O] h2 y9⟩
  ·rintro c nR ⟨rfl,vt,hS⟩;exact aw (h nR vt hS)
end
end Srt
end
section
namespace Srt
open PySem PyProof.Rows
noncomputable def num (B:Int):List Int->Int
 | []=>0
 | n :: r=>n*B ^ r.length+num B r
theorem Mx {B:Int} (hB:1<=B):∀ {ns:List Int},(∀ n∈ns,0<=n/\n < B)->0<=num B ns/\num B ns < B ^ ns.length
 | [],_=>by simp [num]
 | n :: r,h=>by
  obtain⟨h1,h2⟩:=Mx hB (ns:=r) fun m hm=>h m (aq _ hm)
  obtain⟨a,b⟩:=h n #[M];have hp:0 < B ^ r.length:=Int.pow_pos #[O];have e:B ^ (n :: r).length=B ^ r.length*B:=by rw [bf,Int.pow_succ]
  show 0<=n*B ^ r.length+num B r/\n*B ^ r.length+num B r < _;rw [e];have h3:0<=n*B ^ r.length:=Int.mul_nonneg a #[O];have h4:n*B ^ r.length<=(B - 1)*B ^ r.length:=dF #[O] #[O];have h5:(B - 1)*B ^ r.length=B ^ r.length*B - B ^ r.length:=by rw [Int.sub_mul,Int.one_mul,kM]
  lia
noncomputable def zh2:List Int->List Int->Bool
 | [],[]=>false
 | [],_ :: _=>true
 | _ :: _,[]=>false
 | x :: xs,y :: ys=>if x=y then zh2 xs ys else decide (x < y)
theorem zdd (x y:Int) (xs ys:List Int):zh2 (x :: xs) (y :: ys)=if x=y then zh2 xs ys else decide (x < y):=rfl
theorem zjT {B:Int} (hB:1<=B):∀ {ms ns:List Int},ms.length=ns.length->(∀ n∈ms,0<=n/\n < B)->(∀ n∈ns,0<=n/\n < B)->zh2 ms ns=decide (num B ms < num B ns)
 | [],[],_,_,_=>by simp [zh2,num]
 | [],_ :: _,h,_,_=>by simp at h
 | _ :: _,[],h,_,_=>by simp at h
 | m :: ms,n :: ns,hl,h1,h2=>by
  have CW:ms.length=ns.length:=by simpa using hl
  have ih:=zjT hB CW (fun x hx=>h1 x (aq _ hx)) (fun x hx=>h2 x (aq _ hx));obtain⟨a1,a2⟩:=Mx hB fun x hx=>h1 x (aq m hx)
  obtain⟨b1,b2⟩:=Mx hB fun x hx=>h2 x (aq n hx)
  rw [zdd];show _=decide (m*B ^ ms.length+num B ms < n*B ^ ns.length+num B ns);rw [CW] at a2 |-;have hp:0 < B ^ ns.length:=Int.pow_pos #[O];by_cases e:m=n
  ·rw [if_pos e,ih,e];rw [eQ];simp only [decide_eq_true_eq];lia
  ·rw [if_neg e,eQ];simp only [decide_eq_true_eq];have key:∀ x y:Int,x < y->x*B ^ ns.length+B ^ ns.length<=y*B ^ ns.length:=fun x y GZ=>by
    have:=dF (show x+1<=y by lia) (show 0<=B ^ ns.length by lia);rw [Int.add_mul,Int.one_mul] at this;exact this
   constructor
   ·intro h;have:=key m n h;lia
   ·intro h;rcases k7 m n with h3 | h3 | h3
    ·exact h3
    ·exact absurd h3 e
    ·have:=key n m h3;lia
section
variable {prog:Program} {w:World} {A:Around} {E:Value->Shared->Prop} {s:Shared}
theorem zjU {Q:Bool->Shared->Prop} {fin:Bool}:∀ {xs ys:List Value} {ms ns:List Int} (i:Nat),IntsAre xs ms->IntsAre ys ns->ms.length=ns.length->Q (if ms=ns then fin else zh2 ms ns) s->PySem.W.KatLex prog w A true fin Q (xs.zip ys) i s
 | [],[],[],[],i,_,_,_,h=>PySem.W.kat_nil (by simpa using h)
 | _ :: _,_,[],_,_,hx,_,_,_=>by cases hx
 | [],_,_ :: _,_,_,hx,_,_,_=>by cases hx
 | _,[],_,_ :: _,_,_,hy,_,_=>by cases hy
 | _,_ :: _,_,[],_,_,hy,_,_=>by cases hy
 | x :: xs,y :: ys,m :: ms,n :: ns,i,hx,hy,hl,h=>by
  cases hx with
  | cons _ t hx =>
   cases hy with
   | cons _ u hy =>
    refine PySem.W.kat_cons (wpAny_eqBool_int ?_);by_cases e:m=n
    ·rw [show (m == n)=true by simpa using e];refine PySem.W.kat_yes (zjU (i+1) hx hy (by simpa using hl) ?_);subst e;rw [zdd,if_pos rfl] at h;simpa using h
    ·rw [show (m == n)=false by simpa using e];have o8:¬ (m :: ms=n :: ns):=fun z=>e (jY z).1
     rw [if_neg o8,zdd,if_neg e] at h;refine PySem.W.kat_no ?_;by_cases hi:i=0
     ·subst hi;exact oneLt_int h
     ·have hb:(true && i == 0)=false:=by simp [hi]
      rw [hb];exact PySem.W.kat_one _ _ (wpAny_lt_int h)
end
end Srt
end
section
namespace PySem
open PyProof.Rows
noncomputable def zeH (h:Heap) (d:Addr) (es:Array DictEntry) (ep:Nat):Prop:=∃ o,h.get? d=some o/\o.ExactDict/\o.data = .dict es ep
theorem zeH.at' {h h':Heap} {d:Addr} {es:Array DictEntry} {ep:Nat} (x:zeH h d es ep) (e:∀ o,h.get? d=some o->h'.get? d=some o):zeH h' d es ep:=let ⟨o,ho,r⟩:=x; ⟨o,e _ ho,r⟩
theorem zeH.typeIs {s:Shared} {d:Addr} {es:Array DictEntry} {ep:Nat} (x:zeH s.heap d es ep):s.TypeIs (.ref d) "dict":=let ⟨o,ho,hc,_⟩:=x; ⟨o,ho,hc.1⟩
section
variable {prog:Program} {w:World} {A:Around} {E:Value->Shared->Prop} {s:Shared} {it d:Addr} {i ep:Nat} {es:Array DictEntry}
theorem zh3 {Q:Value->Shared->Prop} (hd:(d == sysModules)=false) (hm:zeH s.heap d es ep) (hQ:Q #[t0] { s with heap:=s.heap.push { cls:=.type "dict_keyiterator",data:=.fields #[.ref d,.int 0 0,.int es.size 0,.int ep 0] } }):wpAny #[or] A (pyIter (.ref d)) Q E s:=by
 have hT:=hm.typeIs;obtain⟨o,ho,hc,FN⟩:=id hm;refine eY hT lA (br lA hT F.entry_dict_iter ?_ (F.args_dict_iter_1 _)); unfold Builtin.«dict.__iter__» Builtin.Dict.dictSlotNone;refine aa (aa (wpAny_notOrdered_dict hT ?_)); show wpAny _ _ (pure (aN d)) _ _ s;refine ag ?_; show wpAny _ _ (jC d >>= _) _ _ s; unfold jC;rw [if_neg (show ¬ ((d == sysModules)=true) by rw [hd]; decide)];refine aa (ag (aa (iF ho FN (aa (jj ho FN (aa (bJ (ag ⟨_,rfl,"dict_keyiterator",_,⟨_,aD _ rfl,rfl⟩,F.slot_dict_keyiterator_next.lookup,?_⟩))))))));simpa [rawInt] using hQ
theorem zh4 {e:DictEntry} {Q:Option Value->Shared->Prop} (hit:s.heap.IsKeyIter it d i es.size ep) (hm:zeH s.heap d es ep) (he:es[i]? = some e)
  (hQ:∀ h',h'.IsKeyIter it d (i+1) es.size ep->bh it s.heap h'->Q (some e.key) { s with heap:=h' }):wpAny #[or] A #[Tg] Q E s:=by
 (obtain⟨o,ho,hc,hd⟩:=id hit)
 obtain⟨od,FO,uJ,FP⟩:=id hm;have nC:i < es.size:=(dj.mp he).1;have DG:hJ "dict_keyiterator" = false:=by decide +kernel
 unfold pyNext; refine aa (cp (bv (name:=bT "__next__") hit.typeIs dL #[Xh]));refine aa #[UT];simp only [DG,ba,if_false]; show wpAny _ _ (if (aN d == ci)=true then _ else _) _ _ s;rw [if_neg (show ¬ ((aN d == ci)=true) from fun z=>aJ z)];refine aa (ag (aa (iF FO FP ?_)));rw [if_neg (show ¬ ((((es.size:Nat):Int) != ((es.size:Nat):Int))=true) by simp)];refine aa (ag (aa (jj FO FP ?_)));rw [if_neg #[M]]; refine ag ?_;simp only [show ¬ ((i:Int) < 0) by lia,if_false,bd,he];refine aa (aa (dG hit.typeIs (ag (aa (jD hit.typeIs ?_)))));show wpAny _ _ (setField #[Ry] 1 (rawInt ((i:Int)+1)) >>= _) _ _ s; refine aa #[Vg];have xS:(s.heap.update it (fA (·.setIfInBounds 1 (rawInt ((i:Int)+1))))).IsKeyIter it d (i+1) es.size ep:=⟨_,bW _ ho (dn (bY hd _)),(eX ..).trans hc,by rw [bY hd]; simp [rawInt]⟩;refine aa (bQ (aa (jD (s:={ s with heap:=s.heap.update it (fA (·.setIfInBounds 1 (rawInt ((i:Int)+1)))) }) xS.typeIs ?_)));show wpAny _ _ (pure e.key) _ _ _; exact ag (ag ⟨_,rfl,ag (hQ _ xS (bL ..))⟩)
theorem zjV {Q:Option Value->Shared->Prop} (hh:A.handled=none) (hit:s.heap.IsKeyIter it d i es.size ep) (hm:zeH s.heap d es ep) (he:es.size<=i) (hQ:∀ h',jo it s.heap h'->Q none { s with heap:=h' }):wpAny #[or] A #[Tg] Q E s:=by
 (obtain⟨o,ho,hc,hd⟩:=id hit)
 obtain⟨od,FO,uJ,FP⟩:=id hm;have DG:hJ "dict_keyiterator" = false:=by decide +kernel
 unfold pyNext; refine aa (cp (bv (name:=bT "__next__") hit.typeIs dL #[Xh]));refine aa #[UT];simp only [DG,ba,if_false]; show wpAny _ _ (if (aN d == ci)=true then _ else _) _ _ s;rw [if_neg (show ¬ ((aN d == ci)=true) from fun z=>aJ z)];refine aa (ag (aa (iF FO FP ?_)));rw [if_neg (show ¬ ((((es.size:Nat):Int) != ((es.size:Nat):Int))=true) by simp)];refine aa (ag (aa (jj FO FP ?_)));rw [if_neg #[M]]; refine ag ?_;simp only [show ¬ ((i:Int) < 0) by lia,if_false,bd,cr he];refine aa (aa (dG hit.typeIs (ag ?_)));show wpAny _ _ (setField #[Ry] 0 .none >>= _) _ _ s; refine aa #[Vg];show wpAny _ _ (newExc (.type "StopIteration") [] >>= _) _ _ _; simp only [newExc,newTuple];refine aa (aa (bJ (aa (m:=firstArgMember _ _) (eB (a:=ci) (by first | rfl | (simp only [firstArgMember]; rfl)) (bJ ?_ (by size_fits)))) (by size_fits)));simp only [raiseNew]; refine aa (iu ?_); rw [show A.in1.handled=none from hh];refine aa (ag (jp ?_)); refine aa (dH (T:="StopIteration") (b:=true) ⟨_,aD _ rfl,rfl⟩ fO ?_)
 (exact ag (hQ _ (((bL ..).extBut.push _).push _)))
theorem zk4 (hh:A.handled=none) (I d:Addr) (o8:d≠I) (es:Array DictEntry) (ep:Nat) :
  Walks prog w A I [I,d] [I] es.size (fun i v=>∃ e,es[i]? = some e/\v=e.key) (fun i h=>h.IsKeyIter I d i es.size ep/\zeH h d es ep) where
 sub:=(fun b hb=>by simp at hb; simp [hb])
 frame:=(fun _ _ _ st hk=>⟨st.1.at fun o e=>hk I #[M] o e,st.2.at' fun o e=>hk d #[M] o e⟩)
 item:=fun i s Q E hi st hQ=>zh4 st.1 st.2 (getElem?_pos es i hi) fun h' xS pB=>hQ _ h' s.toks ⟨es[i],getElem?_pos es i hi,rfl⟩ ⟨xS,st.2.at' fun o e=>pB.extBut d o o8 e⟩ fun b o hb e=>pB.extBut b o (fun h=>hb (by simp [h])) e
 done:=fun s Q E st hQ=>zjV hh st.1 st.2 (ah _) fun h' BB=>hQ h' s.toks fun b o hb e=>BB b o (fun h=>hb (by simp [h])) e
 self:=(fun _ _ _ _ st hQ=>jT st.1 hQ)
theorem zn3 (lo:(d == sysModules)=false):PySem.W.KdlSrc prog w "dict" d d es.size (fun i v=>∃ e,es[i]? = some e/\v=e.key) (fun h=>zeH h d es ep) where
 type:=fun _ hm=>hm.typeIs
 there:=fun _ hm=>let ⟨_,ho,_⟩:=hm; ⟨aG ho,aG ho⟩
 keep:=(fun _ _ hm hk=>hm.at' fun o e=>hk d #[Os] o e)
 notList:=by decide
 notTuple:=by decide
 hint:=fun _ _ _ _ hm hq=>PySem.W.kdl_hint_dict hm.typeIs hq
 iter:=fun _ _ hh hm=>⟨_,_,(fun _ _ hq=>zh3 lo hm hq),zk4 hh _ d (by obtain⟨_,ho,_⟩:=id hm; exact aQ (aG ho)) es ep,⟨⟨_,aD _ rfl,rfl,rfl⟩,hm.at' fun o e=>ai _ e⟩⟩
end
end PySem
end
section
namespace Srt
open PySem PyProof.Rows
variable {vs:List Value}
section
variable {prog:Program} {w:World} {A:Around} {E:Value->Shared->Prop} {s:Shared} {κ:SortKind} {val:Keyed->Int}
theorem zcn {p:Keyed} (h:p∈#[SZ].toList):p.1∈vs/\p.2=p.1:=by
 rw [jE] at h;obtain⟨i,hi,e⟩:=eK h;rw [List.getElem_zip] at e;rw [<- e];exact⟨eG _,rfl⟩
theorem zpz {xs:Array Keyed} (hp:xs.Perm #[SZ]) (hs:SIn val xs 0 #[SZ].size):(xs.map (·.2)).toList.Perm vs/\(xs.map (·.2)).toList.Pairwise fun x y=>val (x,x)<=val (y,y):=by
 (have hl:xs.toList.Perm (vs.zip vs):=by rw [<- jE]; exact fB.mp hp)
 have hm:∀ p∈xs.toList,p=(p.2,p.2):=fun p rQ=>by
  have:=zcn (by rw [jE]; exact hl.mem_iff.mp rQ);exact Prod.ext this.2.symm rfl
 constructor
 ·rw [iR];refine (hl.map (·.2)).trans ?_;rw [show (vs.zip vs).map (·.2)=vs from List.map_snd_zip (ah _)]
 ·rw [iR,d7,ee];intro i j hi hj tW
  (have pq:i < xs.size:=by simpa using hi)
  (have rj:j < xs.size:=by simpa using hj)
  have h1:=hs i j (aZ _) #[O] (by rw [<- hp.size_eq]; exact rj);rw [z9 (getElem?_pos xs i pq),z9 (getElem?_pos xs j rj)] at h1;have e1:=hm xs.toList[i] (eG _);have e2:=hm xs.toList[j] (eG _);rw [<- e1,<- e2];simpa using h1
theorem zk5 {a:Addr} {n:Nat} {P:PySem.Fin->Shared->Prop} (ho:s.heap.get? a=some (seqObj "list" vs.toArray n)) (nj:vs.length<=sizeLine)
  (su:∀ h',(∀ b o,b≠a->s.heap.get? b=some o->h'.get? b=some o)->2<=vs.length->∀ (Q:SortKind->Shared->Prop) (E:Value->Shared->Prop),Q κ { s with heap:=h' }->wpAny #[or] A (keyKind' vs.toArray) Q E { s with heap:=h' })
  (DH:∀ h',(∀ b o,b≠a->s.heap.get? b=some o->h'.get? b=some o)->Cmp prog w A { s with heap:=h' } κ val #[SZ])
  (h:∀ out:Array Value,out.toList.Perm vs->(out.toList.Pairwise fun x y=>val (x,x)<=val (y,y))->P (.done (.ret .none)) { s with heap:=sortedHeap s.heap a vs out }):wpAny #[or] A (Builtin.«list.sort» ⟨[.ref a],[]⟩) P E s:=by
 rw [list_sort_plain]
 (have ha:a < s.heap.objs.size:=aG ho)
 have hz:vs.toArray.size=vs.length:=au;refine aa (listItems_at ho rfl (aa (jZ ho rfl ?_ (hsz:=by rw [hz]; exact nj))))
 (obtain⟨e1,xR⟩:∃ e1,(s.heap.update a (cI fun _=>#[])).get? a=some (seqObj "list" #[] e1):=⟨_,get?_update_seq ho (fun _=>#[])⟩)
 refine aa (lh xR rfl (aa (g7 (aa (wpAny_newList (bQ ?_))) (hsz:=nj))));have Hd:(((s.heap.update a (cI fun _=>#[])).push (seqObj "tuple" vs.toArray 0)).push (seqObj "list" #[] 0)).get? a=some (seqObj "list" #[] e1):=ai _ (ai _ xR);have hk6:∀ b o,b≠a->s.heap.get? b=some o->(((s.heap.update a (cI fun _=>#[])).push (seqObj "tuple" vs.toArray 0)).push (seqObj "list" #[] 0)).get? b=some o:=fun b o hb e=>ai _ (ai _ ((j8 _ _ _ _ hb).trans e))
 (show wpAny #[or] A _ P E { s with heap:=((s.heap.update a (cI fun _=>#[])).push (seqObj "tuple" vs.toArray 0)).push (seqObj "list" #[] 0) })
 dsimp only;have IV:=DH _ hk6;have fin:∀ mW:SortSt,SB κ #[SZ] mW\/(arrOf mW=pairsOf vs/\failedOf mW=none)->SIn val #[xL] 0 #[SZ].size ->
   P (.done (.ret .none)) { s with heap:=sortedHeap s.heap a vs (#[xL].map (·.2)) }:=fun mW hB hs=>by
  have hp:#[xL].Perm #[SZ]:=by
   rcases hB with hB | hB
   ·exact hB.perm
   ·rw [hB.1]
  obtain⟨b1,b2⟩:=zpz hp hs;exact h _ b1 b2
 (by_cases h2:vs.toArray.size < 2)
 ·rw [if_pos h2,if_pos h2];refine aa (ag ?_); rw [StateT.run_pure]; refine aa (ag ?_);dsimp only;refine aa (lh Hd rfl (aa (jZ Hd rfl ?_ (hsz2:=by rw [lZ]; show #[SZ].size<=_; rw [iS]; lia))))
  (simp only [bne_self_eq_false,ba,if_false])
  refine ag (fin (lR general' #[XQ] #[] 7 none) (.inr ⟨rfl,rfl⟩) fun i j _ tW hj=>?_);have e:i=j:=by rw [iS] at hj; lia
  rw [e];exact cK _
 ·rw [if_neg h2,if_neg h2];refine aa (su _ hk6 #[O] _ _ ?_);refine aa (bR (zpy (a₀:=pairsOf vs) (κ:=κ) (val:=val) (st:=lR κ #[XQ] #[] 7 none) (Q:=fun _ mW=>SB κ #[SZ] mW/\SIn val #[xL] 0 #[SZ].size)
   IV ⟨Array.Perm.refl _,rfl,rfl⟩ rfl (by rw [iS]; lia) fun mW a1 a2=>⟨a1,a2⟩) ?_ fun _ _ e=>e)
  rintro⟨⟨⟩,mW⟩ s' ⟨rfl,hB,hs⟩;dsimp only;refine aa (lh Hd rfl (aa (jZ Hd rfl ?_ (hsz2:=bq (ko ((lZ ..).trans (hB.perm.size_eq.trans (iS _)))) #[O]))));rw [hB.failed]
  (simp only [bne_self_eq_false,ba,if_false])
  exact ag (fin mW (.inl hB) hs)
theorem zek {v:Value} {Q:Value->Shared->Prop} (nj:vs.length<=sizeLine)
  (IW:∀ R:List Value->Shared->Prop,(∀ (h':Heap) (tk:Nat),(∀ b o,s.heap.get? b=some o->h'.get? b=some o)->R vs { s with heap:=h',toks:=tk })->wpAny #[or] A.in1 (collect v) R E s)
  (su:∀ s',(∀ b o,s.heap.get? b=some o->s'.heap.get? b=some o)->2<=vs.length->∀ (A':Around) (Q:SortKind->Shared->Prop) (E:Value->Shared->Prop),Q κ s'->wpAny #[or] A' (keyKind' vs.toArray) Q E s')
  (DH:∀ s' A',(∀ b o,s.heap.get? b=some o->s'.heap.get? b=some o)->Cmp prog w A' s' κ val #[SZ])
  (h:∀ (h':Heap) (tk:Nat) (out:Array Value) (e:Nat) (D:Addr),(∀ b o,s.heap.get? b=some o->h'.get? b=some o)->(∀ b o,s.heap.get? b=some o->b < D)->h'.get? D=some (seqObj "list" out e)->out.toList.Perm vs->(out.toList.Pairwise fun x y=>val (x,x)<=val (y,y))->Q #[Ri] { s with heap:=h',toks:=tk }) :
  wpAny #[or] A (call (.builtin "sorted") [v]) Q E s:=by
 refine Calls.call_function_entry kind_sorted plain_sorted entry_sorted (args_sorted1 _) ?_; unfold Builtin.«sorted»;refine aa (m:=checkCount "sorted" 1 1 _) (ag (aa (bR (IW (fun us s'=>us=vs/\∃ (h':Heap) (tk:Nat),s' = { s with heap:=h',toks:=tk }/\∀ b o,s.heap.get? b=some o->h'.get? b=some o) fun h' tk k=>⟨rfl,h',tk,rfl,k⟩) ?_ fun _ _ e=>e)));rintro us s' ⟨rfl,h1,tk,rfl,kk⟩;refine aa (wpAny_newList ?_ (hsz:=nj));have Ex:(h1.push (seqObj "list" us.toArray 0)).get? h1.objs.size=some (seqObj "list" us.toArray 0):=aD _ rfl;have kn:∀ b o,s.heap.get? b=some o->b≠h1.objs.size:=fun b o e=>aQ (aG (kk b o e))
 refine aa (bQ (br slot_list_sort ⟨_,Ex,rfl⟩ entry_list_sort (zk5 (κ:=κ) (val:=val) Ex nj (fun h' hk h2 Q E hq=>su _ (fun b o e=>hk b o (kn b o e) (ai _ (kk b o e))) h2 _ Q E hq) (fun h' hk=>DH _ _ fun b o e=>hk b o (kn b o e) (ai _ (kk b o e))) fun out a1 a2=>⟨_,rfl,?_⟩) (args_list_sort _)));obtain⟨e,he⟩:=sortedHeap_at (out:=out) Ex;refine ag ⟨_,rfl,h _ tk out e h1.objs.size (fun b o x=>?_) (fun b o x=>aG (kk _ _ x)) he a1 a2⟩;rw [sortedHeap_old (kn b o x) (by rw [bz]; exact c7 (aG (kk _ _ x)))];exact ai _ (kk _ _ x)
end
end Srt
end
section
namespace L2
open PySem PySem.Spec PyProof.Rows PySem.Builtin.Str
variable {H:Hp} {X:Cx} {h':Heap} {mO:List (Addr×Obj)} {s:Shared} {tk:Nat}
theorem Inv.above {σ:St} {D:Addr} {o:HO} (I:Inv X mO σ H s) (k:∀ b o,s.heap.get? b=some o->h'.get? b=some o) (hD:∀ b o,s.heap.get? b=some o->b < D)
  (new:zab X.prog X.w (mR H D o) h' D o):H D=none/\Inv X mO σ (mR H D o) { s with heap:=h',toks:=tk }:=by
 have hn:H D=none:=by
  cases e:H D with
  | none=>rfl
  | some u =>
   obtain⟨ob,z⟩:=zmD (I.hok D u e);exact absurd (hD D ob z) (cm _)
 have hL:X.env.locals < D:=by
  obtain⟨m,⟨o,es,ep,ho,_⟩,_⟩:=I.loc;exact hD _ _ ho
 have I1:Inv X mO σ H { s with heap:=h',toks:=tk }:=I.kept k;refine⟨hn,I1.Pd hn (iK (Nat.lt_of_le_of_lt I.ok.above hL)) (aQ hL) (fun x c e z=>?_) (fun p hp z=>?_) new⟩
 ·obtain⟨v,oc,q,_⟩:=I.cell x c e;exact absurd (hD c oc q) (by rw [z]; exact cm _)
 ·exact absurd (hD p.1 _ (I.pin p hp).1) (by rw [z]; exact cm _)
end L2
end
section
namespace L2
open PySem PySem.Spec PyProof.Rows Srt
variable {H:Hp} {M:Model} {X:Cx} {h:Heap} {mO:List (Addr×Obj)} {mZ:List (List Key×V)} {ns:List Int} {s s':Shared}
noncomputable def zmU (xs:List V):List Int:=xs.filterMap fun x=>match x with
 | .int n=>some n
 | _=>none
theorem zk6 (ns:List Int):zmU #[AT]=ns:=by
 unfold zmU;rw [im];induction ns with
 | nil=>rfl
 | cons n ns ih =>
  rw [cu];simp only [mj];rw [ih]
noncomputable def zdq (H:Hp) (v:Value):List Int:=match v with
 | .ref a=>(match H a with
  | some #[Sc]=>zmU xs
  | _=>[])
 | _=>[]
theorem zft {a:Addr} (h:H a=some (.tup #[AT])):zdq H #[RC]=ns:=by
 unfold zdq;simp only [h];exact zk6 ns
noncomputable def zk7 (H:Hp) (k:Nat) (B:Int) (ps:List (Addr×List Int)):Prop:=∀ q∈ps,H q.1=some (.tup (q.2.map V.int))/\q.2.length=k/\∀ n∈q.2,0<=n/\n < B
theorem zgr:∀ {ps:List (Addr×List Int)} {us:List Value},zM (ps.map fun q=>V.ref q.1) us->us=ps.map fun q=>aN q.1
 | [],_,r=>by cases r; rfl
 | q :: ps,_,r=>by
  cases r with
  | cons r1 r2 =>
   cases r1;rw [zgr r2];rfl
theorem zcF:∀ (ps:List (Addr×List Int)),zM (ps.map fun q=>V.ref q.1) (ps.map fun q=>aN q.1)
 | []=>.nil
 | q :: ps=>.cons rfl (zcF ps)
section
variable {X:Cx} {mO:List (Addr×Obj)} {σ:St} {H:Hp} {s:Shared} {k:Nat} {B:Int} {ps:List (Addr×List Int)}
theorem zgZ (I:Inv X mO σ H s) {q:Addr×List Int} (h:H q.1=some (.tup (q.2.map V.int))):∃ o mT n,s.heap.get? q.1=some o/\o.cls = .type "tuple"/\o.data = .seq mT n/\IntsAre mT.toList q.2:=by
 obtain⟨mT,r,⟨o,ho,hc,n,hd⟩,hz⟩:=I.tuple (m7.of h);exact⟨o,mT.toArray,n,ho,hc,hd,by simpa using intsAre_of r⟩
theorem zmV (I:Inv X mO σ H s) (hT:zk7 H k B ps) (hk:1<=k) (kk:∀ b o,s.heap.get? b=some o->s'.heap.get? b=some o):∃ fs:List Value,PySem.W.KatTups s'.heap (ps.map fun q=>aN q.1) fs/\fs.length=ps.length/\∀ v∈fs,∃ n t,v=c9 n t:=by
 induction ps with
 | nil=>exact⟨[],trivial,rfl,fun v hv=>by cases hv⟩
 | cons q ps ih =>
  obtain⟨fs,h1,h2,h3⟩:=ih fun q' uw=>hT q' (aq _ uw)
  obtain⟨hq,hl,_⟩:=hT q #[M];obtain⟨o,mT,n,ho,hc,hd,hi⟩:=zgZ I hq;have nj:=hi.length;obtain⟨m,ms,e⟩:∃ m ms,q.2=m :: ms:=by
   cases e:q.2 with
   | nil=>rw [e] at hl; simp at hl; lia
   | cons m ms=>exact⟨m,ms,rfl⟩
  rw [e] at hi;cases e2:mT.toList with
  | nil=>rw [e2] at hi; cases hi
  | cons f fr =>
   rw [e2] at hi;cases hi with
   | cons _ t hi =>
    refine⟨.int m t :: fs,mM (kk _ _ ho) hc hd ?_ h1,by simp [h2],fun v hv=>?_⟩
    ·rw [<- aT,e2];rfl
    ·rcases (az.mp hv) with rfl | hv
     ·exact⟨m,t,rfl⟩
     ·exact h3 v hv
theorem zgs:∀ ms:List Int,zh2 ms ms=false
 | []=>rfl
 | m :: ms=>by rw [zdd,if_pos rfl,zgs ms]
theorem zmW (I:Inv X mO σ H s) (hT:zk7 H k B ps) (hB:1<=B) {A':Around} (kk:∀ b o,s.heap.get? b=some o->s'.heap.get? b=some o) :
  Cmp X.prog X.w A' s' (tuples' true) (fun p=>num B (zdq H p.1)) (pairsOf (ps.map fun q=>aN q.1)):=by
 intro x y hx hy Q E hQ;obtain⟨qx,mx,ex⟩:=be.mp (zcn hx).1;obtain⟨qy,my,ey⟩:=be.mp (zcn hy).1;obtain⟨Hc,FG,hx3⟩:=hT qx mx;obtain⟨hy1,hy2,hy3⟩:=hT qy my;obtain⟨ox,ix,nx,gx,cx,dx,ax⟩:=zgZ I Hc;obtain⟨oy,iy,ny,gy,cy,dy,ay⟩:=zgZ I hy1;have ev:decide ((fun p:Keyed=>num B (zdq H p.1)) x < (fun p:Keyed=>num B (zdq H p.1)) y)=zh2 qx.2 qy.2:=by
  rw [zjT hB (FG.trans hy2.symm) hx3 hy3,<- zft Hc,<- zft hy1];simp only [ex,ey]
 rw [ev] at hQ;rw [<- ex,<- ey];refine PySem.W.kat_lt (kk _ _ gx) dx (kk _ _ gy) dy (zjU 0 ax ay (FG.trans hy2.symm) ?_);have hsz:decide (ix.size < iy.size)=false:=by
  have e1:=ax.length;have e2:=ay.length;rw [aC] at e1 e2;exact decide_eq_false #[O]
 rw [hsz];by_cases e:qx.2=qy.2
 ·rw [if_pos e];rw [e,zgs] at hQ;exact hQ
 ·rw [if_neg e];exact hQ
theorem zh5 (hT:zk7 H k B ps) {out:Array Value} (hp:out.toList.Perm (ps.map fun q=>aN q.1)) (hs:out.toList.Pairwise fun x y=>num B (zdq H x)<=num B (zdq H y)) :
  ∃ pV:List (Addr×List Int),pV.Perm ps/\(pV.Pairwise fun a b=>num B a.2<=num B b.2)/\out.toList=pV.map fun q=>aN q.1:=by
 let g:Value->Addr×List Int:=fun v=>match v with
  | .ref a=>(a,zdq H #[RC])
  | _=>(0,[])
 have hg:∀ q∈ps,g (.ref q.1)=q:=fun q hq=>Prod.ext rfl (zft (hT q hq).1)
 have hv:∀ v∈out.toList,∃ q∈ps,v = .ref q.1:=fun v hv=>by
  obtain⟨q,hq,e⟩:=be.mp (hp.mem_iff.mp hv);exact⟨q,hq,e.symm⟩
 refine⟨out.toList.map g,?_,?_,?_⟩
 ·refine (hp.map g).trans ?_;rw [bD];have:ps.map (g ∘ fun q=>aN q.1)=ps:=by
   conv=>rhs; rw [<- jt ps]
   exact cv fun q hq=>hg q hq
  rw [this]
 ·rw [d7];refine iT (fun {x y} hx hy h=>?_) hs;obtain⟨q,hq,rfl⟩:=hv x hx;obtain⟨q',uw,rfl⟩:=hv y hy;exact h
 ·rw [bD]
  conv=>lhs; rw [<- jt out.toList]
  refine cv fun v HG=>?_
  obtain⟨q,hq,rfl⟩:=hv v HG;rfl
end
theorem zgt {n:Int} {t:Tok}:gl M h (typeOf (.int n t)) (.type "int"):=PySem.W.Looks.of_pure rfl
theorem zn4 {σ:St} {d:Addr} {nX:List #[Id]} (I:Inv X mO σ H s) (hd:H d=some #[VO]) (hk:mZ.map (·.1)=nX.map (·.map df)) :
  (d == sysModules)=false/\mZ.length<=sizeLine/\∃ (ps:List (Addr×List Int)) (es:Array DictEntry) (ep:Nat),zeH s.heap d es ep/\es.toList.map (·.key)=(ps.map fun q=>aN q.1)/\ps.map (·.2)=nX/\∀ q∈ps,H q.1=some (.tup (q.2.map V.int)):=by
 obtain⟨hz,hs,xs,hp,o,es,ep,ho,hx,he,yD,vv⟩:=I.hok d _ hd;refine⟨hs,hz,?_⟩;have key:∀ {mZ:List (List Key×V)} {xs:List (List Key×Addr×Value)} {nX:List #[Id]},Paired (fun (p:List Key×V) (q:List Key×Addr×Value)=>p.1=q.1/\H q.2.1=some (.tup (p.1.map kV))/\RelV p.2 q.2.2) mZ xs->mZ.map (·.1)=nX.map (·.map df) ->
   ∃ ps:List (Addr×List Int),xs.map (fun x=>aN x.2.1)=(ps.map fun q=>aN q.1)/\ps.map (·.2)=nX/\∀ q∈ps,H q.1=some (.tup (q.2.map V.int)):=by
  intro mZ xs nX hp;induction hp generalizing nX with
  | nil =>
   intro e;cases nX with
   | nil=>exact⟨[],rfl,rfl,fun q hq=>by cases hq⟩
   | cons m nX=>simp at e
  | @cons x y l1 l2 h1 h2 ih =>
   intro e;cases nX with
   | nil=>simp at e
   | cons m nX =>
    rw [bj,bj] at e;obtain⟨e1,e2⟩:=jY e;obtain⟨ps,a1,a2,a3⟩:=ih e2;obtain⟨_,He,_⟩:=h1;refine⟨(y.2.1,m) :: ps,by rw [bj,bj,a1],by rw [bj,a2],fun q hq=>?_⟩;rcases (az.mp hq) with rfl | hq
    ·rw [He,e1,bD];rfl
    ·exact a3 q hq
 obtain⟨ps,a1,a2,a3⟩:=key hp hk;refine⟨ps,es,ep,⟨o,ho,hx,he⟩,?_,a2,a3⟩;rw [yD,bD,<- a1];rfl
theorem zg0 {X:Cx} (hc:X.calm=true):zbm X (.builtin "sorted") (fun xs H Q=>∃ (d:Addr) (k:Nat) (B:Int) (mZ:List (List Key×V)) (nX:List #[Id]),xs = [.ref d]/\H d=some #[VO]/\mZ.map (·.1)=nX.map (·.map df)/\(∀ ms∈nX,ms.length=k/\∀ n∈ms,0<=n/\n < B)/\1<=k/\1<=B /\
  ∀ (l:Addr) (pV:List (Addr×List Int)),H l=none->(pV.map (·.2)).Perm nX->(pV.Pairwise fun a b=>num B a.2<=num B b.2)->(∀ q∈pV,H q.1=some (.tup (q.2.map V.int)))->Q #[SX] (mR H l (.lst (pV.map fun q=>V.ref q.1)))):=by
 intro mO s σ H xs us Q I r h;obtain⟨d,k,B,mZ,nX,rfl,hd,xT,DI,hk,hB,q⟩:=h;obtain⟨u,rfl,rx⟩:=vals1 r;cases rx;obtain⟨hs,hz,ps,es,ep,Aa,hek,nG,hH⟩:=zn4 I hd xT;have hT:zk7 H k B ps:=fun q' uw=>⟨hH q' uw,DI q'.2 (by rw [<- nG]; exact eM uw)⟩
 have hlp:ps.length=mZ.length:=by
  have e1:=congrArg eA nG;have e2:=congrArg eA xT;rw [ae] at e1;rw [ae,ae] at e2;lia
 have yD:es.size=ps.length:=by
  have:=congrArg eA hek;rw [ae,ae,aC] at this;exact this
 refine zek (vs:=ps.map fun q=>aN q.1) (κ:=tuples' true) (val:=fun p=>num B (zdq H p.1)) (by rw [ae]; lia) (fun R hR=>?_) #[T9] #[Xy] fun h' tk out e D kk hD Ab hp hs=>?_
 ·refine PySem.W.kdu_collect (zn3 (es:=es) (ep:=ep) hs) (by simp [I.ok.hd hc]) Aa #[O] fun h' tk acc kk wm=>?_
  have:acc.toList=ps.map fun q=>aN q.1:=by
   rw [<- hek];refine eZ fun j=>?_
   by_cases hj:j < es.size
   ·have hja:j < acc.size:=by rw [wm.1]; exact hj
    obtain⟨e',h1,h2⟩:=wm.2 j acc[j] (getElem?_pos acc j hja);rw [aT,getElem?_pos acc j hja,ao,aT,h1,h2];rfl
   ·rw [du (by rw [aC,wm.1]; lia),du (by rw [ae,aC]; lia)]
  rw [this];exact hR h' tk kk
 ·obtain⟨fs,k1,k2,k3⟩:=zmV I hT hk kk;exact lB (T:=.type "int") k1 (by rw [ae] at h2; lia) (fun v hv=>by obtain⟨n,t,rfl⟩:=k3 v hv; exact zgt) rfl uw
 ·obtain⟨pV,p1,p2,p3⟩:=zh5 hT hp hs;have hl:=p1.length_eq;obtain⟨hn,I2⟩:=I.above (tk:=tk) (D:=D) (o:=.lst (pV.map fun q=>V.ref q.1)) kk hD ⟨by rw [ae]; lia,pV.map fun q=>aN q.1,e,zcF pV,by rw [<- p3]; exact Ab⟩;exact⟨.ref D,_,I2,rfl,q D pV hn (by rw [<- nG]; exact p1.map _) p2 fun q' uw=>(hT q' (p1.mem_iff.mp uw)).1⟩
theorem zg1 {X:Cx}:zbm X (.builtin "sorted") (fun xs H Q=>∃ (p:Addr) (k:Nat) (B:Int) (ps:List (Addr×List Int)),xs = [.ref p]/\mS X.K H p (ps.map fun q=>V.ref q.1)/\zk7 H k B ps/\1<=k/\1<=B /\
  ∀ (l:Addr) (pV:List (Addr×List Int)),H l=none->pV.Perm ps->(pV.Pairwise fun a b=>num B a.2<=num B b.2)->Q #[SX] (mR H l (.lst (pV.map fun q=>V.ref q.1)))):=by
 intro mO s σ H xs us Q I r h;obtain⟨p,k,B,ps,rfl,hq,hT,hk,hB,q⟩:=h;obtain⟨u,rfl,rx⟩:=vals1 r;cases rx;obtain⟨mT,rv,pl,hz⟩:=I.list hq;have ev:=zgr rv;subst ev;rw [ae] at hz;refine zek (vs:=ps.map fun q=>aN q.1) (κ:=tuples' true) (val:=fun p=>num B (zdq H p.1)) (by rw [ae]; exact hz) (fun R hR=>?_) #[T9] #[Xy] fun h' tk out e D kk hD Ab hp hs=>?_
 ·exact collect_list pl.isList (hR _ _ fun b o e=>(j8 _ _ _ _ (aQ (aG e))).trans (ai _ e)) (by rw [ae]; exact hz)
 ·obtain⟨fs,k1,k2,k3⟩:=zmV I hT hk kk;exact lB (T:=.type "int") k1 (by rw [ae] at h2; lia) (fun v hv=>by obtain⟨n,t,rfl⟩:=k3 v hv; exact zgt) rfl uw
 ·obtain⟨pV,p1,p2,p3⟩:=zh5 hT hp hs;have hl:=p1.length_eq;obtain⟨hn,I2⟩:=I.above (tk:=tk) (D:=D) (o:=.lst (pV.map fun q=>V.ref q.1)) kk hD ⟨by rw [ae]; lia,pV.map fun q=>aN q.1,e,zcF pV,by rw [<- p3]; exact Ab⟩;exact⟨.ref D,_,I2,rfl,q D pV hn p1 p2⟩
end L2
end
section
namespace L2
open PySem PySem.Spec PyProof.Rows
variable {H:Hp} {J:It} {ts:TT} {σ0:St}
section
variable {X:Cx} {elt t1 i1 t2 i2:Expr} {f1 f2:List Expr} {scope:Scope} {pos:Pos} {N':List Str} {ix:List #[AC]} {IX EH:List Nat} {g1 g2:TG} {ts1 Hf:TT} {te:TE} {wi1 Hg:TI}
theorem zpA (hc:X.calm=true) (IY:GS EH g2) (BL:∀ s₃ H₃ ex mO,PI #[mt] t2 i2 Hg)
  (Fv:∀ s₃ H₃ ex mO,PG #[mt] t2 g2) (xU:∀ s₃ H₃ ex mO,zdx #[mt] f2 Hf) (he:∀ s₃ H₃ ex mO,PE #[mt] elt te)
  (o7:∀ s₃ H₃ ex mO x,foldedSetIterable i2 #[mt].env x=pure x) :
  ∀ s₃ H₃ ex mO D,PM #[mt] D EH ((fun D env=>zjy (.ListComp elt [⟨t1,i1,f1,0⟩,⟨t2,i2,f2,0⟩] scope pos) i2 1 #[Ri] env) D #[mt].env) (zmj Hg g2 Hf (zmi te)):=by
 intro s₃ H₃ ex mO D;have h:=zpa (Y:=zN X N' scope s₃ H₃ ex mO) (D:=D) (js:=EH) (js':=[]) (elt:=elt) (gens:=[⟨t1,i1,f1,0⟩,⟨t2,i2,f2,0⟩]) (scope:=scope) (pos:=pos) (d:=1) (p:=i2.pos) hc rfl IY (fun _ _ z=>by cases z) (BL s₃ H₃ ex mO) (Fv s₃ H₃ ex mO) (xU s₃ H₃ ex mO) (ziR rfl (he s₃ H₃ ex mO)) rfl (fun it=>zpc it D _) (o7 s₃ H₃ ex mO);rw [cb] at h;exact h
theorem zi6 {i:Nat} {x:Str} {pos' qI:Pos} (hN:X.N.Nodup) (BA:X.N[i]? = some x) (hx:Loc X.env.scope x) (SC:Kr X N' ix scope) (hc:X.calm=true) (gs1:GS IX g1) (IY:GS EH g2) (qc:∀ j∈IX,j∉EH) (yL:∀ j∈IX++EH,ix[j]? = some none) (hi1:PI X t1 i1 wi1)
  (DJ:∀ s₃ H₃ ex mO,PG #[mt] t1 g1) (ht1:∀ s₃ H₃ ex mO,zdx #[mt] f1 ts1) (BL:∀ s₃ H₃ ex mO,PI #[mt] t2 i2 Hg)
  (Fv:∀ s₃ H₃ ex mO,PG #[mt] t2 g2) (xU:∀ s₃ H₃ ex mO,zdx #[mt] f2 Hf) (he:∀ s₃ H₃ ex mO,PE #[mt] elt te)
  (Fm:swapsWith (.ListComp elt [⟨t1,i1,f1,0⟩,⟨t2,i2,f2,0⟩] scope pos) #[Xm] qI.line X.env=pure true:=by rfl)
  (hs:∀ x,foldedSetIterable i1 X.env x=pure x:=by intro _; rfl) (o7:∀ s₃ H₃ ex mO x,foldedSetIterable i2 #[mt].env x=pure x:=by intros; rfl) (hf:X.fn x=true\/X.env.scope.names.lookup x=some .local:=by first | exact .inl rfl | exact .inr rfl | assumption) :
  PS X (.Assign [.Name x pos'] (.ListComp elt [⟨t1,i1,f1,0⟩,⟨t2,i2,f2,0⟩] scope pos) qI) (zfM (ziQ ix wi1 g1 ts1 (zmj Hg g2 Hf (zmi te))) (zaR i)) :=
 zer hN BA hx SC hc gs1 qc yL hi1 DJ ht1 (zpA hc IY BL Fv xU he o7) (fun it D env=>zpb it D env) Fm hs hf
end
theorem zoP {n:Nat} {g:TG} {tm:TM} {Q:List V->Hp->Prop} {ys:List V} (Pv:Nat->List V->Hp->Prop) (h0:Pv 0 ys H) (yJ:∀ i ys H,i < n->Pv i ys H->J.go i H) (pA:∀ ys H,Pv n ys H->J.stop n H)
  (hs:∀ i x ys H H',i < n->Pv i ys H->J.yld i H x H'->g x σ0 H' fun σ2 H2=>ts σ2 H2 fun b H3=>if b=true then tm ys σ2 H3 (Pv (i+1)) else Pv (i+1) ys H3)
  (hd:∀ ys H,Pv n ys H->Q ys H):cIn g ts tm σ0 J Q ys H:=by
 refine⟨fun i m ys H=>m=n - i/\i<=n/\Pv i ys H,#[TV],?_⟩;rintro i m ys H ⟨rfl,hi,p⟩;by_cases nC:i < n
 ·exact .inr #[Fa]
 ·have e:i=n:=by lia
  subst e;exact .inl ⟨pA ys H p,hd ys H p⟩
noncomputable def zpB (sc:Scope) (x:Str):Bool:=match sc.names.lookup x with
 | some .local=>true
 | some .cell=>true
 | some .free=>true
 | _=>false
theorem zn5 {sc:Scope} {x:Str} (h:zpB sc x=true):Vis sc x:=by
 unfold zpB at h;unfold Vis;cases e:sc.names.lookup x with
 | none=>rw [e] at h; cases h
 | some k=>cases k <;> simp_all
noncomputable def pvB (N:List Str) (sc:Scope) (i:Nat) (x:Str):Bool:=decide (N[i]? = some x) && zpB sc x && !(x == ("__debug__" : Str)) && !(x == ("__classdict__" : Str))
theorem pvx {X:Cx} (i:Nat) {x:Str} {pos:Pos} (h:pvB X.N X.env.scope i x=true):PE X #[Us] (zpW i):=by
 unfold pvB at h;simp only [cg,kZ,decide_eq_true_eq] at h;exact zoW h.1.1.1 (zn5 h.1.1.2) h.1.2 h.2
end L2
end
section
namespace My
open PySem L2 PyProof.Rows
variable {H H':Hp} {j k:Nat} {mZ:List (List Key×V)} {nc pk:List (Int×Int)} {pl q:List Int} {qs:List #[Id]} {rs:List Addr} {rw:List #[EQ]}
noncomputable def nxt {α:Type} (xs:List α) (c:Nat×List α):List (Nat×List α):=(bn (xs.length - c.1)).map fun j=>(c.1+j+1,c.2++xs[c.1+j]?.toList)
noncomputable def chs {α:Type} (xs:List α):Nat->List (Nat×List α)
 | 0=>[(0,[])]
 | m+1=>#[Tp].flatMap (nxt xs)
theorem zeX {α:Type} (xs:List α) (c:Nat×List α):(nxt xs c).length=xs.length - c.1:=by unfold nxt; rw [ae,cw]
theorem zjW {α:Type} {xs:List α} {c:Nat×List α} {x:α} (h:xs[c.1+j]? = some x):(nxt xs c)[j]? = some (c.1+j+1,c.2++[x]):=by
 have hj:j < xs.length - c.1:=by
  have:=(aj.mp h).1;lia
 unfold nxt;rw [ao,j9 hj];simp [h]
theorem zjX:∀ r:Nat,((bn r).map fun j=>2 ^ (r - j - 1)).sum+1=2 ^ r
 | 0=>rfl
 | r+1=>by
  rw [gf,bj,j1,bD];have e:((bn r).map ((fun j=>2 ^ (r+1 - j - 1)) ∘ Nat.succ))=(bn r).map fun j=>2 ^ (r - j - 1):=cv fun j _=>by
   show 2 ^ (r+1 - (j+1) - 1)=2 ^ (r - j - 1);congr 1;lia
  rw [e];have:=zjX r;rw [iU];show 2 ^ (r+1 - 0 - 1)+_+1=_;rw [show r+1 - 0 - 1=r from by lia];lia
noncomputable def pot {α:Type} (n:Nat) (cs:List (Nat×List α)):Nat:=(cs.map fun c=>2 ^ (n - c.1)).sum
theorem zn6 {α:Type} (xs:List α) (c:Nat×List α):pot xs.length (nxt xs c)<=2 ^ (xs.length - c.1):=by
 unfold pot nxt;rw [bD];have e:((bn (xs.length - c.1)).map ((fun c:Nat×List α=>2 ^ (xs.length - c.1)) ∘ fun j=>(c.1+j+1,c.2++xs[c.1+j]?.toList)))=(bn (xs.length - c.1)).map fun j=>2 ^ (xs.length - c.1 - j - 1):=cv fun j _=>by
  show 2 ^ (xs.length - (c.1+j+1))=_;congr 1;lia
 rw [e];have:=zjX (xs.length - c.1);lia
theorem zh6 {α:Type} (xs:List α):∀ cs:List (Nat×List α),pot xs.length (cs.flatMap (nxt xs))<=pot xs.length cs
 | []=>ah _
 | c :: cs=>by
  have h1:=zn6 xs c;have h2:=zh6 xs cs;rw [f7];unfold pot at h1 h2 |-;rw [aB,List.sum_append,bj,j1];lia
theorem zjY {α:Type} (n:Nat):∀ cs:List (Nat×List α),cs.length<=pot n cs
 | []=>ah _
 | c :: cs=>by
  have h:=zjY n cs;have:0 < 2 ^ (n - c.1):=Nat.pos_of_ne_zero #[M];unfold pot at h |-;rw [bj,j1,bf];lia
theorem zjZ {α:Type} (xs:List α):∀ m,pot xs.length #[Tp]<=2 ^ xs.length
 | 0=>by
  unfold chs pot;simp
 | m+1=>bq (zh6 xs #[Tp]) (zjZ xs m)
theorem zn7 {α:Type} (xs:List α) (m:Nat):#[Tp].length<=2 ^ xs.length:=bq (zjY _ _) (zjZ xs m)
theorem zel {α:Type} {xs:List α} (m:Nat) (h:xs.length<=16):#[Tp].length<=65536:=bq (zn7 xs m) (bq (eg #[D] h) #[D])
theorem zk8 {α β:Type} {f:α->List β} {l:List α} {i:Nat} {c:α} (hc:l[i]? = some c) (hj:j < (f c).length):((l.take i).flatMap f).length+j < (l.flatMap f).length:=by
 have e:l.flatMap f=(l.take i).flatMap f++(f c++(l.drop (i+1)).flatMap f):=by
  conv=>lhs; rw [zcC hc]
  rw [ka,f7]
 rw [e,aF,aF];lia
theorem zgu {α β:Type} {f:α->List β} {l:List α} {i:Nat} {c:α} (hc:l[i]? = some c):(l.take (i+1)).flatMap f=(l.take i).flatMap f++f c:=by
 rw [take_snoc hc,ka,f7,List.flatMap_nil,cb]
theorem zpC {α:Type} {xs:List α}:∀ {m:Nat} {c:Nat×List α},c∈chs xs m->c.1<=xs.length
 | 0,c,h=>by
  unfold chs at h;rw [aS] at h;subst h;exact aZ _
 | m+1,c,h=>by
  unfold chs at h;obtain⟨c',_,hc⟩:=ft.mp h;unfold nxt at hc;obtain⟨j,hj,rfl⟩:=be.mp hc;have:=bU.mp hj;show c'.1+j+1<=xs.length;lia
theorem zh7 {α:Type} {xs:List α}:∀ {m:Nat} {c:Nat×List α},c∈chs xs m->c.2.length<=m
 | 0,c,h=>by
  unfold chs at h;rw [aS] at h;subst h;exact ah _
 | m+1,c,h=>by
  unfold chs at h;obtain⟨c',hm,hc⟩:=ft.mp h;have:=zh7 hm;unfold nxt at hc;obtain⟨j,hj,rfl⟩:=be.mp hc;show (c'.2++xs[c'.1+j]?.toList).length<=m+1;rw [aF];have:xs[c'.1+j]?.toList.length<=1:=by cases xs[c'.1+j]? <;> simp
  lia
theorem Paired.get {α β:Type} {F:α->β->Prop}:∀ {l₁:List α} {l₂:List β},Paired F l₁ l₂->∀ {i:Nat} {a:α},l₁[i]? = some a->∃ b,l₂[i]? = some b/\F a b
 | _,_,.nil,i,a,h=>by simp at h
 | _,_,.cons r t,0,a,h=>by
  (simp only [eN,f8] at h)
  subst h;exact⟨_,rfl,r⟩
 | _,_,.cons r t,i+1,a,h=>by
  rw [ck] at h;obtain⟨b,hb,f⟩:=Paired.get t h;exact⟨b,by rw [ck]; exact hb,f⟩
noncomputable def zn8 (H:Hp) (t:Addr) (c:Nat×List V):Prop:=∃ L,H t=some (.tup [.int (c.1:Int),.ref L])/\H L=some (.lst c.2)
theorem zn8.same (s:zC H H') {t:Addr} {c:Nat×List V} (h:zn8 H t c):zn8 H' t c:=let ⟨L,h1,h2⟩:=h; ⟨L,s _ _ h1,s _ _ h2⟩
noncomputable def zfu (H:Hp):List Addr->List (Nat×List V)->Prop:=Paired (zn8 H)
theorem zfu.same (s:zC H H') {ts:List Addr} {cs:List (Nat×List V)} (h:zfu H ts cs):zfu H' ts cs:=ic (fun _ _ z=>z.same s) h
noncomputable def zh8 (H:Hp):List Addr->List (List V)->Prop:=Paired fun l pk=>H l=some (.lst pk)
theorem zh8.same (s:zC H H') {ts:List Addr} {cs:List (List V)} (h:zh8 H ts cs):zh8 H' ts cs:=ic #[UM] h
noncomputable def zi7 (K:af):Sp:=fun vs H Q _=>∃ (a:Addr) (m:Nat) (xs:List V),vs = [.ref a,.int (m:Int)]/\mS K H a xs/\xs.length<=16/\m<=1000 /\
 ∀ (l:Addr) (ls:List Addr) (H':Hp),H l=none->zC H H'->H' l=some #[V2]->zh8 H' ls (#[Tp].map (·.2))->Q #[SX] H'
noncomputable def quo (p r:Int):List Int->List Int
 | []=>[]
 | [_]=>[]
 | _ :: d :: cs=>zw p r (d :: cs) :: quo p r (d :: cs)
theorem zj0 (p r:Int):∀ (c:Int) (cs:List Int),(quo p r (c :: cs)).length=cs.length
 | _,[]=>rfl
 | _,d :: cs=>by
  show #[WU].length+1=cs.length+1;rw [zj0 p r d cs]
theorem zmX {p r x:Int}:∀ d:List Int,Cg p (zw p x d - zw p r d) ((x - r)*zw p x (quo p r d))
 | []=>Cg.of_eq (by show (0:Int) - 0=(x - r)*0; lia)
 | [c]=>by
  have h1:Cg p (zw p x [c]) (c+x*0):=zaj p x c [];have h2:Cg p (zw p r [c]) (c+r*0):=zaj p r c [];refine (h1.sub h2).trans (Cg.of_eq ?_);show c+x*0 - (c+r*0)=(x - r)*0;lia
 | c :: d :: cs=>by
  have h1:=zaj p x c (d :: cs);have h2:=zaj p r c (d :: cs);have ih:=zmX (p:=p) (r:=r) (x:=x) (d :: cs);have h3:Cg p (zw p x (quo p r (c :: d :: cs))) (zw p r (d :: cs)+x*zw p x #[WU]):=zaj p x _ _;have h4:=(Cg.refl p (x - r)).mul h3;have h5:=(Cg.refl p x).mul ih;refine (h1.sub h2).trans (Cg.symm (h4.trans ?_));refine (Cg.of_eq (show _=(x - r)*zw p r (d :: cs)+x*((x - r)*zw p x #[WU]) by grind)).trans ?_;refine ((Cg.refl p ((x - r)*zw p r (d :: cs))).add h5.symm).trans (Cg.of_eq (by grind))
theorem zh9 {p r:Int}:∀ d:List Int,Cg p (zw p r d) 0->(∀ c∈quo p r d,Cg p c 0)->∀ c∈d,Cg p c 0
 | [],_,_,c,hc=>by cases hc
 | [a],h,_,c,hc=>by
  obtain rfl:c=a:=by simpa using hc
  have h1:Cg p (zw p r [c]) (c+r*0):=zaj p r c [];exact (#[RT].trans h1.symm).trans h
 | a :: d :: cs,h,hq,c,hc=>by
  have h0:Cg p (zw p r (d :: cs)) 0:=hq _ aE;rcases (az.mp hc) with rfl | hc
  ·have h1:=zaj p r c (d :: cs);have h2:=(Cg.refl p r).mul h0;have h3:=(h1.symm.trans h).sub h2;exact #[RT].trans (h3.trans #[RT])
  ·exact zh9 (d :: cs) h0 (fun c hc=>hq c (aq _ hc)) c hc
theorem zk9 {p a y:Int} (hp:p∈zJ) (ha0:a % p≠0) (h:Cg p (a*y) 0):Cg p y 0:=by
 have rp:=z6 hp;have g0:=aR a (show p≠0 by lia);have g1:=aL a (show 0 < p by lia);have hi:=zgK hp (h:=a % p) #[O] g1;have h1:Cg p (inv p (a % p)*(a % p)*y) (1*y):=hi.mul (Cg.refl p y);have h2:Cg p (inv p (a % p)*(a % p)*y) (inv p (a % p)*(a*y)):=by
  have:=((Cg.refl p (inv p (a % p))).mul (Cg.emod p a)).mul (Cg.refl p y);exact this.trans (Cg.of_eq (by grind))
 have h3:=(Cg.refl p (inv p (a % p))).mul h;exact #[RT].trans (h1.symm.trans (h2.trans (h3.trans #[RT])))
theorem zfv {p:Int} (hp:p∈zJ):∀ (n:Nat) (d xs:List Int),d.length=n->n<=xs.length->xs.Nodup->(∀ x∈xs,0<=x/\x < p)->(∀ x∈xs,Cg p (zw p x d) 0)->∀ c∈d,Cg p c 0
 | 0,d,xs,hd,_,_,_,_,c,hc=>by
  rw [cH] at hd;subst hd;cases hc
 | n+1,d,[],hd,hx,_,_,_,c,hc=>by simp at hx
 | n+1,[],r :: xs,hd,hx,_,_,_,c,hc=>by cases hc
 | n+1,a :: cs,r :: xs,hd,hx,vv,DI,hz,c,hc=>by
  have rp:=z6 hp;obtain⟨r0,r1⟩:=DI r aE;have hr:=hz r aE;refine zh9 (a :: cs) hr (zfv hp n (quo p r (a :: cs)) xs (by rw [zj0]; simpa using hd) (by simpa using hx) (dQ.mp vv).2 (fun x h=>DI x (aq _ h)) fun x h=>?_) c hc;obtain⟨x0,x1⟩:=DI x (aq _ h);have o8:x≠r:=fun e=>(dQ.mp vv).1 (e ▸ h)
  have he:=zmX (p:=p) (r:=r) (x:=x) (a :: cs);have h0:=(hz x (aq _ h)).sub hr;refine zk9 hp (a:=x - r) (fun e=>?_) (he.symm.trans (h0.trans #[RT]));have:Cg p x r:=by
   have h1:Cg p (x - r) 0:=Cg.Ox (by rw [e]; simp);have h2:=h1.add (Cg.refl p r);exact #[RT].trans (h2.trans #[RT])
  exact o8 (this.eq x0 x1 r0 r1)
theorem zia {p x:Int}:∀ {a b:List Int},a.length=b.length->Cg p (zw p x (aY (· - ·) a b)) (zw p x a - zw p x b)
 | [],[],_=>Cg.of_eq rfl
 | c :: a,d :: b,h=>by
  have ih:=zia (p:=p) (x:=x) (a:=a) (b:=b) (by simpa using h);have h1:=zaj p x c a;have h2:=zaj p x d b;have h3:Cg p (zw p x (aY (· - ·) (c :: a) (d :: b))) (c - d+x*zw p x (aY (· - ·) a b)):=zaj p x (c - d) _;refine h3.trans (((Cg.refl p (c - d)).add ((Cg.refl p x).mul ih)).trans (Cg.symm ((h1.sub h2).trans (Cg.of_eq (by grind)))))
 | [],_ :: _,h=>by simp at h
 | _ :: _,[],h=>by simp at h
theorem zib {p:Int}:∀ {a b:List Int},a.length=b.length->(∀ c∈a,0<=c/\c < p)->(∀ c∈b,0<=c/\c < p)->(∀ c∈aY (· - ·) a b,Cg p c 0)->a=b
 | [],[],_,_,_,_=>rfl
 | c :: a,d :: b,h,ha,hb,hz=>by
  obtain⟨c0,c1⟩:=ha c aE;obtain⟨d0,d1⟩:=hb d aE;have h1:Cg p (c - d) 0:=hz _ aE;have h2:Cg p c d:=#[RT].trans ((h1.add (Cg.refl p d)).trans #[RT]);rw [h2.eq c0 c1 d0 d1,zib (by simpa using h) (fun c hc=>ha c (aq _ hc)) (fun c hc=>hb c (aq _ hc)) (fun c hc=>hz c (aq _ hc))]
 | [],_ :: _,h,_,_,_=>by simp at h
 | _ :: _,[],h,_,_,_=>by simp at h
theorem zic {p:Int} (hp:p∈zJ) {a b xs:List Int} (hl:a.length=b.length) (hx:a.length<=xs.length) (vv:xs.Nodup) (DI:∀ x∈xs,0<=x/\x < p) (ha:∀ c∈a,0<=c/\c < p) (hb:∀ c∈b,0<=c/\c < p)
  (he:∀ x∈xs,zw p x a=zw p x b):a=b:=by
 refine zib hl ha hb (zfv hp a.length _ xs (by rw [gV]; lia) hx vv DI fun x h=>?_);refine (zia hl).trans (Cg.of_eq ?_);rw [he x h];lia
theorem zpD {p:Int} (hp:p∈zJ) (hP:Pts p pk) (hl:q.length=pk.length) (hq:∀ c∈q,0<=c/\c < p) (hh:∀ a∈pk,zw p a.1 q=a.2):q=thr p pk:=by
 obtain⟨h1,h2,h3⟩:=ziU hp hP;refine zic hp (xs:=pk.map (·.1)) #[O] (by rw [ae]; lia) hP.nd (fun x hx=>?_) hq h2 fun x hx=>?_
 ·obtain⟨a,ha,rfl⟩:=be.mp hx;exact⟨(hP.rg a ha).1,(hP.rg a ha).2.1⟩
 ·obtain⟨a,ha,rfl⟩:=be.mp hx;rw [hh a ha,h3 a ha]
theorem Pts.sub {p:Int} (h:Pts p nc) (hs:pk.Sublist nc):Pts p pk:=⟨(hs.map _).nodup h.nd,fun q hq=>h.rg q (hs.subset hq)⟩
theorem zj1 {α:Type} {xs:List α}:∀ {m:Nat} {c:Nat×List α},c∈chs xs m->c.2.Sublist (xs.take c.1)/\c.2.length=m/\c.1<=xs.length
 | 0,c,h=>by
  unfold chs at h;rw [aS] at h;subst h;exact⟨gt _,rfl,aZ _⟩
 | m+1,c,h=>by
  unfold chs at h;obtain⟨c',hm,hc⟩:=ft.mp h;obtain⟨h1,h2,h3⟩:=zj1 hm;unfold nxt at hc;obtain⟨j,hj,rfl⟩:=be.mp hc
  (have rj:=bU.mp hj)
  have nC:c'.1+j < xs.length:=by lia
  have e:xs[c'.1+j]? = some xs[c'.1+j]:=aI nC;dsimp only;rw [e];refine⟨?_,by rw [aF,h2]; rfl,#[O]⟩;rw [take_snoc e];refine List.Sublist.append (h1.trans ?_) (List.Sublist.refl _);have:xs.take c'.1=(xs.take (c'.1+j)).take c'.1:=by rw [lY]; congr 1; lia
  rw [this];exact cN _ _
theorem sub_one {α:Type} {l:List α} {x:α} (h:l.Sublist [x]):l = []\/l = [x]:=by
 cases h with
 | cons _ h=>exact .inl (gu.mp h)
 | cons_cons _ h=>exact .inr (by rw [gu.mp h])
theorem zeY {α:Type} {xs:List α}:∀ {m n:Nat} {pk:List α},pk.Sublist (xs.take n)->pk.length=m->∃ s,s<=n/\(s,pk)∈chs xs m
 | 0,n,pk,h,hl=>by
  rw [cH] at hl;subst hl;exact⟨0,aZ _,by unfold chs; exact aS.mpr rfl⟩
 | m+1,0,pk,h,hl=>by
  rw [fg] at h;rw [gu.mp h] at hl;simp at hl
 | m+1,n+1,pk,h,hl=>by
  cases e:xs[n]? with
  | none =>
   have:xs.take (n+1)=xs.take n:=by
    have:=List.getElem?_eq_none_iff.mp e;rw [aW #[O],aW this]
   rw [this] at h;obtain⟨s,h1,h2⟩:=zeY (m:=m+1) (n:=n) h hl;exact⟨s,#[O],h2⟩
  | some x =>
   rw [take_snoc e] at h;obtain⟨l1,l2,rfl,h1,h2⟩:=List.sublist_append_iff.mp h;rcases (sub_one h2) with rfl | rfl
   ·rw [cb] at hl |-;obtain⟨s,a1,a2⟩:=zeY (m:=m+1) (n:=n) h1 hl;exact⟨s,#[O],a2⟩
   ·obtain⟨s,a1,a2⟩:=zeY (m:=m) (n:=n) h1 (by simpa using hl);refine⟨n+1,ah _,?_⟩;unfold chs;refine ft.mpr ⟨(s,l1),a2,?_⟩;have nC:=(aj.mp e).1;unfold nxt;refine be.mpr ⟨n - s,bU.mpr (by show n - s < xs.length - s; lia),?_⟩;have es:s+(n - s)=n:=by lia
    dsimp only;rw [es,e];rfl
theorem zeZ {α:Type} {xs pk:List α} {m:Nat}:pk∈#[Tp].map (·.2)↔pk.Sublist xs/\pk.length=m:=by
 constructor
 ·intro h;obtain⟨c,hc,rfl⟩:=be.mp h;obtain⟨h1,h2,h3⟩:=zj1 hc;exact⟨h1.trans (cN _ _),h2⟩
 ·rintro⟨h1,h2⟩;obtain⟨s,_,hs⟩:=zeY (xs:=xs) (n:=xs.length) (by rw [bx]; exact h1) h2;exact be.mpr ⟨_,hs,rfl⟩
noncomputable def hit (p:Int) (q:List Int) (a:Int×Int):Bool:=decide (zw p a.1 q=a.2)
noncomputable def hits (p:Int) (q:List Int) (nc:List (Int×Int)):Nat:=(nc.filter #[XB]).length
noncomputable def IsP (p:Int) (k:Nat) (q:List Int):Prop:=q.length=k/\∀ c∈q,0<=c/\c < p
theorem zdD {p:Int} (hp:p∈zJ) (hP:Pts p nc) {t n:Nat} (hq:IsP p k q) (hk:k<=t) (hn:nc.length<=n+(t - k)) (ht:t<=hits p q nc) :
  ∃ pk,pk∈(chs #[VB] k).map (·.2)/\q=thr p pk:=by
 have IZ:hits p q nc=(#[VB].filter #[XB]).length+((nc.drop n).filter #[XB]).length:=by
  unfold hits
  conv=>lhs; rw [<- cD n nc]
  rw [cT,aF]
 have hd:=dq #[XB] (nc.drop n);rw [bP] at hd;have ux:k<=(#[VB].filter #[XB]).length:=by lia
 have hs:((#[VB].filter #[XB]).take k).Sublist #[VB]:=(cN _ _).trans (List.filter_sublist);have hl:((#[VB].filter #[XB]).take k).length=k:=by rw [aA]; lia
 refine⟨_,zeZ.mpr ⟨hs,hl⟩,zpD hp (hP.sub (hs.trans (cN _ _))) (by rw [hl]; exact hq.1) hq.2 fun a ha=>?_⟩;have:=(db.mp ((cN _ _).subset ha)).2;simpa [hit] using this
theorem zj2 {p:Int} (hp:p∈zJ) (hP:Pts p nc) (h:pk∈(chs nc k).map (·.2)):IsP p k (thr p pk):=by
 obtain⟨h1,h2⟩:=zeZ.mp h;obtain⟨a,b,_⟩:=ziU hp (hP.sub h1);exact⟨a.trans h2,b⟩
noncomputable def nG:List Int->List #[EQ]->List (Int×Int)
 | x :: pl,some y :: rw=>(x,y) :: nG pl rw
 | _ :: pl,none :: rw=>nG pl rw
 | _,_=>[]
theorem zdT:∀ {pl:List Int} {rw:List #[EQ]} {i:Nat} {x:Int} {o:Option Int},pl[i]? = some x->rw[i]? = some o->nG (pl.take (i+1)) (rw.take (i+1))=nG (pl.take i) (rw.take i)++(match o with | some y=>[(x,y)] | none=>[])
 | [],_,i,x,o,h,_=>by simp at h
 | _ :: _,[],i,x,o,_,h=>by simp at h
 | a :: pl,b :: rw,0,x,o,h1,h2=>by
  simp only [eN,f8] at h1 h2;subst h1 h2;cases b <;> rfl
 | a :: pl,b :: rw,i+1,x,o,h1,h2=>by
  rw [ck] at h1 h2;have ih:=zdT h1 h2;cases b with
  | none=>exact ih
  | some y =>
   show (a,y) :: nG (pl.take (i+1)) (rw.take (i+1))=(a,y) :: nG (pl.take i) (rw.take i)++_;rw [ih];rfl
theorem zdU:∀ (pl:List Int) (rw:List #[EQ]),#[KB].length<=pl.length
 | [],rw=>by unfold nG; simp
 | a :: pl,[]=>by unfold nG; simp
 | a :: pl,none :: rw=>by
  have:=zdU pl rw;show #[KB].length<=pl.length+1;lia
 | a :: pl,some y :: rw=>by
  have:=zdU pl rw;show #[KB].length+1<=pl.length+1;lia
theorem zde:∀ {pl:List Int} {rw:List #[EQ]} {a:Int×Int},a∈nG pl rw->a.1∈pl/\some a.2∈rw
 | [],_,a,h=>by unfold nG at h; cases h
 | _ :: _,[],a,h=>by unfold nG at h; cases h
 | x :: pl,none :: rw,a,h=>by
  obtain⟨h1,h2⟩:=zde (pl:=pl) (rw:=rw) h;exact⟨aq _ h1,aq _ h2⟩
 | x :: pl,some y :: rw,a,h=>by
  rcases (az.mp h) with rfl | h
  ·exact⟨aE,aE⟩
  ·obtain⟨h1,h2⟩:=zde (pl:=pl) (rw:=rw) h;exact⟨aq _ h1,aq _ h2⟩
theorem zg2:∀ (pl:List Int) (rw:List #[EQ]),(#[KB].map (·.1)).Sublist pl
 | [],_=>by unfold nG; exact gt _
 | _ :: _,[]=>by unfold nG; exact gt _
 | x :: pl,none :: rw=>(zg2 pl rw).cons _
 | x :: pl,some y :: rw=>(zg2 pl rw).cons_cons _
theorem ze0 {p:Int} (h1:pl.Nodup) (h2:∀ x∈pl,0<=x/\x < p) (h3:∀ z,some z∈rw->0<=z/\z < p):Pts p #[KB] :=
 ⟨(zg2 pl rw).nodup h1,fun q hq=>⟨(h2 _ (zde hq).1).1,(h2 _ (zde hq).1).2,(h3 _ (zde hq).2).1,(h3 _ (zde hq).2).2⟩⟩
theorem zid {p:Int} {pl:List Int} {rw:List #[EQ]} {q:List Int} (hl:rw.length=pl.length):∀ n,n<=pl.length->(zdK p pl rw q n).length=hits p q (nG (pl.take n) (rw.take n))
 | 0,_=>by simp [zdK,hits,nG]
 | n+1,hn=>by
  have ih:=zid (p:=p) (q:=q) hl n #[O];have e1:pl[n]? = some pl[n]:=aI #[O];have e2:rw[n]? = some rw[n]:=aI #[O];rw [zgo,aF,ih,zdT e1 e2];unfold hits;rw [cT,aF];congr 1;unfold zcS;rw [e1,e2];cases rw[n] with
  | none=>rfl
  | some y =>
   show (if decide (y=zw p pl[n] q)=true then [(n:Int)] else []).length=([(pl[n],y)].filter #[XB]).length;by_cases e:y=zw p pl[n] q
   ·rw [fV (by simp [hit,e])];simp [e]
   ·rw [fW (by simp [hit]; exact fun z=>e z.symm)];simp [e]
theorem zj3 {p:Int} (hl:rw.length=pl.length):(zdK p pl rw q pl.length).length=hits p q #[KB]:=by
 have:=zid (p:=p) (q:=q) hl pl.length (ah _);rw [bx,aW #[O]] at this;exact this
noncomputable def zem (p:Int) (k:Nat) (qs:List #[Id]):Prop:=(∀ q∈qs,IsP p k q)/\qs.Pairwise fun a b=>Srt.num p a < Srt.num p b
theorem zj4 {B:Int} (hB:1<=B):∀ {a b:List Int},a.length=b.length->(∀ n∈a,0<=n/\n < B)->(∀ n∈b,0<=n/\n < B)->Srt.num B a=Srt.num B b->a=b
 | [],[],_,_,_,_=>rfl
 | c :: a,d :: b,h,ha,hb,e=>by
  have h':a.length=b.length:=by simpa using h
  have ra:=Srt.Mx hB (ns:=a) fun n hn=>ha n (aq _ hn)
  have rb:=Srt.Mx hB (ns:=b) fun n hn=>hb n (aq _ hn)
  have e':c*B ^ a.length+Srt.num B a=d*B ^ b.length+Srt.num B b:=e;rw [<- h'] at e' rb;generalize B ^ a.length=M at e' ra rb;have hM:0 < M:=by lia
  have uJ:c=d:=by
   have e2:(c - d)*M=Srt.num B b - Srt.num B a:=by
    rw [Int.sub_mul];lia
   rcases (k7 c d) with nC | heq | hgt
   ·have:(c - d)*M<=(-1)*M:=dF #[O] #[O];lia
   ·exact heq
   ·have:1*M<=(c - d)*M:=dF #[O] #[O];lia
  subst uJ;rw [zj4 hB h' (fun n hn=>ha n (aq _ hn)) (fun n hn=>hb n (aq _ hn)) #[O]]
 | [],_ :: _,h,_,_,_=>by simp at h
 | _ :: _,[],h,_,_,_=>by simp at h
theorem zj5 {p:Int} (hp:1<=p) (h1:∀ q∈qs,IsP p k q) (h2:qs.Nodup) (h3:qs.Pairwise fun a b=>Srt.num p a<=Srt.num p b):zem p k qs:=by
 refine⟨h1,?_⟩;have h4:=h3.and h2;refine iT (fun {a b} ha hb h=>?_) h4;have o8:Srt.num p a≠Srt.num p b:=fun e=>h.2 (zj4 hp ((h1 a ha).1.trans (h1 b hb).1.symm) (h1 a ha).2 (h1 b hb).2 e)
 have:=h.1;lia
theorem zem.tail {p:Int} (h:zem p k (q :: qs)):zem p k qs:=⟨fun x hx=>h.1 x (aq _ hx),(fK.mp h.2).2⟩
theorem zj6 {p:Int} {k:Nat}:∀ {as bs:List #[Id]},zem p k as->zem p k bs->(∀ q,q∈as↔q∈bs)->as=bs
 | [],[],_,_,_=>rfl
 | [],b :: bs,_,_,h=>by
  have:=(h b).mpr aE;cases this
 | a :: as,[],_,_,h=>by
  have:=(h a).mp aE;cases this
 | a :: as,b :: bs,ha,hb,h=>by
  have pa:=(fK.mp ha.2).1;have pb:=(fK.mp hb.2).1;have e:a=b:=by
   rcases (az.mp ((h a).mp aE)) with e | ma
   ·exact e
   ·rcases (az.mp ((h b).mpr aE)) with e | mb
    ·exact e.symm
    ·have:=pb a ma;have:=pa b mb;lia
  subst e;rw [zj6 ha.tail hb.tail fun q=>?_];have hq:=h q;rw [az,az] at hq;constructor
  ·intro m;rcases (hq.mp (.inr m)) with rfl | z
   ·exact absurd (pa q m) #[O]
   ·exact z
  ·intro m;rcases (hq.mpr (.inr m)) with rfl | z
   ·exact absurd (pb q m) #[O]
   ·exact z
theorem zem.filter {p:Int} (f:List Int->Bool) (h:zem p k qs):zem p k (qs.filter f):=⟨fun q hq=>h.1 q (db.mp hq).1,h.2.filter f⟩
theorem zn9 {α β:Type} (f:α->β) (xs:List α) (c:Nat×List α):nxt #[XY] (c.1,c.2.map f)=(nxt xs c).map fun d=>(d.1,d.2.map f):=by
 unfold nxt;rw [bD,ae];refine cv fun j _=>?_
 show (c.1+j+1,c.2.map f++#[XY][c.1+j]?.toList)=(c.1+j+1,(c.2++xs[c.1+j]?.toList).map f);rw [ao,aB];cases xs[c.1+j]? <;> rfl
theorem zj7 {α β:Type} (f:α->β) (xs:List α):∀ m,chs #[XY] m=#[Tp].map fun d=>(d.1,d.2.map f)
 | 0=>rfl
 | m+1=>by
  show (chs #[XY] m).flatMap (nxt #[XY])=(#[Tp].flatMap (nxt xs)).map _;rw [zj7 f xs m,lC,lD];congr 1;funext c;exact zn9 f xs c
theorem zgv {α β:Type} (f:α->β) (xs:List α) (m:Nat):(chs #[XY] m).map (·.2)=(#[Tp].map (·.2)).map (·.map f):=by
 rw [zj7,bD,bD];rfl
noncomputable def PtB (H:Hp):List Addr->List (Int×Int)->Prop:=Paired fun b q=>H b=some (.tup [.int q.1,.int q.2])
theorem PtB.same (s:zC H H') {bs:List Addr} (h:PtB H bs nc):PtB H' bs nc:=ic #[UM] h
theorem PtB.zs {H:Hp}:∀ {bs:List Addr} {nc:List (Int×Int)},PtB H bs nc->∃ zs:List (Addr×Int×Int),bs=zs.map (·.1)/\nc=zs.map (·.2)/\∀ z∈zs,H z.1=some (.tup [.int z.2.1,.int z.2.2])
 | _,_,.nil=>⟨[],rfl,rfl,#[M]⟩
 | _,_,.cons (a:=b) (b:=q) r t=>by
  obtain⟨zs,h1,h2,h3⟩:=PtB.zs t;refine⟨(b,q) :: zs,by rw [h1]; rfl,by rw [h2]; rfl,fun z hz=>?_⟩;rcases (az.mp hz) with rfl | hz
  ·exact r
  ·exact h3 z hz
theorem PtB.take {bs:List Addr} (h:PtB H bs nc) (n:Nat):PtB H (bs.take n) #[VB]:=by
 induction h generalizing n with
 | nil=>rw [ml,ml]; exact .nil
 | cons r t ih =>
  cases n with
  | zero=>exact .nil
  | succ n=>exact .cons r (ih n)
noncomputable def zaM (H:Hp):List Addr->List #[Id]->Prop:=Paired fun r q=>H r=some (.tup (q.map V.int))
theorem zaM.same (s:zC H H') (h:zaM H rs qs):zaM H' rs qs:=ic #[UM] h
theorem zaM.of {H:Hp}:∀ {ps:List (Addr×List Int)},(∀ q∈ps,H q.1=some (.tup (q.2.map V.int)))->zaM H (ps.map (·.1)) (ps.map (·.2))
 | [],_=>.nil
 | a :: ps,h=>.cons (h a aE) (zaM.of fun q hq=>h q (aq _ hq))
theorem zmY {κ:Type} [DecidableEq κ] (mZ:List (κ×V)) (k:κ) (v:V):#[Ur].map (·.1)=if k∈mZ.map (·.1) then mZ.map (·.1) else mZ.map (·.1)++[k]:=by
 unfold putK;by_cases h:(mZ.any fun kv=>decide (kv.1=k))=true
 ·rw [if_pos h];obtain⟨kv,h1,h2⟩:=eI.mp h;have h2:kv.1=k:=by simpa using h2
  rw [if_pos (by rw [<- h2]; exact eM h1),bD];refine cv fun a _=>?_
  show (if a.1=k then (a.1,v) else a).1=a.1;split <;> rfl
 ·rw [if_neg h];rw [if_neg (fun hm=>h ?_),aB]
  ·rfl
  ·obtain⟨kv,h1,h2⟩:=be.mp hm;exact eI.mpr ⟨kv,h1,by simpa using h2⟩
theorem zoa {a b:List Int} (h:(a.map df:List Key)=b.map df):a=b:=by
 induction a generalizing b with
 | nil=>cases b with
  | nil=>rfl
  | cons _ _=>simp at h
 | cons x a ih=>cases b with
  | nil=>simp at h
  | cons y b =>
   rw [bj,bj] at h;obtain⟨h1,h2⟩:=jY h;rw [mH h1,ih h2]
noncomputable def KeysAre (mZ:List (List Key×V)) (nX:List #[Id]):Prop:=mZ.map (·.1)=nX.map (·.map df)
theorem zie {nX:List #[Id]} (h:KeysAre mZ nX) (hn:nX.Nodup) (q:List Int) (v:V):∃ vw,KeysAre (putK mZ (q.map df) v) vw/\vw.Nodup/\vw.length<=nX.length+1/\∀ x,x∈vw↔x∈nX\/x=q:=by
 unfold KeysAre at h |-;rw [zmY,h];have hm:(q.map df:List Key)∈nX.map (·.map df)↔q∈nX:=by
  constructor
  ·intro hm;obtain⟨x,hx,e⟩:=be.mp hm;rw [<- zoa e];exact hx
  ·intro hm;exact eM hm
 by_cases hq:q∈nX
 ·refine⟨nX,by rw [if_pos (hm.mpr hq)],hn,#[O],fun x=>⟨.inl,fun z=>z.elim id fun e=>e ▸ hq⟩⟩
 ·refine⟨nX++[q],by rw [if_neg fun z=>hq (hm.mp z),aB]; rfl,?_,by rw [aF]; exact ah _,fun x=>by rw [aP,aS]⟩;rw [fZ];exact⟨hn,#[M],fun a ha b hb e=>hq (by rw [<- aS.mp hb,<- e]; exact ha)⟩
noncomputable def zob (K:af):Sp:=fun vs H Q _=>∃ (c tt r:Addr) (p k:Int) (pl:List Int) (rw:List #[EQ]),vs = [.ref c,.ref r]/\za5 H c tt p k pl/\QN K H r pl.length rw/\pl.length<=1000 /\
 ∀ (l:Addr) (bs:List Addr) (H':Hp),H l=none->zC H H'->H' l=some (.lst #[UJ])->PtB H' bs #[KB]->Q #[SX] H'
noncomputable def zfw (K:af):Sp:=fun vs H Q _=>∃ (c tt a:Addr) (p:Int) (k:Nat) (pl:List Int) (bs:List Addr) (nc:List (Int×Int)),vs = [.ref c,.ref a]/\za5 H c tt p k pl/\mS K H a #[UJ]/\PtB H bs nc/\nc.length<=16/\p∈zJ/\Pts p nc/\1<=k/\k<=100 /\
 ∀ (l:Addr) (rs:List Addr) (qs:List #[Id]) (H':Hp),H l=none->zC H H'->H' l=some #[re]->zaM H' rs qs->qs.length<=65536->zem p k qs->(∀ q,q∈qs↔∃ pk∈(chs nc k).map (·.2),q=thr p pk)->Q #[SX] H'
theorem zcg {α β:Type} {F:α->β->Prop}:∀ {a:List α} {b:List β} {c:List α} {d:List β},Paired F a b->Paired F c d->Paired F (a++c) (b++d)
 | _,_,_,_,.nil,h=>h
 | _,_,_,_,.cons r t,h=>.cons r (zcg t h)
noncomputable def zla (H:Hp):List Addr->List #[Id]->Prop:=Paired fun l c=>H l=some (.lst (c.map V.int))
theorem zla.same (s:zC H H') {ls:List Addr} {cs:List #[Id]} (h:zla H ls cs):zla H' ls cs:=ic #[UM] h
noncomputable def zmZ (K:af):Nat->Sp
 | 0=>fun _ _ _ _=>False
 | m+1=>fun vs H Q _=>∃ (a:Addr) (ns:List Int),vs = [.ref a,.int (m:Int)]/\mS K H a #[AT]/\ns.length<=16/\m<=100 /\
  ∀ (l:Addr) (ls:List Addr) (cs:List #[Id]) (H':Hp),H l=none->zC H H'->H' l=some #[V2]->zla H' ls cs->cs.length<=2 ^ ns.length->(∀ c,c∈cs↔c.Sublist ns/\c.length=m)->Q #[SX] H'
theorem zlb {α:Type} {xs:List α} {m:Nat} {c:List α}:(c.Sublist xs/\c.length=m+1)↔∃ (j:Nat) (x:α) (c':List α),j < xs.length/\xs[j]? = some x/\c=x :: c'/\c'.Sublist (xs.drop (j+1))/\c'.length=m:=by
 constructor
 ·rintro⟨h,hl⟩;cases c with
  | nil=>simp at hl
  | cons x c' =>
   have go:∀ {xs:List α},(x :: c').Sublist xs->∃ j,j < xs.length/\xs[j]? = some x/\c'.Sublist (xs.drop (j+1)):=by
    intro xs h;induction xs with
    | nil=>exact absurd (gu.mp h) #[M]
    | cons y ys ih =>
     cases h with
     | cons _ h =>
      obtain⟨j,h1,h2,h3⟩:=ih h;exact⟨j+1,by rw [bf]; lia,by rw [ck]; exact h2,by rw [List.drop_succ_cons]; exact h3⟩
     | cons_cons _ h=>exact⟨0,by rw [bf]; lia,rfl,h⟩
   obtain⟨j,h1,h2,h3⟩:=go h;exact⟨j,x,c',h1,h2,rfl,h3,by simpa using hl⟩
 ·rintro⟨j,x,c',h1,h2,rfl,h3,h4⟩;refine⟨?_,by rw [bf,h4]⟩;have e:=zcC h2;rw [e];exact (h3.cons_cons x).trans (List.sublist_append_right _ _)
noncomputable def zez (p:Int) (q:List Int):List #[Id]:=(bn p.toNat).map fun n:Nat=>q++[(n:Int)]
theorem zlc (p:Int) (q:List Int):(zez p q).length=p.toNat:=by unfold zez; rw [ae,cw]
theorem zm0 {p:Int} {i:Nat} {q':List Int}:IsP p (i+1) q'↔∃ q,IsP p i q/\q'∈zez p q:=by
 constructor
 ·rintro⟨h1,h2⟩;have o8:q'≠[]:=fun e=>by rw [e] at h1; simp at h1
  (have e:=hV o8)
  refine⟨q'.dropLast,⟨by rw [jM]; lia,fun c hc=>h2 c (List.dropLast_subset _ hc)⟩,?_⟩;obtain⟨b0,b1⟩:=h2 _ (List.getLast_mem o8);unfold zez;refine be.mpr ⟨(q'.getLast o8).toNat,bU.mpr #[O],?_⟩;rw [show (((q'.getLast o8).toNat:Nat):Int)=q'.getLast o8 by lia];exact e
 ·rintro⟨q,⟨h1,h2⟩,h⟩;unfold zez at h;obtain⟨n,hn,rfl⟩:=be.mp h;have:=bU.mp hn;refine⟨by rw [aF,h1]; rfl,fun c hc=>?_⟩;rcases (aP.mp hc) with hc | hc
  ·exact h2 c hc
  ·rw [aS.mp hc];lia
theorem zm1 {p:Int} {i:Nat} (h:∀ q,q∈qs↔IsP p i q):∀ q,q∈qs.flatMap (zez p)↔IsP p (i+1) q:=fun q=>by
 rw [ft,zm0];constructor
 ·rintro⟨a,h1,h2⟩;exact⟨a,(h a).mp h1,h2⟩
 ·rintro⟨a,h1,h2⟩;exact⟨a,(h a).mpr h1,h2⟩
theorem zdV {p:Int}:∀ qs:List #[Id],(qs.flatMap (zez p)).length=qs.length*p.toNat
 | []=>by simp
 | q :: qs=>by
  rw [f7,aF,zlc,zdV qs,bf,Nat.succ_mul];lia
noncomputable def zm2 (K:af):Sp:=fun vs H Q _=>∃ (p:Int) (k:Nat),vs = [.int p,.int (k:Int)]/\0 < p/\p<=97/\k<=2 /\
 ∀ (l:Addr) (rs:List Addr) (qs:List #[Id]) (H':Hp),H l=none->zC H H'->H' l=some #[re]->zaM H' rs qs->qs.length<=10000->(∀ q,q∈qs↔IsP p k q)->Q #[SX] H'
end My
end
section
namespace L2
open PySem PySem.Spec PyProof.Rows
variable {H:Hp} {K:af} {X:Cx} {ep:Nat} {h:Heap} {mO:List (Addr×Obj)} {mZ:List (List Key×V)} {s:Shared} {tg:Expr} {w:World}
noncomputable def Itd (d:Addr) (o:Obj) (mZ:List (List Key×V)):It :=
 ⟨fun i H=>H d=some #[SM]/\i < mZ.length,fun i H x H'=>H'=H/\∃ a k,x = .ref a/\(mZ.map (·.1))[i]? = some k/\H a=some #[Uu],fun i H=>H d=some #[SM]/\mZ.length<=i⟩
theorem zm3 {P:Program} {d:Addr} {o:Obj} {es:Array DictEntry} (hd:o.data = .dict es ep) (x:zab P w H h d #[SM]) :
  zeH h d es ep/\es.size=mZ.length/\∀ (i:Nat) (e:DictEntry),es[i]? = some e->∃ a k,e.key = .ref a/\(mZ.map (·.1))[i]? = some k/\H a=some #[Uu]:=by
 obtain⟨ho,_,_,xs,hp,o',es',GP,xo,hx,he,yD,vv⟩:=x;have e1:o'=o:=by rw [ho] at xo; exact (aO xo).symm
 subst e1;rw [he] at hd;cases hd;have hl:es.toList.length=mZ.length:=by rw [yD,ae]; exact (gg hp).symm
 refine⟨⟨o',ho,hx,he⟩,by simpa using hl,fun i e h=>?_⟩;have h':es.toList[i]? = some e:=by rw [aT]; exact h
 rw [yD,ao] at h';cases BA:xs[i]? with
 | none=>rw [BA] at h'; cases h'
 | some x =>
  rw [BA] at h';have BB:e=entryOfKey #[Si] x:=(aO h').symm;have key:∀ {mZ:List (List Key×V)} {xs:List (List Key×Addr×Value)},Paired (fun (p:List Key×V) (q:List Key×Addr×Value)=>p.1=q.1/\H q.2.1=some (.tup (p.1.map kV))/\RelV p.2 q.2.2) mZ xs->∀ (i:Nat) x,xs[i]? = some x->∃ p,mZ[i]? = some p/\H x.2.1=some (.tup (p.1.map kV)):=by
   intro mZ xs hp;induction hp with
   | nil=>intro i x h; simp at h
   | cons h1 _ ih =>
    intro i x h;cases i with
    | zero =>
     (simp only [eN,f8] at h)
     subst h;exact⟨_,rfl,h1.2.1⟩
    | succ i =>
     rw [ck] at h;obtain⟨p,hp,hh⟩:=ih i x h;exact⟨p,by rw [ck]; exact hp,hh⟩
  obtain⟨p,rQ,hh⟩:=key hp i x BA;exact⟨x.2.1,p.1,by rw [BB]; rfl,by rw [ao,rQ]; rfl,hh⟩
theorem zoc {P:Program} (d it:Addr) (o:Obj) (mZ:List (List Key×V)) (es:Array DictEntry) (ep:Nat) (hd:o.data = .dict es ep):Turn P w K tg (Itd d o mZ) [it] it (fun i h=>h.IsKeyIter it d i es.size ep) where
 mem:=by simp
 obj:=fun i h st b hb=>by
  have e:b=it:=by simpa using hb
  subst e;obtain⟨o,e,c,d⟩:=st;exact⟨o,e,fun v z=>by rw [d] at z; cases z⟩
 keep:=fun i h h' st k=>st.at fun o e=>k it #[M] o e
 item:=by
  intro X hP hw hK hc i mO s σ H E I hf st hg;subst hP hw hK;obtain⟨hq,hi⟩:=hg;obtain⟨Aa,hsz,pT⟩:=zm3 hd (I.hok d _ hq);have pq:i < es.size:=by lia
  obtain⟨a,k,he,hk,ha⟩:=pT i es[i] (getElem?_pos es i pq);obtain⟨f0,f1,f2,f3,f4,f5⟩:=hf it #[M];refine zh4 st Aa (getElem?_pos es i pq) fun h' mW sb=>?_
  have I1:Inv X mO σ H { s with heap:=h' }:=I.turned (t':=s.toks) (fun b o hb e=>(sb.2 b hb).trans e) f0 f1 f3 f4 f5;obtain⟨o,e,c,d⟩:=id mW;exact⟨_,rfl,zf1 (s:={ s with heap:=h' }) e c d #[D] ⟨.ref a,H,I1,by rw [he]; rfl,⟨rfl,a,k,rfl,hk,ha⟩,mW,fun b hb=>(hf b hb).1⟩⟩
 done:=by
  intro X hP hw hK hc i mO s σ H E I hf st hg;subst hP hw hK;obtain⟨hq,hi⟩:=hg;obtain⟨Aa,hsz,pT⟩:=zm3 hd (I.hok d _ hq);obtain⟨f0,f1,f2,f3,f4,f5⟩:=hf it #[M];exact zjV #[R0] st Aa #[O] fun h' eb=>#[ut]
 self:=fun _ _ _ _ _ st h=>jT st h
theorem Inv.Ra {σ:St} {d:Addr} {o:Obj} (I:Inv X mO σ H s) (hd:H d=some #[VO]) (ho:s.heap.get? d=some o):Inv X mO σ (mR H d #[SM]) s:=by
 have ne:∀ b u,H b=some u->(∀ k,u≠.dT k)->b≠d:=fun b u e n z=>by subst z; rw [hd] at e; exact n mZ (aO e).symm
 have nn:∀ b,H b=none->b≠d:=fun b e z=>by subst z; rw [hd] at e; cases e
 have up:∀ b,H b=none->mR H d #[SM] b=none:=fun b e=>by rw [zg (nn b e)]; exact e
 refine⟨I.ok,I.os,I.bare,⟨I.base.keep,I.base.slot,fun b u e n hx=>up b (I.base.free b u e n hx),I.base.there,fun b xs e=>?_,fun b u xs e=>?_,fun b ps e=>?_⟩,I.loc,I.cell,up _ I.free,fun x c e=>up _ (I.KS x c e),fun p rQ=>?_,fun b u e=>?_,I.len⟩
 ·have:=I.base.MS b xs e;rw [zg (ne b _ this fun k z=>by cases z)];exact this
 ·have:=I.base.M7 b u xs e;rw [zg (ne b _ this fun k z=>by cases z)];exact this
 ·obtain⟨more,q⟩:=I.base.Nb b ps e;exact⟨more,by rw [zg (ne b _ q fun k z=>by cases z)]; exact q⟩
 ·obtain⟨a1,a2,a3⟩:=I.pin p rQ;exact⟨a1,up _ a2,a3⟩
 ·have NH:∀ {u:HO} {b:Addr},zab X.prog X.w H s.heap b u->zab X.prog X.w (mR H d #[SM]) s.heap b u:=fun {u b} x=>x.NH (fun c v _ q=>q) (fun c q=>by rw [zg (ne c _ q fun k z=>by cases z)]; exact q) fun c xs q=>by rw [zg (ne c _ q fun k z=>by cases z)]; exact q
  by_cases hb:b=d
  ·subst hb;rw [zb] at e;cases e;exact⟨ho,NH (I.hok b _ hd)⟩
  ·rw [zg hb] at e;exact NH #[VS]
noncomputable def iDT (tl:TE):TI:=fun σ H R=>tl σ H fun x H1=>∃ d mZ,x = .ref d/\H1 d=some #[VO]/\∀ o,R (Itd d o mZ) (mR H1 d #[SM])
theorem zqu {X:Cx} {tg l:Expr} {tl:TE} (hl:PE X l tl):PI X tg l (iDT tl):=by
 intro mO s σ H R I h;refine thn #[VX] fun v s1 ⟨x,H1,I1,r1,q1⟩=>?_
 obtain⟨d,mZ,e,hd,q⟩:=q1;subst e;cases r1;obtain⟨hz,hs,xs,hp,o,es,ep,ho,hx,he,yD,vv⟩:=I1.hok d _ hd;have I2:=I1.Ra hd ho;refine zh3 (es:=es) (ep:=ep) hs ⟨o,ho,hx,he⟩ ?_;refine⟨s1.heap.objs.size,[s1.heap.objs.size],_,_,_,rfl,I2.kept (t':=s1.toks) fun b o e=>ai _ e,zoc d _ o mZ es ep he,⟨_,aD _ rfl,rfl,rfl⟩,fun b hb=>?_,q o⟩;have e:b=s1.heap.objs.size:=by simpa using hb
 subst e;exact I2.NP (ah _) (I2.hok.fresh (ah _))
noncomputable def zpE (K:af):R2:=fun x y H Q=>∃ a b xs ys,x = .ref a/\y = .ref b/\m7 K H a xs/\m7 K H b ys/\ys≠[]/\xs.length+ys.length<=sizeLine /\
 (xs = []->Q (.ref b) H)/\(xs≠[]->∀ p,H p=none->Q (.ref p) (mR H p (.tup (xs++ys))))
theorem zld {X:Cx} {K:af} (hK:X.K=K):OpR X #[Wa] (zpE K):=by
 subst hK;intro mO s σ H x y v u Q I rx ry h;obtain⟨a,b,xs,ys,rfl,rfl,ha,hb,hy,hz,q1,q2⟩:=h;by_cases hx:xs = []
 ·cases rx;cases ry;obtain⟨mT,r1,p1,_⟩:=I.tuple ha;obtain⟨nS,r2,p2,_⟩:=I.tuple hb;obtain⟨⟨cls,dd,data,sl⟩,ho,hc,n,hd⟩:=id p1;obtain⟨⟨HI,GR,data2,Bb⟩,tZ,Cp,n2,hd2⟩:=id p2;simp only at hc hd Cp hd2;subst hc hd Cp hd2;exact kz ⟨_,ho,rfl⟩ ⟨_,tZ,rfl⟩ iM jW ge fU (fI _ _)
   (tuple_addW0 a b mT.toArray nS.toArray n n2 dd GR sl Bb (by simp [r1.Ng.mpr hx])) ⟨ho,tZ,⟨.ref b,H,I,rfl,q1 hx⟩⟩
 ·exact znD mO s σ H _ _ v u Q I rx ry ⟨a,b,xs,ys,rfl,rfl,ha,hb,hx,hz,fun z=>absurd z hy,fun _=>q2 hx⟩
end L2
end
section
namespace My
open PySem L2 PyProof.Rows
variable {H:Hp} {K:af} {X:Cx} {k:Nat} {nc:List (Int×Int)} {pl q:List Int} {rw:List #[EQ]} {z:Int}
theorem zc1 {st:Stmt} {ts:TS} (h:PS X st ts):PS X st (fun D σ H=>∃ Pv:L2.St->Hp->Prop,ts { D with nx:=Pv } σ H/\∀ σ' H',Pv σ' H'->D.nx σ' H'):=by
 intro mO s σ H D I hq;obtain⟨Pv,h1,h2⟩:=hq;refine thn (h mO s σ H _ I h1) fun f s1 q=>?_
 cases f with
 | next =>
  obtain⟨σ',H',I',p⟩:=q;exact⟨σ',H',I',h2 _ _ p⟩
 | ret v=>exact q
 | brk=>exact q
 | cont=>exact q
theorem zaM.zs {H:Hp}:∀ {us:List Addr} {qs:List #[Id]},zaM H us qs->∃ ps:List (Addr×List Int),us=ps.map (·.1)/\qs=ps.map (·.2)/\∀ q∈ps,H q.1=some (.tup (q.2.map V.int))
 | _,_,.nil=>⟨[],rfl,rfl,#[M]⟩
 | _,_,.cons (a:=b) (b:=q) r t=>by
  obtain⟨zs,h1,h2,h3⟩:=zaM.zs t;refine⟨(b,q) :: zs,by rw [h1]; rfl,by rw [h2]; rfl,fun z hz=>?_⟩;rcases (az.mp hz) with rfl | hz
  ·exact r
  ·exact h3 z hz
theorem zm4 {a:Addr} {o:HO}:zC (hide H a) #[Ug]:=fun b u e=>by
 unfold hide at e;by_cases hb:b=a
 ·rw [if_pos hb] at e; cases e
 ·rw [if_neg hb] at e;rw [zg hb];exact e
theorem PtB.pts {a:Addr} {bs:List Addr} (ha:H a=some (.lst #[UJ])) (h:PtB H bs nc):zjF K H a nc:=by
 refine⟨bs,mS.of ha,h.length,fun i b q h1 h2=>?_⟩;obtain⟨q',h3,h4⟩:=Paired.get h h1;rw [h2] at h3;cases h3;exact h4
noncomputable def zg3 (pl:List Int) (rw:List #[EQ]) (j:Int):Int×Int:=(pl[j.toNat]?.getD 0,(rw[j.toNat]?.getD none).getD 0)
theorem zif {pl:List Int} {rw:List #[EQ]} (hl:rw.length=pl.length):∀ n,n<=pl.length->nG (pl.take n) (rw.take n)=(zar rw n).map #[Wq]
 | 0,_=>by simp [zar,nG]
 | n+1,hn=>by
  have ih:=zif hl n #[O];have e1:pl[n]? = some pl[n]:=aI #[O];have e2:rw[n]? = some rw[n]:=aI #[O];rw [zdT e1 e2,ih,zdz,aB];congr 1;rw [e2,iO];cases ho:rw[n] with
  | none=>rfl
  | some y =>
   show [(pl[n],y)] = [zg3 pl rw ((n:Nat):Int)];unfold zg3;rw [bd,e1,e2,ho];rfl
theorem zj8 (hl:rw.length=pl.length):nG pl rw=#[GE].map #[Wq]:=by
 have:=zif hl pl.length (ah _);rw [bx,aW #[O]] at this;rw [hl];exact this
theorem zm5 {n:Nat} (h:z∈zar rw n):∃ (j:Nat) (y:Int),z=j/\j < n/\rw[j]? = some (some y):=by
 unfold zar at h;obtain⟨j,hj,rfl⟩:=be.mp h;obtain⟨h1,h2⟩:=db.mp hj;refine⟨j,?_⟩;cases e:rw[j]? with
 | none=>rw [e] at h2; simp at h2
 | some o =>
  cases o with
  | none=>rw [e] at h2; simp at h2
  | some y=>exact⟨y,rfl,bU.mp h1,rfl⟩
theorem zig {p:Int} (hp:p∈zJ) (hl:rw.length=pl.length) (hP:Pts p #[KB]) {t:Nat} (hq:IsP p k q) (hk:k<=t) (ht:t<=hits p q #[KB]) :
  ∃ c:List Int,c.Sublist #[GE]/\c.length=k/\q=thr p (c.map #[Wq]):=by
 obtain⟨pk,h1,h2⟩:=zdD hp hP (n:=#[KB].length) hq hk #[O] ht;rw [bx] at h1;obtain⟨h3,h4⟩:=zeZ.mp h1;rw [zj8 hl] at h3;obtain⟨c,h5,rfl⟩:=List.sublist_map_iff.mp h3;exact⟨c,h5,by simpa using h4,h2⟩
theorem zfx {p:Int} (hl:rw.length=pl.length) (hP:Pts p #[KB]) {c:List Int} (h:c.Sublist #[GE]):Pts p (c.map #[Wq]):=by
 refine hP.sub ?_;rw [zj8 hl];exact h.map _
noncomputable def zle (K:af):Sp:=fun vs H Q _=>∃ (c tt r:Addr) (p:Int) (k:Nat) (T:Int) (pl:List Int) (rw:List #[EQ]),vs = [.ref c,.ref r,.int T]/\za5 H c tt p k pl/\H r=some #[Vh]/\rw.length=pl.length/\pl.length<=16/\p∈zJ/\pl.Nodup/\(∀ x∈pl,0<=x/\x < p)/\(∀ z,some z∈rw->0<=z/\z < p)/\1<=k/\k<=5/\(k:Int)<=T /\
 ∀ (l:Addr) (rs:List Addr) (qs:List #[Id]) (H':Hp),H l=none->zC H H'->H' l=some #[re]->zaM H' rs qs->zem p k qs->(∀ q,q∈qs↔IsP p k q/\T<=(hits p q #[KB]:Int))->Q #[SX] H'
end My
end
section
namespace L2
open PySem PySem.Spec PyProof.Rows
end L2
end
section
namespace HT
open PySem PySem.Spec PyProof.Rows
end HT
namespace L2
open PySem PySem.Spec PyProof.Rows
end L2
end
section
namespace My
open PySem L2 PyProof.Rows
variable {C da ea ua:Addr} {H H':Hp} {fd:FuncData} {k:Nat} {m:Str} {pp sl:Int} {rows:List Rw} {rs:List Addr}
noncomputable def md (p:Int) (q:Int×Int):Int×Int:=(q.1,q.2 % p)
theorem zih (p:Int) (s:List Int×List Int) (q:Int×Int):zb6 p s (md p q)=zb6 p s q:=by
 unfold zb6 md;have:(q.2 % p - zw p q.1 s.1)*inv p (zw p q.1 s.2) % p=(q.2 - zw p q.1 s.1)*inv p (zw p q.1 s.2) % p:=(((Cg.emod p q.2).sub #[SQ]).mul #[SQ]).mod_eq;dsimp only;rw [this]
theorem zj9 (p:Int):∀ (nc:List (Int×Int)) (s:List Int×List Int),#[Wv].foldl (zb6 p) s=nc.foldl (zb6 p) s
 | [],s=>rfl
 | q :: nc,s=>by
  rw [bj,gI,gI,zih,zj9 p nc]
theorem zpF (p:Int) (nc:List (Int×Int)):thr p #[Wv]=thr p nc:=by
 unfold thr zqk;rw [zj9,ae]
noncomputable def zii (K:af):Sp:=fun vs H Q _=>∃ (p:Int) (a:Addr) (nc:List (Int×Int)),vs = [.int p,.ref a]/\zjF K H a nc/\nc.length<=100/\p∈zJ/\Pts p #[Wv]/\(∀ q∈nc,0<=q.2/\q.2 < 10000) /\
 ∀ (l:Addr) (H':Hp),H l=none->zC H H'->H' l=some (.tup ((thr p #[Wv]).map V.int))->Q #[SX] H'
noncomputable def hid (S:List Addr) (H:Hp):Hp:=fun b=>if b∈S then none else H b
theorem zbv {S:List Addr} {b:Addr} {o:HO} (h:H b=some o) (n:b∉S):hid S H b=some o:=by unfold hid; rw [if_neg n]; exact h
theorem zcG {S:List Addr} {b:Addr} {o:HO} (h:hid S H b=some o):H b=some o/\b∉S:=by
 unfold hid at h;by_cases n:b∈S
 ·rw [if_pos n] at h; cases h
 ·rw [if_neg n] at h; exact⟨h,n⟩
theorem zc2 {S:List Addr} (s:zC H H'):zC (hid S H) (hid S H'):=fun b o e=>by
 obtain⟨e,n⟩:=zcG e;exact zbv (s b o e) n
theorem zdf (S:List Addr) (H:Hp):zC (hid S H) H:=fun b o e=>(zcG e).1
noncomputable def fl (c:Addr) (sl:Int) (ea da ua:Addr):List (Str×V):=[("code",.ref c),("slips",.int sl),("entries",.ref ea),("deeds",.ref da),("undone",.ref ua)]
theorem n1:¬ (("code" : Str) = "slips"):=by decide +kernel
theorem n2:¬ (("code" : Str) = "entries"):=by decide +kernel
theorem n3:¬ (("code" : Str) = "deeds"):=by decide +kernel
theorem n4:¬ (("code" : Str) = "undone"):=by decide +kernel
theorem n5:¬ (("slips" : Str) = "entries"):=by decide +kernel
theorem n6:¬ (("slips" : Str) = "deeds"):=by decide +kernel
theorem n7:¬ (("slips" : Str) = "undone"):=by decide +kernel
theorem n8:¬ (("entries" : Str) = "deeds"):=by decide +kernel
theorem n9:¬ (("entries" : Str) = "undone"):=by decide +kernel
theorem n10:¬ (("deeds" : Str) = "undone"):=by decide +kernel
section
variable {c ea da ua:Addr} {sl:Int}
theorem zpG:zaz "undone" (.ref ua) (zaz "deeds" (.ref da) (zaz "entries" (.ref ea) (zaz "slips" #[XF] (zaz "code" #[Tv] []))))=fl c sl ea da ua:=by
 simp only [zaz,if_neg n1,if_neg n2,if_neg n3,if_neg n4,if_neg n5,if_neg n6,if_neg n7,if_neg n8,if_neg n9,if_neg n10];rfl
theorem zlf {u:Addr}:zaz "undone" (.ref u) #[Pi]=fl c sl ea da u:=by
 unfold fl;simp only [zaz,if_neg n4,if_neg n7,if_neg n9,if_neg n10,if_true]
theorem zaG {f g:Str} {v:V} {r:List (Str×V)} (h:¬ g=f):dg f ((g,v) :: r)=dg f r:=by
 rw [bA];have:(f == g)=false:=beq_eq_false_iff_ne.mpr (cX h);rw [this]
theorem zdW {f:Str} {v:V} {r:List (Str×V)}:dg f ((f,v) :: r)=some v:=by
 rw [bA,beq_self_eq_true]
theorem zbW:#[Pi].lookup ("code" : Str)=some #[Tv]:=zdW
theorem zaa:#[Pi].lookup ("entries" : Str)=some (.ref ea):=by unfold fl; rw [zaG n2,zaG n5,zdW]
theorem zb8:#[Pi].lookup ("deeds" : Str)=some (.ref da):=by unfold fl; rw [zaG n3,zaG n6,zaG n8,zdW]
theorem zcH:#[Pi].lookup ("undone" : Str)=some (.ref ua):=by unfold fl; rw [zaG n4,zaG n7,zaG n9,zaG n10,zdW]
theorem zm6 (h1:¬ ("code" : Str)=m) (h2:¬ ("slips" : Str)=m) (h3:¬ ("entries" : Str)=m) (h4:¬ ("deeds" : Str)=m) (h5:¬ ("undone" : Str)=m):#[Pi].lookup m=none:=by
 unfold fl;rw [zaG h1,zaG h2,zaG h3,zaG h4,zaG h5];rfl
end
abbrev Dt:=Nat×Option Int×Option Int
noncomputable def zm7 (d:Dt):List V:=[.int (d.1:Int),ng d.2.1,ng d.2.2]
noncomputable def Dts (H:Hp) (rs:List Addr) (ds:List Dt):Prop:=rs.length=ds.length/\∀ (i:Nat) (r:Addr) (d:Dt),rs[i]? = some r->ds[i]? = some d->H r=some #[VE]
theorem Dts.nil:Dts H [] []:=⟨rfl,fun i r d h=>by simp at h⟩
theorem Dts.same {ds:List Dt} (h:Dts H rs ds) (k:∀ b xs,H b=some #[Sc]->H' b=some #[Sc]):Dts H' rs ds:=⟨h.1,fun i r d e1 e2=>k _ _ (h.2 i r d e1 e2)⟩
theorem Dts.snoc {ds:List Dt} {r:Addr} {d:Dt} (h:Dts H rs ds) (e:H r=some #[VE]):Dts H (rs++[r]) (ds++[d]):=by
 obtain⟨hl,ha⟩:=h;refine⟨by simp [hl],fun i r' d' e1 e2=>?_⟩;rcases Nat.lt_trichotomy i rs.length with hi | hi | hi
 ·rw [aX hi] at e1;rw [aX #[O]] at e2;exact ha i r' d' e1 e2
 ·subst hi;rw [bg (ah _)] at e1;rw [bg #[O]] at e2;simp at e1;rw [hl,fL] at e2;simp at e2;subst e1 e2;exact e
 ·rw [du (by simp; lia)] at e1;cases e1
theorem Dts.Qh {ds:List Dt} {d:Dt} (h:Dts H rs (ds++[d])):∃ rY r,rs=rY++[r]/\Dts H rY ds/\H r=some #[VE]:=by
 obtain⟨hl,ha⟩:=h;have o8:rs≠[]:=by
  intro z;subst z;simp at hl
 obtain⟨rY,r,rfl⟩:∃ rY r,rs=rY++[r]:=⟨rs.dropLast,rs.getLast o8,(hV o8).symm⟩;have CW:rY.length=ds.length:=by simpa using hl
 refine⟨rY,r,rfl,⟨CW,fun i r' d' e1 e2=>?_⟩,?_⟩
 ·have hi:=(aj.mp e1).1;exact ha i r' d' (by rw [aX hi]; exact e1) (by rw [aX #[O]]; exact e2)
 ·exact ha rY.length r d #[M] (by rw [CW]; simp)
structure Ls (C:Addr) (H:Hp) (S:List Addr) (p c:Addr) (pp sl:Int) (es:List #[EQ]) (ds us:List Dt):Prop where
 ex:∃ dx ea da ua k tt dr ur,S = [p,ea,da,ua]/\ea≠da/\ea≠ua/\da≠ua/\H p=some (.ins C dx #[Pi])/\H ea=some (.lst #[SK])/\H da=some (.lst (dr.map V.ref))/\H ua=some (.lst (ur.map V.ref))/\Dts H dr ds/\Dts H ur us/\H c=some (.tup [.int pp,.int k,.ref tt])
theorem Ls.same {S:List Addr} {p c:Addr} {es:List #[EQ]} {ds us:List Dt} (h:Ls C H S p c pp sl es ds us) (s:zC H H'):Ls C H' S p c pp sl es ds us:=by
 obtain⟨dx,ea,da,ua,k,tt,dr,ur,e,h1,h2,h3,h4,h5,h6,h7,h8,h9,uC⟩:=h.ex;exact⟨dx,ea,da,ua,k,tt,dr,ur,e,h1,h2,h3,s _ _ h4,s _ _ h5,s _ _ h6,s _ _ h7,h8.same fun b xs z=>s _ _ z,h9.same fun b xs z=>s _ _ z,s _ _ uC⟩
theorem Ls.own {S:List Addr} {p c:Addr} {es:List #[EQ]} {ds us:List Dt} (h:Ls C H S p c pp sl es ds us):∀ b∈S,(∃ xs,H b=some #[Sr])\/∃ C dx fs,H b=some #[Sl]:=by
 obtain⟨dx,ea,da,ua,k,tt,dr,ur,rfl,h1,h2,h3,h4,h5,h6,h7,_⟩:=h.ex;intro b hb;simp at hb;rcases (hb) with rfl | rfl | rfl | rfl
 ·exact .inr ⟨_,_,_,h4⟩
 ·exact .inl ⟨_,h5⟩
 ·exact .inl ⟨_,h6⟩
 ·exact .inl ⟨_,h7⟩
theorem Ls.tup {C:Addr} {H:Hp} {S:List Addr} {p c b:Addr} {pp sl:Int} {es:List #[EQ]} {ds us:List Dt} {xs:List V} (h:Ls C H S p c pp sl es ds us) (e:H b=some #[Sc]):b∉S:=fun hb=>by
 rcases h.own b hb with ⟨_,z⟩ | ⟨_,_,_,z⟩ <;> (rw [e] at z; cases z)
theorem Ls.fresh {S:List Addr} {p c b:Addr} {es:List #[EQ]} {ds us:List Dt} (h:Ls C H S p c pp sl es ds us) (e:H b=none):b∉S:=fun hb=>by
 rcases h.own b hb with ⟨_,z⟩ | ⟨_,_,_,z⟩ <;> (rw [e] at z; cases z)
inductive Dd where
 | Mp (n x:Int) | forget (n:Int) | back | again
inductive Wd where
 | place | number | heard | notHeard | nothing
noncomputable def Wd.txt:Wd->Str
 | .place=>"place"
 | .number=>"number"
 | .heard=>"heard"
 | .notHeard=>"not heard"
 | .nothing=>"nothing"
noncomputable def owd:Option Wd->Str
 | none=>""
 | some w=>w.txt
abbrev Rw:=List #[EQ]
noncomputable def inB (es:Rw) (n:Int):Bool:=decide (0<=n) && decide (n < (es.length:Int))
noncomputable def zfV (pp x:Int):Bool:=decide (0<=x) && decide (x < pp)
noncomputable def stp (pp:Int) (es:Rw) (ds us:List Dt):Dd->Wd ⊕ (Rw×List Dt×List Dt)
 | .Mp n x=>if inB es n=false then .inl .place else if zfV pp x=false then .inl .number else match (es[n.toNat]?).getD none with
  | some _=>.inl .heard
  | none=>.inr (es.set n.toNat (some x),ds++[(n.toNat,none,some x)],[])
 | .forget n=>if inB es n=false then .inl .place else match (es[n.toNat]?).getD none with
  | some v=>.inr (es.set n.toNat none,ds++[(n.toNat,some v,none)],[])
  | none=>.inl .notHeard
 | .back=>match ds.getLast? with
  | none=>.inl .nothing
  | some d=>.inr (es.set d.1 d.2.1,ds.dropLast,us++[d])
 | .again=>match us.getLast? with
  | none=>.inl .nothing
  | some d=>.inr (es.set d.1 d.2.2,ds++[d],us.dropLast)
noncomputable def ltr (pp:Int) (rows:List Rw) (at':Nat) (r:Rw):Dd->List Rw×Nat×Option Wd
 | .Mp n x=>if inB r n=false then #[Se] else if zfV pp x=false then #[VI] else match (r[n.toNat]?).getD none with
  | some _=>(rows,at',some .heard)
  | none=>(rows.take (at'+1)++[r.set n.toNat (some x)],at'+1,none)
 | .forget n=>if inB r n=false then #[Se] else match (r[n.toNat]?).getD none with
  | some _=>(rows.take (at'+1)++[r.set n.toNat none],at'+1,none)
  | none=>(rows,at',some .notHeard)
 | .back=>if at'=0 then #[TB] else (rows,at' - 1,none)
 | .again=>if at'+1 < rows.length then (rows,at'+1,none) else #[TB]
noncomputable def Tr (r:Rw) (d:Dt) (r':Rw):Prop:=r[d.1]? = some d.2.1/\r'=r.set d.1 d.2.2
theorem Tr.back {r r':Rw} {d:Dt} (h:Tr r d r'):r'.set d.1 d.2.1=r:=by
 obtain⟨h1,rfl⟩:=h;rw [List.set_set];obtain⟨hi,e⟩:=aj.mp h1;apply eZ;intro j;by_cases hj:d.1=j
 ·subst hj;rw [dM hi,h1]
 ·rw [d8 hj]
structure Jn (n:Nat) (rows:List Rw) (at':Nat) (es:Rw) (ds us:List Dt):Prop where
 len:rows.length=(ds++us.reverse).length+1
 da:ds.length=at'
 cur:rows[at']? = some es
 ch:∀ (i:Nat) (r r':Rw) (d:Dt),rows[i]? = some r->(ds++us.reverse)[i]? = some d->rows[i+1]? = some r'->Tr r d r'
 wd:∀ r∈rows,r.length=n
theorem Jn.new {n:Nat} {at':Nat} {es:Rw} {ds us:List Dt} (J:Jn n rows at' es ds us) {d:Dt} {es':Rw} (t:Tr es d es'):Jn n (rows.take (at'+1)++[es']) (at'+1) es' (ds++[d]) []:=by
 obtain⟨hl,ha,hc,qD,hw⟩:=J;obtain⟨hi,Ez⟩:=aj.mp hc;have nC:#[Xr].length=at'+1:=by rw [aA]; lia
 refine⟨by simp [nC,ha],by simp [ha],?_,fun i r r' d' e1 e2 e3=>?_,fun r hr=>?_⟩
 ·rw [bg #[O],nC];simp
 ·rw [List.reverse_nil,cb] at e2;have BL:i < at'+1:=by
   have:=(aj.mp e2).1;simp at this;lia
  rw [aX #[O],cf BL] at e1;by_cases hia:i=at'
  ·subst hia;rw [hc] at e1;cases e1;rw [bg #[O],ha,fL] at e2;rw [bg #[O],nC,fL] at e3;simp at e2 e3;subst e2 e3;exact t
  ·rw [aX #[O]] at e2;rw [aX #[O],cf #[O]] at e3;exact qD i r r' d' e1 (by rw [aX #[O]]; exact e2) e3
 ·rcases aP.mp hr with h | h
  ·exact hw r (fu h)
  ·have:r=es':=by simpa using h
   subst this;rw [t.2,jf];exact hw es (aV hc)
theorem Jn.QM {n:Nat} {at':Nat} {es:Rw} {ds us:List Dt} {d:Dt} (J:Jn n rows at' es (ds++[d]) us):Jn n rows (at' - 1) (es.set d.1 d.2.1) ds (us++[d])/\0 < at':=by
 obtain⟨hl,ha,hc,qD,hw⟩:=J;have Fo:ds.length+1=at':=by simpa using ha
 have eT:ds++[d]++us.reverse=ds++(us++[d]).reverse:=by simp
 rw [eT] at hl qD;obtain⟨r,hr⟩:∃ r,rows[at' - 1]? = some r:=by
  have:=(aj.mp hc).1;exact⟨rows[at' - 1]'#[O],#[M]⟩
 have t:Tr r d es:=qD (at' - 1) r es d hr (by
  have e:at' - 1=ds.length:=by lia
  rw [e,bg (ah _)];simp) (by rw [show at' - 1+1=at' by lia]; exact hc)
 rw [t.back];exact⟨⟨hl,#[O],hr,qD,hw⟩,#[O]⟩
theorem Jn.Qu {n:Nat} {at':Nat} {es:Rw} {ds us:List Dt} {d:Dt} (J:Jn n rows at' es ds (us++[d])):Jn n rows (at'+1) (es.set d.1 d.2.2) (ds++[d]) us/\at'+1 < rows.length:=by
 obtain⟨hl,ha,hc,qD,hw⟩:=J;have eT:ds++(us++[d]).reverse=ds++[d]++us.reverse:=by simp
 rw [eT] at hl qD;have nC:at'+1 < rows.length:=by rw [hl]; simp; lia
 obtain⟨r',sy⟩:∃ r',rows[at'+1]? = some r':=⟨rows[at'+1]'(nC),#[M]⟩;have t:Tr es d r':=qD at' es r' d hc (by
  rw [bu,bg #[O],ha,fL];simp) sy
 rw [<- t.2];exact⟨⟨hl,by simp [ha],sy,qD,hw⟩,nC⟩
theorem zod {n:Nat} {at':Nat} {es:Rw} {ds us:List Dt} (J:Jn n rows at' es ds us) (D:Dd) :
  (∃ w,stp pp es ds us D = .inl w/\ltr pp rows at' es D=(rows,at',some w)) \/
  ∃ es' rd rf oh at2,stp pp es ds us D = .inr (es',rd,rf)/\ltr pp rows at' es D=(oh,at2,none)/\Jn n oh at2 es' rd rf/\oh.length<=rows.length+1/\(rd++rf).length<=(ds++us).length+1:=by
 cases D with
 | Mp k x =>
  unfold stp ltr;dsimp only;by_cases h1:inB es k=false
  ·rw [if_pos h1,if_pos h1];exact .inl ⟨_,rfl,rfl⟩
  ·rw [if_neg h1,if_neg h1];by_cases h2:zfV pp x=false
   ·rw [if_pos h2,if_pos h2];exact .inl ⟨_,rfl,rfl⟩
   ·rw [if_neg h2,if_neg h2];have CG:inB es k=true:=by simpa using h1
    unfold inB at CG;simp only [cg,decide_eq_true_eq] at CG;have hk:k.toNat < es.length:=by lia
    obtain⟨o,ho⟩:∃ o,es[k.toNat]? = some o:=⟨es[k.toNat],#[M]⟩;rw [ho];cases o with
    | some v=>exact .inl ⟨_,rfl,rfl⟩
    | none =>
     refine .inr ⟨_,_,_,_,_,rfl,rfl,J.new (d:=(k.toNat,none,some x)) ⟨ho,rfl⟩,?_,?_⟩
     ·simp <;> lia
     ·simp <;> lia
 | forget k =>
  unfold stp ltr;dsimp only;by_cases h1:inB es k=false
  ·rw [if_pos h1,if_pos h1];exact .inl ⟨_,rfl,rfl⟩
  ·rw [if_neg h1,if_neg h1];have CG:inB es k=true:=by simpa using h1
   unfold inB at CG;simp only [cg,decide_eq_true_eq] at CG;have hk:k.toNat < es.length:=by lia
   obtain⟨o,ho⟩:∃ o,es[k.toNat]? = some o:=⟨es[k.toNat],#[M]⟩;rw [ho];cases o with
   | none=>exact .inl ⟨_,rfl,rfl⟩
   | some v =>
    refine .inr ⟨_,_,_,_,_,rfl,rfl,J.new (d:=(k.toNat,some v,none)) ⟨ho,rfl⟩,?_,?_⟩
    ·simp <;> lia
    ·simp <;> lia
 | back =>
  unfold stp ltr;dsimp only;rcases dt ds with h | ⟨rd,d,h⟩
  ·subst h;have:at'=0:=J.da.symm;rw [if_pos this];exact .inl ⟨_,rfl,rfl⟩
  ·rw [cR] at h;subst h;obtain⟨J',h0⟩:=J.QM;rw [if_neg #[O]];refine .inr ⟨_,_,_,_,_,by rw [fw]; simp,rfl,J',#[O],?_⟩;simp <;> lia
 | again =>
  unfold stp ltr;dsimp only;rcases dt us with h | ⟨rf,d,h⟩
  ·subst h;have hl:=J.len;have ha:=J.da;have:¬ at'+1 < rows.length:=by rw [hl]; simp; lia
   rw [if_neg this];exact .inl ⟨_,rfl,rfl⟩
  ·rw [cR] at h;subst h;obtain⟨J',h0⟩:=J.Qu;rw [if_pos h0];refine .inr ⟨_,_,_,_,_,by rw [fw]; simp,rfl,J',#[O],?_⟩;simp <;> lia
noncomputable def top (i:Nat):Stmt:=PySem.Challenge.pw_slipcurve_k27_listeners_hear.main.body.getD i (.Pass ⟨0,0,0,0⟩)
abbrev zcI:Stmt:=top 1
abbrev zb9:Stmt:=top 2
abbrev zcJ:Stmt:=top 3
abbrev zdg:Stmt:=top 4
abbrev zbl:Stmt:=top 5
abbrev zfy:Stmt:=top 6
abbrev zdh:Stmt:=top 7
abbrev zaT:Stmt:=top 21
abbrev zfz:Stmt:=top 22
abbrev zbQ:Stmt:=top 24
abbrev za7:Stmt:=top 25
abbrev zbX:Stmt:=top 26
abbrev zdX:Stmt:=top 30
abbrev zdi:Stmt:=top 31
abbrev zc3:Stmt:=top 32
abbrev zdj:Stmt:=top 33
abbrev zaU:Stmt:=top 34
abbrev zco:Stmt:=top 35
abbrev zbg:Stmt:=top 36
abbrev zdY:Stmt:=top 37
abbrev zbK:Stmt:=top 38
abbrev zdZ:Stmt:=top 39
abbrev zd0:Stmt:=top 40
abbrev zd1:Stmt:=top 41
abbrev zdk:Stmt:=top 42
abbrev zbY:Stmt:=top 43
abbrev zcp:Stmt:=top 44
abbrev zaV:Stmt:=top 45
abbrev zdr:Stmt:=top 46
abbrev zg4:Stmt:=inClass (top 28) 0
abbrev zbD:Stmt:=inClass (top 28) 1
abbrev zd2:Stmt:=inClass (top 28) 2
abbrev zg5:Stmt:=inClass (top 28) 3
abbrev zd3:Stmt:=inClass (top 28) 4
abbrev zg6:Stmt:=inClass (top 28) 5
abbrev s_again:Stmt:=inClass (top 28) 6
abbrev s_row:Stmt:=inClass (top 28) 7
abbrev zd4:Stmt:=inClass (top 28) 8
abbrev zfA:Stmt:=inClass (top 28) 9
structure Adr where
 MQ:Addr
 PB:Addr
 Oq:Addr
 Oo:Addr
 LB:Addr
 Ll:Addr
 O7:Addr
 Lj:Addr
 Kw:Addr
 PC:Addr
 QB:Addr
 Kn:Addr
 init:Addr
 K0:Addr
 change:Addr
 Mp:Addr
 forget:Addr
 back:Addr
 again:Addr
 row:Addr
 OF:Addr
 sure:Addr
 Mo:Addr
 LR:Addr
 Mm:Addr
 inverse:Addr
 Lg:Addr
 QQ:Addr
 through:Addr
 KE:Addr
 fits:Addr
 NB:Addr
 KC:Addr
 Ms:Addr
 OE:Addr
 Nl:Addr
 OD:Addr
 Nj:Addr
 LI:Addr
 OA:Addr
 KN:Addr
 P4:Addr
 NN:Addr
 Oz:Addr
 OC:Addr
 OB:Addr
 Nk:Addr
 Mn:Addr
 NM:Addr
 KD:Addr
 law:Addr
structure KW (K:af) (t:Adr) (C:Addr) (b0 b1 b2 b3 b4 b5 b6 b7 b8 b9:Bool):Prop where
 i0:ak K #[Rl] (.ref t.PB)=some b0
 i1:ak K #[Rl] (.ref t.Oq)=some b1
 i2:ak K #[Rl] (.ref t.Oo)=some b2
 i3:ak K #[Rl] (.ref t.LB)=some b3
 i4:ak K #[Rl] (.ref t.Ll)=some b4
 i5:ak K #[Rl] (.ref t.O7)=some b5
 i6:ak K #[Rl] (.ref t.Lj)=some b6
 i7:ak K #[Rl] (.ref t.Kw)=some b7
 i8:ak K #[Rl] (.ref t.PC)=some b8
 i9:ak K #[Rl] (.ref t.QB)=some b9
 iv:ak K #[Rl] (.type "ValueError")=some true
 xc:Xc K C
 sl:bZ K #[Rl] (.ref t.MQ)=some true
abbrev FbQ (K:af) (x:Str) (s:Stmt) (a:Addr) (p:List Str):Prop:=∃ fd,Fun K x x s a fd/\Binds K fd p []
structure Txt (K:af) (mg:Str->Option Value) (t:Adr):Prop where
 LC:mg "len" = none
 K1:mg "range" = none
 Pn:mg "list" = none
 Ot:mg "tuple" = none
 QZ:mg "min" = none
 Q0:mg "max" = none
 Kq:mg "isinstance" = none
 Q6:mg "int" = none
 Q4:mg "bool" = none
 QC:mg "zip" = none
 OT:mg "enumerate" = none
 Pg:mg "reversed" = none
 NS:mg "sorted" = none
 Om:mg "ValueError" = none
 NR:mg "SlipError" = some (.ref t.MQ)
 PK:mg "TooFew" = some (.ref t.PB)
 O9:mg "NoCurve" = some (.ref t.Oq)
 O8:mg "NoPaper" = some (.ref t.Oo)
 NG:mg "NoPlace" = some (.ref t.LB)
 M6:mg "NoNumber" = some (.ref t.Ll)
 Pa:mg "Heard" = some (.ref t.O7)
 M5:mg "NotHeard" = some (.ref t.Lj)
 KR:mg "NothingLeft" = some (.ref t.Kw)
 PL:mg "NoText" = some (.ref t.PC)
 Qn:mg "NoRow" = some (.ref t.QB)
 KJ:cA K t.LB zei "ValueError.__new__" = true
 KA:cA K t.Ll zei "ValueError.__new__" = true
 LD:cA K t.O7 zei "ValueError.__new__" = true
 Kz:cA K t.Lj zei "ValueError.__new__" = true
 Kt:cA K t.Kw zei "ValueError.__new__" = true
 OS:KW K t t.LB false false false true false false false false false false
 NW:KW K t t.Ll false false false false true false false false false false
 P5:KW K t t.O7 false false false false false true false false false false
 NV:KW K t t.Lj false false false false false false true false false false
 MU:KW K t t.Kw false false false false false false false true false false
 sb:bC K t.MQ (.type "BaseException")=some true
 cl:Cls K t.Kn
 OJ:mg "Listener" = some (.ref t.Kn)
 mkr:Mk K t.Kn t.init
 LV:zbR K t.Kn "code"
 Nh:zbR K t.Kn "slips"
 Ks:zbR K t.Kn "entries"
 LH:zbR K t.Kn "deeds"
 K6:zbR K t.Kn "undone"
 KG:OH K t.Kn "check_place" t.K0
 NJ:OH K t.Kn "change" t.change
 Qr:OH K t.Kn "hear" t.Mp
 Ph:OH K t.Kn "forget" t.forget
 Qs:OH K t.Kn "back" t.back
 PQ:OH K t.Kn "again" t.again
 Qj:OH K t.Kn "row" t.row
 NK:OH K t.Kn "can_be" t.OF
 Qq:OH K t.Kn "sure" t.sure
 Pq:∃ fd,Fun K "__init__" "Listener.__init__" zg4 t.init fd/\Binds K fd ["self","code","slips"] []
 Kv:∃ fd,Fun K "check_place" "Listener.check_place" zbD t.K0 fd/\Binds K fd ["self","number"] []
 Mq:∃ fd,Fun K "change" "Listener.change" zd2 t.change fd/\Binds K fd ["self","number","entry"] []
 Pr:∃ fd,Fun K "hear" "Listener.hear" zg5 t.Mp fd/\Binds K fd ["self","number","entry"] []
 NA:∃ fd,Fun K "forget" "Listener.forget" zd3 t.forget fd/\Binds K fd ["self","number"] []
 Pw:∃ fd,Fun K "back" "Listener.back" zg6 t.back fd/\Binds K fd ["self"] []
 NY:∃ fd,Fun K "again" "Listener.again" s_again t.again fd/\Binds K fd ["self"] []
 Qv:∃ fd,Fun K "row" "Listener.row" s_row t.row fd/\Binds K fd ["self"] []
 Mr:∃ fd,Fun K "can_be" "Listener.can_be" zd4 t.OF fd/\Binds K fd ["self"] []
 Pp:∃ fd,Fun K "sure" "Listener.sure" zfA t.sure fd/\Binds K fd ["self","number"] []
 OQ:mg "is_whole" = some (.ref t.Mo)
 MD:mg "is_number" = some (.ref t.LR)
 Lh:mg "value_at" = some (.ref t.Mm)
 Pl:mg "inverse" = some (.ref t.inverse)
 NL:mg "times_root" = some (.ref t.Lg)
 QK:mg "bent" = some (.ref t.QQ)
 Pj:mg "through" = some (.ref t.through)
 Lo:mg "heard_points" = some (.ref t.KE)
 QJ:mg "fits" = some (.ref t.fits)
 Pm:mg "choices" = some (.ref t.NB)
 Ni:mg "all_through" = some (.ref t.KC)
 OR:mg "all_near" = some (.ref t.Ms)
 P0:mg "_law_cell" = some (.ref t.OE)
 Mz:mg "_law_draws" = some (.ref t.Nl)
 Oy:mg "_law_code" = some (.ref t.OD)
 K7:mg "_law_value" = some (.ref t.Nj)
 NU:mg "_law_through" = some (.ref t.LI)
 PX:mg "_law_fits" = some (.ref t.OA)
 MC:mg "_law_choices" = some (.ref t.KN)
 Qt:mg "_law_all" = some (.ref t.P4)
 PV:mg "_law_near" = some (.ref t.NN)
 PR:mg "_law_word" = some (.ref t.Oz)
 PZ:mg "_law_deed" = some (.ref t.OC)
 PY:mg "_law_done" = some (.ref t.OB)
 Pk:mg "_law_later" = some (.ref t.Nk)
 OP:mg "_law_can_be" = some (.ref t.Mn)
 PU:mg "_law_sure" = some (.ref t.NM)
 MT:mg "_law_polynomial" = some (.ref t.KD)
 L7:FbQ K "is_whole" zcI t.Mo ["thing"]
 KY:FbQ K "is_number" zb9 t.LR ["p","thing"]
 KO:FbQ K "value_at" zcJ t.Mm ["p","polynomial","x"]
 MN:FbQ K "inverse" zdg t.inverse ["p","number"]
 Ld:FbQ K "times_root" zbl t.Lg ["p","polynomial","root"]
 Pu:FbQ K "bent" zfy t.QQ ["p","polynomial","vanishing","point"]
 ML:FbQ K "through" zdh t.through ["p","points"]
 Ky:FbQ K "heard_points" zaT t.KE ["code","row"]
 Pt:FbQ K "fits" zfz t.fits ["code","row","polynomial"]
 MO:FbQ K "choices" zbQ t.NB ["things","many"]
 KZ:FbQ K "all_through" za7 t.KC ["code","points"]
 L8:FbQ K "all_near" zbX t.Ms ["code","row","t"]
 Nz:FbQ K "_law_cell" zdX t.OE ["script","k"]
 LS:FbQ K "_law_draws" zdi t.Nl ["script","k","many","base"]
 Ny:FbQ K "_law_code" zc3 t.OD ["script","at","most_k","most_n"]
 KP:FbQ K "_law_value" zdj t.Nj ["p","polynomial","x"]
 LA:FbQ K "_law_through" zaU t.LI ["p","points"]
 Nu:FbQ K "_law_fits" zco t.OA ["code","row","polynomial"]
 KU:FbQ K "_law_choices" zbg t.KN ["some","many"]
 NX:FbQ K "_law_all" zdY t.P4 ["p","k"]
 Nt:FbQ K "_law_near" zbK t.NN ["code","row","t"]
 Nq:FbQ K "_law_word" zdZ t.Oz ["e"]
 Nx:FbQ K "_law_deed" zd0 t.OC ["draw","code"]
 Nv:FbQ K "_law_done" zd1 t.OB ["listener","deed"]
 MM:FbQ K "_law_later" zdk t.Nk ["code","states","at","deed"]
 L6:FbQ K "_law_can_be" zbY t.Mn ["code","row","slips"]
 Nr:FbQ K "_law_sure" zcp t.NM ["code","ones","number"]
 KI:FbQ K "_law_polynomial" zaV t.KD ["draws","p","k"]
section
variable {P:Program} {w:World} {K:af} {mg:Str->Option Value} {base:Heap} {t:Adr}
theorem zij:Ko ["thing"] ["thing"] (zi zcI):=#[S]
theorem zik (T:Txt K mg t) (F:Fun K "is_whole" "is_whole" zcI t.Mo fd):Kx P w K mg base CX0 1 t.Mo fd ["thing"] (zgT K):=by
 refine F.ok zij #[o0] #[ld]
 ·obtain⟨v,rfl,_⟩:=h;rfl
 ·obtain⟨v,rfl,hv,q⟩:=h;refine zaJ ?_; intro zX;refine⟨_,#[zj,#[zH,#[zlT,#[zr,#[zb3],T.Kq,bM,#[za,#[wE],#[ya,#[zdF,(.ty "int"),T.Q6,boot_int]]]],#[ziz,(@zoX _ _ _ _ #[zr,#[zb3],T.Kq,bM,#[za,#[wE],#[ya,#[zdF,(.ty "bool"),T.Q4,boot_bool]]]])]]]],?_⟩;obtain⟨ty,ht,hi,hb,_⟩:=zpl (K:=K) hv;refine (mP rfl (ex4 _ _ _ _ ⟨rfl,ht,hi,#[KK]⟩));refine za6 (fun h=>(mP rfl (ex4 _ _ _ _ ⟨rfl,ht,hb,#[KK]⟩))) #[TN]
  ·have e:isW v = !isB v:=by cases v <;> simp_all [isI,isB,isW]
   rw [<- e];exact q
  ·have e:isW v=false:=by cases v <;> simp_all [isI,isB,isW]
   rw [<- e];exact q
theorem zg7:Ko ["p","thing"] ["p","thing"] (zi zb9):=#[S]
theorem zd5 (T:Txt K mg t) (F:Fun K "is_number" "is_number" zb9 t.LR fd):Kx P w K mg base CX0 2 t.LR fd ["p","thing"] (zgU K):=by
 obtain⟨vx,sE,qh⟩:=T.L7;have wu:=zik (P:=P) (w:=w) (base:=base) T sE;refine F.ok zg7 #[o0] #[ld]
 ·obtain⟨p,v,rfl,_⟩:=h;rfl
 ·obtain⟨p,v,rfl,hv,q⟩:=h;refine zaJ ?_; intro zX;refine⟨_,#[zj,#[zH,#[zlT,#[zF,wu,#[ss],T.OQ,sE.kp,qh,#[zY],#[SE]],#[ziz,(@zl2 _ _ _ _ _ _ _ _ _ _ _ _ #[zhq] #[zcO] #[zh] #[xz] #[wE] (by with_unfolding_all rfl))]]]],?_⟩;refine (mP rfl ⟨v,rfl,hv,#[KK]⟩);refine za6 #[TN] #[TN]
  ·obtain⟨i,rfl⟩:=znS h;refine #[SU];refine za6 (fun h0=>(mP rfl #[Th])) (fun h0=>?_)
   ·have e:zgS p #[Xk]=decide (i < p):=by simp only [zgS]; rw [h0]; rfl
    rw [e] at q;exact q
   ·have e:zgS p #[Xk]=false:=by simp only [zgS]; rw [kW.mpr h0]; rfl
    rw [e] at q;exact q
  ·have e:zgS p v=false:=by cases v <;> simp_all [zgS,isW]
   rw [<- e];exact q
theorem zlg:Ko ["script","k"] ["script","k"] (zi zdX):=#[S]
theorem zlh (T:Txt K mg t) (F:Fun K "_law_cell" "_law_cell" zdX t.OE fd):Kx P w K mg base CX0 1 t.OE fd ["script","k"] (zkH K):=by
 refine F.ok zlg #[o0] #[ld]
 ·obtain⟨a,ns,k,rfl,_⟩:=h; rfl
 ·obtain⟨a,ns,k,rfl,hS,nj,k0,k1,q⟩:=h;refine zaJ ?_; intro zX;refine⟨_,#[ze,#[zam,#[zA,#[zcO],#[xz],#[S5],(zI _)],#[zj,#[zH,#[zB,#[zU],#[wE],#[xz]]]],#[zQ]],#[ze,#[zam,#[zA,#[zbF],#[S5],#[zh],(zI _)],#[zj,#[zH,#[zn,#[zai],#[W0],#[zh]]]],#[zQ]],#[zj,#[zH,#[zn,#[zai],#[zn,#[zO],#[zB,#[zU],#[wE],#[zn,#[zO],#[xz],#[S5]]],#[zh]],#[W0]]]]]],?_⟩;refine zfO ?_; intro rh qi;refine (mP rfl (mP rfl ⟨a,(mP rfl ⟨.inl hS,#[pi]⟩)⟩)); rw [ae];refine za6 #[TN] #[TN]
  ·have h:k < (ns.length:Int):=by simpa using h
   obtain⟨c,hc⟩:=zb7 k0 h;exact (mP rfl (mP rfl (ex4 a _ k _ ⟨rfl,rfl,hS,hc,q c⟩)))
  ·have h:¬ k < (ns.length:Int):=by simpa using h
   refine (mP rfl ⟨a,(mP rfl ⟨.inl hS,rfl,#[KK]⟩)⟩);rw [ae];refine za6 (fun h2=>?_) (fun h2=>?_)
   ·exact #[US]
   ·have h2:¬ V.int (ns.length:Int)=V.int 0:=by simpa using h2
    have xP:0 < (ns.length:Int):=by
     have:(ns.length:Int)≠0:=fun z=>h2 (by rw [z])
     lia
    have m0:=aR k (show (ns.length:Int)≠0 by lia);have m1:=aL k xP;obtain⟨c,hc⟩:=zb7 m0 m1;refine (mP rfl (mP rfl (mP rfl ⟨a,(mP rfl ⟨.inl hS,(m8 rfl rfl ⟨by rw [ae]; exact xP,a,_,_,_,rfl,rfl,hS,by rw [ae]; exact hc,(m8 rfl rfl ⟨(by show (0:Int) < 1000003; decide),?_⟩)⟩)⟩)⟩)));exact #[US]
theorem zae:Ko ["script","k","many","base","primes","cell","rest","row","j","mash"] ["script","k","many","base"] (zi zdi):=#[S]
theorem zfB (T:Txt K mg t) (F:Fun K "_law_draws" "_law_draws" zdi t.Nl fd):Kx P w K mg base CX0 2 t.Nl fd ["script","k","many","base"] (ziV K):=by
 obtain⟨xV,vy,sG⟩:=T.Nz;have Ac:=zlh (P:=P) (w:=w) (base:=base) T vy;refine F.ok zae #[o0] #[ld]
 ·obtain⟨a,ns,k,many,base,rfl,_⟩:=h;rfl
 ·obtain⟨a,ns,k,many,bs,rfl,hS,nj,k0,k1,m0,m1,b0,b1,q⟩:=h;refine zaJ ?_; intro zX;refine⟨_,#[ze,#[zq,4,zae.nd,#[A],#[zad,#[zhC,#[zhC,#[zhC,#[zhC,#[zhC,#[Tl]]]]]]]],#[ze,#[zq,5,zae.nd,#[A],#[zF,Ac,#[ss],T.P0,vy.kp,sG,#[zY],#[za,#[wE],#[SE]]]],#[ze,#[zq,6,zae.nd,#[A],#[zh]],#[ze,#[zam,#[zA,#[zl0],#[Uf],#[WZ],(zI _)],#[zj,#[zq,6,zae.nd,#[A],#[Uf]]],#[zQ]],#[ze,#[zq,7,zae.nd,#[A],#[S9]],#[ze,#[zbi,bN,#[zaK,T.K1,#[Vx]],#[zm,8,zae.nd,#[A]],#[ze,#[zq,9,zae.nd,#[A],#[zn,#[zan],#[zn,#[zO],#[Uf],#[zB,#[zW],#[UZ],#[zn,#[zO],#[VN],#[zh]]]],#[zn,#[zai],#[zh],#[zn,#[zan],#[zn,#[zan],#[zh],#[VN]],#[VN]]]]],#[ze,#[zq,9,zae.nd,#[A],#[zn,#[zai],#[zn,#[zai],#[pvx,9],#[zn,#[zan],#[zn,#[zan],#[zh],#[W1]],#[W1]]],#[W0]]],#[ze,#[zq,9,zae.nd,#[A],#[zn,#[zO],#[pvx,9],#[zB,#[zW],#[UZ],#[zn,#[zO],#[zn,#[zai],#[zn,#[zan],#[zh],#[VN]],#[xz]],#[zh]]]]],#[ze,#[zq,9,zae.nd,#[A],#[zn,#[zO],#[zn,#[zan],#[zn,#[zan],#[pvx,9],#[pvx,9]],#[pvx,9]],#[zB,#[zW],#[UZ],#[zn,#[zO],#[W1],#[zh]]]]],#[ze,#[zam,#[zA,#[zhr],#[pvx,6],#[zh],(zI _)],#[zj,#[zq,9,zae.nd,#[A],#[pvx,6]]],#[zQ]],#[ze,#[zaN,#[zcQ,bw,cE,cF,#[zbq],#[pvx,7],#[ya,#[zn,#[zO],#[pvx,9],#[RI]]]]],#[zj,#[zq,6,zae.nd,#[A],#[zn,#[zcs],#[pvx,6],#[RI]]]]]]]]]]],#[zj,#[zH,#[pvx,7]]]]]]]]],?_⟩;refine zqf ?_; intro Hh DK BM vd rh qi;refine⟨by show 8<=sizeLine; rw [a8]; decide,fun tp ht=>?_⟩;have s1:zC H (mR H tp (.tup znM)):=zd ht;refine (mP rfl (mP rfl (ex3 a ns k ⟨rfl,s1.seq hS,nj,k0,k1,fun c=>?_⟩)));refine (mP rfl (m8 rfl rfl ⟨⟨#[D],#[D],#[D]⟩,#[pi]⟩));refine za6 (fun _=>#[KK]) #[PP]
  all_goals
   refine⟨aZ _,fun l hl=>?_⟩;have Hi:H l=none:=zC.free s1 hl;have xO:tp≠l:=zl zb hl;refine⟨_,rfl,many,rfl,#[O],#[O],zbT (lo:=0) (n:=many.toNat) (fun i σ H'=>∃ (r:Int) (v8 v9:Option V) (ds:List Int),σ = [some #[RC],some (.int k),some (.int many),some (.int bs),some (.ref tp),some (.int c),some (.int r),some #[SX],v8,v9]/\zjD i bs ds/\zC H H'/\H' tp=some (.tup znM)/\H' l=some #[Xo])
    ⟨_,none,none,[],rfl,⟨rfl,#[M]⟩,zaZ s1 Hi,by rw [zg xO]; exact zb,zb⟩ ?_ ?_⟩
   ·rintro zD zT i σ H2 hi ⟨r,v8,v9,ds,rfl,hd,s2,FQ,wx⟩;obtain⟨q1,e1,q1p,q1l⟩:=zfh (0+(i:Int));obtain⟨q2,e2,q2p,q2l⟩:=zfh (3*(0+(i:Int))+k);obtain⟨q3,e3,q3p,q3l⟩:=zfh (0+(i:Int)+5);have c1:=aR c (show q1≠0 by lia);have c2:=aL c q1p;have pq:(i:Int) < 1000:=by lia
    refine (mP rfl (mP rfl (mP rfl (m8 rfl rfl ⟨(by show (0:Int) < 8; decide),tp,_,_,_,rfl,rfl,m7.of FQ,e1,(m8 rfl rfl ⟨q1p,(mP rfl (m8 rfl rfl ⟨.inl #[Rg],(mP rfl (m8 rfl rfl ⟨.inl #[On],(m8 rfl rfl (m8 rfl rfl ⟨.inl #[On],?_⟩))⟩))⟩))⟩)⟩))));refine (mP rfl (mP rfl (m8 rfl rfl (m8 rfl rfl ⟨.inl #[Rg],(mP rfl (m8 rfl rfl (m8 rfl rfl ⟨.inl #[On],(m8 rfl rfl (mP rfl (m8 rfl rfl ⟨.inl #[Rg],#[Th]⟩)))⟩)))⟩))));refine (mP rfl (mP rfl (mP rfl (m8 rfl rfl ⟨.inl #[Rg],(mP rfl (m8 rfl rfl (m8 rfl rfl ⟨(by show (0:Int) < 8; decide),tp,_,_,_,rfl,rfl,m7.of FQ,e2,(m8 rfl rfl ⟨q2p,?_⟩)⟩)))⟩))));generalize c % q1*(48271+2*(0+(i:Int))*(0+(i:Int)))+7919*(0+(i:Int)+1)*(0+(i:Int)+1)+104729*k=ms;have d1:=aR ms (show q2≠0 by lia);have d2:=aL ms q2p;refine (mP rfl (mP rfl (m8 rfl rfl ⟨.inl #[On],(mP rfl (m8 rfl rfl ⟨.inr #[On],(mP rfl (mP rfl (m8 rfl rfl (m8 rfl rfl ⟨(by show (0:Int) < 8; decide),tp,_,_,_,rfl,rfl,m7.of FQ,e3,(m8 rfl rfl ⟨q3p,?_⟩)⟩))))⟩))⟩)));refine #[SU];have Bi:=hd.1;refine za6 (fun _=>#[KK]) #[PP]
    all_goals
     refine⟨_,rfl,.inl ⟨rfl,_,mS.of wx⟩,_,rfl,_,rfl,_,_,rfl,rfl,b0,l,_,_,rfl,rfl,wx,zav (by rw [ae]; lia),?_⟩;refine (mP rfl (mP rfl (m8 rfl rfl ⟨⟨b0,b1⟩,?_⟩)));refine (ex4 _ _ _ (ds++[_]) ⟨rfl,⟨by rw [aF,Bi]; rfl,fun d hm=>?_⟩,zaZ s2 Hi,by rw [zg xO]; exact FQ,by rw [zb,aB]; rfl⟩); rcases aP.mp hm with hm | hm
     ·exact hd.2 d hm
     ·have e:=aS.mp hm;rw [e];exact⟨aR _ #[O],aL _ b0⟩
   ·rintro σ H2 ⟨r,v8,v9,ds,rfl,hd,s2,FQ,wx⟩;exact (mP rfl (q l ds H2 Hi s2 hd wx))
theorem zbw:Ko ["script","at","most_k","most_n","plan","primes","p","k","many","left"] ["script","at","most_k","most_n"] (zi zc3):=#[S]
theorem zli (T:Txt K mg t) (F:Fun K "_law_code" "_law_code" zc3 t.OD fd):Kx P w K mg base CX0 3 t.OD fd ["script","at","most_k","most_n"] (zkI K):=by
 obtain⟨sH,oj,om⟩:=T.LS;have pS:=zfB (P:=P) (w:=w) (base:=base) T oj;refine F.ok zbw #[o0] #[ld]
 ·obtain⟨a,ns,at',mk,mn,rfl,_⟩:=h;rfl
 ·obtain⟨a,ns,at',mk,mn,rfl,hS,nj,a0,a1,k1,k5,kn,n16,q⟩:=h;refine zaJ ?_; intro zX;refine⟨_,#[ze,#[zq,4,zbw.nd,#[Wf],#[zF,pS,#[ss],T.Mz,oj.kp,om,#[zY],#[za,#[wE],by exact #[za,#[xz],#[za,#[zh],#[Sd]]]]]],(by exact (@zmn _ 5 _ _ _ _ _ _ _ [5,7,11,13,17,19,23,29,31,37,41,43,47,53,59,61,67,71,73,79,83,89,97] #[N] zbw.nd rfl #[A] (by first | exact .inl rfl | exact .inr rfl) (by exact #[ze,#[zq,6,zbw.nd,#[A],#[zB,#[zU],#[zP,#[za,#[zB,#[zU],#[Uf],#[Xt]],#[ya,#[zB,#[zU],#[Uf],#[Xt]]]]],#[Xt]]],#[ze,#[zq,7,zbw.nd,#[A],#[zn,#[zai],#[zh],#[zn,#[zO],#[SI],#[zr,#[zf4],T.QZ,boot_min,#[za,#[IN],#[Ut]]]]]],#[ze,#[zq,8,zbw.nd,#[A],#[zn,#[zai],#[pvx,7],#[zn,#[zO],#[SI],#[zn,#[zai],#[zn,#[zbj],#[zr,#[zf4],T.QZ,boot_min,#[za,#[RI],#[Ut]]],#[pvx,7]],#[zh]]]]],#[ze,#[zq,9,zbw.nd,#[Wf],#[zaW,(@zfS _ rfl),T.Pn,jk,#[ya,#[zaW,(@zhB _),T.K1,lH,#[Ut]]]]],#[zj,#[zH,#[zad,#[za,#[pvx,6],#[za,#[pvx,7],#[ya,#[zaW,#[zbz],T.Ot,jU,#[ya,#[zaP,(Kr.of (N':=["j","left","plan"]) (ix:=[none,some 9,some 4]) (zi zc3) _ rfl rfl rfl),#[zaO],#[zaK,T.K1,#[ya,#[VN]]],#[wn],#[BT],(fun _ _ _ _=>(@zpf _ (K) _ _ _ _ _ _ _ _ _ _ _ rfl bw gB gC (@zme _) #[xz] #[ya,#[zn,#[zO],#[zB,#[zbV,(K)],#[IN],#[zn,#[zai],#[zh],#[wE]]],#[zr,#[zbC,(K)],T.LC,bI,#[SE]]]] (by rfl) (by rfl) (by rfl) (by rfl) (by rfl)))]]]]]]]]]]]]])))],?_⟩;refine zqf ?_; intro Hh DK BM vd rh qi;refine (mP rfl (mP rfl (ex5 a ns at' 20 27720 ⟨rfl,hS,nj,a0,a1,#[D],#[D],#[D],#[D],fun l ds H1 hl s1 hd oR=>?_⟩)));have Bi:ds.length=20:=hd.1;have dat:∀ m:Int,0<=m->m < 20->∃ c:Int,atI #[RF] m=some (.int c):=fun m h0 h1=>zb7 h0 #[O]
  refine⟨by show 23<=sizeLine; rw [a8]; decide,fun pr CH=>?_⟩;have Ja:l≠pr:=zl oR CH;obtain⟨d0,ed0⟩:=dat 0 #[D] #[D];obtain⟨d1,ed1⟩:=dat 1 #[D] #[D];obtain⟨d2,ed2⟩:=dat 2 #[D] #[D];obtain⟨d3,ed3⟩:=dat 3 #[D] #[D];have rX:#[Sh] l=some #[Xo]:=by rw [zg Ja]; exact oR
  obtain⟨p1,mp1,ep1⟩:=zms (ns:=zJ) (k:=d0 % 23) (aR _ #[D]) (aL _ #[D]);obtain⟨p2,mp2,ep2⟩:=zms (ns:=zJ) (k:=d0 % 3) (aR _ #[D]) (by have:=aL d0 (show (0:Int) < 3 by decide); have e:(zJ.length:Int)=23:=rfl; lia);obtain⟨p,ep,G9⟩:=zph (x:=p1) (y:=p2) (m:=d1 % 2) (aR _ #[D]) (aL _ #[D]);have mp:p∈zJ:=by rcases G9 with e | e <;> rw [e] <;> assumption
  have rp:=z6 mp;refine⟨_,rfl,_,rfl,l,_,_,_,rfl,rfl,mS.of rX,ed0,_,_,rfl,rfl,(by show (0:Int) < 23; decide),pr,_,_,_,rfl,rfl,mS.of zb,ep1,
   _,rfl,_,rfl,l,_,_,_,rfl,rfl,mS.of rX,ed0,_,_,rfl,rfl,(by show (0:Int) < 3; decide),pr,_,_,_,rfl,rfl,mS.of zb,ep2,zbH,fun l2 qX=>?_⟩
  have Jb:l≠l2:=zl rX qX;have Bh:(mR #[Sh] l2 (.lst [.int p1,.int p2])) l=some #[Xo]:=by rw [zg Jb]; exact rX
  refine (mP rfl (ex4 l _ _ _ ⟨rfl,rfl,mS.of Bh,ed1,(m8 rfl rfl ⟨(by show (0:Int) < 2; decide),l2,_,_,_,rfl,rfl,mS.of zb,ep,?_⟩)⟩));have Bc:(0:Int) < (if p < mk then p else mk):=by split <;> lia
  have wo:(if p < mk then p else mk)<=mk:=by split <;> lia
  have IL:(if p < mk then p else mk)<=p:=by split <;> lia
  refine⟨_,rfl,l,_,_,_,rfl,rfl,mS.of Bh,ed2,_,rfl,_,rfl,_,_,rfl,_,_,rfl,rfl,Bc,_,_,rfl,rfl,?_⟩;generalize (if p < mk then p else mk)=mm at Bc wo IL |-;have yF:=aR d2 (show mm≠0 by lia);have FH:=aL d2 Bc;have Bd:(if p < mn then p else mn)<=mn:=by split <;> lia
  have uK:(if p < mn then p else mn)<=p:=by split <;> lia
  have hn3:mm<=(if p < mn then p else mn):=by split <;> lia
  refine (mP rfl (mP rfl (ex4 l _ _ _ ⟨rfl,rfl,mS.of Bh,ed3,(mP rfl (mP rfl ⟨_,_,rfl,(mP rfl (m8 rfl rfl (m8 rfl rfl (m8 rfl rfl ⟨#[O],#[Th]⟩))))⟩))⟩)));generalize (if p < mn then p else mn)=nn at Bd uK hn3 |-;have Hj:=aR d3 (show nn - (1+d2 % mm)+1≠0 by lia);have uf:=aL d3 (show 0 < nn - (1+d2 % mm)+1 by lia);refine (mP rfl ⟨p,rfl,fun r FF=>⟨r,p,rfl,zb,#[O],#[O],fun lf Jc=>?_⟩⟩);have CB:l≠r:=zl Bh FF;have FR:l≠lf:=by
   refine zl (H:=mR (mR #[Sh] l2 (.lst [.int p1,.int p2])) r (.rng 0 p)) (o:=.lst #[RF]) ?_ Jc;rw [zg CB]; exact Bh
  have sA:zC H (mR #[Sh] l2 (.lst [.int p1,.int p2])):=(s1.trans (zd CH)).trans (zd qX);have sB:=#[Yh].trans (zd (o:=.lst ((zcf 0 p.toNat).map V.int)) Jc);have Jd:H lf=none:=#[Yh].free Jc;obtain⟨nd0,rg0⟩:=zkJ p;refine⟨_,rfl,_,rfl,_,rfl,_,rfl,#[O],#[O],zao (n:=(1+d2 % mm+d3 % (nn - (1+d2 % mm)+1)).toNat) (fun i ys H'=>∃ xs ls:List Int,ys=xs.map V.int/\xs.length=i/\zC H H'/\H' l=some #[Xo]/\H' lf=some (.lst (ls.map V.int))/\ls.length+i=p.toNat/\(xs++ls).Nodup/\∀ y∈xs++ls,0<=y/\y < p)
   ⟨[],zcf 0 p.toNat,rfl,rfl,sB,by rw [zg FR,zg CB]; exact Bh,zb,by rw [zdn]; rfl,by simpa using nd0,by simpa using rg0⟩ #[T8] #[SS] ?_ ?_⟩
  ·rintro zS zT zE i x ys H4 H5 hi ⟨xs,ls,rfl,IQ,s4,DL,BN,Hk,nd,rg⟩ ⟨rfl,rfl⟩;refine gY ?_;obtain⟨c,ec⟩:=dat (4+(0+(i:Int))) #[O] #[O];have lpos:0 < ls.length:=by lia
   have lm:((ls.map V.int).length:Int)=(ls.length:Int):=by rw [ae]
   have c0:=aR c (show (ls.length:Int)≠0 by lia);have c1:=aL c (show (0:Int) < ls.length by lia);have qJ:=a8;obtain⟨y,ey⟩:∃ y,ls[(c % (ls.length:Int)).toNat]? = some y:=⟨ls[(c % (ls.length:Int)).toNat]'#[O],#[M]⟩;refine (mP rfl ⟨.inl ⟨rfl,_,mS.of BN⟩,(mP rfl (mP rfl (m8 rfl rfl (ex4 l _ _ _ ⟨rfl,rfl,mS.of DL,ec,(mP rfl ⟨lf,(mP rfl ⟨.inl (mS.of BN),(m8 rfl rfl ⟨(by rw [lm]; lia),lf,_,_,(c % (ls.length:Int)).toNat,.int y,rfl,rfl,BN,?_⟩)⟩)⟩)⟩))))⟩);rw [lm];refine⟨#[O],#[O],by rw [ae]; exact hX c0 c1,by rw [ao,ey]; rfl,zav (by rw [ae]; lia),xs++[y],ls.eraseIdx (c % (ls.length:Int)).toNat,by rw [aB]; rfl,by rw [aF,IQ]; rfl,zaZ s4 Jd,by rw [zg FR]; exact DL,by rw [zb,zgm],?_,znO ey nd rg⟩;rw [List.length_eraseIdx];split <;> lia
  ·rintro ys H4 D ⟨xs,ls,rfl,IQ,s4,DL,BN,Hk,nd,rg⟩ hD;refine⟨D,(mP rfl (.inl ⟨mS.of zb,fun tt DM=>⟨by show 3<=sizeLine; rw [a8]; decide,fun c hc=>?_⟩⟩))⟩;have s5:=(s4.trans (zd (o:=.lst (xs.map V.int)) hD)).trans (zd (o:=.tup (xs.map V.int)) DM);refine q c tt p _ xs _ (s5.free hc) (s5.trans (zd hc)) ⟨mp,#[O],#[O],#[O],#[O],(fZ.mp nd).1,fun y hy=>rg y (aH _ hy)⟩ zb ?_;rw [zg (zl zb hc)];exact zb
theorem zbx:Ko ["p","polynomial","x","total","power","number"] ["p","polynomial","x"] (zi zdj):=#[S]
theorem zcK (T:Txt K mg t) (F:Fun K "_law_value" "_law_value" zdj t.Nj fd):Kx P w K mg base CX0 1 t.Nj fd ["p","polynomial","x"] (ziW K):=by
 refine F.ok zbx #[o0] #[ld]
 ·obtain⟨p,x,a,cs,rfl,_⟩:=h;rfl
 ·obtain⟨p,x,a,cs,rfl,hS,p0,p1,x0,x1,q⟩:=h;refine zaJ ?_; intro zX;refine⟨_,#[ze,#[zq,3,zbx.nd,#[A],#[zh]],#[ze,#[zq,4,zbx.nd,#[A],#[zh]],#[ze,#[zbi,bN,(@zpe _ _ _ _ #[xz]),#[zm,5,zbx.nd,#[A]],#[ze,#[zq,3,zbx.nd,#[A],#[zn,#[zO],#[zn,#[zai],#[RI],#[zn,#[zan],#[Uf],#[UZ]]],#[wE]]],#[zj,#[zq,4,zbx.nd,#[A],#[zn,#[zO],#[zn,#[zan],#[UZ],#[IN]],#[wE]]]]]],#[zj,#[zH,#[RI]]]]]],?_⟩;refine zgH ?_; intro vd rh qi;refine (mP rfl ⟨a,rfl,?_⟩);rcases hS with hS | hS
  ·refine .inl ⟨⟨_,hS⟩,zbe (K:=K) (a:=a) (xs:=cs.map V.int) (fun i σ H'=>H'=H/\∃ (ni power:Int) (nb:Option V),σ = [some #[WF],some #[RC],some #[XW],some (.int ni),some (.int power),nb]/\0<=power/\power<=97/\lv p x ni power (cs.drop i)=lv p x 0 1 cs)
    ⟨rfl,0,1,none,rfl,#[D],#[D],rfl⟩ (fun i σ H' _ ⟨e,_⟩=>by rw [e]; exact hS) ?_ ?_⟩
   ·rintro zD zT i y σ H1 hy ⟨rfl,ni,power,nb,rfl,w0,w1,hl⟩;obtain⟨c,rfl,hc⟩:=zaF hy;have m0:=aR (power*x) (show p≠0 by lia);have m1:=aL (power*x) p0;refine #[Tm];refine (mP rfl (mP rfl #[TC]));exact⟨rfl,_,_,_,rfl,m0,#[O],(zjE hc).symm.trans hl⟩
   ·rintro σ H1 ⟨rfl,ni,power,nb,rfl,w0,w1,hl⟩;rw [ae,gv] at hl;have hl:ni=lv p x 0 1 cs:=hl;rw [zjA p0] at hl;rw [<- hl] at q;exact (mP rfl q)
  ·refine .inr ⟨⟨_,hS⟩,zmg (K:=K) (a:=a) (xs:=cs.map V.int) (fun i σ H'=>H'=H/\∃ (ni power:Int) (nb:Option V),σ = [some #[WF],some #[RC],some #[XW],some (.int ni),some (.int power),nb]/\0<=power/\power<=97/\lv p x ni power (cs.drop i)=lv p x 0 1 cs)
    ⟨rfl,0,1,none,rfl,#[D],#[D],rfl⟩ (fun i σ H' _ ⟨e,_⟩=>by rw [e]; exact hS) ?_ ?_⟩
   ·rintro zD zT i y σ H1 hy ⟨rfl,ni,power,nb,rfl,w0,w1,hl⟩;obtain⟨c,rfl,hc⟩:=zaF hy;have m0:=aR (power*x) (show p≠0 by lia);have m1:=aL (power*x) p0;refine #[Tm];refine (mP rfl (mP rfl #[TC]));exact⟨rfl,_,_,_,rfl,m0,#[O],(zjE hc).symm.trans hl⟩
   ·rintro σ H1 ⟨rfl,ni,power,nb,rfl,w0,w1,hl⟩;rw [ae,gv] at hl;have hl:ni=lv p x 0 1 cs:=hl;rw [zjA p0] at hl;rw [<- hl] at q;exact (mP rfl q)
theorem zm8 (xs:List V) (j:Nat):zcy xs none (some (j:Int))=xs.take j:=by
 unfold zcy;rw [HT.Pf,HT.Ov,iV,fS];by_cases h:j<=xs.length
 ·rw [gN h]
 ·rw [show min j xs.length=xs.length by lia,aW (ah _),aW (show xs.length<=j by lia)]
noncomputable def zlj (K:af):Sp:=fun vs H Q _=>∃ (a:Addr) (ds:List Int) (p k:Int),vs = [.ref a,.int p,.int k]/\mS K H a #[RF]/\ds.length<=1000/\0 < p /\
 ∀ (l:Addr) (nr:List Int) (H':Hp),H l=none->zC H H'->(nr.length<=ds.length/\∀ x∈nr,0<=x/\x < p)->H' l=some #[V1]->(∀ n:Nat,k=(n:Int)->n<=ds.length->nr.length=n)->Q #[SX] H'
theorem zeI:Ko ["draws","p","k"] ["draws","p","k"] (zi zaV):=#[S]
theorem zeJ (T:Txt K mg t) (F:Fun K "_law_polynomial" "_law_polynomial" zaV t.KD fd):Kx P w K mg base CX0 1 t.KD fd ["draws","p","k"] (zlj K):=by
 refine F.ok zeI #[o0] #[ld]
 ·obtain⟨a,ds,p,k,rfl,_⟩:=h;rfl
 ·obtain⟨a,ds,p,k,rfl,ha,hn,p0,q⟩:=h;refine zaJ ?_; intro zX;refine⟨_,#[zj,#[zH,#[zaW,#[zbz],T.Ot,jU,#[ya,#[zaP,(Kr.of (N':=["draw","p"]) (ix:=[none,some 1]) (zi zaV) _ rfl rfl rfl),#[zaO],#[zat,#[zbS,zcz,#[wE],#[zcw],#[zcx,#[IN]]]],#[wn],#[BT],(fun _ _ _ _=>#[zn,#[zO],#[wE],#[xz]])]]]]],?_⟩;obtain⟨ms,ems,lms⟩:=zmu ds none (some k);refine (mP rfl (mP rfl (mP rfl ⟨a,(mP rfl ⟨ha,fun z hz=>?_⟩)⟩)));rw [ems];have s4:=zd (o:=.lst #[Sb]) hz;refine⟨z,rfl,⟨_,mS.of zb⟩,zkK (K:=K) (xs:=ms.map V.int) (fs:=ms.map fun d=>V.int (d % p)) (mS.of zb) (by rw [ae,ae]) (by rw [ae]; lia) ?_ ?_⟩
  ·intro j x y R B hx hy hR;obtain⟨c,_,rfl,rfl⟩:=zhJ hx hy;refine gY ?_;exact (mP rfl (mP rfl (m8 rfl rfl ⟨p0,hR⟩)))
  intro D hD;have Je:(ms.map fun d=>V.int (d % p))=(ms.map (· % p)).map V.int:=by rw [bD]; rfl
  rw [Je];refine⟨D,(mP rfl (.inl ⟨mS.of zb,fun po EI=>?_⟩))⟩;have s5:=s4.trans (zd (o:=.lst ((ms.map (· % p)).map V.int)) hD);refine q po _ _ (s5.free EI) (s5.trans (zd EI)) ⟨by rw [ae]; exact lms,fun x hx=>?_⟩ zb (fun n Ha hle=>?_)
  ·obtain⟨d,_,rfl⟩:=be.mp hx;exact⟨aR _ #[O],aL _ p0⟩
  ·have h1:=congrArg eA ems;rw [Ha,zm8,aA,ae,ae] at h1;rw [ae];lia
theorem zca:Ko ["p","polynomial","x","value","number"] ["p","polynomial","x"] (zi zcJ):=#[S]
theorem zc4 (T:Txt K mg t) (F:Fun K "value_at" "value_at" zcJ t.Mm fd):Kx P w K mg base CX0 1 t.Mm fd ["p","polynomial","x"] (zes K):=by
 refine F.ok zca #[o0] #[ld]
 ·obtain⟨p,x,a,cs,rfl,_⟩:=h;rfl
 ·obtain⟨p,x,a,cs,rfl,hS,p0,p1,x0,x1,q⟩:=h;refine zaJ ?_; intro zX;refine⟨_,#[ze,#[zq,3,zca.nd,#[A],#[zh]],#[ze,#[zbi,bN,(@zpd _ _ _ _ _ _ rfl T.Pg #[SE] (by rfl)),#[zm,4,zca.nd,#[A]],#[zj,#[zq,3,zca.nd,#[A],#[zn,#[zO],#[zn,#[zai],#[zn,#[zan],#[RI],#[IN]],#[UZ]],#[wE]]]]],#[zj,#[zH,#[RI]]]]],?_⟩;refine zfO ?_; intro rh qi;refine (mP rfl ⟨a,cs.map V.int,rfl,?_⟩);rcases hS with hS | hS
  ·refine .inl ⟨hS,?_⟩;rw [ae];refine zjv (n:=cs.length) (fun i σ H'=>H'=H/\∃ nb,σ = [some #[WF],some #[RC],some #[XW],some (.int (zw p x #[Ps])),nb]) ⟨rfl,none,by rw [iV,gv]; rfl⟩
    (fun i σ H' hi ⟨e,_⟩=>⟨hi,cs.map V.int,by rw [e]; exact hS,by rw [ae]⟩) (fun σ H' _=>ah _) ?_ ?_
   ·rintro zD zT i y σ H1 H2 hi ⟨rfl,nb,rfl⟩ ⟨rfl,hy⟩;obtain⟨c,rfl,hc⟩:=zaF (hy _ hS);have v0:=zb4 (x:=x) p0 #[Ps];have v1:=zb5 (x:=x) p0 #[Ps];refine #[Tn];refine⟨rfl,some (.int c),?_⟩;rw [zgn hi hc];show _ = [some (V.int p),_,_,some (V.int ((c+x*zw p x #[Ps]) % p)),_];rw [Int.add_comm c,kM x];rfl
   ·rintro σ H1 ⟨rfl,nb,rfl⟩;rw [fL,fS];exact (mP rfl q)
  ·refine .inr ⟨hS,?_⟩;rw [ae];refine zjv (n:=cs.length) (fun i σ H'=>H'=H/\∃ nb,σ = [some #[WF],some #[RC],some #[XW],some (.int (zw p x #[Ps])),nb]) ⟨rfl,none,by rw [iV,gv]; rfl⟩
    (fun i σ H' hi ⟨e,_⟩=>⟨hi,cs.map V.int,by rw [e]; exact hS,by rw [ae]⟩) (fun σ H' _=>ah _) ?_ ?_
   ·rintro zD zT i y σ H1 H2 hi ⟨rfl,nb,rfl⟩ ⟨rfl,hy⟩;obtain⟨c,rfl,hc⟩:=zaF (hy _ hS);have v0:=zb4 (x:=x) p0 #[Ps];have v1:=zb5 (x:=x) p0 #[Ps];refine #[Tn];refine⟨rfl,some (.int c),?_⟩;rw [zgn hi hc];show _ = [some (V.int p),_,_,some (V.int ((c+x*zw p x #[Ps]) % p)),_];rw [Int.add_comm c,kM x];rfl
   ·rintro σ H1 ⟨rfl,nb,rfl⟩;rw [fL,fS];exact (mP rfl q)
theorem zbc:Ko ["p","number","product","square","left"] ["p","number"] (zi zdg):=#[S]
theorem zi8 (T:Txt K mg t) (F:Fun K "inverse" "inverse" zdg t.inverse fd):Kx P w K mg base CX0 1 t.inverse fd ["p","number"] (ziX K):=by
 refine F.ok zbc #[o0] #[ld]
 ·obtain⟨p,h,rfl,_⟩:=h;rfl
 ·obtain⟨p,hh,rfl,mp,h0,h1,q⟩:=h;refine zaJ ?_; intro zX;refine⟨_,#[ze,#[zq,2,zbc.nd,#[A],#[zh]],#[ze,#[zq,3,zbc.nd,#[A],#[zn,#[zO],#[xz],#[wE]]],#[ze,#[zq,4,zbc.nd,#[A],#[zn,#[zbj],#[wE],#[zh]]],#[ze,(@zlV _ _ _ _ _ _ bN #[zA,#[zhr],#[UZ],#[zh],(zI _)] #[ze,#[zam,#[zA,#[zbF],#[zn,#[zO],#[UZ],#[zh]],#[zh],(zI _)],#[zj,#[zq,2,zbc.nd,#[A],#[zn,#[zO],#[zn,#[zan],#[IN],#[RI]],#[wE]]]],#[zQ]],#[ze,#[zq,3,zbc.nd,#[A],#[zn,#[zO],#[zn,#[zan],#[RI],#[RI]],#[wE]]],#[zj,(@zo0 _ _ (4) _ _ _ _ _ _ zbc.nd rfl #[A] #[zh] zlY (by trivial))]]]),#[zj,#[zH,#[IN]]]]]]],?_⟩;refine zqe ?_; intro BM vd rh qi;have rp:=z6 mp;have e0:=aR hh (show p≠0 by lia);have e1:=aL hh (show 0 < p by lia);refine (mP rfl (mP rfl (m8 rfl rfl ⟨(by show 0 < p; lia),(mP rfl #[Th])⟩)));refine zlX (fun σ H'=>H'=H/\∃ (prod sq left:Int) (n:Nat),σ = [some #[WF],some (.int hh),some (.int prod),some (.int sq),some (.int left)]/\0<=prod/\prod < p/\0<=sq/\sq < p/\0<=left/\left < 2 ^ n/\zc9 p n prod sq left=inv p hh) (fun σ _=>zpi σ)
   ⟨rfl,1,hh % p,p - 2,7,rfl,#[O],#[O],e0,e1,#[O],#[O],rfl⟩ ?_ ?_
  ·rintro σ H1 ⟨rfl,prod,sq,left,n,rfl,b0,b1,s0,s1,l0,l1,hi⟩;refine #[SU];refine za6 (fun hl=>?_) (fun hl=>?_)
   ·have hl:0 < left:=by simpa using hl
    obtain⟨m,rfl⟩:∃ m,n=m+1:=by
     cases n with
     | zero=>lia
     | succ m=>exact⟨m,rfl⟩
    rw [zgO hl l1] at hi;have l2:left / 2 < 2 ^ m:=by
     have:(2:Int) ^ (m+1)=2 ^ m*2:=Int.pow_succ ..;lia
    have m0:=aR (prod*sq) (show p≠0 by lia);have m1:=aL (prod*sq) (show 0 < p by lia);have n0:=aR (sq*sq) (show p≠0 by lia);have n1:=aL (sq*sq) (show 0 < p by lia);refine (mP rfl (m8 rfl rfl ⟨(by show (0:Int) < 2; decide),rfl,#[KK]⟩)); refine za6 (fun ho=>?_) (fun ho=>?_)
    ·have ho:left % 2=1:=by simpa using ho
     rw [if_pos ho] at hi;refine (mP rfl (mP rfl (m8 rfl rfl ⟨.inl #[On],(mP rfl (m8 rfl rfl ⟨(by show 0 < p; lia),?_⟩))⟩)));refine (mP rfl (mP rfl (m8 rfl rfl ⟨.inl #[On],(mP rfl (m8 rfl rfl ⟨(by show 0 < p; lia),?_⟩))⟩)));refine (mP rfl (m8 rfl rfl ⟨#[Rg],⟨rfl,_,_,_,m,rfl,m0,m1,n0,n1,#[O],l2,hi⟩,?_⟩));show (left / 2).toNat < left.toNat;lia
    ·have ho:¬ left % 2=1:=by simpa using ho
     rw [if_neg ho] at hi;refine (mP rfl (mP rfl (m8 rfl rfl ⟨.inl #[On],(mP rfl (m8 rfl rfl ⟨(by show 0 < p; lia),?_⟩))⟩)));refine (mP rfl (m8 rfl rfl ⟨#[Rg],⟨rfl,_,_,_,m,rfl,b0,b1,n0,n1,#[O],l2,hi⟩,?_⟩));show (left / 2).toNat < left.toNat;lia
   ·have hl:¬ 0 < left:=by simpa using hl
    have el:left=0:=by lia
    subst el;rw [zhH] at hi;rw [<- hi] at q;exact (mP rfl q)
  ·rintro σ H1 Q1 Q2 hq ⟨v,e,i,j,e1,e2,k,e3,q⟩;exact⟨v,e,i,j,e1,e2,k,e3,hq _ _ q⟩
theorem zch:Ko ["p","polynomial","root","raised","kept"] ["p","polynomial","root"] (zi zbl):=#[S]
theorem zfW (T:Txt K mg t) (F:Fun K "times_root" "times_root" zbl t.Lg fd):Kx P w K mg base CX0 1 t.Lg fd ["p","polynomial","root"] (zfT K):=by
 refine F.ok zch #[o0] #[ld]
 ·obtain⟨p,r,a,cs,rfl,_⟩:=h;rfl
 ·obtain⟨p,r,a,cs,rfl,ha,nj,p0,r0,r1,q⟩:=h;refine zaJ ?_; intro zX;refine⟨_,#[ze,#[zq,3,zch.nd,#[A],#[zn,#[zcd],#[zP,#[Sd]],#[xz]]],#[ze,#[zq,4,zch.nd,#[A],#[zn,#[zcd],#[xz],#[zP,#[Sd]]]],#[zj,#[zH,#[zaP,(Kr.of (N':=["high","low","root","p"]) (ix:=[none,none,some 2,some 0]) (zi zbl) _ rfl rfl rfl),#[Rm],#[zeP,T.QC,#[Wy]],#[sK],#[BT],#[Xe]]]]]],?_⟩;refine zfO ?_; intro rh qi;have qJ:=a8;refine⟨by show 1<=sizeLine; lia,fun z hz=>(mP rfl (ex4 z a ([.int 0]) #[Tc] ⟨rfl,rfl,zb,by rw [zg (zl ha hz)]; exact ha,by rw [ae]; show 1+cs.length<=sizeLine; lia,fun ra sm=>?_⟩))⟩;have s1:zC H (mR (mR H z (.lst [.int 0])) ra (.lst ([.int 0]++cs.map V.int))):=(zd hz).trans (zd sm);refine (mP rfl ⟨by show 1<=sizeLine; lia,fun z2 yS=>(ex4 a z2 #[Tc] ([.int 0]) ⟨rfl,rfl,by rw [zg (zl (s1 _ _ ha) yS)]; exact s1 _ _ ha,zb,by rw [ae]; show cs.length+1<=sizeLine; lia,fun ke hke=>?_⟩)⟩);have s2:=s1.trans ((zd (o:=.lst [.int 0]) yS).trans (zd (o:=.lst (cs.map V.int++[.int 0])) hke));have Ad:mR (mR (mR (mR H z (.lst [.int 0])) ra (.lst ([.int 0]++cs.map V.int))) z2 (.lst [.int 0])) ke (.lst (cs.map V.int++[.int 0])) ra=some (.lst ((0 :: cs).map V.int)) :=
   ((zd (o:=.lst [.int 0]) yS).trans (zd (o:=.lst (cs.map V.int++[.int 0])) hke)) _ _ zb
  have Ae:mR (mR (mR (mR H z (.lst [.int 0])) ra (.lst ([.int 0]++cs.map V.int))) z2 (.lst [.int 0])) ke (.lst (cs.map V.int++[.int 0])) ke=some (.lst ((cs++[0]).map V.int)):=by rw [zb,aB]; rfl
  generalize mR (mR (mR (mR H z (.lst [.int 0])) ra (.lst ([.int 0]++cs.map V.int))) z2 (.lst [.int 0])) ke (.lst (cs.map V.int++[.int 0]))=H2 at s2 Ad Ae |-;refine (mP rfl (mP rfl (ex4 ra ke _ _ ⟨rfl,mS.of Ad,mS.of Ae,zao (n:=cs.length+1) (fun i ys H'=>ys=((zdo p r cs).take i).map V.int/\zC H2 H') ⟨#[M],fun _ _ e=>e⟩ ?_ ?_ ?_ ?_⟩)))
  ·rintro i ys H3 hi ⟨_,s3⟩;obtain⟨x,hx⟩:∃ x,(0 :: cs)[i]? = some x:=⟨(0 :: cs)[i]'(by simpa using hi),#[M]⟩;obtain⟨y,hy⟩:∃ y,(cs++[0])[i]? = some y:=⟨(cs++[0])[i]'(by simpa using hi),#[M]⟩;exact⟨_,_,.int x,.int y,mS.of (s3 _ _ Ad),mS.of (s3 _ _ Ae),by rw [ao,hx]; rfl,by rw [ao,hy]; rfl⟩
  ·rintro ys H3 ⟨_,s3⟩;exact⟨_,_,mS.of (s3 _ _ Ad),mS.of (s3 _ _ Ae),.inl #[M]⟩
  ·rintro zS zT zE i x ys H3 H4 hi ⟨rfl,s3⟩ ⟨T,u,v,hT,rfl,rfl,hu,hv⟩;obtain⟨x,rfl,hx⟩:=zaF (hu _ (mS.of (s3 _ _ Ad)));obtain⟨y,rfl,hy⟩:=zaF (hv _ (mS.of (s3 _ _ Ae)));refine gY2 (m7.of zb) ?_;refine (mP rfl (mP rfl (mP rfl (m8 rfl rfl ⟨.inl #[On],(m8 rfl rfl (mP rfl (m8 rfl rfl ⟨p0,zav ?_,?_,s3.trans (zd hT)⟩)))⟩))))
   ·rw [ae];exact bq (fE _ _) #[O]
   ·show _=(List.take (i+1) (aY #[Vz] (0 :: cs) (cs++[0]))).map V.int;rw [zhI hx hy,aB];rfl
  ·rintro ys H3 D ⟨rfl,s3⟩ hD;refine q D _ ((s2.trans s3).free hD) ((s2.trans s3).trans (zd hD)) ?_;rw [zb,aW (by rw [zgi]; exact ah _)]
theorem zm9 {p f:Int}:∀ (cs vs:List Int),vs.length<=cs.length->ad p f cs vs=aY (fun number other=>(number+f*other) % p) cs vs++cs.drop vs.length
 | [],[],_=>rfl
 | _ :: _,[],_=>rfl
 | [],_ :: _,h=>by simp at h
 | c :: cs,v :: vs,h=>by
  show (c+f*v) % p :: ad p f cs vs=(c+f*v) % p :: (aY _ cs vs++cs.drop vs.length);rw [zm9 cs vs (by simpa using h)]
theorem zil {xs:List V} (h:k<=xs.length):zcy xs (some (k:Int)) none=xs.drop k:=by
 have e1:HT.sIx xs.length 0 (some (k:Int))=k:=by
  unfold HT.sIx;simp;split <;> lia
 have e2:HT.sIx xs.length xs.length none=xs.length:=rfl;unfold zcy;rw [e1,e2];exact aW (by rw [bP]; exact ah _)
noncomputable def zoe (K:af):Sp:=fun vs H Q _=>∃ (p x y:Int) (c v b:Addr) (cs ws:List Int),vs = [.int p,.ref c,.ref v,.ref b]/\H c=some (.lst #[Tc])/\H v=some (.lst (ws.map V.int))/\H b=some (.tup [.int x,.int y])/\p∈zJ/\0<=x/\x < p/\0<=y/\y < 10000/\0 < zw p x ws/\zw p x ws < p/\ws.length<=cs.length/\cs.length<=1000 /\
 ∀ (l:Addr) (H':Hp),H l=none->zC H H'->H' l=some (.lst ((ad p (#[V6]*inv p (zw p x ws) % p) cs ws).map V.int))->Q #[SX] H'
theorem zdl:Ko ["p","polynomial","vanishing","point","x","y","missing","factor","added"] ["p","polynomial","vanishing","point"] (zi zfy):=#[S]
theorem zof (T:Txt K mg t) (F:Fun K "bent" "bent" zfy t.QQ fd):Kx P w K mg base CX0 2 t.QQ fd ["p","polynomial","vanishing","point"] (zoe K):=by
 obtain⟨pD,nE,nJ⟩:=T.KO;have nT:=zc4 (P:=P) (w:=w) (base:=base) T nE;obtain⟨wy,uD,rm⟩:=T.MN;have xW:=zi8 (P:=P) (w:=w) (base:=base) T uD;refine F.ok zdl #[o0] #[ld]
 ·obtain⟨p,x,y,c,v,b,cs,ws,rfl,_⟩:=h;rfl
 ·obtain⟨p,x,y,c,v,b,cs,ws,rfl,hc,hv,hb,mp,x0,x1,y0,y1,g0,g1,hle,nj,q⟩:=h;refine zaJ ?_; intro zX;refine⟨_,#[ze,#[zbh,#[RI],#[zbo,#[zt,#[zm,4,zdl.nd,#[A]],#[zt,#[zm,5,zdl.nd,#[A]],#[zaf]]]]],#[ze,#[zq,6,zdl.nd,#[A],#[zn,#[zbj],#[Uf],#[zF,nT,#[ss],T.Lh,nE.kp,nJ,#[zY],#[za,#[wE],#[za,#[xz],#[Ru]]]]]],#[ze,#[zq,7,zdl.nd,#[Wf],#[zn,#[zO],#[zn,#[zan],#[pvx,6],#[zF,xW,#[ss],T.Pl,uD.kp,rm,#[zY],#[za,#[wE],#[ya,#[zF,nT,#[ss],T.Lh,nE.kp,nJ,#[zY],#[za,#[wE],#[za,#[IN],#[Ru]]]]]]]],#[wE]]],#[ze,#[zbt,8,zdl.nd,#[A],(Kr.of (N':=["number","other","factor","p"]) (ix:=[none,none,some 7,some 0]) (zi zfy) _ rfl rfl rfl),#[Rm],#[zeP,T.QC,#[za,#[xz],#[Vx]]],#[sK],#[BT],#[Xf]],#[zj,#[zH,#[zn,#[zcd],#[VN],#[zbS,zcz,#[xz],#[zcx,#[zr,#[zy],T.LC,bI,#[ya,#[VN]]]],#[zcw]]]]]]]]],?_⟩;refine zqe ?_; intro BM vd rh qi;have qJ:=a8;have rp:=z6 mp;have p0:0 < p:=by lia
  have v0:=zb4 (x:=x) p0 cs;have v1:=zb5 (x:=x) p0 cs;refine⟨_,rfl,b,_,rfl,m7.of hb,rfl,_,_,rfl,_,_,rfl,rfl,?_⟩;refine (mP rfl (mP rfl (mP rfl (mP rfl (ex4 p x c cs ⟨rfl,.inl (mS.of hc),p0,#[O],x0,x1,#[Th]⟩)))));refine (mP rfl (mP rfl (mP rfl (mP rfl (mP rfl (ex4 p x v ws ⟨rfl,.inl (mS.of hv),p0,#[O],x0,x1,p,(mP rfl ⟨mp,#[O],#[O],#[TC]⟩)⟩))))));have f0:=aR (#[V6]*inv p (zw p x ws)) (show p≠0 by lia);have f1:=aL (#[V6]*inv p (zw p x ws)) p0;refine (mP rfl (mP rfl (ex4 c v _ _ ⟨rfl,mS.of hc,mS.of hv,zeh (n:=ws.length) (f:=fun number other=>(number+(#[V6]*inv p (zw p x ws) % p)*other) % p) hc hv hle (ah _) (.inr (ah _)) #[O] ?_ ?_⟩)))
  ·intro j u w H6 T R B hu hv s6 hT hR;refine gY2 (m7.of zb) ?_;exact #[Cl]
  ·intro D H6 s6 hD;obtain⟨f,hf⟩:∃ f,(y - zw p x cs)*inv p (zw p x ws) % p=f:=⟨_,rfl⟩;rw [hf] at q |-;have lz:(aY (fun number other=>(number+f*other) % p) cs ws).length=ws.length:=by rw [gV]; lia
   have s7:=s6.trans (zd (o:=.lst ((aY (fun number other=>(number+f*other) % p) cs ws).map V.int)) hD);have Jf:mR H6 D (.lst ((aY (fun number other=>(number+f*other) % p) cs ws).map V.int)) D=some (.lst ((aY (fun number other=>(number+f*other) % p) cs ws).map V.int)):=zb;generalize mR H6 D (.lst ((aY (fun number other=>(number+f*other) % p) cs ws).map V.int))=H7 at s7 Jf |-;have Hl:=s7 _ _ hc;refine (mP rfl (mP rfl (mP rfl ⟨D,(mP rfl ⟨.inl (mS.of Jf),?_⟩)⟩)));refine (mP rfl ⟨c,(mP rfl ⟨mS.of Hl,fun z hz=>?_⟩)⟩);have ec:zcy #[Tc] (some ((((aY (fun number other=>(number+f*other) % p) cs ws).map V.int).length:Nat):Int)) none=(cs.drop ws.length).map V.int:=by
    rw [ae,lz,zil (by rw [ae]; exact hle),iz]
   rw [ec];have s8:=zd (o:=.lst ((cs.drop ws.length).map V.int)) hz;refine (ex4 D z _ _ ⟨rfl,rfl,s8 _ _ Jf,zb,by rw [ae,ae,lz,bP]; lia,fun l hl=>q l _ (((s7.trans s8).free hl)) ((s7.trans s8).trans (zd hl)) ?_⟩);rw [zb,zm9 cs ws hle,aB]
theorem zbd:Ko ["p","points","polynomial","vanishing","x","y"] ["p","points"] (zi zdh):=#[S]
theorem zi9 (T:Txt K mg t) (F:Fun K "through" "through" zdh t.through fd):Kx P w K mg base CX0 3 t.through fd ["p","points"] (zii K):=by
 obtain⟨BO,Af,wz⟩:=T.Pu;have DN:=zof (P:=P) (w:=w) (base:=base) T Af;obtain⟨ug,qK,oT⟩:=T.Ld;have uT:=zfW (P:=P) (w:=w) (base:=base) T qK;refine F.ok zbd #[o0] #[ld]
 ·obtain⟨p,a,nc,rfl,_⟩:=h;rfl
 ·obtain⟨p,a,nc,rfl,hP,nj,mp,hp,hyr,q⟩:=h;refine zaJ ?_; intro zX;refine⟨_,#[ze,#[zq,2,zbd.nd,#[A],#[Vu]],#[ze,#[zq,3,zbd.nd,#[A],#[zP,#[Sd]]],#[ze,#[zbi,bN,#[zat,#[xz]],#[zbo,#[zt,#[zm,4,zbd.nd,#[A]],#[zt,#[zm,5,zbd.nd,#[A]],#[zaf]]]],#[ze,#[zq,2,zbd.nd,#[A],#[zF,DN,#[ss],T.QK,Af.kp,wz,#[zY],#[za,#[wE],by exact #[za,#[IN],#[za,#[RI],#[ya,#[zad,#[za,#[UZ],#[ya,#[Uf]]]]]]]]]],#[zj,#[zq,3,zbd.nd,#[A],#[zF,uT,#[ss],T.NL,qK.kp,oT,#[zY],#[za,#[wE],#[Wy]]]]]]],#[zj,#[zH,#[zaW,#[zbz],T.Ot,jU,#[Vx]]]]]]],?_⟩;refine zgH ?_; intro vd rh qi;have qJ:=a8;have rp:=z6 mp;have p0:0 < p:=by lia
  obtain⟨bs,hS,Ag,hb⟩:=id hP;refine⟨by show 1<=sizeLine; lia,fun z hz=>(mP rfl ⟨a,(mP rfl ⟨.inl ((zd hz).seq hS),z,_,[.int 0],rfl,rfl,zb,by rw [ae]; lia,by rw [ae]; lia,by rw [ae]; show 1*_<=sizeLine; lia,fun c hc=>?_⟩)⟩)⟩;have s0:=zd (o:=.lst [.int 0]) hz;have hcH:H c=none:=s0.free hc;refine⟨by show 1<=sizeLine; lia,fun v hv=>?_⟩;have hcv:c≠v:=zl zb hv;rw [ae,zfi,Ag,bd] at hv |-;have s2:zC H (mR (mR (mR H z (.lst [.int 0])) c (.lst (#[Ty].map V.int))) v (.lst [.int 1])):=(s0.trans (zd hc)).trans (zd hv);refine⟨_,rfl,a,rfl,⟨_,s2.seq hS⟩,zbe (K:=K) (a:=a) (xs:=bs.map V.ref) (fun i σ H'=>∃ (c v:Addr) (s:List Int×List Int) (e4 e5:Option V),σ = [some #[WF],some #[RC],some #[Tv],some (.ref v),e4,e5] /\
   s=#[Wt].foldl (zb6 p) (am nc.length 0,[1])/\Nw p nc.length (#[Wt].map (md p)) s/\zC H H'/\H' c=some (.lst (s.1.map V.int))/\H' v=some (.lst (s.2.map V.int)))
   ⟨c,v,_,none,none,rfl,rfl,by rw [fg]; exact zfg mp _,s2,by rw [zg hcv]; exact zb,zb⟩ (fun i σ H' _ hq=>by obtain⟨_,_,_,_,_,_,_,_,s3,_⟩:=hq; exact (s3.seq hS)) ?_ ?_⟩
  ·rintro zD zT i y σ H1 hy ⟨c,v,s,e4,e5,rfl,hs,nw,s1,ve,Jg⟩;obtain⟨b,rfl,CI⟩:=zaQ hy;obtain⟨hi,_⟩:=aj.mp CI;obtain⟨⟨x,y⟩,hq⟩:∃ q,nc[i]? = some q:=⟨nc[i]'#[O],#[M]⟩;have Jh:=s1 _ _ (hb i b _ CI hq);have uL:=zcC hq;have rQ:=hp;rw [uL,aB,bj] at rQ;have BP:=rQ.apart;obtain⟨x0,x1,m0,m1⟩:=hp.rg _ (be.mpr ⟨_,aV hq,rfl⟩);obtain⟨y0,y1⟩:=hyr _ (aV hq);dsimp only [md] at x0 x1 m0 m1 y0 y1;have Cz:i < nc.length:=by lia
   have xO:#[Wt].length=i:=by rw [aA]; lia
   have EJ:=zgM mp nw (q:=md p (x,y)) (by rw [ae,xO]; exact Cz) x0 x1 m0 m1 BP;rw [zih] at EJ;obtain⟨FT,DJ⟩:=zgL mp nw (q:=(x,y)) x0 x1 (fun a ha=>⟨(BP a ha).1,(BP a ha).2.1,(BP a ha).2.2.1⟩);dsimp only at FT DJ;have pA:zb6 p s (x,y)=(ad p ((y - zw p x s.1)*inv p (zw p x s.2) % p) s.1 s.2,zdo p x s.2):=rfl;rw [pA] at EJ;have l1:=nw.lc;have l2:=nw.lv;rw [ae,xO] at l2;refine#[Yn];refine (mP rfl (mP rfl (mP rfl (mP rfl (mP rfl ⟨by show 2<=sizeLine; lia,fun tt ht=>?_⟩)))));have t1:=zd (o:=.tup [.int x,.int y]) ht;refine (ex8 p x y c v tt s.1 s.2 ⟨rfl,t1 _ _ ve,t1 _ _ Jg,zb,mp,x0,x1,y0,y1,FT,DJ,#[O],#[O],fun l H3 hl s3 Ah=>?_⟩);have s4:=t1.trans s3;refine (mP rfl (mP rfl (mP rfl (ex4 p x v s.2 ⟨rfl,s4 _ _ Jg,#[O],p0,#[O],#[O],fun l2 H4 qX s5 h4l=>?_⟩))));refine (ex5 l l2 (zb6 p s (x,y)) _ _ ⟨rfl,?_,?_,(s1.trans s4).trans s5,?_,?_⟩)
   ·rw [take_snoc hq,iG,<- hs];rfl
   ·rw [take_snoc hq,pA,aB];exact EJ
   ·rw [pA];exact s5 _ _ Ah
   ·rw [pA];exact h4l
  ·rintro σ H1 ⟨c,v,s,e4,e5,rfl,hs,nw,s1,ve,Jg⟩;rw [ae,Ag,bx] at hs;refine #[Sn];rw [zb,hs,zpF];rfl
theorem zba:Ko ["code","row","p","k","places"] ["code","row"] (zi zaT):=#[S]
theorem zcT (T:Txt K mg t) (F:Fun K "heard_points" "heard_points" zaT t.KE fd):Kx P w K mg base CX0 1 t.KE fd ["code","row"] (zob K):=by
 refine F.ok zba #[o0] #[ld]
 ·obtain⟨c,tt,r,p,k,pl,rw,rfl,_⟩:=h;rfl
 ·obtain⟨c,tt,r,p,k,pl,rw,rfl,hc,sy,hn,q⟩:=h;refine zaJ ?_; intro zX;refine⟨_,#[ze,#[zbh,#[wE],#[zbo,#[zt,#[zm,2,zba.nd,#[A]],#[zt,#[zm,3,zba.nd,#[A]],#[zt,#[zm,4,zba.nd,#[A]],#[zaf]]]]]],#[zj,#[zH,#[zaP,(Kr.of (N':=["place","entry"]) (ix:=[none,none]) (zi zaT) _ rfl rfl rfl),#[Rm],(@zmB _ _ _ _ _ _ _ _ _ rfl T.QC #[za,#[UZ],#[SE]] (by rfl) (by rfl)),#[sK],(fun _ _ _ _=>#[zbk,#[zA,#[zct],#[xz],#[zaD],(zI _)]]),(fun _ _ _ _=>#[zad,#[za,#[wE],#[SE]]])]]]],?_⟩;refine zo6 ?_; intro qi;have qJ:=a8;have hl:=sy.len;refine⟨_,rfl,c,_,rfl,m7.of hc.1,rfl,_,_,rfl,_,_,rfl,_,_,rfl,rfl,?_⟩;refine (mP rfl (mP rfl (ex4 tt r _ _ ⟨rfl,m7.of hc.2,sy.at',zao (n:=pl.length) (fun i ys H'=>zC H H'/\∃ us:List Addr,ys=us.map V.ref/\PtB H' us (nG (pl.take i) (rw.take i))) ⟨fun _ _ e=>e,[],rfl,.nil⟩ ?_ ?_ ?_ ?_⟩)))
  ·rintro i ys H3 hi ⟨s3,_⟩;obtain⟨o,ho⟩:∃ o,rw[i]? = some o:=⟨rw[i]'#[O],#[M]⟩;exact⟨_,_,.int pl[i],ng o,m7.of (s3 _ _ hc.2),s3.seq sy.at',by rw [ao,aI hi]; rfl,by rw [ao,ho]; rfl⟩
  ·rintro ys H3 ⟨s3,_⟩;exact⟨_,_,m7.of (s3 _ _ hc.2),s3.seq sy.at',.inl (by rw [ae])⟩
  ·rintro zS zT zE i xx ys H3 H4 hi ⟨s3,us,rfl,nM⟩ ⟨T,u,v,hT,rfl,rfl,hu,hv⟩;obtain⟨x,rfl,hx⟩:=zaF (hu _ (m7.of (s3 _ _ hc.2)));obtain⟨o,rfl,ho⟩:=zgV (hv _ (s3.seq sy.at'));have v4:=zd (o:=.tup [.int x,ng o]) hT;have s4:=s3.trans v4;have hs:=zdT hx ho;have vf:=nM.length;have hb:=zdU (pl.take i) (rw.take i);rw [aA] at hb;refine⟨T,_,rfl,m7.of zb,rfl,_,_,rfl,_,_,rfl,rfl,?_⟩;refine #[ww];cases o with
   | none =>
    refine zaS ⟨s4,us,rfl,?_⟩;rw [hs,cb];exact nM.same v4
   | some z =>
    refine zaI (mP rfl (mP rfl ⟨by show 2<=sizeLine; lia,fun T2 Ai=>⟨by rw [ae]; lia,s4.trans (zd Ai),us++[T2],by rw [aB]; rfl,?_⟩⟩));rw [hs];exact dh (nM.same (v4.trans (zd Ai))) zb
  ·rintro ys H3 D ⟨s3,us,rfl,nM⟩ hD;rw [bx,aW #[O]] at nM;exact q D us _ (s3.free hD) (s3.trans (zd hD)) zb #[X6]
theorem zah:Ko ["p","points","found","wall","x","y","step","high","by"] ["p","points"] (zi zaU):=#[S]
theorem zg8 (T:Txt K mg t) (F:Fun K "_law_through" "_law_through" zaU t.LI fd):Kx P w K mg base CX0 2 t.LI fd ["p","points"] (zgP K):=by
 obtain⟨oU,nv,nF⟩:=T.KP;have nQ:=zcK (P:=P) (w:=w) (base:=base) T nv;refine F.ok zah #[o0] #[ld]
 ·obtain⟨p,a,nc,rfl,_⟩:=h;rfl
 ·obtain⟨p,a,nc,rfl,hP,nj,mp,hp,q⟩:=h;refine zaJ ?_; intro zX;refine⟨_,#[ze,#[zq,2,zah.nd,#[A],#[Vu]],#[ze,#[zq,3,zah.nd,#[A],#[zn,#[zcd],#[zP,#[Sd]],#[Vu]]],#[ze,#[zbi,bN,#[zat,#[xz]],#[zbo,#[zt,#[zm,4,zah.nd,#[Wf]],#[zt,#[zm,5,zah.nd,#[A]],#[zaf]]]],#[ze,#[zq,6,zah.nd,#[Wf],#[zn,#[zO],#[zn,#[zbj],#[Uf],#[zF,nQ,#[ss],T.K7,nv.kp,nF,#[zY],#[za,#[wE],#[za,#[IN],#[Ru]]]]],#[wE]]],#[ze,#[zq,7,zah.nd,#[Wf],#[zF,nQ,#[ss],T.K7,nv.kp,nF,#[zY],#[za,#[wE],#[Wy]]]],#[ze,#[zq,8,zah.nd,#[Wf],#[zB,#[zU],#[zaP,(Kr.of (N':=["number","high","p","step"]) (ix:=[none,some 7,some 0,some 6]) (zi zaU) _ rfl rfl rfl),#[zaO],#[zaK,T.K1,#[ya,#[wE]]],#[wn],(fun _ _ _ _=>#[zbk,#[zA,#[zbF],#[zn,#[zO],#[zn,#[zan],#[wE],#[xz]],#[IN]],#[RI],(zI _)]]),#[RJ]],#[zh]]],#[ze,#[zbt,2,zah.nd,#[A],(Kr.of (N':=["one","other","by","p"]) (ix:=[none,none,some 8,some 0]) (zi zaU) _ rfl rfl rfl),#[Rm],#[zeP,T.QC,#[za,#[IN],#[UB]]],#[sK],#[BT],#[Xf]],#[zj,#[zbt,3,zah.nd,#[A],(Kr.of (N':=["below","one","x","p"]) (ix:=[none,none,some 4,some 0]) (zi zaU) _ rfl rfl rfl),#[Rm],#[zeP,T.QC,#[za,#[zn,#[zcd],#[zP,#[Sd]],#[RI]],#[UB]]],#[sK],#[BT],#[Xe]]]]]]]],#[zj,#[zH,#[zaW,#[zbz],T.Ot,jU,#[Vx]]]]]]],?_⟩;refine zgH ?_; intro vd rh qi;have qJ:=a8;have rp:=z6 mp;have p0:0 < p:=by lia
  obtain⟨bs,hS,Ag,hb⟩:=id hP;refine⟨by show 1<=sizeLine; lia,fun z hz=>(mP rfl ⟨a,(mP rfl ⟨.inl ((zd hz).seq hS),z,_,[.int 0],rfl,rfl,zb,by rw [ae]; lia,by rw [ae]; lia,by rw [ae]; show 1*_<=sizeLine; lia,fun c hc=>?_⟩)⟩)⟩;have s0:=zd (o:=.lst [.int 0]) hz;rw [ae,zfi,Ag,bd];have s1:zC H (mR (mR H z (.lst [.int 0])) c (.lst (#[Ty].map V.int))):=s0.trans (zd hc);refine⟨by show 1<=sizeLine; lia,fun z1 sk=>⟨by show 1<=sizeLine; lia,fun z2 yS=>?_⟩⟩;have t1:=zd (o:=.lst [.int 1]) sk;have t2:=zd (o:=.lst [.int 0]) yS;refine (mP rfl ⟨a,(mP rfl ⟨.inl (((s1.trans t1).trans t2).seq hS),z2,_,[.int 0],rfl,rfl,zb,by rw [ae]; lia,by rw [ae]; lia,by rw [ae]; show 1*_<=sizeLine; lia,fun z3 hz3=>?_⟩)⟩);rw [ae,zfi,Ag,bd];have t3:=zd (o:=.lst (#[Ty].map V.int)) hz3;refine (ex4 z1 z3 ([.int 1]) (#[Ty].map V.int) ⟨rfl,rfl,(t2.trans t3) _ _ zb,zb,by rw [ae,dR]; show 1+_<=sizeLine; lia,fun wl E9=>?_⟩);have t4:=zd (o:=.lst ([.int 1]++#[Ty].map V.int)) E9;have sA:=s1.trans #[WA];have hcA:=#[WA] _ _ (zb (H:=mR H z (.lst [.int 0])) (a:=c) (o:=.lst (#[Ty].map V.int)));refine⟨_,rfl,a,rfl,⟨_,sA.seq hS⟩,zbe (K:=K) (a:=a) (xs:=bs.map V.ref) (fun i σ H'=>∃ (c wl:Addr) (s:List Int×List Int) (e4 e5 e6 e7 e8:Option V),σ = [some #[WF],some #[RC],some #[Tv],some (.ref wl),e4,e5,e6,e7,e8] /\
   s=#[Wt].foldl (zb6 p) (am nc.length 0,[1])/\Nw p nc.length #[Wt] s/\zC H H'/\H' c=some (.lst (s.1.map V.int))/\H' wl=some (.lst ((s.2++am #[Ue] 0).map V.int)))
   ⟨c,wl,_,none,none,none,none,none,rfl,rfl,by rw [fg]; exact zfg mp _,sA,hcA,by rw [zb]; rfl⟩ (fun i σ H' _ hq=>by obtain⟨_,_,_,_,_,_,_,_,_,_,_,s3,_⟩:=hq; exact (s3.seq hS)) ?_ ?_⟩
  ·rintro zD zT i y σ H1 hy ⟨c,wl,s,e4,e5,e6,e7,e8,rfl,hs,nw,s1,ve,Hm⟩;obtain⟨b,rfl,CI⟩:=zaQ hy;obtain⟨hi,_⟩:=aj.mp CI;obtain⟨⟨x,y⟩,hq⟩:∃ q,nc[i]? = some q:=⟨nc[i]'#[O],#[M]⟩;have Jh:=s1 _ _ (hb i b _ CI hq);have uL:=zcC hq;have rQ:=hp;rw [uL] at rQ;have BP:=rQ.apart;have FU:∀ a∈nc.take i,0<=a.1/\a.1 < p/\a.1≠x:=fun a ha=>⟨(BP a ha).1,(BP a ha).2.1,(BP a ha).2.2.1⟩
   obtain⟨x0,x1,y0,y1⟩:=hp.rg _ (aV hq);dsimp only at x0 x1 y0 y1;have Cz:i < nc.length:=by lia
   have xO:#[Wt].length=i:=by rw [aA]; lia
   have EJ:=zgM mp nw (q:=(x,y)) (by rw [xO]; exact Cz) x0 x1 y0 y1 BP;obtain⟨FT,DJ⟩:=zgL mp nw (q:=(x,y)) x0 x1 FU;have BQ:=zgk mp nw (q:=(x,y)) x0 x1 FU;dsimp only at FT DJ BQ;have l1:=nw.lc;have l2:=nw.lv;rw [xO] at l2;have f0:=aR ((y - zw p x s.1)*inv p (zw p x s.2)) (show p≠0 by lia);have f1:=aL ((y - zw p x s.1)*inv p (zw p x s.2)) p0;have pA:zb6 p s (x,y)=(ad p ((y - zw p x s.1)*inv p (zw p x s.2) % p) s.1 s.2,zdo p x s.2):=rfl;obtain⟨f,hf⟩:∃ f,(y - zw p x s.1)*inv p (zw p x s.2) % p=f:=⟨_,rfl⟩;rw [hf] at f0 f1 pA BQ;rw [pA] at EJ;refine#[Yn];refine (mP rfl (mP rfl (mP rfl (mP rfl (ex4 p x c s.1 ⟨rfl,.inl (mS.of ve),p0,#[O],x0,x1,(m8 rfl rfl #[wS])⟩)))));refine (mP rfl (mP rfl (mP rfl (ex4 p x wl _ ⟨rfl,.inl (mS.of Hm),p0,#[O],x0,x1,?_⟩))));rw [zhD];refine (mP rfl ⟨p,rfl,#[O],#[O],zao (n:=p.toNat) (fun i ys H'=>zC H1 H'/\ys=if f < (i:Int) then [V.int f] else []) ⟨fun _ _ e=>e,by rw [if_neg #[O]]⟩ #[T8] #[SS] ?_ ?_⟩)
   ·rintro zS zT zE m xx ys H4 H5 hm ⟨s4,EK⟩ ⟨rfl,rfl⟩;refine (mP rfl (mP rfl (m8 rfl rfl ⟨.inl #[On],(mP rfl (m8 rfl rfl ⟨p0,#[ww]⟩))⟩)));refine za6 (fun ho=>?_) (fun ho=>?_)
    ·have ho:(0+(m:Int))*zw p x s.2 % p=(y - zw p x s.1) % p:=by simpa using ho
     have e:f=0+(m:Int):=zkG mp FT DJ BQ (Cg.Ox ho) f0 f1 #[O] #[O];rw [if_neg #[O]] at EK;subst EK;refine (mP rfl ⟨zav (by show 0<=10000; decide),s4,?_⟩);rw [if_pos #[O],e];rfl
    ·have ho:¬ (0+(m:Int))*zw p x s.2 % p=(y - zw p x s.1) % p:=by simpa using ho
     have e:f≠(m:Int):=fun e=>ho (by rw [fi,<- e]; exact BQ.mod_eq)
     refine⟨s4,?_⟩;rw [EK];by_cases hfm:f < (m:Int)
     ·rw [if_pos hfm,if_pos #[O]]
     ·rw [if_neg hfm,if_neg #[O]]
   ·rintro ys H4 D ⟨s4,EK⟩ hD;rw [if_pos #[O]] at EK;subst EK;refine (ex4 D _ _ _ ⟨rfl,rfl,mS.of zb,rfl,?_⟩);have s5:=s4.trans (zd (o:=.lst [.int f]) hD);generalize mR H4 D (.lst [.int f])=H5 at s5 |-;have Hn:=s5 _ _ ve;have h5w:=s5 _ _ Hm;refine (mP rfl (mP rfl (ex4 c wl _ _ ⟨rfl,mS.of Hn,mS.of h5w,zeh (n:=nc.length) (f:=fun one other=>(one+f*other) % p) Hn h5w #[O] (by rw [aF,dR]; lia) (.inl #[O]) #[O] ?_ ?_⟩)))
    ·intro j u v H6 T R B hu hv s6 hT hR;refine gY2 (m7.of zb) ?_;exact #[Cl]
    ·intro D2 H6 s6 Ho;rw [zgN p0 s.1 s.2 _ nw.rc #[O] #[O]];have s7:=(s5.trans s6).trans (zd (o:=.lst ((ad p f s.1 s.2).map V.int)) Ho);have Hl:mR H6 D2 (.lst ((ad p f s.1 s.2).map V.int)) D2=some (.lst ((ad p f s.1 s.2).map V.int)):=zb;generalize mR H6 D2 (.lst ((ad p f s.1 s.2).map V.int))=H7 at s7 Hl |-;have h7w:=s7 _ _ Hm;have lw:(s.2++am #[Ue] 0).length=nc.length+1:=by rw [aF,dR]; lia
     refine⟨by show 1<=sizeLine; lia,fun z hz=>(mP rfl (ex4 z wl ([.int 0]) _ ⟨rfl,rfl,zb,(zd hz) _ _ h7w,by rw [ae,lw]; show 1+_<=sizeLine; lia,fun zc hzc=>?_⟩))⟩;have u1:=zd (o:=.lst [.int 0]) hz;have u2:=zd (o:=.lst ([.int 0]++(s.2++am #[Ue] 0).map V.int)) hzc;have Ji:mR (mR H7 z (.lst [.int 0])) zc (.lst ([.int 0]++(s.2++am #[Ue] 0).map V.int)) zc=some (.lst ((0 :: (s.2++am #[Ue] 0)).map V.int)):=by rw [zb]; rfl
     have s8:=s7.trans #[U7];have Jj:=#[U7] _ _ h7w;have h8c:=#[U7] _ _ Hl;generalize mR (mR H7 z (.lst [.int 0])) zc (.lst ([.int 0]++(s.2++am #[Ue] 0).map V.int))=H8 at Ji s8 Jj h8c |-;refine (mP rfl (ex4 zc wl _ _ ⟨rfl,mS.of Ji,mS.of Jj,zeh (n:=nc.length+1) (f:=trF p x) Ji Jj (by rw [bf,lw]; lia) (by rw [lw]; exact ah _) (.inr (by rw [lw]; exact ah _)) #[O] ?_ ?_⟩))
     ·intro j u v H9 T R B hu hv s9 hT hR;refine gY2 (m7.of zb) ?_;exact #[Cl]
     ·intro D3 H9 s9 C5;have em:nc.length - i=nc.length - (i+1)+1:=by lia
      rw [em,zjC (nc.length - (i+1)) s.2 0];refine (ex8 D2 D3 (zb6 p s (x,y)) _ _ _ _ _ ⟨rfl,?_,?_,((s1.trans s8).trans s9).trans (zd C5),?_,?_⟩)
      ·rw [take_snoc hq,iG,<- hs];rfl
      ·rw [take_snoc hq,pA];exact EJ
      ·rw [pA];exact (s9.trans (zd C5)) _ _ h8c
      ·rw [pA];exact zb
  ·rintro σ H1 ⟨c,wl,s,e4,e5,e6,e7,e8,rfl,hs,nw,s1,ve,Hm⟩;rw [ae,Ag,bx] at hs;refine #[Sn];rw [zb,hs];rfl
section
variable (t:Adr)
noncomputable def zog (K:af):Sp:=fun vs H Q _=>∃ (p dx c tt:Addr) (sl pp k:Int) (pl:List Int),vs = [.ref p,.ref c,.int sl]/\H p=some (.ins t.Kn dx [])/\H dx=some (.own p)/\za5 H c tt pp k pl/\pl.length<=16 /\
 ∀ (S:List Addr) (H':Hp),Ls t.Kn H' S p c pp sl #[UP] [] []->(∀ b o,H b=some o->b≠p->H' b=some o)->(∀ b∈S,b=p\/H b=none)->Q .non H'
noncomputable def zfC (K:af):Sp:=fun vs H Q E=>∃ (S:List Addr) (p c:Addr) (pp sl n:Int) (es:Rw) (ds us:List Dt),vs = [.ref p,.int n]/\Ls t.Kn H S p c pp sl es ds us/\es.length<=16 /\
 (inB es n=false->E (.ref t.LB) none H)/\(inB es n=true->Q .non H)
noncomputable def Goes (t:Adr) (H:Hp) (S:List Addr) (p c:Addr) (pp sl:Int) (es:Rw) (ds us:List Dt) (Q:VK):Prop:=∀ (S':List Addr) (H':Hp),Ls t.Kn H' S' p c pp sl es ds us->zC (hid S H) (hid S' H')->(∀ b∈S',b∈S\/H b=none)->Q .non H'
noncomputable def zlk (K:af):Sp:=fun vs H Q _=>∃ (S:List Addr) (p c:Addr) (pp sl:Int) (n:Nat) (x b:Option Int) (es:Rw) (ds us:List Dt),vs = [.ref p,.int (n:Int),ng x]/\Ls t.Kn H S p c pp sl es ds us/\es.length<=16/\ds.length<=1000/\es[n]? = some b /\
 Goes t H S p c pp sl (es.set n x) (ds++[(n,b,x)]) [] Q
noncomputable def zqv (t:Adr):Wd->Addr
 | .place=>t.LB
 | .number=>t.Ll
 | .heard=>t.O7
 | .notHeard=>t.Lj
 | .nothing=>t.Kw
noncomputable def zeK (t:Adr) (H:Hp) (S:List Addr) (p c:Addr) (pp sl:Int) (es:Rw) (ds us:List Dt) (D:Dd) (Q:VK) (E:XK):Prop:=match stp pp es ds us D with
 | .inl w=>E (.ref (zqv t w)) none H
 | .inr (es',rd,rf)=>Goes t H S p c pp sl es' rd rf Q
noncomputable def zoh (K:af):Sp:=fun vs H Q E=>∃ (S:List Addr) (p c:Addr) (pp sl n x:Int) (es:Rw) (ds us:List Dt),vs = [.ref p,.int n,.int x]/\Ls t.Kn H S p c pp sl es ds us/\es.length<=16/\ds.length<=1000/\us.length<=1000/\zeK t H S p c pp sl es ds us (.Mp n x) Q E
noncomputable def zll (K:af):Sp:=fun vs H Q E=>∃ (S:List Addr) (p c:Addr) (pp sl n:Int) (es:Rw) (ds us:List Dt),vs = [.ref p,.int n]/\Ls t.Kn H S p c pp sl es ds us/\es.length<=16/\ds.length<=1000/\us.length<=1000/\zeK t H S p c pp sl es ds us (.forget n) Q E
noncomputable def zoi (K:af):Sp:=fun vs H Q E=>∃ (S:List Addr) (p c:Addr) (pp sl:Int) (es:Rw) (ds us:List Dt),vs = [.ref p]/\Ls t.Kn H S p c pp sl es ds us/\es.length<=16/\ds.length<=1000/\us.length<=1000/\(∀ d∈ds,d.1 < es.length)/\zeK t H S p c pp sl es ds us .back Q E
noncomputable def zna (K:af):Sp:=fun vs H Q E=>∃ (S:List Addr) (p c:Addr) (pp sl:Int) (es:Rw) (ds us:List Dt),vs = [.ref p]/\Ls t.Kn H S p c pp sl es ds us/\es.length<=16/\ds.length<=1000/\us.length<=1000/\(∀ d∈us,d.1 < es.length)/\zeK t H S p c pp sl es ds us .again Q E
noncomputable def zpH (K:af):Sp:=fun vs H Q _=>∃ (S:List Addr) (p c:Addr) (pp sl:Int) (es:Rw) (ds us:List Dt),vs = [.ref p]/\Ls t.Kn H S p c pp sl es ds us/\∀ l,H l=none->Q #[SX] (mR H l (.lst #[SK]))
end
section
variable {P:Program} {w:World} {K:af} {mg:Str->Option Value} {base:Heap} {t:Adr}
theorem zpI:Ko ["self"] ["self"] (zi s_row):=#[S]
theorem zpJ (T:Txt K mg t) (F:Fun K "row" "Listener.row" s_row t.row fd):Kx P w K mg base CX0 1 t.row fd ["self"] (zpH t K):=by
 refine F.ok zpI #[o0] #[ld]
 ·obtain⟨S,p,c,pp,sl,es,ds,us,rfl,_⟩:=h;rfl
 ·obtain⟨S,p,c,pp,sl,es,ds,us,rfl,L,q⟩:=h;obtain⟨dx,ea,da,ua,k,tt,dr,ur,rfl,h1,h2,h3,h4,h5,h6,h7,h8,h9,uC⟩:=L.ex;refine zaJ ?_; intro zX;refine⟨_,#[zj,#[zH,#[zaW,#[zdI],T.Pn,jk,#[ya,#[Op]]]]],?_⟩;exact (mP rfl (ex5 p t.Kn dx _ _ ⟨rfl,h4,T.cl,T.Ks,zaa,ea,(mP rfl ⟨.inl (mS.of h5),q⟩)⟩))
theorem zfD:Ko ["self","number"] ["self","number"] (zi zbD):=#[S]
theorem zbZ (T:Txt K mg t) (F:Fun K "check_place" "Listener.check_place" zbD t.K0 fd):Kx P w K mg base #[WH] 3 t.K0 fd ["self","number"] (zfC t K):=by
 obtain⟨qL,nY,nZ⟩:=T.KY;have pE:=zd5 (P:=P) (w:=w) (base:=base) T nY;refine F.okX zfD #[o0] #[ld]
 ·obtain⟨S,p,c,pp,sl,n,es,ds,us,rfl,_⟩:=h;rfl
 ·obtain⟨S,p,c,pp,sl,n,es,ds,us,rfl,L,wA,qE,qQ⟩:=h;obtain⟨dx,ea,da,ua,k,tt,dr,ur,rfl,h1,h2,h3,h4,h5,h6,h7,h8,h9,uC⟩:=L.ex;refine zaJ ?_; intro zX;refine⟨_,#[zj,#[zam,#[zdw,#[ziy,#[zF,pE,#[ss],T.MD,nY.kp,nZ,#[zY],#[za,#[zr,#[zy],T.LC,bI,#[ya,#[Op]]],#[SE]]]]],#[zj,#[zcl,#[Go],T.NG,T.KJ,#[zV]]],#[zQ]]],?_⟩;refine (mP rfl (ex5 p t.Kn dx _ _ ⟨rfl,h4,T.cl,T.Ks,zaa,ea,(mP rfl ⟨.inl (mS.of h5),(mP rfl ⟨_,.int n,rfl,.int n,#[KK]⟩)⟩)⟩));have e:zgS (#[SK].length:Int) (.int n)=inB es n:=by rw [ae]; rfl
  rw [e];cases hb:inB es n with
  | false =>
   refine zaI ?_;exact⟨rfl,qE hb⟩
  | true =>
   refine zaS ?_;exact qQ hb
theorem zlm:Ko ["self","number","entry"] ["self","number","entry"] (zi zd2):=#[S]
theorem zgw (T:Txt K mg t) (F:Fun K "change" "Listener.change" zd2 t.change fd):Kx P w K mg base CX0 1 t.change fd ["self","number","entry"] (zlk t K):=by
 refine F.ok zlm #[o0] #[ld]
 ·obtain⟨S,p,c,pp,sl,n,x,b,es,ds,us,rfl,_⟩:=h;rfl
 ·obtain⟨S,p,c,pp,sl,n,x,b,es,ds,us,rfl,L,wA,Aj,hb,q⟩:=h;obtain⟨dx,ea,da,ua,k,tt,dr,ur,rfl,h1,h2,h3,h4,h5,h6,h7,h8,h9,uC⟩:=L.ex;refine zaJ ?_; intro zX;refine⟨_,#[ze,#[zaN,#[zcQ,bw,cE,cF,#[zbq],#[Op],#[ya,#[zad,#[za,#[xz],#[za,#[Xu],#[Vx]]]]]]],#[ze,#[zef,#[wE],#[S9]],#[zj,#[zbh,#[IN],#[Vv]]]]],?_⟩;refine zfO ?_; intro rh qi;have qJ:=a8;have hnl:=(aj.mp hb).1;refine⟨_,rfl,p,t.Kn,dx,_,_,rfl,h4,T.cl,T.LH,zb8,.inl ⟨rfl,_,mS.of h6⟩,_,rfl,_,rfl,p,t.Kn,dx,_,_,rfl,h4,T.cl,T.Ks,zaa,_,rfl,ea,_,_,ng b,rfl,rfl,mS.of h5,zag (by rw [ao,hb]; rfl),_,rfl,by show 3<=sizeLine; lia,fun u hu=>?_⟩;have t1:=zd (o:=.tup [.int (n:Int),ng b,ng x]) hu;refine⟨da,_,_,rfl,rfl,t1 _ _ h6,by rw [ae,h8.1]; lia,?_⟩;have Bj:p≠da:=za3 h4 h6 (by intro z; cases z);have CJ:p≠ea:=za3 h4 h5 (by intro z; cases z);have npu:p≠u:=zl h4 hu;refine⟨by show 0<=sizeLine; lia,fun z hz=>?_⟩;have Jk:z≠da:=fun e=>by rw [e,zb] at hz; cases hz
  rw [zg Jk] at hz;have zu:z≠u:=fun e=>by rw [e,zb] at hz; cases hz
  rw [zg zu] at hz;have npz:p≠z:=zl h4 hz;have Jl:ea≠z:=zl h5 hz;have Jm:ea≠u:=zl h5 hu;refine⟨_,rfl,p,t.Kn,dx,_,rfl,by rw [zg npz,zg Bj,zg npu]; exact h4,T.cl,T.K6,by show 5 < 1000; decide,?_⟩;rw [zlf];refine⟨_,rfl,_,rfl,p,t.Kn,dx,_,_,rfl,zb,T.cl,T.Ks,zaa,_,rfl,ea,_,_,n,rfl,rfl,by rw [zg CJ.symm,zg Jl,zg h1,zg Jm]; exact h5,zdJ (by rw [ae]; exact hnl),?_⟩;have kp:∀ a o,H a=some o->a≠p->a≠ea->a≠da->mR (mR (mR (mR (mR H u (.tup [.int (n:Int),ng b,ng x])) da (.lst (dr.map V.ref++[.ref u]))) z (.lst [])) p (.ins t.Kn dx (fl c sl ea da z))) ea (.lst (#[SK].set n (ng x))) a=some o:=fun a o e n1 n2 n3=>by
   rw [zg n2,zg n1,zg (zl e hz),zg n3,zg (zl e hu)];exact e
  have tp:∀ a xs,H a=some #[Sc]->a≠p/\a≠ea/\a≠da:=fun a xs e=>⟨za3 e h4 (by intro z; cases z),za3 e h5 (by intro z; cases z),za3 e h6 (by intro z; cases z)⟩
  refine q [p,ea,da,z] _ ⟨dx,ea,da,z,k,tt,dr++[u],[],rfl,h1,Jl,Jk.symm,by rw [zg CJ]; exact zb,by rw [zb,gQ],by rw [zg h1.symm,zg Bj.symm,zg Jk.symm,zb,aB]; rfl,by rw [zg Jl.symm,zg npz.symm,zb]; rfl,(h8.same fun a xs e=>kp a _ e #[UE].1 #[UE].2.1 #[UE].2.2).snoc ?_,.nil,kp c _ uC (tp c _ uC).1 (tp c _ uC).2.1 (tp c _ uC).2.2⟩ (fun a o e=>?_) (fun a ha=>?_)
  ·have nue:u≠ea:=Jm.symm;rw [zg Jm.symm,zg npu.symm,zg zu.symm,zg (zl h6 hu).symm,zb];rfl
  ·obtain⟨e,hn⟩:=zcG e;simp at hn;refine zbv (kp a o e hn.1 hn.2.1 hn.2.2.1) ?_;simp;exact⟨hn.1,hn.2.1,hn.2.2.1,zl e hz⟩
  ·simp at ha |-;rcases ha with rfl | rfl | rfl | rfl
   ·exact .inl (.inl rfl)
   ·exact .inl (.inr #[Os])
   ·exact .inl #[TX]
   ·exact .inr hz
theorem zbE {c:Addr} (h:m = "check_place"\/m = "change"\/m = "hear"\/m = "forget"\/m = "back"\/m = "again"\/m = "row"):#[Pi].lookup m=none:=by
 rcases h with rfl | rfl | rfl | rfl | rfl | rfl | rfl <;> exact zm6 #[N] #[N] #[N] #[N] #[N]
theorem zg9 {es:Rw} {n:Int} (h:inB es n=true):∃ (m:Nat) (b:Option Int),n=(m:Int)/\n.toNat=m/\es[m]? = some b:=by
 unfold inB at h;simp only [cg,decide_eq_true_eq] at h;have hk:n.toNat < es.length:=by lia
 exact⟨n.toNat,es[n.toNat],#[O],rfl,#[M]⟩
theorem zoj:Ko ["self","number","entry"] ["self","number","entry"] (zi zg5):=#[S]
theorem zok (T:Txt K mg t) (F:Fun K "hear" "Listener.hear" zg5 t.Mp fd):Kx P w K mg base #[WH] 4 t.Mp fd ["self","number","entry"] (zoh t K):=by
 obtain⟨oo,nN,nB⟩:=T.Kv;have nO:=zbZ (P:=P) (w:=w) (base:=base) T nN;obtain⟨qL,nY,nZ⟩:=T.KY;have pE:=zd5 (P:=P) (w:=w) (base:=base) T nY;obtain⟨uE,sI,pF⟩:=T.Mq;have sJ:=zgw (P:=P) (w:=w) (base:=base) T sI;refine F.okX zoj #[o0] #[ld]
 ·obtain⟨S,p,c,pp,sl,n,x,es,ds,us,rfl,_⟩:=h;rfl
 ·obtain⟨S,p,c,pp,sl,n,x,es,ds,us,rfl,L,wA,Aj,nM,q⟩:=h;obtain⟨dx,ea,da,ua,k,tt,dr,ur,eS,h1,h2,h3,h4,h5,h6,h7,h8,h9,uC⟩:=L.ex;refine zaJ ?_; intro zX;refine⟨_,#[ze,#[Yl],#[ze,#[zam,#[zdw,#[ziy,#[zF,pE,#[ss],T.MD,nY.kp,nZ,#[zY],#[za,#[zB,#[zW],#[Op],#[zh]],#[Vx]]]]],#[zj,#[zcl,#[Go],T.M6,T.KA,#[zV]]],#[zQ]],#[ze,#[zam,#[zA,#[zct],#[Xu],#[zaD],(zI _)],#[zj,#[zcl,#[Go],T.Pa,T.LD,#[zV]]],#[zQ]],#[zj,#[zaN,#[zc8,#[wE],T.cl,T.NJ,sJ,#[ss],pF,#[zY],#[za,#[xz],#[Vx]]]]]]]],?_⟩;refine zgH ?_; intro vd rh qi;unfold zeK stp at q;dsimp only at q;refine #[R5]
  ·rw [if_pos hb] at q;exact q
  ·rw [if_neg (by simp [hb])] at q;refine (mP rfl (ex5 p t.Kn dx _ _ ⟨rfl,h4,T.cl,T.LV,zbW,c,_,_,_,rfl,rfl,m7.of uC,rfl,(mP rfl ⟨_,.int x,rfl,.int x,#[KK]⟩)⟩));have e:zgS pp #[XW]=zfV pp x:=rfl;rw [e];cases hn:zfV pp x with
   | false =>
    rw [if_pos hn] at q;refine zaI ?_;exact⟨rfl,q⟩
   | true =>
    rw [if_neg (by simp [hn])] at q;refine zaS ?_;obtain⟨m,b,rfl,hm,hb⟩:=zg9 hb;rw [hm,hb] at q;refine (mP rfl (ex5 p t.Kn dx _ _ ⟨rfl,h4,T.cl,T.Ks,zaa,(mP rfl (ex4 ea _ _ (ng b) ⟨rfl,rfl,mS.of h5,zag (by rw [ao,hb]; rfl),?_⟩))⟩));refine#[W9];cases b with
    | some v =>
     refine zaI ?_;exact⟨rfl,q⟩
    | none =>
     refine zaS ?_;exact (mP rfl (ex3 p dx _ ⟨rfl,h4,zbE (.inr #[Os]),(mP rfl (mP rfl (zqh S p c pp sl m (some x) none es ds us ⟨rfl,L,wA,Aj,hb,q⟩)))⟩))
theorem zln:Ko ["self","number"] ["self","number"] (zi zd3):=#[S]
theorem zlo (T:Txt K mg t) (F:Fun K "forget" "Listener.forget" zd3 t.forget fd):Kx P w K mg base #[WH] 4 t.forget fd ["self","number"] (zll t K):=by
 obtain⟨oo,nN,nB⟩:=T.Kv;have nO:=zbZ (P:=P) (w:=w) (base:=base) T nN;obtain⟨uE,sI,pF⟩:=T.Mq;have sJ:=zgw (P:=P) (w:=w) (base:=base) T sI;refine F.okX zln #[o0] #[ld]
 ·obtain⟨S,p,c,pp,sl,n,es,ds,us,rfl,_⟩:=h;rfl
 ·obtain⟨S,p,c,pp,sl,n,es,ds,us,rfl,L,wA,Aj,nM,q⟩:=h;obtain⟨dx,ea,da,ua,k,tt,dr,ur,eS,h1,h2,h3,h4,h5,h6,h7,h8,h9,uC⟩:=L.ex;refine zaJ ?_; intro zX;refine⟨_,#[ze,#[Yl],#[ze,#[zam,#[zA,#[ziE],#[Xu],#[zaD],(zI _)],#[zj,#[zcl,#[Go],T.M5,T.Kz,#[zV]]],#[zQ]],#[zj,#[zaN,#[zc8,#[wE],T.cl,T.NJ,sJ,#[ss],pF,#[zY],#[za,#[xz],#[ya,#[zaD]]]]]]]],?_⟩;refine zfO ?_; intro rh qi;unfold zeK stp at q;dsimp only at q;refine #[R5]
  ·rw [if_pos hb] at q;exact q
  ·rw [if_neg (by simp [hb])] at q;obtain⟨m,b,rfl,hm,hb⟩:=zg9 hb;rw [hm,hb] at q;refine (mP rfl (ex5 p t.Kn dx _ _ ⟨rfl,h4,T.cl,T.Ks,zaa,(mP rfl (ex4 ea _ _ (ng b) ⟨rfl,rfl,mS.of h5,zag (by rw [ao,hb]; rfl),?_⟩))⟩));refine#[W9];cases b with
   | none =>
    refine zaI ?_;exact⟨rfl,q⟩
   | some v =>
    refine zaS ?_;exact (mP rfl (ex3 p dx _ ⟨rfl,h4,zbE (.inr #[Os]),(mP rfl (zqh S p c pp sl m none #[Vp] es ds us ⟨rfl,L,wA,Aj,hb,q⟩))⟩))
theorem ze1:Ko ["self","number","before","behind"] ["self"] (zi zg6):=#[S]
theorem zol (T:Txt K mg t) (F:Fun K "back" "Listener.back" zg6 t.back fd):Kx P w K mg base #[WH] 1 t.back fd ["self"] (zoi t K):=by
 refine F.okX ze1 #[o0] #[ld]
 ·obtain⟨S,p,c,pp,sl,es,ds,us,rfl,_⟩:=h;rfl
 ·obtain⟨S,p,c,pp,sl,es,ds,us,rfl,L,wA,Aj,nM,pU,q⟩:=h;obtain⟨dx,ea,da,ua,k,tt,dr,ur,rfl,h1,h2,h3,h4,h5,h6,h7,h8,h9,uC⟩:=L.ex;refine zaJ ?_; intro zX;refine⟨_,#[ze,#[Vw],#[ze,#[zbh,#[zmc,bw,gB,gC,#[zmd],#[Op]],#[zbo,#[zt,#[zm,1,ze1.nd,#[A]],#[zt,#[zm,2,ze1.nd,#[A]],#[zt,#[zm,3,ze1.nd,#[A]],#[zaf]]]]]],#[ze,#[zbh,#[IN],#[Vv]],#[V3]]]],?_⟩;refine zgH ?_; intro vd rh qi;have qJ:=a8;unfold zeK stp at q;dsimp only at q;refine (mP rfl (ex5 p t.Kn dx _ _ ⟨rfl,h4,T.cl,T.LH,zb8,_,.inl ⟨_,mS.of h6,rfl⟩,?_⟩));rcases dt ds with hd | ⟨rd,d,hd⟩
  ·subst hd;have:dr = []:=cH.mp h8.1;subst this;refine zaI ?_;exact⟨rfl,q⟩
  ·rw [cR] at hd;subst hd;obtain⟨rs,r,rfl,BR,hr⟩:=h8.Qh;rw [fw] at q;simp at q;have Bi:d.1 < es.length:=pU d #[M];have em:((rs++[r]).map V.ref).isEmpty=false:=by simp
   rw [em];refine zaS ?_;have Bj:p≠da:=za3 h4 h6 (by intro z; cases z);have CJ:p≠ea:=za3 h4 h5 (by intro z; cases z);have Jo:p≠ua:=za3 h4 h7 (by intro z; cases z);have GU:r≠da:=za3 hr h6 (by intro z; cases z);refine (mP rfl (ex5 p t.Kn dx _ _ ⟨rfl,h4,T.cl,T.LH,zb8,.inl ⟨rfl,_,mS.of h6⟩,da,_,.ref r,rfl,rfl,h6,#[M],?_⟩));have ed:((rs++[r]).map V.ref).dropLast=rs.map V.ref:=by simp
   rw [ed];refine⟨r,_,rfl,m7.of (by rw [zg GU]; exact hr),rfl,_,_,rfl,_,_,rfl,_,_,rfl,rfl,?_⟩;refine (mP rfl (mP rfl (ex5 p t.Kn dx _ _ ⟨rfl,by rw [zg Bj]; exact h4,T.cl,T.Ks,zaa,(mP rfl (ex4 ea _ _ d.1 ⟨rfl,rfl,by rw [zg h1]; exact h5,zdJ (by rw [ae]; exact Bi),?_⟩))⟩)));refine (mP rfl (ex5 p t.Kn dx _ _ ⟨rfl,by rw [zg CJ,zg Bj]; exact h4,T.cl,T.K6,zcH,.inl ⟨rfl,_,mS.of (by rw [zg h2.symm,zg h3.symm]; exact h7)⟩,(mP rfl (mP rfl (mP rfl ⟨by show 3<=sizeLine; lia,fun u hu=>?_⟩)))⟩));have ue:u≠ea:=fun e=>by rw [e,zb] at hu; cases hu
   rw [zg ue] at hu;have ud:u≠da:=fun e=>by rw [e,zb] at hu; cases hu
   rw [zg ud] at hu;have uu:u≠ua:=(zl h7 hu).symm;have up:u≠p:=(zl h4 hu).symm;refine (ex3 ua _ _ ⟨rfl,rfl,by rw [zg uu.symm,zg h2.symm,zg h3.symm]; exact h7,by rw [ae,h9.1]; lia,?_⟩);have kp:∀ a o,H a=some o->a≠ea->a≠da->a≠ua->mR (mR (mR #[Ve] ea (.lst (#[SK].set d.1 (ng d.2.1)))) u (.tup [.int (d.1:Int),ng d.2.1,ng d.2.2])) ua (.lst (ur.map V.ref++[.ref u])) a=some o:=fun a o e n1 n2 n3=>by
    rw [zg n3,zg (zl e hu),zg n1,zg n2];exact e
   have tp:∀ a xs,H a=some #[Sc]->a≠ea/\a≠da/\a≠ua:=fun a xs e=>⟨za3 e h5 (by intro z; cases z),za3 e h6 (by intro z; cases z),za3 e h7 (by intro z; cases z)⟩
   have kt:∀ a xs,H a=some #[Sc]->mR (mR (mR #[Ve] ea (.lst (#[SK].set d.1 (ng d.2.1)))) u (.tup [.int (d.1:Int),ng d.2.1,ng d.2.2])) ua (.lst (ur.map V.ref++[.ref u])) a=some #[Sc]:=fun a xs e=>kp a _ e #[UE].1 #[UE].2.1 #[UE].2.2
   have Jp:mR (mR (mR #[Ve] ea (.lst (#[SK].set d.1 (ng d.2.1)))) u (.tup [.int (d.1:Int),ng d.2.1,ng d.2.2])) ua (.lst (ur.map V.ref++[.ref u])) u=some #[VE]:=by
    rw [zg uu,zb];rfl
   have Jq:mR (mR (mR #[Ve] ea (.lst (#[SK].set d.1 (ng d.2.1)))) u (.tup [.int (d.1:Int),ng d.2.1,ng d.2.2])) ua (.lst (ur.map V.ref++[.ref u])) da=some #[re]:=by
    rw [zg h3,zg ud.symm,zg h1.symm,zb]
   have Jr:mR (mR (mR #[Ve] ea (.lst (#[SK].set d.1 (ng d.2.1)))) u (.tup [.int (d.1:Int),ng d.2.1,ng d.2.2])) ua (.lst (ur.map V.ref++[.ref u])) ua=some (.lst ((ur++[u]).map V.ref)):=by
    rw [zb,aB];rfl
   refine q [p,ea,da,ua] _ ⟨dx,ea,da,ua,k,tt,rs,ur++[u],rfl,h1,h2,h3,kp p _ h4 CJ Bj Jo,by rw [zg h2,zg ue.symm,zb,gQ],Jq,Jr,BR.same kt,(h9.same kt).snoc Jp,kt c _ uC⟩ (fun a o e=>?_) (fun a ha=>.inl ha);obtain⟨e,hn⟩:=zcG e;simp at hn;exact zbv (kp a o e hn.2.1 hn.2.2.1 hn.2.2.2) (by simp; exact hn)
theorem zd6:Ko ["self","number","before","behind"] ["self"] (zi s_again):=#[S]
theorem znb (T:Txt K mg t) (F:Fun K "again" "Listener.again" s_again t.again fd):Kx P w K mg base #[WH] 1 t.again fd ["self"] (zna t K):=by
 refine F.okX zd6 #[o0] #[ld]
 ·obtain⟨S,p,c,pp,sl,es,ds,us,rfl,_⟩:=h;rfl
 ·obtain⟨S,p,c,pp,sl,es,ds,us,rfl,L,wA,Aj,nM,pU,q⟩:=h;obtain⟨dx,ea,da,ua,k,tt,dr,ur,rfl,h1,h2,h3,h4,h5,h6,h7,h8,h9,uC⟩:=L.ex;refine zaJ ?_; intro zX;refine⟨_,#[ze,#[Vw],#[ze,#[zbh,#[zmc,bw,gB,gC,#[zmd],#[Op]],#[zbo,#[zt,#[zm,1,zd6.nd,#[A]],#[zt,#[zm,2,zd6.nd,#[A]],#[zt,#[zm,3,zd6.nd,#[A]],#[zaf]]]]]],#[ze,#[zbh,#[RI],#[Vv]],#[V3]]]],?_⟩;refine zgH ?_; intro vd rh qi;have qJ:=a8;unfold zeK stp at q;dsimp only at q;refine (mP rfl (ex5 p t.Kn dx _ _ ⟨rfl,h4,T.cl,T.K6,zcH,_,.inl ⟨_,mS.of h7,rfl⟩,?_⟩));rcases dt us with hd | ⟨rf,d,hd⟩
  ·subst hd;have:ur = []:=cH.mp h9.1;subst this;refine zaI ?_;exact⟨rfl,q⟩
  ·rw [cR] at hd;subst hd;obtain⟨rs,r,rfl,BR,hr⟩:=h9.Qh;rw [fw] at q;simp at q;have Bi:d.1 < es.length:=pU d #[M];have em:((rs++[r]).map V.ref).isEmpty=false:=by simp
   rw [em];refine zaS ?_;have Bj:p≠ua:=za3 h4 h7 (by intro z; cases z);have CJ:p≠ea:=za3 h4 h5 (by intro z; cases z);have Jo:p≠da:=za3 h4 h6 (by intro z; cases z);have GU:r≠ua:=za3 hr h7 (by intro z; cases z);refine (mP rfl (ex5 p t.Kn dx _ _ ⟨rfl,h4,T.cl,T.K6,zcH,.inl ⟨rfl,_,mS.of h7⟩,ua,_,.ref r,rfl,rfl,h7,#[M],?_⟩));have ed:((rs++[r]).map V.ref).dropLast=rs.map V.ref:=by simp
   rw [ed];refine⟨r,_,rfl,m7.of (by rw [zg GU]; exact hr),rfl,_,_,rfl,_,_,rfl,_,_,rfl,rfl,?_⟩;refine (mP rfl (mP rfl (ex5 p t.Kn dx _ _ ⟨rfl,by rw [zg Bj]; exact h4,T.cl,T.Ks,zaa,(mP rfl (ex4 ea _ _ d.1 ⟨rfl,rfl,by rw [zg h2]; exact h5,zdJ (by rw [ae]; exact Bi),?_⟩))⟩)));refine (mP rfl (ex5 p t.Kn dx _ _ ⟨rfl,by rw [zg CJ,zg Bj]; exact h4,T.cl,T.LH,zb8,.inl ⟨rfl,_,mS.of (by rw [zg h1.symm,zg h3]; exact h6)⟩,(mP rfl (mP rfl (mP rfl ⟨by show 3<=sizeLine; lia,fun u hu=>?_⟩)))⟩));have ue:u≠ea:=fun e=>by rw [e,zb] at hu; cases hu
   rw [zg ue] at hu;have ud:u≠ua:=fun e=>by rw [e,zb] at hu; cases hu
   rw [zg ud] at hu;have uu:u≠da:=(zl h6 hu).symm;have up:u≠p:=(zl h4 hu).symm;refine (ex3 da _ _ ⟨rfl,rfl,by rw [zg uu.symm,zg h1.symm,zg h3]; exact h6,by rw [ae,h8.1]; lia,?_⟩);have kp:∀ a o,H a=some o->a≠ea->a≠ua->a≠da->mR (mR (mR #[Vd] ea (.lst (#[SK].set d.1 (ng d.2.2)))) u (.tup [.int (d.1:Int),ng d.2.1,ng d.2.2])) da (.lst (dr.map V.ref++[.ref u])) a=some o:=fun a o e n1 n2 n3=>by
    rw [zg n3,zg (zl e hu),zg n1,zg n2];exact e
   have tp:∀ a xs,H a=some #[Sc]->a≠ea/\a≠ua/\a≠da:=fun a xs e=>⟨za3 e h5 (by intro z; cases z),za3 e h7 (by intro z; cases z),za3 e h6 (by intro z; cases z)⟩
   have kt:∀ a xs,H a=some #[Sc]->mR (mR (mR #[Vd] ea (.lst (#[SK].set d.1 (ng d.2.2)))) u (.tup [.int (d.1:Int),ng d.2.1,ng d.2.2])) da (.lst (dr.map V.ref++[.ref u])) a=some #[Sc]:=fun a xs e=>kp a _ e #[UE].1 #[UE].2.1 #[UE].2.2
   have Jp:mR (mR (mR #[Vd] ea (.lst (#[SK].set d.1 (ng d.2.2)))) u (.tup [.int (d.1:Int),ng d.2.1,ng d.2.2])) da (.lst (dr.map V.ref++[.ref u])) u=some #[VE]:=by
    rw [zg uu,zb];rfl
   have Jq:mR (mR (mR #[Vd] ea (.lst (#[SK].set d.1 (ng d.2.2)))) u (.tup [.int (d.1:Int),ng d.2.1,ng d.2.2])) da (.lst (dr.map V.ref++[.ref u])) ua=some #[re]:=by
    rw [zg h3.symm,zg ud.symm,zg h2.symm,zb]
   have Jr:mR (mR (mR #[Vd] ea (.lst (#[SK].set d.1 (ng d.2.2)))) u (.tup [.int (d.1:Int),ng d.2.1,ng d.2.2])) da (.lst (dr.map V.ref++[.ref u])) da=some (.lst ((dr++[u]).map V.ref)):=by
    rw [zb,aB];rfl
   refine q [p,ea,da,ua] _ ⟨dx,ea,da,ua,k,tt,dr++[u],rs,rfl,h1,h2,h3,kp p _ h4 CJ Bj Jo,by rw [zg h1,zg ue.symm,zb,gQ],Jr,Jq,(h8.same kt).snoc Jp,BR.same kt,kt c _ uC⟩ (fun a o e=>?_) (fun a ha=>.inl ha);obtain⟨e,hn⟩:=zcG e;simp at hn;exact zbv (kp a o e hn.2.1 hn.2.2.2 hn.2.2.1) (by simp; exact hn)
theorem zd7 (f:Str) (v:V):∀ fs:List (Str×V),#[WK].length<=fs.length+1
 | []=>ah _
 | (g,x) :: r=>by
  unfold zaz;split
  ·simp
  ·have:=zd7 f v r;simp;lia
theorem zka (n:Nat):(am n [V.non]).flatten=(am n (none:Option Int)).map ng:=by
 induction n with
 | zero=>rfl
 | succ n ih=>rw [bt,dY,ih,bt]; rfl
theorem zom:Ko ["self","code","slips"] ["self","code","slips"] (zi zg4):=#[S]
theorem zon (T:Txt K mg t) (F:Fun K "__init__" "Listener.__init__" zg4 t.init fd):Kx P w K mg base CX0 1 t.init fd ["self","code","slips"] (zog t K):=by
 refine F.ok zom #[o0] #[ld]
 ·obtain⟨p,dx,c,tt,sl,pp,k,pl,rfl,_⟩:=h;rfl
 ·obtain⟨p,dx,c,tt,sl,pp,k,pl,rfl,hp,hdx,hc,oR,q⟩:=h;refine zaJ ?_; intro zX;refine⟨_,#[ze,#[zef,#[wE],#[xz]],#[ze,#[zef,#[wE],#[IN]],#[ze,#[zef,#[wE],#[zn,#[zfa],#[zP,#[ya,#[zaD]]],#[zr,#[zy],T.LC,bI,#[ya,#[zB,#[zW],#[xz],#[zh]]]]]],#[ze,#[zef,#[wE],#[S9]],#[zj,#[zef,#[wE],#[S9]]]]]]],?_⟩;have qJ:=a8;have l1:=zd7 "code" #[Tv] [];have l2:=zd7 "slips" #[XF] (zaz "code" #[Tv] []);have Js:p≠c:=za3 hp hc.1 (by intro z; cases z);have npt:p≠tt:=za3 hp hc.2 (by intro z; cases z);simp only [dU] at l1;refine (mP rfl (mP rfl (ex4 p t.Kn dx ([]) ⟨rfl,hp,T.cl,T.LV,by show 0 < 1000; decide,?_⟩)));refine (mP rfl (mP rfl (ex4 p t.Kn dx _ ⟨rfl,zb,T.cl,T.Nh,#[O],?_⟩)));rw [zeM];refine⟨by show 1<=sizeLine; lia,fun z hz=>(mP rfl (ex4 c _ _ _ ⟨rfl,rfl,m7.of (by rw [zg (zl (show mR H p _ c=_ by rw [zg Js.symm]; exact hc.1) hz),zg Js.symm]; exact hc.1),rfl,tt,(mP rfl ⟨.inr (m7.of (by rw [zg (zl (show mR H p _ tt=_ by rw [zg npt.symm]; exact hc.2) hz),zg npt.symm]; exact hc.2)),z,_,[.non],rfl,rfl,zb,by rw [ae]; lia,by rw [ae]; lia,by rw [ae]; show 1*_<=sizeLine; lia,fun ea CK=>?_⟩)⟩))⟩;rw [ae,zka,bd];have zp:z≠p:=fun e=>by rw [e,zb] at hz; cases hz
  rw [zg zp] at hz;have eaz:ea≠z:=fun e=>by rw [e,zb] at CK; cases CK
  rw [zg eaz] at CK;have FV:ea≠p:=fun e=>by rw [e,zb] at CK; cases CK
  rw [zg FV] at CK;have l3:=zd7 "entries" (.ref ea) (zaz "slips" #[XF] (zaz "code" #[Tv] []));refine (mP rfl (ex4 p t.Kn dx _ ⟨rfl,by rw [zg FV.symm,zg zp.symm,zb],T.cl,T.Ks,#[O],?_⟩));refine⟨by show 0<=sizeLine; lia,fun da Ak=>?_⟩;have FW:da≠p:=fun e=>by rw [e,zb] at Ak; cases Ak
  rw [zg FW] at Ak;have Jt:da≠ea:=fun e=>by rw [e,zb] at Ak; cases Ak
  rw [zg Jt] at Ak;have daz:da≠z:=fun e=>by rw [e,zb] at Ak; cases Ak
  rw [zg daz,zg FW] at Ak;have l4:=zd7 "deeds" (.ref da) (zaz "entries" (.ref ea) (zaz "slips" #[XF] (zaz "code" #[Tv] [])));refine⟨_,rfl,p,t.Kn,dx,_,rfl,by rw [zg FW.symm,zb],T.cl,T.LH,#[O],?_⟩;refine⟨by show 0<=sizeLine; lia,fun ua xD=>?_⟩;have FX:ua≠p:=fun e=>by rw [e,zb] at xD; cases xD
  rw [zg FX] at xD;have Ju:ua≠da:=fun e=>by rw [e,zb] at xD; cases xD
  rw [zg Ju,zg FX] at xD;have Jv:ua≠ea:=fun e=>by rw [e,zb] at xD; cases xD
  rw [zg Jv] at xD;have uaz:ua≠z:=fun e=>by rw [e,zb] at xD; cases xD
  rw [zg uaz,zg FX] at xD;refine⟨_,rfl,p,t.Kn,dx,_,rfl,by rw [zg FX.symm,zb],T.cl,T.K6,#[O],?_⟩;rw [zpG];have kp:∀ a o,H a=some o->a≠p->mR (mR (mR (mR (mR (mR (mR (mR H p (.ins t.Kn dx (zaz "slips" #[XF] (zaz "code" #[Tv] [])))) z (.lst [.non])) ea (.lst ((am pl.length (none:Option Int)).map ng))) p (.ins t.Kn dx (zaz "entries" (.ref ea) (zaz "slips" #[XF] (zaz "code" #[Tv] []))))) da (.lst [])) p (.ins t.Kn dx (zaz "deeds" (.ref da) (zaz "entries" (.ref ea) (zaz "slips" #[XF] (zaz "code" #[Tv] [])))))) ua (.lst [])) p (.ins t.Kn dx #[Pi]) a=some o:=fun a o e n=>by
   rw [zg n,zg (zl e xD),zg n,zg (zl e Ak),zg n,zg (zl e CK),zg (zl e hz),zg n];exact e
  refine q [p,ea,da,ua] _ ⟨dx,ea,da,ua,k,tt,[],[],rfl,Jt.symm,Jv.symm,Ju.symm,zb,?_,?_,?_,.nil,.nil,kp c _ hc.1 Js.symm⟩ kp (fun a ha=>?_)
  ·rw [zg FV,zg Jv.symm,zg FV,zg Jt.symm,zg FV,zb]
  ·rw [zg FW,zg Ju.symm,zg FW,zb];rfl
  ·rw [zg FX,zb];rfl
  ·simp at ha;rcases ha with rfl | rfl | rfl | rfl
   ·exact .inl rfl
   ·exact .inr CK
   ·exact .inr Ak
   ·exact .inr xD
end
end
end My
end
section
namespace L2
open PySem PySem.SetTable
variable {j:Nat} {led:Bool}
noncomputable def Rs (xs:Array Nat):Prop:=xs.toList.Pairwise (· < ·)
theorem Rs.lt {xs:Array Nat} (h:Rs xs) {i j:Nat} (hj:j < xs.size) (tW:i < j):xs[i]'#[O] < xs[j]:=by
 have:=(ee.mp h) i j (by simpa using (by lia:i < xs.size)) (by simpa using hj) tW;simpa using this
theorem zfE {xs:Array Nat} (h:Rs xs) {j:Nat}:∀ fuel lo hi,hi - lo<=fuel->lo<=hi->hi<=xs.size->(∀ i (pq:i < xs.size),i < lo->xs[i] < j)->(∀ i (pq:i < xs.size),hi<=i->j<=xs[i]) ->
  below.go xs j fuel lo hi<=xs.size/\(∀ i (pq:i < xs.size),i < below.go xs j fuel lo hi->xs[i] < j)/\(∀ i (pq:i < xs.size),below.go xs j fuel lo hi<=i->j<=xs[i])
 | 0,lo,hi,hf,hl,hs,h1,h2=>by
  have e:lo=hi:=by lia
  subst e;exact⟨hs,h1,h2⟩
 | fuel+1,lo,hi,hf,hl,hs,h1,h2=>by
  rw [below.go];by_cases nC:lo < hi
  ·rw [if_pos nC];have hm:(lo+hi) / 2 < xs.size:=by lia
   have e:xs.getD ((lo+hi) / 2) j=xs[(lo+hi) / 2]:=by simp [gR,hm]
   dsimp only;rw [e];by_cases hc:xs[(lo+hi) / 2] < j
   ·rw [if_pos hc];refine zfE h fuel _ hi #[O] #[O] hs (fun i pq hlt'=>?_) h2;by_cases e2:i=(lo+hi) / 2
    ·subst e2; exact hc
    ·exact kK (h.lt hm #[O]) hc
   ·rw [if_neg hc];refine zfE h fuel lo _ #[O] #[O] #[O] h1 (fun i pq hle=>?_);by_cases e2:i=(lo+hi) / 2
    ·subst e2; lia
    ·have:=h.lt pq (show (lo+hi) / 2 < i by lia); lia
  ·rw [if_neg nC];have e:lo=hi:=by lia
   subst e;exact⟨hs,h1,h2⟩
theorem zd8 {xs:Array Nat} (h:Rs xs) (j:Nat):below xs j<=xs.size/\(∀ i (pq:i < xs.size),i < below xs j->xs[i] < j)/\(∀ i (pq:i < xs.size),below xs j<=i->j<=xs[i]) :=
 zfE h _ _ _ #[O] #[O] (ah _) (fun i _ hi=>absurd hi #[O]) (fun i pq hle=>absurd pq #[O])
theorem zja {xs:Array Nat} (h:Rs xs) {i:Nat} (hi:i < xs.size):below xs (xs[i]+1)=i+1:=by
 obtain⟨a,b,c⟩:=zd8 h (xs[i]+1);have e1:i < below xs (xs[i]+1):=by
  (refine dB fun hn=>?_)
  have:=c i hi #[O];lia
 (refine dB fun hn=>?_)
 have h2:i+1 < xs.size:=by lia
 have:=b (i+1) h2 #[O];have:=h.lt h2 (show i < i+1 by lia);lia
theorem zjb {xs:Array Nat} (h:Rs xs):below xs 0=0:=by
 obtain⟨a,b,c⟩:=zd8 h 0
 (refine dB fun hn=>?_)
 have:=b 0 #[O] #[O];lia
theorem zlp {xs:Array Nat} (h:Rs xs) (hn:xs[below xs j]?≠some j):Rs (insertAt xs #[TQ] j):=by
 obtain⟨a,b,c⟩:=zd8 h j;unfold Rs insertAt;simp only [bE,f9,cJ,iH,iV,fS];have hsz:xs.toList.length=xs.size:=by simp
 have e1:List.take (xs.size - below xs j) (List.drop #[TQ] xs.toList)=List.drop #[TQ] xs.toList:=aW (by rw [bP]; lia);rw [e1,bu];have hp:(xs.toList.take #[TQ]).Pairwise (· < ·):=h.sublist (cN _ _);have hq:(xs.toList.drop #[TQ]).Pairwise (· < ·):=h.sublist (k6 _ _);have ht:∀ x∈xs.toList.take #[TQ],x < j:=fun x hx=>by
  obtain⟨i,hi,rfl⟩:=fz.mp hx;rw [aA] at hi;rw [iE];have:=b i #[O] #[O];simpa using this
 have hd:∀ x∈xs.toList.drop #[TQ],j < x:=fun x hx=>by
  obtain⟨i,hi,rfl⟩:=fz.mp hx;rw [bP] at hi;rw [List.getElem_drop];have h1:below xs j < xs.size:=by lia
  have h2:=c #[TQ] h1 (ah _);have h3:xs[below xs j]≠j:=fun e=>hn (by rw [bO h1,e])
  have h4:=c (below xs j+i) #[O] #[O];by_cases e:i=0
  ·subst e;have:j < xs[below xs j]:=by lia
   simpa using this
  ·have:=h.lt (show below xs j+i < xs.size by lia) (show below xs j < below xs j+i by lia);have:j < xs[below xs j+i]:=by lia
   simpa using this
 refine jR.mpr ⟨hp,?_,?_⟩
 ·show (j :: xs.toList.drop #[TQ]).Pairwise (· < ·);exact fK.mpr ⟨hd,hq⟩
 ·intro x hx y hy;rcases (az.mp hy) with rfl | hy
  ·exact ht x hx
  ·exact kK (ht x hx) (hd y hy)
structure Tb (led:Bool) (t:SetTable):Prop where
 r:Rs t.place
 d:t.dummies = #[]
 l:t.led=led
theorem Tb.fresh (f m:Nat) (led:Bool):Tb led (SetTable.fresh f m led):=⟨fY,rfl,rfl⟩
theorem Tb.standIn {t:SetTable} (h:Tb led t) (n:Nat):Tb led (t.standIn n):=⟨by
 show (Array.range n).toList.Pairwise (· < ·);rw [Array.toList_range];exact jw,rfl,h.l⟩
theorem zha (j:Nat):has #[] j=false:=by
 unfold has;simp
theorem Tb.put {t:SetTable} (h:Tb led t) (hn:t.place[below t.place j]?≠some j):Tb led (t.put j).1:=⟨zlp h.r hn,by
 show (if has t.dummies j=true then _ else t.dummies) = #[];rw [h.d,zha];rfl,h.l⟩
theorem Tb.PN {t:SetTable} (h:Tb led t) (es:Array (Int×Value)) (wanted:Nat):Tb led (relayAll t es wanted).2.1:=by
 unfold relayAll;split
 ·next t' o he =>
  have ht:Tb led t':=by
   unfold SetTable.relaid SetTable.laid at he;cases hl:layClean (sizeAbove wanted - 1) (es.map (·.1)) with
   | none=>rw [hl] at he; simp at he
   | some ow =>
    rw [hl] at he;simp only [Option.pure_def,Option.bind_eq_bind,Option.bind_some,f8,Prod.mk.injEq] at he;obtain⟨rfl,_⟩:=he;refine⟨?_,rfl,h.l⟩;show (List.toArray _).toList.Pairwise (· < ·);rw [kN];refine List.Pairwise.filterMap _ ?_ jw;intro a a' haa b hb b' uA;simp at hb uA;obtain⟨_,_,rfl⟩:=hb;obtain⟨_,_,rfl⟩:=uA;exact haa
  dsimp only;split
  ·exact ht
  ·exact h.standIn _
 ·exact h.standIn _
end L2
end
section
namespace L2
open PySem PySem.Spec PyProof.Rows
variable {prog:Program} {w:World}
noncomputable def vInt:Value->Int
 | .int n _=>n
 | _=>0
theorem zhb {k:Int} {v:Value} (h:#[RO].is k v=true):vInt v=k:=by
 have h:hW k v=true:=h;cases v with
 | int i t=>unfold hW at h; simp at h; exact h
 | _=>exact absurd h (by unfold hW; simp)
end L2
end
section
namespace L2
open PySem PySem.SetTable
variable {j k:Nat} {led:Bool}
noncomputable def tM (mask:Nat):SetTable:={ mask:=mask,place:=#[],dummies:=#[],finger:=0,led:=true,moves:=0,plain:=true }
theorem znc (t:SetTable) (p:Probe):t.advance p=(tM t.mask).advance p:=rfl
theorem zjc (t:SetTable) (h:Int):t.probeStart h=(tM t.mask).probeStart h:=rfl
noncomputable def rch (mask:Nat):Nat->Probe->Nat->Bool
 | 0,_,_=>false
 | n+1,p,j=>p.j == j || rch mask n ((tM mask).advance p) j
theorem zq2:∀ h,h < 97->∀ j,j < 8->rch 7 220 ((tM 7).probeStart (h:Nat)) j=true:=by decide +kernel
theorem zqw:∀ h,h < 97->∀ j,j < 32->rch 31 460 ((tM 31).probeStart (h:Nat)) j=true:=by decide +kernel
noncomputable def lr (mask:Nat):Nat->Nat->Nat->Nat->Bool
 | 0,i,_,j=>i == j
 | n+1,i,q,j=>i == j || lr mask n #[V9].1 #[V9].2 j
theorem zhc {mask j:Nat}:∀ {n m i q:Nat},n<=m->lr mask n i q j=true->lr mask m i q j=true
 | 0,0,i,q,_,h=>h
 | 0,m+1,i,q,_,h=>by
  rw [lr,bG];exact .inl h
 | n+1,0,i,q,hm,h=>by lia
 | n+1,m+1,i,q,hm,h=>by
  rw [lr,bG] at h |-;exact h.imp id fun h=>zhc #[O] h
noncomputable def fv (i:Nat):Nat:=(i*5+1) % 128
noncomputable def itv:Nat->Nat->Nat
 | 0,i=>i
 | n+1,i=>itv n (fv i)
theorem ze2:∀ (n m i:Nat),itv (n+m) i=itv m (itv n i)
 | 0,m,i=>by rw [cC]; rfl
 | n+1,m,i=>by
  rw [show n+1+m=(n+m)+1 by lia];exact ze2 n m (fv i)
noncomputable def orv:Nat->Nat->List Nat
 | 0,_=>[]
 | n+1,i=>i :: orv n (fv i)
theorem zhd:∀ {n i j:Nat},j∈orv n i->∃ m,m < n/\itv m i=j
 | 0,i,j,h=>by cases h
 | n+1,i,j,h=>by
  rcases (az.mp h) with rfl | h
  ·exact⟨0,#[O],rfl⟩
  ·obtain⟨m,hm,e⟩:=zhd h;exact⟨m+1,#[O],e⟩
theorem zkb:∀ i,i < 128->i∈orv 128 0:=by decide +kernel
theorem zlq:itv 128 0=0:=by decide +kernel
theorem zjd {j:Nat}:∀ (m i:Nat),itv m i=j->lr 127 m i 0 j=true
 | 0,i,h=>by rw [lr]; exact beq_iff_eq.mpr h
 | m+1,i,h=>by
  rw [lr,bG];refine .inr ?_;have:leap 127 i 0=(fv i,0):=by unfold leap fv; simp
  rw [this];exact zjd m (fv i) h
theorem zqx:∀ i,i < 128->∀ j,j < 128->lr 127 127 i 0 j=true:=fun i hi j hj=>by
 obtain⟨a,ha,ea⟩:=zhd (zkb i hi);obtain⟨b,hb,eb⟩:=zhd (zkb j hj);by_cases h:a<=b
 ·refine zhc (show b - a<=127 by lia) (zjd (b - a) i ?_);rw [<- ea,<- ze2,show a+(b - a)=b by lia,eb]
 ·refine zhc (show 128 - a+b<=127 by lia) (zjd (128 - a+b) i ?_);rw [<- ea,<- ze2,show a+(128 - a+b)=128+b by lia,ze2,zlq,eb]
theorem zkc {mask j m:Nat} (hb:∀ i,i < mask+1->∀ j,j < mask+1->lr mask m i 0 j=true) (hj:j < mask+1):∀ n i q,i < mask+1->q < 32 ^ n->lr mask (n+m) i q j=true
 | 0,i,q,hi,hq=>by
  obtain rfl:q=0:=by lia
  rw [cC];exact hb i hi j hj
 | n+1,i,q,hi,hq=>by
  rw [show n+1+m=n+m+1 by lia,lr,bG];refine .inr (zkc hb hj n _ _ (fT _ (gS _)) ?_);show q / 32 < 32 ^ n;rw [iU] at hq;lia
noncomputable def zoo (mask i q:Nat):Probe:={ j:=i,more:=runEnd mask i - i,i:=i,perturb:=q,dummy:=none }
theorem zfF {mask j:Nat}:∀ {n:Nat} {p:Probe} {m:Nat},n<=m->rch mask n p j=true->rch mask m p j=true
 | 0,p,m,_,h=>by simp [rch] at h
 | n+1,p,0,hm,h=>by lia
 | n+1,p,m+1,hm,h=>by
  rw [rch,bG] at h |-;rcases h with h | h
  ·exact .inl h
  ·exact .inr (zfF #[O] h)
theorem zkd {mask j:Nat}:∀ (d:Nat) (p:Probe) (n:Nat),p.more=d->rch mask n (zoo mask #[GT].1 #[GT].2) j=true->p.dummy=none->rch mask (n+d+1) p j=true
 | 0,p,n,hd,h,hp=>by
  rw [ff,rch,bG];refine .inr ?_;have:(tM mask).advance p=zoo mask #[GT].1 #[GT].2:=by
   unfold advance;rw [if_neg #[O]];show ({ p with j:=#[GT].1,more:=runEnd mask #[GT].1 - #[GT].1,i:=#[GT].1,perturb:=#[GT].2 }:Probe)=_;rw [hp];rfl
  rw [this];exact h
 | d+1,p,n,hd,h,hp=>by
  rw [rch,bG];refine .inr ?_;have:(tM mask).advance p = { p with j:=p.j+1,more:=p.more - 1 }:=by
   unfold advance;rw [if_pos #[O]]
  rw [this];exact zkd d _ n (by show p.more - 1=d; lia) h hp
theorem znd (mask i:Nat):runEnd mask i - i<=9:=by
 unfold runEnd;split <;> lia
theorem zne {mask j:Nat}:∀ (n i q:Nat),lr mask n i q j=true->rch mask (10*n+1) (zoo mask i q) j=true
 | 0,i,q,h=>by
  rw [Nat.mul_zero,cC,rch,bG];exact .inl h
 | n+1,i,q,h=>by
  rw [lr,bG] at h;rcases h with h | h
  ·rw [show 10*(n+1)+1=10*n+10+1 by lia,rch,bG];exact .inl h
  ·have h9:=znd mask i;exact zfF (show 10*n+1+(runEnd mask i - i)+1<=10*(n+1)+1 by lia) (zkd _ (zoo mask i q) (10*n+1) rfl (zne n _ _ h) rfl)
theorem zim {h:Nat} (hh:h < 97) (hj:j < 128):lr 127 (2+127) (bits (h:Nat) % (127+1)) (bits (h:Nat)) j=true:=by
 have hb:bits (h:Nat)=h:=by unfold bits; lia
 exact zkc zqx (show j < 127+1 by lia) 2 _ _ (fT _ #[D]) (by rw [hb]; lia)
theorem zpK:∀ h,h < 97->∀ j,j < 128->rch 127 (10*turns 127) ((tM 127).probeStart (h:Nat)) j=true:=fun h hh j hj=>zfF #[D] (zne _ _ _ (zim hh hj))
theorem znf {mask i:Nat} (h:i<=mask):i+(runEnd mask i - i)<=mask:=by
 unfold runEnd;split <;> lia
theorem zpL {t:SetTable} {p:Probe} (h:p.j+p.more<=t.mask):(t.advance p).j+(t.advance p).more<=t.mask:=by
 unfold advance;split
 ·show p.j+1+(p.more - 1)<=t.mask;lia
 ·exact znf #[Vt]
theorem zlr {t:SetTable} {p:Probe} (h:p.dummy=none):(t.advance p).dummy=none:=by
 unfold advance;split <;> exact h
theorem zke {t:SetTable} (hd:t.dummies = #[]) {hashAt:Nat->Int} {h:Int} (hh:∀ i,hashAt i≠h) {j0:Nat} (h0:t.slot j0 = .empty):∀ fuel p,p.dummy=none->p.j+p.more<=t.mask->rch t.mask fuel p j0=true->∃ j,probe.go t hashAt h fuel p=some (.empty j none)/\j<=t.mask/\t.slot j = .empty
 | 0,p,_,_,hr=>by simp [rch] at hr
 | fuel+1,p,hp,hm,hr=>by
  rw [probe.go];split
  ·next hs=>exact⟨p.j,by rw [hp],#[O],hs⟩
  ·next hs =>
   unfold slot at hs;dsimp only at hs;rw [hd,zha] at hs;split at hs
   ·cases hs
   ·simp at hs
  ·next i hs =>
   rw [if_neg (by simpa using hh i)];refine zke hd hh h0 fuel _ (zlr hp) (zpL hm) ?_;rw [rch,bG] at hr;rcases hr with hr | hr
   ·rw [beq_iff_eq.mp hr,h0] at hs;cases hs
   ·rw [znc]; exact hr
theorem zje {t:SetTable} (hd:t.dummies = #[]) (hn:j∉t.place.toList):t.slot j = .empty:=by
 unfold slot;dsimp only;rw [hd,zha,if_neg,if_neg #[M]];intro hc;have hc:t.place[below t.place j]? = some j:=by simpa using hc
 exact hn (by rw [jI]; exact Array.mem_of_getElem? hc)
theorem zng {t:SetTable} (hd:t.dummies = #[]) (hs:t.place.size<=t.mask):∃ j,j<=t.mask/\t.slot j = .empty:=by
 (refine dB fun hn=>?_)
 have sv:bn (t.mask+1) ⊆ t.place.toList:=fun j hj=>dB fun hc=>hn ⟨j,by have:=bU.mp hj; lia,zje hd hc⟩
 have:=List.nodup_range.length_le_of_subset sv;rw [cw,aC] at this;lia
structure Pb (led:Bool) (t:SetTable) (n:Nat):Prop where
 b:Tb led t
 p:t.plain=true
 z:t.place.size=n
 i:∀ j∈t.place.toList,j<=t.mask
 m:t.mask=7/\n<=4\/t.mask=31/\n<=18\/t.mask=127/\n<=70
theorem Pb.free {t:SetTable} {n:Nat} (P:Pb led t n) {h:Nat} (hh:h < 97):∃ j,t.freeSlot (h:Nat)=some (j,false)/\j<=t.mask/\t.slot j = .empty:=by
 obtain⟨j0,we,h0⟩:=zng P.b.d (by have:=P.z; rcases P.m with m | m | m <;> lia);have pA:(t.probeStart (h:Nat)).j+(t.probeStart (h:Nat)).more<=t.mask:=znf #[Vt];have hr:rch t.mask (10*turns t.mask) (t.probeStart (h:Nat)) j0=true:=by
  rw [zjc];rcases P.m with ⟨m,_⟩ | ⟨m,_⟩ | ⟨m,_⟩
  ·rw [m]; exact zq2 h hh j0 #[O]
  ·rw [m]; exact zqw h hh j0 #[O]
  ·rw [m]; exact zpK h hh j0 #[O]
 obtain⟨j,e,hj,hs⟩:=zke P.b.d (hashAt:=fun _=>(h:Int)+1) (h:=(h:Int)) (fun _=>by lia) h0 _ (t.probeStart (h:Nat)) rfl pA hr;refine⟨j,?_,hj,hs⟩;unfold freeSlot probe;rw [e];rfl
theorem zeA {α:Type} {xs:Array α} {p:Nat} {x:α} (hp:p<=xs.size):(insertAt xs p x).size=xs.size+1:=by
 unfold insertAt;simp only [Array.size_append,Array.size_push,kL];lia
theorem zkf {a b:Nat} {l:List Nat} (h:k∈l.extract a b):k∈l:=by
 rw [iH] at h;exact jS (fu h)
theorem Pb.lay {t:SetTable} {n:Nat} (P:Pb led t n) {h:Nat} (hh:h < 97) {es:Array (Int×Value)} (he:es.size=n) (x:Value) :
  ∃ wB t1,layNew t es (h:Nat) x=(wB,t1,false,false)/\Tb led t1/\t1.plain=true/\t1.mask=t.mask/\t1.place.size=n+1/\(∀ j∈t1.place.toList,j<=t1.mask):=by
 obtain⟨j,e,hj,hs⟩:=P.free hh;have hn:t.place[below t.place j]?≠some j:=fun hc=>by
  unfold slot at hs;dsimp only at hs;rw [hc] at hs;simp at hs
 have hb:=(zd8 P.b.r j).1;have hT:=P.b.put hn;have hz:(t.put j).1.place.size=n+1:=by
  show (insertAt t.place #[SG] j).size=n+1;rw [zeA hb,P.z]
 have yD:(insertAt es #[SG] ((h:Int),x)).size=n+1:=by rw [zeA (by rw [he,<- P.z]; exact hb),he]
 have hf:(t.put j).1.fits (n+1)=true:=by
  unfold fits fill;rw [hT.d,hz];have:(t.put j).1.mask=t.mask:=rfl;rw [this];rcases P.m with m | m | m <;> simp <;> lia
 refine⟨insertAt es #[SG] ((h:Int),x),(t.put j).1,?_,hT,P.p,rfl,hz,?_⟩
 ·unfold layNew;rw [e];show (insertAt es #[SG] ((h:Int),x),(t.put j).1.orStandIn (insertAt es #[SG] ((h:Int),x)).size,false,!(t.put j).1.fits (insertAt es #[SG] ((h:Int),x)).size)=_;rw [yD];unfold orStandIn;rw [if_pos hf,hf];rfl
 ·intro k hk;show k<=t.mask;have hk:k∈(insertAt t.place #[SG] j).toList:=hk;unfold insertAt at hk;simp only [bE,f9,cJ,aP,aS] at hk;rcases hk with (hk | hk) | hk
  ·exact P.i k (zkf hk)
  ·lia
  ·exact P.i k (zkf hk)
noncomputable def rF (mask:Nat):Nat->Nat->Nat->Nat->Bool
 | 0,_,_,_=>false
 | n+1,i,q,j=>(decide (i<=j) && decide (j<=runEnd mask i)) || rF mask n #[V9].1 #[V9].2 j
theorem zq3:∀ h,h < 97->∀ j,j < 32->rF 31 46 (bits (h:Nat) % 32) (bits (h:Nat)) j=true:=by decide +kernel
theorem zkg {mask j:Nat}:∀ {n m i q:Nat},n<=m->rF mask n i q j=true->rF mask m i q j=true
 | 0,m,i,q,_,h=>by simp [rF] at h
 | n+1,0,i,q,hm,h=>by lia
 | n+1,m+1,i,q,hm,h=>by
  rw [rF,bG] at h |-;rcases h with h | h
  ·exact .inl h
  ·exact .inr (zkg #[O] h)
theorem znh (mask i:Nat):i<=runEnd mask i:=by
 unfold runEnd;split <;> lia
theorem zoQ {mask j:Nat}:∀ (n i q:Nat),lr mask n i q j=true->rF mask (n+1) i q j=true
 | 0,i,q,h=>by
  rw [rF,bG];have h:i=j:=by rw [lr] at h; exact beq_iff_eq.mp h
  have:=znh mask i;exact .inl (by rw [cg]; exact#[Vn])
 | n+1,i,q,h=>by
  rw [lr,bG] at h;rw [rF,bG];rcases h with h | h
  ·have h:i=j:=beq_iff_eq.mp h;have:=znh mask i;exact .inl (by rw [cg]; exact#[Vn])
  ·exact .inr (zoQ n _ _ h)
theorem zqy:∀ h,h < 97->∀ j,j < 128->rF 127 (turns 127) (bits (h:Nat) % 128) (bits (h:Nat)) j=true:=fun h hh j hj=>zkg #[D] (zoQ _ _ _ (zim hh hj))
theorem rFM {M:Nat} (hM:M=31\/M=127) {h:Nat} (hh:h < 97) (hj:j < M+1):rF M (turns M) (bits (h:Nat) % (M+1)) (bits (h:Nat)) j=true:=by
 rcases hM with rfl | rfl
 ·exact zq3 h hh j hj
 ·exact zqy h hh j hj
theorem zgx {ow:Array #[AC]} {mask j0:Nat} (hz:ow.size=mask+1) (h0:ow[j0]? = some none):∀ fuel i q,i<=mask->rF mask fuel i q j0=true->∃ j,layClean.free mask ow fuel i q=some j/\ow[j]? = some none
 | 0,i,q,_,h=>by simp [rF] at h
 | fuel+1,i,q,hi,h=>by
  rw [layClean.free];cases hf:(bn (runEnd mask i+1 - i)).find? (fun k=>(ow.getD (i+k) (some 0)).isNone) with
  | some k =>
   refine⟨i+k,rfl,?_⟩;have hk:=List.find?_some hf;have hk:(ow.getD (i+k) (some 0)).isNone=true:=hk;by_cases hs:i+k < ow.size
   ·rw [bO hs];have:ow.getD (i+k) (some 0)=ow[i+k]:=by simp [gR,hs]
    rw [this] at hk;rw [Option.isNone_iff_eq_none.mp hk]
   ·have:ow.getD (i+k) (some 0)=some 0:=by simp [gR,hs]
    rw [this] at hk;cases hk
  | none =>
   dsimp only;have hn:=List.find?_eq_none.mp hf;rw [rF,bG,cg,decide_eq_true_eq,decide_eq_true_eq] at h;rcases h with ⟨h1,h2⟩ | h
   ·exfalso;refine hn (j0 - i) (bU.mpr #[O]) ?_;have nC:j0 < ow.size:=by
     rcases fM j0 ow.size with h | h
     ·exact h
     ·rw [cr h] at h0; cases h0
    have e:ow[j0]=none:=by rw [bO nC] at h0; injection h0
    have:ow.getD (i+(j0 - i)) (some 0)=none:=by rw [show i+(j0 - i)=j0 by lia]; simp [gR,nC,e]
    rw [this];rfl
   ·exact zgx hz h0 fuel _ _ #[Vt] h
theorem zni {k:Nat}:∀ {l:List #[AC]} {j:Nat},l[j]? = some none->((l.set j (some k)).filterMap id).Perm (k :: l.filterMap id)
 | [],j,h=>by simp at h
 | a :: l,0,h=>by
  simp at h;subst h;simp
 | a :: l,j+1,h=>by
  (simp only [ck] at h)
  have ih:=zni (k:=k) h;cases a with
  | none=>simpa using ih
  | some a =>
   simp only [List.set_cons_succ,cu,id];exact (ih.cons a).trans (.swap k a _)
theorem zkh:∀ {l:List #[AC]},(l.filterMap id).length < l.length->∃ j:Nat,l[j]? = some none
 | [],h=>by simp at h
 | none :: l,_=>⟨0,rfl⟩
 | some a :: l,h=>by
  simp only [cu,id,bf] at h;obtain⟨j,hj⟩:=zkh (l:=l) #[O];exact⟨j+1,by simpa using hj⟩
noncomputable def Ow (M:Nat) (ow:Array #[AC]) (k:Nat):Prop:=ow.size=M+1/\(ow.toList.filterMap id).Perm (bn k)
theorem zop {M:Nat} (hM:M=31\/M=127) {ow:Array #[AC]} (O:Ow M ow k) (hk:k < M+1) {h:Nat} (hh:h < 97):∃ j,layClean.free M ow (turns M) (bits (h:Nat) % (M+1)) (bits (h:Nat))=some j/\Ow M (ow.setIfInBounds j (some k)) (k+1):=by
 obtain⟨j0,h0⟩:=zkh (l:=ow.toList) (by rw [O.2.length_eq,cw,aC,O.1]; exact hk);rw [aT] at h0;have we:j0 < M+1:=by
  rcases fM j0 ow.size with h | h
  ·rw [<- O.1]; exact h
  ·rw [cr h] at h0; cases h0
 obtain⟨j,e,hj⟩:=zgx (mask:=M) O.1 h0 (turns M) (bits (h:Nat) % (M+1)) (bits (h:Nat)) #[Vt] (rFM hM hh we);refine⟨j,e,by rw [iQ]; exact O.1,?_⟩;rw [Array.toList_setIfInBounds];refine (zni (by rw [aT]; exact hj)).trans ?_;rw [fG];exact (O.2.cons k).trans (List.perm_append_singleton k (bn k)).symm
theorem zpM {M:Nat} (hM:M=31\/M=127) {hs:List Nat} (hh:∀ h∈hs,h < 97) (hl:hs.length<=M):∃ ow,layClean M (hs.map fun (h:Nat)=>(h:Int)).toArray=some ow/\Ow M ow hs.length:=by
 have key:∀ (hs:List Nat) (ow:Array #[AC]) (k:Nat),(∀ h∈hs,h < 97)->k+hs.length<=M->Ow M ow k->∃ Hq,(hs.map fun (h:Nat)=>(h:Int)).foldl (fun (acc:Option (Array #[AC]×Nat)) (h:Int)=>do
   let (owner,k) <- acc
   let j <- layClean.free M owner (turns M) (bits h % (M+1)) (bits h)
   pure (owner.setIfInBounds j (some k),k+1)) (some (ow,k))=some (Hq,k+hs.length)/\Ow M Hq (k+hs.length):=by
  intro hs;induction hs with
  | nil=>intro ow k _ _ O; exact⟨ow,rfl,O⟩
  | cons h hs ih =>
   intro ow k hh hl O;rw [bf] at hl;obtain⟨j,e,O2⟩:=zop hM O #[O] (hh h aE);obtain⟨Hq,e2,O3⟩:=ih _ (k+1) (fun x hx=>hh x (aq _ hx)) #[O] O2;refine⟨Hq,?_,by rw [bf,show k+(hs.length+1)=k+1+hs.length by lia]; exact O3⟩;rw [bj,gI,bf,show k+(hs.length+1)=k+1+hs.length by lia,<- e2];congr 1;show (layClean.free M ow (turns M) (bits (h:Nat) % (M+1)) (bits (h:Nat))).bind _=_;rw [e];rfl
 obtain⟨ow,e,O⟩:=key hs (Array.replicate (M+1) none) 0 hh #[O] ⟨#[M],by
  rw [Array.toList_replicate,List.range_zero];have:∀ n,(am n (none:Option Nat)).filterMap id = []:=fun n=>by
   induction n with
   | zero=>rfl
   | succ n ih=>simp [bt,ih]
  rw [this]⟩
 rw [cC] at e O;refine⟨ow,?_,O⟩;unfold layClean;rw [<- Array.foldl_toList];rw [e];rfl
theorem range_getD {α:Type} {d:α}:∀ (l:List α),(bn l.length).map (fun j=>l.getD j d)=l:=fun l=>by
 refine List.ext_getElem #[M] fun i h1 h2=>?_
 simp [iA,aI h2]
theorem zls {M:Nat} {ow:Array #[AC]} (hz:ow.size=M):((bn M).filterMap fun j=>(ow.getD j none).map (j,·)).map (·.2)=ow.toList.filterMap id:=by
 have e:ow.toList.filterMap id=((bn M).map fun j=>ow.toList.getD j none).filterMap id:=by
  have:=range_getD (d:=(none:Option Nat)) ow.toList;rw [aC,hz] at this;rw [this]
 rw [e,kN,im];congr 1;funext j;have:ow.toList.getD j none=ow.getD j none:=by
  rw [iA,aT,Array.getD_eq_getD_getElem?]
 simp only [mj,id];rw [this];cases ow.getD j none <;> rfl
theorem zlu {α:Type} (es:Array α):(bn es.size).filterMap (fun i=>es[i]?)=es.toList:=by
 have h:∀ (l:List α),(bn l.length).filterMap (fun i=>l[i]?)=l:=fun l=>by
  induction l with
  | nil=>rfl
  | cons a l ih =>
   rw [bf,gf,cu];simp only [eN];rw [im];show a :: _=_;congr 1
 have:=h es.toList;rw [aC] at this;simpa using this
theorem Pb.PN {t:SetTable} {n wanted:Nat} {es:Array (Int×Value)} (T:Tb led t) (hp:t.plain=true) (hh:∀ e∈es.toList,∃ h:Nat,h < 97/\e.1=h) (he:es.size=n) {M:Nat} (hn:M=31/\n<=18\/M=127/\n<=70) (hw:sizeAbove wanted=M+1) :
  ∃ es' t',relayAll t es wanted=(es',t',false)/\Pb led t' n:=by
 have hT:=T.PN es wanted;obtain⟨hs,Jw⟩:∃ hs:List Nat,hs=es.toList.map fun e=>e.1.toNat:=⟨_,rfl⟩
 have hl:hs.length=n:=by rw [Jw,ae,aC,he]
 have nC:∀ h∈hs,h < 97:=fun h hm=>by
  rw [Jw] at hm;obtain⟨e,Jx,rfl⟩:=be.mp hm;obtain⟨h',h1,h2⟩:=hh e Jx;rw [h2];simpa using h1
 have eh:es.map (·.1)=(hs.map fun (h:Nat)=>(h:Int)).toArray:=by
  refine Array.toList_inj.mp ?_;rw [iR,Jw,bD];refine cv fun e Jx=>?_
  obtain⟨h',h1,h2⟩:=hh e Jx;simp [h2]
 have hM:M=31\/M=127:=hn.imp And.left And.left;obtain⟨ow,e,O⟩:=zpM hM nC #[O];rw [hl] at O;obtain⟨live,Jy⟩:∃ live,live=(bn (M+1)).filterMap fun j=>(ow.getD j none).map (j,·):=⟨_,rfl⟩
 have hv:(live.map (·.2)).Perm (bn n):=by rw [Jy,zls O.1]; exact O.2
 have Hk:live.length=n:=by rw [<- ae (f:=(·.2)),hv.length_eq,cw]
 have er:t.relaid (es.map (·.1)) wanted=some ({ mask:=M,place:=(live.map (·.1)).toArray,dummies:=#[],finger:=t.finger,led:=t.led,moves:=t.movedTo M,plain:=t.plain },(live.map (·.2)).toArray):=by
  unfold relaid laid;rw [hw,eh];show (layClean M (hs.map fun (h:Nat)=>(h:Int)).toArray).bind _=_;rw [e,Jy];rfl
 have yD:((live.map (·.2)).toArray.filterMap (es[·]?)).size=n:=by
  rw [<- aC,Array.toList_filterMap];rw [(hv.filterMap _).length_eq,<- he,zlu,aC]
 have hc:coversAll (live.map (·.2)).toArray n=true:=by
  unfold coversAll;exact List.isPerm_iff.mpr hv
 unfold relayAll at hT |-;rw [er] at hT |-;dsimp only at hT |-;have hf:mo { mask:=M,place:=(live.map (·.1)).toArray,dummies:=#[],finger:=t.finger,led:=t.led,moves:=t.movedTo M,plain:=t.plain } n=true:=by
  unfold fits fill;simp [Hk];lia
 rw [yD,he,hc,hf] at hT |-;refine⟨_,_,rfl,hT,hp,by simp [Hk],fun j hj=>?_,.inr hn⟩;have hj:j∈live.map (·.1):=hj;obtain⟨q,hq,rfl⟩:=be.mp hj;rw [Jy] at hq;obtain⟨j',rj,e'⟩:=ig.mp hq;have:=bU.mp rj;cases h:ow.getD j' none with
 | none=>rw [h] at e'; cases e'
 | some v =>
  rw [h] at e';injection e' with e'
  subst e';show j'<=M;lia
end L2
end
section
namespace L2
open PySem PySem.Spec PyProof.Rows PySem.SetTable
variable {ep tk:Nat} {h:Heap} {led:Bool} {ns:List Int}
theorem zfG:∀ n:Nat,n < 97->hashInt (n:Nat)=(n:Nat):=by decide +kernel
theorem Pb.fits {t:SetTable} {n:Nat} (P:Pb led t n):t.fits n=true:=by
 unfold mo mq;rw [P.b.d,P.z];rcases P.m with m | m | m <;> simp <;> lia
theorem Pb.next {t1:SetTable} {n:Nat} (T:Tb led t1) (hp:t1.plain=true) (hz:t1.place.size=n) (hi:∀ j∈t1.place.toList,j<=t1.mask) (hm:t1.mask=7/\n<=5\/t1.mask=31/\n<=19\/t1.mask=127/\n<=70) :
  (t1.tooFull=true->n=5\/n=19)/\(t1.tooFull=false->Pb led t1 n):=by
 have ef:t1.fill=n:=by unfold mq; rw [T.d,hz]; rfl
 constructor
 ·intro h;unfold tooFull at h;rw [ef] at h;simp at h;rcases hm with ⟨m,h2⟩ | ⟨m,h2⟩ | ⟨m,h2⟩ <;> rw [m] at h <;> lia
 ·intro h;unfold tooFull at h;rw [ef] at h;simp at h;refine⟨T,hp,hz,hi,?_⟩;rcases hm with ⟨m,h2⟩ | ⟨m,h2⟩ | ⟨m,h2⟩ <;> rw [m] at h
  ·exact .inl ⟨m,#[O]⟩
  ·exact .inr (.inl ⟨m,#[O]⟩)
  ·exact .inr (.inr ⟨m,h2⟩)
section
variable {prog:Program} {w:World} {A:Around} {E:Value->Shared->Prop} {s:Shared}
noncomputable def zeL (prog:Program) (w:World) (led:Bool) (h:Heap) (a:Addr) (ns:List Int):Prop :=
 ∃ o es ep t,h.get? a=some o/\o.ExactSet/\o.data = .set es ep t/\ElemsOf #[RO] es.toList/\(es.toList.map fun e=>vInt e.2).Perm ns/\(∀ n∈ns,0<=n/\n < 97)/\Pb led t es.size
theorem zgy {a:Addr} {o:Obj} {es es':Array (Int×Value)} {t t':SetTable} (ho:h.get? a=some o) (hex:o.ExactSet) (hd:o.data = .set es ep t) :
  (h.update a (lS es' t')).get? a=some { o with data:=.set es' (ep+1) t' }:=by
 (have:=bW (lS es' t') ho (by rw [putSet_of es' t' hd]; rfl))
 rw [putSet_of es' t' hd] at this;exact this
theorem znj {a:Addr} {n:Int} {Q:Bool->Shared->Prop} (hS:zeL prog w led s.heap a ns) (CL:ns.length+1<=70) (h0:0<=n) (FY:n < 97)
  (h:∀ h' b,bh a s.heap h'->zeL prog w led h' a (et ns n)->Q b { s with heap:=h' }) :
  wpAny #[or] A (setAddHashed a (.int n tk) (#[RO].hash n)) Q E s:=by
 obtain⟨o,es,ep,t,ho,hex,hd,DO,hp,yZ,P⟩:=hS;have hf:=P.fits;have hn:es.size=ns.length:=by rw [<- hp.length_eq,ae,aC]
 have hb:es.size < scanBound:=by unfold scanBound; lia
 have pT:#[RO].is n (.int n tk)=true:=intKind_is _ _ _ _;have CM:∀ k:Int,(∃ e∈es.toList,#[RO].is k e.2=true)↔k∈ns:=fun k=>by
  rw [<- hp.mem_iff,be];constructor
  ·rintro⟨e,he,hk⟩;exact⟨e,he,zhb hk⟩
  ·rintro⟨e,he,rfl⟩;obtain⟨⟨k',ux,_⟩,_⟩:=DO e he;exact⟨e,he,by rw [zhb ux]; exact ux⟩
 (unfold setAddHashed setAddHashedIn)
 (refine bQ (aa #[VF]))
 dsimp only;rw [byScan_of (knd:=intKind prog w) (x:=.int n tk) rfl hb DO];simp only [↓reduceIte];unfold setAddByScan;refine aa (aa (cj (aa (wpAny_setScan_of pT ho hd hf DO ?_))));have e0:s = { s with heap:=s.heap }:=by cases s; rfl
 cases hr:List.findIdx? (fun e=>#[RO].is n e.2) es.toList with
 | some j =>
  dsimp only
  (obtain⟨hj,hpj,_⟩:=List.findIdx?_eq_some_iff_getElem.mp hr)
  have pU:n∈ns:=(CM n).mp ⟨es.toList[j],eG hj,hpj⟩;have e1:et ns n=ns:=by
   unfold et;rw [if_pos (eI.mpr ⟨n,pU,#[M]⟩)]
  (refine ag (ag ?_))
  rw [e0];exact h s.heap _ (Heap.SameBut.refl a s.heap) (by rw [e1]; exact⟨o,es,ep,t,ho,hex,hd,DO,hp,yZ,P⟩)
 | none =>
  dsimp only;have vq:n∉ns:=fun pU=>by
   obtain⟨e,he,hk⟩:=(CM n).mpr pU
   (have:=List.findIdx?_eq_none_iff.mp hr e he)
   rw [hk] at this;cases this
  have e1:et ns n=ns++[n]:=by
   unfold et;rw [if_neg fun hc=>by
    obtain⟨x,hx,Jz⟩:=eI.mp hc;exact vq (by rw [<- beq_iff_eq.mp Jz]; exact hx)]
  rw [e1] at h;obtain⟨m,rfl⟩:∃ m:Nat,n=m:=⟨n.toNat,#[O]⟩;have hm:m < 97:=by lia
  have eh:#[RO].hash (m:Int)=(m:Int):=zfG m hm;have nW:=layNew_perm t es (#[RO].hash (m:Int)) (.int m tk);obtain⟨wB,t1,eL,T1,p1,m1,z1,i1⟩:=P.lay hm rfl (.int m tk);rw [eh] at nW |-;rw [eL] at nW |-;dsimp only at nW |-
  (rw [f9] at nW)
  have DP:ElemsOf #[RO] wB.toList:=(DO.push (k:=(m:Int)) pT rfl).perm (by rw [eh]; exact nW);have uQ:(wB.toList.map fun e=>vInt e.2).Perm (ns++[(m:Int)]):=by
   refine (nW.map _).trans ?_;rw [aB];exact hp.append (.refl _)
  have sk:wB.size=es.size+1:=by
   rw [<- aC,nW.length_eq,aF,aC];rfl
  have wc:wB.size < scanBound:=by unfold scanBound; lia
  have DQ:∀ x∈ns++[(m:Int)],0<=x/\x < 97:=fun x hx=>by
   rcases (aP.mp hx) with hx | hx
   ·exact yZ x hx
   ·rw [aS.mp hx]; exact⟨h0,FY⟩
  have hhs:∀ e∈wB.toList,∃ k:Nat,k < 97/\e.1=k:=fun e he=>by
   obtain⟨⟨k',ux,hh'⟩,_⟩:=DP e he;have pU:k'∈ns++[(m:Int)]:=uQ.mem_iff.mp (be.mpr ⟨e,he,zhb ux⟩);obtain⟨c0,c1⟩:=DQ k' pU;obtain⟨q,rfl⟩:∃ q:Nat,k'=q:=⟨k'.toNat,#[O]⟩;exact⟨q,#[O],by rw [hh']; exact zfG q #[O]⟩
  have Fk:t1.mask=7/\es.size+1<=5\/t1.mask=31/\es.size+1<=19\/t1.mask=127/\es.size+1<=70:=by
   rw [m1];rcases P.m with ⟨a,b⟩ | ⟨a,b⟩ | ⟨a,b⟩
   ·exact .inl ⟨a,#[O]⟩
   ·exact .inr (.inl ⟨a,#[O]⟩)
   ·exact .inr (.inr ⟨a,#[O]⟩)
  obtain⟨nx1,nx2⟩:=Pb.next T1 p1 z1 i1 Fk;have oM:=fun t2=>bL s.heap a (lS wB t2)
  refine aa (ag ?_);rw [if_pos p1];refine aa ?_;rw [hashByValue_scannable 8 (x:=.int m tk) rfl];refine ag ?_;rw [show plainKind (.int (m:Int) tk)=true from rfl];simp only [↓reduceIte,jF,mi]
  (refine aa (wpAny_storeSet_of ho hd ?_ (fits_of_scanBound wc)))
  have xR:=zgy (es':=wB) (t':=t1) ho hex hd;by_cases Al:t1.tooFull=true
  ·rw [if_pos Al];have h5:=nx1 Al;obtain⟨JA,t3,e2,P2⟩:∃ es' t',relayAll t1 wB (l6 wB.size)=(es',t',false)/\Pb led t' (es.size+1):=by
    rcases h5 with h5 | h5
    ·exact Pb.PN (M:=31) T1 p1 hhs sk (.inl ⟨rfl,#[O]⟩) (by rw [sk,h5]; decide)
    ·exact Pb.PN (M:=127) T1 p1 hhs sk (.inr ⟨rfl,#[O]⟩) (by rw [sk,h5]; decide)
   have CH:=relayAll_perm t1 wB (l6 wB.size);rw [e2] at CH |-;dsimp only at CH |-;have hsz:JA.size=wB.size:=by rw [<- aC,CH.length_eq,aC]
   refine aa (ag ?_);refine aa (wpAny_storeSet_of xR rfl ?_ (fits_of_scanBound #[O]));have tZ:=zgy (es':=JA) (t':=t3) xR hex rfl;exact ag (ag (h _ _ ((oM t1).trans (bL _ a _)) ⟨_,JA,_,t3,tZ,hex,rfl,DP.perm CH,(CH.map _).trans uQ,DQ,by rw [hsz,sk]; exact P2⟩))
  ·rw [if_neg Al];exact ag (ag (h _ _ (oM t1) ⟨_,wB,_,t1,xR,hex,rfl,DP,uQ,DQ,by rw [sk]; exact nx2 (by simpa using Al)⟩))
end
end L2
end
section
namespace L2
open PySem PySem.Spec PyProof.Rows
variable {ep:Nat} {h h':Heap} {it:Addr} {led:Bool} {ns:List Int}
section
variable {St:Nat->Shared->Prop} {prog:Program} {w:World} {A:Around} {R:Result->Shared->Prop} {I:Addr} {fp wr:List Addr} {G:Array GenState->Array GenState->Prop} {n:Nat} {P:Nat->Value->Prop}
theorem zeL.at {a:Addr} (hS:zeL prog w led h a ns) (e:∀ o,h.get? a=some o->h'.get? a=some o):zeL prog w led h' a ns:=by
 (obtain⟨o,es,ep,t,ho,rest⟩:=hS)
 exact⟨o,es,ep,t,e o ho,rest⟩
end
noncomputable def zaB (w:World):Bool:=!w.params.followText "set-order"
noncomputable def zqz (led:Bool):Obj:={ cls:=.type "set",dict:=none,data:=.set #[] 0 (.fresh 0 0 led) }
section
variable {prog:Program} {w:World} {A:Around} {E:Value->Shared->Prop} {s:Shared}
theorem zjf {a:Addr} (ho:h.get? a=some (zqz led)):zeL prog w led h a [] :=
 ⟨_,#[],0,_,ho,⟨rfl,rfl,rfl⟩,rfl,fun e he=>by simp at he,.refl _,(fun n hn=>by cases hn),⟨.fresh _ _ _,rfl,rfl,(fun j hj=>by cases hj),.inl ⟨rfl,aZ _⟩⟩⟩
end
theorem KQ {α:Type}:∀ {l:List α} {i:Nat} (h:i < l.length),(l[i] :: l.eraseIdx i).Perm l
 | [],i,h=>by simp at h
 | a :: l,0,h=>by simp
 | a :: l,i+1,h=>by
  have:=KQ (l:=l) (i:=i) (by simpa using h);simp only [List.getElem_cons_succ,ja];exact (lX _ _ _).trans (this.cons a)
theorem zki {α:Type} {next:Nat->Nat}:∀ (fuel k:Nat) (left:List α) (out:Array α),left.length<=fuel->(kO next fuel k left out).toList.Perm (out.toList++left)
 | 0,k,left,out,h=>by
  have:left = []:=cH.mp #[O];subst this;simp [kO]
 | fuel+1,k,left,out,h=>by
  rw [kO];split
  ·next x hx =>
   have hi:next k % left.length < left.length:=by
    rcases fM (next k % left.length) left.length with h' | h'
    ·exact h'
    ·rw [du h'] at hx; cases hx
   have e:left[next k % left.length]=x:=by rw [aI hi] at hx; injection hx
   refine (zki fuel (k+1) _ _ (by rw [List.length_eraseIdx_of_lt hi]; lia)).trans ?_;rw [f9,bu]
   (refine List.Perm.append_left _ ?_)
   rw [List.singleton_append,<- e];exact KQ hi
  ·next hx =>
   have:left = []:=by
    cases left with
    | nil=>rfl
    | cons a l=>rw [aI (fT _ #[M])] at hx; cases hx
   subst this;simp
theorem zlv {α:Type} (next:Nat->Nat) (xs:Array α):(pickOrder next xs).toList.Perm xs.toList:=by
 have:=zki (next:=next) xs.size 0 xs.toList #[] #[M];simpa [pickOrder] using this
noncomputable def zbn (w:World) (a:Addr) (ep:Nat) (es:Array (Int×Value)):Array (Int×Value):=if zaB w=true then es else pickOrder (w.params.setOrder a ep) es
theorem zb0 (w:World) (a:Addr) (ep:Nat) (es:Array (Int×Value)):#[RN].toList.Perm es.toList:=by
 unfold zbn;split
 ·exact .refl _
 ·exact zlv _ _
noncomputable def slotAt (w:World) (t:SetTable) (i:Nat):Nat:=if zaB w=true then (if i=0 then 0 else t.place.getD (i - 1) 0+1) else 0
section
variable {prog:Program} {w:World} {A:Around} {E:Value->Shared->Prop} {s:Shared}
theorem zcL {Q:Bool->Shared->Prop} (h:Q (!zaB w) s):wpAny #[or] A setsByText Q E s:=by
 unfold setsByText;refine aa (gn (ag ?_));unfold zaB at h;rw [Bool.not_not] at h;exact h
theorem zin {a:Addr} {o:Obj} {es:Array (Int×Value)} {i:Nat} {t:SetTable} {Q:Option (Value×Nat)->Shared->Prop} (ho:s.heap.get? a=some o) (hd:o.data = .set es ep t) (P:Pb (zaB w) t es.size) (hi:i<=es.size)
  (h:Q ((#[RN][i]?).map fun e=>(e.2,slotAt w t (i+1))) s):wpAny #[or] A (setNext a #[WM] i ep) Q E s:=by
 have hf:=P.fits;unfold setNext
 (refine aa #[VF])
 dsimp only;refine aa (zcL ?_);cases hl:zaB w with
 | false =>
  rw [jF,if_pos rfl];rw [if_neg #[M]];have e1:zbn w a ep es=pickOrder (w.params.setOrder a ep) es:=by unfold zbn; rw [hl]; rfl
  have e2:∀ j,slotAt w t j=0:=fun j=>by unfold slotAt; rw [hl]; rfl
  rw [e1,e2] at h;rw [e2];refine aa ?_;unfold setWalk
  (refine aa #[VF])
  dsimp only;refine aa (zcL ?_);rw [hl,jF,if_pos rfl];refine aa (gn (ag ?_));exact ag h
 | true =>
  rw [gi,if_neg #[M]];have e1:zbn w a ep es=es:=by unfold zbn; rw [hl]; rfl
  have Ag:SetTable.below t.place #[WM]=i:=by
   unfold slotAt;rw [hl,if_pos rfl];by_cases h0:i=0
   ·rw [if_pos h0,h0]; exact zjb P.b.r
   ·rw [if_neg h0];have nC:i - 1 < t.place.size:=by rw [P.z]; lia
    have:t.place.getD (i - 1) 0=t.place[i - 1]:=by simp [gR,nC]
    rw [this,zja P.b.r nC];lia
  have h2:slotAt w t (i+1)=t.place.getD i 0+1:=by unfold slotAt; rw [hl]; rfl
  rw [e1,h2] at h;split
  ·next Bk =>
   exfalso;have Bk:(!t.plain && decide (es.size > 1))=true:=Bk;rw [P.p] at Bk;simp at Bk
  ·refine aa ?_;show wpAny _ _ (if (!t.led && !es.isEmpty)=true then _ else _) _ _ _;rw [P.b.l,hl];rw [if_neg #[M]];refine ag ?_;rw [Ag];by_cases nC:i < es.size
   ·have hz:i < t.place.size:=by rw [P.z]; exact nC
    rw [bO nC,bO hz];rw [bO nC] at h;have:t.place.getD i 0=t.place[i]:=by simp [gR,hz]
    rw [this] at h;exact ag h
   ·rw [cr #[O]] at h |-;exact ag h
end
theorem za0:Slot "set_iterator" "__next__" "set_iterator.__next__" :=
 .of (owner:="set_iterator") (n:="__next__") (by rw [eW,dm]; kernel_rfl) #[N] #[N] #[N] (by first | exact .inl #[N] | exact .inr #[N]) (by rw [eD]; kernel_rfl)
theorem zd9:Slot "set_iterator" "__iter__" "set_iterator.__iter__" :=
 .of (owner:="set_iterator") (n:="__iter__") (by rw [eW,dm]; kernel_rfl) #[N] #[N] #[N] (by first | exact .inl #[N] | exact .inr #[N]) (by rw [eD]; kernel_rfl)
theorem zds:entryFor table "set_iterator.__next__" = some Builtin.«set_iterator.__next__»:=entryFor_of_fast (by kernel_rfl)
theorem zfX:entryFor table "set_iterator.__iter__" = some Builtin.«dict_keyiterator.__iter__»:=jz (id':="dict_keyiterator.__iter__") (by kernel_rfl) rfl #[N] (by kernel_rfl)
theorem zfH:entryFor table "set.__iter__" = some Builtin.«frozenset.__iter__»:=jz (id':="frozenset.__iter__") (by kernel_rfl) rfl #[N] (by kernel_rfl)
theorem zea (a:Value):argsOk "set_iterator.__next__" ⟨[a],[]⟩:=by unfold argsOk; kernel_rfl
theorem zhe (a:Value):argsOk "set_iterator.__iter__" ⟨[a],[]⟩:=by unfold argsOk; kernel_rfl
noncomputable def SIt (h:Heap) (it a:Addr) (sl i n ep:Nat):Prop:=∃ o,h.get? it=some o/\o.cls = .type "set_iterator"/\o.data = .fields #[rawInt sl,rawInt i,.ref a,rawInt n,rawInt ep]
section
variable {prog:Program} {w:World} {A:Around} {E:Value->Shared->Prop} {s:Shared}
theorem SIt.typeIs {a:Addr} {sl i n:Nat} (h:SIt s.heap it a sl i n ep):s.TypeIs #[Ry] "set_iterator":=let ⟨o,ho,hc,_⟩:=h; ⟨o,ho,hc⟩
theorem zoq {a:Addr} {sl i n:Nat} {Q:Value->Shared->Prop} (hit:SIt s.heap it a sl i n ep) (h:Q #[Ry] s):wpAny #[or] A (pyIter #[Ry]) Q E s:=by
 refine eY hit.typeIs zd9 (br zd9 hit.typeIs zfX ?_ (zhe _))
 (show wpAny _ _ (ret #[Ry]) _ _ s)
 exact ag ⟨_,rfl,"set_iterator",_,hit.typeIs,za0.lookup,h⟩
theorem znk {a:Addr} {o:Obj} {es:Array (Int×Value)} {t:SetTable} {Q:Value->Shared->Prop} (ho:s.heap.get? a=some o) (hex:o.ExactSet) (hd:o.data = .set es ep t) (P:Pb (zaB w) t es.size)
  (h:Q #[t0] { s with heap:=s.heap.push { cls:=.type "set_iterator",data:=.fields #[R3] } }):wpAny #[or] A (pyIter #[RC]) Q E s:=by
 have hf:=P.fits
 (have hT:s.TypeIs #[RC] "set":=⟨o,ho,hex.1⟩)
 refine eY hT F.slot_set_iter (br F.slot_set_iter hT zfH ?_ (F.args_set_iter_1 _));unfold Builtin.«frozenset.__iter__» mG slotArgs
 (simp only [gw,gi,ba,↓reduceIte,bind_assoc,dU,bne_self_eq_false])
 (unfold iW mE)
 refine aa (ag ?_)
 try dsimp only
 refine aa (ag ?_)
 (refine aa (aa (gX ho hd hf (ag ?_))))
 unfold setDrawn;refine aa (aa #[VF]);dsimp only;refine aa (zcL (ag ?_));split
 ·next Bk =>
  exfalso;have Bk:(!!zaB w && (!t.plain && decide (es.size > 1)))=true:=Bk;rw [P.p] at Bk;simp at Bk
 ·exact aa (ag (aa (wpAny_setEpoch_of ho hd hf (aa (bJ (ag ⟨_,rfl,"set_iterator",_,⟨_,aD _ rfl,rfl⟩,za0.lookup,h⟩))))))
theorem next_item {a:Addr} {o:Obj} {es:Array (Int×Value)} {i:Nat} {t:SetTable} {x:Int×Value} {Q:Option Value->Shared->Prop} (hit:SIt s.heap it a #[WM] i es.size ep) (o8:a≠it)
  (ho:s.heap.get? a=some o) (hd:o.data = .set es ep t) (P:Pb (zaB w) t es.size) (hx:#[RN][i]? = some x)
  (hQ:∀ h',SIt h' it a (slotAt w t (i+1)) (i+1) es.size ep->bh it s.heap h'->Q (some x.2) { s with heap:=h' }):wpAny #[or] A #[Tg] Q E s:=by
 have hf:=P.fits;have hi:i<=es.size:=by
  have h1:#[RN].size=es.size:=by rw [<- aC,#[V5].length_eq,aC]
  rcases (fM i es.size) with h | h
  ·lia
  ·rw [cr #[O]] at hx; cases hx
 obtain⟨oi,EL,hci,DR⟩:=id hit;unfold pyNext;refine aa (cp (bv (name:=bT "__next__") hit.typeIs za0 #[Wp]));unfold Builtin.«set_iterator.__next__» slotArgs
 (simp only [gw,gi,ba,↓reduceIte,bind_assoc,dU,bne_self_eq_false])
 refine aa (ag ?_);refine aa (hU EL DR ?_);dsimp only [rawInt];refine aa (gX ho hd hf ?_);rw [if_neg #[M]];refine aa ?_;simp only [bd];refine zin ho hd P hi ?_;rw [hx];show wpAny _ _ (setField (aN it) 0 (c9 (slotAt w t (i+1):Nat) 0) >>= fun _=>setField (aN it) 1 (c9 ((i:Int)+1) 0) >>= fun _=>ret x.2) _ _ s;refine aa (cZ EL DR #[M] ?_);have g1:=bW (fA (·.setIfInBounds 0 (c9 (slotAt w t (i+1):Nat) 0))) EL (dn (bY DR _));have d1:=bY DR (·.setIfInBounds 0 (c9 (slotAt w t (i+1):Nat) 0));refine aa (cZ g1 d1 #[M] ?_);have g2:=bW (fA (·.setIfInBounds 1 (c9 ((i:Int)+1) 0))) g1 (dn (bY d1 _));refine ag ⟨x.2,rfl,ag (hQ _ ⟨_,g2,?_,?_⟩ ((bL ..).trans (bL ..)))⟩
 ·exact (eX ..).trans ((eX ..).trans hci)
 ·rw [bY d1];simp [rawInt]
theorem next_end {a:Addr} {o:Obj} {es:Array (Int×Value)} {t:SetTable} {Q:Option Value->Shared->Prop} (hh:A.handled=none) (hit:SIt s.heap it a (slotAt w t es.size) es.size es.size ep)
  (ho:s.heap.get? a=some o) (hd:o.data = .set es ep t) (P:Pb (zaB w) t es.size) (hQ:∀ h',jo it s.heap h'->Q none { s with heap:=h' }):wpAny #[or] A #[Tg] Q E s:=by
 have hf:=P.fits;have hx:#[RN][es.size]? = none:=cr (by rw [<- aC,#[V5].length_eq,aC]; lia);obtain⟨oi,EL,hci,DR⟩:=id hit;unfold pyNext;refine aa (cp (bv (name:=bT "__next__") hit.typeIs za0 #[Wp]));unfold Builtin.«set_iterator.__next__» slotArgs
 (simp only [gw,gi,ba,↓reduceIte,bind_assoc,dU,bne_self_eq_false])
 refine aa (ag ?_);refine aa (hU EL DR ?_);dsimp only [rawInt];refine aa (gX ho hd hf ?_);rw [if_neg #[M]];refine aa ?_;simp only [bd];refine zin ho hd P (ah _) ?_;rw [hx];show wpAny _ _ (setField (aN it) 2 ci >>= fun _=>newExc (.type "StopIteration") [] >>= fun e=>raiseNew e) _ _ s;refine aa (cZ EL DR #[M] ?_);refine aa ?_;simp only [newExc,newTuple]
 (refine aa (bJ ?_ (by size_fits)))
 (refine aa (m:=firstArgMember _ _) (eB (a:=ci) (by first | rfl | (simp only [firstArgMember]; rfl)) ?_))
 (refine bJ ?_ (by size_fits))
 simp only [raiseNew]
 (refine aa (iu ?_))
 (rw [show A.in1.handled=none from hh])
 (refine aa (ag (jp ?_)))
 (refine aa (dH (T:="StopIteration") (b:=true) ⟨_,aD _ rfl,rfl⟩ fO ?_))
 (exact ag (hQ _ (((bL ..).extBut.push _).push _)))
theorem SIt.at {a:Addr} {sl i n:Nat} (x:SIt h it a sl i n ep) (e:∀ o,h.get? it=some o->h'.get? it=some o):SIt h' it a sl i n ep:=let ⟨o,ho,r⟩:=x; ⟨o,e _ ho,r⟩
theorem zlw (hh:A.handled=none) (I a:Addr) (o8:a≠I) {o:Obj} {es:Array (Int×Value)} {t:SetTable} (hd:o.data = .set es ep t) (P:Pb (zaB w) t es.size) :
  Walks prog w A I [I,a] [I] es.size (fun i v=>(#[RN][i]?).map (·.2)=some v) (fun i h=>SIt h I a #[WM] i es.size ep/\h.get? a=some o) where
 sub:=(fun b hb=>by simp at hb; simp [hb])
 frame:=fun _ _ _ st hk=>⟨st.1.at fun o e=>hk I #[M] o e,hk a #[M] o st.2⟩; item:=fun i s Q E hi st hQ=>by
  have h1:#[RN].size=es.size:=by rw [<- aC,#[V5].length_eq,aC]
  have hx:#[RN][i]? = some (#[RN][i]'#[O]):=bO #[O];refine next_item st.1 o8 st.2 hd P hx fun h' xS pB=>?_
  refine hQ _ h' s.toks (by rw [hx]; rfl) ⟨xS,pB.extBut a o o8 st.2⟩ fun b o hb e=>pB.extBut b o (fun h=>hb (by simp [h])) e
 done:=fun s Q E st hQ=>next_end hh st.1 st.2 hd P fun h' BB=>hQ h' s.toks fun b o hb e=>BB b o (fun h=>hb (by simp [h])) e
 self:=fun _ _ _ _ st hQ=>zoq st.1 hQ
theorem zlx {ord:Array (Int×Value)} {acc:Array Value} (h:ItemsOf (fun i v=>(ord[i]?).map (·.2)=some v) acc ord.size):acc.toList=ord.toList.map (·.2):=by
 refine eZ fun i=>?_
 rw [ao,aT,aT];by_cases hi:i < acc.size
 ·rw [h.2 i _ (bO hi),bO hi]
 ·rw [cr #[O],cr (by have:=h.1; lia)];rfl
theorem zio {a:Addr} {o:Obj} {es:Array (Int×Value)} {t:SetTable} {Q:List Value->Shared->Prop} (hh:A.handled=none) (ho:s.heap.get? a=some o) (hex:o.ExactSet) (hd:o.data = .set es ep t) (P:Pb (zaB w) t es.size)
  (hQ:∀ h' tk,(∀ b o,s.heap.get? b=some o->h'.get? b=some o)->Q (#[RN].toList.map (·.2)) { s with heap:=h',toks:=tk }):wpAny #[or] A (collect #[RC]) Q E s:=by
 have hsz:es.size<=70:=by have:=P.m; lia
 have FZ:#[RN].size=es.size:=by rw [<- aC,#[V5].length_eq,aC]
 have nC:=aG ho;unfold collect
 (refine aa (wpAny_runValue (ji F.entry_proto_collect ?_)))
 (rw [jV F.plain_proto_collect _])
 show wpAny _ A.in1 (newList [] >>= fun l=>again (.builtin "list.__iadd__" ⟨[l,.ref a],[]⟩)) _ _ s
 (refine aa (bJ ?_))
 (refine ag ⟨plainId_quiet k8 _,ji F.entry_list_iadd ?_⟩)
 (rw [jV k8 _])
 show wpAny _ A.in1 (io #[t0] #[RC] #[t0]) _ _ _
 (unfold io)
 generalize hH:s.heap.push { cls:=.type "list",data:=.seq ([]:List Value).toArray }=H
 (have EM:H.objs.size=s.heap.objs.size+1:=by rw [<- hH,bz])
 have xR:H.get? a=some o:=hH ▸ ai _ ho;have hS:H.get? s.heap.objs.size=some { cls:=.type "list",data:=.seq ([]:List Value).toArray }:=hH ▸ aD _ rfl;refine aa (wpAny_typeOf (T:="set") ⟨o,xR,hex.1⟩ ?_);have h1:iX #[t0] #[RC]=false:=by
  unfold iX;simpa using eE nC
 have h2:(fN "set" == fN "list")=false:=by decide
 have h3:(fN "set" == fN "tuple")=false:=by decide
 (simp only [h1,h2,h3,Bool.or_false,ba,if_false])
 refine aa (znk xR hex hd P ?_)
 (refine aa (bQ ?_))
 generalize hG:H.push { cls:=.type "set_iterator",data:=.fields #[R3] }=G;have tZ:G.get? a=some o:=hG ▸ ai _ xR;have DS:G.get? s.heap.objs.size=some { cls:=.type "list",data:=.seq ([]:List Value).toArray }:=hG ▸ ai _ hS;have qZ:G.get? H.objs.size=some { cls:=.type "set_iterator",data:=.fields #[R3] }:=hG ▸ aD _ rfl
 (unfold Builtin.List.listLengthHint)
 refine aa (gK (T:="set") ⟨o,tZ,hex.1⟩ F.slot_set_len.lookup ?_)
 wp_delta
 refine aa (dH (T:="set") (b:=true) ⟨o,tZ,hex.1⟩ (by rw [eD]; kernel_rfl) ?_);show wpAny _ A.in1 (typeOf (aN a) >>= _) _ _ _;refine aa (wpAny_typeOf (T:="set") ⟨o,tZ,hex.1⟩ ?_);refine ag ?_;rw [if_pos #[D]];refine aa (cj ?_);refine aa ?_
 (show wpAny _ A.in1 (updateSeq s.heap.objs.size (·.push .none) >>= fun _=>updateSeq s.heap.objs.size (·.pop)) _ _ _)
 refine aa (wpAny_updateSeq DS rfl ?_);have hS3:=bW (cI (·.push ci)) DS rfl;refine wpAny_updateSeq hS3 rfl ?_;have JB:=bW (cI (·.pop)) hS3 rfl;have JC:∀ b o,b≠s.heap.objs.size->G.get? b=some o->((G.update s.heap.objs.size (cI (·.push ci))).update s.heap.objs.size (cI (·.pop))).get? b=some o :=
  fun b o hb e=>(dN _ _ (cX hb)).trans ((dN _ _ (cX hb)).trans e)
 have F0:H.objs.size≠s.heap.objs.size:=by rw [EM]; exact gp _
 have hSf:s.heap.objs.size∉[H.objs.size,a]:=fun hm=>by
  rcases az.mp hm with e | e
  ·exact F0 e.symm
  ·exact eE nC (aS.mp e)
 have h0:slotAt w t 0=0:=by unfold slotAt; split <;> rfl
 refine ag ⟨plainId_quiet F.plain_extend_loop _,codeAny_extend_loopS ((zlw (prog:=prog) (A:=A.in1) (by simp [hh]) H.objs.size a (by rw [EM]; exact aQ (c7 nC)) hd P).toS) (bq hsz (by rw [show sizeLine=16777216 from rfl]; decide)) _ hSf _ es.size 0 _ _ _ rfl (aZ _)
  ⟨⟨_,JC _ _ F0 qZ,rfl,by rw [h0]; rfl⟩,JC a o (aQ nC) tZ⟩ JB (ItemsOf.nil _) fun s' Di c' hm hS' wm=>?_⟩
 (show wpAny _ A (load s.heap.objs.size >>= _) _ _ s')
 (refine aa (lG hS' ?_))
 (obtain⟨h',g',d',tk',HH⟩:=s')
 obtain rfl:g'=s.gens:=hm.gens;obtain rfl:d'=s.drawn:=hm.drawn;obtain rfl:HH=s.os:=hm.os;show wpAny _ A (pure Di.toList) _ _ _;rw [zlx (ord:=zbn w a ep es) (by rw [FZ]; exact wm)];refine ag (hQ h' tk' fun b ob e=>?_);have hb:=aG e;refine hm.heap b ob (fun Bx=>?_) (JC b ob (aQ hb) (hG ▸ ai _ (hH ▸ ai _ e)));rcases az.mp Bx with e' | e'
 ·exact aQ hb e'
 ·rw [aS.mp e',EM] at hb;exact absurd hb (Nat.not_lt.mpr (gc _))
end
end L2
end
section
namespace L2
open PySem PySem.Spec PyProof.Rows Srt
variable {H:Hp} {X:Cx} {mO:List (Addr×Obj)} {ns:List Int} {s:Shared}
noncomputable def zfI:Value->Int
 | .int n _=>n
 | _=>0
theorem zfJ:∀ {vs:List Value},(∀ v∈vs,∃ n t,v=c9 n t)->zM ((vs.map zfI).map V.int) vs
 | [],_=>.nil
 | v :: vs,h=>by
  obtain⟨n,t,rfl⟩:=h v aE;exact .cons ⟨t,rfl⟩ (zfJ fun u hu=>h u (aq _ hu))
theorem zly:∀ {vs:List Value} {ns:List Int},IntsAre vs ns->2<=vs.length->keyKind' vs.toArray=pure oneType'
 | [],_,_,h=>by simp at h
 | [_],_,_,h=>by simp at h
 | _ :: _ :: _,_,hI,_=>keyKind_ints hI
theorem zjg (v:Value):vInt v=zfI v:=by cases v <;> rfl
theorem zeB:∀ {vs:List Value},(∀ v∈vs,∃ n t,v=c9 n t)->IntsAre vs (vs.map zfI)
 | [],_=>.nil
 | v :: vs,h=>by
  obtain⟨n,t,rfl⟩:=h v aE;exact .cons n t (zeB fun u hu=>h u (aq _ hu))
theorem ziq (hc:X.calm=true) {σ:St} {a:Addr} {Q:VK} (I:Inv X mO σ H s) (hS:zeL X.prog X.w (zaB X.w) s.heap a ns)
  (q:∀ (l:Addr) (ms:List Int),H l=none->ms.Perm ns->(ms.Pairwise fun a b=>a<=b)->Q #[SX] (mR H l (.lst #[Sb]))) :
  wpAny #[on] X.A (call (.builtin "sorted") [.ref a]) #[P3] X.xe s:=by
 obtain⟨o,es,ep,t,ho,hex,hd,DO,hp,yZ,P⟩:=hS;have hsz:es.size<=70:=by have:=P.m; lia
 obtain⟨vs,ev⟩:∃ vs,vs=(zbn X.w a ep es).toList.map (·.2):=⟨_,rfl⟩;have hpv:(vs.map zfI).Perm ns:=by
  rw [ev,bD];refine dW ?_ hp;have:=#[Xq].map fun e=>vInt e.2
  refine dW (List.Perm.of_eq ?_) this;exact cv fun e _=>(zjg e.2).symm
 have pU:∀ v∈vs,∃ n t,v=c9 n t:=fun v hv=>by
  rw [ev] at hv;obtain⟨e,he,rfl⟩:=be.mp hv;obtain⟨⟨k,hk,_⟩,_⟩:=DO e (#[Xq].mem_iff.mp he);obtain⟨t,h⟩:=kP hk;exact⟨k,t,h⟩
 have hI:=zeB pU;have hl:vs.length<=70:=by rw [ev,ae,#[Xq].length_eq,aC]; exact hsz
 have qJ:sizeLine=16777216:=rfl;refine zek (vs:=vs) (κ:=oneType') (val:=fun p=>zfI p.1) #[O] (fun R hR=>?_) #[T9] (fun s' A' kk=>?_) fun h' tk out e D kk hD Ab F4 hs=>?_
 ·refine zio (A:=X.A.in1) (by rw [show X.A.in1.handled=X.A.handled by simp]; exact I.ok.hd hc) ho hex hd P fun h' tk k=>?_
  rw [<- ev];exact hR h' tk k
 ·rw [zly hI h2];exact ag uw
 ·intro x y hx hy Q E hQ;obtain⟨a,t,ex⟩:=pU _ (zcn hx).1;obtain⟨b,t',ey⟩:=pU _ (zcn hy).1;rw [keyLt'_oneType,ex,ey];simp only [ex,ey,zfI] at hQ;exact oneLt_int hQ
 ·have ho:∀ v∈out.toList,∃ n t,v=c9 n t:=fun v hv=>pU v (F4.mem_iff.mp hv)
  have nj:=F4.length_eq;obtain⟨hn,I2⟩:=I.above (tk:=tk) (D:=D) (o:=.lst ((out.toList.map zfI).map V.int)) kk hD ⟨by rw [ae,ae]; lia,out.toList,e,zfJ ho,by simpa using Ab⟩;exact⟨.ref D,_,I2,rfl,q D _ hn ((F4.map _).trans hpv) (d7.mpr hs)⟩
end L2
end
section
namespace L2
open PySem PySem.Spec PyProof.Rows
variable {A:Around} {H H' H2:Hp} {J:It} {R:Result->Shared->Prop} {elt i1 iter:Expr} {env:Env} {f1:List Expr} {fp:List Addr} {h:Heap} {it:Addr} {led:Bool} {mO pz:List (Addr×Obj)} {ns:List Int} {pos:Pos} {prog:Program} {s s' s2:Shared} {scope:Scope} {te:TE} {tk:Nat} {tn:Nat->Heap->Prop} {ts:TT} {w:World} {σ0:St}
noncomputable def dds (ys:List V):List Int:=ys.foldl (fun acc v=>match v with
 | .int n=>et acc n
 | _=>acc) []
theorem zir (ys:List V) (n:Int):dds (ys++[.int n])=et (dds ys) n:=by
 unfold dds;rw [iG];rfl
noncomputable def SJ (P:Program) (w:World) (a:Addr) (ns:List Int):HO:=HO.ext fun h=>zeL P w (zaB w) h a ns
theorem zqA {P:Program} {a:Addr} (hS:zeL P w (zaB w) h a ns):zab P w H h a (SJ P w a ns) :=
 ⟨hS,let ⟨o,_,_,_,ho,_⟩:=hS; ⟨o,ho⟩,fun _ _ x k=>x.at k⟩
structure PD (Y:Cx) (mO:List (Addr×Obj)) (H:Hp) (s:Shared) (D:Addr) (ys:List V) (ob:Obj):Prop where
 fp:zbL Y mO H D
 here:s.heap.get? D=some ob
 set:zeL Y.prog Y.w (zaB Y.w) s.heap D (dds ys)
section
variable {Y:Cx} {mO:List (Addr×Obj)} {σ:St} {H:Hp} {s:Shared} {D:Addr} {ys:List V} {ob:Obj}
theorem PD.pin (a:PD Y mO H s D ys ob) (I:Inv Y mO σ H s):Inv Y (mO++[(D,ob)]) σ H s :=
 I.Mw fun p hp=>by
  rcases (aP.mp hp) with hp | hp
  ·exact I.pin p (ar _ hp)
  ·obtain rfl:p=(D,ob):=by simpa using hp
   obtain⟨a0,a1,a2,_⟩:=a.fp;obtain⟨o,es,ep,t,ho,hex,hd,_⟩:=a.set;have e:ob=o:=aO (a.here.symm.trans ho);exact⟨a.here,a0,a1,a2,fun v z=>by rw [e,hd] at z; cases z⟩
theorem PD.back {σ':St} (a:PD Y mO H s D ys ob) (I:Inv Y pz σ' H' s') (hm:(D,ob)∈pz):PD Y mO H' s' D ys ob:=by
 have p:=I.pin (D,ob) (ar _ hm);exact⟨⟨p.2.1,a.fp.2⟩,p.1,a.set.at fun o e=>by rw [a.here] at e; cases e; exact p.1⟩
end
noncomputable def PMS (Y:Cx) (D:Addr) (js:List Nat) (mk:Sem Fin->Sem Fin) (tm:TM):Prop :=
 ∀ (last:Sem Fin) (mO:List (Addr×Obj)) (s:Shared) (σ:St) (H:Hp) (ys:List V) (ob:Obj) (Q:List V->Hp->Prop) (Φ:Fin->Shared->Prop),Inv Y mO σ H s->PD Y mO H s D ys ob->zcV js σ->tm ys σ H Q ->
  (∀ (s':Shared) (rR:List V) (F5:Obj) (H':Hp),Inv Y mO σ H' s'->PD Y mO H' s' D rR F5->Q rR H'->wpAny #[RG] Y.A last Φ #[Rt] s') ->
  wpAny #[RG] Y.A (mk last) Φ #[Rt] s
noncomputable def zhf (elt:Expr) (acc:Value) (env:Env) (last:Sem Fin):Sem Fin:=(eval elt env >>= fun x=>standAt elt.pos >>= fun _=>call (.builtin "set.add") [acc,x] >>= fun _=>pure ()) >>= fun _=>last
noncomputable def zhg (te:TE):TM:=fun ys σ H Q=>te σ H fun y H4=>∃ n:Int,y = .int n/\0<=n/\n < 97/\(dds ys).length < 69/\Q (ys++[y]) H4
theorem zlz {E:Value->Shared->Prop} {a:Addr} {n:Int} {Q:Value->Shared->Prop} (hS:zeL prog w led s.heap a ns) (CL:ns.length+1<=70) (h0:0<=n) (FY:n < 97)
  (h:∀ h',bh a s.heap h'->zeL prog w led h' a (et ns n)->Q .none { s with heap:=h',toks:=s.toks+1 }) :
  wpAny #[or] A (call (.builtin "set.add") [.ref a,.int n tk]) Q E s:=by
 have hT:s.TypeIs #[RC] "set":=by
  obtain⟨o,es,ep,t,ho,hex,_⟩:=hS;exact⟨o,ho,hex.1⟩
 refine br F.slot_set_add hT F.entry_set_add ?_ (F.args_set_add_2 _ _)
 (unfold Builtin.«set.add» mv)
 (simp only [gw,bind_assoc])
 (unfold iW setAdd)
 refine aa (ag ?_)
 try dsimp only
 refine aa (ag ?_)
 try dsimp only
 refine aa ?_;refine bQ ?_;refine aa (#[RO].pyHash (k:=n) (intKind_is _ _ _ _) ?_);refine znj (s:={ s with toks:=s.toks+1 }) hS CL h0 FY fun h' b oM DS=>?_
 exact ag ⟨.none,rfl,h h' oM DS⟩
theorem zor {Y:Cx} {D:Addr} (hx:Y.xe=fun _ _=>False) (he:PE Y elt te):PMS Y D [] (zhf elt #[Ri] Y.env) (zhg te):=by
 intro last mO s σ H ys ob Q Φ I a no h k;unfold zhf;refine aa (aa (thx hx (he (mO++[(D,ob)]) s σ H _ (a.pin I) h) fun yv s1 ⟨y,H1,I1,r1,n,ey,n0,n1,hz,q1⟩=>aa #[Xn]));subst ey;obtain⟨tk,rfl⟩:=r1;have a1:=a.back I1 #[XC];have J1:Inv Y mO σ H1 s1:=I1.Np fun p hp=>aH _ hp
 refine zlz a1.set #[O] n0 n1 fun h' oM DS=>ag ?_
 obtain⟨b0,b1,b2,b3,b4,b5⟩:=a1.fp;have HQ:Inv Y mO σ H1 { s1 with heap:=h',toks:=s1.toks+1 }:=J1.turned (t':=s1.toks+1) (fun b o hb e=>(oM.2 b hb).trans e) b0 b1 b3 b4 b5;obtain⟨o,es,ep,t,ho,_⟩:=id DS;exact k _ (ys++[.int n]) o H1 HQ ⟨a1.fp,ho,by rw [zir]; exact DS⟩ q1
section
variable {Y:Cx} {D:Addr} {js js':List Nat} {elt:Expr} {gens:List Comprehension} {scope:Scope} {pos:Pos} {d:Nat} {tg:Expr} {ifs:List Expr} {p:Pos} {mk:Sem Fin->Sem Fin} {g:TG} {ts:TT} {tm:TM}
theorem znl (hc:Y.calm=true) (hx:Y.xe=fun _ _=>False) (xH:GS js g) (qc:∀ j∈js,j∉js') (hg:PG Y tg g) (ht:zdx Y ifs ts) (hm:PMS Y D js' mk tm)
  (oO:∀ it,compTurn #[Db] d it #[Ri] Y.env=zbs tg ifs p mk (.compLoop #[Db] d it #[Ri] Y.env) it Y.env)
  {σ:St} {Q:List V->Hp->Prop} {ys:List V} {ob:Obj}
  (I2:Inv Y mO σ H2 s2) (a2:PD Y mO H2 s2 D ys ob) (no:zcV (js++js') σ) (T:Turn Y.prog Y.w Y.K tg J fp it tn) (nR:tn 0 s2.heap) (f2:∀ b∈fp,zbL Y mO H2 b) (fD:∀ b∈fp,b≠D) (q:cIn g ts tm σ J Q ys H2)
  (hR:∀ (s':Shared) (rR:List V) (F5:Obj) (H':Hp),Inv Y mO σ H' s'->PD Y mO H' s' D rR F5->Q rR H'->R (.ok .next) s') :
  codeAny #[RG] Y.A (.compLoop #[Db] d #[Ry] #[Ri] Y.env) R s2:=by
 obtain⟨W,⟨m0,w0⟩,turn⟩:=q;have xI:∀ {H':Hp} {ob:Obj},(∀ b∈fp,H' b=none)->∀ b∈fp,zbL Y (mO++[(D,ob)]) H' b:=fun {H' ob} hn b hb=>by
  obtain⟨_,a1,a2,a3,a4,a5⟩:=f2 b hb;refine#[Yd];rcases (aP.mp hp) with hp | hp
  ·exact a5 p (aH _ hp)
  ·rcases (aP.mp hp) with hp | hp
   ·exact a5 p (ar _ hp)
   ·obtain rfl:p=(D,ob):=by simpa using hp
    exact (fD b hb).symm
 refine codeAny_loop rfl (fun n s'=>∃ i ys H' ob,Inv Y mO σ H' s'/\tn i s'.heap/\(∀ b∈fp,H' b=none)/\PD Y mO H' s' D ys ob/\W i n ys H') ?_ m0
  ⟨0,ys,H2,ob,I2,nR,fun b hb=>(f2 b hb).1,a2,w0⟩
 rintro n s5 ⟨i,ys,H5,ob,I5,Bq,fr5,a5,w5⟩;show wpAny _ Y.A ((compTurn #[Db] d #[Ry] #[Ri] Y.env).onRaise (fun x=>do noteFrame x Y.env; theTreesLotGoes x)) _ _ s5;refine wpAny_noted ?_;rw [oO];unfold zbs;have Fe:=a5.pin I5
 (refine aa #[Xn])
 rcases turn i n ys H5 w5 with ⟨stop,qn⟩ | ⟨go,N,hN,step⟩
 ·refine bR #[To] (fun r s6 ⟨hr,I6⟩=>?_) fun _ _ z=>z.elim
  subst hr;exact ag (hR s6 ys ob H5 (I6.Np fun p hp=>aH _ hp) (a5.back I6 #[XC]) qn)
 ·refine bR #[Tu] (fun r s6 ⟨u,hr,h6⟩=>?_) fun _ _ z=>z.elim
  subst hr;refine aa (bR h6 (fun _ s7 ⟨x,H7,I7,r7,y7,C3,fr7⟩=>?_) fun _ _ z=>z.elim);have HR:=I7.pinned (xI fr7) (T.obj _ _ C3);refine aa (thx hx #[S8] fun _ s8 ⟨σ8,H8,I8,kp,q8⟩=>?_);refine aa (thx hx (ht _ s8 σ8 H8 _ I8 q8) fun ok s9 ⟨H9,I9,q9⟩=>?_);have mD:(D,ob)∈(mO++[(D,ob)])++zbM fp s7.heap:=aH _ #[XC];have a9:=a5.back I9 mD;have K9:Inv Y #[Ss] σ8 H9 s9:=I9.Np fun p hp=>(aP.mp hp).elim (fun z=>aH _ (aH _ z)) fun z=>ar _ z
  have wk:∀ (j:Nat) v,σ[j]? = some #[Vp]->σ8[j]? = some #[Vp]:=fun j v e=>by
   have hj:j∉js:=fun z=>no j (aH _ z) v e
   rw [kp.2 j hj];exact e
  have back:∀ {H':Hp} {s':Shared},Inv Y #[Ss] σ8 H' s'->Inv Y mO σ H' s'/\tn (i+1) s'.heap/\∀ b∈fp,H' b=none:=fun {H' s'} I'=>by
   refine⟨(I'.Np fun p hp=>aH _ hp).weak kp.1.symm wk,T.keep _ _ _ C3 fun b hb o e=>#[RS].1,fun b hb=>?_⟩;obtain⟨o,e,d⟩:=T.obj _ _ C3 b hb;exact #[RS].2.1
  cases ok with
  | false =>
   rw [if_neg aJ] at q9 |-;obtain⟨m',Bx,w9⟩:=hN _ _ q9;obtain⟨b1,b2,b3⟩:=back K9;exact ag ⟨rfl,m',Bx,i+1,ys,H9,ob,b1,b2,b3,a9,w9⟩
  | true =>
   rw [if_pos rfl] at q9 |-;have HS:PD Y #[Ss] H9 s9 D ys ob:=by
    obtain⟨b0,b1,b2,b3,b4,b5⟩:=a9.fp;refine⟨⟨b0,b1,b2,b3,b4,fun p hp=>?_⟩,a9.here,a9.set⟩;rcases (aP.mp hp) with hp | hp
    ·exact b5 p (aH _ hp)
    ·rcases (aP.mp hp) with hp | hp
     ·exact b5 p (ar _ hp)
     ·exact fD _ (zed hp).1
   have HU:zcV js' σ8:=fun j hj v e=>by
    have rj:j∉js:=fun z=>qc j z hj
    rw [kp.2 j rj] at e;exact no j (ar _ hj) v e
   refine bR (hm (again _) _ s9 σ8 H9 ys ob N (fun fin s'=>match fin with | .done f=>R (.ok f) s' | .again c'=>c'=_/\∃ m,m < n/\_) K9 HS HU q9 fun s' rR F5 H' I' a' n'=>?_) (fun _ _ z=>z) fun _ _ z=>z.elim
   obtain⟨m',Bx,w'⟩:=hN _ _ n';obtain⟨b1,b2,b3⟩:=back I';obtain⟨c0,c1,c2,c3,c4,c5⟩:=a'.fp;refine ag ⟨rfl,m',Bx,i+1,rR,H',F5,b1,b2,b3,⟨#[Uy],a'.here,a'.set⟩,w'⟩;rcases (aP.mp hp) with hp | hp
   ·exact c5 p (aH _ hp)
   ·exact c5 p #[VT]
theorem zlA {it acc:Value} (hd:gens[d]? = some ⟨tg,iter,ifs,0⟩)
  (h0:codeAny #[or] A (.compLoop #[Db] d it acc env) R s)
  (h:wpAny #[or] A (pyIter it) (fun C4 s'=>codeAny #[or] A (.compLoop #[Db] d C4 acc env) R s') #[Rt] s) :
  codeAny #[or] A (.compStart #[Db] d it acc env) R s:=by
 refine codeAny_of_tree ?_;show wpAny _ _ ((compStart #[Db] d it acc env).onRaise (fun x=>do noteFrame x env; standAt theWindowsPlace)) _ _ s;refine wpAny_notedAt ?_;unfold compStart;have e1:(clausesOf #[Db])[d]? = some ⟨tg,iter,ifs,0⟩:=hd;rw [e1]
 (show wpAny _ _ (ask >>= _) _ _ s)
 (refine aa (gn (wpAny_ite ?_)))
 split
 ·first
   | (exact aa (ag (ag ⟨rfl,h0⟩)))
   | (exact ag ⟨rfl,h0⟩)
 ·first
   | exact aa (cj (aa (di (aa (bR h #[Sv] fun _ _ x=>x.elim)))))
   | (refine aa (cj ?_); show wpAny _ _ (standAt iter.pos >>= _) _ _ s; exact aa (di (aa (bR h #[Sv] fun _ _ x=>x.elim))))
end
section
variable {X:Cx} {elt tg iter:Expr} {ifs:List Expr} {gs:List Comprehension} {scope:Scope} {pos:Pos} {N':List Str} {ix:List #[AC]} {js js':List Nat} {g:TG} {ts:TT} {tm:TM} {mk:Addr->Env->Sem Fin->Sem Fin}
theorem zis {σ:St} {Q:VK} {E:Value->Shared->Prop} {RR:Value->Addr->Result->Shared->Prop}
  (SC:Kr X N' ix scope) (hc:X.calm=true) (xH:GS js g) (qc:∀ j∈js,j∉js') (yL:∀ j∈js++js',ix[j]? = some none)
  (hg:∀ s₃ H₃ ex mO,PG #[mt] tg g) (ht:∀ s₃ H₃ ex mO,zdx #[mt] ifs ts) (hm:∀ s₃ H₃ ex mO D,PMS #[mt] D js' (mk D #[mt].env) tm)
  (oO:∀ it D env,compTurn #[Rc] 0 it #[Ri] env=zbs tg ifs iter.pos (mk D env) (.compLoop #[Rc] 0 it #[Ri] env) it env)
  (I2:Inv X mO σ H2 s2) (T:Turn X.prog X.w X.K tg J fp it tn) (nR:tn 0 s2.heap) (f2:∀ b∈fp,zbL X mO H2 b) (q:cIn g ts tm #[UD] J (fun ys H'=>∀ D,H' D=none->Q #[Ri] #[RX]) [] H2)
  (HV:∀ (D C:Addr) (s':Shared) (ys:List V) (H':Hp) (m:Str->Option Value),Inv X mO σ #[RX] s'->zbL X mO #[RX] C->s'.heap.Ns C m->Q #[Ri] #[RX]->RR #[Ri] C (.ok .next) s') :
  wpAny #[on] X.A (newSet (.type "set")) (fun acc s₃=>wpAny #[on] X.A (newFunctionEnv scope X.env.globals (zR X.env.cells scope.names []) [] X.env.qual none .none (some X.env)) (fun yM s₄ =>
   codeAny #[on] X.A (.compStart #[Rc] 0 #[Ry] acc { yM with scope:=relabel scope X.env }) (RR acc yM.locals) s₄) E s₃) E s2:=by
 have yN:∀ y∈scope.names,y.2 = .free->∃ c,X.env.cells.lookup y.1=some c:=fun y hy hf=>I2.ok.has y.1 #[Ui]
 have ub:∀ x c,(zR X.env.cells scope.names []).lookup x=some c->X.env.cells.lookup x=some c:=zbB scope.names [] yN (fun x c e=>by simp at e);unfold newSet;refine aa (zcL ?_);show wpAny _ _ (newObj (.type "set") (.set #[] 0 (.fresh (finger:=0) (moves:=0) (led:=!(!zaB X.w))))) _ _ _;rw [Bool.not_not];refine bJ (zge ?_);have I3:Inv X mO σ H2 { s2 with heap:=s2.heap.push { cls:=.type "set",dict:=none,data:=.set #[] 0 #[RK] } }:=I2.kept (t':=s2.toks) fun b o e=>ai _ e
 have C5:(s2.heap.push { cls:=.type "set",dict:=none,data:=.set #[] 0 #[RK] }).get? s2.heap.objs.size=some { cls:=.type "set",dict:=none,data:=.set #[] 0 #[RK] }:=aD _ rfl;have yO:tn 0 (s2.heap.push { cls:=.type "set",dict:=none,data:=.set #[] 0 #[RK] }):=T.keep _ _ _ nR fun b hb o e=>ai _ e
 have yP:(s2.heap.push { cls:=.type "set",dict:=none,data:=.set #[] 0 #[RK] }).objs.size=s2.heap.objs.size+1:=bz _ _;generalize hh3:s2.heap.push { cls:=.type "set",dict:=none,data:=.set #[] 0 #[RK] }=h3 at *;have C6:=T.obj _ _ nR;have vm:∀ b∈fp,b < s2.heap.objs.size:=fun b hb=>by obtain⟨o,e,_⟩:=C6 b hb; exact aG e
 have stk:∀ b∈frs X.stack,b=X.env.locals\/b∈X.fs:=fun b hb=>az.mp (I2.Ou b hb)
 have yQ:zbL X mO H2 s2.heap.objs.size:=I2.NP (ah _) I2.fresh;have rk:∀ b∈s2.heap.objs.size :: fp,zbL X mO H2 b:=fun b hb=>by
  rcases (az.mp hb) with e | hb
  ·rw [e]; exact yQ
  ·exact f2 b hb
 have wj:∀ b∈s2.heap.objs.size :: fp,b < h3.objs.size:=fun b hb=>by
  rw [yP];rcases (az.mp hb) with e | hb; · rw [e]; exact fm _
  ·exact c7 (vm b hb)
 have vn:∀ b∈s2.heap.objs.size :: fp,b∉frs X.stack:=fun b hb z=>by
  obtain⟨_,a1,a2,_⟩:=rk b hb;rcases stk b z with e | e
  ·exact a1 e
  ·exact a2 e
 have hns₁:(pushCells (h3.push { cls:=.type "dict",data:=.dict #[] }) scope.names).Ns h3.objs.size #[Ym]:=(mJ h3 (.type "dict")).keeps (gJ _ _);have old:∀ b o,h3.get? b=some o->(pushCells (h3.push { cls:=.type "dict",data:=.dict #[] }) scope.names).get? b=some o:=fun b o e=>gJ _ _ b o (ai _ e)
 have C7:∀ x c,X.env.cells.lookup x=some c->c < h3.objs.size:=fun x c e=>by
  obtain⟨v,q⟩:=I3.cell x c e;exact q.lt
 have co:CO (pushCells (h3.push { cls:=.type "dict",data:=.dict #[] }) scope.names) #[Ix] (zR X.env.cells scope.names []) (cellsFrom #[Ix] scope.names (zR X.env.cells scope.names [])):=by
  have:=zjt (lo:=h3.objs.size+1) (old:=zR X.env.cells scope.names []) scope.names (h3.push { cls:=.type "dict",data:=.dict #[] }) (zR X.env.cells scope.names [])
   #[RZ] (by rw [bz]; exact ah _)
  rw [bz] at this;exact this
 generalize pushCells (h3.push { cls:=.type "dict",data:=.dict #[] }) scope.names=h₁ at hns₁ old co |-;have C8:∀ {x c},(cellsFrom #[Ix] scope.names (zR X.env.cells scope.names [])).lookup x=some c->(h₁.IsCell c none/\h3.objs.size+1<=c)\/X.env.cells.lookup x=some c:=fun {x c} e=>(co.each x c e).elim .inl fun z=>.inr (ub x c z.1)
 have Ff:∀ x,scope.names.lookup x=some .free->(cellsFrom #[Ix] scope.names (zR X.env.cells scope.names [])).lookup x=(zR X.env.cells scope.names []).lookup x:=fun x hx=>zfb _ _ _ _ fun z=>by
  have:=SC.cells _ z rfl;rw [hx] at this;cases this
 let s3:Shared:={ s2 with heap:=h3 }
 let Y:Cx:=zN X N' scope s3 H2 #[Yr] mO
 have rV:Inv X mO σ H2 s3:=I3;have Fg:Y.Ok:=by
  refine#[NE]
  ·have v7:=zcA (env:=X.env) (names:=scope.names) (x:=x) hx;rcases v7 with v7 | v7
   ·obtain⟨c,e⟩:=zbr (cs:=X.env.cells) scope.names [] x (.inr #[V7]);exact⟨c,(Ff x v7).trans e⟩
   ·obtain⟨c,e,_⟩:=zeg scope.names #[Ix] (zR X.env.cells scope.names []) x #[V7];exact⟨c,e⟩
  ·obtain⟨c',e',l'⟩:=zeg scope.names #[Ix] (zR X.env.cells scope.names []) x (lookup_mem (by have z':(scope.names.lookup x == some cW)=true:=z; simpa using z'));have e2:(cellsFrom #[Ix] scope.names (zR X.env.cells scope.names [])).lookup x=some c:=e;rw [e'] at e2;cases e2;exact dZ l'
  ·refine⟨aQ (wj b hb),fun x c e=>(C8 e).elim (fun z y=>?_) fun z=>(rk b hb).2.2.2.2.1 x c z⟩;subst y;exact cm _ (aU (wj _ hb) (dZ z.2))
  ·exact bq I2.ok.bsz rV.sz
  ·obtain⟨_,_,_,a3,_⟩:=rk b hb;rcases a3 with z | z
   ·exact I2.ok.Qi b o e z
   ·have:=(I2.ok.bs b o e).1;exact absurd (aU (aG this) z) (cm _)
 have zkz:Inv Y [] #[UD] H2 { s3 with heap:=h₁ }:=by
  refine⟨Fg,rfl,I2.bare,Un.kept old,#[Wz],fun x c e=>?_,rV.fresh,fun x c e=>(C8 e).elim (fun z=>rV.hok.fresh (dZ z.2)) fun z=>I2.KS x c z,fun p hp=>?_,rV.hok.kept old,?_⟩
  ·unfold zbG at e2;rw [ao] at e2;cases hj:ix[j]? with
   | none=>rw [hj] at e2; simp at e2
   | some oi =>
    rw [hj] at e2;cases oi with
    | none=>simp at e2
    | some i =>
     obtain⟨y,h1,h2,By⟩:=SC.cap j i hj;have GZ:y=x:=by
      have Fh:N'[j]? = some x:=e1;rw [h1] at Fh;exact aO Fh
     subst GZ;have yR:(σ[i]?).join=some v:=by simpa using e2
     have C9:σ[i]? = some #[Vp]:=by
      cases hs:σ[i]? with
      | none=>rw [hs] at yR; simp at yR
      | some w=>rw [hs] at yR; simp at yR; rw [yR]
     obtain⟨m,hn,hl⟩:=rV.loc;have hk:=SC.free (y,.free) #[V8] rfl;have De:Vis X.env.scope y:=hk.elim (fun z=>.inr (.inl z)) fun z=>.inr (.inr z)
     obtain⟨u,r,l⟩:=hl i y v h2 C9 De;refine⟨u,r,.inr ⟨za4 By,?_⟩⟩;obtain⟨c,oK⟩:=zbr (cs:=X.env.cells) scope.names [] y (.inr #[V8]);refine⟨c,(Ff y By).trans oK,?_⟩;rcases l with ⟨ux,_⟩ | ⟨_,c',nh,p8⟩
     ·rcases hk with hk | hk
      ·have uc:X.env.kindOf y=some .cell:=hk;rw [uc] at ux; cases ux
      ·have uc:X.env.kindOf y=some .free:=hk;rw [uc] at ux; cases ux
     ·have:=ub y c oK;rw [nh] at this;cases this;obtain⟨o,ho,hd⟩:=p8;exact⟨o,old _ _ ho,hd⟩
  ·rcases C8 e with z | z
   ·exact⟨_,z.1⟩
   ·obtain⟨v,o,ho,hd⟩:=rV.cell x c z;exact⟨v,o,old _ _ ho,hd⟩
  ·have rQ:p∈X.pn++mO:=by
    have:p∈(X.pn++mO)++([]:List (Addr×Obj)):=hp;simpa using this
   obtain⟨a1,a2,a3,a4,a5⟩:=rV.pin p rQ;exact⟨old _ _ a1,a2,aQ (aG a1),fun z=>(stk _ z).elim a3 a4,a5⟩
  ·unfold zbG;rw [ae];exact SC.len.symm
 have xI:∀ {H':Hp},(∀ b∈s2.heap.objs.size :: fp,H' b=none)->∀ b∈s2.heap.objs.size :: fp,zbL Y [] H' b:=fun {H'} hn b hb=>by
  obtain⟨_,a1,a2,a3,a4,a5⟩:=rk b hb;refine⟨hn b hb,aQ (wj b hb),vn b hb,.inl hb,(Fg.exf b hb).2,fun p hp=>?_⟩;have:p∈(X.pn++mO)++([]:List (Addr×Obj)):=hp;exact a5 p (by simpa using this)
 have Fi:∀ b∈s2.heap.objs.size :: fp,H2 b=none:=fun b hb=>(rk b hb).1
 have Bs:zcV (js++js') #[UD]:=fun j hj v e=>by
  unfold zbG at e;rw [ao,yL j hj] at e;simp at e
 have loop:∀ s₅:Shared,s₅ = { s2 with heap:=h₁ } ->
   codeAny #[on] X.A (.compLoop #[Rc] 0 #[Ry] #[Tk] (compEnvC scope (cellsFrom #[Ix] scope.names (zR X.env.cells scope.names [])) h3.objs.size X.env)) (RR #[Tk] h3.objs.size) s₅:=by
  rintro s₅ rfl;refine znl (Y:=Y) (mO:=[]) (σ:=zbG ix σ) (ob:={ cls:=.type "set",dict:=none,data:=.set #[] 0 #[RK] }) hc rfl xH qc (hg s3 H2 _ mO) (ht s3 H2 _ mO) #[Wc] (fun it=>oO it _ _) zkz ⟨xI Fi _ aE,old _ _ C5,zjf (led:=zaB X.w) (show _=some (zqz (zaB X.w)) from old _ _ C5)⟩ Bs T (T.keep _ _ _ yO fun b hb o e=>old b o e)
   (fun b hb=>xI Fi b (aq _ hb)) (fun b hb=>aQ (vm b hb)) q fun s6 ys ob H5 I6 a6 qn=>?_
  have Fj:H5 s2.heap.objs.size=none:=a6.fp.1;have I7:Inv X mO σ H5 s6:=by
   refine rV.Qx (s':=s6) (ch:=s2.heap.objs.size :: fp) I6.os I6.base I6.hok I6.bare fun b hb=>?_
   obtain⟨_,a1,a2,a3,a4,a5⟩:=rk b hb;exact⟨a3,a1,a4,a5⟩
  have I8:Inv X mO σ (mR H5 s2.heap.objs.size #[So]) s6:=by
   obtain⟨_,a1,a2,a3,a4,a5⟩:=yQ;exact I7.Pd Fj I2.sz (cX a1) a4 a5 (zqA a6.set)
  obtain⟨mm,Fk,_⟩:=I6.loc;have HW:h3.objs.size≠s2.heap.objs.size:=by rw [yP]; exact gp _
  refine HV _ _ s6 ys H5 mm I8 (rV.NP (H':=mR H5 s2.heap.objs.size #[So]) (ah _) ?_) Fk (qn _ Fj);show mR H5 s2.heap.objs.size #[So] h3.objs.size=none;rw [zg HW];exact I6.free
 exact zlA rfl (loop _ rfl) (T.self _ 0 _ _ _ (T.keep _ _ _ yO fun b hb o e=>old b o e) (loop _ rfl))
end
theorem zpN {t1:Expr} (it:Value) (D:Addr) (env:Env):compTurn (.SetComp elt [⟨t1,i1,f1,0⟩] scope pos) 0 it #[Ri] env =
  zbs t1 f1 i1.pos (zhf elt #[Ri] env) (.compLoop (.SetComp elt [⟨t1,i1,f1,0⟩] scope pos) 0 it #[Ri] env) it env:=by rfl
noncomputable def zpO (P:Program) (w:World) (ix:List #[AC]) (wi:TI) (g:TG) (ts:TT) (te:TE):TE:=fun σ H Q=>wi σ H fun J H1=>cIn g ts (zhg te) #[UD] J (fun ys H'=>∀ D,H' D=none->Q #[Ri] (mR H' D (SJ P w D (dds ys)))) [] H1
theorem zos {X:Cx} {P:Program} {w:World} {elt tg iter:Expr} {ifs:List Expr} {scope:Scope} {pos:Pos} {N':List Str} {ix:List #[AC]} {g:TG} {ts:TT} {te:TE} {wi:TI} (hP:X.prog=P) (hw:X.w=w) (SC:Kr X N' ix scope) (hc:X.calm=true) (hk:GK ix g) (hi:PI X tg iter wi)
  (hg:∀ s₃ H₃ ex mO,PG #[mt] tg g) (ht:∀ s₃ H₃ ex mO,zdx #[mt] ifs ts) (he:∀ s₃ H₃ ex mO,PE #[mt] elt te)
  (hs:∀ x,foldedSetIterable iter X.env x=pure x:=by intro _; rfl):PE X (.SetComp elt [⟨tg,iter,ifs,0⟩] scope pos) (zpO P w ix wi g ts te):=by
 subst hP hw;intro mO s σ H Q I h;rw [arm_eval_SetComp];dsimp only;have yN:∀ y∈scope.names,y.2 = .free->∃ c,X.env.cells.lookup y.1=some c:=fun y hy hf=>I.ok.has y.1 #[Ui]
 refine fJ (use:=none) rfl hs (zce yN) SC.kind SC.names (thn #[Uv] fun v s1 h1=>thn h1 fun itv s2 h2=>?_);obtain⟨it,fp,tn,J,H2,e,I2,T,nR,f2,q⟩:=h2;subst e;refine zis (mk:=fun D env=>zhf elt #[Ri] env) (js:=zdy ix) (js':=[]) (RR:=fun acc C=>compPost #[on] X.A X.xe none #[P3] acc C) SC hc hk (fun _ _ h=>nomatch h) (fun j h=>zbU.1 (by simpa using h)) hg ht (fun s₃ H₃ ex mO D=>zor rfl (he s₃ H₃ ex mO)) (fun _ _ _=>zpN _ _ _) I2 T nR f2 q ?_;intro D C s' ys H' m I' Fl hm q';refine#[W3];obtain⟨f0,f1,GY,f3,f4,f5⟩:=Fl;exact I'.turned (t':=s'.toks) #[Wn] f0 f1 f3 f4 f5
theorem zfY {X:Cx} {P:Program} {w:World} (hP:X.prog=P) (hw:X.w=w) (hc:X.calm=true):zbm X (.builtin "sorted") (fun xs H Q=>∃ (d:Addr) (ns:List Int),xs = [.ref d]/\H d=some (SJ P w d ns) /\
  ∀ (l:Addr) (ms:List Int),H l=none->ms.Perm ns->(ms.Pairwise fun a b=>a<=b)->Q #[SX] (mR H l (.lst #[Sb]))):=by
 subst hP hw;intro mO s σ H xs us Q I r h;obtain⟨d,ns,rfl,hd,q⟩:=h;obtain⟨u,rfl,rx⟩:=vals1 r;cases rx;have hS:zab X.prog X.w H s.heap d (SJ X.prog X.w d ns):=I.hok d _ hd;exact ziq hc I hS.1 q
theorem zot {n:Nat} {g:TG} {Q:List V->Hp->Prop} (Pv:Nat->List V->Hp->Prop) (h0:Pv 0 [] H) (yJ:∀ i ys H,i < n->Pv i ys H->J.go i H) (pA:∀ ys H,Pv n ys H->J.stop n H)
  (hs:∀ i x ys H H',i < n->Pv i ys H->J.yld i H x H'->g x σ0 H' fun σ2 H2=>ts σ2 H2 fun b H3=>if b=true then zhg te ys σ2 H3 (Pv (i+1)) else Pv (i+1) ys H3)
  (hd:∀ ys H,Pv n ys H->Q ys H):cIn g ts (zhg te) σ0 J Q [] H:=by
 refine⟨fun i m ys H=>m=n - i/\i<=n/\Pv i ys H,#[TV],?_⟩;rintro i m ys H ⟨rfl,hi,p⟩;by_cases nC:i < n
 ·exact .inr #[Fa]
 ·obtain rfl:i=n:=by lia
  exact .inl ⟨pA ys H p,hd ys H p⟩
theorem zlB {X:Cx} (hc:X.calm=true):zbm X (.builtin "max") (fun xs H Q=>∃ (p:Addr) (ns:List Int),xs = [.ref p]/\mS X.K H p #[AT]/\ns≠[]/\∀ M:Int,M∈ns->(∀ a∈ns,a<=M)->Q (.int M) H):=by
 intro mO s σ H xs us Q I r h;obtain⟨p,ns,rfl,hq,hn,q⟩:=h;obtain⟨u,rfl,rx⟩:=vals1 r;cases rx;obtain⟨mT,rv,pl,hz⟩:=I.list hq;have hi:IntsAre mT ns:=by simpa using intsAre_of rv
 (obtain⟨xs,e⟩:=hi.allInts.items)
 have yB:ns=xs.toList.map (·.1):=by rw [<- hi.numsOf,<- nums_intItems,<- e]
 have hsz:0 < xs.size:=by
  have h3:=kb.mpr hn;rw [yB,ae,aC] at h3;exact h3
 have hl:=pl.isList;rw [e] at hl;refine max_intList #[R0] hl hsz fun v h' tk hv hk=>?_
 (obtain⟨t,rfl⟩:=intItems_at hv)
 (obtain⟨h1,h2⟩:=argBest_gt (numAt xs) (xs.size - 1))
 refine⟨.int _,H,I.kept hk,⟨_,rfl⟩,q _ ?_ fun a ha=>?_⟩
 ·(rw [yB,lE]; exact getD_mem (by rw [ae,aC]; lia))
 ·rw [yB] at ha
  (obtain⟨j,hj,rfl⟩:=mem_getD ha)
  (rw [ae,aC] at hj)
  (rw [<- lE]; exact h2 j #[O])
end L2
end
section
namespace PySem
open PyProof.Rows
end PySem
namespace L2
open PySem PySem.Spec PyProof.Rows
theorem zlC {X:Cx} (hc:X.calm=true):zbm X (.builtin "min") (fun xs H Q=>∃ (p:Addr) (ns:List Int),xs = [.ref p]/\mS X.K H p #[AT]/\ns≠[]/\∀ M:Int,M∈ns->(∀ a∈ns,M<=a)->Q (.int M) H):=by
 intro mO s σ H xs us Q I r h;obtain⟨p,ns,rfl,hq,hn,q⟩:=h;obtain⟨u,rfl,rx⟩:=vals1 r;cases rx;obtain⟨mT,rv,pl,hz⟩:=I.list hq;have hi:IntsAre mT ns:=by simpa using intsAre_of rv
 (obtain⟨xs,e⟩:=hi.allInts.items)
 have yB:ns=xs.toList.map (·.1):=by rw [<- hi.numsOf,<- nums_intItems,<- e]
 have hsz:0 < xs.size:=by
  have h3:=kb.mpr hn;rw [yB,ae,aC] at h3;exact h3
 have hl:=pl.isList;rw [e] at hl;refine min_intList #[R0] hl hsz fun v h' tk hv hk=>?_
 (obtain⟨t,rfl⟩:=intItems_at hv)
 (obtain⟨h1,h2⟩:=argBest_lt (numAt xs) (xs.size - 1))
 refine⟨.int _,H,I.kept hk,⟨_,rfl⟩,q _ ?_ fun a ha=>?_⟩
 ·(rw [yB,lE]; exact getD_mem (by rw [ae,aC]; lia))
 ·rw [yB] at ha
  (obtain⟨j,hj,rfl⟩:=mem_getD ha)
  (rw [ae,aC] at hj)
  (rw [<- lE]; exact h2 j #[O])
end L2
end
section
namespace PySem
end PySem
end
section
namespace PySem
end PySem
namespace L2
open PySem PySem.Spec PyProof.Rows
end L2
end
section
namespace PySem
end PySem
namespace L2
open PySem PySem.Spec PyProof.Rows
noncomputable def zq4 (K:af) (ta tb:TE):TE:=fun σ H Q=>ta σ H fun x H1=>∃ k,zo3 K x H1 k/\if k=true then Q x H1 else tb σ H1 Q
theorem znm {X:Cx} {K:af} {a b:Expr} {ta tb:TE} {pos:Pos} (hK:X.K=K) (ha:PE X a ta) (hb:PE X b tb):PE X (.BoolOp .Or [a,b] pos) (zq4 K ta tb):=by
 subst hK;intro mO s σ H Q I h;refine BoolOp_or (thn #[GM] fun v s1 ⟨x,H1,I1,r1,k,hk,q1⟩=>?_);refine thn (zl3 mO s1 σ H1 x v (fun b H'=>b=k/\H'=H1) I1 r1 ⟨k,hk,rfl,rfl⟩) fun b s2 ⟨H2,I2,e1,e2⟩=>?_
 subst e1 e2;cases b with
 | false=>exact ziz hb mO s2 σ H2 Q I2 q1
 | true=>exact⟨x,H2,I2,r1,q1⟩
end L2
end
section
namespace My
open PySem L2 PyProof.Rows
variable {da ea ua:Addr} {fd:FuncData} {nc:List (Int×Int)} {sl:Int}
section
variable {P:Program} {w:World} {K:af} {mg:Str->Option Value} {base:Heap} {t:Adr}
theorem ze3:Ko ["code","row","polynomial","p","k","places"] ["code","row","polynomial"] (zi zfz):=#[S]
theorem zou (T:Txt K mg t) (F:Fun K "fits" "fits" zfz t.fits fd):Kx P w K mg base CX0 2 t.fits fd ["code","row","polynomial"] (zjH K):=by
 obtain⟨pD,nE,nJ⟩:=T.KO;have nT:=zc4 (P:=P) (w:=w) (base:=base) T nE;refine F.ok ze3 #[o0] #[ld]
 ·obtain⟨c,tt,ra,po,p,k,pl,nr,rw,rfl,_⟩:=h;rfl
 ·obtain⟨c,tt,ra,po,p,k,pl,nr,rw,rfl,hc,sm,tX,EI,p0,p1,oR,hn,q⟩:=h;refine zaJ ?_; intro zX;refine⟨_,#[ze,#[zbh,#[wE],#[zbo,#[zt,#[zm,3,ze3.nd,#[Wf]],#[zt,#[zm,4,ze3.nd,#[A]],#[zt,#[zm,5,ze3.nd,#[A]],#[zaf]]]]]],#[zj,#[zH,#[zaP,(Kr.of (N':=["at","place","entry","p","polynomial"]) (ix:=[none,none,none,some 3,some 2]) (zi zfz) _ rfl rfl rfl),#[zcW,#[zap,(@zkA _ _ _ #[Rm] #[zb2] zi2)]],(@zi1 _ _ _ _ _ _ _ _ _ _ _ rfl T.OT rfl T.QC #[za,#[Uf],#[SE]] (by rfl) (by rfl) (by rfl)),(fun _ _ _ _=>#[zbN,(K),2,#[zt,#[zm,0,#[Y],#[A]],#[zt,#[zbN,(K),2,#[zt,#[zm,1,#[Y],#[A]],#[zt,#[zm,2,#[Y],#[A]],#[zaf]]]],#[zaf]]]]),(fun _ _ _ _=>#[zbk,#[zA,#[zbF],#[IN],#[zF,nT,#[ss],T.Lh,nE.kp,nJ,#[zY],#[za,#[RI],#[za,#[UZ],#[SE]]]],(zI _)]]),#[RJ]]]]],?_⟩;refine zo6 ?_; intro qi;refine⟨_,rfl,c,_,rfl,m7.of hc.1,rfl,_,_,rfl,_,_,rfl,_,_,rfl,rfl,?_⟩;refine (mP rfl (mP rfl (ex4 tt ra _ _ ⟨rfl,m7.of hc.2,mS.of sm,zao (n:=pl.length) (fun i ys H'=>ys=(zdK p pl rw nr i).map V.int/\zC H H') ⟨rfl,fun _ _ e=>e⟩ ?_ ?_ ?_ ?_⟩)))
  ·rintro i ys H3 hi ⟨_,s3⟩;obtain⟨o,ho⟩:∃ o,rw[i]? = some o:=⟨rw[i]'#[O],#[M]⟩;exact⟨_,_,.int pl[i],ng o,m7.of (s3 _ _ hc.2),mS.of (s3 _ _ sm),by rw [ao,aI hi]; rfl,by rw [ao,ho]; rfl⟩
  ·rintro ys H3 ⟨_,s3⟩;exact⟨_,_,m7.of (s3 _ _ hc.2),mS.of (s3 _ _ sm),by rw [ae]⟩
  ·rintro zS zT zE i xx ys H3 H4 hi ⟨rfl,s3⟩ ⟨T1,T2,u,v,hT1,Ai,o8,rfl,rfl,hu,hv⟩;obtain⟨x,rfl,hx⟩:=zaF (hu _ (m7.of (s3 _ _ hc.2)));obtain⟨o,rfl,ho⟩:=zgV (hv _ (mS.of (s3 _ _ sm)));obtain⟨x0,x1⟩:=oR x (aV hx);have s4:zC H3 (mR (mR H3 T1 (.tup [.int x,ng o])) T2 (.tup [.int i,.ref T1])):=zaZ (zd hT1) Ai;refine⟨T2,_,rfl,m7.of zb,rfl,_,_,rfl,_,_,rfl,T1,_,rfl,m7.of (by rw [zg o8]; exact zb),rfl,_,_,rfl,_,_,rfl,rfl,rfl,?_⟩;refine (mP rfl (mP rfl (mP rfl (mP rfl (ex4 p x po nr ⟨rfl,.inr (m7.of ((s3.trans s4) _ _ EI)),p0,p1,x0,x1,zmy o _,#[KK]⟩)))));rw [zgo,zhN hx ho,aB];have nj:=zhM p pl rw nr i;refine za6 (fun h1=>(mP rfl ⟨zav (by rw [ae]; lia),?_,s3.trans s4⟩)) (fun h1=>⟨?_,s3.trans s4⟩)
   ·rw [if_pos h1];rfl
   ·rw [if_neg h1];simp
  ·rintro ys H3 D ⟨rfl,s3⟩ hD;exact q D _ (s3.free hD) (s3.trans (zd hD)) zb
theorem zcM:Ko ["things","many","chosen","step"] ["things","many"] (zi zbQ):=#[S]
theorem zjh (T:Txt K mg t) (F:Fun K "choices" "choices" zbQ t.NB fd):Kx P w K mg base CX0 1 t.NB fd ["things","many"] (zi7 K):=by
 refine F.ok zcM #[o0] #[ld]
 ·obtain⟨a,m,xs,rfl,_⟩:=h;rfl
 ·obtain⟨a,m,xs,rfl,hS,hx,hm,q⟩:=h;refine zaJ ?_; intro zX;refine⟨_,#[ze,#[zq,2,zcM.nd,#[A],#[zP,#[ya,#[zad,#[za,#[zh],#[ya,#[S9]]]]]]],#[ze,#[zbi,bN,#[zaK,T.K1,#[SE]],#[zm,3,zcM.nd,#[A]],#[zj,(@zi6 _ _ _ _ _ _ _ _ _ _ _ _ _ _ _ _ _ _ _ _ _ (2) _ _ _ zcM.nd rfl #[A] (Kr.of (N':=["start","picked","at","things"]) (ix:=[none,none,none,some 0]) (zi zbQ) _ rfl rfl rfl) rfl (zmh (js:=[0,1]) (zfc (js:=[0,1]) (i:=0) #[D] (zfc (js:=[0,1]) (i:=1) #[D] (zjx (js:=[0,1]))))) (zjw (js:=[2]) (i:=2) #[D]) #[D] #[D] #[zat,#[IN]] #[sK] #[BT] (fun _ _ _ _=>(@zkq _ _ _ _ _ _ _ rfl T.K1 #[za,#[wE],#[ya,#[zr,#[zbC,(K)],T.LC,bI,#[UB]]]] (by rfl) (by rfl))) (fun _ _ _ _=>#[zm,2,#[Y],#[A]]) #[BT] (fun _ _ _ _=>#[zad,#[za,#[W2],#[ya,#[zn,#[zcd],#[xz],#[zP,#[ya,#[zB,#[zbV,(K)],#[RI],#[IN]]]]]]]]) (by rfl) (by intro _; rfl) (by intros; rfl) (by trivial))]],#[zj,#[zH,#[zaP,(Kr.of (N':=["start","picked"]) (ix:=[none,none]) (zi zbQ) _ rfl rfl rfl),#[Rm],#[zat,#[IN]],#[sK],#[BT],(fun _ _ _ _=>#[xz])]]]]],?_⟩;refine zfO ?_; intro rh qi;have qJ:=a8;refine⟨aZ _,fun L0 JD=>⟨by show 2<=sizeLine; lia,fun T0 CN=>⟨by show 1<=sizeLine; lia,fun c hc=>?_⟩⟩⟩;have u0:=zd (o:=.lst []) JD;have u1:=zd (o:=.tup [.int 0,.ref L0]) CN;have u2:=zd (o:=.lst [.ref T0]) hc;have F6:zfu (mR (mR (mR H L0 (.lst [])) T0 (.tup [.int 0,.ref L0])) c (.lst [.ref T0])) [T0] (chs xs 0):=.cons ⟨L0,u2 _ _ zb,#[U7] _ _ zb⟩ .nil;have hc0:mR (mR (mR H L0 (.lst [])) T0 (.tup [.int 0,.ref L0])) c (.lst [.ref T0]) c=some (.lst ([T0].map V.ref)):=zb;have s0:=(u0.trans u1).trans u2;generalize mR (mR (mR H L0 (.lst [])) T0 (.tup [.int 0,.ref L0])) c (.lst [.ref T0])=H0 at F6 hc0 s0 |-;refine (mP rfl (mP rfl ⟨#[O],#[O],?_⟩));rw [bd];refine zbT (lo:=0) (n:=m) (fun i σ H'=>∃ (c:Addr) (ts:List Addr) (e3:Option V),σ = [some #[RC],some (.int m),some #[Tv],e3]/\zC H H'/\H' c=some (.lst (ts.map V.ref))/\zfu H' ts (chs xs i)) (ex3 c ([T0]) none ⟨rfl,s0,hc0,F6⟩) ?_ ?_
  ·rintro zD zT i σ H1 hi ⟨c,ts,e3,rfl,s1,ve,qD⟩;have ub:=qD.length;have yZ:=zel (xs:=xs) (i+1) hx;have Al:((chs xs i).flatMap (nxt xs)).length<=65536:=yZ;refine (mP rfl ⟨c,rfl,⟨_,mS.of ve⟩,zoP (n:=ts.length) (fun i' ys H'=>∃ us:List Addr,ys=us.map V.ref/\zC H1 H'/\zfu H' us (((chs xs i).take i').flatMap (nxt xs))) ⟨[],rfl,fun _ _ e=>e,.nil⟩ ?_ ?_ ?_ ?_⟩)
   ·rintro i' ys H2 pq ⟨us,_,s2,_⟩;exact⟨_,.ref ts[i'],mS.of (s2 _ _ ve),by rw [ao,aI pq]; rfl⟩
   ·rintro ys H2 ⟨us,_,s2,_⟩;exact⟨_,mS.of (s2 _ _ ve),by rw [ae]; exact ah _⟩
   ·rintro i' y ys H2 H3 pq ⟨us,rfl,s2,nM⟩ ⟨rfl,hy⟩;obtain⟨tt,rfl,DM⟩:=zaQ (hy _ (mS.of (s2 _ _ ve)));obtain⟨cc,oK,pv⟩:=Paired.get qD DM;obtain⟨L,EB,EC⟩:=pv.same s2;have hle:=zpC (aV oK);have oR:=zh7 (aV oK);obtain⟨st,pk⟩:=cc;dsimp only at EB EC hle oR;refine gY2 (m7.of EB) ?_;refine (mP rfl (mP rfl ⟨a,xs,rfl,.inl (#[XL].seq hS),_,_,rfl,⟨#[O],#[O],#[O],#[O]⟩,?_⟩));have en:((xs.length:Int) - (st:Int)).toNat=xs.length - st:=by lia
    rw [en];refine zoP (n:=xs.length - st) (fun j ys H'=>∃ us:List Addr,ys=us.map V.ref/\zC H3 H'/\zfu H' us (((chs xs i).take i').flatMap (nxt xs)++(nxt xs (st,pk)).take j)) ⟨us,rfl,fun _ _ e=>e,by rw [fg,cb]; exact nM⟩ (fun j ys H' hj _=>hj) #[SS] ?_ ?_
    ·rintro j z ys H4 H5 hj ⟨us,rfl,s4,nM⟩ ⟨rfl,rfl⟩;obtain⟨x,v7⟩:∃ x,xs[st+j]? = some x:=⟨xs[st+j]'#[O],#[M]⟩;have pv:atI xs ((st:Int)+(j:Int))=some x:=by
      have e:((st+j:Nat):Int)=(st:Int)+j:=by lia
      rw [<- e];exact zag v7
     have hng:=zjW (c:=(st,pk)) v7;have vf:=nM.length;have hpart:=zk8 (f:=nxt xs) oK (show j < (nxt xs (st,pk)).length by rw [zeX]; exact hj);have hnl:=zeX xs (st,pk);refine gY ?_;refine (mP rfl (m8 rfl rfl (mP rfl (mP rfl (mP rfl (ex4 a xs _ x ⟨rfl,rfl,(#[XL].trans s4).seq hS,pv,by show 1<=sizeLine; lia,fun b hb=>?_⟩))))));have v1:=zd (o:=.lst [x]) hb;refine (ex4 L b pk ([x]) ⟨rfl,rfl,(s4.trans v1) _ _ EC,zb,by show pk.length+1<=sizeLine; lia,fun L2 F7=>⟨by show 2<=sizeLine; lia,fun T2 Ai=>⟨?_,us++[T2],by rw [aB]; rfl,?_,?_⟩⟩⟩)
     ·rw [ae,vf,aF,aA];lia
     ·exact s4.trans (v1.trans ((zd F7).trans (zd Ai)))
     ·rw [take_snoc hng,<- bu];refine dh (nM.same (v1.trans ((zd F7).trans (zd Ai)))) ⟨L2,?_,(zd Ai) _ _ zb⟩;rw [zb];show some (HO.tup [.int ((st:Int)+(j:Int)+1),.ref L2])=some (HO.tup [.int ((st+j+1:Nat):Int),.ref L2]);have e:((st+j+1:Nat):Int)=(st:Int)+j+1:=by lia
      rw [e]
    ·rintro ys H4 ⟨us,rfl,s4,nM⟩;rw [aW (l:=nxt xs (st,pk)) (by rw [zeX]; exact ah _)] at nM;exact⟨us,rfl,s2.trans s4,by rw [zgu oK]; exact nM⟩
   ·rintro ys H2 ⟨us,rfl,s2,nM⟩ D hD;rw [ub,aW (ah _)] at nM;exact (ex3 D us _ ⟨rfl,s1.trans (s2.trans (zd hD)),zb,nM.same (zd hD)⟩)
  ·rintro σ H1 ⟨c,ts,e3,rfl,s1,ve,qD⟩;have ub:=qD.length;have yZ:=zel (xs:=xs) m hx;refine (mP rfl ⟨c,rfl,⟨_,mS.of ve⟩,zao (n:=ts.length) (fun i ys H'=>H'=H1/\∃ us:List Addr,ys=us.map V.ref/\zh8 H1 us ((#[Tp].map (·.2)).take i)) ⟨rfl,[],rfl,.nil⟩ ?_ ?_ ?_ ?_⟩)
   ·rintro i ys H2 hi ⟨rfl,_⟩;exact⟨_,.ref ts[i],mS.of ve,by rw [ao,aI hi]; rfl⟩
   ·rintro ys H2 ⟨rfl,_⟩;exact⟨_,mS.of ve,by rw [ae]; exact ah _⟩
   ·rintro zS zT zE i y ys H2 H3 hi ⟨rfl,us,rfl,nM⟩ ⟨rfl,hy⟩;obtain⟨tt,rfl,DM⟩:=zaQ (hy _ (mS.of ve));obtain⟨cc,oK,L,EB,EC⟩:=Paired.get qD DM;have vf:=nM.length;refine gY2 (m7.of EB) ⟨_,rfl,?_,rfl,us++[L],by rw [aB]; rfl,?_⟩
    ·rw [ae,vf,aA,ae];lia
    ·have JE:(#[Tp].map (·.2))[i]? = some cc.2:=by rw [ao,oK]; rfl
     rw [take_snoc JE];exact dh nM EC
   ·rintro ys H2 D ⟨rfl,us,rfl,nM⟩ hD;rw [aW (by rw [ae,ub]; exact ah _)] at nM;exact q D us _ (s1.free hD) (s1.trans (zd hD)) zb #[X6]
theorem zoR {p:Int} (hP:Pts p nc):nc.map (md p)=nc:=by
 refine (cv fun q hq=>?_).trans (jt _);obtain⟨_,_,h1,h2⟩:=hP.rg q hq;show (q.1,q.2 % p)=q;rw [d6 h1 h2]
theorem zaA:Ko ["code","points","p","k","places","found","picked"] ["code","points"] (zi za7):=#[S]
theorem zfK (T:Txt K mg t) (F:Fun K "all_through" "all_through" za7 t.KC fd):Kx P w K mg base CX0 4 t.KC fd ["code","points"] (zfw K):=by
 obtain⟨wC,uF,rn⟩:=T.MO;have xX:=zjh (P:=P) (w:=w) (base:=base) T uF;obtain⟨wD,uG,rq⟩:=T.ML;have xY:=zi9 (P:=P) (w:=w) (base:=base) T uG;refine F.ok zaA #[o0] #[ld]
 ·obtain⟨c,tt,a,p,k,pl,bs,nc,rfl,_⟩:=h;rfl
 ·obtain⟨c,tt,a,p,k,pl,bs,nc,rfl,hc,hS,hB,hn,hp,hP,k0,k1,q⟩:=h;have hu:(A.deeper (envOfC (bT "all_through") (zi za7) s.heap.objs.size t.KC nA)).units+1 < cLine:=by have:=hr.units; lia
  refine zaJ ?_; intro zX;refine⟨_,#[ze,#[zbh,#[wE],#[zbo,#[zt,#[zm,2,zaA.nd,#[A]],#[zt,#[zm,3,zaA.nd,#[A]],#[zt,#[zm,4,zaA.nd,#[A]],#[zaf]]]]]],#[ze,#[zq,5,zaA.nd,#[A],#[zhW]],#[ze,#[zbi,bN,#[zat,#[zF,xX,#[ss],T.Pm,uF.kp,rn,#[zY],#[za,#[xz],#[UB]]]],#[zm,6,zaA.nd,#[A]],#[zj,#[zjL,hu,#[Uf],#[zF,xY,#[ss],T.Pj,uG.kp,rq,#[zY],#[za,#[IN],#[Ut]]],#[zdE]]]],#[zj,#[zH,#[zr,(@zg0 _ rfl),T.NS,li,#[ya,#[Uf]]]]]]]],?_⟩;refine zgH ?_; intro vd rh qi;have qJ:=a8;have rp:=z6 hp;obtain⟨zs,rfl,rfl,hz⟩:=hB.zs;rw [ae] at hn;refine⟨_,rfl,c,_,rfl,m7.of hc.1,rfl,_,_,rfl,_,_,rfl,_,_,rfl,rfl,fun D hD=>?_⟩;have s0:=zd (o:=.dT []) hD;have JF:mR H D (.dT []) D=some (.dT []):=zb;generalize mR H D (.dT [])=H0 at s0 JF |-;refine (mP rfl (mP rfl (ex3 a k _ ⟨rfl,s0.seq hS,by rw [ae,ae]; lia,#[O],fun l ls H1 hl s1 CP DT=>?_⟩)));have hlD:l≠D:=fun e=>by rw [e,JF] at hl; cases hl
  rw [bD,zgv (V.ref ∘ fun z:Addr×Int×Int=>z.1) zs k] at DT;have oR:=DT.length;rw [ae,ae] at oR;have yZ:=zel (xs:=zs) k hn;obtain⟨EN,BS⟩:∃ EN,(chs zs k).map (·.2)=EN:=⟨_,rfl⟩;rw [BS] at DT;have hzl:ls.length=EN.length:=by rw [oR,<- BS,ae]
  have F8:H1 D=some (.dT []):=s1 _ _ JF;have hid:=zcZ H1 D;refine⟨l,rfl,⟨_,mS.of CP⟩,zbe (K:=K) (a:=l) (xs:=ls.map V.ref) (fun i σ H'=>∃ (mZ:List (List Key×V)) (nX:List #[Id]) (e6:Option V),σ = [some #[Tv],some #[RC],some #[WF],some (.int k),some (.ref tt),some #[Ri],e6] /\
   zC (hide H1 D) H'/\H' D=some #[VO]/\KeysAre mZ nX/\nX.Nodup/\nX.length<=i/\∀ x,x∈nX↔∃ zk∈EN.take i,x=thr p (zk.map (·.2)))
   ⟨[],[],none,rfl,hid,F8,rfl,#[M],ah _,fun x=>by simp⟩ (fun i σ H' _ hq=>by obtain⟨_,_,_,_,s3,_⟩:=hq; exact (mS.of (s3 _ _ (za8 CP hlD)))) ?_ ?_⟩
  ·rintro zD zT i y σ H2 hy ⟨mZ,nX,e6,rfl,s2,BU,xT,vv,Bl,nH⟩;obtain⟨b,rfl,CI⟩:=zaQ hy;obtain⟨hi,_⟩:=aj.mp CI;obtain⟨vk,F9,wc⟩:=Paired.get DT CI;obtain⟨zk,hzk,rfl⟩:∃ zk,EN[i]? = some zk/\vk=zk.map (V.ref ∘ fun z:Addr×Int×Int=>z.1):=by
    rw [ao] at F9;cases e:EN[i]? with
    | none=>rw [e] at F9; cases F9
    | some zk=>rw [e] at F9; exact⟨zk,rfl,(aO F9).symm⟩
   have hbD:b≠D:=fun e=>by rw [e,F8] at wc; cases wc
   obtain⟨sv,nj⟩:=zeZ.mp (by rw [BS]; exact aV hzk:zk∈(chs zs k).map (·.2));have Hr:Pts p (zk.map (·.2)):=hP.sub (sv.map _);have JG:zjF K H2 b (zk.map (·.2)):=by
    refine⟨zk.map (·.1),?_,by rw [ae,ae],fun j b' q' h1 h2=>?_⟩
    ·have:=s2 _ _ (za8 wc hbD);rw [bD];exact mS.of this
    ·rw [ao] at h1 h2;cases e:zk[j]? with
     | none=>rw [e] at h1; cases h1
     | some z =>
      rw [e] at h1 h2;cases h1;cases h2;have sk:=hz z (sv.subset (aV e));have hzD:z.1≠D:=zl sk hD;exact s2 _ _ (za8 ((s0.trans s1) _ _ sk) hzD)
   have JH:mZ.length=nX.length:=by
    have:=congrArg eA xT;rw [ae,ae] at this;exact this
   refine (mP rfl (mP rfl (mP rfl (ex3 p b _ ⟨rfl,JG,by rw [ae]; lia,hp,(by rw [zoR Hr]; exact Hr),(fun q hq=>by have:=Hr.rg q hq; lia),fun tl H3 xO s3 h3=>?_⟩))));rw [zoR Hr] at h3;have Hs:=s3 _ _ BU;refine⟨D,(mP rfl ⟨zkX.t (k:=(thr p (zk.map (·.2))).map df) Hs (by rw [h3,bD]; rfl) #[O],?_⟩)⟩;obtain⟨vw,m1,m2,m3,m4⟩:=zie xT vv (thr p (zk.map (·.2))) (.bl true);refine (ex3 _ vw _ ⟨rfl,?_,zb,m1,m2,#[O],fun x=>?_⟩)
   ·refine zaZ (s2.trans s3) ?_;unfold hide;rw [if_pos rfl]
   ·rw [m4 x,nH x,take_snoc hzk];constructor
    ·rintro (⟨JI,h1,h2⟩ | e)
     ·exact⟨JI,aH _ h1,h2⟩
     ·exact⟨zk,ar _ (aS.mpr rfl),e⟩
    ·rintro⟨JI,h1,h2⟩;rcases (aP.mp h1) with h1 | h1
     ·exact .inl ⟨JI,h1,h2⟩
     ·rw [aS.mp h1] at h2;exact .inr h2
  ·rintro σ H2 ⟨mZ,nX,e6,rfl,s2,BU,xT,vv,Bl,nH⟩;rw [ae,hzl] at nH Bl;rw [bx] at nH;rw [<- hzl,oR] at Bl;have qH:∀ x,x∈nX↔∃ pk∈(chs (zs.map (·.2)) k).map (·.2),x=thr p pk:=fun x=>by
    rw [nH x,zgv,BS];constructor
    ·rintro⟨zk,h1,h2⟩;exact⟨_,eM h1,h2⟩
    ·rintro⟨pk,h1,h2⟩;obtain⟨zk,h3,rfl⟩:=be.mp h1;exact⟨zk,h3,h2⟩
   have BV:∀ x∈nX,IsP p k x:=fun x hx=>by
    obtain⟨pk,h1,rfl⟩:=(qH x).mp hx;exact zj2 hp hP h1
   refine (mP rfl (ex5 D k p mZ nX ⟨rfl,BU,xT,fun ms hm=>BV ms hm,k0,#[O],fun r pV sy nW Am hH=>?_⟩));have EM:zC H H2:=fun x u e=>s2 _ _ (za8 ((s0.trans s1) _ _ e) (zl e hD))
   have e1:pV.map (fun q=>V.ref q.1)=(pV.map (·.1)).map V.ref:=by rw [bD]; rfl
   rw [e1];refine q r (pV.map (·.1)) (pV.map (·.2)) _ (EM.free sy) (EM.trans (zd sy)) zb ((zaM.of hH).same (zd sy)) (by rw [nW.length_eq]; lia) (zj5 #[O] (fun x hx=>BV x (nW.mem_iff.mp hx)) (nW.nodup_iff.mpr vv) ?_) fun x=>?_
   ·rw [d7];exact Am
   ·rw [nW.mem_iff];exact qH x
noncomputable def zhh (K:af):Sp:=fun vs H Q _=>∃ (c tt r:Addr) (p:Int) (k:Nat) (T:Int) (pl:List Int) (rw:List #[EQ]),vs = [.ref c,.ref r,.int T]/\za5 H c tt p k pl/\H r=some #[Vh]/\rw.length=pl.length/\pl.length<=16/\p∈zJ/\pl.Nodup/\(∀ x∈pl,0<=x/\x < p)/\(∀ z,some z∈rw->0<=z/\z < p)/\1<=k/\k<=100/\(k:Int)<=T /\
 ∀ (l:Addr) (rs:List Addr) (qs:List #[Id]) (H':Hp),H l=none->zC H H'->H' l=some #[re]->zaM H' rs qs->zem p k qs->(∀ q,q∈qs↔IsP p k q/\T<=(hits p q #[KB]:Int))->Q #[SX] H'
theorem zcb:Ko ["code","row","t","k","points","first"] ["code","row","t"] (zi zbX):=#[S]
theorem zit (T:Txt K mg t) (F:Fun K "all_near" "all_near" zbX t.Ms fd):Kx P w K mg base CX0 5 t.Ms fd ["code","row","t"] (zhh K):=by
 obtain⟨o6,nK,nL⟩:=T.Ky;have oq:=zcT (P:=P) (w:=w) (base:=base) T nK;obtain⟨BW,An,wF⟩:=T.Pt;have DU:=zou (P:=P) (w:=w) (base:=base) T An;obtain⟨sL,qa,oI⟩:=T.KZ;have uh:=zfK (P:=P) (w:=w) (base:=base) T qa;refine F.ok zcb #[o0] #[ld]
 ·obtain⟨c,tt,r,p,k,T',pl,rw,rfl,_⟩:=h;rfl
 ·obtain⟨c,tt,r,p,k,T',pl,rw,rfl,hc,sm,tX,hn,hp,vv,oR,F',k0,k1,h1,q⟩:=h;refine zaJ ?_; intro zX;refine⟨_,#[ze,#[zq,3,zcb.nd,#[A],#[UQ]],#[ze,#[zam,#[zA,#[zcO],#[IN],#[RI],(zI _)],(@zko _ _),#[zQ]],#[ze,#[zq,4,zcb.nd,#[A],#[zF,oq,#[ss],T.Lo,nK.kp,nL,#[zY],#[za,#[wE],#[SE]]]],#[ze,#[zam,#[zA,#[zhr],#[IN],#[SN],(zI _)],#[zj,#[zH,#[S9]]],#[zQ]],#[ze,#[zq,5,zcb.nd,#[A],#[zbS,zcz,#[UZ],#[zcw],#[zcx,#[zn,#[zai],#[zn,#[zbj],#[SN],#[IN]],#[RI]]]]],#[zj,#[zH,#[zaP,(Kr.of (N':=["polynomial","code","row","t"]) (ix:=[none,some 0,some 1,some 2]) (zi zbX) _ rfl rfl rfl),#[zaO],#[zat,#[zF,uh,#[ss],T.Ni,qa.kp,oI,#[zY],#[za,#[wE],#[ya,#[Uf]]]]],#[wn],(fun _ _ _ _=>#[zbk,#[zA,#[zl0],#[zr,#[zbC,(K)],T.LC,bI,#[ya,#[zF,DU,#[ss],T.QJ,An.kp,wF,#[zY],#[za,#[xz],#[za,#[IN],#[ya,#[wE]]]]]]],#[RI],(zI _)]]),#[RJ]]]]]]]]],?_⟩;refine zo7 ?_; intro DK BM vd rh qi;have qJ:=a8;have rp:=z6 hp;have hR:QN K H r pl.length rw:=⟨mS.of sm,tX⟩;have hP:=ze0 vv oR F';have hhl:=zdU pl rw;refine (mP rfl (ex4 c _ _ _ ⟨rfl,rfl,m7.of hc.1,rfl,?_⟩));refine (mP rfl #[SU])
  ·refine za6 (fun h=>absurd (of_decide_eq_true h) #[O]) #[PP];refine (mP rfl (mP rfl (ex7 c tt r p k pl rw ⟨rfl,hc,hR,#[O],fun l bs H1 vc s1 CP hB=>?_⟩)));have Ag:bs.length=#[KB].length:=hB.length;refine (mP rfl (mP rfl ⟨l,(mP rfl ⟨.inl (mS.of CP),#[pi]⟩)⟩));rw [ae];refine za6 (fun nC=>?_) (fun qY=>?_)
   ·have nC:=of_decide_eq_true nC;refine⟨aZ _,fun z hz=>q z [] [] _ (s1.free hz) (s1.trans (zd hz)) zb .nil ⟨#[M],.nil⟩ fun x=>?_⟩;have:=dq (hit p x) #[KB];constructor
    ·intro h; cases h
    ·rintro⟨_,h⟩;unfold hits at h;lia
   ·have qY:¬ T' > (bs.length:Int):=fun h=>qY (decide_eq_true h)
    obtain⟨tn,rfl⟩:∃ tn:Nat,T'=tn:=⟨T'.toNat,#[O]⟩;refine (mP rfl (mP rfl ⟨l,(mP rfl ⟨.inl (mS.of CP),(mP rfl (m8 rfl rfl (mP rfl (m8 rfl rfl (mP rfl ⟨l,(mP rfl ⟨mS.of CP,fun z hz=>?_⟩)⟩)))))⟩)⟩));have JJ:(#[UJ].length:Int) - (tn:Int)+(k:Int)=((bs.length - tn+k:Nat):Int):=by rw [ae]; lia
    rw [JJ,zm8,<- gj];have v1:=zd (o:=.lst ((bs.take (bs.length - tn+k)).map V.ref)) hz;have Ht:mR H1 z (.lst ((bs.take (bs.length - tn+k)).map V.ref)) z=some (.lst ((bs.take (bs.length - tn+k)).map V.ref)):=zb;have s2:=s1.trans v1;have vt:=(hB.same v1).take (bs.length - tn+k);generalize mR H1 z (.lst ((bs.take (bs.length - tn+k)).map V.ref))=H2 at v1 Ht s2 vt |-;have hPt:Pts p (#[KB].take (bs.length - tn+k)):=hP.sub (cN _ _);refine (mP rfl (mP rfl (ex8 c tt z p k pl _ _ ⟨rfl,hc.same s2,mS.of Ht,vt,by rw [aA]; lia,hp,hPt,k0,k1,fun l2 rs qs H3 qX s3 Ah hT EO Ga nH=>?_⟩)));have JK:=hT.length;have Ao:=s2.trans s3;refine⟨l2,rfl,⟨_,mS.of Ah⟩,zao (n:=rs.length) (fun i ys H'=>zC H3 H'/\∃ us:List Addr,ys=us.map V.ref/\us.length<=i/\zaM H' us (#[XZ].filter fun x=>decide ((tn:Int)<=(hits p x #[KB]:Int)))) ⟨fun _ _ e=>e,[],rfl,ah _,.nil⟩ ?_ ?_ ?_ ?_⟩
    ·rintro i ys H4 hi ⟨s4,_⟩;exact⟨_,.ref rs[i],mS.of #[Wr],by rw [ao,aI hi]; rfl⟩
    ·rintro ys H4 ⟨s4,_⟩;exact⟨_,mS.of #[Wr],by rw [ae]; exact ah _⟩
    ·rintro zS zT zE i y ys H4 H5 hi ⟨s4,us,rfl,vf,nM⟩ ⟨rfl,hy⟩;obtain⟨rb,rfl,DV⟩:=zaQ (hy _ (mS.of #[Wr]));obtain⟨qq,wG,pv⟩:=Paired.get hT DV;have yG:=Ao.trans s4;refine (mP rfl (mP rfl (mP rfl (ex9 c tt r rb p k pl qq rw ⟨rfl,hc.same yG,yG _ _ sm,tX,s4 _ _ pv,#[O],#[O],oR,#[O],fun fl H6 Al s6 h6=>?_⟩))));refine⟨fl,(mP rfl ⟨.inl (mS.of h6),#[SU]⟩)⟩;have ef:(#[Yf].map V.int).length=hits p qq #[KB]:=by rw [ae]; exact zj3 tX
     rw [ef];have Be:(qs.take (i+1)).filter (fun x=>decide ((tn:Int)<=(hits p x #[KB]:Int)))=#[XZ].filter (fun x=>decide ((tn:Int)<=(hits p x #[KB]:Int)))++[qq].filter (fun x=>decide ((tn:Int)<=(hits p x #[KB]:Int))):=by rw [take_snoc wG,cT]
     refine za6 (fun h=>(mP rfl ⟨?_,s4.trans s6,us++[rb],by rw [aB]; rfl,by rw [aF]; exact gm vf,?_⟩)) (fun h=>⟨s4.trans s6,us,rfl,#[O],?_⟩)
     ·rw [ae]; lia
     ·rw [Be,fV (p:=fun x=>decide ((tn:Int)<=(hits p x #[KB]:Int))) h];exact dh (nM.same s6) ((s4.trans s6) _ _ pv)
     ·rw [Be,fW (p:=fun x=>decide ((tn:Int)<=(hits p x #[KB]:Int))) h,lT,cb];exact nM.same s6
    ·rintro ys H4 D ⟨s4,us,rfl,vf,nM⟩ hD;rw [JK,bx] at nM;have yG:=Ao.trans s4;refine q D us _ _ (yG.free hD) (yG.trans (zd hD)) zb #[X6] (Ga.filter _) fun x=>?_
     rw [db,nH x,decide_eq_true_iff];constructor
     ·rintro⟨⟨pk,h1,rfl⟩,h2⟩;exact⟨zj2 hp hPt h1,h2⟩
     ·rintro⟨CG,h2⟩;exact⟨zdD hp hP CG (t:=tn) #[O] #[O] #[O],h2⟩
theorem zeC {c:Addr} :#[Pi].lookup ("slips" : Str)=some #[XF]:=by unfold fl; rw [zaG n1,zdW]
structure Lk (t:Adr) (H:Hp) (S:List Addr) (a c tt:Addr) (p:Int) (k sl:Nat) (pl:List Int) (es:Rw) (ds us:List Dt):Prop where
 L:Ls t.Kn H S a c p sl es ds us
 cd:za5 H c tt p k pl
 ln:es.length=pl.length
 n6:pl.length<=16
 pr:p∈zJ
 nd:pl.Nodup
 rg:∀ x∈pl,0<=x/\x < p
 er:∀ z,some z∈es->0<=z/\z < p
 k0:1<=k
 k1:k<=100
noncomputable def Cb (p:Int) (k sl:Nat) (pl:List Int) (es:Rw) (qs:List #[Id]):Prop:=k+sl<=#[VQ].length/\zem p k qs/\∀ q,q∈qs↔IsP p k q/\((#[VQ].length:Int) - (sl:Int))<=(hits p q #[VQ]:Int)
noncomputable def zlD (t:Adr) (K:af):Sp:=fun vs H Q _=>∃ (S:List Addr) (a c tt:Addr) (p:Int) (k sl:Nat) (pl:List Int) (es:Rw) (ds us:List Dt),vs = [.ref a]/\Lk t H S a c tt p k sl pl es ds us /\
 (#[VQ].length < k+sl->∀ H',zC H H'->Q .non H')/\∀ (l:Addr) (rs:List Addr) (qs:List #[Id]) (H':Hp),H l=none->zC H H'->H' l=some #[re]->zaM H' rs qs->Cb p k sl pl es qs->Q #[SX] H'
theorem zgz:Ko ["self","heard"] ["self"] (zi zd4):=#[S]
theorem zgA (T:Txt K mg t) (F:Fun K "can_be" "Listener.can_be" zd4 t.OF fd):Kx P w K mg base CX0 6 t.OF fd ["self"] (zlD t K):=by
 obtain⟨o6,nK,nL⟩:=T.Ky;have oq:=zcT (P:=P) (w:=w) (base:=base) T nK;obtain⟨vz,sM,qj⟩:=T.L8;have wH:=zit (P:=P) (w:=w) (base:=base) T sM;refine F.ok zgz #[o0] #[ld]
 ·obtain⟨S,a,c,tt,p,k,sl,pl,es,ds,us,rfl,_⟩:=h;rfl
 ·obtain⟨S,a,c,tt,p,k,sl,pl,es,ds,us,rfl,Z,q1,q2⟩:=h;obtain⟨dx,ea,da,ua,k',tt',dr,ur,eS,h1,h2,h3,h4,h5,h6,h7,h8,h9,uC⟩:=Z.L.ex;refine zaJ ?_; intro zX;refine⟨_,#[ze,#[zq,1,zgz.nd,#[A],#[zr,#[zy],T.LC,bI,#[ya,#[zF,oq,#[ss],T.Lo,nK.kp,nL,#[zY],#[za,#[Op],#[ya,#[Op]]]]]]],#[ze,#[zam,#[zA,#[zcO],#[xz],#[zn,#[zai],#[zB,#[zW],#[Op],#[zh]],#[Op]],(zI _)],#[zj,#[zH,#[zaD]]],#[zQ]],#[zj,#[zH,#[zF,wH,#[ss],T.OR,sM.kp,qj,#[zY],#[za,#[Op],#[za,#[Op],#[ya,#[zn,#[zbj],#[xz],#[Op]]]]]]]]]],?_⟩;refine zfO ?_; intro rh qi;have qJ:=a8;have hn:=Z.n6;have hhl:=zdU pl es;refine (mP rfl (ex5 a t.Kn dx _ _ ⟨rfl,h4,T.cl,T.LV,zbW,(mP rfl (ex5 a t.Kn dx _ _ ⟨rfl,h4,T.cl,T.Ks,zaa,c,tt,ea,p,k,pl,es,rfl,Z.cd,⟨mS.of h5,Z.ln⟩,#[O],fun l bs H1 vc s1 CP hB=>?_⟩))⟩));have Ag:bs.length=#[VQ].length:=hB.length;have BX:=Z.cd.same s1;refine⟨l,(mP rfl ⟨.inl (mS.of CP),?_⟩)⟩;rw [ae,Ag];refine (mP rfl (mP rfl (ex5 a t.Kn dx _ _ ⟨rfl,s1 _ _ h4,T.cl,T.LV,zbW,c,_,_,_,rfl,rfl,m7.of BX.1,rfl,(mP rfl (ex5 a t.Kn dx _ _ ⟨rfl,s1 _ _ h4,T.cl,T.Nh,zeC,(m8 rfl rfl #[pi])⟩))⟩)));refine za6 (fun h=>q1 (by have:=of_decide_eq_true h; lia) H1 s1) #[TN];have qY:k+sl<=#[VQ].length:=by
   refine iN fun z=>h (decide_eq_true ?_)
   lia
  refine (mP rfl (ex5 a t.Kn dx _ _ ⟨rfl,s1 _ _ h4,T.cl,T.LV,zbW,(mP rfl (ex5 a t.Kn dx _ _ ⟨rfl,s1 _ _ h4,T.cl,T.Ks,zaa,(mP rfl (mP rfl (ex5 a t.Kn dx _ _ ⟨rfl,s1 _ _ h4,T.cl,T.Nh,zeC,(m8 rfl rfl (ex8 c tt ea p k ((#[VQ].length:Int) - (sl:Int)) pl es ⟨rfl,BX,s1 _ _ h5,Z.ln,hn,Z.pr,Z.nd,Z.rg,Z.er,Z.k0,Z.k1,#[O],fun l2 rs qs H2 qX s2 h2 hT hR hm=>?_⟩))⟩)))⟩))⟩));exact q2 l2 rs qs H2 (s1.free qX) #[XL] h2 hT ⟨qY,hR,hm⟩
theorem zen:Ko ["code","row","polynomial","places","some"] ["code","row","polynomial"] (zi zco):=#[S]
theorem zlE (T:Txt K mg t) (F:Fun K "_law_fits" "_law_fits" zco t.OA fd):Kx P w K mg base CX0 2 t.OA fd ["code","row","polynomial"] (zkN K):=by
 obtain⟨oU,nv,nF⟩:=T.KP;have nQ:=zcK (P:=P) (w:=w) (base:=base) T nv;refine F.ok zen #[o0] #[ld]
 ·obtain⟨c,tt,ra,po,p,k,pl,nr,rw,rfl,_⟩:=h;rfl
 ·obtain⟨c,tt,ra,po,p,k,pl,nr,rw,rfl,hc,sm,tX,EI,p0,p1,oR,hn,q⟩:=h;refine zaJ ?_; intro zX;refine⟨_,#[ze,#[zq,3,zen.nd,#[Wf],#[UQ]],#[ze,#[zbt,4,zen.nd,#[A],(Kr.of (N':=["number","row"]) (ix:=[none,some 1]) (zi zco) _ rfl rfl rfl),#[zaO],#[zaK,T.K1,#[ya,#[Rq]]],#[wn],#[Vy],#[RJ]],#[zj,#[zH,#[zaP,(Kr.of (N':=["number","code","polynomial","places","row"]) (ix:=[none,some 0,some 2,some 3,some 1]) (zi zco) _ rfl rfl rfl),#[zaO],#[zat,#[UZ]],#[wn],(fun _ _ _ _=>#[zbk,#[zA,#[zbF],#[zF,nQ,#[ss],T.K7,nv.kp,nF,#[zY],#[za,#[FS],#[za,#[IN],#[ya,#[zB,#[zaY,(K)],#[RI],#[wE]]]]]],#[zB,#[zbV,(K)],#[UZ],#[wE]],(zI _)]]),#[RJ]]]]]],?_⟩;refine zfO ?_; intro rh qi;refine (mP rfl (ex4 c _ _ _ ⟨rfl,rfl,m7.of hc.1,rfl,?_⟩));refine (mP rfl ⟨ra,(mP rfl ⟨.inl (mS.of sm),(mP rfl ⟨by rw [ae]; lia,by rw [ae]; lia,?_⟩)⟩)⟩);rw [ae,bd];refine zao (n:=rw.length) (fun i ys H'=>ys=(zar rw i).map V.int/\H'=H) ⟨rfl,rfl⟩ #[T8] #[SS] ?_ ?_
  ·rintro zS zT zE i xx ys H4 H5 hi ⟨rfl,rfl⟩ ⟨rfl,rfl⟩;obtain⟨o,ho⟩:∃ o,rw[i]? = some o:=⟨rw[i]'#[O],#[M]⟩;have pv:atI (rw.map ng) (0+(i:Int))=some (ng o):=by
    rw [fi];exact zag (by rw [ao,ho]; rfl)
   refine (mP rfl (mP rfl (ex4 ra _ _ _ ⟨rfl,rfl,mS.of sm,pv,rfl,#[KK]⟩)));have hl:=zbO rw i;rw [zdz,ho,aB];refine za6 (fun h1=>(mP rfl ⟨zav (by rw [ae]; lia),?_,rfl⟩)) (fun h1=>⟨?_,rfl⟩)
   ·cases o with
    | none=>exact absurd h1 (by simp [ng])
    | some z=>rw [fi]; rfl
   ·cases o with
    | none=>simp
    | some z=>exact absurd (by simp [ng]) h1
  ·rintro ys H4 D ⟨rfl,rfl⟩ hD;have sD:=zd (o:=.lst (#[GE].map V.int)) hD;have DW:mR H4 D (.lst (#[GE].map V.int)) D=some (.lst (#[GE].map V.int)):=zb;generalize mR H4 D (.lst (#[GE].map V.int))=H5 at sD DW |-;have qJ:=zbO rw rw.length;refine (mP rfl ⟨D,rfl,⟨_,mS.of DW⟩,zkM (K:=K) (xs:=#[GE].map V.int) (kp:=zpm p pl rw nr) (f:=id) (mS.of DW) (by rw [ae]; lia) ?_ ?_⟩)
   ·intro j xx R B hx hR;obtain⟨z,rfl,hz⟩:=zaF hx;obtain⟨m,rfl,hm⟩:=zkQ (aV hz);obtain⟨o,ho⟩:∃ o,rw[m]? = some o:=⟨rw[m]'#[O],#[M]⟩;obtain⟨x,hx⟩:∃ x,pl[m]? = some x:=⟨pl[m]'#[O],#[M]⟩;obtain⟨x0,x1⟩:=oR x (aV hx);refine (mP rfl (ex4 c _ _ _ ⟨rfl,rfl,m7.of (sD _ _ hc.1),rfl,(mP rfl (mP rfl (mP rfl (ex4 tt _ _ #[XW] ⟨rfl,rfl,m7.of (sD _ _ hc.2),zag (by rw [ao,hx]; rfl),p,x,po,nr,rfl,.inr (m7.of (sD _ _ EI)),p0,p1,x0,x1,(mP rfl (mP rfl (ex4 ra _ _ (ng o) ⟨rfl,rfl,mS.of (sD _ _ sm),zag (by rw [ao,ho]; rfl),zkO o _,#[KK]⟩)))⟩))))⟩));have e:zpm p pl rw nr (.int (m:Int))=decide (V.int (zw p x nr)=ng o):=by
     show zcS p pl rw nr ((m:Int)).toNat=_;rw [bd,zhN hx ho];exact decide_eq_decide.mpr ⟨fun e=>e.symm,fun e=>e.symm⟩
    rw [e] at hR;refine za6 (fun h1=>#[KK]) (fun h1=>?_)
    ·rw [if_pos h1] at hR;exact hR
    ·rw [if_neg h1] at hR;exact hR
   ·intro D2 Ho;refine q D2 _ (sD.free Ho) (sD.trans (zd Ho)) ?_;rw [zb,zkP,tX]
theorem znn (xs:List V) (i:Nat):zcy xs (some (i:Int)) none=xs.drop i:=by
 unfold zcy;rw [HT.Pf,HT.Ov];by_cases h:i<=xs.length
 ·rw [gN h];exact aW (by rw [bP]; exact ah _)
 ·rw [Nat.min_eq_right #[O],cL (ah _),cL #[O]];simp
theorem zbP:Ko ["some","many","found","at"] ["some","many"] (zi zbg):=#[S]
theorem zdt:∀ (m:Nat) {fd:FuncData} (T:Txt K mg t) (F:Fun K "_law_choices" "_law_choices" zbg t.KN fd),Kx P w K mg base CX0 (m+1) t.KN fd ["some","many"] (zmZ K m):=by
 intro m;induction m with
 | zero=>exact fun {fd} T F=>F.ok zbP (fun vs H Q E h=>h.elim) (fun nA A outer s H vs Q E hr h=>h.elim)
 | succ m ih =>
  intro fd T F;obtain⟨qM,oa,og⟩:=T.KU;have pG:=ih T oa;refine F.ok zbP #[o0] #[ld]
  ·obtain⟨a,ns,rfl,_⟩:=h;rfl
  obtain⟨a,ns,rfl,hS,hn,hm,q⟩:=h;refine⟨_,#[ze,#[zam,#[zA,#[zbF],#[xz],#[zh],(zI _)],#[zj,#[zH,#[zP,#[ya,#[S9]]]]],#[zQ]],#[ze,#[zq,2,zbP.nd,#[A],#[S9]],#[ze,#[zbi,bN,#[zaK,T.K1,#[ya,#[S5]]],#[zm,3,zbP.nd,#[Wf]],#[zj,#[zaN,#[zcQ,bw,iY,iZ,#[zgc],#[IN],#[ya,#[zaP,(Kr.of (N':=["one","some","at"]) (ix:=[none,some 0,some 3]) (zi zbg) _ rfl rfl rfl),#[zaO],#[zat,#[zF,pG,(hr.mono (ah _)),T.MC,oa.kp,og,#[zY],#[za,#[zbS,zcz,#[wE],#[zcx,#[zn,#[zai],#[RI],#[zh]]],#[zcw]],#[ya,#[zn,#[zbj],#[xz],#[zh]]]]]],#[wn],#[BT],(fun _ _ _ _=>#[zn,#[zcd],#[zP,#[ya,#[zB,#[zbV,(K)],#[xz],#[IN]]]],#[wE]])]]]]]],#[zj,#[zH,#[IN]]]]]],?_⟩;have qJ:=a8;have r0:zC H H:=fun _ _ e=>e
  refine⟨_,rfl,rfl,_,rfl,za6 (fun h0=>?_) (fun h0=>?_)⟩
  ·have h0:(m:Int)=0:=by
    have:=of_decide_eq_true h0;injection this
   have h0:m=0:=by lia
   subst h0;refine⟨aZ _,fun L0 JD=>⟨by show 1<=sizeLine; lia,fun l hl=>?_⟩⟩;have u0:=zd (o:=.lst []) JD;refine q l [L0] [[]] _ (u0.free hl) (u0.trans (zd hl)) zb (.cons ((zd hl) _ _ zb) .nil) (Nat.one_le_two_pow) fun c=>?_
   rw [aS,cH];exact⟨fun e=>by subst e; exact⟨gt _,rfl⟩,fun e=>e.2⟩
  ·have h0:m≠0:=fun z=>h0 (decide_eq_true (by rw [z]; rfl))
   cases m with
   | zero=>exact absurd rfl h0
   | succ m =>
   refine⟨aZ _,fun D hD=>?_⟩;have s0:=zd (o:=.lst []) hD;have h2n:2 ^ ns.length<=65536:=bq (eg #[D] hn) #[D];refine⟨_,rfl,a,_,rfl,.inl (s0.seq hS),_,rfl,by rw [ae]; lia,by rw [ae]; lia,?_⟩;rw [ae,bd];refine zbT (lo:=0) (n:=ns.length) (fun i σ H'=>∃ (e3:Option V) (ls:List Addr) (cs:List #[Id]),σ = [some #[RC],some (.int ((m+1:Nat):Int)),some #[Ri],e3]/\zC H H'/\H' D=some #[V2]/\zla (hide H' D) ls cs/\cs.length+2 ^ (ns.length - i)<=2 ^ ns.length /\
    ∀ c,c∈cs↔∃ (j:Nat) (x:Int) (c':List Int),j < i/\ns[j]? = some x/\c=x :: c'/\c'.Sublist (ns.drop (j+1))/\c'.length=m)
    ⟨none,[],[],rfl,s0,zb,.nil,#[M],fun c=>by simp⟩ ?_ ?_
   ·rintro zD zT i σ H1 hi ⟨e3,ls,cs,rfl,s1,Hu,hI,nj,nH⟩;have Cz:=hI.length;obtain⟨x,hx⟩:∃ x,ns[i]? = some x:=⟨ns[i]'hi,#[M]⟩;have JL:atI #[AT] (0+(i:Int))=some #[XW]:=by rw [fi]; exact zag (by rw [ao,hx]; rfl)
    have em:((m+1:Nat):Int) - 1=(m:Int):=by lia
    have ec:(0+(i:Int))+1=((i+1:Nat):Int):=by lia
    have hSa:=s1.seq hS;refine⟨_,rfl,.inl ⟨rfl,_,mS.of Hu⟩,_,rfl,_,rfl,_,_,rfl,rfl,_,rfl,a,_,rfl,hSa,fun z hz=>?_⟩;rw [ec,znn,<- iz];have v1:=zd (o:=.lst ((ns.drop (i+1)).map V.int)) hz;refine⟨_,rfl,_,_,rfl,rfl,z,ns.drop (i+1),by show [V.ref z,V.int (((m+1:Nat):Int) - 1)]=_; rw [em],mS.of zb,by rw [bP]; lia,#[O],fun l ls' cs' H3 hl s3 Ah hI' Gb Ap=>?_⟩;have Ao:=v1.trans s3;have Hs:=Ao _ _ Hu;have JM:=hI'.length;rw [bP] at Gb;have hpow:2 ^ (ns.length - i)=2*2 ^ (ns.length - (i+1)):=by
     have:ns.length - i=ns.length - (i+1)+1:=by lia
     rw [this,iU];lia
    refine⟨l,rfl,⟨_,mS.of Ah⟩,zao (n:=ls'.length) (fun j ys H'=>zC H3 H'/\∃ us:List Addr,ys=us.map V.ref/\zla (hide H' D) us ((cs'.take j).map (x :: ·))) ⟨fun _ _ e=>e,[],rfl,.nil⟩ ?_ ?_ ?_ ?_⟩
    ·rintro j ys H4 hj ⟨s4,_⟩;exact⟨_,.ref ls'[j],mS.of #[Wr],by rw [ao,aI hj]; rfl⟩
    ·rintro ys H4 ⟨s4,_⟩;exact⟨_,mS.of #[Wr],by rw [ae]; exact ah _⟩
    ·rintro zS zT zE j y ys H4 H5 hj ⟨s4,us,rfl,nM⟩ ⟨rfl,hy⟩;obtain⟨lo,rfl,rT⟩:=zaQ (hy _ (mS.of #[Wr]));obtain⟨c',nh,hlc⟩:=Paired.get hI' rT;have IV:=(Ap c').mp (aV nh);have vf:=nM.length;rw [ae,aA] at vf;refine gY ⟨_,rfl,_,rfl,a,_,_,.int x,rfl,rfl,(Ao.trans s4).seq hSa,JL,by show 1<=sizeLine; lia,fun b hb=>?_⟩;have v5:=zd (o:=.lst [.int x]) hb;refine⟨_,rfl,b,lo,[.int x],c'.map V.int,rfl,rfl,zb,v5 _ _ (s4 _ _ hlc),by rw [ae,IV.2]; show 1+m<=sizeLine; lia,fun l2 qX=>⟨by rw [ae]; lia,s4.trans (v5.trans (zd qX)),us++[l2],by rw [aB]; rfl,?_⟩⟩;rw [take_snoc nh,aB];have JN:l2≠D:=fun e=>by
      rw [e,v5 _ _ (s4 _ _ Hs)] at qX;cases qX
     refine dh (nM.same (zbf (v5.trans (zd qX)))) (za8 ?_ JN);rw [zb];rfl
    ·rintro ys H4 Dc ⟨s4,us,rfl,nM⟩ Hv;rw [JM,bx] at nM;have vf:=nM.length;rw [ae] at vf;have v6:=zd (o:=.lst #[WL]) Hv;have DX:=s4 _ _ Hs;have DW:D≠Dc:=zl DX Hv;refine⟨D,Dc,ls.map V.ref,us.map V.ref,rfl,rfl,v6 _ _ DX,zb,by rw [ae,ae]; lia,?_⟩;refine⟨_,ls++us,cs++cs'.map (x :: ·),rfl,?_,?_,?_,?_,fun c=>?_⟩
     ·exact zaZ (s1.trans (Ao.trans #[XJ])) hD
     ·rw [zb,aB]
     ·rw [zfl];have t1:zC (hide H1 D) (hide (mR H4 Dc #[Sj]) D):=zbf (Ao.trans #[XJ]);have t2:zC (hide H4 D) (hide (mR H4 Dc #[Sj]) D):=zbf v6;exact zcg (hI.same t1) (nM.same t2)
     ·rw [aF,ae];lia
     ·rw [aP,nH c,be];constructor
      ·rintro (⟨j,x',c',h1,h2,h3,h4,h5⟩ | ⟨c',h1,rfl⟩)
       ·exact⟨j,x',c',#[O],h2,h3,h4,h5⟩
       ·obtain⟨h2,h3⟩:=(Ap c').mp h1;exact⟨i,x,c',#[O],hx,rfl,h2,h3⟩
      ·rintro⟨j,x',c',h1,h2,h3,h4,h5⟩;by_cases hj:j < i
       ·exact .inl ⟨j,x',c',hj,h2,h3,h4,h5⟩
       ·have:j=i:=by lia
        subst this;rw [hx] at h2;cases h2;exact .inr ⟨c',(Ap c').mpr ⟨h4,h5⟩,h3.symm⟩
   ·rintro σ H1 ⟨e3,ls,cs,rfl,s1,Hu,hI,nj,nH⟩;refine⟨_,rfl,q D ls cs H1 hD s1 Hu (hI.same (zcZ H1 D)) (bq (iP _ _) nj) fun c=>?_⟩;rw [nH c,zlb]
theorem zcq:Ko ["p","k","found","step","longer","one"] ["p","k"] (zi zdY):=#[S]
theorem zno (T:Txt K mg t) (F:Fun K "_law_all" "_law_all" zdY t.P4 fd):Kx P w K mg base CX0 1 t.P4 fd ["p","k"] (zm2 K):=by
 refine F.ok zcq #[o0] #[ld]
 ·obtain⟨p,k,rfl,_⟩:=h;rfl
 ·obtain⟨p,k,rfl,p0,p1,hk,q⟩:=h;refine zaJ ?_; intro zX;refine⟨_,#[ze,#[zq,2,zcq.nd,#[A],#[zP,#[ya,#[zad,#[zf]]]]],#[ze,#[zbi,bN,#[zaK,T.K1,#[SE]],#[zm,3,zcq.nd,#[A]],#[ze,#[zq,4,zcq.nd,#[A],#[S9]],#[ze,#[zbi,bN,#[zat,#[IN]],#[zm,5,zcq.nd,#[Wf]],#[zj,#[zaN,#[zcQ,bw,iY,iZ,#[zgc],#[UZ],#[ya,#[zaP,(Kr.of (N':=["number","one"]) (ix:=[none,some 5]) (zi zdY) _ rfl rfl rfl),#[zaO],#[zaK,T.K1,#[ya,#[wE]]],#[wn],#[BT],(fun _ _ _ _=>#[zn,(@zld _ (K) rfl),#[xz],#[zad,#[ya,#[wE]]]])]]]]]],#[zj,#[zq,2,zcq.nd,#[A],#[UZ]]]]]],#[zj,#[zH,#[IN]]]]],?_⟩;refine zfO ?_; intro rh qi;have qJ:=a8;refine⟨aZ _,fun E0 hE0=>⟨by show 1<=sizeLine; lia,fun c hc=>?_⟩⟩;have u0:=zd (o:=.tup []) hE0;have u1:=zd (o:=.lst [.ref E0]) hc;refine (mP rfl (mP rfl ⟨#[O],#[O],?_⟩));rw [bd];refine zbT (lo:=0) (n:=k) (fun i σ H'=>∃ (f:Addr) (rs:List Addr) (qs:List #[Id]) (e3 e4 e5:Option V),σ = [some #[WF],some (.int k),some #[SL],e3,e4,e5]/\H f=none/\zC H H'/\H' f=some #[re]/\zaM H' rs qs/\qs.length<=97 ^ i/\∀ x,x∈qs↔IsP p i x)
   ⟨c,[E0],[[]],none,none,none,rfl,u0.free hc,u0.trans u1,zb,.cons (u1 _ _ zb) .nil,ah _,fun x=>?_⟩ ?_ ?_
  ·rw [aS];exact⟨fun e=>by subst e; exact⟨rfl,#[M]⟩,fun e=>cH.mp e.1⟩
  ·rintro zD zT i σ H1 hi ⟨f,rs,qs,e3,e4,e5,rfl,hf,s1,Gc,hT,EO,nH⟩;have tX:=hT.length;have FY:97 ^ i<=97 ^ 1:=eg #[D] #[O];have JO:97 ^ (i+1)=97 ^ i*97:=iU ..;refine⟨aZ _,fun D hD=>?_⟩;have s0:=zd (o:=.lst []) hD;have hfD:f≠D:=zl Gc hD;refine⟨_,rfl,f,rfl,⟨_,mS.of (s0 _ _ Gc)⟩,zbe (K:=K) (a:=f) (xs:=rs.map V.ref) (fun j σ H'=>∃ (us:List Addr) (e3 e5:Option V),σ = [some #[WF],some (.int k),some #[SL],e3,some #[Ri],e5]/\zC H1 H'/\H' D=some #[Sj]/\zaM (hide H' D) us ((qs.take j).flatMap (zez p)))
    ⟨[],_,_,rfl,s0,zb,.nil⟩ (fun j σ H' _ hq=>by obtain⟨_,_,_,_,s3,_⟩:=hq; exact (mS.of (s3 _ _ Gc))) ?_ ?_⟩
   ·rintro zD zT j y σ H2 hy ⟨us,e3,e5,rfl,s2,BU,nM⟩;obtain⟨ob,rfl,Iq⟩:=zaQ hy;obtain⟨qq,wG,pv⟩:=Paired.get hT Iq;have vf:=nM.length;rw [zdV,aA] at vf;have hjl:j < qs.length:=(aj.mp wG).1;have hqi:qq.length=i:=((nH qq).mp (aV wG)).1;have hfp:=zdV (p:=p) qs;have yZ:((qs.take j).length)*p.toNat<=97*97:=l7 (by rw [aA]; lia) #[O];rw [aA] at yZ;refine (mP rfl ⟨.inl ⟨rfl,_,mS.of BU⟩,(mP rfl ⟨p,rfl,#[O],#[O],zao (n:=p.toNat) (fun m ys H'=>zC H2 H'/\∃ vs:List Addr,ys=vs.map V.ref/\zaM (hide H' D) vs ((bn m).map fun n:Nat=>qq++[(n:Int)])) ⟨fun _ _ e=>e,[],rfl,.nil⟩ (fun m ys H' hm _=>hm) #[SS] ?_ ?_⟩)⟩)
    ·rintro zS zT zE m y ys H4 H5 hm ⟨s4,vs,rfl,ER⟩ ⟨rfl,rfl⟩;have GX:=ER.length;rw [ae,cw] at GX;have DX:=s4 _ _ BU;have Bt:(vs.map V.ref).length < sizeLine:=by rw [ae]; lia
     have JP:=(s2.trans s4) _ _ pv;have z0:(0:Int)+(m:Int)=(m:Int):=by lia
     refine gY (mP rfl (mP rfl ⟨by show 1<=sizeLine; lia,fun tb JQ=>?_⟩));have v5:=zd (o:=.tup [.int (0+(m:Int))]) JQ;have htD:tb≠D:=fun e=>by rw [e,DX] at JQ; cases JQ
     refine (ex4 ob tb (qq.map V.int) ([.int (0+(m:Int))]) ⟨rfl,rfl,m7.of (v5 _ _ JP),m7.of zb,#[M],by rw [ae]; show qq.length+1<=sizeLine; lia,fun hx=>?_,fun hx r sy=>?_⟩)
     ·refine⟨Bt,s4.trans v5,vs++[tb],by rw [aB]; rfl,?_⟩;rw [fG,aB];refine dh (ER.same (zbf v5)) (za8 ?_ htD);rw [zb,aB,hx,z0];rfl
     ·have v6:=zd (o:=.tup (qq.map V.int++[.int (0+(m:Int))])) sy;have hrD:r≠D:=fun e=>by rw [e,v5 _ _ DX] at sy; cases sy
      refine⟨Bt,s4.trans (v5.trans v6),vs++[r],by rw [aB]; rfl,?_⟩;rw [fG,aB];refine dh (ER.same (zbf (v5.trans v6))) (za8 ?_ hrD);rw [zb,aB,z0];rfl
    ·rintro ys H4 Dc ⟨s4,vs,rfl,ER⟩ Hv;have v6:=zd (o:=.lst (vs.map V.ref)) Hv;have DX:=s4 _ _ BU;have GX:=ER.length;rw [ae,cw] at GX;refine (ex4 D Dc #[WL] (vs.map V.ref) ⟨rfl,rfl,v6 _ _ DX,zb,by rw [ae,ae]; lia,?_⟩);refine (ex3 (us++vs) _ _ ⟨rfl,zaZ (s2.trans #[XJ]) hD,by rw [zb,aB],?_⟩);rw [zfl,zgu wG];exact zcg (nM.same (zbf #[XJ])) (ER.same (zbf v6))
   ·rintro σ H2 ⟨us,e3,e5,rfl,s2,BU,nM⟩;rw [ae,tX,bx] at nM;refine (mP rfl (ex6 D us _ _ _ _ ⟨rfl,s1.free hD,s1.trans s2,BU,nM.same (zcZ H2 D),?_,zm1 nH⟩));rw [zdV,JO];exact l7 EO #[O]
  ·rintro σ H1 ⟨f,rs,qs,e3,e4,e5,rfl,hf,s1,Gc,hT,EO,nH⟩;have FY:97 ^ k<=97 ^ 2:=eg #[D] hk;exact (mP rfl (q f rs qs H1 hf s1 Gc hT #[O] nH))
noncomputable def zhi (K:af):Sp:=fun vs H Q E=>∃ m,m<=5/\zmZ K (m+1) vs H Q E
theorem zhj (T:Txt K mg t) (F:Fun K "_law_choices" "_law_choices" zbg t.KN fd):Kx P w K mg base CX0 7 t.KN fd ["some","many"] (zhi K) :=
 ⟨fun vs H Q E ⟨m,_,h⟩=>#[Ye].len vs H Q E h,fun A outer s H args us vs Q E hr he hb hv ⟨m,hm,h⟩=>#[Ye].run A outer s H args us vs Q E (hr.mono #[O]) he hb hv h⟩
theorem zaL:Ko ["code","row","t","p","k","places","some","ones","choice","known","one"] ["code","row","t"] (zi zbK):=#[S]
theorem zlF (T:Txt K mg t) (F:Fun K "_law_near" "_law_near" zbK t.NN fd):Kx P w K mg base CX0 8 t.NN fd ["code","row","t"] (zle K):=by
 obtain⟨Aq,xE,uU⟩:=T.NX;have BY:=zno (P:=P) (w:=w) (base:=base) T xE;obtain⟨qM,oa,og⟩:=T.KU;have pG:=zhj (P:=P) (w:=w) (base:=base) T oa;obtain⟨uV,rS,pH⟩:=T.LA;have vA:=zg8 (P:=P) (w:=w) (base:=base) T rS;obtain⟨xZ,vB,sN⟩:=T.Nu;have Ar:=zlE (P:=P) (w:=w) (base:=base) T vB;refine F.ok zaL #[o0] #[ld]
 ·obtain⟨c,tt,r,p,k,T',pl,rw,rfl,_⟩:=h;rfl
 ·obtain⟨c,tt,r,p,k,T',pl,rw,rfl,hc,sm,tX,hn,hp,vv,oR,F',k0,k1,hkT,q⟩:=h;have hu:(A.deeper (envOfC (bT "_law_near") (zi zbK) s.heap.objs.size t.NN nA)).units+1 < cLine:=by have:=hr.units; lia
  refine zaJ ?_; intro zX;refine⟨_,#[ze,#[zbh,#[wE],#[zbo,#[zt,#[zm,3,zaL.nd,#[A]],#[zt,#[zm,4,zaL.nd,#[A]],#[zt,#[zm,5,zaL.nd,#[Wf]],#[zaf]]]]]],#[ze,#[zbt,6,zaL.nd,#[A],(Kr.of (N':=["number","row"]) (ix:=[none,some 1]) (zi zbK) _ rfl rfl rfl),#[zaO],#[zaK,T.K1,#[ya,#[Rq]]],#[wn],#[Vy],#[RJ]],#[ze,(zc1 #[zam,(@PW.pt _ _ _ #[zdv,#[zA,#[zcO],#[UZ],#[zh],(zI _)],#[zc7,#[zA,#[zcO],#[RI],#[zh],(zI _)]]]),#[zj,#[zq,7,zaL.nd,#[A],#[zF,BY,#[ss],T.Qt,xE.kp,uU,#[zY],#[Wy]]]],#[ze,#[zq,7,zaL.nd,#[A],#[S9]],#[zj,#[zbi,bN,#[zat,#[zF,pG,#[ss],T.MC,oa.kp,og,#[zY],#[za,#[pvx,6],#[Ru]]]],#[zm,8,zaL.nd,#[A]],#[zj,#[zaN,#[zcQ,bw,cE,cF,#[zbq],#[pvx,7],#[ya,#[zF,vA,#[ss],T.NU,rS.kp,pH,#[zY],#[za,#[RI],#[ya,#[zaP,(Kr.of (N':=["number","places","row"]) (ix:=[none,some 5,some 1]) (zi zbK) _ rfl rfl rfl),#[zaO],#[zat,#[VN]],#[wn],#[BT],(fun _ _ _ _=>#[zad,#[za,#[zB,#[zaY,(K)],#[xz],#[wE]],#[ya,#[zB,#[zbV,(K)],#[IN],#[wE]]]]])]]]]]]]]]]]]),#[ze,#[zq,9,zaL.nd,#[A],#[zhW]],#[ze,#[zbi,bN,#[zat,#[pvx,7]],#[zm,10,zaL.nd,#[A]],#[zj,#[zjL,hu,#[pvx,9],#[pvx,10],#[zdE]]]],#[zj,#[zH,#[zr,(@zg1 _),T.NS,li,#[ya,#[zaP,(Kr.of (N':=["one","code","row","t"]) (ix:=[none,some 0,some 1,some 2]) (zi zbK) _ rfl rfl rfl),#[zaO],(@zqu _ _ _ _ #[pvx,9]),#[wn],(fun _ _ _ _=>#[zbk,#[zA,#[zl0],#[zr,#[zbC,(K)],T.LC,bI,#[ya,#[zF,Ar,#[ss],T.PX,vB.kp,sN,#[zY],#[za,#[xz],#[za,#[IN],#[ya,#[wE]]]]]]],#[RI],(zI _)]]),#[RJ]]]]]]]]]]],?_⟩;refine zo7 ?_; intro DK BM vd rh qi;have qJ:=a8;have rp:=z6 hp;have hP:=ze0 vv oR F';refine⟨_,rfl,c,_,rfl,m7.of hc.1,rfl,_,_,rfl,_,_,rfl,_,_,rfl,rfl,?_⟩;refine (mP rfl ⟨r,(mP rfl ⟨.inl (mS.of sm),(mP rfl ⟨by rw [ae]; lia,by rw [ae]; lia,?_⟩)⟩)⟩);rw [ae,bd];refine zao (n:=rw.length) (fun i ys H'=>ys=(zar rw i).map V.int/\H'=H) ⟨rfl,rfl⟩ #[T8] #[SS] ?_ ?_
  ·rintro zS zT zE i xx ys H4 H5 hi ⟨rfl,rfl⟩ ⟨rfl,rfl⟩;obtain⟨o,ho⟩:∃ o,rw[i]? = some o:=⟨rw[i]'#[O],#[M]⟩;have pv:atI (rw.map ng) (0+(i:Int))=some (ng o):=by
    rw [fi];exact zag (by rw [ao,ho]; rfl)
   refine (mP rfl (mP rfl (ex4 r _ _ _ ⟨rfl,rfl,mS.of sm,pv,rfl,#[KK]⟩)));have hl:=zbO rw i;rw [zdz,ho,aB];refine za6 (fun h1=>(mP rfl ⟨zav (by rw [ae]; lia),?_,rfl⟩)) (fun h1=>⟨?_,rfl⟩)
   ·cases o with
    | none=>exact absurd h1 (by simp [ng])
    | some z=>rw [fi]; rfl
   ·cases o with
    | none=>simp
    | some z=>exact absurd (by simp [ng]) h1
  rintro ys H4 D ⟨rfl,rfl⟩ hD;have sD:=zd (o:=.lst (#[GE].map V.int)) hD;have DW:mR H4 D (.lst (#[GE].map V.int)) D=some (.lst (#[GE].map V.int)):=zb;generalize mR H4 D (.lst (#[GE].map V.int))=H5 at sD DW |-;have hsl':=zbO rw rw.length;have hc5:=hc.same sD;have hr5:=sD _ _ sm;refine⟨fun σ H'=>∃ (o:Addr) (rs:List Addr) (qs:List #[Id]) (e8:Option V),σ = [some #[Tv],some (.ref r),some (.int T'),some #[WF],some (.int k),some (.ref tt),some #[Ri],some #[XV],e8,none,none]/\zC H5 H'/\H' o=some #[re]/\zaM H' rs qs/\qs.length<=65536/\(∀ x∈qs,IsP p k x)/\∀ x,IsP p k x->T'<=(hits p x #[KB]:Int)->x∈qs,?_,?_⟩
  ·refine (mP rfl (m8 rfl rfl (mP rfl (za6 (fun h1=>(mP rfl (m8 rfl rfl (mP rfl (za6 (fun h2=>?_) (fun h2=>?_)))))) (fun h1=>zaS ?_)))))
   ·have h1:=of_decide_eq_true h1;refine (mP rfl (mP rfl ⟨p,k,rfl,#[O],#[O],#[O],fun l rs qs H6 hl s6 h6 hT EO nH=>?_⟩));exact (ex4 l rs qs _ ⟨rfl,s6,h6,hT,#[O],fun x hx=>(nH x).mp hx,fun x hx _=>(nH x).mpr hx⟩)
   all_goals
    refine⟨aZ _,fun o ho=>?_⟩;have u0:=zd (o:=.lst []) ho;have JR:mR H5 o (.lst []) o=some (.lst []):=zb;generalize mR H5 o (.lst [])=H5a at u0 JR |-;refine⟨_,rfl,_,rfl,k,k1,D,zar rw rw.length,rfl,mS.of (u0 _ _ DW),#[O],#[O],fun l ls cs H6 hl s6 h6l hI nj nH=>?_⟩;have rT:l≠o:=fun e=>by rw [e,JR] at hl; cases hl
    have Gd:=s6 _ _ JR;have Cz:=hI.length;have h2n:2 ^ #[GE].length<=65536:=bq (eg #[D] (show #[GE].length<=16 by lia)) #[D];have s56:zC H5 (hide H6 o):=fun b u e=>za8 ((u0.trans s6) _ _ e) (zl e ho)
    refine⟨l,rfl,⟨_,mS.of h6l⟩,zbe (K:=K) (a:=l) (xs:=ls.map V.ref) (fun i σ H'=>∃ (rs:List Addr) (e8:Option V),σ = [some #[Tv],some (.ref r),some (.int T'),some #[WF],some (.int k),some (.ref tt),some #[Ri],some #[XV],e8,none,none]/\zC (hide H6 o) H'/\H' o=some #[re]/\zaM (hide H' o) rs ((cs.take i).map fun ch=>thr p (ch.map #[Wq])))
     ⟨[],_,rfl,zcZ H6 o,Gd,.nil⟩ (fun i σ H' _ hq=>by obtain⟨_,_,_,s3,_⟩:=hq; exact (mS.of (s3 _ _ (za8 h6l rT)))) ?_ ?_⟩
    ·rintro zD zT i y σ H2 hy ⟨rs,e8,rfl,s2,Hw,BR⟩;obtain⟨lo,rfl,Dy⟩:=zaQ hy;obtain⟨ch,qD,pv⟩:=Paired.get hI Dy;obtain⟨sv,ub⟩:=(nH ch).mp (aV qD);have JS:lo≠o:=fun e=>by
      rw [e,Gd] at pv;injection pv with pv
      injection pv with pv
      cases ch with
      | nil=>simp at ub; lia
      | cons _ _=>simp at pv
     have BZ:=s2 _ _ (za8 pv JS);have s52:=s56.trans s2;have B0:=BR.length;rw [ae,aA] at B0;have hil2:i < cs.length:=(aj.mp qD).1;refine (mP rfl ⟨.inl ⟨rfl,_,mS.of Hw⟩,(mP rfl (mP rfl ⟨lo,rfl,⟨_,mS.of BZ⟩,zao (n:=ch.length) (fun j ys H'=>zC H2 H'/\∃ us:List Addr,ys=us.map V.ref/\PtB H' us ((ch.take j).map #[Wq])) ⟨fun _ _ e=>e,[],rfl,.nil⟩ ?_ ?_ ?_ ?_⟩))⟩)
     ·rintro j ys H7 hj ⟨s7,_⟩;exact⟨_,.int ch[j],mS.of (s7 _ _ BZ),by rw [ao,aI hj]; rfl⟩
     ·rintro ys H7 ⟨s7,_⟩;exact⟨_,mS.of (s7 _ _ BZ),by rw [ae]; exact ah _⟩
     ·rintro zS zT zE j y ys H7 H8 hj ⟨s7,us,rfl,nM⟩ ⟨rfl,hy⟩;obtain⟨z,rfl,hz⟩:=zaF (hy _ (mS.of (s7 _ _ BZ)));obtain⟨j',y',rfl,rj,hrj⟩:=zm5 (sv.subset (aV hz));obtain⟨x,hx⟩:∃ x,pl[j']? = some x:=⟨pl[j']'#[O],#[M]⟩;have s57:=s52.trans s7;have vf:=nM.length;rw [ae,aA] at vf;refine gY (mP rfl (mP rfl (ex4 tt _ _ #[XW] ⟨rfl,rfl,m7.of (s57 _ _ hc5.2),zag (by rw [ao,hx]; rfl),(mP rfl (mP rfl (ex4 r _ _ (ng (some y')) ⟨rfl,rfl,mS.of (s57 _ _ hr5),zag (by rw [ao,hrj]; rfl),by show 2<=sizeLine; lia,fun T2 Ai=>⟨by rw [ae]; lia,s7.trans (zd Ai),us++[T2],by rw [aB]; rfl,?_⟩⟩)))⟩)));rw [take_snoc hz,aB];refine dh (nM.same (zd Ai)) ?_;unfold zg3;rw [bd,hx,hrj];exact zb
     ·rintro ys H7 Dp ⟨s7,us,rfl,nM⟩ hDp;rw [bx] at nM;have v8:=zd (o:=.lst #[WL]) hDp;refine (ex3 p Dp _ ⟨rfl,(nM.same v8).pts zb,by rw [ae]; lia,hp,zfx tX hP sv,fun tl H9 xO s9 h9=>?_⟩);have JT:=s7.trans (v8.trans s9);have h9o:=JT _ _ Hw;have hto:tl≠o:=fun e=>by rw [e,h9o] at h9; injection h9 with h9; cases h9
      refine (ex3 o _ _ ⟨rfl,rfl,h9o,by rw [ae]; lia,rs++[tl],(mP rfl ⟨?_,by rw [zb,aB]; rfl,?_⟩)⟩)
      ·refine zaZ (s2.trans JT) ?_;unfold hide;rw [if_pos rfl]
      ·rw [zfl,take_snoc qD,aB];exact dh (BR.same (zbf JT)) (za8 h9 hto)
    ·rintro σ H2 ⟨rs,e8,rfl,s2,Hw,BR⟩;rw [ae,Cz,bx] at BR;refine (ex4 o rs _ _ ⟨rfl,s56.trans s2,Hw,BR.same (zcZ H2 o),by rw [ae]; lia,fun x hx=>?_,fun x hx ht=>?_⟩)
     ·obtain⟨ch,h1,rfl⟩:=be.mp hx;obtain⟨sv,ub⟩:=(nH ch).mp h1;obtain⟨a1,a2,_⟩:=ziU hp (zfx tX hP sv);exact⟨by rw [a1,ae]; exact ub,a2⟩
     ·obtain⟨ch,h1,h2,h3⟩:=zig hp tX hP (t:=T'.toNat) hx #[O] #[O];exact be.mpr ⟨ch,(nH ch).mpr ⟨h1,h2⟩,h3.symm⟩
  ·rintro σ H6 ⟨o,rs,qs,e8,rfl,s6,Gd,hT,EO,BV,Ge⟩;intro Kd JU;have v0:=zd (o:=.dT []) JU;have JK:=hT.length;refine⟨_,rfl,o,rfl,⟨_,mS.of (v0 _ _ Gd)⟩,zbe (K:=K) (a:=o) (xs:=rs.map V.ref) (fun i σ H'=>∃ (mZ:List (List Key×V)) (nX:List #[Id]) (wI:Option V),σ = [some #[Tv],some (.ref r),some (.int T'),some #[WF],some (.int k),some (.ref tt),some #[Ri],some #[XV],e8,some (.ref Kd),wI] /\
    zC H6 H'/\H' Kd=some #[VO]/\KeysAre mZ nX/\nX.Nodup/\nX.length<=i/\∀ x,x∈nX↔x∈qs.take i)
    ⟨[],[],_,rfl,v0,zb,rfl,#[M],ah _,fun x=>by simp⟩ (fun i σ H' _ hq=>by obtain⟨_,_,_,_,s3,_⟩:=hq; exact (mS.of (s3 _ _ Gd))) ?_ ?_⟩
   ·rintro zD zT i y σ H7 hy ⟨mZ,nX,wI,rfl,s7,JV,xT,DY,Bl,nH⟩;obtain⟨rb,rfl,DV⟩:=zaQ hy;obtain⟨qq,wG,pv⟩:=Paired.get hT DV;have hiq:i < qs.length:=(aj.mp wG).1;have JH:mZ.length=nX.length:=by
     have:=congrArg eA xT;rw [ae,ae] at this;exact this
    refine (mP rfl (mP rfl ⟨Kd,(mP rfl ⟨zkX.t (k:=qq.map df) JV (by rw [s7 _ _ pv,bD]; rfl) #[O],?_⟩)⟩));obtain⟨vw,m1,m2,m3,m4⟩:=zie xT DY qq (.bl true);refine (ex3 _ vw _ ⟨rfl,zaZ s7 JU,zb,m1,m2,#[O],fun x=>?_⟩);rw [m4 x,nH x,take_snoc wG,aP,aS]
   ·rintro σ H7 ⟨mZ,nX,wI,rfl,s7,JV,xT,DY,Bl,nH⟩;rw [ae,JK] at nH Bl;rw [bx] at nH;have JH:mZ.length=nX.length:=by
     have:=congrArg eA xT;rw [ae,ae] at this;exact this
    refine (mP rfl ⟨Kd,mZ,rfl,JV,fun ob=>?_⟩);have s78:zC H6 (hide H7 Kd):=fun b u e=>za8 (s7 _ _ e) (zl e JU)
    have s48:=sD.trans (s6.trans s78);refine zao (n:=mZ.length) (fun i ys H'=>zC (hide H7 Kd) H'/\H' Kd=some (.frz ob #[VO])/\∃ us:List Addr,ys=us.map V.ref/\us.length<=i/\zaM H' us ((nX.take i).filter fun x=>decide (T'<=(hits p x #[KB]:Int)))) ⟨zm4,zb,[],rfl,ah _,.nil⟩ (fun i ys H' hi ⟨_,hK,_⟩=>⟨hK,hi⟩) (fun ys H' ⟨_,hK,_⟩=>⟨hK,ah _⟩) ?_ ?_
    ·rintro zS zT zE i y ys H8 H9 hi ⟨s8,JW,us,rfl,vf,nM⟩ ⟨rfl,a,kk,rfl,hk,ha⟩;obtain⟨qq,wG,rfl⟩:∃ qq,nX[i]? = some qq/\kk=qq.map df:=by
      rw [xT,ao] at hk;cases e:nX[i]? with
      | none=>rw [e] at hk; cases hk
      | some qq=>rw [e] at hk; exact⟨qq,rfl,(aO hk).symm⟩
     have Fo:H9 a=some (.tup (qq.map V.int)):=by
      rw [ha,bD];rfl
     have ES:=s48.trans s8;refine (mP rfl (mP rfl (mP rfl (ex9 c tt r a p k pl qq rw ⟨rfl,hc.same ES,ES _ _ sm,tX,Fo,#[O],#[O],oR,#[O],fun fl H10 Al As uC=>?_⟩))));refine⟨fl,(mP rfl ⟨.inl (mS.of uC),#[SU]⟩)⟩;have ef:(#[Yf].map V.int).length=hits p qq #[KB]:=by rw [ae]; exact zj3 tX
     rw [ef];have Be:(nX.take (i+1)).filter (fun x=>decide (T'<=(hits p x #[KB]:Int)))=(nX.take i).filter (fun x=>decide (T'<=(hits p x #[KB]:Int)))++[qq].filter (fun x=>decide (T'<=(hits p x #[KB]:Int))):=by rw [take_snoc wG,cT]
     refine za6 (fun h=>⟨_,rfl,?_,s8.trans As,As _ _ JW,us++[a],by rw [aB]; rfl,by rw [aF]; exact gm vf,?_⟩) (fun h=>⟨s8.trans As,As _ _ JW,us,rfl,#[O],?_⟩)
     ·rw [ae]; lia
     ·rw [Be,fV (p:=fun x=>decide (T'<=(hits p x #[KB]:Int))) h];exact dh (nM.same As) (As _ _ Fo)
     ·rw [Be,fW (p:=fun x=>decide (T'<=(hits p x #[KB]:Int))) h,lT,cb];exact nM.same As
    ·rintro ys H8 Dl ⟨s8,JW,us,rfl,vf,nM⟩ hDl;rw [JH,bx] at nM;have v9:=zd (o:=.lst #[WL]) hDl;have ES:=(s48.trans s8).trans v9;have Gf:=nM.same v9;have JX:mR H8 Dl #[Sj] Dl=some #[Sj]:=zb;generalize mR H8 Dl #[Sj]=H9 at ES Gf JX |-;obtain⟨ps,rfl,Gg,Gh⟩:=Gf.zs;have hL:∀ x,x∈ps.map (·.2)↔IsP p k x/\T'<=(hits p x #[KB]:Int):=fun x=>by
      rw [<- Gg,db,nH x,decide_eq_true_iff];exact⟨fun h=>⟨BV x h.1,h.2⟩,fun h=>⟨Ge x h.1 h.2,h.2⟩⟩
     have hTL:zk7 H9 k p ps:=fun x hx=>⟨Gh x hx,((hL x.2).mp (eM hx)).1⟩
     have e1:(ps.map (·.1)).map V.ref=ps.map (fun q=>V.ref q.1):=by rw [bD]; rfl
     rw [e1] at JX;refine (ex4 Dl k p ps ⟨rfl,mS.of JX,hTL,k0,#[O],fun l pV hl nW Am=>?_⟩);have e2:pV.map (fun q=>V.ref q.1)=(pV.map (·.1)).map V.ref:=by rw [bD]; rfl
     rw [e2];have rX:(pV.map (·.2)).Perm (ps.map (·.2)):=nW.map _;refine q l (pV.map (·.1)) (pV.map (·.2)) _ (ES.free hl) (ES.trans (zd hl)) zb ((zaM.of fun x hx=>Gh x (nW.mem_iff.mp hx)).same (zd hl)) (zj5 #[O] (fun x hx=>((hL x).mp (rX.mem_iff.mp hx)).1) (rX.nodup_iff.mpr (by rw [<- Gg]; exact DY.filter _)) ?_) fun x=>?_
     ·rw [d7];exact Am
     ·rw [rX.mem_iff];exact hL x
end
end My
end
section
namespace My
open PySem L2 PyProof.Rows Srt
variable {k:Nat} {ms ns:List Int} {nc:List (Int×Int)} {qs:List #[Id]}
noncomputable def sts (n:Nat):Nat->List Nat
 | 0=>[0]
 | m+1=>(sts n m).flatMap fun s=>(bn (n - s)).map fun j=>s+j+1
theorem zkj {α:Type} (xs:List α):∀ m,#[Tp].map (·.1)=sts xs.length m
 | 0=>rfl
 | m+1=>by
  show (#[Tp].flatMap (nxt xs)).map (·.1)=(sts xs.length m).flatMap _;rw [<- zkj xs m,lC,lD];congr 1;funext c;refine eZ fun j=>?_
  rw [ao,ao];by_cases hj:j < xs.length - c.1
  ·have hx:xs[c.1+j]? = some (xs[c.1+j]'#[O]):=aI _;rw [zjW hx,j9 hj];rfl
  ·rw [du (by rw [zeX]; lia),du (by rw [cw]; lia)];rfl
theorem zov:∀ n,n < 8->∀ k,k < 4->(sts n k).length<=35:=by decide +kernel
theorem ziu {p:Int} (hp:p∈zJ) (hP:Pts p nc) {sl:Nat} (k3:k<=3) (s4:sl<=4) (qY:k+sl<=nc.length) (hn:qs.Nodup) (hm:∀ q∈qs,IsP p k q/\((nc.length:Int) - (sl:Int))<=(hits p q nc:Int)):qs.length<=35:=by
 have h1:qs ⊆ ((chs (nc.take (k+sl)) k).map (·.2)).map (thr p):=fun q hq=>by
  obtain⟨h1,h2⟩:=hm q hq;obtain⟨pk,h3,h4⟩:=zdD hp hP (n:=k+sl) (t:=nc.length - sl) h1 #[O] #[O] #[O];exact be.mpr ⟨pk,h3,h4.symm⟩
 have h2:=hn.length_le_of_subset h1;rw [ae,ae] at h2;have h3:=congrArg eA (zkj (nc.take (k+sl)) k);rw [ae,aA,show min (k+sl) nc.length=k+sl by lia] at h3;have h4:=zov (k+sl) #[O] k #[O];lia
noncomputable def sur:List Int->Option Int
 | []=>none
 | a :: r=>if r.all (fun b=>b == a) then some a else none
theorem zow (ns:List Int) (n:Int):et ns n=if n∈ns then ns else ns++[n]:=by
 unfold et;by_cases h:n∈ns
 ·rw [if_pos h,if_pos (eI.mpr ⟨n,h,#[M]⟩)]
 ·rw [if_neg h,if_neg fun hc=>by
   obtain⟨x,hx,Jz⟩:=eI.mp hc;exact h (by rw [<- beq_iff_eq.mp Jz]; exact hx)]
theorem ziv (ns:List Int):(∀ v,v∈dds #[AT]↔v∈ns)/\(dds #[AT]).Nodup/\(dds #[AT]).length<=ns.length:=by
 have key:∀ (ns:List Int),(∀ v,v∈dds #[TY]↔v∈ns.reverse)/\(dds #[TY]).Nodup/\(dds #[TY]).length<=ns.length:=fun ns=>by
  induction ns with
  | nil=>exact⟨fun v=>by simp [dds],by simp [dds],by simp [dds]⟩
  | cons n ns ih =>
   obtain⟨h1,h2,h3⟩:=ih;rw [List.reverse_cons,aB];show (∀ v,v∈dds (ns.reverse.map V.int++[V.int n])↔_)/\(dds (ns.reverse.map V.int++[V.int n])).Nodup/\(dds (ns.reverse.map V.int++[V.int n])).length<=_;rw [zir,zow];by_cases h:n∈dds #[TY]
   ·rw [if_pos h];refine⟨fun v=>?_,h2,by rw [bf]; lia⟩;rw [h1,aP,aS];exact⟨.inl,fun z=>z.elim id fun e=>by rw [e]; exact (h1 n).mp h⟩
   ·rw [if_neg h];refine⟨fun v=>?_,fZ.mpr ⟨h2,#[M],fun a ha b hb e=>?_⟩,by rw [aF,bf]; exact gm h3⟩
    ·rw [aP,aP,h1]
    ·rw [aS.mp hb] at e;exact h (e ▸ ha)
 have:=key ns.reverse;rw [List.reverse_reverse,List.length_reverse] at this;exact this
theorem zpP (hp:ms.Perm (dds #[AT])):(ms.length=1->∃ v,ms = [v]/\sur ns=some v)/\(ms.length≠1->sur ns=none):=by
 obtain⟨h1,h2,_⟩:=ziv ns;have hm:∀ v,v∈ms↔v∈ns:=fun v=>by rw [hp.mem_iff,h1]
 have hn:ms.Nodup:=hp.nodup_iff.mpr h2;constructor
 ·intro h;obtain⟨v,rfl⟩:=List.length_eq_one_iff.mp h;refine⟨v,rfl,?_⟩;cases ns with
  | nil=>exact absurd ((hm v).mp #[M]) #[M]
  | cons a r =>
   have ha:a=v:=by simpa using (hm a).mpr #[M]
   subst ha;show (if r.all (fun b=>b == a) then some a else none)=some a;rw [if_pos (dk.mpr fun b hb=>by have:=(hm b).mpr (aq _ hb); simpa using this)]
 ·intro h;cases ns with
  | nil=>rfl
  | cons a r =>
   show (if r.all (fun b=>b == a) then some a else none)=none;refine if_neg fun qH=>h ?_
   have B1:∀ v∈ms,v=a:=fun v hv=>by
    rcases az.mp ((hm v).mp hv) with e | hv
    ·exact e
    ·exact beq_iff_eq.mp (dk.mp qH v hv)
   have ha:=(hm a).mpr aE
   match ms,ha,hn,B1 with
   | [x],_,_,_=>rfl
   | x :: y :: ms,_,hn,B1 =>
    have e1:=B1 x #[M];have e2:=B1 y #[M];exact absurd (dQ.mp hn).1 (by rw [e1,e2]; simp)
end My
end
section
namespace My
open PySem L2 PyProof.Rows
variable {H H':Hp} {da ea ua:Addr} {fd:FuncData} {k:Nat} {m:Str} {ns pl:List Int} {rows:List Rw} {rs:List Addr} {sl:Int}
section
variable {P:Program} {w:World} {K:af} {mg:Str->Option Value} {base:Heap} {t:Adr}
noncomputable def zox (t:Adr) (K:af):Sp:=fun vs H Q _=>∃ (S:List Addr) (a c tt:Addr) (p:Int) (k sl n:Nat) (x:Int) (pl:List Int) (es:Rw) (ds us:List Dt),vs = [.ref a,.int (n:Int)]/\Lk t H S a c tt p k sl pl es ds us/\pl[n]? = some x/\k<=3/\sl<=4 /\
 (#[VQ].length < k+sl->∀ H',zC H H'->Q .non H')/\∀ (qs:List #[Id]) (H':Hp),zC H H'->Cb p k sl pl es qs->Q #[U4] H'
theorem zhk {c:Addr} (h:m = "can_be"\/m = "check_place"):#[Pi].lookup m=none:=by
 rcases h with rfl | rfl <;> exact zm6 #[N] #[N] #[N] #[N] #[N]
theorem zpQ {P:Program} {w:World} {X:Cx}:zcv #[WH] X E0:=by
 intro mO σ H s ev s' I hq;obtain⟨e,C,H',B,_,_,_,_,q⟩:=hq;exact q.elim
theorem zeb:Ko ["self","number","p","k","places","values"] ["self","number"] (zi zfA):=#[S]
theorem zoy (T:Txt K mg t) (F:Fun K "sure" "Listener.sure" zfA t.sure fd):Kx P w K mg base CX0 7 t.sure fd ["self","number"] (zox t K):=by
 obtain⟨oo,nN,nB⟩:=T.Kv;have nO:=zbZ (P:=P) (w:=w) (base:=base) T nN;obtain⟨uH,sO,pI⟩:=T.Mr;have sP:=zgA (P:=P) (w:=w) (base:=base) T sO;obtain⟨pD,nE,nJ⟩:=T.KO;have nT:=zc4 (P:=P) (w:=w) (base:=base) T nE;refine F.ok zeb #[o0] #[ld]
 ·obtain⟨S,a,c,tt,p,k,sl,n,x,pl,es,ds,us,rfl,_⟩:=h;rfl
 ·obtain⟨S,a,c,tt,p,k,sl,n,x,pl,es,ds,us,rfl,Z,hx,k3,s4,q1,q2⟩:=h;obtain⟨dx,ea,da,ua,k',tt',dr,ur,eS,h1,h2,h3,h4,h5,h6,h7,h8,h9,uC⟩:=Z.L.ex;refine zaJ ?_; intro zX;refine⟨_,#[ze,#[zaN,#[zc8,#[wE],T.cl,T.KG,nO,#[ss],nB,(@zpQ _ _ _),#[SE]]],#[ze,#[zbh,#[Op],#[zbo,#[zt,#[zm,2,zeb.nd,#[Wf]],#[zt,#[zm,3,zeb.nd,#[A]],#[zt,#[zm,4,zeb.nd,#[Wf]],#[zaf]]]]]],#[ze,#[zq,5,zeb.nd,#[A],#[zr,(@zfY _ (P) (w) rfl rfl rfl),T.NS,li,#[ya,(@zos _ (P) (w) _ _ _ _ _ _ _ _ _ _ _ _ rfl rfl (Kr.of (N':=["polynomial","p","places","number"]) (ix:=[none,some 2,some 4,some 1]) (zi zfA) _ rfl rfl rfl) rfl #[zaO] #[zat,#[znm,(K),#[zdH,#[wE],T.cl,T.NK,sP,#[ss],pI,#[zY]],#[S9]]] #[wn] #[BT] (fun _ _ _ _=>#[zF,nT,#[ss],T.Lh,nE.kp,nJ,#[zY],#[za,#[xz],#[za,#[wE],#[ya,#[zB,#[zaY,(K)],#[IN],#[RI]]]]]]) (by intro _; rfl))]]],#[zj,#[zH,#[zcj,#[zA,#[zbF],#[zr,#[zy],T.LC,bI,#[ya,#[Uf]]],#[zh],(zI _)],#[zB,#[zU],#[Uf],#[zh]],#[zaD]]]]]]],?_⟩;refine zgH ?_; intro vd rh qi;have qJ:=a8;have rp:=z6 Z.pr;have Hi:=Z.ln;have hn:=(aj.mp hx).1;have pU:inB es (n:Int)=true:=by unfold inB; simp; lia
  refine (mP rfl (ex3 a dx _ ⟨rfl,h4,zhk (.inr rfl),(mP rfl (ex9 S a c p (sl:Int) (n:Int) es ds us ⟨rfl,Z.L,by have:=Z.n6; lia,fun h=>absurd h (by rw [pU]; simp),fun _=>?_⟩))⟩));refine⟨_,rfl,a,t.Kn,dx,_,_,rfl,h4,T.cl,T.LV,zbW,c,_,rfl,m7.of Z.cd.1,rfl,_,_,rfl,_,_,rfl,_,_,rfl,rfl,?_⟩;refine (mP rfl (ex3 a dx _ ⟨rfl,h4,zhk #[Os],S,a,c,tt,p,k,sl,pl,es,ds,us,rfl,Z,fun t9 H0 s0=>?_,fun l0 DZ Hx H0 hl0 s0 h0 CN hC=>?_⟩));refine⟨false,rfl,zaS ⟨aZ _,fun zz hz=>⟨zz,rfl,⟨[],mS.of zb⟩,?_⟩⟩⟩;obtain⟨rs,qs,h1,hT,Gi,hQ,hP⟩:∃ (rs:List Addr) (qs:List (List Int)),mR H0 zz (.lst []) zz=some #[re]/\zaM (mR H0 zz (.lst [])) rs qs/\qs.length<=35/\(∀ H',zC H H'->Q #[U4] H')/\∀ q∈qs,IsP p k q:=⟨[],[],zb,.nil,#[M],q1 t9,fun q hq=>(by cases hq)⟩;have s1:=s0.trans (zd (o:=.lst []) hz);generalize mR H0 zz (.lst [])=H1 at h1 hT s1 |-;rotate_left;have Gj:=ziu Z.pr (ze0 Z.nd Z.rg Z.er) k3 s4 hC.1 (hC.2.1.2.imp (fun {u v} h e=>by rw [e] at h; lia)) (fun q hq=>(hC.2.2 q).mp hq);by_cases xC:DZ = [];subst xC;refine⟨false,.inl ⟨_,mS.of h0,rfl⟩,zaS ⟨aZ _,fun zz hz=>⟨zz,rfl,⟨[],mS.of zb⟩,?_⟩⟩⟩;obtain⟨rs,qs,h1,hT,Gi,hQ,hP⟩:∃ (rs:List Addr) (qs:List (List Int)),mR H0 zz (.lst []) zz=some #[re]/\zaM (mR H0 zz (.lst [])) rs qs/\qs.length<=35/\(∀ H',zC H H'->Q #[U4] H')/\∀ q∈qs,IsP p k q:=⟨[],Hx,zb,CN.same (zd hz),Gj,fun H' s'=>q2 Hx H' s' hC,hC.2.1.1⟩;have s1:=s0.trans (zd (o:=.lst []) hz);generalize mR H0 zz (.lst [])=H1 at h1 hT s1 |-;rotate_left;refine⟨true,.inl ⟨_,mS.of h0,by cases DZ with | nil=>exact absurd rfl xC | cons=>rfl⟩,zaI ⟨l0,rfl,⟨_,mS.of h0⟩,?_⟩⟩;obtain⟨zz,rs,qs,H1,s1,h1,hT,Gi,hQ,hP,ez,eH⟩:∃ (zz:Addr) (rs:List Addr) (qs:List #[Id]) (H1:Hp),zC H H1/\H1 zz=some #[re]/\zaM H1 rs qs/\qs.length<=35/\(∀ H',zC H H'->Q #[U4] H')/\(∀ q∈qs,IsP p k q)/\l0=zz/\H0=H1:=⟨l0,DZ,Hx,H0,s0,h0,CN,Gj,fun H' s'=>q2 Hx H' s' hC,hC.2.1.1,rfl,rfl⟩;rw [ez,eH]
  all_goals
   have tX:=hT.length;have CQ:=Z.rg x (aV hx);have DM:=s1 _ _ Z.cd.2;refine zot (n:=rs.length) (fun i ys H'=>zC H1 H'/\ys=(#[XZ].map (zw p x)).map V.int) ⟨fun _ _ e=>e,rfl⟩ ?_ ?_ ?_ ?_
   ·rintro i ys H2 hi ⟨s2,_⟩;exact⟨_,.ref rs[i],mS.of (s2 _ _ h1),by rw [ao,aI hi]; rfl⟩
   ·rintro ys H2 ⟨s2,_⟩;exact⟨_,mS.of (s2 _ _ h1),by rw [ae]; exact ah _⟩
   ·rintro i y ys H2 H3 hi ⟨s2,rfl⟩ ⟨rfl,hy⟩;obtain⟨rb,rfl,DV⟩:=zaQ (hy _ (mS.of (s2 _ _ h1)));obtain⟨qq,wG,pv⟩:=Paired.get hT DV;have Bi:=(ziv (#[XZ].map (zw p x))).2.2;rw [ae,aA] at Bi;refine gY (mP rfl (mP rfl (mP rfl (mP rfl (ex4 tt _ _ #[XW] ⟨rfl,rfl,m7.of (s2 _ _ DM),zag (by rw [ao,hx]; rfl),p,x,rb,qq,rfl,.inr (m7.of (s2 _ _ pv)),#[O],#[O],CQ.1,CQ.2,zw p x qq,rfl,zb4 #[O] _,by have:=zb5 (p:=p) (x:=x) #[O] qq; lia,#[O],s2,?_⟩)))));rw [take_snoc wG,aB,aB];rfl
   ·rintro ys H2 ⟨s2,rfl⟩ D hD;rw [tX,bx];refine⟨D,(mP rfl ⟨zb,fun l ms hl F4 hpw=>?_⟩)⟩;have sf:=#[XL].trans ((zd hD).trans (zd (o:=.lst #[Sb]) hl));obtain⟨g1,g2⟩:=zpP F4;refine (mP rfl ⟨l,(mP rfl ⟨.inl (mS.of zb),rfl,#[KK]⟩)⟩);rw [ae];refine za6 #[TN] #[TN]
    ·have CG:(ms.length:Int)=1:=by simpa using h
     obtain⟨v,rfl,ev⟩:=g1 #[O];have:=hQ _ sf;rw [ev] at this;exact (mP rfl (ex4 l _ _ _ ⟨rfl,rfl,mS.of zb,rfl,this⟩))
    ·have:=hQ _ sf;rw [g2 (fun z=>h (by simp [z]))] at this;exact this
noncomputable def ziw (K:af):Sp:=fun vs H Q _=>∃ (c tt r:Addr) (p:Int) (k sl:Nat) (pl:List Int) (rw:List #[EQ]),vs = [.ref c,.ref r,.int (sl:Int)]/\za5 H c tt p k pl/\H r=some #[Vh]/\rw.length=pl.length/\pl.length<=16/\p∈zJ/\pl.Nodup/\(∀ x∈pl,0<=x/\x < p)/\(∀ z,some z∈rw->0<=z/\z < p)/\1<=k/\k<=5 /\
 (#[KB].length < k+sl->∀ H',zC H H'->Q .non H')/\∀ (l:Addr) (rs:List Addr) (qs:List #[Id]) (H':Hp),H l=none->zC H H'->H' l=some #[re]->zaM H' rs qs->Cb p k sl pl rw qs->Q #[SX] H'
theorem zlG:∀ {rw:List #[EQ]},rw.length=pl.length->#[KB].length=(rw.filter fun o=>o.isSome).length:=by
 induction pl with
 | nil =>
  intro rw h;cases rw with
  | nil=>rfl
  | cons=>simp at h
 | cons x pl ih =>
  intro rw h;cases rw with
  | nil=>simp at h
  | cons o rw =>
   have:=ih (rw:=rw) (by simpa using h);cases o with
   | none=>simpa [nG] using this
   | some z=>simpa [nG] using this
theorem zeD:Ko ["code","row","slips","many"] ["code","row","slips"] (zi zbY):=#[S]
theorem zix (T:Txt K mg t) (F:Fun K "_law_can_be" "_law_can_be" zbY t.Mn fd):Kx P w K mg base CX0 9 t.Mn fd ["code","row","slips"] (ziw K):=by
 obtain⟨yb,vC,sQ⟩:=T.Nt;have Au:=zlF (P:=P) (w:=w) (base:=base) T vC;refine F.ok zeD #[o0] #[ld]
 ·obtain⟨c,tt,r,p,k,sl,pl,rw,rfl,_⟩:=h;rfl
 ·obtain⟨c,tt,r,p,k,sl,pl,rw,rfl,hc,sy,tX,hn,hp,vv,oR,F',k0,k1,q1,q2⟩:=h;refine zaJ ?_; intro zX;refine⟨_,#[ze,#[zq,3,zeD.nd,#[A],#[zr,#[zy],T.LC,bI,#[ya,#[zaP,(Kr.of (N':=["entry"]) (ix:=[none]) (zi zbY) _ rfl rfl rfl),#[zaO],#[zat,#[xz]],#[wn],(fun _ _ _ _=>#[zbk,#[zA,#[zct],#[wE],#[zaD],(zI _)]]),#[RJ]]]]],#[ze,#[zam,#[zA,#[zcO],#[RI],#[zn,#[zai],#[UQ],#[IN]],(zI _)],#[zj,#[zH,#[zaD]]],#[zQ]],#[zj,#[zH,#[zF,Au,#[ss],T.PV,vC.kp,sQ,#[zY],#[za,#[wE],#[za,#[xz],#[ya,#[zn,#[zbj],#[RI],#[IN]]]]]]]]]],?_⟩;refine zfO ?_; intro rh qi;have qJ:=a8;have JY:=zlG tX;refine (mP rfl ⟨r,rfl,⟨_,mS.of sy⟩,zao (n:=rw.length) (fun i ys H'=>H'=H/\ys=((rw.take i).filter fun o=>o.isSome).map ng) ⟨rfl,rfl⟩ ?_ ?_ ?_ ?_⟩)
  ·rintro i ys H1 hi ⟨rfl,_⟩;exact⟨_,ng rw[i],mS.of sy,by rw [ao,aI hi]; rfl⟩
  ·rintro ys H1 ⟨rfl,_⟩;exact⟨_,mS.of sy,by rw [ae]; exact ah _⟩
  ·rintro zS zT zE i y ys H1 H2 hi ⟨rfl,rfl⟩ ⟨rfl,hy⟩;obtain⟨o,rfl,ho⟩:=zgV (hy _ (mS.of sy));have Al:=dq (fun o:Option Int=>o.isSome) (rw.take i);rw [aA] at Al;rw [take_snoc ho,cT,aB];refine #[ww];refine za6 (fun h=>(mP rfl ⟨by rw [ae]; lia,rfl,?_⟩)) (fun h=>#[Vc])
   ·cases o with
    | none=>exact absurd h (by simp [ng])
    | some z=>rfl
   ·cases o with
    | none=>simp
    | some z=>exact absurd (by simp [ng]) h
  rintro ys H1 D ⟨rfl,rfl⟩ hD;rw [bx];have t1:=zd (o:=.lst ((rw.filter fun o=>o.isSome).map ng)) hD;refine⟨D,(mP rfl ⟨.inl (mS.of zb),?_⟩)⟩;rw [ae,<- JY];generalize mR H1 D (.lst ((rw.filter fun o=>o.isSome).map ng))=H2 at t1 |-;have Cp:=hc.same t1;refine (mP rfl (mP rfl (ex4 c _ _ _ ⟨rfl,rfl,m7.of Cp.1,rfl,(mP rfl (m8 rfl rfl #[pi]))⟩)));refine za6 (fun h=>q1 (by have:=of_decide_eq_true h; lia) H2 t1) #[TN];have qY:k+sl<=#[KB].length:=iN fun z=>h (decide_eq_true #[O])
  refine (mP rfl (mP rfl (mP rfl (mP rfl (m8 rfl rfl (ex8 c tt r p k ((#[KB].length:Int) - (sl:Int)) pl rw ⟨rfl,Cp,t1 _ _ sy,tX,hn,hp,vv,oR,F',k0,k1,#[O],fun l2 rs qs H3 qX s2 h2 hT hR hm=>?_⟩))))));exact q2 l2 rs qs H3 (t1.free qX) (t1.trans s2) h2 hT ⟨qY,hR,hm⟩
noncomputable def zlH (K:af):Sp:=fun vs H Q _=>∃ (c tt:Addr) (o:V) (p x:Int) (k n:Nat) (pl:List Int) (qs:List #[Id]),vs = [.ref c,o,.int (n:Int)]/\za5 H c tt p k pl/\pl[n]? = some x/\5<=p/\p<=97/\0<=x/\x < p/\qs.length<=1000/\((o = .non/\qs = [])\/∃ l rs,o = .ref l/\H l=some #[re]/\zaM H rs qs)/\(∀ q∈qs,IsP p k q) /\
 ∀ H',zC H H'->Q #[U4] H'
theorem zpR {a b:Int} (ha:a∈ns) (JZ:∀ v∈ns,a<=v) (hb:b∈ns) (xy:∀ v∈ns,v<=b):sur ns=if a=b then some a else none:=by
 cases ns with
 | nil=>cases ha
 | cons c r =>
  show (if r.all (fun b=>b == c) then some c else none)=_;by_cases h:a=b
  ·subst h;have e:∀ v∈c :: r,v=a:=fun v hv=>by have:=JZ v hv; have:=xy v hv; lia
   rw [if_pos rfl,if_pos (dk.mpr fun v hv=>by rw [e v (aq _ hv),e c aE]; simp),e c aE]
  ·rw [if_neg h];refine if_neg fun qH=>h ?_
   have e:∀ v∈c :: r,v=c:=fun v hv=>by
    rcases az.mp hv with e | hv
    ·exact e
    ·exact beq_iff_eq.mp (dk.mp qH v hv)
   rw [e a ha,e b hb]
theorem zgB:Ko ["code","ones","number","values"] ["code","ones","number"] (zi zcp):=#[S]
theorem zlI (T:Txt K mg t) (F:Fun K "_law_sure" "_law_sure" zcp t.NM fd):Kx P w K mg base CX0 2 t.NM fd ["code","ones","number"] (zlH K):=by
 obtain⟨oU,nv,nF⟩:=T.KP;have nQ:=zcK (P:=P) (w:=w) (base:=base) T nv;refine F.ok zgB #[o0] #[ld]
 ·obtain⟨c,tt,o,p,x,k,n,pl,qs,rfl,_⟩:=h;rfl
 ·obtain⟨c,tt,o,p,x,k,n,pl,qs,rfl,hc,hx,p5,p97,x0,x1,Gi,ho,hP,q⟩:=h;have hu:(A.deeper (envOfC (bT "_law_sure") (zi zcp) s.heap.objs.size t.NM nA)).units+20 < cLine:=by have:=hr.units; lia
  refine zaJ ?_; intro zX;refine⟨_,#[ze,#[zbt,3,zgB.nd,#[A],(Kr.of (N':=["one","code","number"]) (ix:=[none,some 0,some 2]) (zi zcp) _ rfl rfl rfl),#[zaO],#[zat,#[znm,(K),#[xz],#[S9]]],#[wn],#[BT],(fun _ _ _ _=>#[zF,nQ,#[ss],T.K7,nv.kp,nF,#[zY],#[za,#[FS],#[za,#[wE],#[ya,#[zB,#[zaY,(K)],#[FS],#[IN]]]]]])],#[zj,#[zH,#[zcj,(@PW.pt _ _ _ #[zdv,#[zA,#[ziS,hu],#[RI],#[S9],(zI _)],#[zc7,#[zA,#[zbF],#[zr,(@zlC _ rfl),T.QZ,boot_min,#[UB]],#[zr,(@zlB _ rfl),T.Q0,boot_max,#[UB]],(zI _)]]]),#[zB,#[zU],#[RI],#[zh]],#[zaD]]]]],?_⟩;refine zo6 ?_; intro qi;have qJ:=a8;have Gk:qs = []->∀ zz,mR H zz (.lst []) zz=some (.lst (([]:List Addr).map V.ref))/\zaM (mR H zz (.lst [])) [] qs:=fun e zz=>by rw [e]; exact⟨zb,.nil⟩
  rcases ho with ⟨rfl,eq⟩ | ⟨l0,DZ,rfl,h0,CN⟩
  refine (mP rfl ⟨false,rfl,zaS ⟨aZ _,fun zz hz=>⟨zz,rfl,⟨[],mS.of zb⟩,?_⟩⟩⟩);obtain⟨rs,h1,hT⟩:∃ (rs:List Addr),mR H zz (.lst []) zz=some (.lst #[R9])/\zaM (mR H zz (.lst [])) rs qs:=⟨[],Gk eq zz⟩;have s1:=zd (o:=.lst []) hz;generalize mR H zz (.lst [])=H1 at h1 hT s1 |-;rotate_left;by_cases xC:DZ = [];have eq:qs = []:=by rw [xC] at CN; cases CN; rfl
  refine (mP rfl ⟨false,.inl ⟨_,mS.of h0,by rw [xC]; rfl⟩,zaS ⟨aZ _,fun zz hz=>⟨zz,rfl,⟨[],mS.of zb⟩,?_⟩⟩⟩);obtain⟨rs,h1,hT⟩:∃ (rs:List Addr),mR H zz (.lst []) zz=some (.lst #[R9])/\zaM (mR H zz (.lst [])) rs qs:=⟨[],Gk eq zz⟩;have s1:=zd (o:=.lst []) hz;generalize mR H zz (.lst [])=H1 at h1 hT s1 |-;rotate_left;refine (mP rfl ⟨true,.inl ⟨_,mS.of h0,by cases DZ with | nil=>exact absurd rfl xC | cons=>rfl⟩,zaI ⟨l0,rfl,⟨_,mS.of h0⟩,?_⟩⟩);obtain⟨zz,rs,H1,s1,h1,hT,ez,eH⟩:∃ (zz:Addr) (rs:List Addr) (H1:Hp),zC H H1/\H1 zz=some #[re]/\zaM H1 rs qs/\l0=zz/\H=H1:=⟨l0,DZ,H,fun _ _ e=>e,h0,CN,rfl,rfl⟩;rw [ez,eH]
  all_goals
   have tX:=hT.length;have BX:=hc.same s1;refine zao (n:=rs.length) (fun i ys H'=>H'=H1/\ys=(#[XZ].map (zw p x)).map V.int) ⟨rfl,rfl⟩ ?_ ?_ ?_ ?_
   ·rintro i ys H2 hi ⟨rfl,_⟩;exact⟨_,.ref rs[i],mS.of h1,by rw [ao,aI hi]; rfl⟩
   ·rintro ys H2 ⟨rfl,_⟩;exact⟨_,mS.of h1,by rw [ae]; exact ah _⟩
   ·rintro zS zT zE i y ys H2 H3 hi ⟨rfl,rfl⟩ ⟨rfl,hy⟩;obtain⟨rb,rfl,DV⟩:=zaQ (hy _ (mS.of h1));obtain⟨qq,wG,pv⟩:=Paired.get hT DV;refine gY (mP rfl (ex4 c _ _ _ ⟨rfl,rfl,m7.of BX.1,rfl,(mP rfl (mP rfl (ex4 c _ _ _ ⟨rfl,rfl,m7.of BX.1,rfl,(mP rfl (ex4 tt _ _ #[XW] ⟨rfl,rfl,m7.of BX.2,zag (by rw [ao,hx]; rfl),?_⟩))⟩)))⟩));have EO:=(aj.mp wG).1;refine (ex4 p x rb qq ⟨rfl,.inr (m7.of pv),#[O],#[O],x0,x1,by rw [ae,ae,aA]; lia,rfl,?_⟩);rw [take_snoc wG,aB,aB];rfl
   rintro ys H2 D ⟨rfl,rfl⟩ hD;rw [tX,bx];have t2:=zd (o:=.lst (#[RW].map V.int)) hD;have f2:mR H2 D (.lst (#[RW].map V.int)) D=some (.lst (#[RW].map V.int)):=zb;generalize mR H2 D (.lst (#[RW].map V.int))=H3 at t2 f2 |-;refine (mP rfl ⟨aZ _,fun E1 hE1=>?_⟩);have t3:=zd (o:=.lst []) hE1;have f3:=t3 _ _ f2;have f4:mR H3 E1 (.lst []) E1=some (.lst []):=zb;generalize mR H3 E1 (.lst [])=H4 at t3 f3 f4 |-;have s4:=s1.trans (t2.trans t3);have hQ:=q H4 s4;by_cases Hj:qs = []
   ·rw [Hj] at f3 hQ;refine (ex4 D E1 _ _ ⟨rfl,rfl,.inl ⟨mS.of f3,mS.of f4⟩,.inr ⟨rfl,fun _=>true,fun j x y hx=>(by simp at hx),#[KK]⟩⟩);exact zaS hQ
   ·refine (ex4 D E1 _ _ ⟨rfl,rfl,.inl ⟨mS.of f3,mS.of f4⟩,.inl ⟨fun z=>Hj (by simpa using z),fun j x y _ hy=>(by simp at hy),#[KK]⟩⟩);have Gm:qs.map (zw p x)≠[]:=fun z=>Hj (by simpa using z)
    refine zaI (mP rfl ⟨D,(mP rfl ⟨mS.of f3,Gm,fun m Bc wo=>(mP rfl ⟨D,(mP rfl ⟨mS.of f3,Gm,fun M hM1 hM2=>#[W9]⟩)⟩)⟩)⟩);rw [zpR Bc wo hM1 hM2] at hQ;refine za6 #[TN] #[TN]
    ·have h:m=M:=by simpa using h
     rw [if_pos h] at hQ;obtain⟨v,vr,ev⟩:∃ v vr,qs.map (zw p x)=v :: vr:=by
      cases h9:qs.map (zw p x) with
      | nil=>exact absurd h9 Gm
      | cons v vr=>exact⟨v,vr,rfl⟩
     have e1:v=m:=by
      have y1:=wo v (by rw [ev]; exact aE);have y2:=hM2 v (by rw [ev]; exact aE);lia
     refine (mP rfl (ex4 D _ _ (.int v) ⟨rfl,rfl,mS.of f3,by rw [ev]; show atI _ ((0:Nat):Int)=_; exact zag rfl,?_⟩));rw [e1];exact hQ
    ·have h:m≠M:=fun z=>h (by simp [z])
     rw [if_neg h] at hQ;exact hQ
noncomputable def zhl:List Str:=["few","curve","paper","place","number","heard","not heard","nothing","text","row"]
noncomputable def zlJ (t:Adr) (K:af):Sp:=fun vs H Q _=>∃ (e C:Addr) (b0 b1 b2 b3 b4 b5 b6 b7 b8 b9:Bool) (j:Nat) (x:Str),vs = [.ref e]/\H e=some (zmC e C)/\KW K t C b0 b1 b2 b3 b4 b5 b6 b7 b8 b9/\[b0,b1,b2,b3,b4,b5,b6,b7,b8,b9].count true=1/\[b0,b1,b2,b3,b4,b5,b6,b7,b8,b9][j]? = some true/\(∀ m,m < j->[b0,b1,b2,b3,b4,b5,b6,b7,b8,b9][m]? = some false)/\j < 10/\zhl[j]? = some x/\∀ H',zC H H'->Q (.str x) H'
theorem zcr:Ko ["e","kinds","words"] ["e"] (zi zdZ):=#[S]
theorem zlK (T:Txt K mg t) (F:Fun K "_law_word" "_law_word" zdZ t.Oz fd):Qe P w K mg base 1 t.Oz fd ["e"] (zlJ t K):=by
 refine F.okH zcr #[o0] #[ld]
 ·obtain⟨e,C,b0,b1,b2,b3,b4,b5,b6,b7,b8,b9,j,x,rfl,_⟩:=h;rfl
 ·obtain⟨e,C,b0,b1,b2,b3,b4,b5,b6,b7,b8,b9,j,x,rfl,he,kw,hc,hj,hm,hj10,hx,q⟩:=h;refine zaJ ?_; intro zX;refine⟨_,#[ze,#[zq,1,zcr.nd,#[A],#[zP,#[za,#[zr,#[zac],T.Kq,bM,#[za,#[wE],#[ya,#[zby,(.ref t.PB),T.PK]]]],by exact #[za,#[zr,#[zac],T.Kq,bM,#[za,#[wE],#[ya,#[zby,(.ref t.Oq),T.O9]]]],#[za,#[zr,#[zac],T.Kq,bM,#[za,#[wE],#[ya,#[zby,(.ref t.Oo),T.O8]]]],#[ya,#[zr,#[zac],T.Kq,bM,#[za,#[wE],#[ya,#[zby,(.ref t.LB),T.NG]]]]]]]]]],#[ze,#[zq,1,zcr.nd,#[A],#[zn,#[zcd],#[xz],#[zP,#[za,#[zr,#[zac],T.Kq,bM,#[za,#[wE],#[ya,#[zby,(.ref t.Ll),T.M6]]]],#[za,#[zr,#[zac],T.Kq,bM,#[za,#[wE],#[ya,#[zby,(.ref t.O7),T.Pa]]]],#[ya,#[zr,#[zac],T.Kq,bM,#[za,#[wE],#[ya,#[zby,(.ref t.Lj),T.M5]]]]]]]]]],#[ze,#[zq,1,zcr.nd,#[A],#[zn,#[zcd],#[xz],#[zP,#[za,#[zr,#[zac],T.Kq,bM,#[za,#[wE],#[ya,#[zby,(.ref t.Kw),T.KR]]]],#[za,#[zr,#[zac],T.Kq,bM,#[za,#[wE],#[ya,#[zby,(.ref t.PC),T.PL]]]],#[ya,#[zr,#[zac],T.Kq,bM,#[za,#[wE],#[ya,#[zby,(.ref t.QB),T.Qn]]]]]]]]]],#[ze,#[zam,(@PW.pt _ _ _ #[zoD,#[zA,#[zhp],#[zcQ,bw,PySem.F.slot_list_count,PySem.F.type_list_count,(@zkV _),#[xz],#[ya,#[zdE]]],#[zh],(zI _)],#[zlS,#[zdw,#[ziy,#[zr,#[zac],T.Kq,bM,#[za,#[wE],#[ya,#[zdF,(.ty "ValueError"),T.Om,l8]]]]]]]]),#[zj,#[zH,#[zV]]],#[zQ]],(by exact (@zmG _ 2 _ _ _ _ _ _ _ ["few","curve","paper","place","number","heard","not heard","nothing","text","row"] #[N] zcr.nd rfl #[A] (by first | exact .inl rfl | exact .inr rfl) (by exact #[zj,#[zH,#[zB,#[zU],#[IN],#[zcQ,bw,PySem.F.slot_list_index,PySem.F.type_list_index,(@zkW _),#[xz],#[ya,#[zdE]]]]]])))]]]],?_⟩;refine zo7 ?_; intro DK BM vd rh qi;have qJ:=a8;have xc:=kw.xc;refine (mP rfl (ex4 e C _ _ ⟨rfl,he,xc,.inl (mP rfl kw.i0),(mP rfl (ex4 e C _ _ ⟨rfl,he,xc,.inl (mP rfl kw.i1),(mP rfl (ex4 e C _ _ ⟨rfl,he,xc,.inl (mP rfl kw.i2),(mP rfl (ex4 e C _ _ ⟨rfl,he,xc,.inl (mP rfl kw.i3),by show 4<=sizeLine; lia,fun l1 vc=>?_⟩))⟩))⟩))⟩));have s1:=zd (o:=.lst [.bl b0,.bl b1,.bl b2,.bl b3]) vc;have Cv:=s1 _ _ he;refine (mP rfl (mP rfl (ex4 e C _ _ ⟨rfl,Cv,xc,.inl (mP rfl kw.i4),(mP rfl (ex4 e C _ _ ⟨rfl,Cv,xc,.inl (mP rfl kw.i5),(mP rfl (ex4 e C _ _ ⟨rfl,Cv,xc,.inl (mP rfl kw.i6),by show 3<=sizeLine; lia,fun l2 qX=>?_⟩))⟩))⟩)));have s2:=zd (o:=.lst [.bl b4,.bl b5,.bl b6]) qX;refine (ex4 l1 l2 _ _ ⟨rfl,rfl,s2 _ _ zb,zb,by show 7<=sizeLine; lia,fun l3 hl3=>?_⟩);have s3:=zd (o:=.lst ([V.bl b0,.bl b1,.bl b2,.bl b3]++[.bl b4,.bl b5,.bl b6])) hl3;have Cw:=s3 _ _ (s2 _ _ Cv);refine (mP rfl (mP rfl (ex4 e C _ _ ⟨rfl,Cw,xc,.inl (mP rfl kw.i7),(mP rfl (ex4 e C _ _ ⟨rfl,Cw,xc,.inl (mP rfl kw.i8),(mP rfl (ex4 e C _ _ ⟨rfl,Cw,xc,.inl (mP rfl kw.i9),by show 3<=sizeLine; lia,fun l4 hl4=>?_⟩))⟩))⟩)));have s4:=zd (o:=.lst [.bl b7,.bl b8,.bl b9]) hl4;refine (ex4 l3 l4 _ _ ⟨rfl,rfl,s4 _ _ zb,zb,by show 10<=sizeLine; lia,fun l5 hl5=>?_⟩);have s5:=zd (o:=.lst ([V.bl b0,.bl b1,.bl b2,.bl b3]++[.bl b4,.bl b5,.bl b6]++[.bl b7,.bl b8,.bl b9])) hl5;have EA:=s5 _ _ (s4 _ _ Cw);have sA:=s1.trans (s2.trans (s3.trans (s4.trans s5)));have h5:mR (mR (mR (mR (mR H l1 (.lst [.bl b0,.bl b1,.bl b2,.bl b3])) l2 (.lst [.bl b4,.bl b5,.bl b6])) l3 (.lst ([V.bl b0,.bl b1,.bl b2,.bl b3]++[.bl b4,.bl b5,.bl b6]))) l4 (.lst [.bl b7,.bl b8,.bl b9])) l5 (.lst ([V.bl b0,.bl b1,.bl b2,.bl b3]++[.bl b4,.bl b5,.bl b6]++[.bl b7,.bl b8,.bl b9])) l5=some (.lst ([b0,b1,b2,b3,b4,b5,b6,b7,b8,b9].map V.bl)):=zb;generalize mR (mR (mR (mR (mR H l1 (.lst [.bl b0,.bl b1,.bl b2,.bl b3])) l2 (.lst [.bl b4,.bl b5,.bl b6])) l3 (.lst ([V.bl b0,.bl b1,.bl b2,.bl b3]++[.bl b4,.bl b5,.bl b6]))) l4 (.lst [.bl b7,.bl b8,.bl b9])) l5 (.lst ([V.bl b0,.bl b1,.bl b2,.bl b3]++[.bl b4,.bl b5,.bl b6]++[.bl b7,.bl b8,.bl b9]))=H5 at EA sA h5 |-;refine (mP rfl ⟨.inl ⟨rfl,_,mS.of h5⟩,l5,_,true,rfl,rfl,h5,?_⟩);rw [hc];refine#[W9];refine zaS ?_;refine (mP rfl (ex4 e C _ _ ⟨rfl,EA,xc,.inr (mP rfl kw.iv),#[KK]⟩));refine zaS ?_;refine⟨by show 10<=sizeLine; lia,fun lw hlw=>?_⟩;have s6:=zd (o:=.lst (zhl.map V.str)) hlw;refine (mP rfl (mP rfl ⟨.inl ⟨rfl,_,mS.of (s6 _ _ h5)⟩,l5,_,true,j,rfl,rfl,s6 _ _ h5,hj,hm,#[O],?_⟩));refine (ex4 lw _ _ (.str x) ⟨rfl,rfl,mS.of zb,?_,q _ (sA.trans s6)⟩);exact zag (xs:=zhl.map V.str) (by rw [ao,hx]; rfl)
noncomputable def encD:Dd->List V
 | .Mp n x=>[.str "hear",.int n,.int x]
 | .forget n=>[.str "forget",.int n]
 | .back=>[.str "back"]
 | .again=>[.str "again"]
noncomputable def zlL (K:af):Sp:=fun vs H Q _=>∃ (dr p k:Int) (c tt:Addr) (pl:List Int),vs = [.int dr,.ref c]/\za5 H c tt p k pl/\1<=pl.length/\pl.length<=16/\0 < p/\p<=97/\∀ (D:Dd) (l:Addr) (H':Hp),H l=none->zC H H'->H' l=some #[Vf]->Q #[SX] H'
theorem lt3 {m:Int} (h0:0<=m) (h1:m < 3):m=0\/m=1\/m=2:=by lia
theorem za1:Ko ["draw","code","p","k","places","near","number","entry","way"] ["draw","code"] (zi zd0):=#[S]
theorem zlM (T:Txt K mg t) (F:Fun K "_law_deed" "_law_deed" zd0 t.OC fd):Kx P w K mg base CX0 1 t.OC fd ["draw","code"] (zlL K):=by
 refine F.ok za1 #[o0] #[ld]
 ·obtain⟨dr,p,k,c,tt,pl,rfl,_⟩:=h;rfl
 ·obtain⟨dr,p,k,c,tt,pl,rfl,hc,l1,l2,p0,p1,q⟩:=h;refine zaJ ?_; intro zX;refine⟨_,#[ze,#[zbh,#[xz],#[zbo,#[zt,#[zm,2,za1.nd,#[A]],#[zt,#[zm,3,za1.nd,#[A]],#[zt,#[zm,4,za1.nd,#[A]],#[zaf]]]]]],#[ze,#[zq,5,za1.nd,#[A],#[zn,#[zO],#[Uw],#[SN]]],#[ze,#[zq,6,za1.nd,#[A],#[zB,#[zU],#[zP,#[za,#[Uf],by exact #[za,#[WS],#[za,#[SN],#[ya,#[WZ]]]]]],#[zr,#[zf3],T.Q0,boot_max,#[za,#[zh],#[ya,#[zn,#[zbj],#[zn,#[zO],#[wE],#[zh]],#[zh]]]]]]],#[ze,#[zq,5,za1.nd,#[A],#[zn,#[zO],#[Uw],#[IN]]],#[ze,#[zq,7,za1.nd,#[A],#[zB,#[zU],#[zP,#[za,#[Uf],by exact #[za,#[WS],#[za,#[IN],#[ya,#[WZ]]]]]],#[zr,#[zf3],T.Q0,boot_max,#[za,#[zh],#[ya,#[zn,#[zbj],#[zn,#[zO],#[Uw],#[zh]],#[zh]]]]]]],#[ze,#[zq,8,za1.nd,#[A],#[zn,#[zO],#[Uw],#[zh]]],#[ze,#[zam,#[zA,#[zcO],#[VN],#[zh],(zI _)],#[zj,#[zH,#[zad,#[za,#[zV],#[za,#[pvx,6],#[ya,#[pvx,7]]]]]]],#[zQ]],#[zj,#[zH,#[zB,#[zU],#[zP,#[za,#[zad,#[za,#[zV],#[Ut]]],#[za,#[zad,#[XG]],#[ya,#[zad,#[XG]]]]]],#[zn,#[zbj],#[VN],#[zh]]]]]]]]]]]],?_⟩;refine zqU ?_; intro zN8 Hh DK BM vd rh qi;have qJ:=a8;refine⟨_,rfl,c,_,rfl,m7.of hc.1,rfl,_,_,rfl,_,_,rfl,_,_,rfl,rfl,?_⟩;refine (mP rfl (m8 rfl rfl ⟨#[Rg],(mP rfl ⟨tt,(mP rfl ⟨.inr (m7.of hc.2),(m8 rfl rfl ⟨by rw [ae]; lia,?_⟩)⟩)⟩)⟩));refine (mP rfl (mP rfl (mP rfl ⟨tt,(mP rfl ⟨.inr (m7.of hc.2),?_⟩)⟩)));refine (m8 rfl rfl ⟨⟨#[D],#[D],#[D]⟩,by show 4<=sizeLine; lia,fun a1 xB=>?_⟩);have m1:=aR dr (show (11:Int)≠0 by decide);have m2:=aL dr (show (0:Int) < 11 by decide);have nI:∀ z:Int,(if z > 0 then z else 0)=if z > 0 then z else 0:=fun _=>rfl
  refine (mP rfl (m8 rfl rfl ⟨(by show (0:Int) < 11; decide),(m8 rfl rfl ⟨_,_,rfl,?_⟩)⟩));have i0:0<=(if dr % 11 - 7 > 0 then dr % 11 - 7 else 0)/\(if dr % 11 - 7 > 0 then dr % 11 - 7 else 0) < 4:=by split <;> lia
  obtain⟨n,hn⟩:=zb7 (ns:=[dr / 13 % (#[Sa].length:Int),-1,(#[Sa].length:Int),10 ^ 30]) i0.1 (by show _ < (4:Int); exact i0.2);have t1:=zd (o:=.lst [.int (dr / 13 % (#[Sa].length:Int)),.int (-1),.int (#[Sa].length:Int),.int (10 ^ 30)]) xB;refine (ex4 a1 _ _ (.int n) ⟨rfl,rfl,mS.of zb,hn,?_⟩);refine (mP rfl (m8 rfl rfl ⟨#[Rg],#[wS]⟩));refine (mP rfl (mP rfl (mP rfl (m8 rfl rfl ⟨⟨#[D],#[D],#[D]⟩,by show 4<=sizeLine; lia,fun a2 JZ=>?_⟩))));have m3:=aR (dr / 11) (show (13:Int)≠0 by decide);have m4:=aL (dr / 11) (show (0:Int) < 13 by decide);refine (mP rfl (m8 rfl rfl ⟨#[Rg],(m8 rfl rfl ⟨(by show (0:Int) < 13; decide),(m8 rfl rfl ⟨_,_,rfl,?_⟩)⟩)⟩));have i1:0<=(if dr / 11 % 13 - 9 > 0 then dr / 11 % 13 - 9 else 0)/\(if dr / 11 % 13 - 9 > 0 then dr / 11 % 13 - 9 else 0) < 4:=by split <;> lia
  obtain⟨x,hx⟩:=zb7 (ns:=[dr / 200 % p,-1,p,10 ^ 30]) i1.1 (by show _ < (4:Int); exact i1.2);have t2:=zd (o:=.lst [.int (dr / 200 % p),.int (-1),.int p,.int (10 ^ 30)]) JZ;refine (ex4 a2 _ _ #[XW] ⟨rfl,rfl,mS.of zb,hx,?_⟩);have sA:=t1.trans t2;have m5:=aR (dr / 90) (show (7:Int)≠0 by decide);have m6:=aL (dr / 90) (show (0:Int) < 7 by decide);refine (mP rfl (m8 rfl rfl ⟨#[Rg],(m8 rfl rfl ⟨(by show (0:Int) < 7; decide),?_⟩)⟩));refine #[SU];refine za6 (fun hw=>?_) (fun hw=>?_)
  ·refine (mP rfl (mP rfl ⟨by show 3<=sizeLine; lia,fun l hl=>q (.Mp n x) l _ (sA.free hl) (sA.trans (zd hl)) zb⟩))
  ·have hw:¬ dr / 90 % 7 < 4:=by simpa using hw
   refine (mP rfl ⟨by show 2<=sizeLine; lia,fun b1 wc=>⟨by show 1<=sizeLine; lia,fun b2 xy=>⟨by show 1<=sizeLine; lia,fun b3 CC=>⟨by show 3<=sizeLine; lia,fun b4 hb4=>?_⟩⟩⟩⟩);have u1:=zd (o:=.tup [.str "forget",.int n]) wc;have u2:=zd (o:=.tup [.str "back"]) xy;have u3:=zd (o:=.tup [.str "again"]) CC;have u4:=zd (o:=.lst [.ref b1,.ref b2,.ref b3]) hb4;have sB:=sA.trans (u1.trans (u2.trans (u3.trans u4)));have f1:=(u2.trans (u3.trans u4)) b1 (.tup [.str "forget",.int n]) zb;have f2:=(u3.trans u4) b2 (.tup [.str "back"]) zb;have f3:=u4 b3 (.tup [.str "again"]) zb;have g1:H b1=none:=sA.free wc;have g2:H b2=none:=(sA.trans u1).free xy;have g3:H b3=none:=(sA.trans #[U7]).free CC;rcases lt3 (m:=dr / 90 % 7 - 4) #[O] #[O] with hm | hm | hm
   ·exact (mP rfl (m8 rfl rfl (ex4 b4 _ _ (.ref b1) ⟨rfl,rfl,mS.of zb,by rw [hm]; rfl,q (.forget n) b1 _ g1 sB f1⟩)))
   ·exact (mP rfl (m8 rfl rfl (ex4 b4 _ _ (.ref b2) ⟨rfl,rfl,mS.of zb,by rw [hm]; rfl,q .back b2 _ g2 sB f2⟩)))
   ·exact (mP rfl (m8 rfl rfl (ex4 b4 _ _ (.ref b3) ⟨rfl,rfl,mS.of zb,by rw [hm]; rfl,q .again b3 _ g3 sB f3⟩)))
theorem ze4 (T:Txt K mg t) (w:Wd):∃ (b0 b1 b2 b3 b4 b5 b6 b7 b8 b9:Bool) (j:Nat),KW K t (zqv t w) b0 b1 b2 b3 b4 b5 b6 b7 b8 b9/\[b0,b1,b2,b3,b4,b5,b6,b7,b8,b9].count true=1/\[b0,b1,b2,b3,b4,b5,b6,b7,b8,b9][j]? = some true/\(∀ m,m < j->[b0,b1,b2,b3,b4,b5,b6,b7,b8,b9][m]? = some false)/\j < 10/\zhl[j]? = some w.txt:=by
 cases w with
 | place=>exact⟨_,_,_,_,_,_,_,_,_,_,3,T.OS,rfl,rfl,#[D],#[D],rfl⟩
 | number=>exact⟨_,_,_,_,_,_,_,_,_,_,4,T.NW,rfl,rfl,#[D],#[D],rfl⟩
 | heard=>exact⟨_,_,_,_,_,_,_,_,_,_,5,T.P5,rfl,rfl,#[D],#[D],rfl⟩
 | notHeard=>exact⟨_,_,_,_,_,_,_,_,_,_,6,T.NV,rfl,rfl,#[D],#[D],rfl⟩
 | nothing=>exact⟨_,_,_,_,_,_,_,_,_,_,7,T.MU,rfl,rfl,#[D],#[D],rfl⟩
theorem t1:¬ (("forget" : Str) = "hear"):=by decide +kernel
theorem t2:¬ (("back" : Str) = "hear"):=by decide +kernel
theorem t3:¬ (("again" : Str) = "hear"):=by decide +kernel
theorem t4:¬ (("back" : Str) = "forget"):=by decide +kernel
theorem t5:¬ (("again" : Str) = "forget"):=by decide +kernel
theorem t6:¬ (("again" : Str) = "back"):=by decide +kernel
theorem zc5 {x y:Str} {A B:Prop} (h:¬ x=y) (b:B):if decide (V.str x=V.str y)=true then A else B:=by
 rw [decide_eq_false (fun z=>h (by injection z))];exact zaS b
theorem zeE {x:Str} {A B:Prop} (b:A):if decide (V.str x=V.str x)=true then A else B:=by
 rw [decide_eq_true rfl];exact zaI b
noncomputable def zlN (t:Adr) (K:af):Sp:=fun vs H Q _=>∃ (S:List Addr) (p c d:Addr) (pp sl:Int) (es:Rw) (ds us:List Dt) (D:Dd),vs = [.ref p,.ref d]/\Ls t.Kn H S p c pp sl es ds us/\es.length<=16/\ds.length<=1000/\us.length<=1000/\(∀ d∈ds,d.1 < es.length)/\(∀ d∈us,d.1 < es.length)/\H d=some #[Vf] /\
 match stp pp es ds us D with
 | .inl w=>∀ H',zC H H'->Q (.str w.txt) H'
 | .inr (es',rd,rf)=>∀ (S':List Addr) (H':Hp),Ls t.Kn H' S' p c pp sl es' rd rf->zC (hid S H) (hid S' H')->(∀ b∈S',b∈S\/H b=none)->Q (.str "") H'
theorem za2:Ko ["listener","deed","name","told","e"] ["listener","deed"] (zi zd1):=#[S]
theorem zlO (T:Txt K mg t) (F:Fun K "_law_done" "_law_done" zd1 t.OB fd):Kx P w K mg base CX0 5 t.OB fd ["listener","deed"] (zlN t K):=by
 obtain⟨B2,D4,wJ⟩:=T.Pr;have D5:=zok (P:=P) (w:=w) (base:=base) T D4;obtain⟨yc,Av,sR⟩:=T.NA;have Aw:=zlo (P:=P) (w:=w) (base:=base) T Av;obtain⟨B3,D6,wK⟩:=T.Pw;have D7:=zol (P:=P) (w:=w) (base:=base) T D6;obtain⟨Ax,B4,uW⟩:=T.NY;have B5:=znb (P:=P) (w:=w) (base:=base) T B4;obtain⟨yd,vD,sT⟩:=T.Nq;have Ay:=zlK (P:=P) (w:=w) (base:=base) T vD;refine F.ok za2 #[o0] #[ld]
 ·obtain⟨S,p,c,d,pp,sl,es,ds,us,D,rfl,_⟩:=h;rfl
 ·obtain⟨S,p,c,d,pp,sl,es,ds,us,D,rfl,L,wA,Aj,nM,J0,hiu,hd,q⟩:=h;obtain⟨dx,ea,da,ua,k,tt,dr,ur,eS,h1,h2,h3,h4,h5,h6,h7,h8,h9,uC⟩:=L.ex;refine zaJ ?_; intro zX;refine⟨_,#[ze,#[zq,2,za2.nd,#[A],#[zV]],#[ze,#[zq,3,za2.nd,#[A],#[zaD]],#[ze,(@zpt _ _ _ _ (4) _ _ _ _ _ _ _ _ rfl rfl rfl rfl T.NR T.sb za2.nd rfl rfl (fun xe mO σ E hp=>#[zbb,#[zfp,#[Vl],#[zbb,#[zdb,3,za2.nd,#[A],#[zfo,#[wE],T.cl,T.Qr,D5,#[ss],wJ,hp,#[za,#[FS],#[ya,#[FS]]]]]],#[zbb,#[zfp,#[Vl],#[zbb,#[zdb,3,za2.nd,#[A],#[zfo,#[wE],T.cl,T.Ph,Aw,#[ss],sR,hp,#[ya,#[FS]]]]],#[zbb,#[zfp,#[Vl],#[zbb,#[zdb,3,za2.nd,#[A],#[zeu,#[wE],T.cl,T.Qs,D7,#[ss],wK,hp]]],#[zbb,#[zdb,3,za2.nd,#[A],#[zeu,#[wE],T.cl,T.PQ,B5,#[ss],uW,hp]]]]]]]]]) (fun e=>zj #[zq,2,za2.nd,#[A],(@zmF _ _ _ _ _ _ _ _ _ _ _ _ Ay (M4.of #[ss]) rfl T.PR vD.kp sT #[Ru] #[D] (by rfl) (by rfl))]) #[D]),#[zj,#[zH,#[zcj,#[zA,#[ziE],#[RI],#[zaD],(zI _)],#[IN],#[zV]]]]]]],?_⟩;refine zgH ?_; intro vd rh qi;cases D with
  | Mp n x =>
   refine #[Ro];refine (mP rfl (ex3 p dx _ ⟨rfl,h4,zbE #[TX],(mP rfl (ex4 d _ _ _ ⟨rfl,rfl,m7.of hd,rfl,(mP rfl (ex4 d _ _ _ ⟨rfl,rfl,m7.of hd,rfl,S,p,c,pp,sl,n,x,es,ds,us,rfl,L,wA,Aj,nM,?_⟩))⟩))⟩));unfold zeK
   revert q
   generalize stp pp es ds us _=st;intro q;cases st with
   | inl w =>
    obtain⟨b0,b1,b2,b3,b4,b5,b6,b7,b8,b9,j,kw,kc,kj,km,Bw,kx⟩:=ze4 T w;refine #[Sf];refine #[wP];refine #[ww];exact zaI (mP rfl (q H' ((zd he).trans s')))
   | inr r =>
    obtain⟨es',rd,rf⟩:=r;intro S' H' L' sS hS;refine #[ww];exact zaI #[SW]
  | forget n =>
   refine (mP rfl (ex4 d _ _ _ ⟨rfl,rfl,m7.of hd,rfl,rfl,(mP rfl (zc5 t1 ?_))⟩));refine #[Ro];refine (mP rfl (ex3 p dx _ ⟨rfl,h4,zbE (.inr #[TX]),(mP rfl (ex4 d _ _ _ ⟨rfl,rfl,m7.of hd,rfl,S,p,c,pp,sl,n,es,ds,us,rfl,L,wA,Aj,nM,?_⟩))⟩));unfold zeK
   revert q
   generalize stp pp es ds us _=st;intro q;cases st with
   | inl w =>
    obtain⟨b0,b1,b2,b3,b4,b5,b6,b7,b8,b9,j,kw,kc,kj,km,Bw,kx⟩:=ze4 T w;refine #[Sf];refine #[wP];refine #[ww];exact zaI (mP rfl (q H' ((zd he).trans s')))
   | inr r =>
    obtain⟨es',rd,rf⟩:=r;intro S' H' L' sS hS;refine #[ww];exact zaI #[SW]
  | back =>
   refine (mP rfl (ex4 d _ _ _ ⟨rfl,rfl,m7.of hd,rfl,rfl,(mP rfl (zc5 t2 ?_))⟩));refine (mP rfl (ex4 d _ _ _ ⟨rfl,rfl,m7.of hd,rfl,rfl,(mP rfl (zc5 t4 ?_))⟩));refine #[Ro];refine (mP rfl (ex3 p dx _ ⟨rfl,h4,zbE (.inr (.inr #[TX])),S,p,c,pp,sl,es,ds,us,rfl,L,wA,Aj,nM,J0,?_⟩));unfold zeK
   revert q
   generalize stp pp es ds us _=st;intro q;cases st with
   | inl w =>
    obtain⟨b0,b1,b2,b3,b4,b5,b6,b7,b8,b9,j,kw,kc,kj,km,Bw,kx⟩:=ze4 T w;refine #[Sf];refine #[wP];refine #[ww];exact zaI (mP rfl (q H' ((zd he).trans s')))
   | inr r =>
    obtain⟨es',rd,rf⟩:=r;intro S' H' L' sS hS;refine #[ww];exact zaI #[SW]
  | again =>
   refine (mP rfl (ex4 d _ _ _ ⟨rfl,rfl,m7.of hd,rfl,rfl,(mP rfl (zc5 t3 ?_))⟩));refine (mP rfl (ex4 d _ _ _ ⟨rfl,rfl,m7.of hd,rfl,rfl,(mP rfl (zc5 t5 ?_))⟩));refine (mP rfl (ex4 d _ _ _ ⟨rfl,rfl,m7.of hd,rfl,rfl,(mP rfl (zc5 t6 ?_))⟩));refine (mP rfl (ex3 p dx _ ⟨rfl,h4,zbE (.inr (.inr (.inr #[TX]))),S,p,c,pp,sl,es,ds,us,rfl,L,wA,Aj,nM,hiu,?_⟩));unfold zeK
   revert q
   generalize stp pp es ds us _=st;intro q;cases st with
   | inl w =>
    obtain⟨b0,b1,b2,b3,b4,b5,b6,b7,b8,b9,j,kw,kc,kj,km,Bw,kx⟩:=ze4 T w;refine #[Sf];refine #[wP];refine #[ww];exact zaI (mP rfl (q H' ((zd he).trans s')))
   | inr r =>
    obtain⟨es',rd,rf⟩:=r;intro S' H' L' sS hS;refine #[ww];exact zaI #[SW]
structure St (H:Hp) (sa:Addr) (rs:List Addr) (rows:List Rw):Prop where
 at_:H sa=some #[re]
 len:rs.length=rows.length
 row:∀ (i:Nat) (r:Addr) (w:Rw),rs[i]? = some r->rows[i]? = some w->H r=some (.lst (w.map ng))
theorem St.same {sa:Addr} (h:St H sa rs rows) (s:zC H H'):St H' sa rs rows:=⟨s _ _ h.at_,h.len,fun i r w e1 e2=>s _ _ (h.row i r w e1 e2)⟩
noncomputable def zji (K:af):Sp:=fun vs H Q _=>∃ (c tt sa d:Addr) (pp k:Int) (at':Nat) (rs:List Addr) (rows:List Rw) (r:Rw) (D:Dd),vs = [.ref c,.ref sa,.int (at':Int),.ref d]/\H c=some (.tup [.int pp,.int k,.ref tt])/\St H sa rs rows/\rows[at']? = some r/\H d=some #[Vf]/\rows.length<=1000/\r.length<=16 /\
 ∀ (l vg:Addr) (rY:List Addr) (H':Hp),H l=none->zC H H'->St H' vg rY #[S3].1->(∀ b,b=vg\/b∈rY->(b=sa\/b∈rs)\/H b=none)->H' l=some (.tup [.ref vg,.int (#[S3].2.1:Int),.str (owd #[S3].2.2)])->Q #[SX] H'
theorem zq5:inV (V.str "hear") [V.str "back",V.str "again"]=false:=by decide +kernel
theorem zq6:inV (V.str "forget") [V.str "back",V.str "again"]=false:=by decide +kernel
theorem zqB:inV (V.str "back") [V.str "back",V.str "again"]=true:=by decide +kernel
theorem zkz:inV (V.str "again") [V.str "back",V.str "again"]=true:=by decide +kernel
theorem t8:¬ (("back" : Str) = "again"):=by decide +kernel
theorem t7:¬ (("hear" : Str) = "forget"):=by decide +kernel
theorem zjj {xs:List V} (h:k<=xs.length):zcy xs none (some (k:Int))=xs.take k:=by
 have e1:HT.sIx xs.length xs.length (some (k:Int))=k:=by
  unfold HT.sIx;simp;split <;> lia
 have e2:HT.sIx xs.length 0 none=0:=rfl;unfold zcy;rw [e1,e2];rfl
theorem ze5 {es:Rw} {n:Int} (h:¬ 0<=n\/¬ n < (es.length:Int)):inB es n=false:=by
 unfold inB;rcases h with h | h <;> simp [h]
theorem zkk {es:Rw} {n:Int} (h0:0<=n) (h1:n < (es.length:Int)):inB es n=true:=by
 unfold inB;simp [h0,h1]
theorem zcN:Ko ["code","states","at","deed","row","there","later"] ["code","states","at","deed"] (zi zdk):=#[S]
theorem zjk (T:Txt K mg t) (F:Fun K "_law_later" "_law_later" zdk t.Nk fd):Kx P w K mg base CX0 1 t.Nk fd ["code","states","at","deed"] (zji K):=by
 refine F.ok zcN #[o0] #[ld]
 ·obtain⟨c,tt,sa,d,pp,k,at',rs,rows,r,D,rfl,_⟩:=h;rfl
 ·obtain⟨c,tt,sa,d,pp,k,at',rs,rows,r,D,rfl,hc,qb,xC,hd,hl,wA,q⟩:=h;obtain⟨ra,sm⟩:∃ ra,rs[at']? = some ra:=by
   have:=(aj.mp xC).1;exact⟨rs[at']'(by rw [qb.len]; exact this),#[M]⟩
  have wx:=qb.row at' ra r sm xC;refine zaJ ?_; intro zX;refine⟨_,#[ze,#[zq,4,zcN.nd,#[A],#[zB,#[zU],#[xz],#[IN]]],#[ze,#[zam,#[zA,#[zga],#[wT],#[zad,#[za,#[zV],#[XG]]],(by with_unfolding_all rfl)],#[ze,#[zq,5,zcN.nd,#[A],#[zn,#[zai],#[IN],#[zB,#[zU],#[zP,#[za,#[WS],#[Sd]]],#[zaW,(@zkt _),T.Q6,boot_int,#[ya,(@znx _ _ _ _ _ _ _ _ #[zbF] #[wT] #[zV] (zI _))]]]]],#[zj,#[zH,#[zcj,#[zdG,#[zhq],#[zcO],#[zh],#[Uf],#[Rq],(by with_unfolding_all rfl)],#[zad,#[za,#[xz],#[za,#[Uf],#[XG]]]],#[Rh]]]]],#[zQ]],#[ze,#[zam,#[zdw,#[zdG,#[zhq],#[zcO],#[zh],#[wT],#[SN],(by with_unfolding_all rfl)]],#[Wx],#[zQ]],#[ze,#[zam,(@PW.pt _ _ _ #[zdv,#[S6],#[zc7,#[zdw,#[zdG,#[zhq],#[zcO],#[zh],#[wT],#[UQ],(by with_unfolding_all rfl)]]]]),#[Wx],#[zQ]],#[ze,#[zam,(@PW.pt _ _ _ #[zdv,#[S6],#[zc7,#[zA,#[zct],#[zB,#[zU],#[UZ],#[wT]],#[zaD],(zI _)]]]),#[Wx],#[zQ]],#[ze,#[zam,(@PW.pt _ _ _ #[zdv,#[S6],#[zc7,#[zA,#[ziE],#[zB,#[zU],#[UZ],#[wT]],#[zaD],(zI _)]]]),#[Wx],#[zQ]],#[ze,#[zq,6,zcN.nd,#[A],#[zaW,#[zdI],T.Pn,jk,#[Ru]]],#[ze,#[zbh,#[zcj,#[S6],#[wT],#[zaD]],#[zgD,#[pvx,6],#[wT],set_list]],#[zj,#[zH,#[zad,#[za,#[zn,#[zcd],#[zbS,zcz,#[xz],#[zcw],#[zcx,#[W2]]],#[zP,#[Ut]]],#[za,#[W2],#[XG]]]]]]]]]]]]]],?_⟩;refine zqg ?_; intro zN9 zN8 Hh DK BM vd rh qi;have qJ:=a8;have keep:∀ b,b=sa\/b∈rs->(b=sa\/b∈rs)\/H b=none:=fun b hb=>.inl hb
  refine (mP rfl (mP rfl (ex4 sa _ _ (.ref ra) ⟨rfl,rfl,mS.of qb.at_,zag (by rw [ao,sm]; rfl),?_⟩)));cases D with
  | Mp n x =>
   refine (mP rfl (ex4 d _ _ _ ⟨rfl,rfl,m7.of hd,rfl,by show 2<=sizeLine; lia,fun t2 xU=>?_⟩));have u1:=zd (o:=.tup [.str "back",.str "again"]) xU;refine#[At];rw [if_neg aJ,zq5];refine zaS ?_;have vh:=u1 _ _ hd;have BX:=u1 _ _ hc;have sU:=u1 _ _ wx;have ye:=u1 _ _ qb.at_;have ek:(#[VP].length:Int)=(r.length:Int):=by rw [ae]
   refine #[R1];by_cases h0:0<=n
   case neg =>
    have e:ltr pp rows at' r (.Mp n x)=#[Se]:=by unfold ltr; dsimp only; rw [if_pos (ze5 (.inl h0))]
    rw [e] at q;rw [decide_eq_false h0];exact zaS (mP rfl (zaI (mP rfl (mP rfl ⟨by show 3<=sizeLine; lia,fun l hl=>q l sa rs _ #[Uq] #[Ev] #[SV] keep zb⟩))))
   rw [decide_eq_true h0];refine zaI #[Vm];rw [ek];by_cases h1:n < (r.length:Int)
   case neg =>
    have e:ltr pp rows at' r (.Mp n x)=#[Se]:=by unfold ltr; dsimp only; rw [if_pos (ze5 (.inr h1))]
    rw [e] at q;rw [decide_eq_false h1];exact zaI (mP rfl (mP rfl ⟨by show 3<=sizeLine; lia,fun l hl=>q l sa rs _ #[Uq] #[Ev] #[SV] keep zb⟩))
   rw [decide_eq_true h1];refine zaS ?_;have hB:=zkk h0 h1;have D8:¬ inB r n=false:=by rw [hB]; decide
   obtain⟨m,b,rfl,hm,hb⟩:=zg9 hB;have Bl:=(aj.mp hb).1;refine #[Rn];refine #[R1];by_cases g0:0<=x
   case neg =>
    have e:ltr pp rows at' r (.Mp m x)=#[VI]:=by unfold ltr; dsimp only; rw [if_neg D8,if_pos (by unfold zfV; simp [g0])]
    rw [e] at q;rw [decide_eq_false g0];exact zaS (mP rfl (zaI (mP rfl (mP rfl ⟨by show 3<=sizeLine; lia,fun l hl=>q l sa rs _ #[Uq] #[Ev] #[SV] keep zb⟩))))
   rw [decide_eq_true g0];refine zaI (mP rfl (ex4 c _ _ _ ⟨rfl,rfl,m7.of BX,rfl,#[pi]⟩));by_cases g1:x < pp
   case neg =>
    have e:ltr pp rows at' r (.Mp m x)=#[VI]:=by unfold ltr; dsimp only; rw [if_neg D8,if_pos (by unfold zfV; simp [g1])]
    rw [e] at q;rw [decide_eq_false g1];exact zaI (mP rfl (mP rfl ⟨by show 3<=sizeLine; lia,fun l hl=>q l sa rs _ #[Uq] #[Ev] #[SV] keep zb⟩))
   rw [decide_eq_true g1];refine zaS ?_;have hn:¬ zfV pp x=false:=by unfold zfV; simp [g0,g1]
   refine #[Rn];refine (mP rfl (mP rfl (ex4 d _ _ _ ⟨rfl,rfl,m7.of vh,rfl,ra,_,_,ng b,rfl,rfl,mS.of sU,zag (by rw [ao,hb]; rfl),rfl,#[KK]⟩)));cases b with
   | some v =>
    have e:ltr pp rows at' r (.Mp m x)=(rows,at',some .heard):=by unfold ltr; dsimp only; rw [if_neg D8,if_neg hn,hm,hb]; rfl
    rw [e] at q;exact zaI (mP rfl (mP rfl ⟨by show 3<=sizeLine; lia,fun l hl=>q l sa rs _ #[Uq] #[Ev] #[SV] keep zb⟩))
   | none =>
    have e:ltr pp rows at' r (.Mp m x)=(rows.take (at'+1)++[r.set m (some x)],at'+1,none):=by unfold ltr; dsimp only; rw [if_neg D8,if_neg hn,hm,hb]; rfl
    rw [e] at q;refine zaS ?_;refine (mP rfl (ex4 d _ _ _ ⟨rfl,rfl,m7.of vh,rfl,rfl,(mP rfl (zc5 t7 ?_))⟩));refine #[UA];have u2:=zd (o:=.lst #[VP]) D9;have hd2:=u2 _ _ vh;refine (mP rfl (ex4 d _ _ _ ⟨rfl,rfl,m7.of hd2,rfl,rfl,(mP rfl (zeE (mP rfl (ex4 d _ _ _ ⟨rfl,rfl,m7.of hd2,rfl,(mP rfl (mP rfl (ex4 d _ _ _ ⟨rfl,rfl,m7.of hd2,rfl,la,_,_,m,rfl,rfl,zb,zdJ (by rw [ae]; exact Bl),?_⟩)))⟩))))⟩));rw [zeM];have u3:=zd (o:=.lst (#[VP].set m (ng (some x)))) D9;have D':mR (mR H t2 (.tup [.str "back",.str "again"])) la (.lst (#[VP].set m (ng (some x)))) la=some (.lst ((r.set m (some x)).map ng)):=by rw [zb,gQ]
    have sB:=u1.trans u3;refine #[Sw];have ec:zcy #[R9] none (some ((at':Int)+1))=#[Rk].map V.ref:=by
     have e1:((at':Int)+1)=((at'+1:Nat):Int):=by lia
     have:=(aj.mp sm).1;rw [e1,zjj (by rw [ae]; lia),gj]
    rw [ec];have u4:=zd (o:=.lst (#[Rk].map V.ref)) hz;refine (mP rfl ⟨by show 1<=sizeLine; lia,fun y hy=>?_⟩);have u5:=zd (o:=.lst [V.ref la]) hy;refine (ex4 z y _ _ ⟨rfl,rfl,u5 _ _ zb,zb,by rw [ae,aA]; show _+1<=sizeLine; have:=qb.len; lia,fun s2 o7=>?_⟩);have u6:=zd (o:=.lst (#[Rk].map V.ref++[V.ref la])) o7;refine (mP rfl (m8 rfl rfl ⟨by show 3<=sizeLine; lia,fun l hl=>?_⟩));have u7:=zd (o:=.tup [.ref s2,.int ((at':Int)+1),.str ""]) hl;have sC:=sB.trans #[R4];refine q l s2 (rs.take (at'+1)++[la]) _ (#[WB].free hl) sC ⟨by rw [u7 _ _ zb,aB]; rfl,by rw [aF,aF,aA,aA,qb.len]; rfl,fun i r' w' e1 e2=>?_⟩ (fun b' uA=>?_) zb
    ·rcases fM i (rs.take (at'+1)).length with hi | hi
     ·rw [aX hi] at e1;rw [aX (by rw [aA] at hi |-; rw [<- qb.len]; exact hi)] at e2;have BL:i < at'+1:=by rw [aA] at hi; lia
      rw [cf BL] at e1 e2;exact sC _ _ (qb.row i r' w' e1 e2)
     ·rw [bg hi] at e1;have el:#[Rk].length=#[Xr].length:=by rw [aA,aA,qb.len]
      rw [bg #[O],<- el] at e2;have e3:i - #[Rk].length=0:=by
       have:i - #[Rk].length < 1:=(aj.mp e1).1;lia
      rw [e3] at e1 e2;simp at e1 e2;subst e1 e2;exact #[R4] _ _ D'
    ·rcases uA with rfl | uA
     ·exact .inr ((sB.trans (u4.trans u5)).free o7)
     ·rcases aP.mp uA with h | h
      ·exact .inl (.inr (fu h))
      ·have:b'=la:=by simpa using h
       subst this;exact .inr (u1.free D9)
  | forget n =>
   refine (mP rfl (ex4 d _ _ _ ⟨rfl,rfl,m7.of hd,rfl,by show 2<=sizeLine; lia,fun t2 xU=>?_⟩));have u1:=zd (o:=.tup [.str "back",.str "again"]) xU;refine#[At];rw [if_neg aJ,zq6];refine zaS ?_;have vh:=u1 _ _ hd;have BX:=u1 _ _ hc;have sU:=u1 _ _ wx;have ye:=u1 _ _ qb.at_;have ek:(#[VP].length:Int)=(r.length:Int):=by rw [ae]
   refine #[R1];by_cases h0:0<=n
   case neg =>
    have e:ltr pp rows at' r (.forget n)=#[Se]:=by unfold ltr; dsimp only; rw [if_pos (ze5 (.inl h0))]
    rw [e] at q;rw [decide_eq_false h0];exact zaS (mP rfl (zaI (mP rfl (mP rfl ⟨by show 3<=sizeLine; lia,fun l hl=>q l sa rs _ #[Uq] #[Ev] #[SV] keep zb⟩))))
   rw [decide_eq_true h0];refine zaI #[Vm];rw [ek];by_cases h1:n < (r.length:Int)
   case neg =>
    have e:ltr pp rows at' r (.forget n)=#[Se]:=by unfold ltr; dsimp only; rw [if_pos (ze5 (.inr h1))]
    rw [e] at q;rw [decide_eq_false h1];exact zaI (mP rfl (mP rfl ⟨by show 3<=sizeLine; lia,fun l hl=>q l sa rs _ #[Uq] #[Ev] #[SV] keep zb⟩))
   rw [decide_eq_true h1];refine zaS ?_;have hB:=zkk h0 h1;have D8:¬ inB r n=false:=by rw [hB]; decide
   obtain⟨m,b,rfl,hm,hb⟩:=zg9 hB;have Bl:=(aj.mp hb).1;refine #[TF];refine #[TF];refine #[Rn];refine (mP rfl (mP rfl (ex4 d _ _ _ ⟨rfl,rfl,m7.of vh,rfl,ra,_,_,ng b,rfl,rfl,mS.of sU,zag (by rw [ao,hb]; rfl),rfl,#[KK]⟩)));cases b with
   | none =>
    have e:ltr pp rows at' r (.forget m)=(rows,at',some .notHeard):=by unfold ltr; dsimp only; rw [if_neg D8,hm,hb]; rfl
    rw [e] at q;exact zaI (mP rfl (mP rfl ⟨by show 3<=sizeLine; lia,fun l hl=>q l sa rs _ #[Uq] #[Ev] #[SV] keep zb⟩))
   | some v =>
    have e:ltr pp rows at' r (.forget m)=(rows.take (at'+1)++[r.set m none],at'+1,none):=by unfold ltr; dsimp only; rw [if_neg D8,hm,hb]; rfl
    rw [e] at q;refine zaS ?_;refine #[UA];have u2:=zd (o:=.lst #[VP]) D9;have hd2:=u2 _ _ vh;refine (mP rfl (ex4 d _ _ _ ⟨rfl,rfl,m7.of hd2,rfl,rfl,(mP rfl (zc5 t1 (mP rfl (mP rfl (ex4 d _ _ _ ⟨rfl,rfl,m7.of hd2,rfl,la,_,_,m,rfl,rfl,zb,zdJ (by rw [ae]; exact Bl),?_⟩)))))⟩));rw [zeM];have u3:=zd (o:=.lst (#[VP].set m (ng (none)))) D9;have D':mR (mR H t2 (.tup [.str "back",.str "again"])) la (.lst (#[VP].set m (ng (none)))) la=some (.lst ((r.set m (none)).map ng)):=by rw [zb,gQ]
    have sB:=u1.trans u3;refine #[Sw];have ec:zcy #[R9] none (some ((at':Int)+1))=#[Rk].map V.ref:=by
     have e1:((at':Int)+1)=((at'+1:Nat):Int):=by lia
     have:=(aj.mp sm).1;rw [e1,zjj (by rw [ae]; lia),gj]
    rw [ec];have u4:=zd (o:=.lst (#[Rk].map V.ref)) hz;refine (mP rfl ⟨by show 1<=sizeLine; lia,fun y hy=>?_⟩);have u5:=zd (o:=.lst [V.ref la]) hy;refine (ex4 z y _ _ ⟨rfl,rfl,u5 _ _ zb,zb,by rw [ae,aA]; show _+1<=sizeLine; have:=qb.len; lia,fun s2 o7=>?_⟩);have u6:=zd (o:=.lst (#[Rk].map V.ref++[V.ref la])) o7;refine (mP rfl (m8 rfl rfl ⟨by show 3<=sizeLine; lia,fun l hl=>?_⟩));have u7:=zd (o:=.tup [.ref s2,.int ((at':Int)+1),.str ""]) hl;have sC:=sB.trans #[R4];refine q l s2 (rs.take (at'+1)++[la]) _ (#[WB].free hl) sC ⟨by rw [u7 _ _ zb,aB]; rfl,by rw [aF,aF,aA,aA,qb.len]; rfl,fun i r' w' e1 e2=>?_⟩ (fun b' uA=>?_) zb
    ·rcases fM i (rs.take (at'+1)).length with hi | hi
     ·rw [aX hi] at e1;rw [aX (by rw [aA] at hi |-; rw [<- qb.len]; exact hi)] at e2;have BL:i < at'+1:=by rw [aA] at hi; lia
      rw [cf BL] at e1 e2;exact sC _ _ (qb.row i r' w' e1 e2)
     ·rw [bg hi] at e1;have el:#[Rk].length=#[Xr].length:=by rw [aA,aA,qb.len]
      rw [bg #[O],<- el] at e2;have e3:i - #[Rk].length=0:=by
       have:i - #[Rk].length < 1:=(aj.mp e1).1;lia
      rw [e3] at e1 e2;simp at e1 e2;subst e1 e2;exact #[R4] _ _ D'
    ·rcases uA with rfl | uA
     ·exact .inr ((sB.trans (u4.trans u5)).free o7)
     ·rcases aP.mp uA with h | h
      ·exact .inl (.inr (fu h))
      ·have:b'=la:=by simpa using h
       subst this;exact .inr (u1.free D9)
  | back =>
   refine (mP rfl (ex4 d _ _ _ ⟨rfl,rfl,m7.of hd,rfl,by show 2<=sizeLine; lia,fun t2 xU=>?_⟩));have u1:=zd (o:=.tup [.str "back",.str "again"]) xU;refine#[At];rw [if_neg aJ,zqB];refine zaI ?_;have vh:=u1 _ _ hd;refine (mP rfl (mP rfl ⟨by show 2<=sizeLine; lia,fun t3 J3=>?_⟩));have u2:=zd (o:=.lst [.int (-1),.int 1]) J3;have hd2:=u2 _ _ vh;refine #[Uo];have ev:(if decide (V.str "back" = V.str "again")=true then (1:Int) else 0)=0:=by rw [decide_eq_false (fun z=>t8 (by injection z))]; rfl
   rw [ev];refine (ex4 t3 _ _ (.int (-1)) ⟨rfl,rfl,mS.of zb,rfl,#[Th]⟩);have sB:=u1.trans u2;refine #[SU];by_cases h:at'=0
   case pos =>
    have e:ltr pp rows at' r .back=#[TB]:=if_pos h;rw [e] at q;have f:¬ (0:Int)<=(at':Int) + -1:=by lia
    rw [decide_eq_false f];exact zaS (mP rfl (zaS (mP rfl (mP rfl ⟨by show 3<=sizeLine; lia,fun l hl=>q l sa rs _ (sB.free hl) #[R6] #[Wu] keep zb⟩))))
   have e:ltr pp rows at' r .back=(rows,at' - 1,none):=if_neg h;rw [e] at q;have f0:(0:Int)<=(at':Int) + -1:=by lia
   have f1:(at':Int) + -1 < (#[R9].length:Int):=by rw [ae]; have:=(aj.mp sm).1; lia
   have ez:(at':Int) + -1=((at' - 1:Nat):Int):=by lia
   rw [decide_eq_true f0];refine zaI #[Rv];rw [decide_eq_true f1];exact zaI (mP rfl (mP rfl ⟨by show 3<=sizeLine; lia,fun l hl=>q l sa rs _ (sB.free hl) #[R6] #[Wu] keep (by rw [zb]; show some (HO.tup [V.ref sa,V.int ((at':Int) + -1),V.str ""])=_; rw [ez]; rfl)⟩))
  | again =>
   refine (mP rfl (ex4 d _ _ _ ⟨rfl,rfl,m7.of hd,rfl,by show 2<=sizeLine; lia,fun t2 xU=>?_⟩));have u1:=zd (o:=.tup [.str "back",.str "again"]) xU;refine#[At];rw [if_neg aJ,zkz];refine zaI ?_;have vh:=u1 _ _ hd;refine (mP rfl (mP rfl ⟨by show 2<=sizeLine; lia,fun t3 J3=>?_⟩));have u2:=zd (o:=.lst [.int (-1),.int 1]) J3;have hd2:=u2 _ _ vh;refine #[Uo];have ev:(if decide (V.str "again" = V.str "again")=true then (1:Int) else 0)=1:=by rw [decide_eq_true rfl]; rfl
   rw [ev];refine (ex4 t3 _ _ (.int 1) ⟨rfl,rfl,mS.of zb,rfl,#[Th]⟩);have sB:=u1.trans u2;refine #[SU];have f0:(0:Int)<=(at':Int)+1:=by lia
   by_cases h:at'+1 < rows.length
   case neg =>
    have e:ltr pp rows at' r .again=#[TB]:=if_neg h;rw [e] at q;rw [decide_eq_true f0];have f1:¬ (at':Int)+1 < (#[R9].length:Int):=by rw [ae,qb.len]; lia
    refine zaI #[Rv];rw [decide_eq_false f1];exact zaS (mP rfl (mP rfl ⟨by show 3<=sizeLine; lia,fun l hl=>q l sa rs _ (sB.free hl) #[R6] #[Wu] keep zb⟩))
   have e:ltr pp rows at' r .again=(rows,at'+1,none):=if_pos h;rw [e] at q;have f1:(at':Int)+1 < (#[R9].length:Int):=by rw [ae,qb.len]; lia
   have ez:(at':Int)+1=((at'+1:Nat):Int):=by lia
   rw [decide_eq_true f0];refine zaI #[Rv];rw [decide_eq_true f1];exact zaI (mP rfl (mP rfl ⟨by show 3<=sizeLine; lia,fun l hl=>q l sa rs _ (sB.free hl) #[R6] #[Wu] keep (by rw [zb]; show some (HO.tup [V.ref sa,V.int ((at':Int)+1),V.str ""])=_; rw [ez]; rfl)⟩))
end
end My
end
section
namespace L2
open PySem PySem.Spec PyProof.Rows
variable {X:Cx}
theorem zpS (hu:X.A.units+20 < cLine):OpR X #[WW] (fun x y H Q=>(x = .non/\y = .non/\Q #[X4] H)\/znJ X.K true x y H Q):=by
 intro mO s σ H x y v u Q I rx ry h;rcases h with ⟨rfl,rfl,q⟩ | h
 ·exact zhp mO s σ H .non .non v u Q I rx ry ⟨rfl,q⟩
 ·exact ziS hu mO s σ H x y v u Q I rx ry h
end L2
end
section
namespace My
open PySem L2 PyProof.Rows
variable {C da ea ua:Addr} {H H':Hp} {K:af} {an od:Option Addr} {cd ct dc oc pm:Value} {fd:FuncData} {h:Heap} {k:Nat} {mg:Str->Option Value} {ms pl:List Int} {pp sl:Int} {qs:List #[Id]} {rows:List Rw} {rs:List Addr} {us:List Value} {w:World}
section
variable {P:Program} {w:World} {K:af} {mg:Str->Option Value} {base:Heap} {t:Adr}
theorem zlP {Q:VK} {a b:Addr} {ms:Rw} (ha:mS K H a (ms.map ng)) (hb:mS K H b (ms.map ng)) (q:Q #[X4] H):znJ K true #[RC] (.ref b) H Q:=by
 refine⟨a,b,_,_,rfl,rfl,.inl ⟨ha,hb⟩,.inr ⟨rfl,fun _=>true,fun j x y hx hy=>?_,?_⟩⟩
 ·rw [hx] at hy;cases hy;rw [ao] at hx;cases e:ms[j]? with
  | none=>rw [e] at hx; cases hx
  | some o =>
   rw [e] at hx;cases hx;have:eqV (ng o) (ng o)=true:=by
    cases o with
    | none=>rfl
    | some i=>show (i == i)=true; simp
   show EqD K H 8 (ng o) (ng o) true;rw [<- this];exact EqD.flat (by cases o <;> rfl) (by cases o <;> rfl)
 ·rw [if_pos rfl];have:(bn (List.map ng ms).length).all (fun _=>true)=true:=by simp
  rw [this];exact q
theorem znp {x y:Str} {A B:Prop} (h:x=y) (b:B):if (!decide (V.str x=V.str y))=true then A else B:=by
 subst h;rw [decide_eq_true rfl];exact zaS b
theorem Jn.lt {n:Nat} {rows:List Rw} {at':Nat} {es:Rw} {ds us:List Dt} (J:Jn n rows at' es ds us):es.length=n/\(∀ d∈ds,d.1 < es.length)/\∀ d∈us,d.1 < es.length:=by
 have he:es.length=n:=J.wd es (aV J.cur);have all:∀ d∈ds++us.reverse,d.1 < n:=fun d hd=>by
  obtain⟨i,hi,e⟩:=fz.mp hd;have hl:=J.len;have h1:rows[i]? = some (rows[i]'#[O]):=by simp
  have h2:rows[i+1]? = some (rows[i+1]'#[O]):=by simp
  have t:=J.ch i _ _ d h1 (by rw [aj]; exact⟨hi,e⟩) h2;have h3:=(aj.mp t.1).1;rw [J.wd _ (aV h1)] at h3;exact h3
 rw [he];exact⟨rfl,fun d hd=>all d (aH _ hd),fun d hd=>all d (ar _ (List.mem_reverse.mpr hd))⟩
structure Wl (C:Addr) (G1 H:Hp) (p c:Addr) (pp sl:Int) (n:Nat) (S:List Addr) (sa:Addr) (rs:List Addr) (rows:List Rw) (at':Nat) (es:Rw) (ds us:List Dt):Prop where
 L:Ls C H S p c pp sl es ds us
 st:My.St (hid S H) sa rs rows
 J:Jn n rows at' es ds us
 z:rows[0]? = some (am n none)
 g:zC G1 (hid S H)
theorem Wl.same {G1:Hp} {p c:Addr} {n:Nat} {S:List Addr} {sa:Addr} {at':Nat} {es:Rw} {ds us:List Dt} (W:Wl C G1 H p c pp sl n S sa rs rows at' es ds us) (s:zC H H'):Wl C G1 H' p c pp sl n S sa rs rows at' es ds us :=
 ⟨W.L.same s,W.st.same (zc2 s),W.J,W.z,W.g.trans (zc2 s)⟩
theorem Wl.Q7 {G1:Hp} {p c:Addr} {n:Nat} {S:List Addr} {sa vg:Addr} {rY:List Addr} {oh:List Rw} {at':Nat} {es:Rw} {ds us:List Dt} (W:Wl C G1 H p c pp sl n S sa rs rows at' es ds us) (s:zC H H') (st:My.St H' vg rY oh)
  (hb:∀ b,b=vg\/b∈rY->(b=sa\/b∈rs)\/H b=none):My.St (hid S H') vg rY oh:=by
 have out:∀ b,b=vg\/b∈rY->b∉S:=fun b uA=>by
  rcases hb b uA with (rfl | h) | h
  ·exact (zcG W.st.at_).2
  ·obtain⟨i,hi,e⟩:=fz.mp h;have h1:rs[i]? = some b:=aj.mpr ⟨hi,e⟩;have h2:rows[i]? = some (rows[i]'(by rw [<- W.st.len]; exact hi)):=by simp
   exact (zcG (W.st.row i b _ h1 h2)).2
  ·exact W.L.fresh h
 refine⟨zbv st.at_ (out _ #[Os]),st.len,fun i r w e1 e2=>zbv (st.row i r w e1 e2) (out _ (.inr (aV e1)))⟩
theorem zfL {x:V} {A B:Prop} (b:B):if (!decide (x=x))=true then A else B:=by
 rw [decide_eq_true rfl];exact zaS b
theorem Cb.one {p:Int} {sl:Nat} {es:Rw} {J4:List #[Id]} (h:Cb p k sl pl es qs) (h':Cb p k sl pl es J4):J4=qs:=zj6 h'.2.1 h.2.1 fun q=>(h'.2.2 q).trans (h.2.2 q).symm
theorem znq {n:Nat} {at':Nat} {es:Rw} {ds us:List Dt} {D:Dd} (J:Jn n rows at' es ds us):(ltr pp rows at' es D).1[0]? = rows[0]?\/(ltr pp rows at' es D).1[0]? = rows[0]?:=by
 have nC:=(aj.mp J.cur).1;have key:∀ r':Rw,(rows.take (at'+1)++[r'])[0]? = rows[0]?:=fun r'=>by
  rw [aX (by rw [aA]; lia),cf #[O]]
 refine .inl ?_;cases D with
 | Mp k x =>
  unfold ltr;dsimp only;split
  ·rfl
  ·split
   ·rfl
   ·split
    ·rfl
    ·exact key _
 | forget k =>
  unfold ltr;dsimp only;split
  ·rfl
  ·split
   ·exact key _
   ·rfl
 | back =>
  unfold ltr;dsimp only;split <;> rfl
 | again =>
  unfold ltr;dsimp only;split <;> rfl
theorem zlQ {Q:VK} {a b:Addr} {xs ys:List V} (ha:mS K H a xs) (hb:mS K H b ys) (hl:xs.length=ys.length) (he:∀ (j:Nat) x y,xs[j]? = some x->ys[j]? = some y->EqD K H 8 x y true) (q:Q #[X4] H):znJ K true #[RC] (.ref b) H Q:=by
 refine⟨a,b,_,_,rfl,rfl,.inl ⟨ha,hb⟩,.inr ⟨hl,fun _=>true,he,?_⟩⟩;have:#[WP].all (fun _=>true)=true:=by simp
 rw [this];exact q
theorem znr {d:Nat} {x:V} (hx:zcP x=true):EqD K H d x x true:=by
 have h:=EqD.flat (K:=K) (H:=H) (d:=d) (x:=x) (y:=x) hx hx;have e:eqV x x=true:=by
  cases x <;> simp_all [eqV,zcP]
 rw [e] at h;exact h
theorem zoz {a b:Addr} (ha:H a=some (.tup #[Sb])) (hb:H b=some (.tup #[Sb])):EqD K H 8 #[RC] (.ref b) true:=by
 by_cases o8:a=b
 ·subst o8;exact .same
 ·have h:=EqD.MS (K:=K) (H:=H) (d:=7) (e:=fun _=>true) o8 (m7.of ha) (m7.of hb) fun j x y h1 h2=>by
   rw [h1] at h2;cases h2;obtain⟨z,rfl,_⟩:=zaF h1;exact znr rfl
  have e:((bn (min #[Sb].length #[Sb].length)).all (fun _=>true) && #[Sb].length == #[Sb].length)=true:=by simp
  rw [e] at h;exact h
theorem zoA {rY:List Addr} (h1:zaM H rs qs) (h2:zaM H rY qs):∀ (j:Nat) x y,#[R9][j]? = some x->(rY.map V.ref)[j]? = some y->EqD K H 8 x y true:=fun j x y e1 e2=>by
 obtain⟨a,rfl,ha⟩:=zaQ e1;obtain⟨b,rfl,hb⟩:=zaQ e2;obtain⟨q,g1,g2⟩:=Paired.get h1 ha;obtain⟨q',g3,g4⟩:=Paired.get h2 hb;rw [g1] at g3;cases g3;exact zoz g2 g4
theorem zoB {c:Addr} :#[Pi].lookup ("sure" : Str)=none:=zm6 #[N] #[N] #[N] #[N] #[N]
theorem zoC {n:Nat} {r:Addr} (h:rs[n]? = some r) (hl:n+1=rs.length):atI #[R9] (-1)=some (.ref r):=by
 obtain⟨h1,h2⟩:=aj.mp h;have e:rs=rs.take n++[r]:=by
  have:=take_snoc h;rw [hl,bx] at this;exact this
 rw [e,aB];exact zl8 _ _
noncomputable def Plain (D:Dd):Prop:=(∃ n x,D = .Mp n x)\/∃ n,D = .forget n
theorem zns {at':Nat} {r:Rw} {D:Dd} (hD:Plain D) (h:at'+1=rows.length):#[S3].2.1+1=#[S3].1.length:=by
 have key:∀ r':Rw,at'+1+1=(rows.take (at'+1)++[r']).length:=fun r'=>by
  rw [aF,aA];simp;lia
 rcases hD with ⟨n,x,rfl⟩ | ⟨n,rfl⟩
 ·unfold ltr;dsimp only;split
  ·exact h
  ·split
   ·exact h
   ·split
    ·exact h
    ·exact key _
 ·unfold ltr;dsimp only;split
  ·exact h
  ·split
   ·exact key _
   ·exact h
theorem zpT {es es':Rw} {ds us rd rf:List Dt} {D:Dd} (hD:Plain D) (e:stp pp es ds us D = .inr (es',rd,rf)) (h:∀ z,some z∈es->0<=z/\z < pp):∀ z,some z∈es'->0<=z/\z < pp:=by
 intro z hz;rcases hD with ⟨n,x,rfl⟩ | ⟨n,rfl⟩
 ·unfold stp at e;dsimp only at e;split at e
  ·cases e
  ·split at e
   ·cases e
   ·rename_i _ hx
    split at e
    ·cases e
    ·cases e;rcases iI hz with h1 | h1
     ·exact h z h1
     ·cases h1;unfold zfV at hx;simp at hx;lia
 ·unfold stp at e;dsimp only at e;split at e
  ·cases e
  ·split at e
   ·cases e;rcases iI hz with h1 | h1
    ·exact h z h1
    ·cases h1
   ·cases e
theorem zaH:Ko ["script","plan","code","slips","one","listener","states","draws","draw","deed","at","due","row","found","number"] ["script"] (zi zdr):=#[S]
theorem zpU (T:Txt K mg t) (F:Fun K "law" "law" zdr t.law fd):Kx P w K mg base CX0 10 t.law fd ["script"] (zgQ K):=by
 obtain⟨sH,oj,om⟩:=T.LS;have pS:=zfB (P:=P) (w:=w) (base:=base) T oj;obtain⟨yf,sV,qN⟩:=T.Ny;have vE:=zli (P:=P) (w:=w) (base:=base) T sV;obtain⟨rZ,pJ,ou⟩:=T.KI;have sW:=zeJ (P:=P) (w:=w) (base:=base) T pJ;obtain⟨B6,Ea,wL⟩:=T.Pq;have Eb:=zon (P:=P) (w:=w) (base:=base) T Ea;obtain⟨yg,vF,sY⟩:=T.Nx;have Az:=zlM (P:=P) (w:=w) (base:=base) T vF;obtain⟨oU,nv,nF⟩:=T.KP;have nQ:=zcK (P:=P) (w:=w) (base:=base) T nv;obtain⟨wM,uI,rz⟩:=T.MM;have yh:=zjk (P:=P) (w:=w) (base:=base) T uI;obtain⟨yi,vG,sZ⟩:=T.Nv;have AA:=zlO (P:=P) (w:=w) (base:=base) T vG;obtain⟨Ec,Gn,xF⟩:=T.Qv;have CS:=zpJ (P:=P) (w:=w) (base:=base) T Gn;obtain⟨uH,sO,pI⟩:=T.Mr;have sP:=zgA (P:=P) (w:=w) (base:=base) T sO;obtain⟨vH,tf,qk⟩:=T.L6;have wN:=zix (P:=P) (w:=w) (base:=base) T tf;obtain⟨B7,Ed,wO⟩:=T.Pp;have Ee:=zoy (P:=P) (w:=w) (base:=base) T Ed;obtain⟨yj,vI,tj⟩:=T.Nr;have AB:=zlI (P:=P) (w:=w) (base:=base) T vI;refine F.ok zaH #[o0] #[ld]
 ·obtain⟨a,ns,rfl,_⟩:=h;rfl
 ·obtain⟨a,ns,rfl,hS,nj,q⟩:=h;have hu:(A.deeper (envOfC (bT "law") (zi zdr) s.heap.objs.size t.law nA)).units+20 < cLine:=by have:=hr.units; lia
  refine zaJ ?_; intro zX;refine⟨_,#[ze,#[zq,1,zaH.nd,#[A],#[zF,pS,#[ss],T.Mz,oj.kp,om,#[zY],#[za,#[wE],by exact #[Tl]]]],#[ze,(zc1 #[zq,2,zaH.nd,#[A],#[zcj,#[zA,#[zhr],#[Ua],#[zh],(zI _)],#[zF,vE,#[ss],T.Oy,sV.kp,qN,#[zY],#[za,#[wE],by exact #[Tl]]],#[zF,vE,#[ss],T.Oy,sV.kp,qN,#[zY],#[za,#[wE],by exact #[Tl]]]]]),#[ze,#[zq,3,zaH.nd,#[A],#[Ua]],#[ze,#[zq,4,zaH.nd,#[A],#[zF,sW,#[ss],T.MT,pJ.kp,ou,#[zY],#[za,#[zbS,zcz,#[xz],#[zcx,#[zh]],#[zcw]],#[za,#[RP],#[ya,#[RP]]]]]],#[ze,#[zq,5,zaH.nd,#[A],(@znB _ _ _ _ _ _ _ _ _ _ _ _ _ _ _ _ _ T.mkr Eb #[ss] rfl T.OJ wL .nil #[zY] #[za,#[IN],#[UB]] #[D] (by rfl) (by rfl))],#[ze,#[zq,6,zaH.nd,#[A],#[zP,#[ya,#[zn,#[zfa],#[zP,#[ya,#[zaD]]],#[Vj]]]]],#[ze,#[zq,7,zaH.nd,#[A],#[zF,pS,#[ss],T.Mz,oj.kp,om,#[zY],#[za,#[wE],by exact #[za,#[zh],#[za,#[zh],#[ya,#[zn,#[zan],#[zh],#[zh]]]]]]]],#[ze,#[zbi,bN,#[zat,#[zbS,zcz,#[pvx,7],#[zcw],#[zcx,#[zn,#[zai],#[zh],#[Ua]]]]],#[zm,8,zaH.nd,#[A]],#[ze,#[zq,9,zaH.nd,#[A],#[zF,Az,#[ss],T.PZ,vF.kp,sY,#[zY],#[za,#[VN],#[Vx]]]],#[ze,(zc1 #[zam,#[zA,#[zga],#[SH],#[zad,#[za,#[zV],#[XG]]],(by with_unfolding_all rfl)],#[zj,#[zq,9,zaH.nd,#[A],#[zad,#[za,#[zV],#[za,#[zn,#[zO],#[zn,#[zcs],#[VN],#[zh]],#[Vj]],#[Sd]]]]]],#[zQ]]),#[ze,(zc1 #[zam,(@PW.pt _ _ _ #[zdv,#[zA,#[zbF],#[SH],#[zV],(zI _)],#[zdv,#[zA,#[zhr],#[zn,#[zO],#[zn,#[zcs],#[VN],#[zh]],#[zh]],#[zh],(zI _)],#[zc7,#[zdG,#[zhq],#[zcO],#[zh],#[SH],#[Vj],(by with_unfolding_all rfl)]]]]),#[zj,#[zq,9,zaH.nd,#[A],#[zad,#[za,#[zV],#[za,#[SH],#[ya,#[zF,nQ,#[ss],T.K7,nv.kp,nF,#[zY],#[za,#[RP],#[za,#[UZ],#[ya,#[zB,#[zW],#[RP],#[SH]]]]]]]]]]]],#[zQ]]),#[ze,#[zbh,#[zF,yh,#[ss],T.Pk,uI.kp,rz,#[zY],#[za,#[IN],by exact #[za,#[pvx,6],#[za,#[zn,#[zbj],#[zr,#[zy],T.LC,bI,#[Ut]],#[zh]],#[ya,#[pvx,9]]]]]],#[zbo,#[zt,#[zm,6,zaH.nd,#[A]],#[zt,#[zm,10,zaH.nd,#[A]],#[zt,#[zm,11,zaH.nd,#[A]],#[zaf]]]]]],#[ze,(zc1 #[zam,#[zA,#[zhp],#[zF,AA,#[ss],T.PY,vG.kp,sZ,#[zY],#[za,#[Uf],#[ya,#[pvx,9]]]],#[pvx,11],(zI _)],#[UL],#[zQ]]),#[ze,#[zq,12,zaH.nd,#[A],#[zB,#[zU],#[pvx,6],#[WS]]],#[ze,#[zaN,#[zcQ,bw,cE,cF,#[zbq],#[zdH,#[Uf],T.cl,T.Qj,CS,#[ss],xF,#[zY]],#[Sd]]],#[ze,#[zam,#[zA,#[ziS,hu],#[zdH,#[Uf],T.cl,T.Qj,CS,#[ss],xF,#[zY]],#[pvx,12],(zI _)],#[UL],#[zQ]],#[ze,(zc1 #[zq,13,zaH.nd,#[A],#[zdH,#[Uf],T.cl,T.NK,sP,#[ss],pI,#[zY]]]),#[ze,(zc1 #[zq,11,zaH.nd,#[A],#[zF,wN,#[ss],T.OP,tf.kp,qk,#[zY],#[za,#[IN],#[za,#[pvx,12],#[UB]]]]]),#[ze,(zc1 #[zam,(@PW.pt _ _ _ #[zoD,#[zA,(zpS hu),#[pvx,13],#[pvx,11],(zI _)],#[zlS,#[zA,#[zhp],#[zr,#[zb3],T.Kq,bM,#[za,#[pvx,13],#[ya,#[zdF,(.ty "list"),T.Pn,jk]]]],#[zr,#[zb3],T.Kq,bM,#[za,#[pvx,11],#[ya,#[zdF,(.ty "list"),T.Pn,jk]]]],(zI _)]]]),#[UL],#[zQ]]),#[ze,#[zbi,bN,#[zaK,T.K1,#[ya,#[zr,#[zy],T.LC,bI,#[ya,#[pvx,12]]]]],#[zm,14,zaH.nd,#[A]],#[zj,#[zam,#[zA,#[zhp],#[zc8,#[Uf],T.cl,T.Qq,Ee,#[ss],wO,#[zY],#[ya,#[pvx,14]]],#[zF,AB,#[ss],T.PU,vI.kp,tj,#[zY],#[za,#[IN],#[za,#[pvx,11],#[ya,#[pvx,14]]]]],(zI _)],#[UL],#[zQ]]]],#[zj,#[zam,#[zA,#[zct],#[pvx,13],#[zaD],(zI _)],#[zj,#[zaN,#[zcQ,bw,cE,cF,#[zbq],#[pvx,13],#[Sd]]]],#[zQ]]]]]]]]]]]]]]]],#[UL]]]]]]]]],?_⟩;refine zqg ?_; intro zN9 zN8 Hh DK BM vd rh qi;have qJ:=a8;refine (mP rfl (ex5 a ns 1 11 27720 ⟨rfl,hS,nj,#[D],#[D],#[D],#[D],#[D],#[D],fun pa pd H1 hpa s1 hpd h1p=>?_⟩));have p11:pd.length=11:=hpd.1;obtain⟨v10,J5⟩:=zb7 (ns:=pd) (k:=10) #[D] #[O];refine⟨fun σ' H'=>∃ (c tt:Addr) (p k:Int) (pl:List Int),σ' = [some #[RC],some #[WI],some #[Tv],none,none,none,none,none,none,none,none,none,none,none,none]/\zC H1 H'/\Qk 3 16 p k pl/\H' c=some (.tup [.int p,.int k,.ref tt])/\H' tt=some (.tup #[Sa]),?_,?_⟩
  ·refine (mP rfl (ex4 pa _ _ (.int v10) ⟨rfl,rfl,mS.of h1p,J5,(m8 rfl rfl ⟨(by show (0:Int) < 4; decide),#[pi]⟩)⟩));refine za6 (fun g=>?_) (fun g=>?_)
   ·refine (mP rfl (ex5 a ns 0 3 9 #[Tq]));exact (ex5 c tt p k pl ⟨rfl,s2,⟨ok.pr,ok.k1,ok.kk,ok.kl,by have:=ok.ln; lia,ok.nd,ok.rg⟩,Gp,Gq⟩)
   ·refine (mP rfl (ex5 a ns 0 2 16 #[Tq]));exact (ex5 c tt p k pl ⟨rfl,s2,⟨ok.pr,ok.k1,by have:=ok.kk; lia,ok.kl,ok.ln,ok.nd,ok.rg⟩,Gp,Gq⟩)
  rintro σ H2 ⟨c,tt,p,kI,pl,rfl,s2,ok,Gp,Gq⟩;have mp:=ok.pr;have rp:=z6 mp;have FH:=ok.k1;have BI:=ok.kk;have hkl:=ok.kl;have Hy:pl.length<=16:=by have:=ok.ln; lia
  obtain⟨k,rfl⟩:∃ k:Nat,kI=k:=⟨kI.toNat,#[O]⟩;have l1:1<=pl.length:=by lia
  have J6:=s2 _ _ h1p;obtain⟨v0,Gm⟩:=zb7 (ns:=pd) (k:=0) #[D] #[O];refine (mP rfl (ex4 pa _ _ (.int v0) ⟨rfl,rfl,mS.of J6,Gm,(m8 rfl rfl ⟨(by show (0:Int) < 5; decide),?_⟩)⟩));have m0:=aR v0 (show (5:Int)≠0 by decide);have m1:=aL v0 (show (0:Int) < 5 by decide);obtain⟨sl,esl⟩:∃ sl:Nat,v0 % 5=(sl:Int):=⟨(v0 % 5).toNat,#[O]⟩;show zaR 3 (V.int (v0 % 5)) _ H2 _;rw [esl] at m0 m1 |-;have G8:sl<=4:=by lia
  refine (mP rfl (mP rfl ⟨pa,(mP rfl ⟨mS.of J6,fun zz Ht=>?_⟩)⟩));have ec:zcy (pd.map V.int) (some 1) none=#[X1].map V.int:=by
   have:=zil (xs:=pd.map V.int) (k:=1) (by rw [ae]; lia);rw [iz];exact this
  rw [ec];have u3:=zd (o:=.lst (#[X1].map V.int)) Ht;have h3z:mR H2 zz (.lst (#[X1].map V.int)) zz=some (.lst (#[X1].map V.int)):=zb;generalize mR H2 zz (.lst (#[X1].map V.int))=H3 at u3 h3z |-;have J7:=u3 _ _ Gp;have h3t:=u3 _ _ Gq;refine (mP rfl (ex4 c _ _ _ ⟨rfl,rfl,m7.of J7,rfl,(mP rfl (ex4 c _ _ _ ⟨rfl,rfl,m7.of J7,rfl,zz,_,p,(k:Int),rfl,mS.of h3z,by rw [bP]; lia,#[O],fun o nr H4 ho s4 hpoly h4o DT=>?_⟩))⟩));have DT:=DT k rfl (by rw [bP]; lia);have sA4:=u3.trans s4;have Hz:=s4 _ _ J7;have HA:=s4 _ _ h3t;have h4p:=sA4 _ _ J6;have JB:=sA4.seq (s2.seq (s1.seq hS));refine (mP rfl #[KK]);intro x dx nx ndx nex;have sX:zC H4 (mR (mR H4 dx (.own x)) x (.ins t.Kn dx [])):=fun b o e=>by
   (rw [zg (zl e nx),zg (zl e ndx)])
   exact e
  refine (ex8 x dx c tt sl p k pl ⟨rfl,zb,by rw [zg nex]; exact zb,⟨sX _ _ Hz,sX _ _ HA⟩,Hy,fun S H5 L5 kp hS5=>#[Vc]⟩);have g5:zC H4 (hid S H5):=fun b o e=>by
   have nb:b≠x:=zl e nx;refine zbv (kp b o (sX b o e) nb) fun hb=>?_
   rcases hS5 b hb with z | z
   ·exact nb z
   ·rw [sX b o e] at z; cases z
  have q5:=g5.trans (zdf S H5);have Hn:=q5 _ _ Hz;have h5t:=q5 _ _ HA;refine⟨by show 1<=sizeLine; lia,fun z hz=>(mP rfl (ex4 c _ _ _ ⟨rfl,rfl,m7.of ((zd hz) _ _ Hn),rfl,tt,(mP rfl ⟨.inr (m7.of ((zd hz) _ _ h5t)),z,_,[.non],rfl,rfl,zb,by rw [ae]; lia,by rw [ae]; lia,by rw [ae]; show 1*_<=sizeLine; lia,fun r0 xC=>⟨by show 1<=sizeLine; lia,fun sa uP=>?_⟩⟩)⟩))⟩;rw [ae,zka,bd] at uP |-;have u1:=zd (o:=.lst [.non]) hz;have u2:=zd (o:=.lst ((am pl.length (none:Option Int)).map ng)) xC;have u3':=zd (o:=.lst [V.ref r0]) uP;have sA:=u1.trans (u2.trans u3');have Hb:=u3' _ _ (zb (H:=mR H5 z (.lst [.non])) (a:=r0) (o:=.lst ((am pl.length (none:Option Int)).map ng)));have ye:mR (mR (mR H5 z (.lst [.non])) r0 (.lst ((am pl.length (none:Option Int)).map ng))) sa (.lst [V.ref r0]) sa=some (.lst [V.ref r0]):=zb;have f0:H5 r0=none:=u1.free xC;have f1:H5 sa=none:=#[U7].free uP;generalize mR (mR (mR H5 z (.lst [.non])) r0 (.lst ((am pl.length (none:Option Int)).map ng))) sa (.lst [V.ref r0])=H6 at sA Hb ye |-;have W6:Wl t.Kn (hid S H5) H6 x c p sl pl.length S sa [r0] [am pl.length none] 0 #[UP] [] []:=by
   refine⟨L5.same sA,⟨zbv ye (L5.fresh f1),rfl,fun i r w e1 e2=>?_⟩,⟨rfl,rfl,rfl,fun i r r' d e1 e2 e3=>by simp at e2,fun r hr=>?_⟩,rfl,zc2 sA⟩
   ·cases i with
    | zero =>
     have e1:r0=r:=by simpa using e1
     have e2:am pl.length none=w:=by simpa using e2
     subst e1 e2;exact zbv Hb (L5.fresh f0)
    | succ i=>simp at e1
   ·have:r=am pl.length none:=by simpa using hr
    rw [this,dR]
  have q6:=q5.trans sA;refine (mP rfl (m8 rfl rfl ⟨.inl #[Rg],a,ns,2,24,(mP rfl ⟨q6.seq JB,nj,#[D],#[D],#[D],#[D],#[D],#[D],fun dr dl H7 Bk s7 Bi h7d=>?_⟩)⟩));have h24:dl.length=24:=Bi.1;have W7:=W6.same s7;have q7:=q6.trans s7;obtain⟨v9,hv9⟩:=zb7 (ns:=pd) (k:=9) #[D] #[O];have n0:=aR v9 (show (19:Int)≠0 by decide);have n1:=aL v9 (show (0:Int) < 19 by decide);refine (mP rfl (mP rfl (ex4 pa _ _ (.int v9) ⟨rfl,rfl,mS.of (q7 _ _ h4p),hv9,(m8 rfl rfl ⟨(by show (0:Int) < 19; decide),(m8 rfl rfl (mP rfl ⟨dr,(mP rfl ⟨mS.of h7d,fun dz hdz=>?_⟩)⟩))⟩)⟩)));obtain⟨m,em⟩:∃ m:Nat,6+v9 % 19=(m:Int):=⟨(6+v9 % 19).toNat,#[O]⟩;have ec2:zcy (dl.map V.int) none (some (6+v9 % 19))=#[Ud].map V.int:=by
   rw [em];have:=zjj (xs:=dl.map V.int) (k:=m) (by rw [ae]; lia);rw [gj];exact this
  rw [ec2];have u8:=zd (o:=.lst (#[Ud].map V.int)) hdz;have W8:Wl t.Kn (hid S (mR H7 dz (.lst (#[Ud].map V.int)))) (mR H7 dz (.lst (#[Ud].map V.int))) x c p sl pl.length S sa [r0] [am pl.length none] 0 #[UP] [] []:=by
   have W:=W7.same u8;exact⟨W.L,W.st,W.J,W.z,fun _ _ e=>e⟩
  have zG:hid S (mR H7 dz (.lst (#[Ud].map V.int))) dz=some (.lst (#[Ud].map V.int)):=zbv zb (W7.L.fresh hdz);have q8:=q7.trans u8;have cG:za5 (hid S (mR H7 dz (.lst (#[Ud].map V.int)))) c tt p k pl:=⟨zbv (q8 _ _ Hz) (W8.L.tup (q8 _ _ Hz)),zbv (q8 _ _ HA) (W8.L.tup (q8 _ _ HA))⟩;have oG:hid S (mR H7 dz (.lst (#[Ud].map V.int))) o=some #[V1]:=zbv (q8 _ _ h4o) (W8.L.tup (q8 _ _ h4o));generalize hid S (mR H7 dz (.lst (#[Ud].map V.int)))=G1 at W8 zG cG oG;refine⟨dz,rfl,⟨_,mS.of zb⟩,zbe (K:=K) (a:=dz) (xs:=#[Ud].map V.int) (fun i σ H'=>∃ (S:List Addr) (sa:Addr) (rs:List Addr) (rows:List Rw) (at':Nat) (es:Rw) (ds us:List Dt) (e8 e9 wI CT Gr Gs yk:Option V),σ = [some #[RC],some #[WI],some #[Tv],some (.int (sl:Int)),some #[XV],some #[UC],some (.ref sa),some #[XE],e8,e9,wI,CT,Gr,Gs,yk]/\Wl t.Kn G1 H' x c p sl pl.length S sa rs rows at' es ds us/\at'+1=rows.length/\rows.length<=i+1/\(ds++us).length<=i/\∀ z,some z∈es->0<=z/\z < p)
   ⟨S,sa,[r0],_,0,_,[],[],none,none,none,none,none,none,none,rfl,W8,rfl,ah _,ah _,fun z hz=>?_⟩ (fun i σ H' _ hq=>by obtain⟨_,_,_,_,_,_,_,_,_,_,_,_,_,_,_,_,W,_⟩:=hq; exact (mS.of (#[V0] _ _ zG))) ?_ ?_⟩
  ·have:=List.eq_of_mem_replicate hz;cases this
  ·rintro zD zT i y σ H8 hy ⟨S,sa,rs,rows,at',es,ds,us,e8,e9,wI,CT,Gr,Gs,yk,rfl,W,Gu,tX,hdu,her⟩;obtain⟨dv,rfl,hdv⟩:=zaF hy;have i24:i < 24:=by
    have h9:=(aj.mp hdv).1;rw [aA] at h9;lia
   have c8:za5 H8 c tt p k pl:=cG.same #[V0];refine (mP rfl (mP rfl (ex6 dv p k c tt pl ⟨rfl,c8,l1,Hy,#[O],#[O],fun D0 d0 H10 hd0' As Gv=>?_⟩)));have c10:=c8.same As;refine⟨fun σ' H'=>∃ (d:Addr) (D:Dd),σ' = [some #[RC],some #[WI],some #[Tv],some (.int (sl:Int)),some #[XV],some #[UC],some (.ref sa),some #[XE],some (.int dv),some (.ref d),wI,CT,Gr,Gs,yk]/\zC H10 H'/\H' d=some #[Vf]/\Plain D,?_,?_⟩
   ·obtain⟨x0,rest,he⟩:∃ x0 rest,encD D0 = .str x0 :: rest:=by cases D0 <;> exact⟨_,_,rfl⟩
    refine (mP rfl (ex4 d0 _ _ (.str x0) ⟨rfl,rfl,m7.of Gv,by rw [he]; show atI (V.str x0 :: rest) ((0:Nat):Int)=_; exact zag rfl,by show 2<=sizeLine; lia,fun t2 xU=>?_⟩));have v1:=zd (o:=.tup [.str "back",.str "again"]) xU;refine#[At];refine za6 (fun g2=>?_) (fun g2=>⟨d0,D0,rfl,v1,v1 _ _ Gv,?_⟩)
    ·have B8:=c10.same v1;have l0:(0:Int) < (#[Sa].length:Int):=by rw [ae]; lia
     refine (mP rfl (m8 rfl rfl ⟨#[Rg],(mP rfl (ex4 c _ _ _ ⟨rfl,rfl,m7.of B8.1,rfl,tt,(mP rfl ⟨.inr (m7.of B8.2),(m8 rfl rfl ⟨l0,by show 3<=sizeLine; lia,fun l hl=>?_⟩)⟩)⟩))⟩));exact⟨l,.Mp (dv / 13 % (#[Sa].length:Int)) 0,rfl,v1.trans (zd hl),zb,.inl ⟨_,_,rfl⟩⟩
    ·cases D0 with
     | Mp n xx=>exact .inl ⟨_,_,rfl⟩
     | forget n=>exact .inr ⟨_,rfl⟩
     | back =>
      cases he;exact absurd zqB g2
     | again =>
      cases he;exact absurd zkz g2
   rintro σ' H11 ⟨d1,D1,rfl,J8,uX,hP1⟩;have B8:=c10.same J8;have o11:=(As.trans J8) _ _ (#[V0] _ _ oG);refine⟨fun σ' H'=>∃ (d:Addr) (D:Dd),σ' = [some #[RC],some #[WI],some #[Tv],some (.int (sl:Int)),some #[XV],some #[UC],some (.ref sa),some #[XE],some (.int dv),some (.ref d),wI,CT,Gr,Gs,yk]/\zC H11 H'/\H' d=some #[Vf]/\Plain D,?_,?_⟩
   ·rcases hP1 with ⟨n,xx,rfl⟩ | ⟨n,rfl⟩
    ·refine (mP rfl (ex4 d1 _ _ (.str "hear") ⟨rfl,rfl,m7.of uX,rfl,rfl,#[KK]⟩));refine zeE ?_;refine (mP rfl (m8 rfl rfl ⟨#[Rg],(m8 rfl rfl ⟨(by show (0:Int) < 4; decide),#[pi]⟩)⟩));refine za6 (fun g1=>?_) (fun g1=>#[RY]);refine (mP rfl (ex4 d1 _ _ (.int n) ⟨rfl,rfl,m7.of uX,rfl,#[pi]⟩));refine za6 (fun g2=>?_) (fun g2=>(mP rfl (zaS #[RY])));refine (mP rfl (ex4 c _ _ _ ⟨rfl,rfl,m7.of B8.1,rfl,tt,(mP rfl ⟨.inr (m7.of B8.2),#[pi]⟩)⟩));refine za6 (fun g3=>?_) (fun g3=>#[RY]);have g2:(0:Int)<=n:=of_decide_eq_true g2;have g3:n < (#[Sa].length:Int):=of_decide_eq_true g3;rw [ae] at g3;obtain⟨nn,rfl⟩:∃ nn:Nat,n=(nn:Int):=⟨n.toNat,#[O]⟩;have yE:nn < pl.length:=by lia
     have hxv:atI #[Sa] (nn:Int)=some (.int pl[nn]):=zag (by rw [ao,aI yE]; rfl);have CQ:=ok.rg pl[nn] (eG yE);refine (mP rfl (ex4 d1 _ _ (.int (nn:Int)) ⟨rfl,rfl,m7.of uX,rfl,(mP rfl (ex4 c _ _ _ ⟨rfl,rfl,m7.of B8.1,rfl,(mP rfl (mP rfl (ex4 c _ _ _ ⟨rfl,rfl,m7.of B8.1,rfl,(mP rfl (ex4 d1 _ _ (.int (nn:Int)) ⟨rfl,rfl,m7.of uX,rfl,tt,_,_,.int pl[nn],rfl,rfl,m7.of B8.2,hxv,p,pl[nn],o,nr,rfl,.inr (m7.of o11),#[O],#[O],CQ.1,CQ.2,by show 3<=sizeLine; lia,fun l hl=>?_⟩))⟩)))⟩))⟩));exact⟨l,.Mp (nn:Int) (zw p pl[nn] nr),rfl,zd hl,zb,.inl ⟨_,_,rfl⟩⟩
    ·refine (mP rfl (ex4 d1 _ _ (.str "forget") ⟨rfl,rfl,m7.of uX,rfl,rfl,#[KK]⟩));exact zc5 (fun z=>t7 z.symm) ⟨d1,(mP rfl ⟨fun _ _ e=>e,uX,.inr ⟨_,rfl⟩⟩)⟩
   rintro σ' H12 ⟨d,D,rfl,s12,He,hP⟩;have Ef:=((W.same As).same J8).same s12;have c12:=B8.same s12;have Gw:My.St H12 sa rs rows:=Ef.st.same (zdf _ _);obtain⟨eln,J9,Ka⟩:=W.J.lt;have hlu:ds.length<=1000/\us.length<=1000:=by rw [aF] at hdu; lia
   have ela:((#[R9].length:Int) - 1)=(at':Int):=by rw [ae,W.st.len]; lia
   refine (mP rfl (mP rfl (mP rfl ⟨sa,(mP rfl ⟨.inl (mS.of Gw.at_),(m8 rfl rfl (mP rfl ⟨c,tt,sa,d,p,k,at',rs,rows,es,D,?_,c12.1,Gw,Ef.J.cur,He,#[O],#[O],fun l vg rY H13 hl Ao mW uA Kb=>?_⟩))⟩)⟩)))
   ·show [V.ref c,V.ref sa,V.int ((#[R9].length:Int) - 1),V.ref d]=_;rw [ela]
   refine⟨l,_,rfl,m7.of Kb,rfl,_,_,rfl,_,_,rfl,_,_,rfl,rfl,?_⟩;have stH:=Ef.Q7 Ao mW uA;have ET:=Ef.same Ao;have Kc:=Ao _ _ He;have CU:=zns (pp:=p) (r:=es) hP Gu;refine⟨fun σ' H'=>∃ (S':List Addr) (oh:List Rw) (at2:Nat) (es':Rw) (rd rf:List Dt) (wI CT:Option V),σ' = [some #[RC],some #[WI],some #[Tv],some (.int (sl:Int)),some #[XV],some #[UC],some (.ref vg),some #[XE],some (.int dv),some (.ref d),wI,CT,Gr,Gs,yk]/\Wl t.Kn G1 H' x c p sl pl.length S' vg rY oh at2 es' rd rf/\at2+1=oh.length/\oh.length<=i+1+1/\(rd++rf).length<=i+1/\∀ z,some z∈es'->0<=z/\z < p,?_,?_⟩
   ·refine (mP rfl (mP rfl (zqV S x c d p sl es ds us D ⟨rfl,ET.L,#[O],hlu.1,hlu.2,J9,Ka,Kc,?_⟩)));rcases zod (pp:=p) Ef.J D with ⟨w',e1,e2⟩ | ⟨es',rd,rf,oh,at2,e1,e2,J',sy,Bo⟩
    ·rw [e1];dsimp only;rw [e2] at stH;intro Ke yG;refine #[ww];refine znp (by rw [e2]; rfl) ?_;exact (ex8 S rows at' es ds us _ _ ⟨rfl,⟨ET.L.same yG,stH.same (zc2 yG),ET.J,ET.z,ET.g.trans (zc2 yG)⟩,Gu,#[O],#[O],her⟩)
    ·rw [e1];dsimp only;rw [e2] at stH CU;intro S' Ke L14 yG hS';have z':oh[0]? = some #[UP]:=by
      have:=Ef.z;rcases znq (pp:=p) (D:=D) Ef.J with h | h
      ·rw [e2] at h;rw [h];exact this
      ·rw [e2] at h;rw [h];exact this
     refine #[ww];refine znp (by rw [e2]; rfl) ?_;exact (ex8 S' oh at2 es' rd rf _ _ ⟨rfl,⟨L14,stH.same yG,J',z',ET.g.trans yG⟩,CU,#[O],#[O],zpT hP e1 her⟩)
   rintro σ' Ke ⟨S',oh,at2,es',rd,rf,wI,CT,rfl,Bm,Eg,B0,Gx,AD⟩;obtain⟨Bn,Gy⟩:∃ Bn,rY[at2]? = some Bn:=by
    have:=(aj.mp Bm.J.cur).1;exact⟨rY[at2]'(by rw [Bm.st.len]; exact this),#[M]⟩
   have Gz:=(zcG (Bm.st.row _ Bn es' Gy Bm.J.cur)).1;have Kf:=(zcG Bm.st.at_).1;obtain⟨HB,ea,da,ua,kk,ttt,drr,urr,eS,_,_,_,GA,_⟩:=Bm.L.ex;refine (mP rfl (mP rfl (ex4 vg _ _ (.ref Bn) ⟨rfl,rfl,mS.of Kf,zoC Gy (by rw [Bm.st.len]; exact Eg),?_⟩)));refine (mP rfl (ex3 x HB _ ⟨rfl,GA,zbE #[VM],S',x,c,p,sl,es',rd,rf,rfl,Bm.L,fun lr CB=>?_⟩));have Eh:es'.length=pl.length:=Bm.J.lt.1;refine⟨.inl ⟨rfl,_,mS.of zb⟩,lr,_,.int 7,rfl,rfl,zb,by rw [ae]; lia,?_⟩;rw [zeM];have v5:=zd (o:=.lst (es'.map ng++[.int 7])) CB;have Kg:=Bm.same v5;have Ei:=v5 _ _ GA;have wQ:=v5 _ _ Gz;generalize mR Ke lr (.lst (es'.map ng++[.int 7]))=H15 at v5 Kg Ei wQ |-;refine (mP rfl (ex3 x HB _ ⟨rfl,Ei,zbE #[VM],S',x,c,p,sl,es',rd,rf,rfl,Kg.L,fun lq hlq=>?_⟩));have v6:=zd (o:=.lst (es'.map ng)) hlq;refine (mP rfl (zlP (mS.of zb) (mS.of (v6 _ _ wQ)) #[X8]));have GB:=Kg.same v6;have Ej:=v6 _ _ Ei;have wR:=v6 _ _ wQ;generalize mR H15 lq (.lst (es'.map ng))=EU at v6 GB Ej wR |-;have Kh:za5 EU c tt p k pl:=cG.same (GB.g.trans (zdf _ _));have Z:∀ {H':Hp},zC EU H'->Lk t H' S' x c tt p k sl pl es' rd rf:=fun s'=>⟨GB.L.same s',Kh.same s',Eh,Hy,mp,ok.nd,ok.rg,AD,#[O],#[O]⟩
   have Gi:∀ {qs:List #[Id]},Cb p k sl pl es' qs->qs.length<=35:=fun {qs} hC=>ziu mp (ze0 ok.nd ok.rg AD) #[O] G8 hC.1 (hC.2.1.2.imp (fun {u v} h e=>by rw [e] at h; lia)) (fun q hq=>(hC.2.2 q).mp hq)
   refine⟨fun σ' H'=>∃ fv,σ' = [some #[RC],some #[WI],some #[Tv],some (.int (sl:Int)),some #[XV],some #[UC],some (.ref vg),some #[XE],some (.int dv),some (.ref d),wI,CT,some (.ref Bn),some fv,yk]/\zC EU H'/\(((nG pl es').length < k+sl/\fv = .non)\/∃ (l:Addr) (rs:List Addr) (qs:List #[Id]),fv = .ref l/\EU l=none/\H' l=some #[re]/\zaM H' rs qs/\Cb p k sl pl es' qs),?_,?_⟩
   ·refine (mP rfl (ex3 x HB _ ⟨rfl,Ej,zhk #[Os],S',x,c,tt,p,k,sl,pl,es',rd,rf,rfl,Z #[UW],fun t9 Ki Ek=>?_,fun EV rs1 qs Ki vc Ek GC B9 hC=>?_⟩))
    ·exact (mP rfl ⟨Ek,.inl ⟨t9,rfl⟩⟩)
    ·exact (mP rfl ⟨Ek,.inr (ex3 EV rs1 qs ⟨rfl,vc,GC,B9,hC⟩)⟩)
   rintro σ' Ki ⟨fv,rfl,Ek,hfv⟩;refine⟨fun σ' H'=>∃ dw,σ' = [some #[RC],some #[WI],some #[Tv],some (.int (sl:Int)),some #[XV],some #[UC],some (.ref vg),some #[XE],some (.int dv),some (.ref d),wI,some dw,some (.ref Bn),some fv,yk]/\zC Ki H'/\(((nG pl es').length < k+sl/\dw = .non)\/∃ (l:Addr) (rs:List Addr) (qs:List #[Id]),dw = .ref l/\H' l=some #[re]/\zaM H' rs qs/\Cb p k sl pl es' qs),?_,?_⟩
   ·refine (mP rfl (mP rfl (mP rfl (ex8 c tt Bn p k sl pl es' ⟨rfl,Kh.same Ek,Ek _ _ wR,Eh,Hy,mp,ok.nd,ok.rg,AD,#[O],#[O],fun t9 EW B'=>?_,fun l2 HC qs EW qX B' EX yl hC=>?_⟩))))
    ·exact (mP rfl ⟨B',.inl ⟨t9,rfl⟩⟩)
    ·exact (mP rfl ⟨B',.inr (ex3 l2 HC qs ⟨rfl,EX,yl,hC⟩)⟩)
   rintro σ' EW ⟨dw,rfl,B',hdw⟩;have Kj:=Ek.trans B';refine⟨fun σ' H'=>∃ (qs:List #[Id]),σ' = [some #[RC],some #[WI],some #[Tv],some (.int (sl:Int)),some #[XV],some #[UC],some (.ref vg),some #[XE],some (.int dv),some (.ref d),wI,some dw,some (.ref Bn),some fv,yk]/\H'=EW/\((dw = .non/\qs = [])\/∃ l rs,dw = .ref l/\EW l=some #[re]/\zaM EW rs qs)/\qs.length<=35/\(∀ q∈qs,IsP p k q)/\(((nG pl es').length < k+sl/\qs = [])\/Cb p k sl pl es' qs)/\(fv = .non\/∃ l xs,fv = .ref l/\EU l=none/\EW l=some #[Sr]/\xs.length < sizeLine),?_,?_⟩
   ·rcases hfv with ⟨Fu,rfl⟩ | ⟨EV,rs1,qs,rfl,vc,GC,B9,hC⟩
    ·rcases hdw with ⟨hf2,rfl⟩ | ⟨l2,HC,qs2,rfl,EX,yl,Kk⟩
     ·refine (mP rfl (mP rfl (.inl ⟨rfl,rfl,#[X8]⟩)));refine (mP rfl (ex4 _ _ _ _ ⟨rfl,.non,rfl,(mP rfl (ex4 _ _ _ _ ⟨rfl,.non,rfl,rfl,#[X7]⟩))⟩));exact⟨[],rfl,rfl,.inl ⟨rfl,rfl⟩,#[M],fun q hq=>(by cases hq),.inl ⟨Fu,rfl⟩,.inl rfl⟩
     ·exact absurd Kk.1 #[O]
    ·rcases hdw with ⟨hf2,rfl⟩ | ⟨l2,HC,qs2,rfl,EX,yl,Kk⟩
     ·exact absurd hC.1 #[O]
     ·have:=Kk.one hC;subst this;have hn5:=Gi hC;have e1:=B9.length;have e2:=yl.length;refine (mP rfl (mP rfl (.inr (zlQ (mS.of (B' _ _ GC)) (mS.of EX) (by rw [ae,ae]; lia) (zoA (B9.same B') yl) #[X8]))));refine (mP rfl (ex4 _ _ _ _ ⟨rfl,.lst (B' _ _ GC),rfl,(mP rfl (ex4 _ _ _ _ ⟨rfl,.lst EX,rfl,rfl,#[X7]⟩))⟩));exact (mP rfl ⟨rfl,.inr ⟨l2,HC,rfl,EX,yl⟩,hn5,hC.2.1.1,.inr hC,.inr ⟨EV,(mP rfl ⟨vc,B' _ _ GC,by rw [ae]; lia⟩)⟩⟩)
   rintro σ' Kl ⟨qs,rfl,rfl,hd8,hq35,hqP,hqC,Al⟩;have El:=Kj _ _ wR;refine (mP rfl ⟨Bn,(mP rfl ⟨.inl (mS.of El),?_⟩)⟩);rw [ae,Eh];refine (mP rfl ⟨#[O],#[O],zbT (lo:=0) (n:=((pl.length:Nat):Int).toNat) (fun j σ H'=>∃ yk:Option V,σ = [some #[RC],some #[WI],some #[Tv],some (.int (sl:Int)),some #[XV],some #[UC],some (.ref vg),some #[XE],some (.int dv),some (.ref d),wI,some dw,some (.ref Bn),some fv,yk]/\zC Kl H') ⟨yk,rfl,fun _ _ e=>e⟩ ?_ ?_⟩)
   ·rintro zD zT j σ H19 hj ⟨yk,rfl,EY⟩;rw [bd] at hj;have rj:pl[j]? = some pl[j]:=aI hj;have CQ:=ok.rg pl[j] (eG hj);have EZ:=Kj.trans EY;rw [fi];refine (mP rfl (ex3 x HB _ ⟨rfl,EZ _ _ Ej,zoB,(mP rfl (zqW S' x c tt p k sl j (pl[j]) pl es' rd rf ⟨rfl,Z EZ,rj,#[O],G8,fun t9 H20 Km=>?_,fun J4 H20 Km hC'=>?_⟩))⟩))
    all_goals
     have HD:=EY.trans Km;have s60:=EZ.trans Km;refine (mP rfl (mP rfl (mP rfl (ex9 c tt dw p (pl[j]) k j pl qs ⟨rfl,Kh.same s60,rj,#[O],#[O],CQ.1,CQ.2,#[O],hd8.imp id (fun ⟨l,rs,e1,e2,e3⟩=>⟨l,rs,e1,HD _ _ e2,e3.same HD⟩),hqP,fun H21 s21=>?_⟩))))
    ·rcases hqC with ⟨_,rfl⟩ | hC
     ·exact⟨rfl,(mP rfl (zfL (mP rfl (HD.trans s21))))⟩
     ·exact absurd hC.1 #[O]
    ·rcases hqC with ⟨hf,_⟩ | hC
     ·exact absurd hC'.1 #[O]
     ·rw [hC.one hC'];refine⟨?_,(mP rfl (zfL (mP rfl (HD.trans s21))))⟩;cases sur (qs.map (zw p pl[j])) <;> rfl
   ·rintro σ H19 ⟨yk,rfl,EY⟩;have EZ:=Kj.trans EY;rcases Al with rfl | ⟨EV,xs,rfl,vc,GD,hxs⟩
    ·refine (mP rfl ⟨rfl,#[X7]⟩);exact (zqi S' vg rY oh at2 es' rd rf _ _ _ _ _ _ _ ⟨rfl,GB.same EZ,Eg,B0,Gx,AD⟩)
    ·refine (mP rfl ⟨rfl,(mP rfl (zaI ?_))⟩);refine (mP rfl ⟨.inl ⟨rfl,_,mS.of (EY _ _ GD)⟩,EV,xs,.int 7,rfl,rfl,EY _ _ GD,hxs,?_⟩);have sF:zC EU (mR H19 EV (.lst (xs++[.int 7]))):=fun b u e=>by
      rw [zg (zl e vc)];exact EZ _ _ e
     exact (zqi S' vg rY oh at2 es' rd rf _ _ _ _ _ _ _ ⟨rfl,GB.same sF,Eg,B0,Gx,AD⟩)
  ·rintro σ H' _;exact q H'
end
structure Dn (K:af) (x:Str) (st:Stmt) (f:Addr) (fd:FuncData):Prop where
 a:bp K mainGlobals x=some #[UG]
 f:Fun K x x st f fd
theorem zax {x:Str} {st:Stmt} {f:Addr} {sl:Array #[TU]} {kV:Value} (a:bp K mainGlobals x=some #[UG]) (l:K.lookup f=some ⟨oc,od,.func #[Ub],sl⟩) (c:eC K cd x=true) (k:cY K #[SL]=true):Dn K x st f #[Ub]:=⟨a,ziO l c k⟩
structure Dm (K:af) (C:Addr) (x q:Str) (st:Stmt) (f:Addr) (fd:FuncData):Prop where
 a:aK K #[Rl] x=some #[UG]
 i:gE K #[SL]=true
 f:Fun K x q st f fd
theorem zdu {x q:Str} {st:Stmt} {f:Addr} {sl:Array #[TU]} {kV:Value} (a:aK K #[Rl] x=some #[UG]) (i:gE K #[SL]=true) (l:K.lookup f=some ⟨oc,od,.func #[Uc],sl⟩) (c:eC K cd q=true) (k:cY K #[SL]=true):Dm K C x q st f #[Uc]:=⟨a,i,ziO l c k⟩
theorem el0 {n:Nat} (e:us.length=n+1):∃ a v,us=a :: v/\v.length=n:=by
 cases us with
 | nil=>cases e
 | cons a v=>exact⟨a,v,rfl,Nat.succ.inj e⟩
theorem el1 (e:us.length=1):∃ a,us = [a]:=by
 obtain⟨a,v,rfl,h⟩:=el0 e;exact⟨a,by rw [List.eq_nil_of_length_eq_zero h]⟩
theorem el2 (e:us.length=2):∃ a b,us = [a,b]:=by
 obtain⟨a,v,rfl,h⟩:=el0 e;obtain⟨b,rfl⟩:=el1 h;exact⟨a,b,rfl⟩
theorem el3 (e:us.length=3):∃ a b c,us = [a,b,c]:=by
 obtain⟨a,v,rfl,h⟩:=el0 e;obtain⟨b,c,rfl⟩:=el2 h;exact⟨a,b,c,rfl⟩
theorem el4 (e:us.length=4):∃ a b c d,us = [a,b,c,d]:=by
 obtain⟨a,v,rfl,h⟩:=el0 e;obtain⟨b,c,d,rfl⟩:=el3 h;exact⟨a,b,c,d,rfl⟩
local macro_rules|`(#[E1])=>`(fun _ _ _ _ _ _ _ h=>by obtain⟨_,e⟩:=el1 h;subst e;exact rfl)
local macro_rules|`(#[E2])=>`(fun _ _ _ _ _ _ _ h=>by obtain⟨_,_,e⟩:=el2 h;subst e;exact rfl)
local macro_rules|`(#[E3])=>`(fun _ _ _ _ _ _ _ h=>by obtain⟨_,_,_,e⟩:=el3 h;subst e;exact rfl)
local macro_rules|`(#[E4])=>`(fun _ _ _ _ _ _ _ h=>by obtain⟨_,_,_,_,e⟩:=el4 h;subst e;exact rfl)
theorem zpV {l:jg} {fa fl nD oz nU nV mX mU m9 mV mQ oA oV mY:Addr} (X:K.In h) (G:h.Ns mainGlobals mg) (hfa:mg "law" = some (.ref fa))
  {sl:Array #[TU]} {kV:Value} (vJ:bp K mainGlobals "SlipError" = some (some (.ref nD))) (AE:bp K mainGlobals "TooFew" = some (some (.ref oz))) (ym:bp K mainGlobals "NoCurve" = some (some (.ref nU))) (yn:bp K mainGlobals "NoPaper" = some (some (.ref nV))) (yo:bp K mainGlobals "NoPlace" = some (some #[Sx])) (wU:bp K mainGlobals "NoNumber" = some (some #[Sz])) (Ca:bp K mainGlobals "Heard" = some (some #[SD])) (wV:bp K mainGlobals "NotHeard" = some (some #[Sy])) (ui:bp K mainGlobals "NothingLeft" = some (some #[SA])) (AF:bp K mainGlobals "NoText" = some (some (.ref oA))) (Cc:bp K mainGlobals "NoRow" = some (some (.ref oV))) (wW:bp K mainGlobals "Listener" = some (some #[XD])) (wX:∃ f fd,Dn K "is_whole" zcI f fd) (vK:∃ f fd,Dn K "is_number" zb9 f fd) (wY:∃ f fd,Dn K "value_at" zcJ f fd) (yp:∃ f fd,Dn K "inverse" zdg f fd) (uY:∃ f fd,Dn K "times_root" zbl f fd) (Em:∃ f fd,Dn K "bent" zfy f fd) (yq:∃ f fd,Dn K "through" zdh f fd) (tq:∃ f fd,Dn K "heard_points" zaT f fd) (En:∃ f fd,Dn K "fits" zfz f fd) (yr:∃ f fd,Dn K "choices" zbQ f fd) (uj:∃ f fd,Dn K "all_through" za7 f fd) (wZ:∃ f fd,Dn K "all_near" zbX f fd) (AG:∃ f fd,Dn K "_law_cell" zdX f fd) (yt:∃ f fd,Dn K "_law_draws" zdi f fd) (AH:∃ f fd,Dn K "_law_code" zc3 f fd) (yu:∃ f fd,Dn K "_law_value" zdj f fd) (vL:∃ f fd,Dn K "_law_through" zaU f fd) (AI:∃ f fd,Dn K "_law_fits" zco f fd) (vM:∃ f fd,Dn K "_law_choices" zbg f fd) (Cd:∃ f fd,Dn K "_law_all" zdY f fd) (AJ:∃ f fd,Dn K "_law_near" zbK f fd) (AK:∃ f fd,Dn K "_law_word" zdZ f fd) (AL:∃ f fd,Dn K "_law_deed" zd0 f fd) (AM:∃ f fd,Dn K "_law_done" zd1 f fd) (yw:∃ f fd,Dn K "_law_later" zdk f fd) (w4:∃ f fd,Dn K "_law_can_be" zbY f fd) (AN:∃ f fd,Dn K "_law_sure" zcp f fd) (tu:∃ f fd,Dn K "_law_polynomial" zaV f fd) (d_init:∃ f fd,Dm K mY "__init__" "Listener.__init__" zg4 f fd) (uk:∃ f fd,Dm K mY "check_place" "Listener.check_place" zbD f fd) (AO:∃ f fd,Dm K mY "change" "Listener.change" zd2 f fd) (Eo:∃ f fd,Dm K mY "hear" "Listener.hear" zg5 f fd) (AQ:∃ f fd,Dm K mY "forget" "Listener.forget" zd3 f fd) (Ep:∃ f fd,Dm K mY "back" "Listener.back" zg6 f fd) (Ce:∃ f fd,Dm K mY "again" "Listener.again" s_again f fd) (GF:∃ f fd,Dm K mY "row" "Listener.row" s_row f fd) (AR:∃ f fd,Dm K mY "can_be" "Listener.can_be" zd4 f fd) (Er:∃ f fd,Dm K mY "sure" "Listener.sure" zfA f fd) (KJ:cA K mX zei "ValueError.__new__" = true) (KA:cA K mU zei "ValueError.__new__" = true) (LD:cA K m9 zei "ValueError.__new__" = true) (Kz:cA K mV zei "ValueError.__new__" = true) (Kt:cA K mQ zei "ValueError.__new__" = true) (rA:ak K #[Sx] (.ref oz)=some false) (qO:ak K #[Sx] (.ref nU)=some false) (qP:ak K #[Sx] (.ref nV)=some false) (qR:ak K #[Sx] #[Sx]=some true) (qm:ak K #[Sx] #[Sz]=some false) (sd:ak K #[Sx] #[SD]=some false) (qo:ak K #[Sx] #[Sy]=some false) (o9:ak K #[Sx] #[SA]=some false) (rB:ak K #[Sx] (.ref oA)=some false) (se:ak K #[Sx] (.ref oV)=some false) (yx:ak K #[Sx] (.type "ValueError")=some true) (yy:bZ K #[Sx] (.ref nD)=some true) (w6:aK K #[Sx] "__getattribute__" = some (some (.builtin "BaseException.__getattribute__"))) (w8:aK K #[Sx] "__getattr__" = some none) (xa:aK K #[Sx] "__class__" = some (some (.builtin "object.__class__"))) (xb:bC K mX (.type "object")=some true) (xf:bC K mX (.type "BaseException")=some true) (xg:bZ K #[Sx] #[Sx]=some true) (qS:ak K #[Sz] (.ref oz)=some false) (qp:ak K #[Sz] (.ref nU)=some false) (qr:ak K #[Sz] (.ref nV)=some false) (qt:ak K #[Sz] #[Sx]=some false) (pW:ak K #[Sz] #[Sz]=some true) (rC:ak K #[Sz] #[SD]=some false) (pX:ak K #[Sz] #[Sy]=some false) (oW:ak K #[Sz] #[SA]=some false) (qT:ak K #[Sz] (.ref oA)=some false) (rD:ak K #[Sz] (.ref oV)=some false) (xh:ak K #[Sz] (.type "ValueError")=some true) (xi:bZ K #[Sz] (.ref nD)=some true) (vN:aK K #[Sz] "__getattribute__" = some (some (.builtin "BaseException.__getattribute__"))) (vO:aK K #[Sz] "__getattr__" = some none) (vP:aK K #[Sz] "__class__" = some (some (.builtin "object.__class__"))) (vQ:bC K mU (.type "object")=some true) (vR:bC K mU (.type "BaseException")=some true) (vS:bZ K #[Sz] #[Sz]=some true) (tw:ak K #[SD] (.ref oz)=some false) (sh:ak K #[SD] (.ref nU)=some false) (si:ak K #[SD] (.ref nV)=some false) (sj:ak K #[SD] #[Sx]=some false) (rE:ak K #[SD] #[Sz]=some false) (um:ak K #[SD] #[SD]=some true) (rG:ak K #[SD] #[Sy]=some false) (pY:ak K #[SD] #[SA]=some false) (tx:ak K #[SD] (.ref oA)=some false) (uo:ak K #[SD] (.ref oV)=some false) (Cf:ak K #[SD] (.type "ValueError")=some true) (Ci:bZ K #[SD] (.ref nD)=some true) (AS:aK K #[SD] "__getattribute__" = some (some (.builtin "BaseException.__getattribute__"))) (AU:aK K #[SD] "__getattr__" = some none) (AV:aK K #[SD] "__class__" = some (some (.builtin "object.__class__"))) (AW:bC K m9 (.type "object")=some true) (AX:bC K m9 (.type "BaseException")=some true) (AY:bZ K #[SD] #[SD]=some true) (qU:ak K #[Sy] (.ref oz)=some false) (qu:ak K #[Sy] (.ref nU)=some false) (qv:ak K #[Sy] (.ref nV)=some false) (qw:ak K #[Sy] #[Sx]=some false) (pZ:ak K #[Sy] #[Sz]=some false) (rH:ak K #[Sy] #[SD]=some false) (p4:ak K #[Sy] #[Sy]=some true) (oX:ak K #[Sy] #[SA]=some false) (qV:ak K #[Sy] (.ref oA)=some false) (rJ:ak K #[Sy] (.ref oV)=some false) (xj:ak K #[Sy] (.type "ValueError")=some true) (xk:bZ K #[Sy] (.ref nD)=some true) (vT:aK K #[Sy] "__getattribute__" = some (some (.builtin "BaseException.__getattribute__"))) (vU:aK K #[Sy] "__getattr__" = some none) (vV:aK K #[Sy] "__class__" = some (some (.builtin "object.__class__"))) (vW:bC K mV (.type "object")=some true) (vX:bC K mV (.type "BaseException")=some true) (vY:bZ K #[Sy] #[Sy]=some true) (pK:ak K #[SA] (.ref oz)=some false) (pf:ak K #[SA] (.ref nU)=some false) (ph:ak K #[SA] (.ref nV)=some false) (pj:ak K #[SA] #[Sx]=some false) (oY:ak K #[SA] #[Sz]=some false) (p6:ak K #[SA] #[SD]=some false) (oZ:ak K #[SA] #[Sy]=some false) (oF:ak K #[SA] #[SA]=some true) (pL:ak K #[SA] (.ref oA)=some false) (p7:ak K #[SA] (.ref oV)=some false) (uq:ak K #[SA] (.type "ValueError")=some true) (uv:bZ K #[SA] (.ref nD)=some true) (tz:aK K #[SA] "__getattribute__" = some (some (.builtin "BaseException.__getattribute__"))) (tD:aK K #[SA] "__getattr__" = some none) (tE:aK K #[SA] "__class__" = some (some (.builtin "object.__class__"))) (tF:bC K mQ (.type "object")=some true) (tG:bC K mQ (.type "BaseException")=some true) (tH:bZ K #[SA] #[SA]=some true) (sb:bC K nD (.type "BaseException")=some true) (pg:fk K mY Str.empty=true) (hd:fX K mY=true) (po:iD K mY=true) (sa:aK K #[XD] "__setattr__" = some (some (.builtin "object.__setattr__"))) (mk:je K mY=true) (kc:cY K #[XD]=true) (Es:aK K #[XD] "code" = some none) (Cj:aK K #[XD] "slips" = some none) (yz:aK K #[XD] "entries" = some none) (Ck:aK K #[XD] "deeds" = some none) (AZ:aK K #[XD] "undone" = some none)
  (al:bp K mainGlobals "law" = some (some (.ref fl))) (ll:K.lookup fl=some ⟨oc,od,.func (cB "law" "law" (zbA zdr) (zaX zdr) (zi zdr) .none kV dc pm an cd ct),sl⟩) (cl:eC K cd "law" = true) (kl:cY K (.ref fl)=true) (GG:bp K mainGlobals "len" = some none) (Cm:bp K mainGlobals "range" = some none) (Et:bp K mainGlobals "list" = some none) (Cn:bp K mainGlobals "tuple" = some none) (GH:bp K mainGlobals "min" = some none) (GI:bp K mainGlobals "max" = some none) (uZ:bp K mainGlobals "isinstance" = some none) (GJ:bp K mainGlobals "int" = some none) (Eu:bp K mainGlobals "bool" = some none) (GL:bp K mainGlobals "zip" = some none) (vZ:bp K mainGlobals "enumerate" = some none) (xl:bp K mainGlobals "reversed" = some none) (Ba:bp K mainGlobals "sorted" = some none) (u9:bp K mainGlobals "ValueError" = some none) :
  ∃ fd:FuncData,(∀ (s:Shared) (v:Value),BindsTo s fd ⟨[v],[]⟩ [("script",v)])/\∀ base:Heap,K.In base->base.Ns mainGlobals mg->Kx l.prog w K mg base CX0 10 fa fd ["script"] (zgQ K):=by
 cases hfa.symm.trans (aM X G al);obtain⟨Pq,B6,va⟩:=d_init;have wL:=va.f.binds (ps:=["self","code","slips"]) #[E3]
 obtain⟨Kv,oo,nP⟩:=uk;have nB:=nP.f.binds (ps:=["self","number"]) #[E2]
 obtain⟨Mq,uE,pM⟩:=AO;have pF:=pM.f.binds (ps:=["self","number","entry"]) #[E3]
 obtain⟨Pr,B2,tI⟩:=Eo;have wJ:=tI.f.binds (ps:=["self","number","entry"]) #[E3]
 obtain⟨NA,yc,pN⟩:=AQ;have sR:=pN.f.binds (ps:=["self","number"]) #[E2]
 obtain⟨Pw,B3,tJ⟩:=Ep;have wK:=tJ.f.binds (ps:=["self"]) #[E1]
 obtain⟨NY,Ax,qW⟩:=Ce;have uW:=qW.f.binds (ps:=["self"]) #[E1]
 obtain⟨Qv,Ec,v3⟩:=GF;have xF:=v3.f.binds (ps:=["self"]) #[E1]
 obtain⟨Mr,uH,pO⟩:=AR;have pI:=pO.f.binds (ps:=["self"]) #[E1]
 obtain⟨Pp,B7,tK⟩:=Er;have wO:=tK.f.binds (ps:=["self","number"]) #[E2]
 obtain⟨L7,vx,qz⟩:=wX;have qh:=qz.f.binds (ps:=["thing"]) #[E1]
 obtain⟨KY,qL,pP⟩:=vK;have nZ:=pP.f.binds (ps:=["p","thing"]) #[E2]
 obtain⟨KO,pD,qA⟩:=wY;have nJ:=qA.f.binds (ps:=["p","polynomial","x"]) #[E3]
 obtain⟨MN,wy,rK⟩:=yp;have rm:=rK.f.binds (ps:=["p","number"]) #[E2]
 obtain⟨Ld,ug,o1⟩:=uY;have oT:=o1.f.binds (ps:=["p","polynomial","root"]) #[E3]
 obtain⟨Pu,BO,xm⟩:=Em;have wz:=xm.f.binds (ps:=["p","polynomial","vanishing","point"]) #[E4]
 obtain⟨ML,wD,rL⟩:=yq;have rq:=rL.f.binds (ps:=["p","points"]) #[E2]
 obtain⟨Ky,o6,oB⟩:=tq;have nL:=oB.f.binds (ps:=["code","row"]) #[E2]
 obtain⟨Pt,BW,xn⟩:=En;have wF:=xn.f.binds (ps:=["code","row","polynomial"]) #[E3]
 obtain⟨MO,wC,rM⟩:=yr;have rn:=rM.f.binds (ps:=["things","many"]) #[E2]
 obtain⟨KZ,sL,oJ⟩:=uj;have oI:=oJ.f.binds (ps:=["code","points"]) #[E2]
 obtain⟨L8,vz,qB⟩:=wZ;have qj:=qB.f.binds (ps:=["code","row","t"]) #[E3]
 obtain⟨Nz,xV,tL⟩:=AG;have sG:=tL.f.binds (ps:=["script","k"]) #[E2]
 obtain⟨LS,sH,rN⟩:=yt;have om:=rN.f.binds (ps:=["script","k","many","base"]) #[E4]
 obtain⟨Ny,yf,tN⟩:=AH;have qN:=tN.f.binds (ps:=["script","at","most_k","most_n"]) #[E4]
 obtain⟨KP,oU,rO⟩:=yu;have nF:=rO.f.binds (ps:=["p","polynomial","x"]) #[E3]
 obtain⟨LA,uV,pQ⟩:=vL;have pH:=pQ.f.binds (ps:=["p","points"]) #[E2]
 obtain⟨Nu,xZ,tO⟩:=AI;have sN:=tO.f.binds (ps:=["code","row","polynomial"]) #[E3]
 obtain⟨KU,qM,pR⟩:=vM;have og:=pR.f.binds (ps:=["some","many"]) #[E2]
 obtain⟨NX,Aq,vb⟩:=Cd;have uU:=vb.f.binds (ps:=["p","k"]) #[E2]
 obtain⟨Nt,yb,tP⟩:=AJ;have sQ:=tP.f.binds (ps:=["code","row","t"]) #[E3]
 obtain⟨Nq,yd,tQ⟩:=AK;have sT:=tQ.f.binds (ps:=["e"]) #[E1]
 obtain⟨Nx,yg,tR⟩:=AL;have sY:=tR.f.binds (ps:=["draw","code"]) #[E2]
 obtain⟨Nv,yi,tS⟩:=AM;have sZ:=tS.f.binds (ps:=["listener","deed"]) #[E2]
 obtain⟨MM,wM,rP⟩:=yw;have rz:=rP.f.binds (ps:=["code","states","at","deed"]) #[E4]
 obtain⟨L6,vH,qC⟩:=w4;have qk:=qC.f.binds (ps:=["code","row","slips"]) #[E3]
 obtain⟨Nr,yj,tT⟩:=AN;have tj:=tT.f.binds (ps:=["code","ones","number"]) #[E3]
 obtain⟨KI,rZ,oC⟩:=tu;have ou:=oC.f.binds (ps:=["draws","p","k"]) #[E3]
 let t:Adr:=⟨nD,oz,nU,nV,mX,mU,m9,mV,mQ,oA,oV,mY,Pq,Kv,Mq,Pr,NA,Pw,NY,Qv,Mr,Pp,L7,KY,KO,MN,Ld,Pu,ML,Ky,Pt,MO,KZ,L8,Nz,LS,Ny,KP,LA,Nu,KU,NX,Nt,Nq,Nx,Nv,MM,L6,Nr,KI,fa⟩
 have T:Txt K mg t:=⟨bH X G GG,bH X G Cm,bH X G Et,bH X G Cn,bH X G GH,bH X G GI,bH X G uZ,bH X G GJ,bH X G Eu,bH X G GL,bH X G vZ,bH X G xl,bH X G Ba,bH X G u9,aM X G vJ,aM X G AE,aM X G ym,aM X G yn,aM X G yo,aM X G wU,aM X G Ca,aM X G wV,aM X G ui,aM X G AF,aM X G Cc,KJ,KA,LD,Kz,Kt,⟨rA,qO,qP,qR,qm,sd,qo,o9,rB,se,yx,⟨w6,w8,xa,xb,xf,xg⟩,yy⟩,⟨qS,qp,qr,qt,pW,rC,pX,oW,qT,rD,xh,⟨vN,vO,vP,vQ,vR,vS⟩,xi⟩,⟨tw,sh,si,sj,rE,um,rG,pY,tx,uo,Cf,⟨AS,AU,AV,AW,AX,AY⟩,Ci⟩,⟨qU,qu,qv,qw,pZ,rH,p4,oX,qV,rJ,xj,⟨vT,vU,vV,vW,vX,vY⟩,xk⟩,⟨pK,pf,ph,pj,oY,p6,oZ,oF,pL,p7,uq,⟨tz,tD,tE,tF,tG,tH⟩,uv⟩,sb,⟨pg,hd,po,sa⟩,aM X G wW,⟨mk,va.a,va.i,kc⟩,Es,Cj,yz,Ck,AZ,⟨nP.a,nP.i,nP.f.kp⟩,⟨pM.a,pM.i,pM.f.kp⟩,⟨tI.a,tI.i,tI.f.kp⟩,⟨pN.a,pN.i,pN.f.kp⟩,⟨tJ.a,tJ.i,tJ.f.kp⟩,⟨qW.a,qW.i,qW.f.kp⟩,⟨v3.a,v3.i,v3.f.kp⟩,⟨pO.a,pO.i,pO.f.kp⟩,⟨tK.a,tK.i,tK.f.kp⟩,⟨_,va.f,wL⟩,⟨_,nP.f,nB⟩,⟨_,pM.f,pF⟩,⟨_,tI.f,wJ⟩,⟨_,pN.f,sR⟩,⟨_,tJ.f,wK⟩,⟨_,qW.f,uW⟩,⟨_,v3.f,xF⟩,⟨_,pO.f,pI⟩,⟨_,tK.f,wO⟩,aM X G qz.a,aM X G pP.a,aM X G qA.a,aM X G rK.a,aM X G o1.a,aM X G xm.a,aM X G rL.a,aM X G oB.a,aM X G xn.a,aM X G rM.a,aM X G oJ.a,aM X G qB.a,aM X G tL.a,aM X G rN.a,aM X G tN.a,aM X G rO.a,aM X G pQ.a,aM X G tO.a,aM X G pR.a,aM X G vb.a,aM X G tP.a,aM X G tQ.a,aM X G tR.a,aM X G tS.a,aM X G rP.a,aM X G qC.a,aM X G tT.a,aM X G oC.a,⟨_,qz.f,qh⟩,⟨_,pP.f,nZ⟩,⟨_,qA.f,nJ⟩,⟨_,rK.f,rm⟩,⟨_,o1.f,oT⟩,⟨_,xm.f,wz⟩,⟨_,rL.f,rq⟩,⟨_,oB.f,nL⟩,⟨_,xn.f,wF⟩,⟨_,rM.f,rn⟩,⟨_,oJ.f,oI⟩,⟨_,qB.f,qj⟩,⟨_,tL.f,sG⟩,⟨_,rN.f,om⟩,⟨_,tN.f,qN⟩,⟨_,rO.f,nF⟩,⟨_,pQ.f,pH⟩,⟨_,tO.f,sN⟩,⟨_,pR.f,og⟩,⟨_,vb.f,uU⟩,⟨_,tP.f,sQ⟩,⟨_,tQ.f,sT⟩,⟨_,tR.f,sY⟩,⟨_,tS.f,sZ⟩,⟨_,rP.f,rz⟩,⟨_,qC.f,qk⟩,⟨_,tT.f,tj⟩,⟨_,oC.f,ou⟩⟩;have FL:=ziO (st:=zdr) ll cl kl;exact⟨cB "law" "law" (zbA zdr) (zaX zdr) (zi zdr) .none kV dc pm an cd ct,fun s v=>.of_eq rfl,fun base _ _=>zpU (t:=t) T FL⟩
theorem walk {l:jg} {q:Program} {loose:List Str} {XP:#[WX]->Heap->Prop} {YP:World->Heap->Prop} {d:DefRec} {K:Params->af} (hn:l.most=some 63) (Fb:d.params.defaults = []) (hY:∀ (w:World) (h:Heap),YP w h->#[S0].In h)
  (F:∀ (w:World) (mg:Str->Option Value) (fa:Addr) (h:Heap),#[S0].In h->h.Ns mainGlobals mg->mg d.name=some (.ref fa)->∃ fd:FuncData,(∀ (s:Shared) (u:Value),BindsTo s fd ⟨[u],[]⟩ [("script",u)])/\∀ base:Heap,#[S0].In base->base.Ns mainGlobals mg->Kx l.prog w #[S0] mg base CX0 10 fa fd ["script"] (zgQ #[S0])):mf q loose XP YP l.row.toRowW d [] #[WV] :=
 L2.znH (n:=63) (k:=10) (x:="script") (CX:=fun _=>CX0) (sp:=fun w=>zgQ #[S0]) hn #[D] Fb ⟨rfl,#[D],#[D]⟩ hY F (fun _ _ a ns hl _ hS=>⟨a,ns,rfl,hS,hl,fun _=>rfl⟩) fun _ _ _ _ _ z=>z
end My
namespace PySem.W.Fast
def tw5014522234614286453:=0
def tw13823099089712452904:=0
def tw17295771592081963664:=0
def tw410253784128422438:=0
def tw5363279111179782070:=0
def tw6455149396103910642:=0
def tw344639660238055008:=0
def tw5989446787670499071:=0
def tw5746142549364476316:=0
def tw15111346301235461448:=0
def tw4822230806830029876:=0
def tw13701175674797671705:=0
def tw10078812335438028173:=0
def tw15417244458324122789:=0
def tw8137899509935281191:=0
def tw11358677659235857653:=0
def tw17576881600687490845:=0
def tw2137535144710671463:=0
def tw8457251052124533267:=0
def tw6396475770596519838:=0
def tw416579004831012683:=0
def tw2307972168236825085:=0
def tw1947686146561770355:=0
def tw4181006764661977417:=0
def tw17182735687700809867:=0
def tw18411883360410350604:=0
def tw13760083369748784992:=0
def tw14115949553112461783:=0
def tw15475880989747311736:=0
def tw18008465934539338976:=0
def tw16430931309110721617:=0
def tw591239305029789881:=0
def tw6351780179629485735:=0
def tw18101353124979192461:=0
def tw14821718637525788078:=0
def tw2871818783250705686:=0
def tw17649674436915407720:=0
def tw17367216585924514311:=0
def tw14291375511386308558:=0
def tw13510550896255699616:=0
def tw17570193417306264626:=0
def tw6211783243197044233:=0
def tw12174739545148361177:=0
def tw997639486205866325:=0
def tw9647403635307992948:=0
def tw14274334891441778709:=0
def tw4536299146960848132:=0
def tw12525157639815493416:=0
def tw14775518617564832194:=0
def tw4647163974386597628:=0
def tw13127436596227527595:=0
def tw8415041518978517266:=0
def tw13361807707038407254:=0
def tw12596876399031445855:=0
def tw6537077261631697236:=0
def tw3423210046729342436:=0
def tw12080621684262985762:=0
def tw3551314777891424044:=0
def tw937541882669588809:=0
def tw6397343359541532787:=0
def tw13061453550354191529:=0
def tw8916812888783499616:=0
def tw9501690611339873736:=0
def tw7488951472496574296:=0
def tw7910251036437761174:=0
def tw6394951711697288992:=0
def tw3474387505989224737:=0
def tw8054793390132601463:=0
def tw13900658599671382446:=0
def tw822862643626772898:=0
def tw3352659742682888948:=0
def tw8157657372037133088:=0
def tw18325291187054427518:=0
def tw8124028905433276131:=0
def tw8801101900099966417:=0
def tw17883981708013291992:=0
def tw18196462599930751068:=0
def tw16264100685849724137:=0
def tw7009626475122777392:=0
def tw5089363950067840617:=0
def tw9747845702911189973:=0
def tw18063533620611581646:=0
def tw7888750595095774956:=0
def tw13517409464136936592:=0
def tw382737530498698507:=0
def tw17903910063401822837:=0
def tw16454040475783815577:=0
def tw11443906767657126035:=0
def tw13901047379846333760:=0
def tw18311881555962230194:=0
def tw475081305256421007:=0
def tw3209053569001497267:=0
def tw11390098576845098089:=0
def tw2558157178867710197:=0
def tw4017506364095237176:=0
def tw10336453028953601813:=0
def tw13554417326424667392:=0
def tw1982471206947876326:=0
def tw9126449982914422879:=0
def tw1848610161859374393:=0
def tw13472426795513914244:=0
def tw15207159305202515734:=0
def tw12752874059016145569:=0
def tw7664531061367249147:=0
def tw9678858138125770208:=0
def tw9070009098649410978:=0
def tw8508171062014091625:=0
def tw6300955520299008899:=0
def tw11255111066756759699:=0
def tw7872250097247449515:=0
def tw9664006606745006319:=0
def tw14609438997131863877:=0
def tw2441782884229075480:=0
def tw5698199595471366638:=0
def tw9209823260060783325:=0
def tw8522492878774285657:=0
def tw7969004021484121612:=0
def tw14270186348183980869:=0
def tw3028462232287064528:=0
def tw3218118089092812903:=0
def tw14843600932713846913:=0
def tw10601330294385056980:=0
def tw4334178281095539286:=0
def tw10598690442631840042:=0
def tw8821675995925280250:=0
def tw14904810473415503719:=0
def tw10401141744098797251:=0
def tw11027413811695949722:=0
def tw3979692504830226633:=0
def tw16140278483673441760:=0
def tw3984722497809607377:=0
def tw450324856468210085:=0
def tw180975372550694829:=0
def tw3096788274676196631:=0
def tw7757711198151043796:=0
def tw2394988821693280289:=0
def tw3152524123839295735:=0
def tw81141238637845364:=0
def tw11047948077371178867:=0
def tw11808257377873762708:=0
def tw12778343476420700285:=0
def tw13009582647931915949:=0
def tw8730115673973403912:=0
def tw4675223469529919189:=0
def tw6368944065087164160:=0
def tw16828491577419247592:=0
def tw7872254858588838172:=0
def tw6382003791101042537:=0
def tw1057706930718226585:=0
def tw4192018560132664360:=0
def tw15120429561612246911:=0
def tw2316204721567887693:=0
def tw9667527985643754145:=0
def tw7101164182868362807:=0
def tw10695049014077726632:=0
def tw11242296256743072000:=0
def tw7549952637451307557:=0
def tw9938286762650031183:=0
def tw2756776874448000177:=0
def tw6823894501415002615:=0
def tw1582272331039089216:=0
def tw10020589476597427770:=0
def tw16098323945837819417:=0
def tw3571888824816693841:=0
def tw10636032031223359725:=0
def tw17242002729199490553:=0
def tw17668802979729250006:=0
def tw771278546010787464:=0
def tw11087182649139214327:=0
def tw488867498980914977:=0
def tw16963536355815603113:=0
def tw524730693471999475:=0
def tw3468100376557043906:=0
def tw1362233993698340121:=0
def tw1281333888400264881:=0
def tw2598056585573600188:=0
def tw13684206206164821359:=0
def tw3399069774441108222:=0
def tw4649640882065876266:=0
def tw7509334239686044532:=0
end PySem.W.Fast
open PySem PySem.W
open PyProof.Rows
set_option maxHeartbeats 0 in
theorem PySem.Challenge.cw_slipcurve_k27_listeners_hear_holds : PySem.Challenge.rw_slipcurve_k27_listeners_hear.Holds := by
 w_on; o_law; k_head; (case hw=>w_witness2)
 k_fill
 refine My.walk (l:=PySem.Challenge.rw_slipcurve_k27_listeners_hear) rfl rfl (fun w h Y=>PySem.W.kIn_of Y) ?F
 case F =>
  intro w mg fa h KX G hmg;refine' My.zpV KX G hmg ?Ol ?Qc ?Pz ?Py ?Px ?O5 ?Qz ?O4 ?NC ?Qd ?Qy ?O6 ⟨_,_,My.zax ?da_is_whole ?dl_is_whole ?dc_is_whole ?dk_is_whole⟩ ⟨_,_,My.zax ?da_is_number ?dl_is_number ?dc_is_number ?dk_is_number⟩ ⟨_,_,My.zax ?da_value_at ?dl_value_at ?dc_value_at ?dk_value_at⟩ ⟨_,_,My.zax ?da_inverse ?dl_inverse ?dc_inverse ?dk_inverse⟩ ⟨_,_,My.zax ?da_times_root ?dl_times_root ?dc_times_root ?dk_times_root⟩ ⟨_,_,My.zax ?da_bent ?dl_bent ?dc_bent ?dk_bent⟩ ⟨_,_,My.zax ?da_through ?dl_through ?dc_through ?dk_through⟩ ⟨_,_,My.zax ?da_heard_points ?dl_heard_points ?dc_heard_points ?dk_heard_points⟩ ⟨_,_,My.zax ?da_fits ?dl_fits ?dc_fits ?dk_fits⟩ ⟨_,_,My.zax ?da_choices ?dl_choices ?dc_choices ?dk_choices⟩ ⟨_,_,My.zax ?da_all_through ?dl_all_through ?dc_all_through ?dk_all_through⟩ ⟨_,_,My.zax ?da_all_near ?dl_all_near ?dc_all_near ?dk_all_near⟩ ⟨_,_,My.zax ?da_l_cell ?dl_l_cell ?dc_l_cell ?dk_l_cell⟩ ⟨_,_,My.zax ?da_l_draws ?dl_l_draws ?dc_l_draws ?dk_l_draws⟩ ⟨_,_,My.zax ?da_l_code ?dl_l_code ?dc_l_code ?dk_l_code⟩ ⟨_,_,My.zax ?da_l_value ?dl_l_value ?dc_l_value ?dk_l_value⟩ ⟨_,_,My.zax ?da_l_through ?dl_l_through ?dc_l_through ?dk_l_through⟩ ⟨_,_,My.zax ?da_l_fits ?dl_l_fits ?dc_l_fits ?dk_l_fits⟩ ⟨_,_,My.zax ?da_l_choices ?dl_l_choices ?dc_l_choices ?dk_l_choices⟩ ⟨_,_,My.zax ?da_l_all ?dl_l_all ?dc_l_all ?dk_l_all⟩ ⟨_,_,My.zax ?da_l_near ?dl_l_near ?dc_l_near ?dk_l_near⟩ ⟨_,_,My.zax ?da_l_word ?dl_l_word ?dc_l_word ?dk_l_word⟩ ⟨_,_,My.zax ?da_l_deed ?dl_l_deed ?dc_l_deed ?dk_l_deed⟩ ⟨_,_,My.zax ?da_l_done ?dl_l_done ?dc_l_done ?dk_l_done⟩ ⟨_,_,My.zax ?da_l_later ?dl_l_later ?dc_l_later ?dk_l_later⟩ ⟨_,_,My.zax ?da_l_can_be ?dl_l_can_be ?dc_l_can_be ?dk_l_can_be⟩ ⟨_,_,My.zax ?da_l_sure ?dl_l_sure ?dc_l_sure ?dk_l_sure⟩ ⟨_,_,My.zax ?da_l_polynomial ?dl_l_polynomial ?dc_l_polynomial ?dk_l_polynomial⟩ ⟨_,_,My.zdu ?da_init ?di_init ?dl_init ?dc_init ?dk_init⟩ ⟨_,_,My.zdu ?da_check_place ?di_check_place ?dl_check_place ?dc_check_place ?dk_check_place⟩ ⟨_,_,My.zdu ?da_change ?di_change ?dl_change ?dc_change ?dk_change⟩ ⟨_,_,My.zdu ?da_hear ?di_hear ?dl_hear ?dc_hear ?dk_hear⟩ ⟨_,_,My.zdu ?da_forget ?di_forget ?dl_forget ?dc_forget ?dk_forget⟩ ⟨_,_,My.zdu ?da_back ?di_back ?dl_back ?dc_back ?dk_back⟩ ⟨_,_,My.zdu ?da_again ?di_again ?dl_again ?dc_again ?dk_again⟩ ⟨_,_,My.zdu ?da_row ?di_row ?dl_row ?dc_row ?dk_row⟩ ⟨_,_,My.zdu ?da_can_be ?di_can_be ?dl_can_be ?dc_can_be ?dk_can_be⟩ ⟨_,_,My.zdu ?da_sure ?di_sure ?dl_sure ?dc_sure ?dk_sure⟩ ?KJ ?KA ?LD ?Kz ?Kt ?Me ?L1 ?LZ ?LY ?LN ?MF ?LM ?Lc ?Mf ?ME ?Pc ?Pe ?OZ ?OY ?OX ?OW ?OV ?OU ?L3 ?LQ ?LP ?LO ?Ly ?Mh ?Lx ?K5 ?L4 ?Mg ?OM ?OO ?Oi ?Og ?Oe ?Oc ?Oa ?N0 ?MV ?MK ?MJ ?MG ?Mj ?Nn ?Mi ?Lz ?MW ?Nm ?Qo ?Qp ?Qb ?Qa ?P9 ?P8 ?P7 ?P6 ?LW ?LL ?LK ?LJ ?Lw ?Md ?Lv ?K4 ?LX ?Mc ?OL ?ON ?Oh ?Of ?Od ?Ob ?N1 ?NZ ?Lm ?Lb ?La ?K8 ?K3 ?Lu ?K2 ?KH ?Ln ?Lr ?M8 ?Nd ?M3 ?M2 ?M1 ?M0 ?MZ ?MY ?sb ?pg ?hd ?po ?sa ?mk ?kc ?n_code ?n_slips ?n_entries ?n_deeds ?n_undone ?al ?ll ?cl ?kl ?QV ?Qm ?QE ?Ql ?QT ?QU ?ND ?QW ?QF ?QS ?NQ ?OI ?PJ ?NF
  (case Ol=>k_is)
  (case Qc=>k_is)
  (case Pz=>k_is)
  (case Py=>k_is)
  (case Px=>k_is)
  (case O5=>k_is)
  (case Qz=>k_is)
  (case O4=>k_is)
  (case NC=>k_is)
  (case Qd=>k_is)
  (case Qy=>k_is)
  (case O6=>k_is)
  (case da_is_whole=>k_is)
  (case dl_is_whole=>k_is)
  (case dc_is_whole=>k_is)
  (case dk_is_whole=>k_is)
  (case da_is_number=>k_is)
  (case dl_is_number=>k_is)
  (case dc_is_number=>k_is)
  (case dk_is_number=>k_is)
  (case da_value_at=>k_is)
  (case dl_value_at=>k_is)
  (case dc_value_at=>k_is)
  (case dk_value_at=>k_is)
  (case da_inverse=>k_is)
  (case dl_inverse=>k_is)
  (case dc_inverse=>k_is)
  (case dk_inverse=>k_is)
  (case da_times_root=>k_is)
  (case dl_times_root=>k_is)
  (case dc_times_root=>k_is)
  (case dk_times_root=>k_is)
  (case da_bent=>k_is)
  (case dl_bent=>k_is)
  (case dc_bent=>k_is)
  (case dk_bent=>k_is)
  (case da_through=>k_is)
  (case dl_through=>k_is)
  (case dc_through=>k_is)
  (case dk_through=>k_is)
  (case da_heard_points=>k_is)
  (case dl_heard_points=>k_is)
  (case dc_heard_points=>k_is)
  (case dk_heard_points=>k_is)
  (case da_fits=>k_is)
  (case dl_fits=>k_is)
  (case dc_fits=>k_is)
  (case dk_fits=>k_is)
  (case da_choices=>k_is)
  (case dl_choices=>k_is)
  (case dc_choices=>k_is)
  (case dk_choices=>k_is)
  (case da_all_through=>k_is)
  (case dl_all_through=>k_is)
  (case dc_all_through=>k_is)
  (case dk_all_through=>k_is)
  (case da_all_near=>k_is)
  (case dl_all_near=>k_is)
  (case dc_all_near=>k_is)
  (case dk_all_near=>k_is)
  (case da_l_cell=>k_is)
  (case dl_l_cell=>k_is)
  (case dc_l_cell=>k_is)
  (case dk_l_cell=>k_is)
  (case da_l_draws=>k_is)
  (case dl_l_draws=>k_is)
  (case dc_l_draws=>k_is)
  (case dk_l_draws=>k_is)
  (case da_l_code=>k_is)
  (case dl_l_code=>k_is)
  (case dc_l_code=>k_is)
  (case dk_l_code=>k_is)
  (case da_l_value=>k_is)
  (case dl_l_value=>k_is)
  (case dc_l_value=>k_is)
  (case dk_l_value=>k_is)
  (case da_l_through=>k_is)
  (case dl_l_through=>k_is)
  (case dc_l_through=>k_is)
  (case dk_l_through=>k_is)
  (case da_l_fits=>k_is)
  (case dl_l_fits=>k_is)
  (case dc_l_fits=>k_is)
  (case dk_l_fits=>k_is)
  (case da_l_choices=>k_is)
  (case dl_l_choices=>k_is)
  (case dc_l_choices=>k_is)
  (case dk_l_choices=>k_is)
  (case da_l_all=>k_is)
  (case dl_l_all=>k_is)
  (case dc_l_all=>k_is)
  (case dk_l_all=>k_is)
  (case da_l_near=>k_is)
  (case dl_l_near=>k_is)
  (case dc_l_near=>k_is)
  (case dk_l_near=>k_is)
  (case da_l_word=>k_is)
  (case dl_l_word=>k_is)
  (case dc_l_word=>k_is)
  (case dk_l_word=>k_is)
  (case da_l_deed=>k_is)
  (case dl_l_deed=>k_is)
  (case dc_l_deed=>k_is)
  (case dk_l_deed=>k_is)
  (case da_l_done=>k_is)
  (case dl_l_done=>k_is)
  (case dc_l_done=>k_is)
  (case dk_l_done=>k_is)
  (case da_l_later=>k_is)
  (case dl_l_later=>k_is)
  (case dc_l_later=>k_is)
  (case dk_l_later=>k_is)
  (case da_l_can_be=>k_is)
  (case dl_l_can_be=>k_is)
  (case dc_l_can_be=>k_is)
  (case dk_l_can_be=>k_is)
  (case da_l_sure=>k_is)
  (case dl_l_sure=>k_is)
  (case dc_l_sure=>k_is)
  (case dk_l_sure=>k_is)
  (case da_l_polynomial=>k_is)
  (case dl_l_polynomial=>k_is)
  (case dc_l_polynomial=>k_is)
  (case dk_l_polynomial=>k_is)
  (case da_init=>k_is)
  (case di_init=>k_is)
  (case dl_init=>k_is)
  (case dc_init=>k_is)
  (case dk_init=>k_is)
  (case da_check_place=>k_is)
  (case di_check_place=>k_is)
  (case dl_check_place=>k_is)
  (case dc_check_place=>k_is)
  (case dk_check_place=>k_is)
  (case da_change=>k_is)
  (case di_change=>k_is)
  (case dl_change=>k_is)
  (case dc_change=>k_is)
  (case dk_change=>k_is)
  (case da_hear=>k_is)
  (case di_hear=>k_is)
  (case dl_hear=>k_is)
  (case dc_hear=>k_is)
  (case dk_hear=>k_is)
  (case da_forget=>k_is)
  (case di_forget=>k_is)
  (case dl_forget=>k_is)
  (case dc_forget=>k_is)
  (case dk_forget=>k_is)
  (case da_back=>k_is)
  (case di_back=>k_is)
  (case dl_back=>k_is)
  (case dc_back=>k_is)
  (case dk_back=>k_is)
  (case da_again=>k_is)
  (case di_again=>k_is)
  (case dl_again=>k_is)
  (case dc_again=>k_is)
  (case dk_again=>k_is)
  (case da_row=>k_is)
  (case di_row=>k_is)
  (case dl_row=>k_is)
  (case dc_row=>k_is)
  (case dk_row=>k_is)
  (case da_can_be=>k_is)
  (case di_can_be=>k_is)
  (case dl_can_be=>k_is)
  (case dc_can_be=>k_is)
  (case dk_can_be=>k_is)
  (case da_sure=>k_is)
  (case di_sure=>k_is)
  (case dl_sure=>k_is)
  (case dc_sure=>k_is)
  (case dk_sure=>k_is)
  (case KJ=>with_unfolding_all rfl)
  (case KA=>with_unfolding_all rfl)
  (case LD=>with_unfolding_all rfl)
  (case Kz=>with_unfolding_all rfl)
  (case Kt=>with_unfolding_all rfl)
  (case Me=>rfl)
  (case L1=>rfl)
  (case LZ=>rfl)
  (case LY=>rfl)
  (case LN=>rfl)
  (case MF=>rfl)
  (case LM=>rfl)
  (case Lc=>rfl)
  (case Mf=>rfl)
  (case ME=>rfl)
  (case Pc=>rfl)
  (case Pe=>rfl)
  (case OZ=>k_is)
  (case OY=>k_is)
  (case OX=>k_is)
  (case OW=>k_is)
  (case OV=>k_is)
  (case OU=>rfl)
  (case L3=>rfl)
  (case LQ=>rfl)
  (case LP=>rfl)
  (case LO=>rfl)
  (case Ly=>rfl)
  (case Mh=>rfl)
  (case Lx=>rfl)
  (case K5=>rfl)
  (case L4=>rfl)
  (case Mg=>rfl)
  (case OM=>rfl)
  (case OO=>rfl)
  (case Oi=>k_is)
  (case Og=>k_is)
  (case Oe=>k_is)
  (case Oc=>k_is)
  (case Oa=>k_is)
  (case N0=>rfl)
  (case MV=>rfl)
  (case MK=>rfl)
  (case MJ=>rfl)
  (case MG=>rfl)
  (case Mj=>rfl)
  (case Nn=>rfl)
  (case Mi=>rfl)
  (case Lz=>rfl)
  (case MW=>rfl)
  (case Nm=>rfl)
  (case Qo=>rfl)
  (case Qp=>rfl)
  (case Qb=>k_is)
  (case Qa=>k_is)
  (case P9=>k_is)
  (case P8=>k_is)
  (case P7=>k_is)
  (case P6=>rfl)
  (case LW=>rfl)
  (case LL=>rfl)
  (case LK=>rfl)
  (case LJ=>rfl)
  (case Lw=>rfl)
  (case Md=>rfl)
  (case Lv=>rfl)
  (case K4=>rfl)
  (case LX=>rfl)
  (case Mc=>rfl)
  (case OL=>rfl)
  (case ON=>rfl)
  (case Oh=>k_is)
  (case Of=>k_is)
  (case Od=>k_is)
  (case Ob=>k_is)
  (case N1=>k_is)
  (case NZ=>rfl)
  (case Lm=>rfl)
  (case Lb=>rfl)
  (case La=>rfl)
  (case K8=>rfl)
  (case K3=>rfl)
  (case Lu=>rfl)
  (case K2=>rfl)
  (case KH=>rfl)
  (case Ln=>rfl)
  (case Lr=>rfl)
  (case M8=>rfl)
  (case Nd=>rfl)
  (case M3=>k_is)
  (case M2=>k_is)
  (case M1=>k_is)
  (case M0=>k_is)
  (case MZ=>k_is)
  (case MY=>rfl)
  (case sb=>k_is)
  (case pg=>k_is)
  (case hd=>k_is)
  (case po=>k_is)
  (case sa=>k_is)
  (case mk=>k_is)
  (case kc=>k_is)
  (case n_code=>k_is)
  (case n_slips=>k_is)
  (case n_entries=>k_is)
  (case n_deeds=>k_is)
  (case n_undone=>k_is)
  (case al=>k_is)
  (case ll=>k_is)
  (case cl=>k_is)
  (case kl=>k_is)
  (case QV=>k_is)
  (case Qm=>k_is)
  (case QE=>k_is)
  (case Ql=>k_is)
  (case QT=>k_is)
  (case QU=>k_is)
  (case ND=>k_is)
  (case QW=>k_is)
  (case QF=>k_is)
  (case QS=>k_is)
  (case NQ=>k_is)
  (case OI=>k_is)
  (case PJ=>k_is)
  (case NF=>k_is)
#print axioms PySem.Challenge.cw_slipcurve_k27_listeners_hear_holds
end