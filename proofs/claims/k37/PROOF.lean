import PyProof.Rows.All
import Wide.All
import OpenK.AllK
import Wide.FinOn
import Lean
import PyProof.EqAt
import PyProof.EqKinds
import PyProof.AutoSeq1
import PyProof.SliceStr2
import PyProof.StrWalks
import PyProof.Rows.SetFrom
import KE.KSortKey
import KE.KLam
import KE.KDictOf
import PyProof.AttrMissHeap
import PyProof.Rows.MinMaxN
import PyProof.ListMulRoad
import KE.KUnpackStar
import KE.KIntText
import PyProof.CallStr
import KE.KDictSum
import KE.KSortTup
import PyProof.Walk
import PyProof.Rows.SortRuns
import PyProof.Rows.ChunkEnd
import PyProof.Rows.Range3
import PyProof.Rows.SeqGen
import PyProof.ConsumeWalk
import PyProof.ListRange
import PyProof.NeKinds
import PyProof.TupleCall
import PySem.Challenge.RW_slipcurve_k37_whole_guesses_as_rows
set_option maxHeartbeats 3999000
open List renaming length_map->ab,getElem?_eq_getElem->ag,getElem?_map->aj,map_append->am,length_append->ap,size_toArray->aq,mem_cons_of_mem->au,getElem?_eq_some_iff->av,mem_map->aw,mem_of_getElem?->aA,mem_cons->aB,mem_cons_self->aD,length_take->aG,take_of_length_le->aH,mem_append_right->aI,replicate->aJ,mem_append_left->aL,map_cons->aM,range->aN,mem_append->aP,map_map->aR,mem_singleton->aU,not_mem_nil->aY,getD_eq_getElem?_getD->aZ,filter_cons_of_pos->bb,filter_cons_of_neg->bd,mem_filter->bf,lookup_cons->bi,zipWith->br,append_assoc->bt,length_cons->bu,nodup_iff_pairwise_ne->bw,take_length->bC,length_range->bF,append_nil->bH,mem_range->bJ,getElem?_append_left->bL,sum_cons->bR,take_append_drop->bT,filter_append->bW,getElem?_eq_none->bX,map_congr_left->bY,pairwise_map->bZ,getElem?_take_of_lt->b7,length_filter_le->b9,take_sublist->ci,nodup_append->ck,length_drop->cn,getElem?_append_right->cr,replicate_succ->cw,length_replicate->cB,getElem?_cons_succ->cD,getElem_mem->cG,any_eq_true->cH,getElem_of_mem->cK,drop_eq_getElem_cons->cN,range_succ->cQ,pairwise_iff_getElem->cR,length_singleton->cT,mem_iff_getElem?->cV,pairwise_cons->cZ,take_zero->c7,nodup_cons->c8,find?_cons->c9,getElem?_range->db,extract_eq_take_drop->dw,flatten_cons->dI,map_take->dJ,mem_map_of_mem->dO,flatMap_append->dP,mem_flatMap->dU,drop_eq_nil_of_le->dX,zip_cons_cons->dZ,ext_getElem?->ee,getElem?_set_ne->eg,length->er,filterMap_cons->eE,forIn_cons->eI,getElem?_drop->eJ,filter_eq_nil_iff->eK,take_add_one->eL,drop_zero->eW,all_eq_true->fc,nodup_range->ff,getElem?_of_mem->fj,map_drop->fq,length_zipWith->fw,filter_sublist->fz,sum_append->fB,getElem?_zip_eq_some->fC,filter_nil->fE,map_nil->fG,getElem?_replicate->fU,getElem?_cons_zero->fV,flatMap_cons->f6,foldl_append->f7,getElem?_set_self->f9,take_nil->gc,nil_sublist->gh,drop_length->gi,concat_eq_append->gk,of_mem_zip->gq,mem_of_mem_drop->gw,mem_of_mem_take->gB,perm_cons_erase->gE,length_take_le->gM,take_succ_cons->gN,forIn_nil->gS,drop_drop->gV,map_id->g8,mem_filterMap->g9,any_cons->io,perm_ext_iff_of_nodup->ip,mem_of_find?_eq_some->iG,sublist_nil->iN,eq_of_mem_replicate->iO,length_eq_zero_iff->iX,length_set->i3,foldl_cons->i4,nil_append->i5,length_nil->i8,lookup->jd,range_succ_eq_map->je,drop_of_length_le->jj,getElem?_zipWith->jl,eq_nil_or_concat->jm,perm_cons->jr,pairwise_append->jD,length_pos_iff->jU,filter_eq_self->jV,forIn_toArray->j6,filterMap_map->j8,filter_filter->kb,drop_sublist->kq,getElem_take->kr,filter_congr->kx,getElem_inj->kK,zipIdx_cons->kQ,map_snd_zip->kT,map_flatMap->kU,prefix_refl->kX,perm_middle->kY,mem_flatten->kZ,foldl->lg,zipIdx_nil->lj,length_zip->lr,nodup_nil->lA,take_take->lB
open PySem renaming wpAny_bind->ae,wpAny_pure->ao,sizeLine_eq->aW,wpAny_callSpecial?_slot->bK,wpAny_field->bP,wpAny_call_entry->bS,wpAny_setField_rec->bV,wpAny_holding->cm,boot_len->cp,wpAny_mono->cE,wpAny_rule->cF,wpAny_newObj_type->cI,builtinLookup_eq_fast->cU,wpAny_attempt->dk,wpAny_seqItems->dv,wpAny_typeNameOfWhole_keyiter->dL,isSubtype_type->dQ,wpAny_of_eq->dW,wpAny_passesOwn->d6,typeLookup_type->d8,wpAny_setField->et,mem_of_lookup->eF,wpAny_Call_Name_kw->eG,codeAny_mono->eP,call_meets->eZ,wpAny_isInstance->fe,wpAny_standAt->fm,tupleKind_room_in1->fI,wpAny_pyIter_list->fW,wpAny_truthy_bool->fX,wpAny_pyIter_enum->fY,wpAny_pyIter_zip->ge,wpAny_loadName_local->gn,wpAny_execs_nil->gp,wpAny_specialOf->gt,wpAny_updateSeq_pair->gu,codeAny_builtin->gC,isSubtype_stop->gP,wpAny_newTuple->gT,seqIndex_of->gZ,wpAny_pyIter_tuple->h9,wpAny_letOwnedTupleGo_enum->ik,wpAny_onRaise->im,wpAny_pyIter_slot->iA,wpAny_dictEntries->iB,wpAny_comprehension_free->iK,codeAny_of_tree->i6,wpAny_loadPart'->i7,wpAny_dictEpoch->i9,wpAny_letGo->jf,wpAny_notOrdered_dict->jn,wpAny_isOneOf_keyiter->jp,weight_type_call_type->jv,wpAny_Name->jw,wpAny_call->jx,wpAny_pyIter_revIter->jB,wpAny_pyIter_keyiter->jE,codeAny_call_builtin->jH,wpAny_handled->jJ,wpAny_newList->jO,wpAny_loadName_cell->jP,wpAny_Constant_int->j0,seqIndex_neg->j1,callType_new->j5,call_meetsIn->j7,wpAny_typeOf->kd,list_append->km,wpAny_throw->kE,typeIs_int->lb,call->lh
open Nat renaming le_refl->af,le_trans->aV,ne_of_lt->a8,lt_of_lt_of_le->ba,zero_le->bg,lt_irrefl->cg,lt_succ_of_lt->cA,add_sub_cancel->cY,ne_of_gt->de,zero_add->dB,min_eq_left->dE,add_sub_cancel_left->dN,le_of_lt->dY,succ_le_succ->eA,le_div_iff_mul_le->eY,pow_le_pow_right->fh,add_zero->fJ,lt_of_le_of_lt->fK,lt_succ_self->gd,le_add_right->gg,mul_comm->gr,sub_self->gD,mul_le_mul_right->gF,sub_zero->gH,le_succ->g7,le_of_succ_le->iw,lt_succ_of_le->iD,succ_ne_self->iJ,mul_le_mul->jt,add_assoc->jL,add_le_add_left->jW,pow_le_pow_left->jX,pow_succ->j9,add_mul->kJ,le_of_not_lt->kN,div_le_self->lu
open PySem.W renaming Frag->ah,mg_of->aT,mg_none_of->bN,nsIn->bU,fnOf->dz,keepIn->fP,codeIn->fQ,methodObj->ir,OpenLaw->ja,cellsFrom_some->jc,kdu_collect->jT,KdlSrc->lC,WalkO->lH,mroIn->lI
open PySem.Heap renaming get?_push_of_some->ai,get?_push_size->aE,lt_size->aF,size_push->bj,SameBut->bv,get?_update_self->d7,get?_update_other->ga,ExtBut->kD
open Or renaming inl->ak,inr->cC
open PyProof.Rows renaming wpS_bind->az,wpS_pure->aC,callWith_type1->bE,wpS_forRange->cX,zipApart_new->dA,wpS_mono->dR,wpS_modify->fg,IntsAre->fk,codeAny_set_update_loopS->fF,wpS_get->fS,subscriptTail_builtinR->f',boot_tuple->gG,wpS_lift->gU,setObjOf_fresh->ie,pairsOf_size->iM,boot_max->iQ,SetOf_congr->iS,mirror_perm->ji,boot_sorted->jk,pairsOf_toList->jq,firstMet->ju,Subscript_->jy,getItem_tuple->jI,listUpdate_at->jN,getElem?_mirror_all->jS,boot_list->kf,seqEpoch_at->kH,boot_zip->kP,boot_range->k8
open Int renaming emod_lt_of_pos->aK,emod_nonneg->aO,toNat_natCast->bh,le_refl->bM,le_trans->bQ,emod_eq_of_lt->cJ,mul_le_mul_of_nonneg_right->cS,mul_le_mul_of_nonneg_left->dM,zero_add->eC,le_of_lt->eS,mul_comm->eX,mul_zero->fH,zero_mul->fL,natCast_add->gI,natCast_mul->gK,fdiv_eq_ediv_of_nonneg->ij,pow_succ->iL,natCast_ediv->iR,sub_zero->ka,natCast_nonneg->kg,lt_of_le_of_lt->kh,lt_trichotomy->ku,one_mul->kG,natCast_sub->lw
open Bool renaming false_ne_true->aQ,false_eq_true->bA,eq_iff_iff->cL,and_eq_true->fb,or_eq_true->li,and_false->ly
open Option.some renaming inj->aS,injEq->iC
open PySem.Value renaming ref->aX,none->dg,type->gm,int->i0,str->lF,isStrOf->lG
open Array renaming getElem?_toList->be,length_toList->bG,toList_append->bO,getElem?_eq_some_iff->dm,toList_extract->dD,perm_iff_toList_perm->fu,toList_reverse->gz,toArray_toList->jG,toList_map->kS,size_map->lD,toList->lJ
open PySem.Builtin.SmallTypes renaming nextOf->bn,ownedTupleIsFree->b8,ownedTupleHandOut->cW,newRecord->lx
open PySem.PassesOwn renaming never->bp
open PySem.Paired renaming length->bq,snoc->cb,mono->c6
open PySem.Str renaming ofString->bD
open Sum renaming inl->bI,inr->iH
open PySem.F renaming plainAttrs_list->cq,slot_zip_next->dC,slot_list_append->dG,type_list_append->dH,slot_dict_keyiterator_next->dS,slot_tuple_iterator_next->d9,slot_enumerate_next->eR,slot_list_insert->fO,args_zip_next_1->fZ,entry_zip_next->gf,slot_dict_get->gj,args_dict_keyiterator_next_1->gA,entry_dict_keyiterator_next->gL,args_tuple_iterator_next_1->gQ,entry_tuple_iterator_next->hJ,slot_dict_values->iP,type_list_insert->iT,args_enumerate_next_1->iU,args_dict_get_3->iV,plainAttrs_dict->iW,entry_enumerate_next->jg,entry_dict_get->jh,args_list_append_2->jA,args_object_init_2->jC,entry_list_append->jQ,slot_list_append->j2,entry_type_call->kB,slot_dict_iter->kR,typeCall_set_1->k6,entry_set_init->k7
open PySem.NameKind renaming free->cu,cell->dj
open ForInStep renaming yield->cM,done->fT
open PySem.Heap.SameBut renaming update->da
open Option renaming map_eq_some_iff->df,map_some->gv,isSome_iff_exists->iI,toList->jK,isSome_some->j4,getD_none->kL,getD_some->kO,none->lL
open PySem.Obj renaming mapSeq->dh,data_mapFields->du,isFreed_of_fields->eQ,mapFields->il,cls_mapFields->iz
open PySem.Around renaming in1_units->dn,under_plainId->jF,under_plain->kj
open Ne renaming symm->dq
open PySem.Calls renaming spliced_cons->dt,spliced_nil->ed,callWith_builtin->gb,Name_function_global->ig,evalArgs_plain->jz
open List.Pairwise renaming imp_of_mem->dF,sublist->eU,nil->iu,imp->kA
open False renaming elim->eh
open PySem.Builtin.List renaming listTooLong->eB,listFitsIndex->fo
open List.Perm renaming trans->fA
open List.Sublist renaming nodup->fM
open PySem.Draws renaming list->fR
open Sum.inl renaming inj->f8
open PySem.Builtin.Dict_items renaming ownsTuple->gW
open PySem.Builtin.Frozenset renaming updateFrom->gX
open PySem.SeqAt.EqAt renaming of_refs->hU,int_str->jY,str_int->jZ,same->k9
open PyProof.Rows.IntsAre renaming int_at->ic
open PySem.Shared renaming TypeIs->iq,heap->kF
open True renaming intro->iE
open Classical renaming byContradiction->iF,propDecidable->iZ,em->j3
open PySem.Builtin.Dict renaming updateFrom->iY,showsAll->jo
open PyProof renaming noPylong_small->jb
open List.cons renaming inj->jM
open PySem.SeqAt.RcNeAt renaming tuples->jR
open PySem.Code renaming quiet_builtin->ki
open PySem.Data renaming fields->kC
open PySem.IsL renaming update->kM
open Prod renaming snd->kW,ext->lK
open PyProof.Rows.SortSt renaming mk'->lq
open Eq renaming symm->lE
open PySem.W.KatTups renaming cons->lM
local macro_rules | `(tactic| trivial)=>`(tactic| first | exact .inl rfl | exact .inr rfl | assumption)
local macro_rules|`(#[$xs,*])=>do
 let a:=xs.getElems
 if h:a.size=0 then Lean.Macro.throwUnsupported else
 let s:=a[0].raw.getId.eraseMacroScopes.toString
 if s=="Y" then `((of_decide_eq_true rfl)) else if s=="O" then `(by lia) else if s=="D" then `(by decide) else if s=="N" then `(by decide +kernel) else if s=="S" then `(⟨rfl,rfl,rfl,by decide +kernel,rfl,by decide +kernel,by decide +kernel⟩) else if s=="A" then `(Or.inl rfl) else if s=="M" then `(by simp) else
 match [("_____eb","zd"),("________eee","zbo zj"),("________eeee","zH"),("_","zey zI zG zam zex zL zW zO zJ zi6 ze zcv zhh zci zct zaV zaP zM zbS zy zeB zcx zaA zga zox zhg zcw zd2"),("_e__f","pvx"),("_________ereeeddrr","zw zan"),("___er","ya"),("___e","zl zbt zbH"),("____e","zN zac z8 zf8 zaT zla"),("_______eeeu","zR"),("____","zg zfx"),("__e____efeert","zm"),("_____e","zaS"),("______b","zcO"),("_____eer","za zh"),("________________eefeeeneedrr","zo"),("________efeeei","zaF"),("______feer","zai"),("__e_efet","zf"),("____er","zbR"),("____________eeeeeerrrrr","zdX"),("_f","zfC zdR zdP zdU zdB zf5"),("_____________efeeeeei","zal"),("__f","za9"),("_ef","zbZ zbd"),("__________eeee","zbc"),("______eerrr","zbs"),("______ferr","zaE"),("_____________e___efeefeeeeerit","zaK"),("_______ee","zf9 zou"),("___","zdN"),("______eee","zhe"),("__e______efeeet","ziv"),("___fe","zt"),("_________feerr","zeg"),("_e___e_fferr","zat"),("_________eeeef","zgu"),("_________eeeee","zeO"),("_______feerr","zfA"),("________feer","zds"),("______ee","zow"),("__","zdO zhI"),("_____________________e___efeefeeddeeeeeeeriet","zeT"),("_e","zgk")].find? fun q=>(q.2.splitOn " ").contains s with
 |none=>Lean.Macro.throwUnsupported
 |some (p,_)=>do
  let mut r:=#[]
  let mut i:=1
  for c in p.toList do
   if c=='e' then
    r:=r.push (a[i]!)
    i:=i+1
   else if c=='b' then
    r:=r.push (<-`((by exact $(a[i]!))))
    i:=i+1
   else r:=r.push (<-match c with|'_'=>`(_)|'r'=>`((by rfl))|'d'=>`((by decide))|'f'=>`(rfl)|'t'=>`((by trivial))|'i'=>`((by intro _; rfl))|'u'=>`((fun _ _=>rfl))|'n'=>`(.nil)|'l'=>`(Or.inl rfl)|'o'=>`(Or.inr rfl)|_=>`(nomark _))
  return Lean.Syntax.mkApp (<-`(@$(⟨a[0].raw⟩):ident)) r
def qO:=["::","+","-","++","=","<=","->","<"]
def Tg:Nat->Nat->List String->Lean.MacroM (List (Lean.TSyntax `term)×List String)
|0,_,_=>Lean.Macro.throwUnsupported
|n+1,0,ts=>match ts with
 |"fun"::ts=>do
  let (bs,r):=ts.span (·≠"=>")
  let (b,r)<-Tg n 0 (r.drop 1)
  let mut e:=b.head!
  for x in bs.reverse do
   e<-if x=="_" then `(fun _=>$e) else let i:=Lean.mkIdent x.toName; `(fun $i=>$e)
  return ([e],r)
 |_=>do
  let (a,r)<-Tg n 1 ts
  let l:Lean.TSyntax `term:=if a.length=1 then a.head! else Lean.Syntax.mkApp a.head! a.tail.toArray
  match r with
  |o::q=>do
    if !qO.contains o then return ([l],r)
    let (e,q)<-Tg n 0 q
    let e:=e.head!
    let x<-match o with|"::"=>`($l :: $e)|"+"=>`($l+$e)|"-"=>`($l-$e)|"++"=>`($l++$e)|"="=>`($l=$e)|"<="=>`($l<=$e)|"->"=>`($l->$e)|_=>`($l<$e)
    return ([x],q)
  |_=>return ([l],r)
|n+1,1,ts=>match ts with
 |[]=>return ([],[])
 |t::ts=>if t==")"||t=="⟩"||t==","||t=="]"||qO.contains t then return ([],t::ts) else do
  let (a,r)<-if t=="(" && ts[1]?==some ":=" then do
    let (e,r)<-Tg n 0 (ts.drop 2)
    pure (⟨.node .none ``Lean.Parser.Term.namedArgument #[.atom .none "(",Lean.mkIdent ts.head!.toName,.atom .none ":=",e.head!,.atom .none ")"]⟩,r.drop 1)
   else if t=="(" then do
    let (e,r)<-Tg n 2 ts
    let f:=e.head!
    let e:=e.tail.toArray
    pure (<-if e.size=0 then `(($f)) else `(($f,$e,*)),r.drop 1)
   else if t=="⟨" then do
    let (e,r)<-Tg n 2 ts
    let e:=e.toArray
    pure (<-`(⟨$e,*⟩),r.drop 1)
   else if t=="#[" then do
    let (e,r)<-Tg n 2 ts
    let e:=e.toArray
    pure (<-`(#[$e,*]),r.drop 1)
   else if t=="_" then pure (<-`(_),ts)
   else if t=="?_" then pure (<-`(?_),ts)
   else if t.front.isDigit then pure (Lean.Syntax.mkNumLit t,ts)
   else if t.front=='.' then let i:=Lean.mkIdent (t.drop 1).toString.toName; pure (<-`(.$i:ident),ts)
   else if t.front=='@' then let i:=Lean.mkIdent (t.drop 1).toString.toName; pure (<-`(@$i),ts)
   else pure (⟨Lean.mkIdent t.toName⟩,ts)
  let (l,r)<-Tg n 1 r
  return (a::l,r)
|n+1,_,ts=>do
 let (e,r)<-Tg n 0 ts
 if r.head?==some "," then
  let (l,r)<-Tg n 2 (r.drop 1)
  return (e++l,r)
 return (e,r)
local macro_rules|`(#[$x:ident])=>do
 let s:=x.getId.eraseMacroScopes.toString++" "
 match ("mt ( fun mE A outer s H vs Q E hr h => ?_ )
np ( zQ X N' scope s₃ H₃ ex lN )
or ( fun _ _ _ _ => #[ zat , ( K ) , 2 , #[ zh , #[ zf , 0 , #[ Y ] , #[ A ] ] , #[ zh , #[ zf , 1 , #[ Y ] , #[ A ] ] , #[ zy ] ] ] ] )
o0 ( model X.prog X.w )
pc ( model prog w )
pi ( .ListComp elt ( ⟨ tg , iter , ifs , 0 ⟩ :: gs ) scope pos )
re ( fun vs H Q E h => ?_ )
sn ( hr.mono #[ D ] )
ss ( .ref s.heap.objs.size )
sK ⟨ rfl , I.turned ( t' := s.toks ) ( fun b o hb e => eb b o hb e ) f0 f1 f3 f4 f5 ⟩
ul ( fun _ _ _ _ => #[ zM ] )
ut ( arrOf st )
wf ( fun _ _ _ _ => #[ zf , 0 , #[ Y ] , #[ A ] ] )
wn ( a.toList ++ b.toList )
wp ( .ListComp elt gens scope pos )
wr ⟨ #[ O ] , #[ O ] ⟩
wv ( fun _ _ _ _ => #[ zat , ( K ) , 3 , #[ zh , #[ zf , 0 , #[ Y ] , #[ A ] ] , #[ zh , #[ zf , 1 , #[ Y ] , #[ A ] ] , #[ zh , #[ zf , 2 , #[ Y ] , #[ A ] ] , #[ zy ] ] ] ] ] )
ww ( Option Int )
wE #[ zaT , #[ zt , #[ zt , #[ zaA ] ] ] ]
wP ( fun _ => ?_ )
wS ( arrOf lS )
xz ( ns.map V.int )
xL ( .UnaryOp .USub ( .Subscript ( .Name x p1 ) ( .Constant ( .int 2 ) j p2 ) p3 ) p4 )
At ( .lst ( bs.map V.ref ) )
AC #[ pvx , 0 ]
AT #[ pvx , 1 ]
BT ( ts.map ( wpp pl ) )
Ch ( wb ( sa + k ) out.toList.zipIdx #[ ut ] )
Cl ( zaf I q #[ M ] )
Db #[ zj , #[ zO ] , #[ zR , #[ zG ] , #[ pvx , 8 ] , #[ zg ] ] , #[ zg ] ]
Do ( s.heap.objs.size + 1 )
Ev ( false , eval b X.env )
EQ ( s.heap.push ( zab led ) )
Fa #[ pvx , 2 ]
FB ⟨ #[ D ] , #[ D ] ⟩
FM ( ha pos lN s σ H _ I h )
FS ( envOfC qual scope s.heap.objs.size f cd )
Go ⟨ _ , rfl , .inr ⟨ _ , _ , _ , _ , _ , _ , rfl , pg , #[ O ] , #[ O ] , #[ O ] , #[ O ] , #[ O ] ⟩ ⟩
GE ( List Int )
GM ( cs.drop ( cs.length - i ) )
GT ( Option Nat )
Id ( false , eval e X.env )
Ix #[ za , #[ zg ] , #[ ya , #[ zg ] ] ]
IN ( zp p ( pl.getD j 0 ) f = enY rw j )
IO #[ .int lo t , .int hi u , .int 1 v ]
IR ( us.map V.ref )
KB ⟨ _ , rfl , .inr ⟨ _ , _ , _ , _ , _ , _ , rfl , pg , #[ O ] , #[ O ] , #[ O ] ⟩ ⟩
KF ( fun ys H' _ => af _ )
KK ( ds.map V.int )
KM ( false , eval a X.env )
LE ( s.heap.push ( zcH l1 ) )
MO ( fun i ys H' hi _ => hi )
MP ⟨ _ , _ , _ , _ , _ , _ , _ , rfl , rfl , pg , #[ O ] , #[ O ] , #[ O ] , #[ O ] , #[ O ] ⟩
MQ ( Cg.of_eq #[ O ] )
MR ( dz x qual ( zb2 st ) ( zbC st ) ( zi st ) .none kV doc pm an mE ct )
MS ( .lst ( ls.map V.ref ) )
MT ( σ.set i ( some x ) )
MU ( fun h => absurd ( of_decide_eq_true h ) #[ O ] )
MV ( Draws.tuple hh n a ( nq #[ O ] ) mQ.toArray )
MW #[ rawInt pos.line , rawInt pos.col , .ref c' ]
MX #[ pvx , 3 ]
MY ( mS pl rw )
MZ ( zt5 C s.heap l1 l2 )
M0 ( zt2 C s.heap l1 l2 )
M1 ( ha lN s σ H _ I h )
M3 ( fun i => ns.getD i 0 )
M4 ( ziA CX P w K mg base N qual scope f mE A outer s H E )
M5 #[ pvx , 4 ]
M6 ( .ref D )
M7 #[ .int i tk , .ref hp.objs.size ]
M8 ( .ref a )
M9 ( starEach es X.env )
Na ( I.ok.hd hc )
Nb #[ zj , #[ zW ] , #[ zg ] , #[ AT ] ]
Nc #[ za , #[ AC ] , #[ ya , #[ AT ] ] ]
Nd ( ms.map V.int )
Nf ( EP X lN σ Q )
Ng #[ zac , #[ ya , #[ zg ] ] ]
Nh ( ts.filter ( za3 p f ) )
Ni ( I1.hok.fresh ( af _ ) )
Nj ( .lst ( tu.map V.ref ) )
Nk ⟨ _ , rfl , _ , _ , rfl , rfl , _ , rfl , ?_ ⟩
Nl ⟨ _ , _ , _ , _ , _ , _ , _ , rfl , rfl , pg , #[ O ] , #[ O ] , #[ O ] ⟩
Nm ( .tup ( k.map kV ) )
Nn ( K w.params )
No ( he lN s σ H _ I h )
Np ⟨ fun b o e n hb hx => ?_ , fun b o e n hb hx => ?_ , I.base.free , fun b o e hx => ?_ , I.base.La , I.base.LD , I.base.Lk ⟩
Nq ( .inl rfl )
Nr ( putK kvs k v )
Nt ( T' <= wsum p x #[ BT ] )
Nu #[ zR , #[ zG ] , #[ pvx , 8 ] , #[ pvx , 11 ] ]
Nv ( .ref l )
Nx ( Cg.refl p _ )
Ny #[ ya , #[ Fa ] ]
Nz ( fun c o _ _ mZ e _ => ⟨ o.slots , k1 c o mZ e ⟩ )
NA ( .ref it )
NB ( gU ( cF ⟨ rfl , ?_ ⟩ ) )
NC ( lP H1 pr ( .lst ( zq.map V.int ) ) )
ND ( tupleKind ( zar P w ) )
NE ( .lst ( bo.map V.int ) )
NF ⟨ wq i ys H mh p , Pv ( i + 1 ) , fun tJ H' p' => ⟨ n - ( i + 1 ) , #[ O ] , rfl , mh , p' ⟩ , fun x H' y => hs i x ys H H' mh p y ⟩
NG ( Cg.emod p _ )
NH ( fun _ _ _ _ n => n )
NI ( .frz o ( .dT kvs ) )
NJ ( h3.objs.size + 1 )
NK ( fun _ _ _ e => e )
NL ( fun _ _ z => s _ _ z )
NM ( zcS hC hk qI ep mp ?_ )
NN ( fun _ _ _ _ => #[ AC ] )
NO ⟨ .ref s.heap.objs.size , _ , I.laid ( o := .set _ ( zio ns ) ) k ( af _ ) f1 , rfl , q _ _ I.fresh ⟩
NP ( .Name x pos' )
NQ ⟨ T' , _ , rfl , lY.of zc , rfl , _ , _ , rfl , _ , _ , rfl , rfl , ?_ ⟩
NR ( c.map V.int )
NS ( ts.map ( za1 p lR ) )
NT #[ zac , #[ ze ] ]
NU ( nq #[ O ] )
NV ( pairsOf vs )
NW ( model Y.prog Y.w )
NX ( I1.hok.fresh hle )
NY ( assignEach es X.env )
NZ #[ zaT , #[ zt , #[ zt , #[ zt , #[ zaA ] ] ] ] ]
N1 ( fun _ _ => False )
N9 ( .lst ( rw.map pB ) )
Oa ( .lst ( ds.map V.ref ) )
Ob ( .lst xs )
Oc ( rs.map V.ref )
Od ( pendingOf m7 )
Oe ( cs.map V.int )
Of ( bs.map V.ref )
Og ( ho lN s σ H _ I h )
Oh #[ zR , #[ zG ] , #[ M5 ] , #[ zg ] ]
Oi ⟨ _ , rfl , _ , rfl , #[ O ] , #[ O ] , ?_ ⟩
Oj ( a8 ( ba ( aF e ) ( I.ok.cab x c Bi hc ) ) )
Ol ( zfh s₁.heap H )
Om ( .Tuple es k pos )
On #[ pvx , 6 ]
Oo ( cC rfl )
Op ( .bool true )
Oq ( D , zd6 lQ nn )
Os ( fun m hm => ?_ )
Ot ( fun _ _ e => e )
Ou ( zb0 p pl rw f n ++ zb0 p pl ot f n )
Ov ( aJ ( kept - 1 ) ( V.int 0 ) )
Ow ( gR w rw pl.length )
Ox ( fun c o _ _ mZ e _ => k1 c o mZ e )
Oy #[ ya , #[ AT ] ]
Oz ( fun v s2 => wpAny #[ o0 ] X.A ( pyIter v ) ( PIE X lN σ tg R ) X.xe s2 )
OA ( ao ( ae ( ae ( ae ( dL hit.typeIs ( ao ( ae ( wpAny_fieldsOf ho hd ?_ ) ) ) ) ) ) ) )
OB ( ts.map tK )
OC ( xs.extract i j )
OD ( fN p pl ot f n )
OE ( .Tuple es k qF )
OF ( lP H' D ( .lst ys ) )
OG ( aI _ ( aI _ ( zcs hb e ) ) )
OH ( setArr ( zaz oZ g ) ( wb ( sa + k ) out.toList.zipIdx ( arrOf ( zaz oZ g ) ) ) )
OI ( .builtin id )
OJ ( bS dC vt gf ?_ ( fZ _ ) )
OL ( HT.sIx xs.length xs.length hi - HT.sIx xs.length 0 lo )
OM ( .dT kvs )
ON ( xs.toList.drop i )
OO ( .compLoop #[ pi ] 0 it #[ M6 ] env )
OP #[ zo , me , #[ sn ] , T.IT , lU.kp , lW , #[ zJ ] , #[ Nc ] ]
OQ ( ziA CX P w K mg base N qual scope f cd A outer s H E )
OR ( dz name qual params body scope dV kV doc pm an mE ct )
OS ⟨ aO _ #[ O ] , aK _ p0 ⟩
OT ( uw.extBut _ _ Z.zTO.symm ( oj.extBut _ _ Z.z1.symm yC ) )
OU #[ ya , #[ M5 ] ]
OV ( ba ( aF e ) I.ok.above )
OW ( dz x x ( zb2 st ) ( zbC st ) ( zi st ) .none kV dc pm an cd ct )
OX ( zaa ez ?_ )
OY ( .ref z )
OZ ( .int p )
O0 ( chs xs m )
O3 ( zcg ( zbb i ) ( zcg ( zbb j ) zit ) )
O4 ( fun d v' hd q => k1 d v' ?_ q )
O5 ( zaa ey ( az ( zaa ez ( az ( zlS hC hk ( mb y my ) ( ma z mz ) ?_ ) ) ) ) )
O6 ( .lst ( su.map V.ref ) )
O7 ( .lst ( sb.map V.ref ) )
O8 ( .lst ( mu.map V.ref ) )
O9 ( .lst ( cs.map V.ref ) )
Pa ( .lst ( Ls.map V.int ) )
Pb ( fun s₃ H₃ ex lN D => ziE rfl ( he s₃ H₃ ex lN ) )
Pc #[ pvx , 5 ]
Pd ( I.base.keep b o e n hb hx )
Pe ( cos lR )
Pf ( ts.take s )
Pg ( ts.map kw )
Ph ( model P w )
Pi ( ks.zip ys )
Pj ( fun _ q => q )
Pl ( pendingOf st )
Pm ( pwr p x kept n )
Pn ( pwr p x kept 0 )
Po ( fN p pl rw f n )
Pp #[ zl , #[ zN , #[ zfx ] ] ]
Pq ⟨ .bl _ , H , I , rfl , ?_ ⟩
Pr ( I.hok.fresh ( af _ ) )
Ps ( .lst ( R.map V.int ) )
Pt ( sliceBounds lo hi none n )
Pu ( za3 p f )
Pw ( gl w ld )
Px #[ ya , #[ pvx , 11 ] ]
Py #[ zj , #[ zL ] , #[ Nb ] , #[ zg ] ]
Pz #[ za , #[ AT ] , #[ ya , #[ MX ] ] ]
PB ( pyNext #[ NA ] )
PC ( gt hl.typeIs slot_tuple_getitem.lookup ?_ )
PD ( .ref i2 )
PF ( .ref i1 )
PH ( dA ha hb )
PJ ⟨ _ , rfl , ?_ ⟩
PK #[ za , #[ AT ] , #[ Ny ] ]
PL ( hb lN s1 σ H1 _ I1 q1 )
PN ( I.base.free b o e n hx )
PP ( ts.drop s )
PQ ( q.map V.int )
PR ⟨ 0 , rfl , #[ D ] , #[ D ] ⟩
PU ( ( p , w ) :: P.zip vs )
PV #[ pvx , 8 ]
PX ( zZ k S )
PY ( .ref c )
PZ ⟨ n , #[ M ] , bg _ , h0 ⟩
P0 ( s3.trans ( zb hD ) )
P3 ( et ho hd #[ M ] ?_ )
P4 ( backTo pos #[ M9 ] )
P5 ( f ( .int i t ) ( .int j u ) )
P6 #[ zw , #[ zI ] , T.Ki , cp , #[ ya , #[ AC ] ] ]
P7 ( zab led )
P8 ( .tup xs )
P9 ( fun h' c' kp e => fin lQ r' hz h' c' kp e )
Qa ( arrOf oC )
Qb ( sm.map V.ref )
Qc ( eval o X.env )
Qd ( Option Value )
Qe ( sb.sub #[ O ] #[ O ] )
Qf ( zjd Bv g2 Bu ( zjc te ) )
Qg ( fun hh => absurd hh #[ M ] )
Qh ( ho lN s2 σ H2 x y v u _ I2 r1 r2 q2 )
Qi ( mj.same ( zb hD ) )
Qj ( fun T t R B ht hT hR => gY2 hT ⟨ _ , rfl , hR ⟩ )
Qk #[ pvx , 9 ]
Ql ( .ref b )
Qm ( .lst ys )
Qn ( .dK kvs )
Qo ( s3 _ _ ha )
Qp ( lR.take n )
Qq ( lR.take i )
Qr ( start N vs )
Qs ( br f as bs )
Qt ( fun x hx => ?_ )
Qu ( zar X.prog X.w )
Qv ⟨ u , v , kk _ #[ M ] _ h3 ⟩
Qw ⟨ _ , rfl , _ , rfl , _ , rfl , _ , _ , rfl , rfl , .inr #[ wr ] , _ , _ , rfl , rfl , _ , rfl , _ , _ , rfl , rfl , p0 , ?_ ⟩
Qx ⟨ _ , rfl , _ , rfl , _ , rfl , _ , _ , rfl , rfl , .inl #[ wr ] , _ , _ , rfl , rfl , _ , rfl , _ , _ , rfl , rfl , p0 , hR ⟩
Qy ⟨ _ , rfl , _ , rfl , _ , _ , rfl , rfl , .inl #[ wr ] , _ , rfl , _ , _ , rfl , rfl , _ , rfl , _ , _ , rfl , rfl , p0 , ?_ ⟩
Qz #[ zw , #[ zd2 ] , T.Ki , cp , #[ ya , #[ zan , #[ zf5 ] , T.ME , boot_set , #[ ya , #[ pvx , 22 ] ] ] ] ]
QA ( rB ( j - 1 ) #[ O ] )
QB ⟨ zaX , _ , .cons ru ( .cons rv .nil ) , zbY pp ⟩
QC ( fun _ _ _ _ => #[ zj , #[ zO ] , #[ zj , #[ zaV ] , #[ AC ] , #[ zj , #[ zW ] , #[ Fa ] , #[ AT ] ] ] , #[ MX ] ] )
QD ( lP H a o )
QE ⟨ rfl , ?_ ⟩
QF ( fun _ => rfl )
QG ( .lst #[ KK ] )
QH ( gallopOf st )
QI ( I.hok b u e )
QJ ( .Name x pos )
QK ( mxs ( L.take n ) )
QL ⟨ rfl , fun _ _ => rfl ⟩
QM ( zt4 C s.heap l1 l2 )
QN ( hl lN s σ H _ I h )
QO ( hi lN s σ H _ I h )
QP ( .lst ( os.map V.ref ) )
QQ ( .Subscript o i pos )
QR ⟨ b , _ , rfl , lY.of ( s3 _ _ hb ) , rfl , _ , _ , rfl , _ , _ , rfl , _ , _ , rfl , rfl , ?_ ⟩
QS ( backTo m6 ( starEach ( e :: es ) X.env ) )
QT ( au _ hx )
QU ( .ref tt )
QV ( y - zp p x cs )
QW ( I.ok.bs b o e )
QX #[ zai , T.IS , #[ Ny ] ]
QY ( fun Fo s' h' => ao ( And.intro rfl h' ) )
QZ ( cF ( ae ( bP hz rfl ( x := .ref TO ) rfl ?_ ) ) )
Q0 ( some v )
Q3 ( .ref f )
Q4 ( .ref e )
Q5 ( zcU lR + 1 )
Q6 #[ z8 , #[ AT ] ]
Q7 ( .ref ( n + 4 ) )
Q8 ( .ref ( n + 1 ) )
Q9 ⟨ _ , rfl , rfl , _ , rfl , ?_ ⟩
Ra ( uW a1 a2 a3 a4 a5 )
Rb ( s' _ _ ( sa _ _ yl ) )
Rc ( lN ++ zcM fp s7.heap )
Re ( fun x => decide #[ Nt ] )
Rf ( assign #[ NP ] X.env )
Rg ( @ite _ c inst x y )
Rh ( .ref hp.objs.size )
Ri #[ zw , #[ zI ] , T.Ki , cp , #[ Oy ] ]
Rj #[ zw , #[ zI ] , T.Ki , cp , #[ OU ] ]
Rk ( kk _ _ Z.zTI Z.TT Z.T1 Z.T2 vo )
Rl ( fT ( some none , st.snd.fst , st.snd.snd ) )
Rm #[ pvx , 10 ]
Rn ( zc1 ha hb )
Ro ( zaa ey ?_ )
Rp ( lo + st.snd.fst )
Rq ( lR.map ( md p ) )
Rr ( fun c u e => ?_ )
Rs ( fun b u e => ?_ )
Rt ( bP hz rfl ( x := .bool false ) rfl ?_ )
Ru ( .compLoop #[ wp ] d #[ NA ] #[ M6 ] Y.env )
Rv ( .ret .none )
Rw ( q'.map V.int )
Rx ( pl.map V.int )
Ry ( hide H t.tab )
Rz ( ad p f cs vs )
RA ( aN xs.length )
RB ( TP X lN σ Q )
RC ( xs.extract i ( i + k ) )
RD ( quo p r ( d :: cs ) )
RE ( fun i => R.getD i 0 )
RF ( fun f vs => lh f vs )
RG ( fun _ _ q => ai _ q )
RH ( fun _ _ _ _ => #[ AT ] )
RI ( decide_eq_true h )
RJ ( Str -> Option Value )
RK #[ zj , #[ zct ] , #[ Nu ] , #[ zg ] ]
RL #[ zj , #[ zaV ] , #[ Fa ] , #[ zg ] ]
RM ⟨ _ , rfl , _ , rfl , _ , _ , rfl , rfl , .inl #[ wr ] , _ , rfl , _ , _ , rfl , rfl , p0 , ?_ ⟩
RN ( fun _ _ _ _ => #[ zbH , #[ zH , #[ zga ] , #[ AT ] , #[ zdN ] , ( zY _ ) ] ] )
RO ( S.h.dr hh ( n + 1 ) b #[ NU ] mL.toArray )
RP ( .compLoop #[ wp ] d it #[ M6 ] Y.env )
RQ ( ts.take ( m + 1 ) )
RS ( h h' By ⟨ Ie , fun b o wy e => ?_ ⟩ )
RT ( fun l5 om oo ac bc => ( none , om , oo , l5 , ac , bc ) )
RU ( fun l5 nS nG ac bc => ( none , l5 , nS , nG , ac , bc ) )
RV ( bS dS hit.typeIs gL ?_ ( gA _ ) )
RW ( bS d9 hit.typeIs hJ ?_ ( gQ _ ) )
RX ( bP he rfl ( x := .ref z ) rfl ( ae ?_ ) )
RY #[ pvx , 7 ]
RZ ( lO X.K )
R0 ( .lst #[ IR ] )
R1 ( fun c lV => ?_ )
R3 ( fun x1 x2 => x1 ++ x2 )
R4 ( SC.free y hy hf )
R5 #[ zj , #[ zO ] , #[ Oh ] , #[ zg ] ]
R6 #[ zj , #[ zL ] , #[ PV ] , #[ zg ] ]
R7 ⟨ .int ( g i j ) , H , I.tok _ , ⟨ _ , rfl ⟩ , q ⟩
R8 ( fun r => Good val #[ wn ] r.toList )
R9 #[ zo , vd , #[ sn ] , T.Lv , sJ.kp , qC , #[ zJ ] , #[ za , #[ AC ] , #[ za , #[ Py ] , #[ Ny ] ] ] ]
Sa ( hit p q )
Sb ( Itl K a )
Sc ( .ref r2 )
Sd ( .ref dl )
Se #[ ya , #[ Pc ] ]
Sf #[ ya , #[ On ] ]
Sg ( tOp r ta tb )
Sh ( s2.trans s3 )
Si ( I.hok c u e )
Sj ( Ea b o e hx )
Sl ( Dk.trans BK )
Sm ( .bool false )
Sn ( zb ( o := .lst ( sb.map V.ref ) ) hSA )
So ( vs.toArray.zip vs.toArray )
Sr ( bP hz rfl ( x := .ref TI ) rfl ?_ )
Ss ( bP ho hd ( x := .int _ 0 ) rfl ?_ )
Su #[ zbZ , ( K ) ]
Sv ( xs.map f )
Sw ( w.drop L )
Sx ( tz k top )
Sy ( kk _ _ x )
Sz ( zdq ix σ )
SD ( ts.take i )
SE ( ts.map tI )
SG ( s1 _ _ ha )
SH ( ps.zip us )
SI ( ts.map ( ptw pl ) )
SJ ( h.push ( zcH l1 ) )
SK ( fun j h1 h2 => ?_ )
SL ( backTo m6 #[ M9 ] )
SN ( a₀.size - lo )
SO ⟨ rfl , .inr ⟨ _ , _ , _ , _ , _ , rfl , ql , #[ O ] , #[ O ] , #[ O ] , #[ O ] , #[ O ] ⟩ ⟩
SQ ⟨ plainId_quiet zdD _ , ?_ ⟩
SR ⟨ _ , rfl , _ , _ , rfl , rfl , .inl #[ FB ] , _ , _ , rfl , rfl , q _ ⟩
SS ( zl5 hc Cv Cw xP Cy he oB )
ST ( zb ( o := .lst ( vs.map V.ref ) ) hD )
SU ( wb sa m.toList.zipIdx xs )
SV ( us.map V.ref ++ vs.map V.ref )
SW ( sA.trans ( zb ( o := .rng 0 p ) yH ) )
SX ( letOwnedTupleGo tg #[ NA ] u )
SY ( ie ( knd := intKind prog w ) led )
SZ ( fun x l' r' R Ar k1 k2 => ?_ )
S0 ( fun it D env => zlr it D env )
S3 ( fun i x y R B hx hy hR => ?_ )
S4 ( fR hh ( n + 1 ) b #[ NU ] mL.toArray )
S5 ( fR CD n a #[ NU ] mQ.toArray )
S6 ( fR CD ( n + 1 ) b #[ NU ] mL.toArray )
S7 ⟨ T , _ , rfl , lY.of zc , rfl , _ , _ , rfl , _ , _ , rfl , rfl , ?_ ⟩
S8 ( zbr I hg hm hv ?_ hn B0 )
S9 ( wF a1 a2 a3 a4 a5 a6 a7 )
Ta ( uW a1 a2 a3 a4 a5 a6 a7 )
Tb ( min xs.length ys.length )
Tc ( fun r o hG => aC ⟨ g , r , _ , rfl , rfl , hG ⟩ )
Td ( bP ho hd ( x := .ref t ) rfl ?_ )
Te ( bP ho hd ( x := .ref l ) rfl ?_ )
Tf ( au _ ( Att.JX.mpr ⟨ hb , CJ , e ⟩ ) )".splitOn "\n").find? (·.startsWith s) with
 |some l=>return ((<-Tg 400 0 ((l.splitOn " ").drop 1)).1.head!)
 |none=>Lean.Macro.throwUnsupported
noncomputable section
set_option Elab.async false
set_option linter.all false
set_option maxRecDepth 100000
namespace L2
open PySem PySem.Spec PyProof.Rows
variable {A:Around} {CX:CXT} {H H':Hp} {M:Model} {N:List Str} {P:Program} {Q:VK} {R:It->Hp->Prop} {X:Cx} {an od:Option Addr} {cd ct oc pm:Value} {fd:FuncData} {fp:List Addr} {g:TG} {h:Heap} {it:Addr} {j k t' tk:Nat} {lN qh:List (Addr×Obj)} {lQ us:List Value} {mg:Str->Option Value} {name qual:Str} {pos:Pos} {s s' s1:Shared} {sc scope:Scope} {sp:Sp} {tg:Expr} {v y:V} {w:World}
abbrev Key:=Sum Int Str
noncomputable def zfv:Key->Value->Bool
 | .inl k,v=>Value.isInt k v
 | .inr x,v=>lG x v
noncomputable def zqA (w:World):Key->Int
 | .inl k=>hashInt k
 | .inr x=>hashStr w x
theorem zaB:∀ {k:Key} {v:Value},zfv k v=true->(∃ i t,k=bI i/\v=i0 i t)\/(∃ x t,k=iH x/\v=lF x t)
 | .inl i,v,h=>by
  obtain⟨t,e⟩:=Value.isInt_shape (k:=i) (v:=v) h;exact .inl ⟨i,t,rfl,e⟩
 | .inr x,v,h=>by
  obtain⟨t,e⟩:=Value.isStrOf_shape (x:=x) (v:=v) h;exact .inr ⟨x,t,rfl,e⟩
theorem zka (i:Int) (t:Tok):zfv (.inl i) (.int i t)=true:=by simp [zfv,Value.isInt]
theorem zkb (x:Str) (t:Tok):zfv (.inr x) (.str x t)=true:=by simp [zfv,lG]
theorem zoR (a b:Int):decide ((bI a:Key)=bI b)=(a == b):=by
 by_cases e:a=b
 ·subst e; simp
 ·have h:¬ (bI a:Key)=bI b:=fun q=>e (f8 q)
  rw [decide_eq_false h];exact (beq_eq_false_iff_ne.mpr e).symm
theorem zoS (a b:Str):decide ((iH a:Key)=iH b)=decide (a=b):=by
 by_cases e:a=b
 ·subst e; simp
 ·have h:¬ (iH a:Key)=iH b:=fun q=>e (Sum.inr.inj q)
  rw [decide_eq_false h,decide_eq_false e]
theorem zoT (a:Int) (b:Str):decide ((bI a:Key)=iH b)=false:=decide_eq_false (fun q=>nomatch q)
theorem zoU (a:Str) (b:Int):decide ((iH a:Key)=bI b)=false:=decide_eq_false (fun q=>nomatch q)
noncomputable def zar (prog:Program) (w:World):PySem.KeyKind prog w Key where
 is:=zfv
 hash:=zqA w
 inj:=fun v a b ha hb=>by
  rcases zaB ha with ⟨i,t,rfl,rfl⟩ | ⟨x,t,rfl,rfl⟩
  ·rcases zaB hb with ⟨j,u,rfl,e⟩ | ⟨y,u,rfl,e⟩
   ·injection e with e1 _; rw [e1]
   ·exact nomatch e
  ·rcases zaB hb with ⟨j,u,rfl,e⟩ | ⟨y,u,rfl,e⟩
   ·exact nomatch e
   ·injection e with e1 _; rw [e1]
 byValue:=fun k v h=>by
  rcases zaB h with ⟨i,t,rfl,rfl⟩ | ⟨x,t,rfl,rfl⟩ <;> rfl
 pyHash:=fun hv h=>by
  rcases zaB hv with ⟨i,t,rfl,rfl⟩ | ⟨x,t,rfl,rfl⟩
  ·exact wpAny_pyHash_int h
  ·exact wpAny_pyHash_str h
 eqBool:=fun hu hv h=>by
  rcases zaB hu with ⟨i,t,rfl,rfl⟩ | ⟨x,t,rfl,rfl⟩
  ·rcases zaB hv with ⟨j,u,rfl,rfl⟩ | ⟨y,u,rfl,rfl⟩
   ·rw [zoR] at h; exact wpAny_eqBool_int h
   ·rw [zoT] at h; exact jY i t y u _ _ _ _ h
  ·rcases zaB hv with ⟨j,u,rfl,rfl⟩ | ⟨y,u,rfl,rfl⟩
   ·rw [zoU] at h; exact jZ x t j u _ _ _ _ h
   ·rw [zoS] at h; exact wpAny_eqBool_str h
 «strs»:=fun k x t v h=>by
  rcases zaB h with ⟨i,u,rfl,e⟩ | ⟨y,u,rfl,e⟩
  ·exact nomatch e
  ·injection e with e1 _
   subst e1;cases v <;> rfl
theorem zha (prog:Program) (w:World) (i:Int) (t:Tok):(zar prog w).is (.inl i) (.int i t)=true:=zka i t
theorem zhb (prog:Program) (w:World) (x:Str) (t:Tok):(zar prog w).is (.inr x) (.str x t)=true:=zkb x t
inductive V where
 | non | bl (b:Bool) | int (i:Int) | str (x:Str) | byt (b:Array UInt8) | flt (b:UInt64) | ref (a:Addr) | ty (n:String)
 deriving DecidableEq
noncomputable def RelV:V->Value->Prop
 | .non,u=>u=dg
 | .bl b,u=>u=Value.bool b
 | .int i,u=>∃ t,u=i0 i t
 | .str x,u=>∃ t,u=lF x t
 | .byt b,u=>∃ t,u=Value.bytes b t
 | .flt b,u=>∃ t,u=Value.float b t
 | .ref a,u=>u=aX a
 | .ty n,u=>u=gm n
abbrev zU:List V->List Value->Prop:=Paired RelV
theorem zU.length {xs:List V} (r:zU xs us):xs.length=us.length:=bq r
theorem zU.get:∀ {xs:List V} {us:List Value} {i:Nat} {x:V},zU xs us->xs[i]? = some x->∃ u,us[i]? = some u/\RelV x u
 | _,_,_,_,.nil,e=>by simp at e
 | _,_,0,_,.cons r _,e=>by simp at e; subst e; exact⟨_,rfl,r⟩
 | _,_,i+1,x,.cons _ t,e=>by
  obtain⟨u,h1,h2⟩:=zU.get (i:=i) (x:=x) t (by simpa using e);exact⟨u,by simpa using h1,h2⟩
theorem zU.set {x:V} {u:Value} (r:RelV x u):∀ {xs:List V} {us:List Value} (i:Nat),zU xs us->zU (xs.set i x) (us.set i u)
 | _,_,_,.nil=>.nil
 | _,_,0,.cons _ t=>.cons r t
 | _,_,i+1,.cons q t=>.cons q (zU.set r i t)
theorem zU.append:∀ {xs ys:List V} {us ws:List Value},zU xs us->zU ys ws->zU (xs++ys) (us++ws)
 | _,_,_,_,.nil,s=>s
 | _,_,_,_,.cons r t,s=>.cons r (zU.append t s)
theorem zU.take:∀ {xs:List V} {us:List Value} (n:Nat),zU xs us->zU (xs.take n) (us.take n)
 | _,_,0,_=>.nil
 | _,_,_+1,.nil=>.nil
 | _,_,n+1,.cons r t=>.cons r (zU.take n t)
theorem zU.drop:∀ {xs:List V} {us:List Value} (n:Nat),zU xs us->zU (xs.drop n) (us.drop n)
 | _,_,0,r=>r
 | _,_,_+1,.nil=>.nil
 | _,_,n+1,.cons _ t=>zU.drop n t
noncomputable def zd4:Option V->Option Value->Prop
 | some v,some u=>RelV v u
 | none,none=>True
 | _,_=>False
noncomputable def KV {κ:Type}:List (κ×V)->List (κ×Value)->Prop:=Paired fun (p:κ×V) (q:κ×Value)=>p.1=q.1/\RelV p.2 q.2
noncomputable def kV:Key->V
 | .inl i=>.int i
 | .inr x=>.str x
inductive HO where
 | lst (xs:List V)
 | tup (xs:List V)
 | dK (kvs:List (Key×V)) | dT (kvs:List (List Key×V))
 | set (S:Int->Bool) (n:Nat)
 | ins (C dx:Addr) (fs:List (Str×V))
 | own (x:Addr)
 | xd (fs:List (Str×V))
 | met (f x:Addr)
 | rng (lo hi:Int)
 | frz (o:Obj) (u:HO)
 | tbl (ps:Array Value)
 | ext (φ:Heap->Prop)
abbrev Hp:=Addr->Option HO
noncomputable def lP (H:Hp) (a:Addr) (o:HO):Hp:=fun b=>if b=a then some o else H b
theorem zc {a:Addr} {o:HO}:lP H a o a=some o:=by unfold lP; rw [if_pos rfl]
theorem zn {a b:Addr} {o:HO} (h:b≠a):lP H a o b=H b:=by unfold lP; rw [if_neg h]
theorem zm8 {a:Addr} {o u:HO}:lP #[QD] a u=lP H a u:=by
 funext b; unfold lP; split <;> rfl
theorem zot {a b:Addr} {o u:HO} (h:H a=some o) (h':H b=some u) (d:o≠u):a≠b:=by
 intro e; subst e; rw [h] at h'; exact d (aS h')
theorem zu {a b:Addr} {o:HO} (h:H a=some o) (h':H b=none):a≠b:=by
 intro e; subst e; rw [h] at h'; cases h'
section
variable (P:Program) (w:World)
noncomputable def zax (H:Hp) (h:Heap) (a:Addr):HO->Prop
 | .lst xs=>xs.length<=sizeLine/\∃ (lQ:List Value) (n:Nat),zU xs lQ/\h.get? a=some { cls:=.type "list",data:=.seq lQ.toArray n }
 | .tup xs=>xs.length<=sizeLine/\∃ lQ:List Value,zU xs lQ/\IsTup h a lQ.toArray
 | .dK kvs=>kvs.length<=sizeLine/\(a == sysModules)=false/\∃ vs,KV kvs vs/\h.DictOf (zar P w) a vs
 | .dT kvs=>kvs.length<=sizeLine/\(a == sysModules)=false/\∃ xs:List (List Key×Addr×Value),
   Paired (fun (p:List Key×V) (q:List Key×Addr×Value)=>p.1=q.1/\H q.2.1=some (.tup (p.1.map kV))/\RelV p.2 q.2.2) kvs xs /\
   ∃ o es ep,h.get? a=some o/\o.ExactDict/\o.data = .dict es ep/\es.toList=xs.map (entryOfKey #[ND])/\(xs.map (·.1)).Nodup
 | .set S n=>h.SetOf (intKind P w) a S n
 | .ins C dx fs=>H dx=some (.own a)/\fs.length<=1000/\dx≠a/\h.get? a=some (PySem.W.instObj C dx) /\
   ∃ mA,h.Ns1 dx mA/\(∀ f,zd4 (fs.lookup f) (mA f))/\PySem.Within mA (fs.map (·.1))
 | .own _=>∃ o,h.get? a=some o
 | .xd fs=>∃ mA,h.Ns1 a mA/\∀ f,zd4 (fs.lookup f) (mA f)
 | .rng lo hi=>∃ t u v,h.get? a=some { cls:=.type "range",data:=.fields #[IO] }
 | .frz o u=>h.get? a=some o/\zax H h a u
 | .tbl ps=>h.get? a=some { cls:=.none,data:=.fields ps }
 | .met f x=>h.get? a=some (ir #[Q3] (.ref x))
 | .ext φ=>φ h/\(∃ o,h.get? a=some o)/\∀ h1 h2:Heap,φ h1->(∀ o,h1.get? a=some o->h2.get? a=some o)->φ h2
noncomputable def HOk (H:Hp) (h:Heap):Prop:=∀ a o,H a=some o->zax P w H h a o
end
section
variable {P:Program} {w:World} {H H':Hp} {h h':Heap} {a:Addr} {o:HO}
theorem zax.lt (x:zax P w H h a o):a < h.objs.size:=by
 cases o with
 | lst xs=>obtain⟨_,_,_,_,e⟩:=x; exact aF e
 | tup xs=>obtain⟨_,_,_,p⟩:=x; exact p.lt
 | dK kvs=>obtain⟨_,_,_,_,o,_,_,e,_⟩:=x; exact aF e
 | dT kvs=>obtain⟨_,_,_,_,o,_,_,e,_⟩:=x; exact aF e
 | set S n=>obtain⟨o,_,_,_,e,_⟩:=x; exact aF e
 | ins C dx fs=>obtain⟨_,_,_,e,_⟩:=x; exact aF e
 | own y=>obtain⟨_,e⟩:=x; exact aF e
 | xd fs=>obtain⟨_,⟨_,_,_,e,_⟩,_⟩:=x; exact aF e
 | rng lo hi=>obtain⟨_,_,_,e⟩:=x; exact aF e
 | frz ob u=>obtain⟨e,_⟩:=x; exact aF e
 | tbl ps=>exact aF (show h.get? a=some _ from x)
 | met f y=>exact aF (show h.get? a=some _ from x)
 | ext φ=>obtain⟨_,⟨_,e⟩,_⟩:=x; exact aF e
theorem Paired.Mz {α β:Type} {F G:α->β->Prop}:∀ {l₁:List α} {l₂:List β},Paired F l₁ l₂->(∀ a b,F a b->G a b)->Paired G l₁ l₂
 | _,_,.nil,_=>.nil
 | _,_,.cons r t,f=>.cons (f _ _ r) (Paired.Mz t f)
theorem zax.KO (x:zax P w H h a o) (k:∀ b u,(b=a\/H b=some (.own a))->h.get? b=some u->h'.get? b=some u)
  (ho:∀ b,H b=some (.own a)->H' b=some (.own a)) (ht:∀ b xs,H b=some #[P8]->H' b=some #[P8]):zax P w H' h' a o:=by
 induction o with
 | lst xs=>obtain⟨z,lQ,n,r,e⟩:=x; exact⟨z,lQ,n,r,k _ _ #[Nq] e⟩
 | tup xs=>obtain⟨z,lQ,r,ob,e,c⟩:=x; exact⟨z,lQ,r,ob,k _ _ #[Nq] e,c⟩
 | dK kvs=>obtain⟨z,y,vs,r,ob,es,ep,e,c⟩:=x; exact⟨z,y,vs,r,ob,es,ep,k _ _ #[Nq] e,c⟩
 | dT kvs =>
  obtain⟨z,y,xs,r,ob,es,ep,e,c⟩:=x;exact⟨z,y,xs,Paired.Mz r fun p q z=>⟨z.1,ht _ _ z.2.1,z.2.2⟩,ob,es,ep,k _ _ #[Nq] e,c⟩
 | set S n=>obtain⟨ob,es,ep,t,e,c⟩:=x; exact⟨ob,es,ep,t,k _ _ #[Nq] e,c⟩
 | ins C dx fs =>
  obtain⟨d,z,ne,e,mA,⟨od,es,ep,e2,c⟩,r⟩:=x;exact⟨ho _ d,z,ne,k _ _ #[Nq] e,mA,⟨od,es,ep,k _ _ (.inr d) e2,c⟩,r⟩
 | own y=>obtain⟨ob,e⟩:=x; exact⟨ob,k _ _ #[Nq] e⟩
 | xd fs=>obtain⟨mA,⟨od,es,ep,e,c⟩,r⟩:=x; exact⟨mA,⟨od,es,ep,k _ _ #[Nq] e,c⟩,r⟩
 | rng lo hi=>obtain⟨t,u,v,e⟩:=x; exact⟨t,u,v,k _ _ #[Nq] e⟩
 | frz ob u ih=>obtain⟨e,q⟩:=x; exact⟨k _ _ #[Nq] e,ih q⟩
 | tbl ps =>
  have e:h.get? a=some { cls:=.none,data:=.fields ps }:=x;show h'.get? a=some { cls:=.none,data:=.fields ps };exact k a _ #[Nq] e
 | met f y =>
  have e:h.get? a=some (ir #[Q3] (.ref y)):=x;show h'.get? a=some (ir #[Q3] (.ref y));exact k a _ #[Nq] e
 | ext φ=>obtain⟨p,⟨o,e⟩,st⟩:=x; exact⟨st _ _ p fun o q=>k _ _ #[Nq] q,⟨o,k _ _ #[Nq] e⟩,st⟩
theorem HOk.lt (x:HOk P w H h) (e:H a=some o):a < h.objs.size:=(x a o e).lt
theorem HOk.fresh (x:HOk P w H h) (e:h.objs.size<=a):H a=none:=by
 cases q:H a with
 | none=>rfl
 | some u=>exact absurd (ba (x.lt q) e) (cg _)
theorem HOk.kept (x:HOk P w H h) (k:∀ b u,h.get? b=some u->h'.get? b=some u):HOk P w H h':=fun a o e =>
 (x a o e).KO (fun b u _ q=>k b u q) #[Pj] fun _ _ q=>q
theorem HOk.laid (x:HOk P w H h) (k:∀ b u,h.get? b=some u->h'.get? b=some u) (hp:h.objs.size<=a) (new:zax P w #[QD] h' a o):HOk P w #[QD] h':=fun b u e=>by
 have hn:=x.fresh hp;by_cases hb:b=a
 ·subst hb; rw [zc] at e; cases e; exact new
 ·rw [zn hb] at e;exact (x b u e).KO (fun c v _ q=>k c v q) (fun c q=>by rw [zn (zu q hn)]; exact q) fun c xs q=>by rw [zn (zu q hn)]; exact q
end
noncomputable def Rd (H:Hp) (a:Addr) (u:HO):Prop:=H a=some u\/∃ o,H a=some (.frz o u)
theorem Rd.ok {a:Addr} {u:HO} (r:Rd H a u) (x:HOk P w H h):zax P w H h a u:=by
 rcases r with r | ⟨o,r⟩
 ·exact x a u r
 ·obtain⟨_,q⟩:=x a _ r;exact q
noncomputable def Mut:Option HO->Prop
 | some (.lst _)=>True
 | some (.dK _)=>True
 | some (.dT _)=>True
 | some (.set _ _)=>True
 | some (.ins _ _ _)=>True
 | some (.ext _)=>True
 | _=>False
section
variable {P:Program} {w:World} {H:Hp} {h h':Heap} {x e:Addr} {o':HO}
theorem HOk.write (ok:HOk P w H h) (mu:Mut (H x)) (he:e=x\/H e=some (.own x)) (k:∀ b u,b≠e->h.get? b=some u->h'.get? b=some u) (Bg:∃ u,h'.get? e=some u)
  (new:zax P w (lP H x o') h' x o'):HOk P w (lP H x o') h':=fun b u q=>by
 have BX:∀ c y,H c=some (.own y)->c≠x:=fun c y r z=>by subst z; rw [r] at mu; exact mu
 have Fd:∀ c xs,H c=some #[P8]->c≠x:=fun c xs r z=>by subst z; rw [r] at mu; exact mu
 by_cases hb:b=x
 ·subst hb; rw [zc] at q; cases q; exact new
 ·rw [zn hb] at q;by_cases y6:b=e
  ·have q':H b=some (.own x):=by
    rcases he with z | z
    ·exact absurd (y6.trans z) hb
    ·rw [y6]; exact z
   rw [q] at q'; cases q';obtain⟨v,hv⟩:=Bg;exact⟨v,by rw [y6]; exact hv⟩
  ·refine (ok b u q).KO (fun c v hc r=>k c v ?_ r) (fun c r=>by rw [zn (BX c b r)]; exact r) fun c xs r=>by rw [zn (Fd c xs r)]; exact r
   rcases hc with rfl | hc
   ·exact y6
   ·rintro rfl;rcases he with z | z
    ·exact BX c b hc z
    ·rw [hc] at z; cases z; exact hb rfl
end
structure Un (fs ex:List Addr) (H H':Hp) (h h':Heap):Prop where
 keep:∀ b o,h.get? b=some o->H b=none->b∉fs->b∉ex->h'.get? b=some o
 slot:∀ b o,h.get? b=some o->H b=none->b∈fs->b∉ex->∃ sl,h'.get? b=some { o with slots:=sl }
 free:∀ b o,h.get? b=some o->H b=none->b∉ex->H' b=none
 there:∀ b o,h.get? b=some o->b∉ex->∃ o',h'.get? b=some o'
 La:∀ b xs,H b=some #[P8]->H' b=some #[P8]
 LD:∀ b o u,H b=some (.frz o u)->H' b=some (.frz o u)
 Lk:∀ b ps,H b=some (.tbl ps)->∃ more,H' b=some (.tbl (ps++more))
section
variable {fs fs' ex ex':List Addr} {H H1 H2:Hp} {h h1 h2 h':Heap} {a x e:Addr} {o:HO}
theorem Un.any (u:Un fs ex H H1 h h1) {b:Addr} {ob:Obj} (q:h.get? b=some ob) (n:H b=none) (hx:b∉ex):∃ sl,h1.get? b=some { ob with slots:=sl }:=by
 by_cases hb:b∈fs
 ·exact u.slot b ob q n hb hx
 ·exact⟨ob.slots,u.keep b ob q n hb hx⟩
theorem Un.kept (k:∀ b u,h.get? b=some u->h'.get? b=some u):Un fs ex H H h h' :=
 ⟨fun b ob q _ _ _=>k b ob q,fun b ob q _ _ _=>⟨ob.slots,k b ob q⟩,fun _ _ _ n _=>n,fun b ob q _=>⟨ob,k b ob q⟩,fun _ _ q=>q,fun _ _ _ q=>q,fun _ ps q=>⟨#[],by rw [q]; simp⟩⟩
theorem Un.refl:Un fs ex H H h h:=Un.kept fun _ _ q=>q
theorem Un.laid (k:∀ b u,h.get? b=some u->h'.get? b=some u) (hp:h.objs.size<=a) (hn:H a=none):Un fs ex H #[QD] h h' where
 keep:=fun b u q _ _ _=>k b u q
 slot:=fun b u q _ _ _=>⟨u.slots,k b u q⟩
 free:=fun b u q n _=>by rw [zn (a8 (ba (aF q) hp))]; exact n
 there:=fun b u q _=>⟨u,k b u q⟩
 La:=fun b xs q=>by rw [zn (zu q hn)]; exact q
 LD:=fun b u xs q=>by rw [zn (zu q hn)]; exact q
 Lk:=fun b ps q=>⟨#[],by rw [zn (zu q hn),q]; simp⟩
theorem Un.write (mu:Mut (H x)) (he:e=x\/H e=some (.own x)) (k:∀ b u,b≠e->h.get? b=some u->h'.get? b=some u) (Bg:∃ u,h'.get? e=some u):Un fs ex H (lP H x o) h h':=by
 have hx:∀ b,H b=none->b≠x:=fun b n z=>by subst z; rw [n] at mu; exact mu
 have hb:∀ b,H b=none->b≠e:=fun b n z=>by
  subst z;rcases he with r | r
  ·exact hx b n r
  ·rw [n] at r; cases r
 have hm:∀ b u,H b=some u->¬ Mut (some u)->b≠x:=fun b u q nm z=>by subst z; rw [q] at mu; exact nm mu
 refine⟨fun b u q n _ _=>k b u (hb b n) q,fun b u q n _ _=>⟨u.slots,k b u (hb b n) q⟩,fun b u q n _=>by rw [zn (hx b n)]; exact n,fun b u q _=>?_,
  fun b xs q=>by rw [zn (hm b _ q fun z=>z)]; exact q,fun b u xs q=>by rw [zn (hm b _ q fun z=>z)]; exact q,fun b ps q=>⟨#[],by rw [zn (hm b _ q fun z=>z),q]; simp⟩⟩
 by_cases y6:b=e
 ·subst y6; exact Bg
 ·exact⟨u,k b u y6 q⟩
end
noncomputable def trk (h:Heap) (H:Hp):List Addr:=(aN h.objs.size).filter fun a=>(H a).isSome
noncomputable def zfh (h:Heap) (H:Hp):Heap:=PySem.W.hideAll h (trk h H)
theorem zkc (h:Heap) (H:Hp):(zfh h H).objs.size=h.objs.size:=PySem.W.hideAll_size _ _
theorem zk9 {b:Addr} {o:Obj} (e:h.get? b=some o) (n:H b=none):(zfh h H).get? b=some o :=
 PySem.W.hideAll_get _ e fun hm=>by
  have q:(H b).isSome=true:=(bf.mp hm).2;rw [n] at q; simp at q
theorem zm9 {b:Addr} {o:Obj} (e:(zfh h H).get? b=some o):h.get? b=some o/\H b=none:=by
 have e':h.get? b=some o:=PySem.W.of_hideAll (trk h H) e;refine⟨e',?_⟩;cases q:H b with
 | none=>rfl
 | some x =>
  have hm:b∈trk h H:=bf.mpr ⟨bJ.mpr (aF e'),by simp [q]⟩;have z:(zfh h H).get? b=none:=PySem.W.hideAll_none (trk h H) hm;rw [z] at e; cases e
structure Mod (K:ah) (mg:Str->Option Value) (base:Heap):Prop where
 kin:K.In base
 glob:base.Ns mainGlobals mg
 blt:∃ mb,base.Ns builtinsNs mb/\∀ x:Str,x≠"__name__"->mb x=bootBuiltins x
 nolimit:base.NoLimit
structure Cx where
 prog:Program
 w:World
 K:ah
 mg:Str->Option Value
 base:Heap
 A:Around
 N:List Str
 s₀:Shared
 H₀:Hp
 env:Env
 outer:List Env
 stack:List Env
 ex:List Addr
 fn:Str->Bool
 calm:Bool
 pn:List (Addr×Obj)
 xe:Value->Shared->Prop
noncomputable def frs (l:List Env):List Addr:=l.filterMap (·.frame)
abbrev Cx.fs (X:Cx):List Addr:=frs X.outer
noncomputable def Vis (sc:Scope) (x:Str):Prop:=sc.names.lookup x=some .local\/sc.names.lookup x=some .cell\/sc.names.lookup x=some .free
noncomputable def Loc (sc:Scope) (x:Str):Prop:=sc.names.lookup x=some .local\/sc.names.lookup x=some .cell
noncomputable def Look (env:Env) (h:Heap) (m:Str->Option Value) (x:Str) (u:Value):Prop :=
 (env.kindOf x=some .local/\m x=some u)\/((env.kindOf x=some .cell\/env.kindOf x=some .free)/\∃ c,env.cells.lookup x=some c/\h.IsCell c (some u))
structure Cx.Ok (X:Cx):Prop where
 mod:Mod X.K X.mg X.base
 kind:X.env.scope.kind = .function
 glob:X.env.globals=mainGlobals
 blt:X.env.builtins=builtinsNs
 above:X.s₀.heap.objs.size<=X.env.locals
 inj:∀ x y c,X.env.cells.lookup x=some c->X.env.cells.lookup y=some c->x=y
 has:∀ x,(X.env.kindOf x=some .cell\/X.env.kindOf x=some .free)->∃ c,X.env.cells.lookup x=some c
 cab:∀ x c,X.fn x=true->X.env.cells.lookup x=some c->X.s₀.heap.objs.size<=c
 hd:X.calm=true->X.A.handled=none
 frames:X.A.frames=some X.stack
 stk:X.stack=X.outer\/(X.stack=X.env :: X.outer/\X.env.frame=some X.env.locals)
 exf:∀ b∈X.ex,b≠X.env.locals/\∀ x c,X.env.cells.lookup x=some c->c≠b
 bs:∀ b o,X.base.get? b=some o->X.s₀.heap.get? b=some o/\X.H₀ b=none
 bsz:X.base.objs.size<=X.s₀.heap.objs.size
 Ma:∀ b o,X.base.get? b=some o->b∉X.ex
 Mk:∀ b∈X.ex,b∉X.fs
 LC:X.s₀.heap.FunFrames X.base X.outer
 frf:∀ b∈X.fs,X.H₀ b=none
structure Inv (X:Cx) (lN:List (Addr×Obj)) (σ:List (Option V)) (H:Hp) (s:Shared):Prop where
 ok:X.Ok
 os:s.os=X.s₀.os
 bare:AllBare s.gens
 base:Un X.fs X.ex X.H₀ H X.s₀.heap s.heap
 loc:∃ m,s.heap.Ns X.env.locals m/\∀ (i:Nat) (x:Str) (v:V),X.N[i]? = some x->σ[i]? = some #[Q0]->Vis X.env.scope x->∃ u,RelV v u/\Look X.env s.heap m x u
 cell:∀ x c,X.env.cells.lookup x=some c->∃ v,s.heap.IsCell c v
 free:H X.env.locals=none
 JZ:∀ x c,X.env.cells.lookup x=some c->H c=none
 pin:∀ p∈X.pn++lN,s.heap.get? p.1=some p.2/\H p.1=none/\p.1≠X.env.locals/\p.1∉X.fs/\∀ v,p.2.data≠.cell v
 hok:HOk X.prog X.w H s.heap
 len:σ.length=X.N.length
section
variable {X:Cx} {lN:List (Addr×Obj)} {σ:List (Option V)} {H H':Hp} {s:Shared} {h':Heap}
theorem Cx.Ok.MK (ok:X.Ok) {b:Addr} {o:Obj} (e:X.base.get? b=some o):b∉X.fs:=fun hb=>by
 have:=(ok.LC.mem hb).1;rw [e] at this; cases this
theorem Inv.bs (I:Inv X lN σ H s):∀ b o,X.base.get? b=some o->s.heap.get? b=some o/\H b=none:=fun b o e =>
 ⟨I.base.keep b o #[QW].1 #[QW].2 (I.ok.MK e) (I.ok.Ma b o e),I.base.free b o #[QW].1 #[QW].2 (I.ok.Ma b o e)⟩
theorem Inv.bk (I:Inv X lN σ H s):∀ b o,X.base.get? b=some o->s.heap.get? b=some o:=fun b o e=>(I.bs b o e).1
theorem Inv.mod (I:Inv X lN σ H s):Mod X.K X.mg X.base:=I.ok.mod
theorem Inv.kIn (I:Inv X lN σ H s):X.K.In s.heap:=I.ok.mod.kin.keeps I.bk
theorem Inv.lt (I:Inv X lN σ H s):X.env.locals < s.heap.objs.size:=let ⟨_,hn,_⟩:=I.loc; hn.lt
theorem Inv.sz (I:Inv X lN σ H s):X.s₀.heap.objs.size<=s.heap.objs.size:=aV I.ok.above (dY I.lt)
theorem Inv.MJ (I:Inv X lN σ H s) {a:Addr} (h:s.heap.objs.size<=a):a∉X.fs:=fun hb=>by
 obtain⟨_,o,ho,_⟩:=I.ok.LC.mem hb;exact absurd (ba (aF ho) (aV I.sz h)) (cg _)
theorem Inv.cne (I:Inv X lN σ H s):∀ x c,X.env.cells.lookup x=some c->c≠X.env.locals:=fun x c e z=>by
 obtain⟨v,o,ho,hd⟩:=I.cell x c e;obtain⟨m,⟨o',es,ep,rY,hd',_⟩,_⟩:=I.loc;rw [z,rY] at ho; cases ho; rw [hd'] at hd; cases hd
theorem Inv.LC (I:Inv X lN σ H s):s.heap.FunFrames X.base X.outer:=by
 have all:∀ (l:List Env),(∀ b∈frs l,b∈X.fs)->X.s₀.heap.FunFrames X.base l->s.heap.FunFrames X.base l:=by
  intro l;induction l with
  | nil=>intro _ _; trivial
  | cons env r ih =>
   intro hs hl;obtain⟨hk,⟨L,o,hf,hn,ho,hd⟩,hr⟩:=hl;have hL:L∈X.fs:=hs L (by unfold frs; rw [eE,hf]; exact aD);obtain⟨sl,e⟩:=I.base.slot L o ho (I.ok.frf L hL) hL fun z=>I.ok.Mk L z hL
   exact⟨hk,⟨L,_,hf,hn,e,hd⟩,ih (fun b hb=>hs b (by unfold frs; rw [eE,hf]; exact au _ hb)) hr⟩
 exact all X.outer (fun _ hb=>hb) I.ok.LC
theorem Inv.stack (I:Inv X lN σ H s):s.heap.FunFrames X.base X.stack:=by
 rcases I.ok.stk with e | ⟨e,hf⟩
 ·rw [e]; exact I.LC
 ·rw [e];obtain⟨m,hn,_⟩:=I.loc;refine .cons (by rw [I.ok.kind]; decide) hf hn ?_ I.LC;exact Heap.get?_none_of_le (aV I.ok.bsz I.ok.above)
theorem Inv.Ll (I:Inv X lN σ H s):∀ b∈frs X.stack,b∈X.env.locals :: X.fs:=fun b hb=>by
 rcases I.ok.stk with e | ⟨e,hf⟩
 ·rw [e] at hb; exact au _ hb
 ·rw [e] at hb;unfold frs at hb;rw [eE,hf] at hb;exact hb
theorem Inv.Lm (I:Inv X lN σ H s):∀ b∈frs X.stack,H b=none:=fun b hb=>by
 rcases aB.mp (I.Ll b hb) with e | hb
 ·rw [e]; exact I.free
 ·obtain⟨_,o,ho,_⟩:=I.ok.LC.mem hb;exact I.base.free b o ho (I.ok.frf b hb) fun z=>I.ok.Mk b z hb
theorem Inv.step {g':Array GenState} {d':Drawn} {ch:List Addr} (I:Inv X lN σ H s)
  (ud:∀ b∈ch,(b∈X.ex\/X.s₀.heap.objs.size<=b)/\b≠X.env.locals/\(∀ x c,X.env.cells.lookup x=some c->c≠b)/\∀ p∈X.pn++lN,p.1≠b)
  (keep:∀ b o,b≠X.env.locals->b∉X.fs->b∉ch->s.heap.get? b=some o->H b=none->h'.get? b=some o)
  (slot:∀ b o,b≠X.env.locals->b∈X.fs->b∉ch->s.heap.get? b=some o->H b=none->∃ sl,h'.get? b=some { o with slots:=sl }) (free:∀ b o,b∉ch->s.heap.get? b=some o->H b=none->H' b=none)
  (there:∀ b o,b∉ch->s.heap.get? b=some o->∃ o',h'.get? b=some o')
  (La:∀ b xs,H b=some #[P8]->H' b=some #[P8]) (LD:∀ b o u,H b=some (.frz o u)->H' b=some (.frz o u)) (Lk:∀ b ps,H b=some (.tbl ps)->∃ more,H' b=some (.tbl (ps++more)))
  (ns:∀ m,s.heap.Ns X.env.locals m->h'.Ns X.env.locals m) (hok:HOk X.prog X.w H' h') (hg:AllBare g') :
  Inv X lN σ H' { s with heap:=h',gens:=g',drawn:=d',toks:=t' }:=by
 have Bh:∀ b o,X.s₀.heap.get? b=some o->b≠X.env.locals:=fun b o e=>a8 #[OV]
 have Ea:∀ b o,X.s₀.heap.get? b=some o->b∉X.ex->b∉ch:=fun b o e hx hb=>by
  rcases (ud b hb).1 with z | z
  ·exact hx z
  ·exact absurd (ba (aF e) z) (cg _)
 have cellK:∀ x c,X.env.cells.lookup x=some c->∀ v,s.heap.IsCell c v->h'.IsCell c v:=fun x c e v ⟨o,ho,hd⟩=>by
  have BY:c∉ch:=fun z=>(ud c z).2.2.1 x c e rfl
  by_cases hc:c∈X.fs
  ·obtain⟨sl,q⟩:=slot c o (I.cne x c e) hc BY ho (I.JZ x c e);exact⟨_,q,hd⟩
  ·exact⟨o,keep c o (I.cne x c e) hc BY ho (I.JZ x c e),hd⟩
 refine⟨I.ok,I.os,hg,⟨fun b o e n hb hx=>?_,fun b o e n hb hx=>?_,fun b o e n hx=>?_,fun b o e hx=>?_,fun b xs e=>La b xs (I.base.La b xs e),fun b o xs e=>LD b o xs (I.base.LD b o xs e),fun b ps e=>?_⟩,?_,fun x c e=>?_,?_,fun x c e=>?_,fun p hp=>?_,hok,I.len⟩
 ·exact keep b o (Bh b o e) hb #[Sj] #[Pd] #[PN]
 ·obtain⟨sl,e1⟩:=I.base.slot b o e n hb hx;obtain⟨sl',e2⟩:=slot b _ (Bh b o e) hb #[Sj] e1 #[PN];exact⟨sl',e2⟩
 ·obtain⟨o',e1⟩:=I.base.there b o e hx;exact free b o' #[Sj] e1 #[PN]
 ·obtain⟨o',e1⟩:=I.base.there b o e hx;exact there b o' #[Sj] e1
 ·obtain⟨m1,e1⟩:=I.base.Lk b ps e;obtain⟨m2,e2⟩:=Lk b _ e1;exact⟨m1++m2,by rw [e2,Array.append_assoc]⟩
 ·obtain⟨m,hn,hl⟩:=I.loc;refine⟨m,ns m hn,fun i x v e1 e2 e3=>?_⟩;obtain⟨u,r,l⟩:=hl i x v e1 e2 e3;refine⟨u,r,?_⟩;rcases l with l | ⟨k,c,e,z⟩
  ·exact .inl l
  ·exact .inr ⟨k,c,e,cellK x c e _ z⟩
 ·obtain⟨v,z⟩:=I.cell x c e;exact⟨v,cellK x c e v z⟩
 ·obtain⟨m,⟨o,_,_,ho,_⟩,_⟩:=I.loc;exact free _ o (fun z=>(ud _ z).2.1 rfl) ho I.free
 ·obtain⟨v,o,ho,hd⟩:=I.cell x c e;exact free c o (fun z=>(ud c z).2.2.1 x c e rfl) ho (I.JZ x c e)
 ·obtain⟨e,n,ne,nf,d⟩:=I.pin p hp;have BY:p.1∉ch:=fun z=>(ud p.1 z).2.2.2 p hp rfl
  exact⟨keep p.1 p.2 ne nf BY e n,free p.1 p.2 BY e n,ne,nf,d⟩
theorem Inv.un (I:Inv X lN σ H s) (u:Un X.fs [] H H' s.heap h') (hok:HOk X.prog X.w H' h'):Inv X lN σ H' { s with heap:=h',toks:=t' }:=by
 obtain⟨m,⟨o,es,ep,ho,r⟩,_⟩:=id I.loc;obtain⟨sl,hL⟩:=u.any ho I.free #[M];exact I.step (g':=s.gens) (d':=s.drawn) (ch:=[]) (fun _ z=>nomatch z) (fun b o _ hb _ e n=>u.keep b o e n hb #[M]) (fun b o _ hb _ e n=>u.slot b o e n hb #[M]) (fun b o _ e n=>u.free b o e n #[M]) (fun b o _ e=>u.there b o e #[M]) u.La u.LD u.Lk (fun m' hm=>by
  obtain⟨o',vT,Eb,rY,r'⟩:=hm;rw [ho] at rY; cases rY;exact⟨_,vT,Eb,hL,r'⟩) hok I.bare
theorem Inv.call {g':Array GenState} {d':Drawn} {ch:List Addr} (I:Inv X lN σ H s) (u:Un (frs X.stack) ch H H' s.heap h') (hok:HOk X.prog X.w H' h') (hg:AllBare g')
  (ud:∀ b∈ch,(b∈X.ex\/X.s₀.heap.objs.size<=b)/\b≠X.env.locals/\(∀ x c,X.env.cells.lookup x=some c->c≠b)/\∀ p∈X.pn++lN,p.1≠b) :
  Inv X lN σ H' { s with heap:=h',gens:=g',drawn:=d',toks:=t' }:=by
 obtain⟨m,⟨o,es,ep,ho,r⟩,_⟩:=id I.loc;obtain⟨sl,hL⟩:=u.any ho I.free fun z=>(ud _ z).2.1 rfl
 exact I.step (ch:=ch) ud (fun b o hL hb hc e n=>u.keep b o e n (fun z=>(aB.mp (I.Ll b z)).elim hL hb) hc) (fun b o _ _ hc e n=>u.any e n hc) (fun b o hc e n=>u.free b o e n hc) (fun b o hc e=>u.there b o e hc) u.La u.LD u.Lk (fun m' hm=>by
  obtain⟨o',vT,Eb,rY,r'⟩:=hm;rw [ho] at rY; cases rY;exact⟨_,vT,Eb,hL,r'⟩) hok hg
theorem Inv.turned (I:Inv X lN σ H s) (k:∀ b o,b≠it->s.heap.get? b=some o->h'.get? b=some o) (hn:H it=none) (hL:it≠X.env.locals)
  (h1:it∈X.ex\/X.s₀.heap.objs.size<=it) (h2:∀ x c,X.env.cells.lookup x=some c->c≠it) (h3:∀ p∈X.pn++lN,p.1≠it):Inv X lN σ H { s with heap:=h',toks:=t' }:=by
 have tD:∀ b u,H b=some u->b≠it:=fun b u e z=>by rw [z,hn] at e; cases e
 refine I.step (g':=s.gens) (d':=s.drawn) (ch:=[it]) (fun b hb=>?_) (fun b o _ _ hc e _=>k b o (fun z=>hc (by simp [z])) e) (fun b o _ _ hc e _=>⟨o.slots,k b o (fun z=>hc (by simp [z])) e⟩) #[NH]
  (fun b o hc e=>⟨o,k b o (fun z=>hc (by simp [z])) e⟩) #[Ot] #[NK] (fun b ps e=>⟨#[],by rw [e]; simp⟩) #[Os] #[Rs] I.bare
 ·have e:b=it:=by simpa using hb
  subst e;exact⟨h1,hL,h2,h3⟩
 ·obtain⟨o,es,ep,ho,r⟩:=hm;exact⟨o,es,ep,k _ o (dq hL) ho,r⟩
 ·refine #[QI].KO (fun c v hc q=>k c v ?_ q) #[Pj] fun _ _ q=>q
  rcases hc with z | z
  ·rw [z]; exact tD b u e
  ·exact tD c _ z
theorem Inv.tok (I:Inv X lN σ H s) (t:Nat):Inv X lN σ H { s with toks:=t }:=I.un (h':=s.heap) (t':=t) Un.refl I.hok
theorem Inv.kept (I:Inv X lN σ H s) (k:∀ b u,s.heap.get? b=some u->h'.get? b=some u):Inv X lN σ H { s with heap:=h',toks:=t' }:=I.un (Un.kept k) (I.hok.kept k)
theorem Inv.laid {a:Addr} {o:HO} (I:Inv X lN σ H s) (k:∀ b u,s.heap.get? b=some u->h'.get? b=some u) (hp:s.heap.objs.size<=a) (new:zax X.prog X.w #[QD] h' a o) :
  Inv X lN σ #[QD] { s with heap:=h',toks:=t' }:=I.un (Un.laid k hp (I.hok.fresh hp)) (I.hok.laid k hp new)
theorem Inv.write {x e:Addr} {o:HO} (I:Inv X lN σ H s) (mu:Mut (H x)) (he:e=x\/H e=some (.own x)) (k:∀ b u,b≠e->s.heap.get? b=some u->h'.get? b=some u) (Bg:∃ u,h'.get? e=some u)
  (new:zax X.prog X.w (lP H x o) h' x o):Inv X lN σ (lP H x o) { s with heap:=h',toks:=t' }:=I.un (Un.write mu he k Bg) (I.hok.write mu he k Bg new)
theorem Inv.weak {σ':List (Option V)} (I:Inv X lN σ H s) (hl:σ'.length=σ.length) (w:∀ (i:Nat) v,σ'[i]? = some #[Q0]->σ[i]? = some #[Q0]):Inv X lN σ' H s :=
 ⟨I.ok,I.os,I.bare,I.base,let ⟨m,hn,yr⟩:=I.loc; ⟨m,hn,fun i x v e1 e2 e3=>yr i x v e1 (w i v e2) e3⟩,I.cell,I.free,I.JZ,I.pin,I.hok,hl.trans I.len⟩
theorem Inv.Kz (I:Inv X lN σ H s) (h:∀ p∈qh,s.heap.get? p.1=some p.2/\H p.1=none/\p.1≠X.env.locals/\p.1∉X.fs/\∀ v,p.2.data≠.cell v):Inv X qh σ H s :=
 ⟨I.ok,I.os,I.bare,I.base,I.loc,I.cell,I.free,I.JZ,fun p hp=>(aP.mp hp).elim (fun z=>I.pin p (aL _ z)) (h p),I.hok,I.len⟩
theorem zhc (hN:N.Nodup) {i:Nat} {x:Str} (a:N[i]? = some x) (b:N[j]? = some x):i=j:=by
 obtain⟨h1,e1⟩:=av.mp a;obtain⟨h2,e2⟩:=av.mp b;exact (kK hN).mp (e1.trans e2.symm)
theorem zfw {E:Value->Shared->Prop} {i:Nat} {x:Str} {u:Value} {Q:Unit->Shared->Prop} (I:Inv X lN σ H s) (hN:X.N.Nodup) (hi:X.N[i]? = some x) (hx:Loc X.env.scope x) (r:RelV v u)
  (h:∀ s',Inv X lN (σ.set i #[Q0]) H s'->(∃ a,bv a s.heap s'.heap/\(a=X.env.locals\/X.env.cells.lookup x=some a))->Q () s') (hf:X.fn x=true\/X.env.scope.names.lookup x=some .local:=by first | exact .inl rfl | exact .inr rfl | assumption):wpAny M A (storeName X.env x u) Q E s:=by
 obtain⟨m,hn,hl⟩:=id I.loc;have Fe:(X.env.scope.kind == .class || (X.env.scope.kind == .module && X.env.locals != X.env.globals))=false:=by rw [I.ok.kind]; rfl
 have hiσ:i < σ.length:=by rw [I.len]; exact (av.mp hi).1
 have cne:=I.cne;have tracked:∀ {a:Addr} {h':Heap},(∃ o,s.heap.get? a=some o/\H a=none)->bv a s.heap h'->HOk X.prog X.w H h':=fun {a h'} ha hs b ob e=>by
  obtain⟨_,_,yt⟩:=ha;refine (I.hok b ob e).KO (fun c w' hc q=>(hs.2 c ?_).trans q) #[Pj] fun _ _ q=>q
  rintro rfl;rcases hc with rfl | hc
  ·rw [yt] at e; cases e
  ·rw [yt] at hc; cases hc
 rcases hx with hk | hk
 ·refine wpAny_storeName_local hk hn (fun h' xC hs=>?_) Fe;obtain⟨oL,_,_,xD,_⟩:=id hn;refine h _ ⟨I.ok,I.os,I.bare,#[Np],⟨_,xC,fun j y v' e1 e2 e3=>?_⟩,fun y c e=>?_,I.free,I.JZ,fun p hp=>?_,tracked ⟨oL,xD,I.free⟩ hs,by simpa using I.len⟩ ⟨_,hs,.inl rfl⟩
  ·exact (hs.2 b (a8 #[OV])).trans #[Pd]
  ·obtain⟨sl,e1⟩:=I.base.slot b o e n hb hx;exact⟨sl,(hs.2 b (a8 #[OV])).trans e1⟩
  ·obtain⟨o',e1⟩:=I.base.there b o e hx;exact⟨o',(hs.2 b (a8 #[OV])).trans e1⟩
  ·by_cases hj:j=i
   ·subst hj;rw [hi] at e1; cases e1;rw [f9 hiσ] at e2;cases e2;exact⟨u,r,.inl ⟨hk,#[M]⟩⟩
   ·rw [eg (dq hj)] at e2;obtain⟨u',r',q⟩:=hl j y v' e1 e2 e3;refine⟨u',r',?_⟩;rcases q with ⟨k,e⟩ | ⟨k,c,e,z⟩
    ·refine .inl ⟨k,?_⟩;have:y≠x:=fun e=>hj (zhc hN e1 (e ▸ hi))
     simp [this,e]
    ·exact .inr ⟨k,c,e,z.sameBut hs (cne y c e)⟩
  ·obtain⟨w',z⟩:=I.cell y c e;exact⟨w',z.sameBut hs (cne y c e)⟩
  ·obtain⟨e,n,ne,nf,d⟩:=I.pin p hp;exact⟨(hs.2 p.1 ne).trans e,n,ne,nf,d⟩
 ·have Bi:X.fn x=true:=by
   rcases hf with z | z
   ·exact z
   ·rw [z] at hk; cases hk
  obtain⟨c,hc⟩:=I.ok.has x (.inl hk);obtain⟨w',z⟩:=I.cell x c hc;refine wpAny_storeName_cell I.ok.kind hk hc z (fun h' lV hs=>?_);obtain⟨oc,yu,Ff⟩:=id z;refine h { s with heap:=h' } ⟨I.ok,I.os,I.bare,#[Np],⟨m,hn.sameBut hs (dq (cne x c hc)),fun j y v' e1 e2 e3=>?_⟩,fun y c' e=>?_,I.free,I.JZ,fun p hp=>?_,tracked ⟨oc,yu,I.JZ x c hc⟩ hs,by simpa using I.len⟩ ⟨c,hs,.inr hc⟩
  ·exact (hs.2 b #[Oj]).trans #[Pd]
  ·obtain⟨sl,e1⟩:=I.base.slot b o e n hb hx;exact⟨sl,(hs.2 b #[Oj]).trans e1⟩
  ·obtain⟨o',e1⟩:=I.base.there b o e hx;exact⟨o',(hs.2 b #[Oj]).trans e1⟩
  ·by_cases hj:j=i
   ·subst hj;rw [hi] at e1; cases e1;rw [f9 hiσ] at e2;cases e2;exact⟨u,r,.inr ⟨.inl hk,c,hc,lV⟩⟩
   ·rw [eg (dq hj)] at e2;obtain⟨u',r',q⟩:=hl j y v' e1 e2 e3;refine⟨u',r',?_⟩;rcases q with q | ⟨k,c',e,z'⟩
    ·exact .inl q
    ·refine .inr ⟨k,c',e,z'.sameBut hs ?_⟩;rintro rfl;exact hj (zhc hN e1 (I.ok.inj _ _ _ e hc ▸ hi))
  ·by_cases mZ:c'=c
   ·subst mZ; exact⟨_,lV⟩
   ·obtain⟨w2,z2⟩:=I.cell y c' e;exact⟨w2,z2.sameBut hs mZ⟩
  ·obtain⟨e,n,ne,nf,d⟩:=I.pin p hp;refine⟨(hs.2 p.1 ?_).trans e,n,ne,nf,d⟩;intro q;rw [q,yu] at e;have q':oc=p.2:=aS e;exact d w' (by rw [<- q']; exact Ff)
theorem zew {E:Value->Shared->Prop} {i:Nat} {x:Str} {u:Value} {Q:Unit->Shared->Prop} (I:Inv X lN σ H s) (hN:X.N.Nodup) (hi:X.N[i]? = some x) (hx:Loc X.env.scope x) (r:RelV v u)
  (h:∀ s',Inv X lN (σ.set i #[Q0]) H s'->Q () s') (hf:X.fn x=true\/X.env.scope.names.lookup x=some .local:=by first | exact .inl rfl | exact .inr rfl | assumption):wpAny M A (storeName X.env x u) Q E s :=
 zfw I hN hi hx r (fun s' I' _=>h s' I') hf
theorem Inv.MD {ch:List Addr} (I:Inv X lN σ H s) (ho:s'.os=s.os) (u:Un (frs X.stack) ch H H' s.heap s'.heap) (hok:HOk X.prog X.w H' s'.heap) (hg:AllBare s'.gens)
  (ud:∀ b∈ch,(b∈X.ex\/X.s₀.heap.objs.size<=b)/\b≠X.env.locals/\(∀ x c,X.env.cells.lookup x=some c->c≠b)/\∀ p∈X.pn++lN,p.1≠b):Inv X lN σ H' s':=by
 obtain⟨h',g',d',t',o'⟩:=s';have e:o'=s.os:=ho;subst e;exact I.call (g':=g') (t':=t') (d':=d') u hok hg ud
end
abbrev XK:=Value->Option Addr->Hp->Prop
abbrev St:=List (Option V)
abbrev VK:=V->Hp->Prop
abbrev TE:=St->Hp->VK->Prop
abbrev TT:=St->Hp->(Bool->Hp->Prop)->Prop
abbrev TA:=St->Hp->(List V->Hp->Prop)->Prop
structure Ends where
 nx:St->Hp->Prop
 rt:VK
 bk:St->Hp->Prop:=fun _ _=>False
 ct:St->Hp->Prop:=fun _ _=>False
abbrev TS:=Ends->St->Hp->Prop
noncomputable def EP (X:Cx) (lN:List (Addr×Obj)) (σ:St) (Q:VK) (u:Value) (s':Shared):Prop:=∃ v H',Inv X lN σ H' s'/\RelV v u/\Q v H'
noncomputable def TP (X:Cx) (lN:List (Addr×Obj)) (σ:St) (Q:Bool->Hp->Prop) (b:Bool) (s':Shared):Prop:=∃ H',Inv X lN σ H' s'/\Q b H'
noncomputable def AP (X:Cx) (lN:List (Addr×Obj)) (σ:St) (Q:List V->Hp->Prop) (us:List Value) (s':Shared):Prop:=∃ vs H',Inv X lN σ H' s'/\zU vs us/\Q vs H'
noncomputable def SP (X:Cx) (lN:List (Addr×Obj)) (D:Ends) (f:Flow) (s':Shared):Prop :=
 match f with
 | .next=>∃ σ' H',Inv X lN σ' H' s'/\D.nx σ' H'
 | .brk=>∃ σ' H',Inv X lN σ' H' s'/\D.bk σ' H'
 | .cont=>∃ σ' H',Inv X lN σ' H' s'/\D.ct σ' H'
 | .ret u=>∃ v σ' H',Inv X lN σ' H' s'/\RelV v u/\D.rt v H'
noncomputable def PE (X:Cx) (e:Expr) (t:TE):Prop :=
 ∀ (lN:List (Addr×Obj)) (s:Shared) (σ:St) (H:Hp) (Q:VK),Inv X lN σ H s->t σ H Q->wpAny #[o0] X.A (eval e X.env) #[Nf] X.xe s
noncomputable def PT (X:Cx) (e:Expr) (t:TT):Prop :=
 ∀ (lN:List (Addr×Obj)) (s:Shared) (σ:St) (H:Hp) (Q:Bool->Hp->Prop),Inv X lN σ H s->t σ H Q->wpAny #[o0] X.A (isTrue e X.env (eval e X.env)) #[RB] X.xe s
noncomputable def PW (X:Cx) (e:Expr) (t:TT):Prop :=
 ∀ (whole:Sem Value) (lN:List (Addr×Obj)) (s:Shared) (σ:St) (H:Hp) (Q:Bool->Hp->Prop),Inv X lN σ H s->t σ H Q->wpAny #[o0] X.A (isTrue e X.env whole) #[RB] X.xe s
theorem PW.pt {X:Cx} {e:Expr} {t:TT} (h:PW X e t):PT X e t:=h _
noncomputable def PA (X:Cx) (es:List Expr) (t:TA):Prop :=
 ∀ (pos:Pos) (lN:List (Addr×Obj)) (s:Shared) (σ:St) (H:Hp) (Q:List V->Hp->Prop),Inv X lN σ H s->t σ H Q->wpAny #[o0] X.A (spliced #[P4]) (AP X lN σ Q) X.xe s
noncomputable def PS (X:Cx) (st:Stmt) (t:TS):Prop :=
 ∀ (lN:List (Addr×Obj)) (s:Shared) (σ:St) (H:Hp) (D:Ends),Inv X lN σ H s->t D σ H->wpAny #[o0] X.A (exec st X.env) (SP X lN D) X.xe s
noncomputable def PSs (X:Cx) (st:List Stmt) (t:TS):Prop :=
 ∀ (lN:List (Addr×Obj)) (s:Shared) (σ:St) (H:Hp) (D:Ends),Inv X lN σ H s->t D σ H->wpAny #[o0] X.A (execs st X.env) (SP X lN D) X.xe s
theorem thn {α:Type} {t:Sem α} {Q Q':α->Shared->Prop} {E:Value->Shared->Prop} (h:wpAny M A t Q E s) (hQ:∀ a s,Q a s->Q' a s):wpAny M A t Q' E s:=cE h hQ fun _ _ x=>x
section
variable {X:Cx}
noncomputable def zp3 (i:Nat):TE:=fun σ H Q=>∃ v,σ[i]? = some #[Q0]/\Q v H
noncomputable def tC (v:V):TE:=fun _ H Q=>Q v H
theorem zoV {i:Nat} {x:Str} (hN:X.N[i]? = some x) (hv:Vis X.env.scope x) (hd:(x == ("__debug__" : Str))=false:=by decide) (tf:(x == ("__classdict__" : Str))=false:=by decide):PE X #[QJ] (zp3 i):=by
 intro lN s σ H Q I h;obtain⟨v,e,h⟩:=h;obtain⟨m,hn,hl⟩:=I.loc;obtain⟨u,r,l⟩:=hl i x v hN e hv;have fin:EP X lN σ Q u s:=⟨v,H,I,r,h⟩;rcases l with ⟨hk,hm⟩ | ⟨hk,c,hc,qi⟩
 ·exact jw (gn I.ok.kind hk hn hm fin) hd
 ·rcases hk with hk | hk
  ·exact jw (jP I.ok.kind hk hc qi fin) hd
  ·exact jw (wpAny_loadName_free I.ok.kind hk hc qi fin tf) hd
theorem zg {i j pos}:PE X (.Constant (.int i) j pos) (tC (.int i)):=fun _ _ _ H _ I h=>j0 ⟨.int i,H,I.tok _,⟨_,rfl⟩,h⟩
theorem zfx {b j pos}:PE X (.Constant (.bool b) j pos) (tC (.bl b)):=fun _ _ _ H _ I h=>Constant_bool ⟨.bl b,H,I,rfl,h⟩
theorem zdN {j pos}:PE X (.Constant .none j pos) (tC .non):=fun _ _ _ H _ I h=>Constant_none ⟨.non,H,I,rfl,h⟩
noncomputable def Gl (X:Cx) (x:Str):Prop:=X.env.kindOf x=some .globalImplicit
theorem zna {E:Value->Shared->Prop} {σ:St} {x:Str} {u:Value} {Q:Value->Shared->Prop} (I:Inv X lN σ H s) (hg:Gl X x) (hm:X.mg x=some u) (h:Q u s)
  (hd:(x == ("__debug__" : Str))=false:=by decide):wpAny #[o0] X.A (eval #[QJ] X.env) Q E s :=
 ig I.ok.kind hg (Calls.loadGlobal_global (by rw [I.ok.glob]; exact I.mod.glob.keeps I.bk) hm h) hd
theorem zbr {E:Value->Shared->Prop} {σ:St} {x:Str} {u:Value} {Q:Value->Shared->Prop} (I:Inv X lN σ H s) (hg:Gl X x) (hm:X.mg x=none) (hv:bootBuiltins x=some u) (h:Q u s)
  (hn:x≠"__name__":=by decide) (hd:(x == ("__debug__" : Str))=false:=by decide):wpAny #[o0] X.A (eval #[QJ] X.env) Q E s:=by
 obtain⟨mb,h1,h2⟩:=I.mod.blt;exact ig I.ok.kind hg (Calls.loadGlobal_builtin (by rw [I.ok.glob]; exact I.mod.glob.keeps I.bk) hm (by rw [I.ok.blt]; exact h1.keeps I.bk) ((h2 x hn).trans hv) h) hd
variable {a b:Expr} {ta tb:TE} {pos:Pos}
variable {tA Ec:TT} {rest:List Expr}
noncomputable def zqB (t u:TT):TT:=fun σ H Q=>t σ H fun c H1=>if c=true then u σ H1 Q else Q false H1
noncomputable def tOr (t u:TT):TT:=fun σ H Q=>t σ H fun c H1=>if c=true then Q true H1 else u σ H1 Q
noncomputable def zqC (t:TT):TT:=fun σ H Q=>t σ H fun c H1=>Q (!c) H1
theorem zf8 (ha:PT X a tA):PW X (.BoolOp .And [a] pos) tA:=by
 intro wh lN s σ H Q I h;refine isTrue_and (thn (ha lN s σ H Q I h) fun c s1 e=>?_);cases c with
 | true=>exact isTrue_and_nil e
 | false=>exact e
theorem zla (ha:PT X a tA):PW X (.BoolOp .Or [a] pos) tA:=by
 intro wh lN s σ H Q I h;refine isTrue_or (thn (ha lN s σ H Q I h) fun c s1 e=>?_);cases c with
 | false=>exact isTrue_or_nil e
 | true=>exact e
theorem zf9 (ha:PT X a tA) (hb:PW X (.BoolOp .And (b :: rest) pos) Ec):PW X (.BoolOp .And (a :: b :: rest) pos) (zqB tA Ec):=by
 intro wh lN s σ H Q I h;refine isTrue_and (thn #[M1] fun c s1 ⟨H1,I1,q1⟩=>?_);cases c with
 | true=>exact hb wh lN s1 σ H1 Q I1 q1
 | false=>exact⟨H1,I1,q1⟩
theorem zou (ha:PT X a tA) (hb:PW X (.BoolOp .Or (b :: rest) pos) Ec):PW X (.BoolOp .Or (a :: b :: rest) pos) (tOr tA Ec):=by
 intro wh lN s σ H Q I h;refine isTrue_or (thn #[M1] fun c s1 ⟨H1,I1,q1⟩=>?_);cases c with
 | true=>exact⟨H1,I1,q1⟩
 | false=>exact hb wh lN s1 σ H1 Q I1 q1
theorem zoW (ha:PT X a tA):PT X (.UnaryOp .Not a pos) (zqC tA):=by
 intro lN s σ H Q I h;exact isTrue_not (ha lN s σ H (fun c H1=>Q (!c) H1) I h)
noncomputable def tIf (t:TT) (ta tb:TE):TE:=fun σ H Q=>t σ H fun c H1=>if c=true then ta σ H1 Q else tb σ H1 Q
theorem zlb {c:Expr} (hc:PT X c tA) (ha:PE X a ta) (hb:PE X b tb):PE X (.IfExp c a b pos) (tIf tA ta tb):=by
 intro lN s σ H Q I h;refine wpAny_IfExp (thn (hc lN s σ H _ I h) fun d s1 ⟨H1,I1,q1⟩=>?_);cases d with
 | true=>exact ha lN s1 σ H1 Q I1 q1
 | false=>exact hb lN s1 σ H1 Q I1 q1
end
noncomputable def lO (K:ah) (H:Hp) (a:Addr) (xs:List V):Prop :=
 Rd H a #[Ob] \/
  ∃ (o:Obj) (lQ:Array Value) (n:Nat),K.lookup a=some o/\o.cls = .type "list"/\o.dict=none/\o.data = .seq lQ n/\lQ.size<=sizeLine/\zU xs lQ.toList
noncomputable def lY (K:ah) (H:Hp) (a:Addr) (xs:List V):Prop :=
 Rd H a #[P8] \/
  ∃ (o:Obj) (lQ:Array Value) (n:Nat),K.lookup a=some o/\o.cls = .type "tuple"/\o.data = .seq lQ n/\lQ.size<=sizeLine/\zU xs lQ.toList
noncomputable def zqD:Value->Option V
 | .none=>some .non
 | .bool b=>some (.bl b)
 | .int i _=>some (.int i)
 | .str x _=>some (.str x)
 | .bytes b _=>some (.byt b)
 | .float b _=>some (.flt b)
 | .ref a=>some #[M8]
 | .type n=>some (.ty n)
 | _=>none
theorem RelV.abs {x:V} {u:Value} (r:RelV x u):zqD u=some x:=by
 cases x with
 | non=>cases r; rfl
 | bl _=>cases r; rfl
 | int _=>obtain⟨t,rfl⟩:=r; rfl
 | str _=>obtain⟨t,rfl⟩:=r; rfl
 | byt _=>obtain⟨t,rfl⟩:=r; rfl
 | flt _=>obtain⟨t,rfl⟩:=r; rfl
 | ref _=>cases r; rfl
 | ty _=>cases r; rfl
theorem RelV.inj {x:V} {u:Value} (r:RelV x u) (q:RelV y u):x=y:=aS (r.abs.symm.trans q.abs)
theorem zU.inj:∀ {xs ys:List V} {us:List Value},zU xs us->zU ys us->xs=ys
 | _,_,_,.nil,.nil=>rfl
 | _,_,_,.cons r t,.cons r' t'=>by rw [r.inj r',zU.inj t t']
section
variable {X:Cx} {lN:List (Addr×Obj)} {σ:St} {H:Hp} {s:Shared} {a:Addr} {xs ys:List V}
theorem lO.of {K:ah} (h:H a=some #[Ob]):lO K H a xs:=.inl (.inl h)
theorem lY.of {K:ah} (h:H a=some #[P8]):lY K H a xs:=.inl (.inl h)
theorem Inv.list (I:Inv X lN σ H s) (h:lO X.K H a xs):∃ lQ:List Value,zU xs lQ/\PlainL s.heap a lQ.toArray/\xs.length<=sizeLine:=by
 rcases h with h | ⟨o,lQ,n,hk,hc,hd,hs,hz,r⟩
 ·obtain⟨z,lQ,n,r,e⟩:=h.ok I.hok;exact⟨lQ,r,⟨_,n,e,rfl,rfl,rfl⟩,z⟩
 ·refine⟨lQ.toList,r,⟨o,n,I.kIn a o hk,hc,hd,by simpa using hs⟩,?_⟩;have e:=r.length;simp only [bG] at e;lia
theorem Inv.tuple (I:Inv X lN σ H s) (h:lY X.K H a xs):∃ lQ:List Value,zU xs lQ/\IsTup s.heap a lQ.toArray/\xs.length<=sizeLine:=by
 rcases h with h | ⟨o,lQ,n,hk,hc,hs,hz,r⟩
 ·obtain⟨z,lQ,r,p⟩:=h.ok I.hok;exact⟨lQ,r,p,z⟩
 ·refine⟨lQ.toList,r,⟨o,I.kIn a o hk,hc,n,by simpa using hs⟩,?_⟩;have e:=r.length;simp only [bG] at e;lia
theorem Inv.Jp (I:Inv X lN σ H s) (h:lO X.K H a xs) (h':lO X.K H a ys):xs=ys:=by
 obtain⟨lQ,r,⟨o,n,e,_,_,d⟩,_⟩:=I.list h;obtain⟨its',r',⟨o',n',e',_,_,d'⟩,_⟩:=I.list h';rw [e] at e'; cases e';rw [d] at d';injection d' with d1 _
 have:lQ=its':=by simpa using congrArg lJ d1
 subst this;exact r.inj r'
theorem Inv.JP (I:Inv X lN σ H s) (h:lY X.K H a xs) (h':lY X.K H a ys):xs=ys:=by
 obtain⟨lQ,r,⟨o,e,_,n,d⟩,_⟩:=I.tuple h;obtain⟨its',r',⟨o',e',_,n',d'⟩,_⟩:=I.tuple h';rw [e] at e'; cases e';rw [d] at d';injection d' with d1 _
 have:lQ=its':=by simpa using congrArg lJ d1
 subst this;exact r.inj r'
end
abbrev Cx.LH (X:Cx) (E:Value->Shared->Prop):Cx:={ X with xe:=E }
abbrev Cx.nox (X:Cx):Cx:=X.LH fun _ _=>False
theorem Cx.Ok.LH (ok:X.Ok) (E:Value->Shared->Prop):(X.LH E).Ok :=
 ⟨ok.mod,ok.kind,ok.glob,ok.blt,ok.above,ok.inj,ok.has,ok.cab,ok.hd,ok.frames,ok.stk,ok.exf,ok.bs,ok.bsz,ok.Ma,ok.Mk,ok.LC,ok.frf⟩
theorem Cx.Ok.J6 {E:Value->Shared->Prop} (ok:(X.LH E).Ok):X.Ok :=
 ⟨ok.mod,ok.kind,ok.glob,ok.blt,ok.above,ok.inj,ok.has,ok.cab,ok.hd,ok.frames,ok.stk,ok.exf,ok.bs,ok.bsz,ok.Ma,ok.Mk,ok.LC,ok.frf⟩
section
variable {X:Cx} {lN:List (Addr×Obj)} {σ:St} {H:Hp} {s:Shared} {E:Value->Shared->Prop}
theorem Inv.LH (I:Inv X lN σ H s) (E:Value->Shared->Prop):Inv (X.LH E) lN σ H s:=⟨I.ok.LH E,I.os,I.bare,I.base,I.loc,I.cell,I.free,I.JZ,I.pin,I.hok,I.len⟩
theorem Inv.J6 (I:Inv (X.LH E) lN σ H s):Inv X lN σ H s:=⟨I.ok.J6,I.os,I.bare,I.base,I.loc,I.cell,I.free,I.JZ,I.pin,I.hok,I.len⟩
theorem SP.J6 {D:Ends} {f:Flow} (h:SP (X.LH E) lN D f s'):SP X lN D f s':=by
 cases f with
 | next=>obtain⟨σ',H',I,q⟩:=h; exact⟨σ',H',I.J6,q⟩
 | brk=>obtain⟨σ',H',I,q⟩:=h; exact⟨σ',H',I.J6,q⟩
 | cont=>obtain⟨σ',H',I,q⟩:=h; exact⟨σ',H',I.J6,q⟩
 | ret u=>obtain⟨v,σ',H',I,r,q⟩:=h; exact⟨v,σ',H',I.J6,r,q⟩
theorem PSs.nox {st:List Stmt} {t:TS} (h:PSs X.nox st t):PSs X st t:=fun lN s σ H D I hw =>
 cE (h lN s σ H D (I.LH _) hw) (fun _ _ q=>q.J6) fun _ _ z=>eh z
end
section
variable {X:Cx} {st:Stmt} {rest:List Stmt} {t u:TS} {e:Expr} {te:TE} {pos:Pos}
noncomputable def zp4:TS:=fun D σ H=>D.nx σ H
noncomputable def zbq (t u:TS):TS:=fun D σ H=>t { D with nx:=u D } σ H
theorem zam:PSs X [] zp4:=fun _ _ σ H _ I h=>gp ⟨σ,H,I,h⟩
theorem zd (h1:PS X st t) (h2:PSs X rest u):PSs X (st :: rest) (zbq t u):=by
 intro lN s σ H D I h;refine wpAny_execs_cons (thn (h1 lN s σ H { D with nx:=u D } I h) fun f s1 q=>?_);cases f with
 | next =>
  obtain⟨σ',H',I',q⟩:=q;exact h2 lN s1 σ' H' D I' q
 | ret v=>exact q
 | brk=>exact q
 | cont=>exact q
theorem zl (h1:PS X st t):PSs X [st] t:=by
 intro lN s σ H D I h;refine wpAny_execs_cons (thn (h1 lN s σ H D I h) fun f s1 q=>?_);cases f with
 | next=>exact gp q
 | ret v=>exact q
 | brk=>exact q
 | cont=>exact q
noncomputable def zoX:TS:=fun D σ H=>D.bk σ H
theorem zlc:PS X (.Break pos) zoX:=fun _ _ σ H _ I h=>wpAny_Break ⟨σ,H,I,h⟩
theorem Inv.quiet {σ:St} (I:Inv X lN σ H s):interactive X.env=false:=by simp [interactive,I.ok.kind]
noncomputable def zp5 (te:TE):TS:=fun D σ H=>te σ H fun _ H1=>D.nx σ H1
theorem zbR (he:PE X e te) (hs:swapsWith e none pos.line X.env=pure false:=by rfl):PS X (.Expr e pos) (zp5 te):=by
 intro lN s σ H D I h;exact wpAny_Expr_any (thn #[No] fun v s1 ⟨x,H1,I1,r1,q1⟩=>⟨σ,H1,I1,q1⟩) I.quiet hs
noncomputable def zqE (te:TE):TS:=fun D σ H=>te σ H D.rt
theorem zN (he:PE X e te):PS X (.Return (some e) pos) (zqE te):=by
 intro lN s σ H D I h;exact wpAny_Return_some (thn #[No] fun v s1 ⟨x,H1,I1,r1,q1⟩=>⟨x,σ,H1,I1,r1,q1⟩)
noncomputable def zqF (c:TT) (t u:TS):TS:=fun D σ H=>c σ H fun b H1=>if b=true then t D σ H1 else u D σ H1
theorem zbo {c:Expr} {a b:List Stmt} {tc:TT} (hc:PT X c tc) (ha:PSs X a t) (hb:PSs X b u):PS X (.If c a b pos) (zqF tc t u):=by
 intro lN s σ H D I h;refine wpAny_If (thn (hc lN s σ H _ I h) fun d s1 ⟨H1,I1,q1⟩=>?_);cases d with
 | true=>exact ha lN s1 σ H1 D I1 q1
 | false=>exact hb lN s1 σ H1 D I1 q1
noncomputable def zoY:TS:=fun _ _ _=>False
theorem zdO {sts:List Stmt}:PSs X sts zoY:=fun _ _ _ _ _ _ h=>h.elim
end
abbrev TG:=V->St->Hp->(St->Hp->Prop)->Prop
abbrev TGs:=List V->St->Hp->(St->Hp->Prop)->Prop
noncomputable def PG (X:Cx) (target:Expr) (t:TG):Prop :=
 ∀ (lN:List (Addr×Obj)) (s:Shared) (σ:St) (H:Hp) (v:V) (u:Value) (Q:St->Hp->Prop),Inv X lN σ H s->RelV v u->t v σ H Q ->
  wpAny #[o0] X.A (assign target X.env u) (fun _ s'=>∃ σ' H',Inv X lN σ' H' s'/\Q σ' H') X.xe s
noncomputable def PGs (X:Cx) (ts:List Expr) (t:TGs):Prop :=
 ∀ (lN:List (Addr×Obj)) (s:Shared) (σ:St) (H:Hp) (vs:List V) (us:List Value) (Q:St->Hp->Prop),Inv X lN σ H s->zU vs us->t vs σ H Q ->
  wpAny #[o0] X.A (assignInOrder ((assignEach ts X.env).map (·.2)) us) (fun _ s'=>∃ σ' H',Inv X lN σ' H' s'/\Q σ' H') X.xe s
abbrev zoZ:=V->V->V->Hp->(Hp->Prop)->Prop
noncomputable def zp6 (X:Cx) (t:zoZ):Prop :=
 ∀ (lN:List (Addr×Obj)) (s:Shared) (σ:St) (H:Hp) (o i v:V) (ov iv u:Value) (Q:Hp->Prop),Inv X lN σ H s->RelV o ov->RelV i iv->RelV v u->t o i v H Q ->
  wpAny #[o0] X.A (setItem ov iv u) (fun _ s'=>∃ H',Inv X lN σ H' s'/\Q H') X.xe s
abbrev TIp:=V->V->Hp->VK->Prop
noncomputable def PIp (X:Cx) (op:Operator) (t:TIp):Prop :=
 ∀ (lN:List (Addr×Obj)) (s:Shared) (σ:St) (H:Hp) (x y:V) (v u:Value) (Q:VK),Inv X lN σ H s->RelV x v->RelV y u->t x y H Q ->
  wpAny #[o0] X.A (inplaceOp op v u) #[Nf] X.xe s
section
variable {X:Cx} {pos:Pos}
noncomputable def zbb (i:Nat):TG:=fun v σ H Q=>Q (σ.set i #[Q0]) H
theorem zf {i:Nat} {x:Str} (hN:X.N.Nodup) (hi:X.N[i]? = some x) (hx:Loc X.env.scope x) (hf:X.fn x=true\/X.env.scope.names.lookup x=some .local:=by first | exact .inl rfl | exact .inr rfl | assumption):PG X #[QJ] (zbb i):=by
 intro lN s σ H v u Q I r h;exact wpAny_assign_Name (zew I hN hi hx r (fun s' I'=>⟨_,H,I',h⟩) hf)
noncomputable def zit:TGs:=fun vs σ H Q=>vs = []/\Q σ H
noncomputable def zcg (t:TG) (u:TGs):TGs:=fun vs σ H Q=>∃ v r,vs=v :: r/\t v σ H fun σ' H'=>u r σ' H' Q
theorem zy:PGs X [] zit:=by
 intro lN s σ H vs us Q I r h;obtain⟨e,h⟩:=h;subst e;cases r;exact assignInOrder_nil ⟨σ,H,I,h⟩
theorem zh {e:Expr} {es:List Expr} {t:TG} {u:TGs} (h1:PG X e t) (h2:PGs X es u)
  (hs:(assignEach (e :: es) X.env).map (·.2)=assign e X.env :: #[NY].map (·.2):=by rfl):PGs X (e :: es) (zcg t u):=by
 intro lN s σ H vs us Q I r h;obtain⟨v,vr,e1,h⟩:=h;subst e1;cases r with
 | cons r rr =>
  rw [hs];refine assignInOrder_cons (thn (h1 lN s σ H _ _ _ I r h) fun _ s1 ⟨σ1,H1,I1,q1⟩=>?_);exact h2 lN s1 σ1 H1 _ _ Q I1 rr q1
noncomputable def zhd (K:ah) (n:Nat) (t:TGs):TG:=fun v σ H Q=>∃ a xs,v = .ref a/\lY K H a xs/\xs.length=n/\t xs σ H Q
theorem zaE {es:List Expr} {k:Nat} {t:TGs} {n:Nat} (hc:X.calm=true) (h:PGs X es t)
  (hn:#[NY].length=n:=by rfl) (qZ:#[NY].findIdx? (·.1)=none:=by rfl):PG X #[Om] (zhd X.K n t):=by
 intro lN s σ H v u Q I r hw;obtain⟨a,xs,e1,hq,hl,hw⟩:=hw;subst e1;cases r;obtain⟨lQ,rv,ht,hz⟩:=I.tuple hq;refine assign_Tuple_tuple #[Na] ht (by simp [hn,<- hl,rv.length]) qZ fun h' hx=>?_
 have I1:Inv X lN σ H { s with heap:=h' }:=I.kept (t':=s.toks) fun b o e=>hx b o (a8 (aF e)) e
 exact h lN _ σ H xs _ Q I1 (by simpa using rv) hw
noncomputable def zqG (to ti:TE) (t:zoZ):TG:=fun v σ H Q=>to σ H fun o H1=>ti σ H1 fun i H2=>t o i v H2 fun H3=>Q σ H3
theorem zo0 {o i:Expr} {to ti:TE} {t:zoZ} (ho:PE X o to) (hi:PE X i ti) (hs:zp6 X t)
  (ha:∀ v,assign #[QQ] X.env v=(do
   let ov <- holding [v] #[Qc]
   let iv <- holding [v,ov] (eval i X.env)
   standAt pos
   holding [v,ov,iv] (setItem ov iv v)
   release [v,ov,iv] []):=by intro _; rfl):PG X #[QQ] (zqG to ti t):=by
 intro lN s σ H v u Q I r h;rw [ha];refine ae (cm (thn #[Og] fun ov s1 ⟨x,H1,I1,r1,q1⟩=>?_));refine ae (cm (thn (hi lN s1 σ H1 _ I1 q1) fun iv s2 ⟨y,H2,I2,r2,q2⟩=>?_));refine ae (fm (ae (cm (thn (hs lN s2 σ H2 x y v ov iv u _ I2 r1 r2 r q2) fun _ s3 ⟨H3,I3,q3⟩=>?_))));exact wpAny_release ⟨σ,H3,I3,q3⟩
noncomputable def ziu (te:TE) (g:TG):TS:=fun D σ H=>te σ H fun x H1=>g x σ H1 D.nx
theorem zbs {tg e:Expr} {te:TE} {g:TG} (he:PE X e te) (hg:PG X tg g) (hs:swapsWithSole [tg] e pos.line X.env=pure false:=by rfl) (hw:swappedStores [tg] e X.env=pure none:=by rfl)
  (h1:(assignEach [tg] X.env).map (·.2) = [assign tg X.env]:=by rfl):PS X (.Assign [tg] e pos) (ziu te g):=by
 intro lN s σ H D I h;refine wpAny_Assign_stores (thn #[No] fun v s1 ⟨x,H1,I1,r1,q1⟩=>?_) hs hw;rw [h1];exact thn (hg lN s1 σ H1 x v _ I1 r1 q1) fun _ s2 q=>q
theorem zm {i:Nat} {x:Str} {e:Expr} {te:TE} {pos':Pos} (hN:X.N.Nodup) (hi:X.N[i]? = some x) (hx:Loc X.env.scope x) (he:PE X e te) (hs:swapsWith e (some #[NP]) pos.line X.env=pure false:=by rfl) (hf:X.fn x=true\/X.env.scope.names.lookup x=some .local:=by first | exact .inl rfl | exact .inr rfl | assumption) :
  PS X (.Assign [.Name x pos'] e pos) (ziu te (zbb i)):=by
 intro lN s σ H D I h;refine wpAny_Assign_Name (thn #[No] fun v s1 ⟨y,H1,I1,r1,q1⟩=>?_) hs;exact zew I1 hN hi hx r1 (fun s2 I2=>⟨_,H1,I2,q1⟩) hf
noncomputable def zqH (i:Nat) (te:TE) (ti:TIp):TS:=fun D σ H=>∃ x,σ[i]? = some (some x)/\te σ H fun y H1=>ti x y H1 fun z H2=>D.nx (σ.set i (some z)) H2
theorem ziv {i:Nat} {x:Str} {e:Expr} {te:TE} {op:Operator} {ti:TIp} {pos':Pos} (hN:X.N.Nodup) (hi:X.N[i]? = some x) (hx:Loc X.env.scope x) (he:PE X e te) (ho:PIp X op ti) (hf:X.fn x=true\/X.env.scope.names.lookup x=some .local:=by first | exact .inl rfl | exact .inr rfl | assumption) :
  PS X (.AugAssign #[NP] op e pos) (zqH i te ti):=by
 intro lN s σ H D I h;obtain⟨v,e1,h⟩:=h;obtain⟨m,hn,hl⟩:=I.loc;have vis:Vis X.env.scope x:=by rcases hx with k | k; exact .inl k; exact .inr (.inl k)
 obtain⟨u,r,l⟩:=hl i x v hi e1 vis;refine wpAny_AugAssign_Name ?_;have go:wpAny #[o0] X.A (eval e X.env) (fun w s₂=>wpAny #[o0] X.A (inplaceOp op u w) (fun r s₃=>wpAny #[o0] X.A (storeName X.env x r) (fun _=>SP X lN D .next) X.xe s₃) X.xe s₂) X.xe s:=by
  refine thn #[No] fun w s1 ⟨y,H1,I1,r1,q1⟩=>?_
  refine thn (ho lN s1 σ H1 v y u w _ I1 r r1 q1) fun z s2 ⟨zv,H2,I2,r2,q2⟩=>?_
  exact zew I2 hN hi hx r2 (fun s3 I3=>⟨_,H2,I3,q2⟩) hf
 rcases l with ⟨hk,hm⟩ | ⟨hk,c,hc,qi⟩
 ·exact gn I.ok.kind hk hn hm go
 ·rcases hk with hk | hk
  ·exact jP I.ok.kind hk hc qi go
  ·rcases hx with k | k
   ·have:X.env.scope.names.lookup x=some .free:=hk;rw [k] at this; cases this
   ·have:X.env.scope.names.lookup x=some .free:=hk;rw [k] at this; cases this
noncomputable def zld (c:TT) (tb:TS):TS:=fun D σ H=>∃ W:Nat->St->Hp->Prop,(∃ m,W m σ H)/\∀ m σ H,W m σ H ->
 c σ H fun b H1=>if b=true then ∃ N:St->Hp->Prop,(∀ σ' H',N σ' H'->∃ m',m' < m/\W m' σ' H')/\tb { D with nx:=N,ct:=N,bk:=D.nx } σ H1 else D.nx σ H1
theorem zhe {c:Expr} {body:List Stmt} {tc:TT} {tb:TS} (hp:PassesOwn #[o0] X.A X.env X.xe) (hc:PT X c tc) (hb:PSs X body tb):PS X (.While c body [] pos) (zld tc tb):=by
 intro lN s σ H D I h;obtain⟨W,⟨m0,w0⟩,turn⟩:=h;refine wpAny_While (codeAny_whileLoop (fun n s'=>∃ σ' H',Inv X lN σ' H' s'/\W n σ' H') ?_ m0 ⟨σ,H,I,w0⟩);rintro n s1 ⟨σ1,H1,I1,w1⟩;refine d6 hp (thn (hc lN s1 σ1 H1 _ I1 (turn n σ1 H1 w1)) fun b s2 ⟨H2,I2,q2⟩=>?_);cases b with
 | true =>
  obtain⟨N,hN,q2⟩:=q2;rw [if_pos rfl];refine d6 hp (thn (hb lN s2 σ1 H2 _ I2 q2) fun f s3 q3=>?_);cases f with
  | next =>
   obtain⟨σ3,H3,I3,n3⟩:=q3;obtain⟨m',hm,w3⟩:=hN σ3 H3 n3;exact⟨m',hm,σ3,H3,I3,w3⟩
  | cont =>
   obtain⟨σ3,H3,I3,n3⟩:=q3;obtain⟨m',hm,w3⟩:=hN σ3 H3 n3;exact⟨m',hm,σ3,H3,I3,w3⟩
  | brk=>exact q3
  | ret v=>exact q3
 | false =>
  rw [if_neg aQ];exact gp ⟨σ1,H2,I2,q2⟩
end
structure It where
 go:Nat->Hp->Prop
 yld:Nat->Hp->V->Hp->Prop
 stop:Nat->Hp->Prop
noncomputable def zca (X:Cx) (lN:List (Addr×Obj)) (H:Hp) (b:Addr):Prop :=
 H b=none/\b≠X.env.locals/\b∉X.fs/\(b∈X.ex\/X.s₀.heap.objs.size<=b)/\(∀ x c,X.env.cells.lookup x=some c->c≠b)/\∀ p∈X.pn++lN,p.1≠b
theorem Inv.KY {σ:St} {b:Addr} (I:Inv X lN σ H s) (hb:s.heap.objs.size<=b) (hn:H' b=none):zca X lN H' b:=by
 refine⟨hn,de (ba I.lt hb),I.MJ hb,.inr (aV I.sz hb),fun x c e z=>?_,fun p hp z=>?_⟩
 ·obtain⟨v,q⟩:=I.cell x c e;exact absurd (ba q.lt (by rw [z]; exact hb)) (cg _)
 ·exact absurd (ba (aF (I.pin p hp).1) (by rw [z]; exact hb)) (cg _)
structure Turn (P:Program) (w:World) (K:ah) (tg:Expr) (J:It) (fp:List Addr) (it:Addr) (tn:Nat->Heap->Prop):Prop where
 mem:it∈fp
 obj:∀ i h,tn i h->∀ b∈fp,∃ o,h.get? b=some o/\∀ v,o.data≠.cell v
 keep:∀ i h h',tn i h->(∀ b∈fp,∀ o,h.get? b=some o->h'.get? b=some o)->tn i h'
 item:∀ (X:Cx),X.prog=P->X.w=w->X.K=K->X.calm=true->∀ (i:Nat) (lN:List (Addr×Obj)) (s:Shared) (σ:St) (H:Hp) (E:Value->Shared->Prop),Inv X lN σ H s->(∀ b∈fp,zca X lN H b)->tn i s.heap->J.go i H ->
  wpAny #[Ph] X.A #[PB] (fun r s1=>∃ u,r=some u /\
   wpAny #[Ph] X.A #[SX] (fun _ s2=>∃ x H',Inv X lN σ H' s2/\RelV x u/\J.yld i H x H'/\tn (i+1) s2.heap/\∀ b∈fp,H' b=none) E s1) E s
 done:∀ (X:Cx),X.prog=P->X.w=w->X.K=K->X.calm=true->∀ (i:Nat) (lN:List (Addr×Obj)) (s:Shared) (σ:St) (H:Hp) (E:Value->Shared->Prop),Inv X lN σ H s->(∀ b∈fp,zca X lN H b)->tn i s.heap->J.stop i H ->
  wpAny #[Ph] X.A #[PB] (fun r s1=>r=none/\Inv X lN σ H s1) E s
 self:∀ (A:Around) (i:Nat) (s:Shared) (Q:Value->Shared->Prop) (E:Value->Shared->Prop),tn i s.heap->Q #[NA] s->wpAny #[Ph] A (pyIter #[NA]) Q E s
abbrev TI:=St->Hp->(It->Hp->Prop)->Prop
noncomputable def PIE (X:Cx) (lN:List (Addr×Obj)) (σ:St) (tg:Expr) (R:It->Hp->Prop) (y8:Value) (s2:Shared):Prop :=
 ∃ (it:Addr) (fp:List Addr) (tn:Nat->Heap->Prop) (J:It) (H':Hp),y8 = .ref it/\Inv X lN σ H' s2/\Turn X.prog X.w X.K tg J fp it tn/\tn 0 s2.heap/\(∀ b∈fp,zca X lN H' b)/\R J H'
noncomputable def PI (X:Cx) (tg iter:Expr) (wi:TI):Prop :=
 ∀ (lN:List (Addr×Obj)) (s:Shared) (σ:St) (H:Hp) (R:It->Hp->Prop),Inv X lN σ H s->wi σ H R ->
  wpAny #[o0] X.A (eval iter X.env) (fun v s1=>wpAny #[o0] X.A (pyIter v) (PIE X lN σ tg R) X.xe s1) X.xe s
theorem zfy {E:Value->Shared->Prop} {u:Value} {o:Obj} {n:String} {vs:Array Value} {Q:Unit->Shared->Prop} (ho:s.heap.get? it=some o) (hc:o.cls = .type n) (hd:o.data = .fields vs)
  (hn:["enumerate","zip","dict_itemiterator","dict_reverseitemiterator","odict_iterator","itertools.zip_longest","itertools.pairwise"].contains n=false) (hQ:Q () s):wpAny M A #[SX] Q E s:=by
 unfold letOwnedTupleGo;cases tg <;> first
  | exact ao hQ
  | (cases u <;> first
    | exact ao hQ
    | (refine ae (wpAny_load ho ?_)
       rw [hc,hd];show wpAny M A (if (["enumerate","zip","dict_itemiterator","dict_reverseitemiterator","odict_iterator","itertools.zip_longest","itertools.pairwise"].contains n && vs[0]? == some (rawInt _))=true then _ else _) Q E s;rw [if_neg (by intro h; rw [hn,Bool.false_and] at h; cases h)];exact ao hQ))
noncomputable def Itl (K:ah) (a:Addr):It :=
 ⟨fun i H=>∃ xs x,lO K H a xs/\xs[i]? = some x,fun i H x H'=>H'=H/\∀ xs,lO K H a xs->xs[i]? = some x,fun i H=>∃ xs,lO K H a xs/\xs.length<=i⟩
noncomputable def Itt (K:ah) (a:Addr):It :=
 ⟨fun i H=>∃ xs x,lY K H a xs/\xs[i]? = some x,fun i H x H'=>H'=H/\∀ xs,lY K H a xs->xs[i]? = some x,fun i H=>∃ xs,lY K H a xs/\xs.length<=i⟩
noncomputable def Itr (lo:Int) (n:Nat):It:=⟨fun i _=>i < n,fun i H x H'=>H'=H/\x = .int (lo+i),fun i _=>n<=i⟩
theorem zfz {K:ah} (a it:Addr):Turn P w K tg #[Sb] [it] it (fun i h=>h.IsListIter it a i) where
 mem:=by simp
 obj:=fun i h st b hb=>by
  have e:b=it:=by simpa using hb
  subst e;obtain⟨o,e,c,d⟩:=st;exact⟨o,e,fun v z=>by rw [d] at z; cases z⟩
 keep:=fun i h h' st k=>st.at fun o e=>k it #[M] o e
 item:=by
  intro X hP hw hK hc i lN s σ H E I hf st hg;subst hP hw hK;obtain⟨xs,x,hq,hx⟩:=hg;obtain⟨lQ,rv,p,hz⟩:=I.list hq;obtain⟨u,hu,ru⟩:=rv.get hx;obtain⟨f0,f1,f2,f3,f4,f5⟩:=hf it #[M];refine wpAny_pyNext_list_item st p.isList (x:=u) (by simpa using hu) fun h' lS sb=>?_
  have I1:Inv X lN σ H { s with heap:=h' }:=I.turned (t':=s.toks) (fun b o hb e=>(sb.2 b hb).trans e) f0 f1 f3 f4 f5;obtain⟨o,e,c,d⟩:=id lS;exact⟨u,rfl,zfy (s:={ s with heap:=h' }) e c d #[D] ⟨x,H,I1,ru,⟨rfl,fun ys hy=>by rw [I.Jp hy hq]; exact hx⟩,lS,fun b hb=>(hf b hb).1⟩⟩
 done:=by
  intro X hP hw hK hc i lN s σ H E I hf st hg;subst hP hw hK;obtain⟨xs,hq,hx⟩:=hg;obtain⟨lQ,rv,p,hz⟩:=I.list hq;obtain⟨f0,f1,f2,f3,f4,f5⟩:=hf it #[M];have hl:=rv.length;exact wpAny_pyNext_list_end #[Na] st p.isList (by simp; lia) fun h' eb=>#[sK]
 self:=fun _ _ _ _ _ st h=>wpAny_pyIter_listiter st h
theorem ziw {K:ah} (a it:Addr):Turn P w K tg (Itt K a) [it] it (fun i h=>h.IsTupleIter it a i) where
 mem:=by simp
 obj:=fun i h st b hb=>by
  have e:b=it:=by simpa using hb
  subst e;obtain⟨o,e,c,d⟩:=st;exact⟨o,e,fun v z=>by rw [d] at z; cases z⟩
 keep:=fun i h h' st k=>st.at fun o e=>k it #[M] o e
 item:=by
  intro X hP hw hK hc i lN s σ H E I hf st hg;subst hP hw hK;obtain⟨xs,x,hq,hx⟩:=hg;obtain⟨lQ,rv,p,hz⟩:=I.tuple hq;obtain⟨u,hu,ru⟩:=rv.get hx;obtain⟨f0,f1,f2,f3,f4,f5⟩:=hf it #[M];refine wpAny_pyNext_tuple_item st (show s.heap.IsTuple a lQ.toArray from p) (x:=u) (by simpa using hu) fun h' lS sb=>?_
  have I1:Inv X lN σ H { s with heap:=h' }:=I.turned (t':=s.toks) (fun b o hb e=>(sb.2 b hb).trans e) f0 f1 f3 f4 f5;obtain⟨o,e,c,d⟩:=id lS;exact⟨u,rfl,zfy (s:={ s with heap:=h' }) e c d #[D] ⟨x,H,I1,ru,⟨rfl,fun ys hy=>by rw [I.JP hy hq]; exact hx⟩,lS,fun b hb=>(hf b hb).1⟩⟩
 done:=by
  intro X hP hw hK hc i lN s σ H E I hf st hg;subst hP hw hK;obtain⟨xs,hq,hx⟩:=hg;obtain⟨lQ,rv,p,hz⟩:=I.tuple hq;obtain⟨f0,f1,f2,f3,f4,f5⟩:=hf it #[M];have hl:=rv.length;exact wpAny_pyNext_tuple_end #[Na] st (show s.heap.IsTuple a lQ.toArray from p) (by simp; lia) fun h' eb=>#[sK]
 self:=fun _ _ _ _ _ st h=>wpAny_pyIter_tupleiter st h
theorem zix {K:ah} (it:Addr) (lo:Int) (n:Nat):Turn P w K tg (Itr lo n) [it] it (fun i h=>IsRangeIter h it (lo+(i:Nat)*1) ((n:Int) - (i:Nat)) 1) where
 mem:=by simp
 obj:=fun i h st b hb=>by
  have e:b=it:=by simpa using hb
  subst e;exact⟨_,st,fun v z=>by
   have z':kC _=Data.cell v:=z;cases z'⟩
 keep:=fun i h h' st k=>k it #[M] _ st
 item:=by
  intro X hP hw hK hc i lN s σ H E I hf st hg;subst hP hw hK;obtain⟨f0,f1,f2,f3,f4,f5⟩:=hf it #[M];have W:=Walks.range (prog:=X.prog) (w:=X.w) #[Na] it lo 1 n;refine W.item i s _ _ hg st fun v h' tk hv lS kk=>?_
  obtain⟨t,rfl⟩:=hv;have I1:Inv X lN σ H { s with heap:=h',toks:=tk }:=I.turned (fun b o hb e=>kk b o (by simpa using hb) e) f0 f1 f3 f4 f5;refine⟨_,rfl,zfy (s:={ s with heap:=h',toks:=tk }) (n:="range_iterator") lS rfl rfl #[D] ⟨.int (lo+i),H,I1,⟨t,?_⟩,⟨rfl,rfl⟩,lS,fun b hb=>(hf b hb).1⟩⟩;rw [Int.mul_one]
 done:=by
  intro X hP hw hK hc i lN s σ H E I hf st hg;subst hP hw hK;obtain⟨f0,f1,f2,f3,f4,f5⟩:=hf it #[M];exact wpAny_pyNext_range_end #[Na] st (by have:n<=i:=hg; lia) fun h' eb=>#[sK]
 self:=fun _ _ _ _ _ st h=>wpAny_pyIter_rangeiter st h
section
variable {X:Cx} {tg:Expr}
noncomputable def zov (K:ah) (tl:TE):TI:=fun σ H R=>tl σ H fun x H1=>∃ a,x = .ref a/\(∃ xs,lO K H1 a xs)/\R #[Sb] H1
theorem z8 {l:Expr} {tl:TE} (hl:PE X l tl):PI X tg l (zov X.K tl):=by
 intro lN s σ H R I h;refine thn #[QN] fun v s1 ⟨x,H1,I1,r1,q1⟩=>?_
 obtain⟨a,e,⟨xs,hq⟩,q⟩:=q1;subst e;cases r1;obtain⟨lQ,rv,p,hz⟩:=I1.list hq;refine fW p.isList ?_;refine⟨s1.heap.objs.size,[s1.heap.objs.size],_,_,H1,rfl,I1.kept (t':=s1.toks) fun b o e=>ai _ e,zfz a _,⟨_,aE _ rfl,rfl,rfl⟩,fun b hb=>?_,q⟩;have e:b=s1.heap.objs.size:=by simpa using hb
 subst e;exact I1.KY (af _) #[Ni]
theorem zhf {σ:St} {E:Value->Shared->Prop} {lo hi:Int} {t u v:Tok} (I:Inv X lN σ H s) (h1:-(2 ^ 62)<=lo) (h2:lo < 2 ^ 62) (h3:-(2 ^ 62)<=hi) (h4:hi < 2 ^ 62)
  (q:R (Itr lo (hi - lo).toNat) H):wpAny #[o0] X.A (pyIter #[ss]) (PIE X lN σ tg R) E { s with heap:=s.heap.push { cls:=.type "range",data:=.fields #[IO] },toks:=tk }:=by
 refine wpAny_pyIter_range (IsRange.new ..) (small_one h1 h2 h3 h4) ?_;have I1:Inv X lN σ H { s with heap:=s.heap.push { cls:=.type "range",data:=.fields #[IO] },toks:=tk }:=I.kept fun b o e=>ai _ e
 refine⟨(s.heap.push { cls:=.type "range",data:=.fields #[IO] }).objs.size,[(s.heap.push { cls:=.type "range",data:=.fields #[IO] }).objs.size],_,_,H,rfl,
  I1.kept (t':=tk) fun b o e=>ai _ e,zix _ lo (hi - lo).toNat,?_,fun b hb=>?_,q⟩
 ·have e1:lo+((0:Nat):Int)*1=lo:=by simp
  have e2:(((hi - lo).toNat:Nat):Int) - ((0:Nat):Int)=Builtin.Range.rangeSize lo hi 1:=by rw [rangeSize_one]; split <;> lia
  show IsRangeIter _ _ (lo+((0:Nat):Int)*1) ((((hi - lo).toNat:Nat):Int) - ((0:Nat):Int)) 1;rw [e1,e2];exact aE _ rfl
 ·have e:b=(s.heap.push { cls:=.type "range",data:=.fields #[IO] }).objs.size:=by simpa using hb
  subst e;exact I1.KY (af _) #[Ni]
noncomputable def zp7 (ta:TA):TI:=fun σ H R=>ta σ H fun vs H1=>∃ j:Int,vs = [.int j]/\-(2 ^ 62)<=j/\j < 2 ^ 62/\R (Itr 0 j.toNat) H1
noncomputable def zp8 (ta:TA):TI:=fun σ H R=>ta σ H fun vs H1=>∃ i j:Int,vs = [.int i,.int j]/\(-(2 ^ 62)<=i/\i < 2 ^ 62/\-(2 ^ 62)<=j/\j < 2 ^ 62)/\R (Itr i (j - i).toNat) H1
theorem zai {a:Expr} {ta:TA} {p pos:Pos} (hg:Gl X "range") (hm:X.mg "range" = none) (ha:PA X [a] ta) (hs:starEach [a] X.env = [#[KM]]:=by rfl):PI X tg (.Call (.Name "range" p) [a] [] pos) (zp7 ta):=by
 intro lN s σ H R I h;refine Call_ (zbr I hg hm k8 (bE (thn #[FM] fun us s1 ⟨vs,H1,I1,r1,q1⟩=>?_) hs rfl));obtain⟨j,e,q1,q2,q⟩:=q1;subst e;cases r1 with
 | cons r rr =>
  cases rr;obtain⟨t,rfl⟩:=r;exact call_range_1 (zhf I1 #[O] #[O] q1 q2 (by simpa using q))
theorem zfA {a b:Expr} {ta:TA} {p pos:Pos} (hg:Gl X "range") (hm:X.mg "range" = none) (ha:PA X [a,b] ta) (hs:starEach [a,b] X.env = [#[KM],#[Ev]]:=by rfl) (oB:starEach [b] X.env = [#[Ev]]:=by rfl) :
  PI X tg (.Call (.Name "range" p) [a,b] [] pos) (zp8 ta):=by
 intro lN s σ H R I h;refine Call_ (zbr I hg hm k8 (bE (thn #[FM] fun us s1 ⟨vs,H1,I1,r1,q1⟩=>?_) (by rw [hs,oB]) (by rw [oB]; rfl)));obtain⟨i,j,e,⟨q1,q2,q3,q4⟩,q⟩:=q1;subst e;cases r1 with
 | cons r rr =>
  cases rr with
  | cons r' rr =>
   cases rr;obtain⟨t,rfl⟩:=r;obtain⟨t',rfl⟩:=r';exact call_range_2 (zhf I1 q1 q2 q3 q4 q)
noncomputable def zqI (wi:TI) (g:TG) (tb:TS):TS:=fun D σ H=>wi σ H fun J H1=>∃ W:Nat->Nat->St->Hp->Prop,(∃ m,W 0 m σ H1)/\∀ i m σ H,W i m σ H ->
 (J.stop i H/\D.nx σ H)\/(J.go i H/\∃ N:St->Hp->Prop,(∀ σ' H',N σ' H'->∃ m',m' < m/\W (i+1) m' σ' H')/\∀ x H',J.yld i H x H'->g x σ H' fun σ2 H2=>tb { D with nx:=N,ct:=N,bk:=D.nx } σ2 H2)
noncomputable def zcM (fp:List Addr) (h:Heap):List (Addr×Obj):=fp.filterMap fun b=>(h.get? b).map fun o=>(b,o)
theorem zcs {b:Addr} {o:Obj} (hb:b∈fp) (e:h.get? b=some o):(b,o)∈zcM fp h:=g9.mpr ⟨b,hb,by rw [e]; rfl⟩
theorem zfB {p:Addr×Obj} (hp:p∈zcM fp h):p.1∈fp/\h.get? p.1=some p.2:=by
 obtain⟨b,hb,e⟩:=g9.mp hp;cases q:h.get? b with
 | none=>rw [q] at e; cases e
 | some o =>
  rw [q] at e;have e':(b,o)=p:=aS e;subst e';exact⟨hb,q⟩
theorem Inv.pinned {σ:St} (I:Inv X lN σ H s) (hf:∀ b∈fp,zca X lN H b) (ho:∀ b∈fp,∃ o,s.heap.get? b=some o/\∀ v,o.data≠.cell v):Inv X (lN++zcM fp s.heap) σ H s :=
 I.Kz fun p hp=>(aP.mp hp).elim (fun z=>I.pin p (aI _ z)) fun z=>by
  obtain⟨hb,e⟩:=zfB z;obtain⟨f0,f1,f2,_⟩:=hf p.1 hb;obtain⟨o,e',d⟩:=ho p.1 hb;rw [e] at e'; cases e';exact⟨e,f0,f1,f2,d⟩
theorem Inv.Kv {pl:List (Addr×Obj)} {σ:St} (I:Inv X (lN++pl) σ H s):Inv X lN σ H s:=I.Kz fun p hp=>I.pin p (aI _ (aL _ hp))
theorem zaF {iter:Expr} {body:List Stmt} {wi:TI} {g:TG} {tb:TS} {pos:Pos} (hp:PassesOwn #[o0] X.A X.env X.xe) (hc:X.calm=true) (hi:PI X tg iter wi) (hg:PG X tg g) (hb:PSs X body tb)
  (hs:∀ x,foldedSetIterable iter X.env x=pure x:=by intro _; rfl):PS X (.For tg iter body [] pos) (zqI wi g tb):=by
 intro lN s σ H D I h;refine wpAny_For (thn #[QO] fun v s1 h1=>thn h1 fun y8 s2 h2=>?_) hs;obtain⟨it,fp,tn,J,H2,e,I2,T,m7,f2,W,⟨m0,w0⟩,turn⟩:=h2;subst e;have y9:∀ {H':Hp},(∀ b∈fp,H' b=none)->∀ b∈fp,zca X lN H' b:=fun hn b hb=>⟨hn b hb,(f2 b hb).2⟩
 refine codeAny_forLoop_any (fun n s'=>∃ i σ' H',Inv X lN σ' H' s'/\tn i s'.heap/\(∀ b∈fp,H' b=none)/\W i n σ' H') ?_ m0 ⟨0,σ,H2,I2,m7,fun b hb=>(f2 b hb).1,w0⟩;rintro n s3 ⟨i,σ3,H3,I3,Ed,fr3,w3⟩;rcases turn i n σ3 H3 w3 with ⟨stop,qn⟩ | ⟨go,N,hN,step⟩
 ·refine d6 hp (thn (T.done X rfl rfl rfl hc i lN s3 σ3 H3 X.xe I3 (y9 fr3) Ed stop) fun r s4 ⟨hr,I4⟩=>?_);subst hr;exact gp ⟨σ3,H3,I4,qn⟩
 ·refine d6 hp (thn (T.item X rfl rfl rfl hc i lN s3 σ3 H3 X.xe I3 (y9 fr3) Ed go) fun r s4 ⟨u,hr,h4⟩=>?_);subst hr;refine d6 hp (thn h4 fun _ s5 ⟨x,H5,I5,r5,y5,Bj,fr5⟩=>?_);have I5':=I5.pinned (y9 fr5) (T.obj _ _ Bj);refine d6 hp (thn (hg _ s5 σ3 H5 x u _ I5' r5 (step x H5 y5)) fun _ s6 ⟨σ6,H6,I6,q6⟩=>?_);refine d6 hp (thn (hb _ s6 σ6 H6 _ I6 q6) fun f s7 q7=>?_);have again:∀ {σ7:St} {H7:Hp},Inv X (lN++zcM fp s5.heap) σ7 H7 s7->N σ7 H7->∃ m,m < n/\∃ i σ' H',Inv X lN σ' H' s7/\tn i s7.heap/\(∀ b∈fp,H' b=none)/\W i m σ' H':=fun {σ7 H7} I7 n7=>by
   obtain⟨m',hm,w7⟩:=hN σ7 H7 n7;refine⟨m',hm,i+1,σ7,H7,I7.Kv,T.keep _ _ _ Bj fun b hb o e=>(I7.pin (b,o) #[OG]).1,fun b hb=>?_,w7⟩;obtain⟨o,e,d⟩:=T.obj _ _ Bj b hb;exact (I7.pin (b,o) #[OG]).2.1
  cases f with
  | next=>obtain⟨σ7,H7,I7,n7⟩:=q7; exact again I7 n7
  | cont=>obtain⟨σ7,H7,I7,n7⟩:=q7; exact again I7 n7
  | brk=>obtain⟨σ7,H7,I7,q7⟩:=q7; exact⟨σ7,H7,I7.Kv,q7⟩
  | ret v=>obtain⟨x7,σ7,H7,I7,r7,q7⟩:=q7; exact⟨x7,σ7,H7,I7.Kv,r7,q7⟩
end
theorem zle {K:ah} {a:Addr} {xs:List V} {tb:TS} {D:Ends} {σ:St} (Pv:Nat->St->Hp->Prop) (h0:Pv 0 σ H) (hl:∀ i σ H,i<=xs.length->Pv i σ H->lO K H a xs)
  (hs:∀ i x σ H,xs[i]? = some x->Pv i σ H->g x σ H fun σ2 H2=>tb { D with nx:=Pv (i+1),ct:=Pv (i+1),bk:=D.nx } σ2 H2) (hd:∀ σ H,Pv xs.length σ H->D.nx σ H) :
  ∃ W:Nat->Nat->St->Hp->Prop,(∃ m,W 0 m σ H)/\∀ i m σ H,W i m σ H ->
   (#[Sb].stop i H/\D.nx σ H)\/(#[Sb].go i H/\∃ N:St->Hp->Prop,(∀ σ' H',N σ' H'->∃ m',m' < m/\W (i+1) m' σ' H')/\∀ x H',#[Sb].yld i H x H'->g x σ H' fun σ2 H2=>tb { D with nx:=N,ct:=N,bk:=D.nx } σ2 H2):=by
 refine⟨fun i m σ H=>m=xs.length - i/\i<=xs.length/\Pv i σ H,⟨xs.length,#[M],bg _,h0⟩,?_⟩;rintro i m σ H ⟨rfl,hi,p⟩;have q:=hl i σ H hi p;by_cases mh:i < xs.length
 ·refine .inr ⟨⟨xs,xs[i],q,by simp [mh]⟩,Pv (i+1),fun σ' H' p'=>⟨xs.length - (i+1),#[O],rfl,mh,p'⟩,fun x H' y=>?_⟩;obtain⟨e,y⟩:=y;subst e;exact hs i x σ _ (y xs q) p
 ·have e:i=xs.length:=by lia
  subst e;exact .inl ⟨⟨xs,q,af _⟩,hd σ H p⟩
theorem znb {K:ah} {a:Addr} {xs:List V} {tb:TS} {D:Ends} {σ:St} (Pv:Nat->St->Hp->Prop) (h0:Pv 0 σ H) (hl:∀ i σ H,i<=xs.length->Pv i σ H->lY K H a xs)
  (hs:∀ i x σ H,xs[i]? = some x->Pv i σ H->g x σ H fun σ2 H2=>tb { D with nx:=Pv (i+1),ct:=Pv (i+1),bk:=D.nx } σ2 H2) (hd:∀ σ H,Pv xs.length σ H->D.nx σ H) :
  ∃ W:Nat->Nat->St->Hp->Prop,(∃ m,W 0 m σ H)/\∀ i m σ H,W i m σ H ->
   ((Itt K a).stop i H/\D.nx σ H)\/((Itt K a).go i H/\∃ N:St->Hp->Prop,(∀ σ' H',N σ' H'->∃ m',m' < m/\W (i+1) m' σ' H')/\∀ x H',(Itt K a).yld i H x H'->g x σ H' fun σ2 H2=>tb { D with nx:=N,ct:=N,bk:=D.nx } σ2 H2):=by
 refine⟨fun i m σ H=>m=xs.length - i/\i<=xs.length/\Pv i σ H,⟨xs.length,#[M],bg _,h0⟩,?_⟩;rintro i m σ H ⟨rfl,hi,p⟩;have q:=hl i σ H hi p;by_cases mh:i < xs.length
 ·refine .inr ⟨⟨xs,xs[i],q,by simp [mh]⟩,Pv (i+1),fun σ' H' p'=>⟨xs.length - (i+1),#[O],rfl,mh,p'⟩,fun x H' y=>?_⟩;obtain⟨e,y⟩:=y;subst e;exact hs i x σ _ (y xs q) p
 ·have e:i=xs.length:=by lia
  subst e;exact .inl ⟨⟨xs,q,af _⟩,hd σ H p⟩
theorem zkd {lo:Int} {n:Nat} {tb:TS} {D:Ends} {σ:St} (Pv:Nat->St->Hp->Prop) (h0:Pv 0 σ H)
  (hs:∀ i σ H,i < n->Pv i σ H->g (.int (lo+i)) σ H fun σ2 H2=>tb { D with nx:=Pv (i+1),ct:=Pv (i+1),bk:=D.nx } σ2 H2) (hd:∀ σ H,Pv n σ H->D.nx σ H) :
  ∃ W:Nat->Nat->St->Hp->Prop,(∃ m,W 0 m σ H)/\∀ i m σ H,W i m σ H ->
   ((Itr lo n).stop i H/\D.nx σ H)\/((Itr lo n).go i H/\∃ N:St->Hp->Prop,(∀ σ' H',N σ' H'->∃ m',m' < m/\W (i+1) m' σ' H')/\∀ x H',(Itr lo n).yld i H x H'->g x σ H' fun σ2 H2=>tb { D with nx:=N,ct:=N,bk:=D.nx } σ2 H2):=by
 refine⟨fun i m σ H=>m=n - i/\i<=n/\Pv i σ H,#[PZ],?_⟩;rintro i m σ H ⟨rfl,hi,p⟩;by_cases mh:i < n
 ·refine .inr ⟨mh,Pv (i+1),fun σ' H' p'=>⟨n - (i+1),#[O],rfl,mh,p'⟩,fun x H' y=>?_⟩;obtain⟨e,y⟩:=y;subst e y;exact hs i σ _ mh p
 ·have e:i=n:=by lia
  subst e;exact .inl ⟨af _,hd σ H p⟩
theorem zlf {c:TT} {tb:TS} {D:Ends} {σ:St} (Pv:St->Hp->Prop) (μ:St->Hp->Nat) (h0:Pv σ H)
  (hs:∀ σ H,Pv σ H->c σ H fun b H1=>if b=true then tb { D with nx:=fun σ' H'=>Pv σ' H'/\μ σ' H' < μ σ H,ct:=fun σ' H'=>Pv σ' H'/\μ σ' H' < μ σ H,bk:=D.nx } σ H1 else D.nx σ H1)
  (mono:∀ σ H Q Q',(∀ b H1,Q b H1->Q' b H1)->c σ H Q->c σ H Q'):zld c tb D σ H:=by
 refine⟨fun m σ H=>m=μ σ H/\Pv σ H,⟨_,rfl,h0⟩,?_⟩;rintro m σ H ⟨rfl,p⟩;refine mono σ H _ _ (fun b H1 q=>?_) (hs σ H p);cases b with
 | true=>exact⟨_,fun σ' H' ⟨p',l⟩=>⟨_,l,rfl,p'⟩,q⟩
 | false=>exact q
abbrev R2:=V->V->Hp->VK->Prop
noncomputable def OpR (X:Cx) (f:Value->Value->Sem Value) (r:R2):Prop :=
 ∀ (lN:List (Addr×Obj)) (s:Shared) (σ:St) (H:Hp) (x y:V) (v u:Value) (Q:VK),Inv X lN σ H s->RelV x v->RelV y u->r x y H Q ->
  wpAny #[o0] X.A (f v u) #[Nf] X.xe s
noncomputable def UnR (X:Cx) (f:Value->Sem Value) (r:V->Hp->VK->Prop):Prop :=
 ∀ (lN:List (Addr×Obj)) (s:Shared) (σ:St) (H:Hp) (x:V) (v:Value) (Q:VK),Inv X lN σ H s->RelV x v->r x H Q ->
  wpAny #[o0] X.A (f v) #[Nf] X.xe s
noncomputable def zbG (X:Cx) (f:Value) (r:List V->Hp->VK->Prop):Prop :=
 ∀ (lN:List (Addr×Obj)) (s:Shared) (σ:St) (H:Hp) (xs:List V) (us:List Value) (Q:VK),Inv X lN σ H s->zU xs us->r xs H Q ->
  wpAny #[o0] X.A (call f us) #[Nf] X.xe s
noncomputable def zqJ (X:Cx) (r:V->Hp->(Bool->Hp->Prop)->Prop):Prop :=
 ∀ (lN:List (Addr×Obj)) (s:Shared) (σ:St) (H:Hp) (x:V) (v:Value) (Q:Bool->Hp->Prop),Inv X lN σ H s->RelV x v->r x H Q ->
  wpAny #[o0] X.A (truthy v) #[RB] X.xe s
noncomputable def tOp (r:R2) (ta tb:TE):TE:=fun σ H Q=>ta σ H fun x H1=>tb σ H1 fun y H2=>r x y H2 Q
noncomputable def tUn (r:V->Hp->VK->Prop) (ta:TE):TE:=fun σ H Q=>ta σ H fun x H1=>r x H1 Q
noncomputable def rI (C:Int->Int->Prop) (g:Int->Int->V):R2:=fun x y H Q=>∃ i j,x = .int i/\y = .int j/\C i j/\Q (g i j) H
noncomputable def rI0 (g:Int->Int->V):R2:=fun x y H Q=>∃ i j,x = .int i/\y = .int j/\Q (g i j) H
noncomputable def rU (g:Int->V):V->Hp->VK->Prop:=fun x H Q=>∃ i,x = .int i/\Q (g i) H
section
variable {X:Cx} {a b c:Expr} {ta tb tc:TE} {pos:Pos}
theorem zo1 (ha:PE X a ta) (hb:PE X b tb) {σ:St} {R:V->V->Hp->Prop} (I:Inv X lN σ H s)
  (h:ta σ H fun x H1=>tb σ H1 fun y H2=>R x y H2) {Q:Value->Shared->Prop} {f:Value->Value->Sem Value}
  (hf:∀ v u s2 x y H2,Inv X lN σ H2 s2->RelV x v->RelV y u->R x y H2->wpAny #[o0] X.A (f v u) Q X.xe s2) :
  wpAny #[o0] X.A (eval a X.env) (fun v s₁=>wpAny #[o0] X.A (eval b X.env) (fun u s₂=>wpAny #[o0] X.A (f v u) Q X.xe s₂) X.xe s₁) X.xe s:=by
 refine thn #[M1] fun v s1 ⟨x,H1,I1,r1,q1⟩=>?_
 refine thn #[PL] fun u s2 ⟨y,H2,I2,r2,q2⟩=>?_
 exact hf v u s2 x y H2 I2 r1 r2 q2
theorem zj {op:Operator} {r:R2} (ho:OpR X (binaryOp op) r) (ha:PE X a ta) (hb:PE X b tb):PE X (.BinOp a op b pos) #[Sg]:=by
 intro lN s σ H Q I h;exact wpAny_BinOp (zo1 ha hb I h fun v u s2 x y H2 I2 rx ry q=>ho lN s2 σ H2 x y v u Q I2 rx ry q)
theorem zow {op:UnaryOp} {r:V->Hp->VK->Prop} (ho:UnR X (unaryOp op) r) (ha:PE X a ta):PE X (.UnaryOp op a pos) (tUn r ta):=by
 intro lN s σ H Q I h;exact UnaryOp_ (thn #[M1] fun v s1 ⟨x,H1,I1,r1,q1⟩=>ho lN s1 σ H1 x v Q I1 r1 q1)
theorem opI {f:Value->Value->Sem Value} {C:Int->Int->Prop} {g:Int->Int->Int}
  (rule:∀ (i j:Int) (t u:Tok) (s:Shared) (Q:Value->Shared->Prop) (E:Value->Shared->Prop),C i j->Q (.int (g i j) s.toks) { s with toks:=s.toks+1 }->wpAny #[o0] X.A #[P5] Q E s) :
  OpR X f (rI C fun i j=>.int (g i j)):=by
 intro lN s σ H x y v u Q I rx ry h;obtain⟨i,j,rfl,rfl,hc,q⟩:=h;obtain⟨t,rfl⟩:=rx;obtain⟨t',rfl⟩:=ry;exact rule i j t t' s _ _ hc #[R7]
theorem zo2 {f:Value->Value->Sem Value} {g:Int->Int->Int}
  (rule:∀ (i j:Int) (t u:Tok) (s:Shared) (Q:Value->Shared->Prop) (E:Value->Shared->Prop),Q (.int (g i j) s.toks) { s with toks:=s.toks+1 }->wpAny #[o0] X.A #[P5] Q E s) :
  OpR X f (rI0 fun i j=>.int (g i j)):=by
 intro lN s σ H x y v u Q I rx ry h;obtain⟨i,j,rfl,rfl,q⟩:=h;obtain⟨t,rfl⟩:=rx;obtain⟨t',rfl⟩:=ry;exact rule i j t t' s _ _ #[R7]
theorem znc {f:Value->Value->Sem Value} {g:Int->Int->Bool}
  (rule:∀ (i j:Int) (t u:Tok) (s:Shared) (Q:Value->Shared->Prop) (E:Value->Shared->Prop),Q (.bool (g i j)) s->wpAny #[o0] X.A #[P5] Q E s) :
  OpR X f (rI0 fun i j=>.bl (g i j)):=by
 intro lN s σ H x y v u Q I rx ry h;obtain⟨i,j,rfl,rfl,q⟩:=h;obtain⟨t,rfl⟩:=rx;obtain⟨t',rfl⟩:=ry;exact rule i j t t' s _ _ ⟨.bl (g i j),H,I,rfl,q⟩
noncomputable def zp9 (i j:Int):Prop:=0 < j/\j < 1073741824
noncomputable def zqK (i j:Int):Prop:=0<=j/\j<=1000000/\i.natAbs < 2 ^ 64
noncomputable def zo3 (i j:Int):Prop:=(-(2 ^ 64) < i/\i < 2 ^ 64)\/(-(2 ^ 64) < j/\j < 2 ^ 64)
theorem zo3.ok {i j:Int} (h:zo3 i j):IntMulOk i j:=by
 rcases h with ⟨h1,h2⟩ | ⟨h1,h2⟩
 ·exact .of_left (intBits_le_64 h1 h2)
 ·exact .of_right (intBits_le_64 h1 h2)
theorem zL:OpR X (binaryOp .Add) (rI0 fun i j=>.int (i+j)):=zo2 fun _ _ _ _ _ _ _ q=>add_int q
theorem zaV:OpR X (binaryOp .Sub) (rI0 fun i j=>.int (i - j)):=zo2 fun _ _ _ _ _ _ _ q=>sub_int q
theorem zW:OpR X (binaryOp .Mult) (rI zo3 fun i j=>.int (i*j)):=opI fun _ _ _ _ _ _ _ hc q=>mul_int q hc.ok
theorem zct:OpR X (binaryOp .FloorDiv) (rI zp9 fun i j=>.int (i / j)):=opI fun i j _ _ _ _ _ hc q=>by
 have h1:(0:Int) < j:=hc.1;have h2:j < 1073741824:=hc.2;exact floordiv_int #[O] (by rw [ij i #[O]]; exact q) (.inl (jb #[O]))
theorem zO:OpR X (binaryOp .Mod) (rI (fun _ j=>0 < j) fun i j=>.int (i % j)):=opI fun i j _ _ _ _ _ hc q=>by
 have h1:(0:Int) < j:=hc;exact mod_int' #[O] (by rw [Int.fmod_eq_emod_of_nonneg i #[O]]; exact q)
theorem zo4:OpR X (binaryOp .Pow) (rI zqK fun i j=>.int (i ^ j.toNat)):=opI fun _ _ _ _ _ _ _ hc q=>pow_int_small hc.1 hc.2.1 hc.2.2 q
theorem znd:OpR X (inplaceOp .Add) (rI0 fun i j=>.int (i+j)):=zo2 fun _ _ _ _ _ _ _ q=>iadd_int q
theorem zlg:OpR X (inplaceOp .FloorDiv) (rI zp9 fun i j=>.int (i / j)):=opI fun i j _ _ _ _ _ hc q=>by
 have h1:(0:Int) < j:=hc.1;have h2:j < 1073741824:=hc.2;exact ifloordiv_int #[O] (by rw [ij i #[O]]; exact q) (.inl (jb #[O]))
theorem unI {f:Value->Sem Value} {g:Int->Int}
  (rule:∀ (i:Int) (t:Tok) (s:Shared) (Q:Value->Shared->Prop) (E:Value->Shared->Prop),Q (.int (g i) s.toks) { s with toks:=s.toks+1 }->wpAny #[o0] X.A (f (.int i t)) Q E s) :
  UnR X f (rU fun i=>.int (g i)):=by
 intro lN s σ H x v Q I rx h;obtain⟨i,rfl,q⟩:=h;obtain⟨t,rfl⟩:=rx;exact rule i t s _ _ ⟨.int (g i),H,I.tok _,⟨_,rfl⟩,q⟩
theorem zlh:UnR X (unaryOp .USub) (rU fun i=>.int (-i)):=unI fun _ _ _ _ _ q=>neg_int q
end
noncomputable def zne:V->V->Bool
 | .non,.non=>true | .non,.int _=>true | .int _,.non=>true | .non,.bl _=>true | .bl _,.non=>true | .non,.str _=>true | .str _,.non=>true
 | .int _,.int _=>true | .bl _,.bl _=>true | .str _,.str _=>true | .byt _,.byt _=>true
 | .int _,.str _=>true | .str _,.int _=>true | .bl _,.str _=>true | .str _,.bl _=>true
 | _,_=>false
noncomputable def rEq:R2:=fun x y H Q=>zne x y=true/\Q (.bl (decide (x=y))) H
noncomputable def rNe:R2:=fun x y H Q=>zne x y=true/\Q (.bl (!decide (x=y))) H
theorem zi3 {i j:Int}:decide (V.int i=V.int j)=(i == j):=by
 rw [cL];simp
theorem zli {i j:Bool}:decide (V.bl i=V.bl j)=(i == j):=by
 rw [cL];simp
theorem zi4 {i j:Str}:decide (V.str i=V.str j)=(i == j):=by
 rw [cL];simp
theorem zi5 {i j:Array UInt8}:decide (V.byt i=V.byt j)=(i.toList == j.toList):=by
 rw [cL];cases i;cases j;simp
section
variable {X:Cx} {a b c:Expr} {ta tb tc:TE} {pos:Pos}
theorem zaf {σ:St} {k k':Bool} (I:Inv X lN σ H s) (q:Q (.bl k) H) (e:k=k'):EP X lN σ Q (.bool k') s:=by
 subst e;exact⟨.bl k,H,I,rfl,q⟩
theorem zex:OpR X (compareOp .Eq) rEq:=by
 intro lN s σ H x y v u Q I rx ry h;obtain⟨hs,q⟩:=h;cases x with
 | non =>
  cases rx;cases y with
  | non=>cases ry; exact PySem.EqNone.eq_none_none #[Cl]
  | bl j=>cases ry; exact PySem.EqNone.eq_none_bool #[Cl]
  | int j=>obtain⟨t',rfl⟩:=ry; exact PySem.EqNone.eq_none_int #[Cl]
  | str j=>obtain⟨t',rfl⟩:=ry; exact PySem.EqNone.eq_none_str #[Cl]
  | _=>exact absurd (show false=true from hs) aQ
 | bl i =>
  cases rx;cases y with
  | non=>cases ry; exact PySem.EqNone.eq_bool_none #[Cl]
  | bl j=>cases ry; exact eq_bool (zaf I q zli)
  | str j=>obtain⟨t',rfl⟩:=ry; exact PySem.EqMixed.eq_bool_str #[Cl]
  | _=>exact absurd (show false=true from hs) aQ
 | int i =>
  obtain⟨t,rfl⟩:=rx;cases y with
  | non=>cases ry; exact PySem.EqNone.eq_int_none #[Cl]
  | int j=>obtain⟨t',rfl⟩:=ry; exact eq_int (zaf I q zi3)
  | str j=>obtain⟨t',rfl⟩:=ry; exact PySem.EqMixed.eq_int_str #[Cl]
  | _=>exact absurd (show false=true from hs) aQ
 | str i =>
  obtain⟨t,rfl⟩:=rx;cases y with
  | non=>cases ry; exact PySem.EqNone.eq_str_none #[Cl]
  | bl j=>cases ry; exact PySem.EqMixed.eq_str_bool #[Cl]
  | int j=>obtain⟨t',rfl⟩:=ry; exact PySem.EqMixed.eq_str_int #[Cl]
  | str j=>obtain⟨t',rfl⟩:=ry; exact eq_str (zaf I q zi4)
  | _=>exact absurd (show false=true from hs) aQ
 | byt i =>
  obtain⟨t,rfl⟩:=rx;cases y with
  | byt j=>obtain⟨t',rfl⟩:=ry; exact PySem.W.eq_bytes (zaf I q zi5)
  | _=>exact absurd (show false=true from hs) aQ
 | _=>cases y <;> exact absurd (show false=true from hs) aQ
theorem zhg:OpR X (compareOp .NotEq) rNe:=by
 intro lN s σ H x y v u Q I rx ry h;obtain⟨hs,q⟩:=h;cases x with
 | non =>
  cases rx;cases y with
  | non=>cases ry; exact PySem.EqNone.ne_none_none #[Cl]
  | bl j=>cases ry; exact PySem.EqNone.ne_none_bool #[Cl]
  | int j=>obtain⟨t',rfl⟩:=ry; exact PySem.EqNone.ne_none_int #[Cl]
  | str j=>obtain⟨t',rfl⟩:=ry; exact PySem.EqNone.ne_none_str #[Cl]
  | _=>exact absurd (show false=true from hs) aQ
 | bl i =>
  cases rx;cases y with
  | non=>cases ry; exact PySem.EqNone.ne_bool_none #[Cl]
  | bl j=>cases ry; exact ne_bool (zaf I q (congrArg not zli))
  | str j=>obtain⟨t',rfl⟩:=ry; exact PySem.EqMixed.ne_bool_str #[Cl]
  | _=>exact absurd (show false=true from hs) aQ
 | int i =>
  obtain⟨t,rfl⟩:=rx;cases y with
  | non=>cases ry; exact PySem.EqNone.ne_int_none #[Cl]
  | int j=>obtain⟨t',rfl⟩:=ry; exact ne_int (zaf I q (congrArg not zi3))
  | str j=>obtain⟨t',rfl⟩:=ry; exact PySem.EqMixed.ne_int_str #[Cl]
  | _=>exact absurd (show false=true from hs) aQ
 | str i =>
  obtain⟨t,rfl⟩:=rx;cases y with
  | non=>cases ry; exact PySem.EqNone.ne_str_none #[Cl]
  | bl j=>cases ry; exact PySem.EqMixed.ne_str_bool #[Cl]
  | int j=>obtain⟨t',rfl⟩:=ry; exact PySem.EqMixed.ne_str_int #[Cl]
  | str j=>obtain⟨t',rfl⟩:=ry; exact ne_str (zaf I q (congrArg not zi4))
  | _=>exact absurd (show false=true from hs) aQ
 | byt i =>
  obtain⟨t,rfl⟩:=rx;cases y with
  | byt j=>obtain⟨t',rfl⟩:=ry; exact PySem.W.ne_bytes (zaf I q (congrArg not zi5))
  | _=>exact absurd (show false=true from hs) aQ
 | _=>cases y <;> exact absurd (show false=true from hs) aQ
theorem zey:OpR X (compareOp .Lt) (rI0 fun i j=>.bl (decide (i < j))):=znc fun _ _ _ _ _ _ _ q=>lt_int q
theorem zox:OpR X (compareOp .LtE) (rI0 fun i j=>.bl (decide (i<=j))):=znc fun _ _ _ _ _ _ _ q=>le_int q
theorem zhh:OpR X (compareOp .Gt) (rI0 fun i j=>.bl (decide (j < i))):=znc fun _ _ _ _ _ _ _ q=>gt_int q
theorem zi6:OpR X (compareOp .GtE) (rI0 fun i j=>.bl (decide (j<=i))):=znc fun _ _ _ _ _ _ _ q=>ge_int q
theorem zga:OpR X (compareOp .IsNot) (fun x y H Q=>y = .non/\Q (.bl (!decide (x = .non))) H):=by
 intro lN s σ H x y v u Q I rx ry h;obtain⟨rfl,q⟩:=h;cases ry;refine isnot_none_gen (zaf I q ?_);cases x <;> first
  | (cases rx; rfl)
  | (obtain⟨t,rfl⟩:=rx; rfl)
theorem zY (b:Expr) {op:CmpOp} (h:op≠.In:=by decide) (h2:op≠.NotIn:=by decide):behindInMarks op b=false:=by
 have e1:(op == CmpOp.In)=false:=by cases op <;> first | rfl | exact absurd rfl h
 have e2:(op == CmpOp.NotIn)=false:=by cases op <;> first | rfl | exact absurd rfl h2
 cases b <;> simp [behindInMarks,e1,e2]
theorem znf {op:CmpOp} {r:R2} (ho:OpR X (compareOp op) r) (ha:PE X a ta) (hb:PE X b tb) (hm:behindInMarks op b=false):PE X (.Compare a [op] [b] pos) #[Sg]:=by
 intro lN s σ H Q I h;exact wpAny_Compare1 (zo1 ha hb I h fun v u s2 x y H2 I2 rx ry q=>ho lN s2 σ H2 x y v u Q I2 rx ry q) hm
noncomputable def zoy (t:TE):TT:=fun σ H Q=>t σ H fun x H'=>∃ k,x = .bl k/\Q k H'
theorem zH {op:CmpOp} {r:R2} (ho:OpR X (compareOp op) r) (ha:PE X a ta) (hb:PE X b tb) (hm:behindInMarks op b=false):PT X (.Compare a [op] [b] pos) (zoy #[Sg]):=by
 intro lN s σ H Q I h;refine wpAny_isTrue_Compare1 (thn #[M1] fun v s1 ⟨x,H1,I1,r1,q1⟩=>thn #[PL] fun u s2 ⟨y,H2,I2,r2,q2⟩ =>
  thn #[Qh] fun c s3 ⟨z,H3,I3,r3,k,e,q3⟩=>?_) hm
 subst e;cases r3;exact fX ⟨H3,I3,q3⟩
noncomputable def zo5 (r r':R2) (ta tb tc:TE):TE:=fun σ H Q=>ta σ H fun x H1=>tb σ H1 fun y H2=>r x y H2 fun z H3=>∃ k,z = .bl k /\
 (if k=true then tc σ H3 fun w' H4=>r' y w' H4 Q else Q (.bl false) H3)
theorem zlj {op Fg:CmpOp} {r r':R2} (ho:OpR X (compareOp op) r) (rY:OpR X (compareOp Fg) r') (ha:PE X a ta) (hb:PE X b tb) (hc:PE X c tc)
  (hm:lastMarks [op,Fg] [b,c]=false:=by with_unfolding_all rfl):PT X (.Compare a [op,Fg] [b,c] pos) (zoy (zo5 r r' ta tb tc)):=by
 intro lN s σ H Q I h;refine isTrue_chain (thn #[M1] fun v s1 ⟨x,H1,I1,r1,q1⟩=>test_link (thn #[PL] fun u s2 ⟨y,H2,I2,r2,q2⟩ =>
  thn #[Qh] fun d s3 ⟨z,H3,I3,r3,k,e,q3⟩=>?_)) hm
 subst e;cases r3;refine fX ?_;cases k with
 | false =>
  obtain⟨k',e',q'⟩:=q3;cases e';exact ite_ff ⟨H3,I3,q'⟩
 | true =>
  refine ite_tt (test_last (thn (hc lN s3 σ H3 _ I3 q3) fun w' s4 ⟨z',H4,I4,r4,q4⟩=>thn (rY lN s4 σ H4 y z' u w' _ I4 r2 r4 q4) fun d' s5 ⟨z2,H5,I5,r5,k2,e2,q5⟩=>?_));subst e2;cases r5;exact fX ⟨H5,I5,q5⟩
noncomputable def zqa (K:ah) (x:V) (H:Hp) (k:Bool):Prop :=
 match x with
 | .non=>k=false
 | .bl b=>k=b
 | .int i=>k=(i != 0)
 | .str y=>y.length<=sizeLine/\k=((y.length:Int) != 0)
 | .byt y=>y.size<=sizeLine/\k=((y.size:Int) != 0)
 | .ref p=>(∃ xs,lO K H p xs/\k = !xs.isEmpty)\/(∃ xs,lY K H p xs/\k = !xs.isEmpty)\/∃ kvs,H p=some #[Qn]/\k = !kvs.isEmpty
 | _=>False
theorem ziy {κ:Type} {kvs:List (κ×V)} {vs:List (κ×Value)} (r:KV kvs vs):(!vs.isEmpty) = !kvs.isEmpty:=by
 cases r <;> rfl
theorem zez {xs:List V} (r:zU xs lQ):(!lQ.toArray.isEmpty) = !xs.isEmpty:=by
 cases r <;> simp
theorem zeA:(sizeLine:Nat) < 2 ^ 63:=by rw [aW]; decide
theorem zo6:zqJ X (fun x H Q=>∃ k,zqa X.K x H k/\Q k H):=by
 intro lN s σ H x v Q I rx h;obtain⟨k,e,q⟩:=h;have hl:=zeA;have hs:sizeLine=16777216:=aW;cases x with
 | non =>
  cases rx;have e':k=false:=e;subst e';exact truthy_none ⟨H,I,q⟩
 | bl b =>
  cases rx;have e':k=b:=e;subst e';exact fX ⟨H,I,q⟩
 | int i =>
  obtain⟨t,rfl⟩:=rx;have e':k=(i != 0):=e;subst e';exact PySem.P.truthy_int ⟨H,I,q⟩
 | str y =>
  obtain⟨t,rfl⟩:=rx;obtain⟨hy,e'⟩:y.length<=sizeLine/\k=((y.length:Int) != 0):=e;subst e';exact PySem.P.truthy_str #[O] ⟨H,I.tok _,q⟩
 | byt y =>
  obtain⟨t,rfl⟩:=rx;obtain⟨hy,e'⟩:y.size<=sizeLine/\k=((y.size:Int) != 0):=e;subst e';exact PySem.W.truthy_bytes #[O] ⟨H,I.tok _,q⟩
 | ref p =>
  cases rx;have e':(∃ xs,lO X.K H p xs/\k = !xs.isEmpty)\/(∃ xs,lY X.K H p xs/\k = !xs.isEmpty)\/∃ kvs,H p=some #[Qn]/\k = !kvs.isEmpty:=e;rcases e' with ⟨xs,hx,e'⟩ | ⟨xs,hx,e'⟩ | ⟨kvs,hx,e'⟩
  ·subst e';obtain⟨lQ,r,pl,hz⟩:=I.list hx;have lT:=r.length;exact wpAny_truthy_list pl.isList (by simp only [aq]; lia) ⟨H,I.tok _,by rw [zez r]; exact q⟩
  ·subst e';obtain⟨lQ,r,pl,hz⟩:=I.tuple hx;have lT:=r.length;exact truthy_tuple pl (by simp only [aq]; lia) ⟨H,I.tok _,by rw [zez r]; exact q⟩
  ·subst e';obtain⟨hz,hS,vs,r,m⟩:kvs.length<=sizeLine/\(p == sysModules)=false/\∃ vs,KV kvs vs/\s.heap.DictOf #[Qu] p vs:=I.hok p _ hx;have lT:kvs.length=vs.length:=bq r;exact wpAny_truthy_dict hS m #[O] ⟨H,I.tok _,by rw [ziy r]; exact q⟩
 | _=>exact (show False from e).elim
theorem zlk (ha:PE X a ta) (he:∀ whole,isTrue a X.env whole=(do let v <- whole; standAt a.pos; holding [v] (truthy v))) :
  PT X a (fun σ H Q=>ta σ H fun x H'=>∃ k,zqa X.K x H' k/\Q k H'):=by
 intro lN s σ H Q I h;exact isTrue_plain (thn #[M1] fun v s1 ⟨x,H1,I1,r1,q1⟩=>zo6 lN s1 σ H1 x v Q I1 r1 q1) (he _)
theorem vals1 {x:V} (r:zU [x] us):∃ u,us = [u]/\RelV x u:=by
 cases r with
 | cons r1 r2=>cases r2; exact⟨_,rfl,r1⟩
theorem vals2 {x:V} (r:zU [x,y] us):∃ u w',us = [u,w']/\RelV x u/\RelV y w':=by
 cases r with
 | cons r1 r2 =>
  cases r2 with
  | cons r3 r4=>cases r4; exact⟨_,_,rfl,r1,r3⟩
theorem zdP (hc:X.calm=true):zbG X (.builtin "max") (fun xs H Q=>∃ i j,xs = [.int i,.int j]/\Q (.int (if j > i then j else i)) H):=by
 intro lN s σ H xs us Q I r h;obtain⟨i,j,rfl,q⟩:=h;obtain⟨u,w',rfl,⟨t,rfl⟩,⟨t',rfl⟩⟩:=vals2 r;refine max_two_ints #[Na] fun h' tk k=>⟨_,H,I.kept k,?_,q⟩
 by_cases hj:j > i
 ·rw [if_pos hj,if_pos hj]; exact⟨_,rfl⟩
 ·rw [if_neg hj,if_neg hj]; exact⟨_,rfl⟩
theorem zfC (hc:X.calm=true):zbG X (.builtin "min") (fun xs H Q=>∃ i j,xs = [.int i,.int j]/\Q (.int (if j < i then j else i)) H):=by
 intro lN s σ H xs us Q I r h;obtain⟨i,j,rfl,q⟩:=h;obtain⟨u,w',rfl,⟨t,rfl⟩,⟨t',rfl⟩⟩:=vals2 r;refine min_two_ints #[Na] fun h' tk k=>⟨_,H,I.kept k,?_,q⟩
 by_cases hj:j < i
 ·rw [if_pos hj,if_pos hj]; exact⟨_,rfl⟩
 ·rw [if_neg hj,if_neg hj]; exact⟨_,rfl⟩
theorem zke:zbG X (.type "int") (fun xs H Q=>(∃ i,xs = [.int i]/\Q (.int i) H)\/∃ k,xs = [.bl k]/\Q (.int (if k then 1 else 0)) H):=by
 intro lN s σ H xs us Q I r h;rcases h with ⟨i,rfl,q⟩ | ⟨k,rfl,q⟩
 ·obtain⟨u,rfl,t,rfl⟩:=vals1 r;exact call_int_int ⟨.int i,H,I,⟨_,rfl⟩,q⟩
 ·obtain⟨u,rfl,r1⟩:=vals1 r;cases r1;exact call_int_bool ⟨.int (if k then 1 else 0),H,I.tok _,⟨_,rfl⟩,q⟩
end
theorem zd4.some_of {o:Option Value} (r:zd4 #[Q0] o):∃ u,o=some u/\RelV v u:=by
 cases o with
 | none=>exact (show False from r).elim
 | some u=>exact⟨u,rfl,r⟩
structure KL (k:Nat) (A:Around):Prop where
 hd:A.handled=none
 dp:A.depth+3*k+5 < recursionLimit
 un:A.units+16*k+200 < cLine
theorem KL.mono (r:KL k A) (h:j<=k):KL j A:=⟨r.hd,by have:=r.dp; lia,by have:=r.un; lia⟩
theorem KL.deeper (r:KL (k+1) A) (env:Env):KL k (A.deeper env) :=
 ⟨r.hd,by have:=r.dp; show A.depth+1+3*k+5 < _; lia,by have:=r.un; show A.units+3+16*k+200 < _; lia⟩
theorem KL.depth (r:KL k A):A.depth < recursionLimit:=by have:=r.dp; lia
theorem KL.units (r:KL k A):A.units+64 < cLine:=by have:=r.un; lia
noncomputable def zqL:TA:=fun _ H Q=>Q [] H
noncomputable def zoz (ta:TE) (tr:TA):TA:=fun σ H Q=>ta σ H fun x H1=>tr σ H1 fun xs H2=>Q (x :: xs) H2
section
variable {X:Cx} {e:Expr} {es:List Expr} {te:TE} {t:TA} {pos:Pos}
theorem ze:PA X [] zqL:=fun _ _ _ _ H Q I h=>ed ⟨[],H,I,.nil,h⟩
theorem za (ha:PE X e te) (hr:PA X es t) (hs:starEach (e :: es) X.env=#[Id] :: starEach es X.env:=by rfl):PA X (e :: es) (zoz te t):=by
 intro pos lN s σ H Q I h;rw [hs];show wpAny _ _ (spliced (#[Id] :: backTo pos #[M9])) _ _ s;refine dt (thn #[M1] fun u s1 ⟨x,H1,I1,r1,q1⟩=>?_);exact thn (hr pos lN s1 σ H1 _ I1 q1) fun us s2 ⟨xs,H2,I2,r2,q2⟩=>⟨x :: xs,H2,I2,.cons r1 r2,q2⟩
theorem ya {X:Cx} {e:Expr} {te:TE} (a:PE X e te) (b:starEach [e] X.env=#[Id] :: starEach [] X.env):PA X [e] (zoz te zqL):=za a ze b
noncomputable def zqM (t:TA):TE:=fun σ H Q=>t σ H fun xs H1=>xs.length<=sizeLine/\∀ p,H1 p=none->Q (.ref p) (lP H1 p #[P8])
noncomputable def zng (t:TA):TE:=fun σ H Q=>t σ H fun xs H1=>xs.length<=sizeLine/\∀ p,H1 p=none->Q (.ref p) (lP H1 p #[Ob])
theorem zaS {x1} (h:PA X es t):PE X (.Tuple es x1 pos) (zqM t):=by
 intro lN s σ H Q I hq;refine wpAny_Tuple_spliced (thn (h pos lN s σ H _ I hq) fun us s1 ⟨xs,H1,I1,r,z,q⟩=>⟨by rw [<- r.length]; exact z,?_⟩);have hf:H1 s1.heap.objs.size=none:=I1.hok.fresh (af _);refine⟨.ref s1.heap.objs.size,lP H1 s1.heap.objs.size #[P8],I1.laid (t':=s1.toks) (fun b u e=>ai _ e) (af _) ?_,rfl,q _ hf⟩;exact⟨z,us,r,⟨_,aE _ rfl,rfl,_,rfl⟩⟩
theorem zac (h:PA X es t):PE X (.List es pos) (zng t):=by
 intro lN s σ H Q I hq;refine wpAny_List_spliced (thn (h pos lN s σ H _ I hq) fun us s1 ⟨xs,H1,I1,r,z,q⟩=>⟨by rw [<- r.length]; exact z,?_⟩);have hf:H1 s1.heap.objs.size=none:=I1.hok.fresh (af _);refine⟨.ref s1.heap.objs.size,lP H1 s1.heap.objs.size #[Ob],I1.laid (t':=s1.toks) (fun b u e=>ai _ e) (af _) ?_,rfl,q _ hf⟩;exact⟨z,us,0,r,aE _ rfl⟩
end
abbrev Sp:=List V->Hp->VK->XK->Prop
abbrev CXT:=List Env->Hp->Shared->XK->Value->Shared->Prop
structure Mn (P:Program) (w:World) (K:ah) (mg:Str->Option Value) (base:Heap) (A:Around) (outer:List Env) (s:Shared) (H:Hp):Prop where
 frames:A.frames=some outer
 mod:Mod K mg base
 bs:∀ b o,base.get? b=some o->s.heap.get? b=some o/\H b=none
 bsz:base.objs.size<=s.heap.objs.size
 LC:s.heap.FunFrames base outer
 frf:∀ b∈frs outer,H b=none
 hok:HOk P w H s.heap
 bare:AllBare s.gens
noncomputable def CE (outer:List Env) (P:Program) (w:World) (H:Hp) (s:Shared) (Q:VK) (u:Value) (s':Shared):Prop :=
 ∃ v H',s'.os=s.os/\AllBare s'.gens/\Un (frs outer) [] H H' s.heap s'.heap/\HOk P w H' s'.heap/\RelV v u/\Q v H'
noncomputable def CR (CX:CXT) (outer:List Env) (P:Program) (w:World) (H:Hp) (s:Shared) (Q:VK) (E:XK) (r:Result) (s':Shared):Prop :=
 match r with
 | .ok (.ret u)=>CE outer P w H s Q u s'
 | .ok _=>False
 | .error e=>CX outer H s E e s'
structure Jk (P:Program) (w:World) (K:ah) (mg:Str->Option Value) (base:Heap) (CX:CXT) (k:Nat) (f:Addr) (fd:FuncData) (ps:List Str) (sp:Sp):Prop where
 len:∀ vs H Q E,sp vs H Q E->vs.length=ps.length
 run:∀ (A:Around) (outer:List Env) (s:Shared) (H:Hp) (args:Args) (us:List Value) (vs:List V) (Q:VK) (E:XK),KL k A->Mn P w K mg base A outer s H->BindsTo s fd args #[SH]->zU vs us->sp vs H Q E ->
  codeAny #[Ph] A (.call #[Q3] args) (CR CX outer P w H s Q E) s
section
variable {X:Cx} {lN:List (Addr×Obj)} {σ:St} {H:Hp} {s s':Shared}
theorem Inv.MN (I:Inv X lN σ H s):Mn X.prog X.w X.K X.mg X.base X.A X.stack s H :=
 ⟨I.ok.frames,I.ok.mod,I.bs,aV I.ok.bsz I.sz,I.stack,I.Lm,I.hok,I.bare⟩
theorem Inv.after {u:Value} (I:Inv X lN σ H s) (h:CE X.stack X.prog X.w H s Q u s'):EP X lN σ Q u s':=by
 obtain⟨v,H',os,bare,un,hok,r,q⟩:=h;obtain⟨hh,g,d,t,BZ⟩:=s';obtain rfl:BZ=s.os:=os;exact⟨v,H',I.call (h':=hh) (g':=g) (d':=d) (t':=t) (ch:=[]) un hok bare (fun b z=>absurd z #[M]),r,q⟩
end
noncomputable def zqb (sp:Sp) (yw:List V) (E:XK) (t:TA):TE:=fun σ H Q=>t σ H fun vs H1=>sp (vs++yw) H1 Q E
noncomputable def Binds (K:ah) (fd:FuncData) (ps:List Str) (ds:List Value):Prop :=
 ∀ (s:Shared) (us:List Value),K.In s.heap->(us++ds).length=ps.length->BindsTo s fd ⟨us,[]⟩ (ps.zip (us++ds))
theorem Binds.all {K:ah} {ps:List Str} (h:∀ us:List Value,us.length=ps.length->bindArgs fd ⟨us,[]⟩=pure #[SH]):Binds K fd ps []:=fun s us _ hl=>by
 rw [bH] at hl |-;exact .of_eq (h us hl)
noncomputable def ziz (CX:CXT) (X:Cx) (E:XK):Prop:=∀ (lN:List (Addr×Obj)) (σ:St) (H:Hp) (s:Shared) (e:Value) (s':Shared),Inv X lN σ H s->CX X.stack H s E e s'->X.xe e s'
section
variable {X:Cx} {CX:CXT} {k:Nat} {f C:Addr} {fd:FuncData} {ps:List Str} {sp:Sp} {yw:List V} {ds:List Value} {E:XK} {x m:Str} {p pos apos:Pos} {e o:Expr} {es:List Expr} {ta:TE} {t:TA}
theorem zo7 {σ:St} {vs:List V} (F:Jk X.prog X.w X.K X.mg X.base CX k f fd ps sp) (hr:KL k X.A) (hb:Binds X.K fd ps ds) (hd:zU yw ds) (hx:ziz CX X E)
  (I:Inv X lN σ H s) (r:zU vs us) (h:sp (vs++yw) H Q E):wpAny #[o0] X.A (call #[Q3] us) #[Nf] X.xe s:=by
 have r2:zU (vs++yw) (us++ds):=r.append hd;have hl:(us++ds).length=ps.length:=by rw [<- r2.length]; exact F.len _ _ _ _ h
 refine jx (eP (F.run X.A X.stack s H ⟨us,[]⟩ (us++ds) (vs++yw) Q E hr I.MN (hb s us I.kIn hl) r2 h) fun r s' hq=>?_);cases r with
 | error e=>exact hx lN σ H s e s' I hq
 | ok fl =>
  cases fl with
  | ret u=>exact I.after hq
  | next=>exact eh hq
  | brk=>exact eh hq
  | cont=>exact eh hq
theorem zo (F:Jk X.prog X.w X.K X.mg X.base CX k f fd ps sp) (hr:KL k X.A) (hg:Gl X x) (hm:X.mg x=some #[Q3]) (hk:fP X.K #[Q3]=true) (hb:Binds X.K fd ps ds) (hd:zU yw ds) (hx:ziz CX X E)
  (ha:PA X (e :: es) t) (B0:(x == ("__debug__" : Str))=false:=by decide) (he:starEach (e :: es) X.env=#[Id] :: starEach es X.env:=by rfl) (m8:#[P4].any (·.1)=false:=by rfl) :
  PE X (.Call (.Name x p) (e :: es) [] pos) (zqb sp yw E t):=by
 intro lN s σ H Q I h;refine eG (zna I hg hm ?_ B0);refine PySem.W.callWith_K (h₀:=X.base) I.ok.mod.kin hk (thn #[FM] fun us s1 ⟨vs,H1,I1,r,q⟩=>⟨I1.kIn,?_⟩) he m8;exact zo7 F hr hb hd hx I1 r q
end
structure IJ (N P:List Str) (sc:Scope):Prop where
 kind:sc.kind = .function
 co:sc.isCoroutine=false
 gen:sc.isGenerator=false
 nd:N.Nodup
 pre:N.take P.length=P
 par:∀ x∈P,sc.names.lookup x=some .local\/sc.names.lookup x=some .cell
 L9:∀ y∈sc.names,y.2≠.free
theorem zfD {kindOf:Str->Option NameKind} {x:Str}:∀ {binds:List (Str×Value)} {m:Str->Option Value},(∀ v,(x,v)∉binds)->bindL kindOf binds m x=m x
 | [],_,_=>rfl
 | (n,v) :: r,m,h=>by
  unfold bindL;rw [zfD fun w hw=>h w (au _ hw)];split
  ·have:x≠n:=by rintro rfl; exact h v aD
   simp [this]
  ·rfl
theorem zfE {kindOf:Str->Option NameKind} {x:Str}:∀ {binds:List (Str×Value)} {m:Str->Option Value},(∀ v,(x,v)∉binds)->bindC kindOf binds m x=m x
 | [],_,_=>rfl
 | (n,v) :: r,m,h=>by
  unfold bindC;rw [zfE fun w hw=>h w (au _ hw)];split
  ·rfl
  ·have:x≠n:=by rintro rfl; exact h v aD
   simp [this]
theorem zfF {kindOf:Str->Option NameKind} {x:Str} {v:Value}:∀ {P:List Str} {vs:List Value} {i:Nat} {m:Str->Option Value},P.Nodup->P[i]? = some x->vs[i]? = some v->kindOf x=some .local ->
  bindL kindOf (P.zip vs) m x=some v
 | [],_,_,_,_,h,_,_=>by simp at h
 | _ :: _,[],_,_,_,_,h,_=>by simp at h
 | p :: P,w :: vs,0,m,nd,h1,h2,hk=>by
  simp at h1 h2; subst h1; subst h2;show bindL kindOf #[PU] m p=_;unfold bindL;rw [zfD fun v hv=>(c8.mp nd).1 (gq hv).1,if_pos hk];simp
 | p :: P,w :: vs,i+1,m,nd,h1,h2,hk=>by
  show bindL kindOf #[PU] m x=_;unfold bindL;exact zfF (i:=i) (c8.mp nd).2 (by simpa using h1) (by simpa using h2) hk
theorem zfG {kindOf:Str->Option NameKind} {x:Str} {v:Value}:∀ {P:List Str} {vs:List Value} {i:Nat} {m:Str->Option Value},P.Nodup->P[i]? = some x->vs[i]? = some v->kindOf x≠some .local ->
  bindC kindOf (P.zip vs) m x=some v
 | [],_,_,_,_,h,_,_=>by simp at h
 | _ :: _,[],_,_,_,_,h,_=>by simp at h
 | p :: P,w :: vs,0,m,nd,h1,h2,hk=>by
  simp at h1 h2; subst h1; subst h2;show bindC kindOf #[PU] m p=_;unfold bindC;rw [zfE fun v hv=>(c8.mp nd).1 (gq hv).1,if_neg hk];simp
 | p :: P,w :: vs,i+1,m,nd,h1,h2,hk=>by
  show bindC kindOf #[PU] m x=_;unfold bindC;exact zfG (i:=i) (c8.mp nd).2 (by simpa using h1) (by simpa using h2) hk
noncomputable def start (N:List Str) (vs:List V):St:=vs.map some++aJ (N.length - vs.length) none
noncomputable def ziA (CX:CXT) (P:Program) (w:World) (K:ah) (mg:Str->Option Value) (base:Heap) (N:List Str) (qual:Str) (scope:Scope) (f:Addr) (cd:Value) (A:Around) (outer:List Env) (s:Shared) (H:Hp) (E:XK):Cx where
 prog:=P
 w:=w
 K:=K
 mg:=mg
 base:=base
 A:=A.deeper #[FS]
 N:=N
 s₀:=s
 H₀:=H
 env:=envOfC qual scope s.heap.objs.size f cd
 outer:=outer
 stack:=envOfC qual scope s.heap.objs.size f cd :: outer
 ex:=[]
 calm:=true
 fn:=fun _=>true
 pn:=[]
 xe:=fun e s'=>wpAny #[Ph] (A.deeper #[FS]) (leaving #[FS] e) (fun _ B1=>CX outer H s E e B1) (fun e' B1=>CX outer H s E e' B1) s'
theorem zhi {n:Nat} {x:Str} (h:sc.names.lookup x=some .cell):∃ c,(cellsFrom n sc.names []).lookup x=some c:=by
 have q:=jc sc.names n [] (.inl h);exact iI.mp q
theorem zkf {K:ah} {base:Heap} {ps:List Str} {f:Addr} {outer:List Env} {E:XK} {vs:List V}
  (S:IJ N ps scope) (hd:A.handled=none) (e0:Mn P w K mg base A outer s H) (hl:vs.length=ps.length) (r:zU vs us)
  (x:InCallC s s.heap.objs.size (bindL #[FS].kindOf #[SH] fun _=>none) (cellsFrom #[Do] scope.names []) (bindC #[FS].kindOf #[SH] fun _=>none) s1) :
  Inv #[OQ] [] #[Qr] H s1:=by
 have m8:ps.length<=N.length:=by have:=congrArg er S.pre; rw [aG] at this; lia
 obtain⟨h1,tk,rfl,hk⟩:=x.done;have yx:∀ b:Addr,b∉#[OQ].ex:=fun b z=>absurd (show b∈([]:List Addr) from z) #[M]
 refine⟨⟨e0.mod,S.kind,rfl,rfl,af _,fun y z c h1 h2=>?_,fun y hy=>?_,fun y c _ h=>?_,fun _=>hd,Around.frames_deeper e0.frames,.inr ⟨rfl,rfl⟩,fun b z=>absurd z (yx b),e0.bs,e0.bsz,fun b _ _=>yx b,fun b z=>absurd z (yx b),e0.LC,e0.frf⟩,
  rfl,e0.bare,Un.kept hk,⟨_,x.toInCall.ns,fun i y v h1 h2 h3=>?_⟩,fun y c h=>⟨_,x.cell y c h⟩,e0.hok.fresh (af _),fun y c h=>?_,fun p hp=>absurd (show p∈([]:List (Addr×Obj)) from hp) #[M],e0.hok.kept hk,?_⟩
 ·exact name_of_addr x.apart (eF h1) (eF h2)
 ·have hy:scope.names.lookup y=some .cell\/scope.names.lookup y=some .free:=hy;rcases hy with hy | hy
  ·exact zhi hy
  ·exact absurd rfl (S.L9 _ (eF hy))
 ·exact dY (x.above y c (eF h))
 ·have hi:i < vs.length:=by
   unfold start at h2;by_cases hi:i < vs.length
   ·exact hi
   ·rw [cr (by simpa using hi)] at h2;rw [fU] at h2;split at h2 <;> cases h2
  have ha:vs[i]? = some v:=by
   unfold start at h2;rw [bL (by simpa using hi),aj] at h2;cases e:vs[i]? with
   | none=>rw [e] at h2; cases h2
   | some a=>rw [e] at h2; cases h2; rfl
  obtain⟨u,hu,rv⟩:=r.get ha;have hp:ps[i]? = some y:=by
   rw [<- S.pre,b7 #[O]]; exact h1
  have ndP:ps.Nodup:=by rw [<- S.pre]; exact S.nd.sublist (ci _ _)
  refine⟨u,rv,?_⟩;rcases S.par y (aA hp) with k | k
  ·exact .inl ⟨k,zfF ndP hp hu k⟩
  ·obtain⟨c,e⟩:=zhi (n:=s.heap.objs.size+1) k;refine .inr ⟨.inl k,c,e,?_⟩;have q:=x.cell y c e;rw [zfG ndP hp hu (by show scope.names.lookup y≠_; rw [k]; decide)] at q;exact q
 ·exact e0.hok.fresh (dY (x.above y c (eF h)))
 ·unfold start;show _=N.length;rw [ap,ab,cB];lia
theorem zoA {K:ah} {base:Heap} {f:Addr} {params:Arguments} {body:List Stmt} {dV kV doc mE:Value} 
  {xE:Array #[Qd]} {ps:List Str} (lk:K.lookup f=some ⟨oc,od,.func #[OR],xE⟩) (tf:fQ K mE qual=true) (S:IJ N ps scope)
  (len:∀ vs H Q E,sp vs H Q E->vs.length=ps.length)
  (tE:∀ (A:Around) (outer:List Env) (s:Shared) (H:Hp) (vs:List V) (Q:VK) (E:XK),KL k (A.deeper (envOfC qual scope s.heap.objs.size f mE))->sp vs H Q E ->
   ∃ t,PSs #[M4] body t/\t { nx:=fun _ H'=>Q .non H',rt:=Q } #[Qr] H) :
  Jk P w K mg base CX (k+1) f #[OR] ps sp:=by
 refine⟨len,fun A outer s H args us vs Q E hr e0 hb r vU=>?_⟩;have hl:=len _ _ _ _ vU;have KX:K.In s.heap:=e0.mod.kin.keeps fun b o e=>(e0.bs b o e).1
 have lim:s.heap.NoLimit:=e0.mod.nolimit.keeps fun b o e=>(e0.bs b o e).1
 have tF:∀ y∈ps.zip us,scope.names.lookup y.1=some .local\/(scope.names.lookup y.1=some .cell/\((cellsFrom #[Do] scope.names []).lookup y.1).isSome=true):=fun ⟨n,v⟩ hy=>by
  rcases S.par n (gq hy).1 with q | q
  ·exact .inl q
  ·exact .inr ⟨q,jc _ _ _ (.inl q)⟩
 refine codeAny_call_function hr.depth (KX _ _ lk) rfl S.co S.gen rfl (PySem.W.codeRec_of KX tf) (hb _ _ _ _ ?_);refine wpAny_newFunctionEnv_cells S.kind tF fun env he s1 x=>?_
 subst he;refine⟨lim.keeps x.toInCall.keep,codeAny_func ?_⟩;obtain⟨t,ht,hq⟩:=tE A outer s H vs Q E (hr.deeper _) vU;have I:Inv #[M4] [] #[Qr] H s1:=zkf S hr.hd e0 hl r x;refine cE (ht [] s1 #[Qr] H _ I hq) (fun fl s' hs=>?_) fun e s' hs=>hs
 have fin:∀ {σ':St} {H':Hp} {v:V} {u:Value},Inv #[M4] [] σ' H' s'->RelV v u->Q v H'->CE outer P w H s Q u s' :=
  fun {σ' H' v u} J rv q=>⟨v,H',J.os,J.bare,J.base,J.hok,rv,q⟩
 cases fl with
 | ret u =>
  obtain⟨v,σ',H',J,rv,q⟩:=hs;exact fin J rv q
 | next =>
  obtain⟨σ',H',J,q⟩:=hs;exact fin (v:=V.non) (u:=dg) J rfl q
 | brk =>
  obtain⟨_,_,_,q⟩:=hs;exact eh q
 | cont =>
  obtain⟨_,_,_,q⟩:=hs;exact eh q
section
variable {X:Cx} {x:Str} {p pos:Pos} {e:Expr} {es:List Expr} {t:TA} {id T:String} {r:List V->Hp->VK->Prop}
noncomputable def tCB (r:List V->Hp->VK->Prop) (t:TA):TE:=fun σ H Q=>t σ H fun vs H1=>r vs H1 Q
theorem zw (hc:zbG X #[OI] r) (hg:Gl X x) (hm:X.mg x=none) (hv:bootBuiltins x=some #[OI]) (ha:PA X (e :: es) t) (hn:x≠"__name__":=by decide) (B0:(x == ("__debug__" : Str))=false:=by decide)
  (he:starEach (e :: es) X.env=#[Id] :: starEach es X.env:=by rfl) (m8:#[P4].any (·.1)=false:=by rfl):PE X (.Call (.Name x p) (e :: es) [] pos) (tCB r t):=by
 intro lN s σ H Q I h;refine eG #[S8];exact PyProof.Rows.callWith_builtin1 (thn #[FM] fun us s1 ⟨vs,H1,I1,r1,q1⟩=>hc lN s1 σ H1 vs us Q I1 r1 q1) he m8
theorem zan (hc:zbG X (.type T) r) (hg:Gl X x) (hm:X.mg x=none) (hv:bootBuiltins x=some (.type T)) (ha:PA X (e :: es) t) (hn:x≠"__name__":=by decide) (B0:(x == ("__debug__" : Str))=false:=by decide)
  (he:starEach (e :: es) X.env=#[Id] :: starEach es X.env:=by rfl) (m8:#[P4].any (·.1)=false:=by rfl):PE X (.Call (.Name x p) (e :: es) [] pos) (tCB r t):=by
 intro lN s σ H Q I h;refine eG #[S8];exact bE (thn #[FM] fun us s1 ⟨vs,H1,I1,r1,q1⟩=>hc lN s1 σ H1 vs us Q I1 r1 q1) he m8
end
end L2
namespace HT
open PySem PyProof.Rows
section
variable {prog:Program} {w:World} {A:Around} {E:Value->Shared->Prop} {s:Shared}
noncomputable def sIx (n d:Nat):Option Int->Nat
 | none=>d
 | some v=>if v < 0 then (v+(n:Int)).toNat else min v.toNat n
theorem Ky (n d:Nat):sIx n d none=d:=rfl
theorem Kf (n d k:Nat):sIx n d (some (k:Int))=min k n:=by
 show (if (k:Int) < 0 then ((k:Int)+(n:Int)).toNat else min (k:Int).toNat n)=min k n;rw [if_neg #[O],bh]
end
end HT
namespace L2
open PySem PySem.Spec PyProof.Rows
variable {A:Around} {H:Hp} {j t':Nat} {lN:List (Addr×Obj)} {lQ:List Value} {ns:List Int} {s:Shared} {y:V} {ys:List V}
abbrev TO:=St->Hp->(Option Int->Hp->Prop)->Prop
noncomputable def PO (X:Cx) (e:Option Expr) (t:TO):Prop :=
 ∀ (lN:List (Addr×Obj)) (s:Shared) (σ:St) (H:Hp) (Q:Option Int->Hp->Prop),Inv X lN σ H s->t σ H Q ->
  wpAny #[o0] X.A (evalPart e X.env) (fun u s'=>∃ o H',Inv X lN σ H' s'/\IsPart u o/\Q o H') X.xe s
noncomputable def znh:TO:=fun _ H Q=>Q none H
noncomputable def zqc (t:TE):TO:=fun σ H Q=>t σ H fun x H1=>∃ i,x = .int i/\Q (some i) H1
theorem intsAre_of:∀ {us:List Value},zU #[xz] us->IntsAre us ns:=by
 induction ns with
 | nil=>intro us r; rw [fG] at r; cases r; exact .nil
 | cons n ns ih =>
  intro us r;rw [aM] at r;cases r with
  | cons r1 r2 =>
   obtain⟨t,e⟩:=r1;subst e;exact .cons n t (ih r2)
section
variable {X:Cx} {e:Expr} {te:TE} {lo hi:Option Expr} {tl th:TO} {pos p2:Pos}
theorem zbS:PO X none znh:=by
 intro lN s σ H Q I h;rw [evalPart_none];exact ao ⟨none,H,I,.none,h⟩
theorem zbt (h:PE X e te):PO X (some e) (zqc te):=by
 intro lN s σ H Q I hw;rw [evalPart_some];refine thn (h lN s σ H _ I hw) fun u s1 ⟨x,H1,I1,r1,q1⟩=>?_
 obtain⟨i,rfl,q⟩:=q1;obtain⟨t,rfl⟩:=r1;exact⟨some i,H1,I1,.int i t,q⟩
noncomputable def SlR (X:Cx) (r:V->Option Int->Option Int->Hp->VK->Prop):Prop :=
 ∀ (lN:List (Addr×Obj)) (s:Shared) (σ:St) (H:Hp) (x:V) (v vl vu:Value) (lo hi:Option Int) (sl:Addr) (Q:VK),Inv X lN σ H s->RelV x v->s.heap.IsSliceOf sl vl vu .none->IsPart vl lo->IsPart vu hi->r x lo hi H Q ->
  ∃ T id,typeLookup (.type T) "__getitem__" = pure (some #[OI])/\s.TypeIs v T/\wpAny #[o0] X.A (getItem v (.ref sl)) #[Nf] X.xe s
noncomputable def tSl (r:V->Option Int->Option Int->Hp->VK->Prop) (te:TE) (tl th:TO):TE:=fun σ H Q=>te σ H fun x H1=>tl σ H1 fun l H2=>th σ H2 fun u H3=>r x l u H3 Q
theorem zbc {r:V->Option Int->Option Int->Hp->VK->Prop} (hr:SlR X r) (he:PE X e te) (hl:PO X lo tl) (hu:PO X hi th):PE X (.Subscript e (.Slice lo hi none p2) pos) (tSl r te tl th):=by
 intro lN s σ H Q I h;refine jy (thn #[No] fun v s1 ⟨x,H1,I1,r1,q1⟩=>?_);refine wpAny_Slice (thn (hl lN s1 σ H1 _ I1 q1) fun vl s2 ⟨l,H2,I2,pl,q2⟩=>thn (hu lN s2 σ H2 _ I2 q2) fun vu s3 ⟨u,H3,I3,pu,q3⟩=>?_);rw [evalPart_none];refine ao ?_;have I4:Inv X lN σ H3 { s3 with heap:=s3.heap.push { cls:=.type "slice",data:=.fields #[vl,vu,.none] } }:=I3.kept (t':=s3.toks) fun b ob q=>ai _ q
 obtain⟨T,id,hT,ht,hg⟩:=hr lN { s3 with heap:=s3.heap.push { cls:=.type "slice",data:=.fields #[vl,vu,.none] } } σ H3 x v vl vu l u s3.heap.objs.size Q I4 r1 (Heap.IsSliceOf.new ..) pl pu q3;show wpAny #[o0] X.A (subscriptTail e (.Slice lo hi none p2) v (.ref s3.heap.objs.size)) #[Nf] X.xe { s3 with heap:=s3.heap.push { cls:=.type "slice",data:=.fields #[vl,vu,.none] } };exact tail_any (ops:=[.ref s3.heap.objs.size,v]) ht hT hg (by with_unfolding_all rfl)
noncomputable def zcu (xs:List V) (lo hi:Option Int):List V:=(xs.drop (HT.sIx xs.length 0 lo)).take #[OL]
theorem zhj (xs:List V) (lo hi:Option Int):(zcu xs lo hi).length<=xs.length:=by
 unfold zcu;rw [aG,cn];lia
end
noncomputable def ixN (n:Nat) (i:Int):Option Nat:=if 0<=i then (if i < n then some i.toNat else none) else if -(n:Int)<=i then some (i+n).toNat else none
noncomputable def atI {α:Type} (xs:List α) (i:Int):Option α:=(ixN xs.length i).bind fun j=>xs[j]?
theorem zi7 {n:Nat} {i:Int} (h:ixN n i=some j):seqIndex? i n=some j/\j < n/\-(n:Int)<=i/\i < n:=by
 unfold ixN at h;by_cases h0:0<=i
 ·rw [if_pos h0] at h;by_cases h1:i < n
  ·rw [if_pos h1] at h;have e:i.toNat=j:=aS h;exact⟨by rw [gZ h0 h1,e],#[O],#[O],h1⟩
  ·rw [if_neg h1] at h; cases h
 ·rw [if_neg h0] at h;by_cases h1:-(n:Int)<=i
  ·rw [if_pos h1] at h;have e:(i+n).toNat=j:=aS h;exact⟨by rw [j1 #[O] h1,e],#[O],h1,#[O]⟩
  ·rw [if_neg h1] at h; cases h
theorem zi8 {α:Type} {xs:List α} {i:Int} {v:α} (h:atI xs i=some v):∃ j,seqIndex? i xs.length=some j/\xs[j]? = some v/\j < xs.length/\-(xs.length:Int)<=i/\i < xs.length:=by
 unfold atI at h;cases e:ixN xs.length i with
 | none=>rw [e] at h; cases h
 | some j =>
  rw [e] at h;obtain⟨h1,h2,h3,h4⟩:=zi7 e;exact⟨j,h1,h,h2,h3,h4⟩
theorem zaH {α:Type} {xs:List α} {v:α} (h:xs[j]? = some v):atI xs (j:Int)=some v:=by
 have hj:j < xs.length:=(av.mp h).1;have e:ixN xs.length (j:Int)=some j:=by
  unfold ixN;rw [if_pos #[O],if_pos #[O]]; simp
 unfold atI; rw [e]; exact h
noncomputable def zni (b:Expr):Prop:=∀ o i,subscripted b false o i=operate [o,i] (getItem o i)
noncomputable def IxR (X:Cx) (r:R2):Prop :=
 ∀ (value slice:Expr) (lN:List (Addr×Obj)) (s:Shared) (σ:St) (H:Hp) (x y:V) (v u:Value) (Q:VK),Inv X lN σ H s->RelV x v->RelV y u->r x y H Q ->
  subscripted slice false v u=operate [v,u] (getItem v u)->wpAny #[o0] X.A (subscriptTail value slice v u) #[Nf] X.xe s
noncomputable def MtR (X:Cx) (id:String) (r:V->List V->Hp->VK->Prop):Prop :=
 ∀ (lN:List (Addr×Obj)) (s:Shared) (σ:St) (H:Hp) (x:V) (xs:List V) (v:Value) (us:List Value) (Q:VK),Inv X lN σ H s->RelV x v->zU xs us->r x xs H Q ->
  wpAny #[o0] X.A (call #[OI] (v :: us)) #[Nf] X.xe s
section
variable {X:Cx} {a b:Expr} {ta tb:TE} {pos:Pos}
theorem zR {r:R2} (hr:IxR X r) (ha:PE X a ta) (hb:PE X b tb) (hs:zni b):PE X (.Subscript a b pos) #[Sg]:=by
 intro lN s σ H Q I h;exact jy (zo1 ha hb I h fun v u s2 x y H2 I2 rx ry q=>hr a b lN s2 σ H2 x y v u Q I2 rx ry q (hs _ _))
noncomputable def zqd (K:ah):R2:=fun x y H Q=>∃ p xs i v,x = .ref p/\y = .int i/\lO K H p xs/\atI xs i=some v/\Q v H
noncomputable def zqe (K:ah):R2:=fun x y H Q=>∃ p xs i v,x = .ref p/\y = .int i/\lY K H p xs/\atI xs i=some v/\Q v H
theorem zG:IxR X (zqd X.K):=by
 intro value slice lN s σ H x y v u Q I rx ry h hs;obtain⟨p,xs,i,z,rfl,rfl,hq,he,q⟩:=h;cases rx;obtain⟨t,rfl⟩:=ry;obtain⟨lQ,r,pl,hz⟩:=I.list hq;obtain⟨j,h1,h2,h3,h4,h5⟩:=zi8 he;obtain⟨w,ew,vf⟩:=r.get h2;have hl:=r.length;have hn:=zeA;have fin:EP X lN σ Q w s:=⟨z,H,I,vf,q⟩;by_cases h0:0<=i
 ·have hj:i.toNat=j:=by
   rw [gZ h0 h5] at h1;exact aS h1
  exact item_listR pl.isList h0 #[O] (by rw [hj]; simpa using ew) fin hs
 ·have hj:(i+(lQ.toArray.size:Int)).toNat=j:=by
   rw [j1 #[O] h4] at h1;rw [aq,<- hl];exact aS h1
  exact f' (x:=w) pl.isList.typeIs slot_list_getitem.lookup
   (wpAny_getItem_list_neg (Q:=fun r s'=>r=w/\EP X lN σ Q r s') pl.isList #[O] (by rw [aq] <;> lia) #[O] (by rw [hj]; simpa using ew) ⟨rfl,fin⟩) hs
theorem zcv:IxR X (zqe X.K):=by
 intro value slice lN s σ H x y v u Q I rx ry h hs;obtain⟨p,xs,i,z,rfl,rfl,hq,he,q⟩:=h;cases rx;obtain⟨t,rfl⟩:=ry;obtain⟨lQ,r,pl,hz⟩:=I.tuple hq;obtain⟨j,h1,h2,h3,h4,h5⟩:=zi8 he;obtain⟨w,ew,vf⟩:=r.get h2;have hl:=r.length;have hn:=zeA;have fin:EP X lN σ Q w s:=⟨z,H,I,vf,q⟩;exact f' (x:=w) pl.typeIs slot_tuple_getitem.lookup
  (jI (j:=j) (Q:=fun r s'=>r=w/\EP X lN σ Q r s') pl #[O] #[O] (by rw [aq,<- hl]; exact h1) (by simpa using ew) ⟨rfl,fin⟩) hs
theorem ziB (lQ:List Value) (n j:Nat) (u:Value):dh (·.setIfInBounds j u) { cls:=.type "list",data:=.seq lQ.toArray n } = { cls:=.type "list",data:=.seq (lQ.set j u).toArray n }:=by
 simp [dh]
theorem Inv.lst {σ:St} {p:Addr} {xs:List V} (I:Inv X lN σ H s) (h:H p=some #[Ob]) :
  ∃ (lQ:List Value) (n:Nat),zU xs lQ/\s.heap.get? p=some { cls:=.type "list",data:=.seq lQ.toArray n }/\xs.length<=sizeLine:=by
 obtain⟨z,lQ,n,r,e⟩:=I.hok p _ h;exact⟨lQ,n,r,e,z⟩
theorem Inv.Mc {σ:St} {p:Addr} {xs:List V} {its':List Value} {n n':Nat} {f:Obj->Obj} (I:Inv X lN σ H s) (h:H p=some #[Ob])
  (ho:s.heap.get? p=some { cls:=.type "list",data:=.seq lQ.toArray n }) (hf:f { cls:=.type "list",data:=.seq lQ.toArray n } = { cls:=.type "list",data:=.seq its'.toArray n' }) (r:zU ys its') (hz:ys.length<=sizeLine) (t:Nat) :
  Inv X lN σ (lP H p #[Qm]) { s with heap:=s.heap.update p f,toks:=t }:=by
 have e:(s.heap.update p f).get? p=some { cls:=.type "list",data:=.seq its'.toArray n' }:=by
  rw [d7 f ho (by rw [hf] <;> rfl),hf]
 refine I.write (x:=p) (e:=p) (by rw [h]; trivial) #[Nq] (fun b u hb q=>(ga _ _ (dq hb)).trans q) ⟨_,e⟩ ?_;exact⟨hz,its',n',r,e⟩
noncomputable def zqf:V->V->V->Hp->(Hp->Prop)->Prop:=fun o i v H Q=>∃ p xs k j,o = .ref p/\i = .int k/\H p=some #[Ob]/\ixN xs.length k=some j/\Q (lP H p (.lst (xs.set j v)))
theorem set_list:zp6 X zqf:=by
 intro lN s σ H o i v ov iv u Q I ro ri rv h;obtain⟨p,xs,k,j,rfl,rfl,hp,hj,q⟩:=h;cases ro;obtain⟨t,rfl⟩:=ri;obtain⟨lQ,n,r,ho,hz⟩:=I.lst hp;obtain⟨h1,h2,h3,h4⟩:=zi7 hj;have hl:=r.length;have hn:=zeA;have I':Inv X lN σ (lP H p (.lst (xs.set j v))) { s with heap:=s.heap.update p (dh (·.setIfInBounds j u)) } :=
  I.Mc hp ho (ziB lQ n j u) (r.set rv j) (by rw [i3]; exact hz) s.toks
 by_cases h0:0<=k
 ·have hk:k.toNat=j:=by
   rw [gZ h0 h4] at h1;exact aS h1
  exact PySem.W.ki_setAt ho h0 #[O] (by rw [aq,<- hl]; exact h4) (by rw [hk]; exact⟨_,I',q⟩)
 ·have hk:(k+(lQ.toArray.size:Int)).toNat=j:=by
   rw [j1 #[O] h3] at h1;rw [aq,<- hl];exact aS h1
  exact PySem.W.ki_setBack ho #[O] (by rw [aq,<- hl]; exact h3) #[O] (by rw [hk]; exact⟨_,I',q⟩)
theorem zgb (lo hi:Option Int) (n:Nat):#[Pt].1=((HT.sIx n 0 lo:Nat):Int)/\#[Pt].2.1=((HT.sIx n n hi:Nat):Int)/\#[Pt].2.2=1:=by
 refine⟨?_,?_,rfl⟩
 ·cases lo with
  | none=>simp [sliceBounds,HT.sIx]
  | some i =>
   simp only [sliceBounds,HT.sIx,kL,show (1:Int) > 0 by decide,if_true];by_cases h:i < 0
   ·simp only [h,if_true] <;> lia
   ·simp only [h,if_false] <;> lia
 ·cases hi with
  | none=>simp [sliceBounds,HT.sIx]
  | some i =>
   simp only [sliceBounds,HT.sIx,kL,show (1:Int) > 0 by decide,if_true];by_cases h:i < 0
   ·simp only [h,if_true] <;> lia
   ·simp only [h,if_false] <;> lia
theorem zfi (lQ:List Value) (lo hi:Option Int):slicePick lQ.toArray lo hi none=((lQ.drop (HT.sIx lQ.length 0 lo)).take (HT.sIx lQ.length lQ.length hi - HT.sIx lQ.length 0 lo)).toArray:=by
 obtain⟨h1,h2,h3⟩:=zgb lo hi lQ.toArray.size;unfold slicePick;rw [h1,h2,h3];simp only [sliceRange_one,pick_run,aq] <;> rfl
noncomputable def zqg (K:ah):V->Option Int->Option Int->Hp->VK->Prop:=fun x lo hi H Q=>∃ a xs,x = .ref a/\lO K H a xs/\∀ p,H p=none->Q (.ref p) (lP H p (.lst (zcu xs lo hi)))
theorem zbT:SlR X (zqg X.K):=by
 intro lN s σ H x v vl vu lo hi sl Q I rx hs pl pu h;obtain⟨a,xs,rfl,hx,q⟩:=h;cases rx;obtain⟨lQ,r,ht,hz⟩:=I.list hx;have lT:=r.length;refine⟨"list",_,slot_list_getitem.lookup,ht.isList.typeIs,?_⟩;refine wpAny_getItem_list_slice ht.isList hs pl pu .none #[M] ?_ (by rw [aq] <;> lia);rw [zfi,<- lT];refine⟨.ref s.heap.objs.size,_,I.laid (t':=s.toks) (o:=.lst (zcu xs lo hi)) (fun b ob q=>ai _ q) (af _) ?_,rfl,q _ #[Pr]⟩;exact⟨aV (zhj xs lo hi) hz,_,0,(r.drop (HT.sIx xs.length 0 lo)).take #[OL],aE _ rfl⟩
noncomputable def zfH:V->Bool
 | .non=>true
 | .bl _=>true
 | .int _=>true
 | .str _=>true
 | _=>false
noncomputable def eqV:V->V->Bool
 | .non,.non=>true
 | .bl a,.bl b=>a == b
 | .bl a,.int b=>(if a then 1 else 0) == b
 | .int a,.bl b=>a == (if b then 1 else 0)
 | .int a,.int b=>a == b
 | .str a,.str b=>a == b
 | _,_=>false
theorem zo8 {x:V} {u v:Value} (ry:RelV y u) (rx:RelV x v) (fy:zfH y=true) (fx:zfH x=true):SeqAt.EqAt A s u v (eqV y x):=by
 cases y with
 | non =>
  cases ry;cases x with
  | non=>cases rx; exact k9 _
  | bl b=>cases rx; exact SeqAt.EqAt.none_bool b
  | int b=>obtain⟨t,rfl⟩:=rx; exact SeqAt.EqAt.none_int b t
  | str b=>obtain⟨t,rfl⟩:=rx; exact SeqAt.EqAt.none_str b t
  | _=>exact absurd (show false=true from fx) aQ
 | bl a =>
  cases ry;cases x with
  | non=>cases rx; exact SeqAt.EqAt.bool_none a
  | bl b=>cases rx; exact SeqAt.EqAt.bool_bool a b
  | int b=>obtain⟨t,rfl⟩:=rx; exact SeqAt.EqAt.bool_int a b t
  | str b=>obtain⟨t,rfl⟩:=rx; exact SeqAt.EqAt.bool_str a b t
  | _=>exact absurd (show false=true from fx) aQ
 | int a =>
  obtain⟨t',rfl⟩:=ry;cases x with
  | non=>cases rx; exact SeqAt.EqAt.int_none a t'
  | bl b=>cases rx; exact SeqAt.EqAt.int_bool a t' b
  | int b=>obtain⟨t,rfl⟩:=rx; exact SeqAt.EqAt.int_int a t' b t
  | str b=>obtain⟨t,rfl⟩:=rx; exact jY a t' b t
  | _=>exact absurd (show false=true from fx) aQ
 | str a =>
  obtain⟨t',rfl⟩:=ry;cases x with
  | non=>cases rx; exact SeqAt.EqAt.str_none a t'
  | bl b=>cases rx; exact SeqAt.EqAt.str_bool a t' b
  | int b=>obtain⟨t,rfl⟩:=rx; exact jZ a t' b t
  | str b=>obtain⟨t,rfl⟩:=rx; exact SeqAt.EqAt.str_str a t' b t
  | _=>exact absurd (show false=true from fx) aQ
 | _=>exact absurd (show false=true from fy) aQ
theorem zI:zbG X (.builtin "len") (fun xs H Q=>∃ p ys,xs = [.ref p]/\(lO X.K H p ys\/lY X.K H p ys)/\Q (.int ys.length) H):=by
 intro lN s σ H xs us Q I r h;obtain⟨p,ys,rfl,hq,q⟩:=h;obtain⟨u,rfl,rx⟩:=vals1 r;cases rx;have hn:=zeA;rcases hq with hq | hq
 ·obtain⟨lQ,r',pl,hz⟩:=I.list hq;have lT:=r'.length;exact Calls.call_len_list pl.isList (by simp only [aq] <;> lia) ⟨.int ys.length,H,I.tok _,⟨s.toks+1,by rw [aq,lT]⟩,q⟩
 ·obtain⟨lQ,r',pl,hz⟩:=I.tuple hq;have lT:=r'.length;exact len_tuple pl (by simp only [aq] <;> lia) ⟨.int ys.length,H,I.tok _,⟨s.toks+1,by rw [aq,lT]⟩,q⟩
theorem zcw:zbG X (.type "list") (fun xs H Q=>∃ p ys,xs = [.ref p]/\(lO X.K H p ys\/lY X.K H p ys)/\∀ l,H l=none->Q #[Nv] (lP H l #[Qm])):=by
 intro lN s σ H xs us Q I r h;obtain⟨p,ys,rfl,hq,q⟩:=h;obtain⟨u,rfl,rx⟩:=vals1 r;cases rx;have fin:∀ (lQ:List Value),zU ys lQ->ys.length<=sizeLine->∀ (h':Heap) (c':Nat),(∀ b o',s.heap.get? b=some o'->h'.get? b=some o') ->
   h'.get? s.heap.objs.size=some { cls:=.type "list",dict:=none,data:=.seq lQ.toArray c',slots:=#[] }->EP X lN σ Q #[ss] { s with heap:=h' }:=fun lQ r' hz h' c' kp e =>
  ⟨.ref s.heap.objs.size,_,I.laid (t':=s.toks) kp (af _) (show zax X.prog X.w _ h' _ #[Qm] from ⟨hz,lQ,c',r',e⟩),rfl,q _ #[Pr]⟩
 rcases hq with hq | hq
 ·obtain⟨lQ,r',pl,hz⟩:=I.list hq;have lT:=r'.length;obtain⟨o,ho,hc,n,hd⟩:=pl.isList;exact call_list_seq p #[Nq] ho hc hd #[P9] (by simp only [aq] <;> lia)
 ·obtain⟨lQ,r',pl,hz⟩:=I.tuple hq;have lT:=r'.length;obtain⟨o,ho,hc,n,hd⟩:=pl;exact call_list_seq p (.inr rfl) ho hc hd #[P9] (by simp only [aq] <;> lia)
theorem zaP:zbG X (.type "tuple") (fun xs H Q=>∃ p ys,xs = [.ref p]/\((lO X.K H p ys/\∀ l,H l=none->Q #[Nv] (lP H l (.tup ys)))\/(lY X.K H p ys/\Q (.ref p) H))):=by
 intro lN s σ H xs us Q I r h;obtain⟨p,ys,rfl,h⟩:=h;obtain⟨u,rfl,rx⟩:=vals1 r;cases rx;rcases h with ⟨hq,q⟩ | ⟨hq,q⟩
 ·obtain⟨lQ,r',pl,hz⟩:=I.list hq;have lT:=r'.length;refine call_tuple_list pl.isList (fun h' kp=>?_) (by simp only [aq] <;> lia);have I1:Inv X lN σ H { s with heap:=h' }:=I.kept (t':=s.toks) kp;have I2:Inv X lN σ (lP H h'.objs.size (.tup ys)) { s with heap:=h'.push { cls:=.type "tuple",data:=.seq lQ.toArray } } :=
   I1.laid (t':=s.toks) (fun b o e=>ai _ e) (af _) (show zax X.prog X.w _ _ _ (.tup ys) from ⟨hz,lQ,r',IsTup.new _ _⟩)
  exact⟨.ref h'.objs.size,_,I2,rfl,q _ #[Ni]⟩
 ·obtain⟨lQ,r',pl,hz⟩:=I.tuple hq;exact call_tuple_same pl ⟨.ref p,H,I,rfl,q⟩
noncomputable def tyV (K:ah) (T:String) (x:V) (H:Hp):Prop:=match x with
 | .str _=>T = "str"
 | .int _=>T = "int"
 | .ref p=>(T = "list"/\∃ xs,lO K H p xs)\/(T = "tuple"/\∃ o,K.lookup p=some o/\o.cls = .type "tuple"/\o.dict=none) \/
   (T = "dict"/\((∃ kvs,H p=some #[Qn])\/∃ kvs,H p=some #[OM]))\/(T = "set"/\∃ S n,H p=some (.set S n))
 | _=>False
theorem zo9 {σ:St} {T:String} {x:V} {v:Value} (I:Inv X lN σ H s) (r:RelV x v) (ty:tyV X.K T x H) :
  s.TypeIs v T/\∀ a,v = .ref a->∃ ob,s.heap.get? a=some ob/\ob.dict=none:=by
 cases x with
 | str z =>
  obtain⟨t,rfl⟩:=r;cases (show T = "str" from ty);exact⟨typeIs_str s z t,fun _ e=>nomatch e⟩
 | int i =>
  obtain⟨t,rfl⟩:=r;cases (show T = "int" from ty);exact⟨lb s i t,fun _ e=>nomatch e⟩
 | ref p =>
  cases r;rcases ty with ⟨rfl,xs,hq⟩ | ⟨rfl,o,hk,hc,hd⟩ | ⟨rfl,hk⟩ | ⟨rfl,S,n,hk⟩
  ·obtain⟨lQ,_,pl,_⟩:=I.list hq;refine⟨pl.isList.typeIs,fun a e=>?_⟩;cases e;obtain⟨o,n,e,c,hd,_⟩:=pl;exact⟨o,e,hd⟩
  ·refine⟨⟨o,I.kIn p o hk,hc⟩,fun a e=>?_⟩;cases e;exact⟨o,I.kIn _ o hk,hd⟩
  ·have z:∃ o,s.heap.get? p=some o/\o.ExactDict:=by
    rcases hk with ⟨kvs,hk⟩ | ⟨kvs,hk⟩
    ·obtain⟨_,_,_,_,o,_,_,e,ex,_⟩:=I.hok p _ hk;exact⟨o,e,ex⟩
    ·obtain⟨_,_,_,_,o,_,_,e,ex,_⟩:=I.hok p _ hk;exact⟨o,e,ex⟩
   obtain⟨o,e,ex⟩:=z;refine⟨⟨o,e,ex.1⟩,fun a e2=>?_⟩;cases e2;exact⟨o,e,ex.2.1⟩
  ·obtain⟨o,_,_,_,e,ex,_⟩:=I.hok p _ hk;refine⟨⟨o,e,ex.1⟩,fun a e2=>?_⟩;cases e2;exact⟨o,e,ex.2.1⟩
 | _=>exact eh ty
noncomputable def tBM (K:ah) (T:String) (r:V->List V->Hp->VK->Prop) (to:TE) (t:TA):TE:=fun σ H Q=>to σ H fun x H1=>tyV K T x H1/\t σ H1 fun xs H2=>r x xs H2 Q
variable {o e:Expr} {es:List Expr} {to:TE} {t:TA} {name:Str} {apos m6:Pos} {T id:String} {r:V->List V->Hp->VK->Prop}
theorem zdX (pa:PlainAttrs T) (slot:Slot T name id) (Fh:typeOf #[OI]=pure (.type "method_descriptor")) (hm:MtR X id r) (ho:PE X o to) (ha:PA X (e :: es) t)
  (tG:attributeBase o name X.env #[Qc]=eval o X.env:=by rfl)
  (Aa:(#[QS].all (fun x=>!x.1) && (backToKw m6 (keywordEach [] X.env)).all (fun x=>x.1.isSome)
   && decide ((e :: es).length+([]:List Keyword).length+(if ([]:List Keyword).isEmpty then 0 else 1) < 30))=true:=by rfl)
  (tH:(apos.endLine == m6.line)=true:=by rfl) (hs:starEach (e :: es) X.env=#[Id] :: starEach es X.env:=by rfl) (um:#[SL].any (·.1)=false:=by rfl) :
  PE X (.Call (.Attribute o name apos) (e :: es) [] m6) (tBM X.K T r to t):=by
 intro lN s σ H Q I h;refine wpAny_Call_method_late tG Aa tH rfl (thn #[Og] fun v s1 ⟨x,H1,I1,r1,ty,q1⟩=>?_);obtain⟨h1,h2⟩:=zo9 I1 r1 ty;refine⟨T,id,pa,slot,Fh,h1,h2,?_⟩;have hA:=ha m6 lN s1 σ H1 _ I1 q1;rw [hs] at hA |-;refine gb (by show (false || #[SL].any (·.1))=false; rw [um] <;> rfl) (jz ?_);exact thn hA fun us s2 ⟨vs,H2,I2,r2,q2⟩=>hm lN s2 σ H2 x vs v us Q I2 r1 r2 q2
end
noncomputable def MtM (X:Cx) (id:String) (r:V->List V->Hp->VK->Prop):Prop :=
 ∀ (lN:List (Addr×Obj)) (s:Shared) (σ:St) (H:Hp) (x:V) (xs:List V) (v:Value) (us:List Value) (Q:VK),Inv X lN σ H s->RelV x v->zU xs us->r x xs H Q ->
  wpAny #[o0] X.A (call #[OI] (v :: us)) #[Nf] X.xe s
theorem zU.one:∀ {x:V} {us:List Value},zU [x] us->∃ u,us = [u]/\RelV x u
 | _,_,.cons r .nil=>⟨_,rfl,r⟩
theorem zU.eraseIdx:∀ {xs:List V} {us:List Value} (i:Nat),zU xs us->zU (xs.eraseIdx i) (us.eraseIdx i)
 | _,_,_,.nil=>.nil
 | _,_,0,.cons _ t=>t
 | _,_,i+1,.cons r t=>.cons r (zU.eraseIdx i t)
theorem zU.rep {xs:List V} {us:List Value} (h:zU xs us):∀ k:Nat,zU (aJ k xs).flatten (aJ k us).flatten
 | 0=>.nil
 | k+1=>by
  rw [cw,cw,dI,dI];exact zU.append h (zU.rep h k)
theorem zfI {α:Type}:∀ (l:List α) (i:Nat),(l.eraseIdx i).length<=l.length
 | [],_=>af _
 | _ :: _,0=>g7 _
 | _ :: r,i+1=>eA (zfI r i)
theorem foldl_rep (lQ:List Value):∀ (k:Nat) (acc:List Value),
  lg #[R3] acc.toArray (aJ k lQ.toArray)=(acc++(aJ k lQ).flatten).toArray
 | 0,acc=>by simp
 | k+1,acc=>by
  have e:acc.toArray++lQ.toArray=(acc++lQ).toArray:=by simp
  have e2:(acc++lQ)++(aJ k lQ).flatten=acc++(aJ (k+1) lQ).flatten:=by
   rw [cw,dI,bt]
  rw [<- e2,<- foldl_rep lQ k (acc++lQ),<- e,cw,i4]
section
variable {X:Cx} {lN:List (Addr×Obj)} {σ:St} {H:Hp} {s:Shared} {l b:Addr} {xs ys zs:List V}
theorem Inv.Mj {its':List Value} {n:Nat} {f:Array Value->Array Value} (I:Inv X lN σ H s) (hH:H l=some #[Ob])
  (e:s.heap.get? l=some { cls:=.type "list",data:=.seq lQ.toArray n }) (hf:f lQ.toArray=its'.toArray) (hv:zU ys its') (hz:ys.length<=sizeLine) :
  Inv X lN σ (lP H l #[Qm]) { s with heap:=s.heap.update l (dh f),toks:=t' }:=by
 have q:=kM e f;rw [hf] at q;refine I.write (x:=l) (e:=l) (by rw [hH]; exact trivial) #[Nq] (fun b' u hb hu=>(ga s.heap (dh f) (dq hb)).trans hu) ⟨_,q⟩ ?_;exact⟨hz,its',_,hv,q⟩
theorem Inv.MG (I:Inv X lN σ H s) (hv:zU ys lQ) (hz:ys.length<=sizeLine) :
  Inv X lN σ (lP H s.heap.objs.size #[Qm]) { s with heap:=s.heap.push { cls:=.type "list",data:=.seq lQ.toArray },toks:=t' } :=
 I.laid #[RG] (af _) ⟨hz,lQ,0,hv,aE _ rfl⟩
theorem Inv.fresh (I:Inv X lN σ H s):H s.heap.objs.size=none:=I.hok.fresh (af _)
theorem Inv.LR (I:Inv X lN σ H s) (hH:H l=some #[Ob]):xs.length<=sizeLine/\∃ (lQ:List Value) (n:Nat),zU xs lQ/\xs.length=lQ.length/\s.heap.get? l=some { cls:=.type "list",data:=.seq lQ.toArray n }:=by
 obtain⟨z,lQ,n,r,e⟩:=I.hok l _ hH;exact⟨z,lQ,n,r,r.length,e⟩
theorem zhk {n:Nat} (h:n<=sizeLine):eB n=false:=by
 unfold eB;exact decide_eq_false #[O]
end
section
variable {X:Cx}
noncomputable def znj:V->List V->Hp->VK->Prop:=fun x vs H Q=>∃ l xs y,x = .ref l/\vs = [y]/\H l=some #[Ob]/\xs.length < sizeLine/\Q .non (lP H l (.lst (xs++[y])))
theorem zci:MtM X "list.append" znj:=by
 intro lN s σ H x vs v us Q I rx rv h;obtain⟨l,xs,y,rfl,rfl,hH,hz,q⟩:=h;cases rx;obtain⟨u,rfl,ru⟩:=rv.one;obtain⟨z,lQ,n,r,hl,e⟩:=I.LR hH;refine eZ j2 ⟨_,e,rfl⟩ jQ (jA _ _) (km l lQ.toArray n u (by rw [aq]; lia)) ⟨e,?_⟩;refine⟨.non,_,I.Mj (its':=lQ++[u]) hH e #[M] (r.append (.cons ru .nil)) ?_,rfl,q⟩;rw [ap,cT];lia
noncomputable def zpa:V->List V->Hp->VK->Prop:=fun x vs H Q=>∃ l xs i k y,x = .ref l/\vs = [.int i]/\H l=some #[Ob]/\-(2 ^ 63)<=i/\i < 2 ^ 63/\seqIndex? i xs.length=some k/\xs[k]? = some y/\Q y (lP H l (.lst (xs.eraseIdx k)))
theorem zll:MtM X "list.pop" zpa:=by
 intro lN s σ H x vs v us Q I rx rv h;obtain⟨l,xs,i,k,y,rfl,rfl,hH,h1,h2,hk,hy,q⟩:=h;cases rx;obtain⟨u,rfl,ru⟩:=rv.one;obtain⟨t,rfl⟩:=ru;obtain⟨z,lQ,n,r,hl,e⟩:=I.LR hH;obtain⟨w,hw,vf⟩:=r.get hy;refine eZ F.slot_list_pop ⟨_,e,rfl⟩ F.entry_list_pop (F.args_list_pop_2 _ _)
  (MeetsSeq.list_pop_at l lQ.toArray n i t k w (fitsIndex_both h1 h2) (by rw [aq,<- hl]; exact hk) (by rw [<- be]; exact hw) (by rw [aq]; lia)) ⟨e,?_⟩
 refine⟨y,_,I.Mj (its':=lQ.eraseIdx k) hH e ?_ (r.eraseIdx k) ?_,vf,q⟩
 ·show lQ.toArray.eraseIdxIfInBounds k=(lQ.eraseIdx k).toArray;rw [List.eraseIdxIfInBounds_toArray]
 ·have:=zfI xs k;lia
noncomputable def zqN:R2:=fun x y H Q=>∃ l b xs zs,x = .ref l/\y = .ref b/\H l=some #[Ob]/\H b=some (.lst zs)/\xs.length+zs.length<=sizeLine/\∀ p,H p=none->Q (.ref p) (lP H p (.lst (xs++zs)))
theorem zcx:OpR X (binaryOp .Add) zqN:=by
 intro lN s σ H x y v u Q I rx ry h;obtain⟨l,b,xs,zs,rfl,rfl,hH,hB,hz,q⟩:=h;cases rx;cases ry;obtain⟨z,lQ,n,r,hl,e⟩:=I.LR hH;obtain⟨z2,mL,n2,r2,oT,e2⟩:=I.LR hB;refine PySem.P.add_list e e2 ?_ (by rw [aq,aq]; lia);have ea:lQ.toArray++mL.toArray=(lQ++mL).toArray:=by simp
 rw [ea];exact⟨.ref _,_,I.MG (t':=s.toks) (r.append r2) (by rw [ap]; lia),rfl,q _ I.fresh⟩
noncomputable def zqO:R2:=fun x y H Q=>∃ l k xs,x = .ref l/\y = .int k/\H l=some #[Ob]/\-(2 ^ 63)<=k/\k < 2 ^ 63/\xs.length*k.toNat<=sizeLine /\
 ∀ p,H p=none->Q (.ref p) (lP H p (.lst (aJ k.toNat xs).flatten))
theorem len_rep {α:Type} (xs:List α) (k:Nat):(aJ k xs).flatten.length=k*xs.length:=by
 induction k with
 | zero=>simp
 | succ k ih=>rw [cw,dI,ap,ih,Nat.succ_mul,Nat.add_comm]
theorem zeB:OpR X (binaryOp .Mult) zqO:=by
 intro lN s σ H x y v u Q I rx ry h;obtain⟨l,k,xs,rfl,rfl,hH,h1,h2,hz,q⟩:=h;cases rx;obtain⟨t,rfl⟩:=ry;obtain⟨z,lQ,n,r,hl,e⟩:=I.LR hH;have lT:lQ.toArray.size*k.toNat<=sizeLine:=by rw [aq,<- hl]; exact hz
 have Fi:¬ lQ.toArray.size*k.toNat > (2 ^ 63 - 1) / 8:=by
  have:(sizeLine:Nat)<=(2 ^ 63 - 1) / 8:=by decide
  lia
 have Fj:¬ (!fo k)=true:=by
  rw [fitsIndex_both h1 h2];exact aQ
 have wo:¬ eB (lQ.toArray.size*k.toNat)=true:=by
  rw [zhk lT];exact aQ
 have Fk:lg #[R3] #[] (aJ (if lQ.toArray.isEmpty=true then 0 else k.toNat) lQ.toArray)=(aJ k.toNat lQ).flatten.toArray:=by
  have f0:∀ m:Nat,lg #[R3] #[] (aJ m lQ.toArray)=(aJ m lQ).flatten.toArray:=fun m=>by
   have:=foldl_rep lQ m [];rw [i5] at this;exact this
  rw [f0];cases lQ with
  | nil=>simp
  | cons a r'=>rw [if_neg #[M]]
 refine wpAny_binaryOp_repeat_ref (T:="list") (U:="int") #[D] ⟨_,e,rfl⟩ (fun s'=>lb s' k t) noFill_list_mul F.fills_int_mul F.slot_int_rmul repeat_list F.slot_int_index.lookup
  (eZ F.slot_int_rmul (lb s k t) F.entry_int_rmul (F.args_int_rmul_2 _ _) (int___rmul___int_list k t l lQ.toArray n)
   ⟨e,rfl,⟨_,e,rfl⟩,eZ F.slot_list_mul ⟨_,e,rfl⟩ F.entry_list_mul (F.args_list_mul_2 _ _) (AutoListH.list___mul___list_int_3 l lQ.toArray n k t Fj Fi wo) ⟨e,?_⟩⟩)
 rw [Fk];exact⟨.ref _,_,I.MG (t':=s.toks) (r.rep k.toNat) (by rw [len_rep,gr]; exact hz),rfl,q _ I.fresh⟩
end
end L2
namespace Att
open PySem PySem.W PySem.Calls PyProof.Rows
theorem zd5 {P:Params} {h:Heap}:∀ (ns:List Int) (vs:List Value),WellAll P h vs (ns.map WData.int)->IntsAre vs ns:=by
 intro ns;induction ns with
 | nil =>
  intro vs w;rw [fG] at w;cases w;exact .nil
 | cons n ns ih =>
  intro vs w;rw [aM] at w;cases w with
  | cons a b =>
   cases a;exact .cons _ _ (ih _ b)
theorem zkg {l:OpenLaw} {n:Nat} (hn:l.most=some n) {P:Params} {h:Heap} {args:List WData} {vals:List Value}
  (rn:l.row.toRowW.claim.pre args=true) (Ab:WellAll P h vals args) :
  ∃ a vs ns,vals = [aX a]/\args = [WData.list (ns.map WData.int)]/\h.get? a=some { cls:=.type "list",data:=.seq vs.toArray }/\IntsAre vs ns/\ns.length<=n:=by
 have hsh:WShape.hasAll [] args [.list .int]=true:=(pre_splitW rn).1;have hc:l.pre.holds [] { args:=args }=true:=(pre_splitW rn).2;obtain⟨d,r,rfl,h1,h2⟩:=hasAllW_cons hsh;obtain rfl:=hasAllW_nil h2;obtain⟨xs,rfl,h3⟩:=hasW_list h1;obtain⟨ns,rfl⟩:=items_int h3;have lT:ns.length<=n:=by
  unfold OpenLaw.pre at hc;have h4:(WTm.not (.lt (.lit (.int (n:Int))) (.len (.arg 0)))).holds [] { args:=[.list (ns.map .int)] }=true:=by
   have h4:=(holds_andW hc).1;rw [hn] at h4;exact h4
  have h5:=condW_of h4 (w_not (w_lt w_lit (w_len_list (w_arg rfl))));rw [ab] at h5;refine kN fun q=>?_
  have q':(n:Int) < ((ns.length:Nat):Int):=by lia
  first
   | (rw [decide_eq_true q'] at h5; exact absurd h5 #[D])
   | (simp at h5; lia)
 cases Ab with
 | cons w1 w2 =>
  cases w2;cases w1 with
  | list ho ng=>exact⟨_,_,ns,rfl,rfl,ho,zd5 ns _ ng,lT⟩
theorem zkh (l:OpenLaw) (args:List WData):l.row.toRowW.claim.post args #[Op] args=true :=
 postW_of (r:=l.row.toRowW) (X:=(true == true))
  (show WShape.has [] #[Op] .bool=true by first | rfl | decide | simp [WShape.has,WShape.arms,WShape.armsAll])
  (show (WTm.eq .res (.lit #[Op])).value [] { args:=args,res:=some #[Op],after:=args }=some (.bool (true == true)) from w_eq_bool (w_res rfl) w_lit) rfl
theorem K7 {l:OpenLaw} {n:Nat} {q:Program} {loose:List Str} {XP:#[RJ]->Heap->Prop} {YP:World->Heap->Prop} {d:DefRec}
  (hn:l.most=some n) (B2:d.params.defaults = [])
  (call:∀ (w:World) (s₀ s₁:Shared) (mg mb:Str->Option Value) (fa:Addr) (o:Obj) (pm cd doc:Value) (a:Addr) (vs:List Value) (ns:List Int),
   Ground q loose [] XP w s₀ mg mb s₁.heap->YP w s₁.heap ->
   s₁.heap.get? fa=some o->o.data = .func (docDef d.name d.params d.body d.scope pm cd doc)->s₁.heap.CodeRec cd d.name->mg d.name=some (.ref fa) ->
   s₁.heap.get? a=some { cls:=.type "list",data:=.seq vs.toArray }->IntsAre vs ns->ns.length<=n->s₁.gens = #[] ->
   codeAny (model l.prog w) callerA (.call (.ref fa) ⟨[.ref a],[]⟩) (fun r s'=>r = .ok (.ret #[Op])/\OldK s₁.heap s'.heap/\s'.os=s₁.os/\AllBare s'.gens) s₁) :
  WalkO q loose XP YP l.row.toRowW d [] #[RF]:=by
 intro w s₀ s₁ mg mb G Y fa o pm cd doc dV kV ho hd tf hD vi hg args vals as rn hlay hrd Ab rq;obtain rfl:dV = .none:=Dflts.none hD B2;obtain rfl:kV = .none:=Dflts.noKw hD;obtain⟨a,vs,ns,rfl,rfl,Ac,hints,lT⟩:=zkg hn rn Ab;refine enter_call (eP (call w s₀ s₁ mg mb fa o pm cd doc a vs ns G Y ho (fd_plain hd) tf vi Ac hints lT hg) fun r s' hq=>?_);obtain⟨rfl,h2,h3,h4⟩:=hq;exact⟨.inl ⟨.bool true,.bool true,[],rfl,fun _=>rfl,.bool true,zkh l _,fun _=>⟨iu,fun _ hm=>(nomatch hm)⟩⟩,h2,h3,h4⟩
section
variable {prog:Program} {w:World} {A:Around} {E:Value->Shared->Prop} {s:Shared} {K:Frag}
noncomputable def Kt (h:Heap):Heap:={ h with objs:=#[] }
theorem zdi (h:Heap) (b:Addr):(Kt h).get? b=none:=by
 cases e:(Kt h).get? b with
 | none=>rfl
 | some o=>exact absurd (aF e) (Nat.not_lt_zero _)
noncomputable def ledger (h:Heap) (L d:Addr):List (Addr×Obj):=(aN h.objs.size).filterMap fun a=>if a=L\/a=d then none else (h.get? a).map fun o=>(a,o)
theorem JX {h:Heap} {L d a:Addr} {o:Obj}:(a,o)∈ledger h L d↔a≠L/\a≠d/\h.get? a=some o:=by
 unfold ledger;rw [g9];constructor
 ·rintro⟨b,_,e⟩;split at e
  ·cases e
  ·rename_i hb
   obtain⟨o',ho,e'⟩:=df.mp e;cases e';exact⟨fun q=>hb (.inl q),fun q=>hb (.inr q),ho⟩
 ·rintro⟨n1,n2,ho⟩;refine⟨a,bJ.mpr (aF ho),?_⟩;rw [if_neg (show ¬ (a=L\/a=d) from fun q=>q.elim n1 n2),ho] <;> rfl
theorem K1 {h:Heap} {L d:Addr} {od:Obj} (m5:d≠L) (ho:h.get? d=some od):News (Kt h) L h ([]++(d,od) :: ledger h L d):=by
 rintro⟨a,o⟩ hp;rcases aB.mp hp with e | hp
 ·cases e;exact⟨ho,m5,zdi _ _⟩
 ·obtain⟨n1,n2,e⟩:=JX.mp hp;exact⟨e,n1,zdi _ _⟩
theorem Md {h:Heap} {L:Addr} {m:Str->Option Value} (n:h.Ns L m):Fr (Kt h) L h m :=
 ⟨n,fun b o e=>(by rw [zdi] at e; cases e),bg _⟩
end
end Att
namespace L2
open PySem PySem.Spec PyProof.Rows
variable {H H' H1 H2:Hp} {N:List Str} {an od:Option Addr} {ct oc pm:Value} {fd:FuncData} {k:Nat} {qual:Str} {sp:Sp}
theorem zfJ:∀ {vs:List Value} {ns:List Int},IntsAre vs ns->zU #[xz] vs
 | _,_,.nil=>.nil
 | _,_,.cons n t h=>.cons ⟨t,rfl⟩ (zfJ h)
noncomputable def zb2 (s:Stmt):Arguments:=match s with
 | .FunctionDef _ a _ _ _ _ _ _ _ _=>a
 | _=>{ posonlyargs:=[],args:=[],vararg:=none,kwonlyargs:=[],kw_defaults:=[],kwarg:=none,defaults:=[] }
noncomputable def zbC (s:Stmt):List Stmt:=match s with
 | .FunctionDef _ _ b _ _ _ _ _ _ _=>b
 | _=>[]
noncomputable def zi (s:Stmt):Scope:=match s with
 | .FunctionDef _ _ _ _ _ _ sc _ _ _=>sc
 | _=>{ kind:=.function,names:=[],isGenerator:=false,isCoroutine:=false }
abbrev CX0:CXT:=fun _ _ _ _ _ _=>False
abbrev E0:XK:=fun _ _ _=>False
theorem zJ {X:Cx}:ziz CX0 X E0:=fun _ _ _ _ _ _ _ h=>h.elim
structure Fun (K:ah) (x qual:Str) (st:Stmt) (f:Addr) (fd:FuncData):Prop where
 ex:∃ (oc:Value) (od:Option Addr) (kV doc pm:Value) (an:Option Addr) (mE ct:Value) (xE:Array #[Qd]),
  fd=dz x qual (zb2 st) (zbC st) (zi st) .none kV doc pm an mE ct/\K.lookup f=some ⟨oc,od,.func fd,xE⟩/\fQ K mE qual=true
 kp:fP K #[Q3]=true
section
variable {P:Program} {w:World} {K:ah} {mg:Str->Option Value} {base:Heap}
theorem Fun.ok {x:Str} {st:Stmt} {f:Addr} {ps:List Str} (F:Fun K x qual st f fd) (S:IJ N ps (zi st)) (len:∀ vs H Q E,sp vs H Q E->vs.length=ps.length)
  (tE:∀ (mE:Value) (A:Around) (outer:List Env) (s:Shared) (H:Hp) (vs:List V) (Q:VK) (E:XK),KL k (A.deeper (envOfC qual (zi st) s.heap.objs.size f mE))->sp vs H Q E ->
   ∃ t,PSs (ziA CX0 P w K mg base N qual (zi st) f mE A outer s H E).nox (zbC st) t/\t { nx:=fun _ H'=>Q .non H',rt:=Q } #[Qr] H):Jk P w K mg base CX0 (k+1) f fd ps sp:=by
 obtain⟨oc,od,kV,doc,pm,an,mE,ct,xE,rfl,lk,tf⟩:=F.ex;refine zoA lk tf S len fun A outer s H vs Q E hr vU=>?_
 obtain⟨t,h,q⟩:=tE mE A outer s H vs Q E hr vU;exact⟨t,h.nox,q⟩
theorem Fun.binds {x:Str} {st:Stmt} {f:Addr} {ps:List Str} (F:Fun K x qual st f fd)
  (h:∀ (kV doc pm:Value) (an:Option Addr) (mE ct:Value) (us:List Value),us.length=ps.length->bindArgs #[MR] ⟨us,[]⟩=pure #[SH]):Binds K fd ps []:=by
 obtain⟨oc,od,kV,doc,pm,an,mE,ct,xE,rfl,lk,tf⟩:=F.ex;exact .all (h kV doc pm an mE ct)
theorem zlm {x:Str} {st:Stmt} {f:Addr} {xE:Array #[Qd]} {kV doc mE:Value} (l:K.lookup f=some ⟨oc,od,.func #[MR],xE⟩)
  (c:fQ K mE qual=true) (k:fP K #[Q3]=true):Fun K x qual st f #[MR]:=⟨⟨oc,od,kV,doc,pm,an,mE,ct,xE,rfl,l,c⟩,k⟩
end
theorem zki {A B:Prop} (h:B):if false=true then A else B:=by
 rw [if_neg aQ];exact h
theorem zpb {A B:Prop} (h:A):if true=true then A else B:=by
 rw [if_pos rfl];exact h
theorem zaO {c A B:Prop} [Decidable c] (h1:c->A) (h2:¬ c->B):if c then A else B:=by
 by_cases h:c
 ·rw [if_pos h];exact h1 h
 ·rw [if_neg h];exact h2 h
noncomputable def zr (H H':Hp):Prop:=∀ b o,H b=some o->H' b=some o
theorem zr.trans (a:zr H H1) (b:zr H1 H2):zr H H2:=fun c o h=>b c o (a c o h)
theorem zr.free (e:zr H H') {l:Addr} (h:H' l=lL):H l=lL:=by
 cases q:H l with
 | none=>rfl
 | some o =>
  rw [e l o q] at h;cases h
theorem zr.seq {K:ah} {a:Addr} {xs:List V} (e:zr H H') (h:lO K H a xs):lO K H' a xs:=by
 rcases h with (h | ⟨o,h⟩) | h
 ·exact .inl (.inl (e _ _ h))
 ·exact .inl (.inr ⟨o,e _ _ h⟩)
 ·exact .inr h
end L2
section
namespace L2
open PySem
abbrev Ends.n (D:Ends) (N:St->Hp->Prop):Ends:={ D with nx:=N }
section
variable {r1 r2 r3 r4 r5 r6 r7 r8 r9 r10 r11 r12 r13 r14 r15:TS} {D:Ends} {σ:St} {H:Hp}
theorem zln (h:let N2:=r2 D; r1 (D.n N2) σ H):(zbq r1 r2) D σ H:=h
theorem zgc (h:let N3:=r3 D; let N2:=r2 (D.n N3); r1 (D.n N2) σ H):(zbq r1 (zbq r2 r3)) D σ H:=h
theorem ziC (h:let N4:=r4 D; let N3:=r3 (D.n N4); let N2:=r2 (D.n N3); r1 (D.n N2) σ H):(zbq r1 (zbq r2 (zbq r3 r4))) D σ H:=h
theorem znk (h:let N5:=r5 D; let N4:=r4 (D.n N5); let N3:=r3 (D.n N4); let N2:=r2 (D.n N3); r1 (D.n N2) σ H):(zbq r1 (zbq r2 (zbq r3 (zbq r4 r5)))) D σ H:=h
theorem zqP (h:let N6:=r6 D; let N5:=r5 (D.n N6); let N4:=r4 (D.n N5); let N3:=r3 (D.n N4); let N2:=r2 (D.n N3); r1 (D.n N2) σ H):(zbq r1 (zbq r2 (zbq r3 (zbq r4 (zbq r5 r6))))) D σ H:=h
theorem zpc (h:let N7:=r7 D; let N6:=r6 (D.n N7); let N5:=r5 (D.n N6); let N4:=r4 (D.n N5); let N3:=r3 (D.n N4); let N2:=r2 (D.n N3); r1 (D.n N2) σ H):(zbq r1 (zbq r2 (zbq r3 (zbq r4 (zbq r5 (zbq r6 r7)))))) D σ H:=h
theorem zqQ (h:let N8:=r8 D; let N7:=r7 (D.n N8); let N6:=r6 (D.n N7); let N5:=r5 (D.n N6); let N4:=r4 (D.n N5); let N3:=r3 (D.n N4); let N2:=r2 (D.n N3); r1 (D.n N2) σ H):(zbq r1 (zbq r2 (zbq r3 (zbq r4 (zbq r5 (zbq r6 (zbq r7 r8))))))) D σ H:=h
theorem zaW {X0:Cx} {B:List PySem.Stmt} (h:let X:=X0; ∃ t,PSs X B t/\t D σ H):∃ t,PSs X0 B t/\t D σ H:=h
end
end L2
end
section
namespace L2
open PySem PySem.Spec PyProof.Rows
variable {A:Around} {H:Hp} {J:It} {M:Model} {Q:VK} {X:Cx} {env:Env} {g:TG} {lN:List (Addr×Obj)} {qual:Str} {s:Shared} {scope:Scope} {te:TE} {σ0:St}
noncomputable def zas (cs:List (Str×Addr)):List (Str×NameKind)->List (Str×Addr)->List (Str×Addr)
 | [],acc=>acc
 | (n,k) :: r,acc=>if k == .free then zas cs r ((n,(cs.lookup n).getD 0) :: acc) else zas cs r acc
theorem zde (h:∀ y∈scope.names,y.2 = .free->∃ c,env.cells.lookup y.1=some c) :
  closureFor scope env=pure (zas env.cells scope.names []):=by
 have go:∀ (names:List (Str×NameKind)) (acc:List (Str×Addr)),(∀ y∈names,y.2 = .free->∃ c,env.cells.lookup y.1=some c) ->
   (forIn names acc (fun (x:Str×NameKind) (cs:List (Str×Addr))=>(if (x.2 == cu)=true then do
    let a <- cellOf env x.1
    pure (cM ((x.1,a) :: cs)) else pure (cM cs):Sem (ForInStep (List (Str×Addr))))))=(pure (zas env.cells names acc):Sem _):=by
  intro names;induction names with
  | nil=>intro acc _; rfl
  | cons y r ih =>
   intro acc hy;obtain⟨n,k⟩:=y;rw [eI];cases hk:(k == cu) with
   | true =>
    obtain⟨c,hc⟩:=hy (n,k) aD (by simpa using hk);have qi:cellOf env n=pure c:=by
     unfold cellOf;have lV:env.cells.lookup n=some c:=hc;rw [lV]
    simp only [hk,if_true,qi];have e:=ih ((n,c) :: acc) fun y B3=>hy y (au _ B3)
    have lV:env.cells.lookup n=some c:=hc;simp only [zas,hk,if_true,lV,kO];exact e
   | false =>
    simp only [hk,bA,if_false];have e:=ih acc fun y B3=>hy y (au _ B3)
    simp only [zas,hk,bA,if_false];exact e
 have e:=go scope.names [] h;unfold closureFor;show (forIn scope.names [] _ >>= fun cs=>pure cs)=_
 first
  | (rw [e]; rfl)
  | (simp only []; rw [e]; rfl)
  | (have e':=e; simp at e' |-; exact e')
theorem zcb {cs:List (Str×Addr)}:∀ (names:List (Str×NameKind)) (acc:List (Str×Addr)),
  (∀ y∈names,y.2 = .free->∃ c,cs.lookup y.1=some c)->(∀ x c,acc.lookup x=some c->cs.lookup x=some c) ->
  ∀ x c,(zas cs names acc).lookup x=some c->cs.lookup x=some c
 | [],acc,_,h,x,c,e=>h x c e
 | (n,k) :: r,acc,hy,h,x,c,e=>by
  have hr:∀ y∈r,y.2 = .free->∃ c,cs.lookup y.1=some c:=fun y B3=>hy y (au _ B3)
  unfold zas at e;cases hk:(k == cu) with
  | false =>
   rw [hk] at e;exact zcb r acc hr h x c e
  | true =>
   rw [hk] at e;obtain⟨d,hd⟩:=hy (n,k) aD (by simpa using hk);have hd':cs.lookup n=some d:=hd;refine zcb r _ hr (fun x c e'=>?_) x c e;rw [hd',kO,bi] at e';cases hx:(x == n) with
   | true =>
    rw [hx] at e';have:x=n:=by simpa using hx
    subst this;rw [hd'];exact e'
   | false =>
    rw [hx] at e';exact h x c e'
theorem zcy {cs:List (Str×Addr)}:∀ (names:List (Str×NameKind)) (acc:List (Str×Addr)) (x:Str),
  ((∃ c,acc.lookup x=some c)\/(x,cu)∈names)->∃ c,(zas cs names acc).lookup x=some c
 | [],acc,x,h=>by
  rcases h with h | h
  ·exact h
  ·cases h
 | (n,k) :: r,acc,x,h=>by
  unfold zas;cases hk:(k == cu) with
  | false =>
   refine zcy r acc x ?_;rcases h with h | h
   ·exact .inl h
   ·rcases aB.mp h with h | h
    ·cases h;exact absurd hk #[D]
    ·exact .inr h
  | true =>
   refine zcy r _ x ?_;cases hx:(x == n) with
   | true=>exact .inl ⟨_,by rw [bi,hx]⟩
   | false =>
    rcases h with ⟨c,h⟩ | h
    ·exact .inl ⟨c,by rw [bi,hx]; exact h⟩
    ·rcases aB.mp h with h | h
     ·cases h;simp at hx
     ·exact .inr h
theorem lookup_mem {α:Type}:∀ {l:List (Str×α)} {x:Str} {k:α},l.lookup x=some k->(x,k)∈l
 | [],x,k,h=>by simp at h
 | (n,j) :: r,x,k,h=>by
  rw [bi] at h;cases hx:(x == n) with
  | true =>
   rw [hx] at h;have:x=n:=by simpa using hx
   subst this;cases h;exact aD
  | false =>
   rw [hx] at h;exact au _ (lookup_mem h)
theorem zbQ {env:Env}:∀ {names:List (Str×NameKind)} {x:Str},names.lookup x=some .free ->
  (names.map fun (n,k)=>if (k == cu && env.scope.kind == .function && env.kindOf n == some .cell) then (n,dj) else (n,k)).lookup x=some .cell \/
  (names.map fun (n,k)=>if (k == cu && env.scope.kind == .function && env.kindOf n == some .cell) then (n,dj) else (n,k)).lookup x=some .free
 | [],_,h=>by simp at h
 | (n,k) :: r,x,h=>by
  have ih:=@zbQ env r x;simp only [aM];cases hx:x == n with
  | true =>
   simp only [bi,hx] at h; cases h;by_cases hc:(cu == cu && env.scope.kind == .function && env.kindOf n == some .cell)=true
   ·rw [if_pos hc]; left; simp only [bi,hx]
   ·rw [if_neg hc]; right; simp only [bi,hx]
  | false =>
   simp only [bi,hx] at h; rcases j3 ((k == cu && env.scope.kind == .function && env.kindOf n == some .cell)=true) with hc | hc
   ·exact (by rw [if_pos hc]; simp only [bi,hx]; exact ih h)
   ·exact (by rw [if_neg hc]; simp only [bi,hx]; exact ih h)
theorem zdo {env:Env}:∀ {names:List (Str×NameKind)} {x:Str},
  ((names.map fun (n,k)=>if (k == cu && env.scope.kind == .function && env.kindOf n == some .cell) then (n,dj) else (n,k)).lookup x=some .cell \/
  (names.map fun (n,k)=>if (k == cu && env.scope.kind == .function && env.kindOf n == some .cell) then (n,dj) else (n,k)).lookup x=some .free) ->
  names.lookup x=some .free\/names.lookup x=some .cell
 | [],_,h=>by simp at h
 | (n,k) :: r,x,h=>by
  have ih:=@zdo env r x;simp only [aM] at h;cases hx:x == n with
  | true =>
   rcases j3 ((k == cu && env.scope.kind == .function && env.kindOf n == some .cell)=true) with hc | hc
   ·have hk:k = .free:=by
     simp only [fb] at hc; simpa using hc.1.1
    subst hk;exact .inl (by simp only [bi,hx])
   ·rw [if_neg hc] at h;simp only [bi,hx] at h |-;rcases h with h | h
    ·exact .inr h
    ·exact .inl h
  | false =>
   rcases j3 ((k == cu && env.scope.kind == .function && env.kindOf n == some .cell)=true) with hc | hc
   ·rw [if_pos hc] at h;simp only [bi,hx] at h |-;exact ih h
   ·rw [if_neg hc] at h;simp only [bi,hx] at h |-;exact ih h
theorem zgd:∀ (names:List (Str×NameKind)) (n:Nat) (acc:List (Str×Addr)) (x:Str),(x,dj)∉names->(cellsFrom n names acc).lookup x=acc.lookup x
 | [],_,_,_,_=>rfl
 | (y,k) :: r,n,acc,x,h=>by
  have hr:(x,dj)∉r:=fun z=>h (au _ z)
  unfold cellsFrom;split
  ·rename_i hk
   have vV:k = .cell:=by simpa using hk
   rw [zgd r _ _ x hr,bi];cases hx:(x == y) with
   | true =>
    have:x=y:=by simpa using hx
    subst this;subst vV;exact absurd aD h
   | false=>rfl
  ·exact zgd r _ _ x hr
theorem zge:∀ (names:List (Str×NameKind)) (n:Nat) (acc:List (Str×Addr)) (x:Str),(x,dj)∈names->∃ c,(cellsFrom n names acc).lookup x=some c/\n<=c
 | (y,k) :: r,n,acc,x,h=>by
  by_cases hr:(x,dj)∈r
  ·unfold cellsFrom;split
   ·obtain⟨c,e,l⟩:=zge r (n+1) ((y,n) :: acc) x hr;exact⟨c,e,#[O]⟩
   ·exact zge r n acc x hr
  ·rcases aB.mp h with e | e
   ·cases e;unfold cellsFrom;rw [if_pos #[D],zgd r _ _ _ hr,bi,beq_self_eq_true];exact⟨n,rfl,af _⟩
   ·exact absurd e hr
structure CO (h:Heap) (lo:Nat) (old cs:List (Str×Addr)):Prop where
 each:∀ x c,cs.lookup x=some c->(h.IsCell c none/\lo<=c)\/(old.lookup x=some c/\c < lo)
 inj:∀ x y c,cs.lookup x=some c->cs.lookup y=some c->x=y
theorem zlo {lo:Nat} {old:List (Str×Addr)}:∀ (names:List (Str×NameKind)) (h:Heap) (acc:List (Str×Addr)),CO h lo old acc->lo<=h.objs.size->CO (pushCells h names) lo old (cellsFrom h.objs.size names acc)
 | [],_,_,a,_=>a
 | (y,k) :: r,h,acc,a,hl=>by
  unfold pushCells cellsFrom;split
  ·have lt:∀ x c,acc.lookup x=some c->c < h.objs.size:=fun x c e=>(a.each x c e).elim (fun z=>z.1.lt) fun z=>ba z.2 hl
   have key:∀ x c,jd x ((y,h.objs.size) :: acc)=some c->(x=y/\c=h.objs.size)\/acc.lookup x=some c:=fun x c e=>by
    rw [bi] at e;cases hx:(x == y) with
    | true =>
     rw [hx] at e;exact .inl ⟨by simpa using hx,(aS e).symm⟩
    | false =>
     rw [hx] at e;exact .inr e
   have:=zlo (lo:=lo) (old:=old) r (h.push { cls:=.type "cell",data:=.cell none }) ((y,h.objs.size) :: acc) ⟨fun x c e=>?_,fun x z c e1 e2=>?_⟩ (by rw [bj]; lia)
   ·rw [bj] at this;exact this
   ·rcases key x c e with ⟨_,rfl⟩ | e
    ·exact .inl ⟨⟨_,aE _ rfl,rfl⟩,hl⟩
    ·rcases a.each x c e with z | z
     ·exact .inl ⟨z.1.keeps fun b o e=>ai _ e,z.2⟩
     ·exact .inr z
   ·rcases key x c e1 with ⟨p1,q1⟩ | f1 <;> rcases key z c e2 with ⟨p2,q2⟩ | f2
    ·exact p1.trans p2.symm
    ·exact absurd (lt _ _ f2) (by rw [q1]; exact cg _)
    ·exact absurd (lt _ _ f1) (by rw [q2]; exact cg _)
    ·exact a.inj x z c f1 f2
  ·exact zlo r h acc a hl
theorem zkj {E:Value->Shared->Prop} {globals:Addr} {closure:List (Str×Addr)} {Q:Env->Shared->Prop}
  (h:Q (newEnv scope s.heap.objs.size globals (cellsFrom #[Do] scope.names closure) qual none .none (some env) builtinsNs) { s with heap:=pushCells (s.heap.push { cls:=.type "dict",data:=.dict #[] }) scope.names }) :
  wpAny M A (newFunctionEnv scope globals closure [] qual none .none (some env)) Q E s:=by
 (simp only [newFunctionEnv,j4,if_true])
 (refine ae (wpAny_alloc ?_))
 (refine ae (wpAny_layCells _ (fun name kind cells=>by cases Fl:kind == dj <;> simp [Fl]) _ _ _ _ ?_))
 rw [show ({ s with heap:=s.heap.push { cls:=.type "dict",data:=.dict #[] } }:Shared).heap.objs.size=s.heap.objs.size+1 from bj ..]
 (exact ae (ao (ao h)))
abbrev zQ (X:Cx) (N':List Str) (scope:Scope) (s₃:Shared) (H₃:Hp) (ex:List Addr) (lN:List (Addr×Obj)):Cx :=
 { X with N:=N',s₀:=s₃,H₀:=H₃,env:=compEnvC scope (cellsFrom (s₃.heap.objs.size+1) scope.names (zas X.env.cells scope.names [])) s₃.heap.objs.size X.env,outer:=X.stack,stack:=X.stack,ex:=ex,fn:=fun x=>scope.names.lookup x == some .cell,pn:=X.pn++lN,xe:=fun _ _=>False }
noncomputable def ziD (ifs:List Expr) (env:Env):Sem Bool :=
 forIn ifs true fun c r=>if r=true then do let ok <- isTrue c env (eval c env); pure (cM ok) else pure (cM r)
noncomputable def zdp (X:Cx) (ifs:List Expr) (t:TT):Prop :=
 ∀ (lN:List (Addr×Obj)) (s:Shared) (σ:St) (H:Hp) (Q:Bool->Hp->Prop),Inv X lN σ H s->t σ H Q->wpAny #[o0] X.A (ziD ifs X.env) #[RB] X.xe s
noncomputable def znl:TT:=fun _ H Q=>Q true H
theorem zM {X:Cx}:zdp X [] znl:=fun _ _ _ H _ I h=>ao ⟨H,I,h⟩
theorem zbH {X:Cx} {c:Expr} {t:TT} (h:PT X c t):zdp X [c] t:=by
 intro lN s σ H Q I hw;unfold ziD;rw [eI];simp only [if_true];exact ae (ae (thn (h lN s σ H _ I hw) fun b s1 q=>ao (ao q)))
structure IK (X:Cx) (N':List Str) (ix:List #[GT]) (scope:Scope):Prop where
 kind:scope.kind = .function
 cells:∀ y∈scope.names,y.2 = .cell->scope.names.lookup y.1=some .cell
 names:∀ y∈scope.names,y.2 = .local->scope.names.lookup y.1=some .local
 free:∀ y∈scope.names,y.2 = .free->X.env.kindOf y.1=some .cell\/X.env.kindOf y.1=some .free
 len:N'.length=ix.length
 cap:∀ j i:Nat,ix[j]? = some (some i)->∃ x,N'[j]? = some x/\X.N[i]? = some x/\scope.names.lookup x=some .free
noncomputable def zi9 (Bk:Scope) (oN N':List Str) (ix:List #[GT]) (scope:Scope):Bool :=
 (scope.kind == .function) && (scope.names.all fun y=>y.2 != .cell || scope.names.lookup y.1 == some .cell) && (scope.names.all fun y=>y.2 != .local || scope.names.lookup y.1 == some .local) &&
 (scope.names.all fun y=>y.2 != .free || (Bk.names.lookup y.1 == some .cell || Bk.names.lookup y.1 == some .free)) && (N'.length == ix.length) &&
 ((aN ix.length).all fun j=>match ix[j]? with
  | some (some i)=>(match N'[j]? with
   | some x=>oN[i]? == some x && scope.names.lookup x == some .free
   | none=>false)
  | _=>true)
theorem IK.of {N':List Str} {ix:List #[GT]} (Bk:Scope) (oN:List Str) (h1:X.env.scope=Bk) (h2:X.N=oN) (hb:zi9 Bk oN N' ix scope=true):IK X N' ix scope:=by
 unfold zi9 at hb;simp only [fb,fc] at hb;obtain⟨⟨⟨⟨⟨a,b⟩,c⟩,d⟩,e⟩,f⟩:=hb;refine⟨?_,fun y hy hl=>?_,fun y hy hl=>?_,fun y hy hf=>?_,by simpa using e,fun j i hj=>?_⟩
 ·revert a
  cases scope.kind <;> first | (intro _; rfl) | (intro h; exact absurd h #[D])
 ·have:=b y hy;rw [hl] at this;simpa using this
 ·have:=c y hy;rw [hl] at this;simpa using this
 ·have:=d y hy;rw [hf] at this;have e1:X.env.kindOf y.1=Bk.names.lookup y.1:=by rw [<- h1]; rfl
  rw [e1];simpa using this
 ·have mh:j < ix.length:=(av.mp hj).1;have:=f j (bJ.mpr mh);rw [hj] at this;cases hN:N'[j]? with
  | none =>
   rw [hN] at this;simp at this
  | some x =>
   rw [hN] at this;refine⟨x,rfl,?_⟩;rw [h2];simpa using this
noncomputable def zdq (ix:List #[GT]) (σ:St):St:=ix.map fun o=>match o with
 | none=>none
 | some i=>(σ[i]?).join
theorem Inv.Lj {σ:St} {D:Addr} {o:HO} (I:Inv X lN σ H s) (hn:H D=none) (hs:X.s₀.heap.objs.size<=D) (hL:X.env.locals≠D)
  (hC:∀ x c,X.env.cells.lookup x=some c->c≠D) (hp:∀ p∈X.pn++lN,p.1≠D) (ok:zax X.prog X.w (lP H D o) s.heap D o):Inv X lN σ (lP H D o) s:=by
 have ne:∀ b u,H b=some u->b≠D:=fun b u e=>zu e hn
 refine⟨I.ok,I.os,I.bare,⟨I.base.keep,I.base.slot,fun b u e n hx=>?_,I.base.there,fun b xs e=>?_,fun b u xs e=>?_,fun b ps e=>?_⟩,I.loc,I.cell,?_,fun x c e=>?_,fun p pD=>?_,fun b u e=>?_,I.len⟩
 ·have:b≠D:=a8 (ba (aF e) hs);rw [zn this];exact I.base.free b u e n hx
 ·have:=I.base.La b xs e;rw [zn (ne b _ this)];exact this
 ·have:=I.base.LD b u xs e;rw [zn (ne b _ this)];exact this
 ·obtain⟨more,q⟩:=I.base.Lk b ps e;exact⟨more,by rw [zn (ne b _ q)]; exact q⟩
 ·rw [zn hL];exact I.free
 ·rw [zn (hC x c e)];exact I.JZ x c e
 ·obtain⟨a1,a2,a3⟩:=I.pin p pD;exact⟨a1,by rw [zn (hp p pD)]; exact a2,a3⟩
 ·by_cases hb:b=D
  ·subst hb;rw [zc] at e;cases e;exact ok
  ·rw [zn hb] at e;exact #[QI].KO (fun c v _ q=>q) (fun c q=>by rw [zn (ne c _ q)]; exact q) fun c xs q=>by rw [zn (ne c _ q)]; exact q
noncomputable def cGo (g:TG) (ts:TT) (te:TE) (σ0:St) (J:It) (Q:VK) (H1:Hp):Prop :=
 ∃ W:Nat->Nat->List V->Hp->Prop,(∃ m,W 0 m [] H1)/\∀ i m ys H,W i m ys H ->
  (J.stop i H/\∀ D,H D=none->Q #[M6] (lP H D #[Qm])) \/
  (J.go i H/\∃ N:List V->Hp->Prop,(∀ tJ H',N tJ H'->∃ m',m' < m/\W (i+1) m' tJ H')/\∀ x H',J.yld i H x H'->g x σ0 H' fun σ2 H2=>ts σ2 H2 fun b H3 =>
   if b=true then te σ2 H3 fun y H4=>ys.length < sizeLine/\N (ys++[y]) H4 else N ys H3)
noncomputable def zoB (ix:List #[GT]) (wi:TI) (g:TG) (ts:TT) (te:TE):TE:=fun σ H Q=>wi σ H fun J H1=>cGo g ts te #[Sz] J Q H1
theorem zgf {n:Nat} {ts:TT} (Pv:Nat->List V->Hp->Prop) (h0:Pv 0 [] H) (wq:∀ i ys H,i < n->Pv i ys H->J.go i H) (qZ:∀ ys H,Pv n ys H->J.stop n H)
  (hs:∀ i x ys H H',i < n->Pv i ys H->J.yld i H x H'->g x σ0 H' fun σ2 H2=>ts σ2 H2 fun b H3=>if b=true then te σ2 H3 fun y H4=>ys.length < sizeLine/\Pv (i+1) (ys++[y]) H4 else Pv (i+1) ys H3)
  (hd:∀ ys H D,Pv n ys H->H D=none->Q #[M6] (lP H D #[Qm])):cGo g ts te σ0 J Q H:=by
 refine⟨fun i m ys H=>m=n - i/\i<=n/\Pv i ys H,#[PZ],?_⟩;rintro i m ys H ⟨rfl,hi,p⟩;by_cases mh:i < n
 ·exact .inr #[NF]
 ·have e:i=n:=by lia
  subst e;exact .inl ⟨qZ ys H p,fun D hD=>hd ys H D p hD⟩
theorem zpd {n:Nat} {tb:TS} {D:Ends} {σ:St} (Pv:Nat->St->Hp->Prop) (h0:Pv 0 σ H) (wq:∀ i σ H,i < n->Pv i σ H->J.go i H) (qZ:∀ σ H,Pv n σ H->J.stop n H)
  (hs:∀ i x σ H H',i < n->Pv i σ H->J.yld i H x H'->g x σ H' fun σ2 H2=>tb { D with nx:=Pv (i+1),ct:=Pv (i+1),bk:=D.nx } σ2 H2) (hd:∀ σ H,Pv n σ H->D.nx σ H) :
  ∃ W:Nat->Nat->St->Hp->Prop,(∃ m,W 0 m σ H)/\∀ i m σ H,W i m σ H ->
   (J.stop i H/\D.nx σ H)\/(J.go i H/\∃ N:St->Hp->Prop,(∀ σ' H',N σ' H'->∃ m',m' < m/\W (i+1) m' σ' H')/\∀ x H',J.yld i H x H'->g x σ H' fun σ2 H2=>tb { D with nx:=N,ct:=N,bk:=D.nx } σ2 H2):=by
 refine⟨fun i m σ H=>m=n - i/\i<=n/\Pv i σ H,#[PZ],?_⟩;rintro i m σ H ⟨rfl,hi,p⟩;by_cases mh:i < n
 ·exact .inr ⟨wq i σ H mh p,Pv (i+1),fun σ' H' p'=>⟨n - (i+1),#[O],rfl,mh,p'⟩,fun x H' y=>hs i x σ H H' mh p y⟩
 ·have e:i=n:=by lia
  subst e;exact .inl ⟨qZ σ H p,hd σ H p⟩
end L2
end
section
namespace L2
open PySem
variable {H:Hp} {J:It} {Q:VK} {g:TG} {te:TE} {σ0:St}
abbrev Lp (J:It) (g:TG) (tb:TS) (D:Ends) (σ:St) (H:Hp):Prop:=∃ W:Nat->Nat->St->Hp->Prop,(∃ m,W 0 m σ H)/\∀ i m σ H,W i m σ H->(J.stop i H/\D.nx σ H)\/(J.go i H/\∃ N:St->Hp->Prop,(∀ σ' H',N σ' H'->∃ m',m' < m/\W (i+1) m' σ' H')/\∀ x H',J.yld i H x H'->g x σ H' fun σ2 H2=>tb { D with nx:=N,ct:=N,bk:=D.nx } σ2 H2)
abbrev Ends.l (D:Ends) (Pv:Nat->St->Hp->Prop) (i:Nat):Ends:={ D with nx:=Pv (i+1),ct:=Pv (i+1),bk:=D.nx }
section
variable {g:TG} {tb:TS} {D:Ends} {σ:St} {H:Hp} (Pv:Nat->St->Hp->Prop) {n:Nat} {K:ah} {a:Addr} {xs:List V}
theorem zdr (h0:Pv 0 σ H) (wq:∀ i σ H,i < n->Pv i σ H->J.go i H) (qZ:∀ σ H,Pv n σ H->J.stop n H) (hs:let N:=D.l Pv; let T:=tb; ∀ i x σ H H',i < n->Pv i σ H->J.yld i H x H'->g x σ H' (T (N i))) (hd:∀ σ H,Pv n σ H->D.nx σ H):Lp J g tb D σ H:=zpd Pv h0 wq qZ hs hd
theorem zaQ (h0:Pv 0 σ H) (hl:∀ i σ H,i<=xs.length->Pv i σ H->lO K H a xs) (hs:let N:=D.l Pv; let T:=tb; ∀ i x σ H,xs[i]? = some x->Pv i σ H->g x σ H (T (N i))) (hd:∀ σ H,Pv xs.length σ H->D.nx σ H):Lp #[Sb] g tb D σ H:=zle Pv h0 hl hs hd
theorem zlp (h0:Pv 0 σ H) (hl:∀ i σ H,i<=xs.length->Pv i σ H->lY K H a xs) (hs:let N:=D.l Pv; let T:=tb; ∀ i x σ H,xs[i]? = some x->Pv i σ H->g x σ H (T (N i))) (hd:∀ σ H,Pv xs.length σ H->D.nx σ H):Lp (Itt K a) g tb D σ H:=znb Pv h0 hl hs hd
theorem zbk {lo:Int} (h0:Pv 0 σ H) (hs:let N:=D.l Pv; let T:=tb; ∀ i σ H,i < n->Pv i σ H->g (.int (lo+i)) σ H (T (N i))) (hd:∀ σ H,Pv n σ H->D.nx σ H):Lp (Itr lo n) g tb D σ H:=zkd Pv h0 hs hd
end
theorem z9 {n:Nat} {ts:TT} (Pv:Nat->List V->Hp->Prop) (h0:Pv 0 [] H) (wq:∀ i ys H,i < n->Pv i ys H->J.go i H) (qZ:∀ ys H,Pv n ys H->J.stop n H)
  (hs:let S:=σ0; let T:=ts; let E:=te; ∀ i x ys H H',i < n->Pv i ys H->J.yld i H x H'->g x S H' fun σ2 H2=>T σ2 H2 fun b H3=>if b=true then E σ2 H3 fun y H4=>ys.length < sizeLine/\Pv (i+1) (ys++[y]) H4 else Pv (i+1) ys H3)
  (hd:∀ ys H D,Pv n ys H->H D=none->Q #[M6] (lP H D #[Qm])):cGo g ts te σ0 J Q H:=zgf Pv h0 wq qZ hs hd
end L2
end
section
namespace L2
end L2
end
section
namespace L2
open PySem PySem.Spec PyProof.Rows
variable {A:Around} {H H' H2:Hp} {J:It} {P prog:Program} {Q:VK} {X:Cx} {elt i1 t1 tg:Expr} {env:Env} {f1:List Expr} {fp:List Addr} {h:Heap} {it:Addr} {js:List Nat} {k t':Nat} {lN qh:List (Addr×Obj)} {lQ:List Value} {pos:Pos} {s s':Shared} {scope:Scope} {te:TE} {w:World} {wi:TI} {ys:List V}
abbrev TM:=List V->St->Hp->(List V->Hp->Prop)->Prop
abbrev zd6 (lQ:List Value) (nn:Nat):Obj:={ cls:=.type "list",data:=.seq lQ.toArray nn }
structure AccAt (Y:Cx) (lN:List (Addr×Obj)) (H:Hp) (s:Shared) (D:Addr) (ys:List V) (lQ:List Value) (nn:Nat):Prop where
 fp:zca Y lN H D
 here:s.heap.get? D=some (zd6 lQ nn)
 vals:zU ys lQ
 len:ys.length<=sizeLine
noncomputable def zgg (js:List Nat) (σ:St):Prop:=∀ j∈js,∀ v,σ[j]?≠some #[Q0]
noncomputable def Kp (js:List Nat) (σ σ2:St):Prop:=σ2.length=σ.length/\∀ j,j∉js->σ2[j]? = σ[j]?
theorem Kp.refl {σ:St}:Kp js σ σ:=#[QL]
theorem Kp.set {σ σ2:St} {i:Nat} {v:Option V} (hi:i∈js) (h:Kp js σ σ2):Kp js σ (σ2.set i v):=by
 refine⟨by rw [i3]; exact h.1,fun j hj=>?_⟩;rw [eg (fun z=>hj (by rw [<- z]; exact hi))];exact h.2 j hj
noncomputable def GS (js:List Nat) (g:TG):Prop:=∀ (σ σ1:St) (x:V) (H:Hp) (Q:St->Hp->Prop),Kp js σ σ1->g x σ1 H Q->g x σ1 H fun σ2 H2=>Kp js σ σ2/\Q σ2 H2
noncomputable def GSs (js:List Nat) (g:TGs):Prop:=∀ (σ σ1:St) (xs:List V) (H:Hp) (Q:St->Hp->Prop),Kp js σ σ1->g xs σ1 H Q->g xs σ1 H fun σ2 H2=>Kp js σ σ2/\Q σ2 H2
theorem zcZ {i:Nat} (hi:i∈js):GS js (zbb i):=fun σ σ1 x H Q hw h=>⟨hw.set hi,h⟩
theorem zja:GSs js zit:=fun σ σ1 xs H Q hw h=>⟨h.1,hw,h.2⟩
theorem zeC {i:Nat} {u:TGs} (hi:i∈js) (h2:GSs js u):GSs js (zcg (zbb i) u):=fun σ σ1 xs H Q hw h=>by
 obtain⟨v,r,e,h⟩:=h;exact⟨v,r,e,h2 σ _ r H Q (hw.set hi) h⟩
theorem zlq {K:ah} {n:Nat} {t:TGs} (h:GSs js t):GS js (zhd K n t):=fun σ σ1 x H Q hw hg=>by
 obtain⟨a,xs,e,hq,hl,hg⟩:=hg;exact⟨a,xs,e,hq,hl,h σ σ1 xs H Q hw hg⟩
theorem Inv.LF {σ:St} (I:Inv X lN σ H s) (h:∀ p∈qh,p∈lN):Inv X qh σ H s :=
 I.Kz fun p hp=>I.pin p (aI _ (h p hp))
section
variable {Y:Cx} {lN:List (Addr×Obj)} {σ:St} {H:Hp} {s:Shared} {D:Addr} {ys:List V} {lQ:List Value} {nn:Nat}
theorem AccAt.pin (a:AccAt Y lN H s D ys lQ nn) (I:Inv Y lN σ H s):Inv Y (lN++[#[Oq]]) σ H s :=
 I.Kz fun p hp=>by
  rcases (aP.mp hp) with hp | hp
  ·exact I.pin p (aI _ hp)
  ·obtain rfl:p=(D,zd6 lQ nn):=by simpa using hp
   obtain⟨a0,a1,a2,_⟩:=a.fp;exact⟨a.here,a0,a1,a2,fun v z=>by cases z⟩
theorem AccAt.back {σ':St} (a:AccAt Y lN H s D ys lQ nn) (I:Inv Y qh σ' H' s') (hm:#[Oq]∈qh):AccAt Y lN H' s' D ys lQ nn:=by
 have p:=I.pin #[Oq] (aI _ hm);exact⟨⟨p.2.1,a.fp.2⟩,p.1,a.vals,a.len⟩
end
noncomputable def PM (Y:Cx) (D:Addr) (js:List Nat) (mk:Sem Fin->Sem Fin) (tm:TM):Prop :=
 ∀ (last:Sem Fin) (lN:List (Addr×Obj)) (s:Shared) (σ:St) (H:Hp) (ys:List V) (lQ:List Value) (nn:Nat) (Q:List V->Hp->Prop) (Φ:Fin->Shared->Prop),Inv Y lN σ H s->AccAt Y lN H s D ys lQ nn->zgg js σ->tm ys σ H Q ->
  (∀ (s':Shared) (tJ:List V) (its':List Value) (Ad:Nat) (H':Hp),Inv Y lN σ H' s'->AccAt Y lN H' s' D tJ its' Ad->Q tJ H'->wpAny #[NW] Y.A last Φ #[N1] s') ->
  wpAny #[NW] Y.A (mk last) Φ #[N1] s
noncomputable def zfK (elt:Expr) (acc:Value) (env:Env) (last:Sem Fin):Sem Fin:=(eval elt env >>= fun x=>call (.builtin "list.append") [acc,x] >>= fun _=>pure ()) >>= fun _=>last
noncomputable def zjb (e iter:Expr) (d:Nat) (acc:Value) (env:Env) (last:Sem Fin):Sem Fin :=
 eval iter env >>= fun x=>standAt iter.pos >>= fun _=>foldedSetIterable iter env x >>= fun x=>holding [x] (pyIter x) >>= fun y8=>runOwn (.compStart e d y8 acc env) env >>= fun _=>last
noncomputable def zjc (te:TE):TM:=fun ys σ H Q=>te σ H fun y H4=>ys.length < sizeLine/\Q (ys++[y]) H4
noncomputable def cIn (g:TG) (ts:TT) (tm:TM) (σ:St) (J:It) (Q:List V->Hp->Prop) (ys:List V) (H1:Hp):Prop :=
 ∃ W:Nat->Nat->List V->Hp->Prop,(∃ m,W 0 m ys H1)/\∀ i m ys H,W i m ys H ->
  (J.stop i H/\Q ys H) \/
  (J.go i H/\∃ N:List V->Hp->Prop,(∀ tJ H',N tJ H'->∃ m',m' < m/\W (i+1) m' tJ H')/\∀ x H',J.yld i H x H'->g x σ H' fun σ2 H2=>ts σ2 H2 fun b H3 =>
   if b=true then tm ys σ2 H3 N else N ys H3)
noncomputable def zjd (wi:TI) (g:TG) (ts:TT) (tm:TM):TM:=fun ys σ H Q=>wi σ H fun J H1=>cIn g ts tm σ J Q ys H1
noncomputable def zgh (ix:List #[GT]) (wi:TI) (g:TG) (ts:TT) (tm:TM):TE:=fun σ H Q=>wi σ H fun J H1=>cIn g ts tm #[Sz] J (fun ys H'=>∀ D,H' D=none->Q #[M6] #[OF]) [] H1
theorem thx {α:Type} {m:Sem α} {P Q:α->Shared->Prop} {E:Value->Shared->Prop} (hx:X.xe=fun _ _=>False) (h:wpAny #[o0] X.A m P X.xe s) (k:∀ a s',P a s'->Q a s'):wpAny #[o0] X.A m Q E s :=
 cE h k fun _ _ z=>by rw [hx] at z; exact z.elim
theorem ziE {Y:Cx} {D:Addr} (hx:Y.xe=fun _ _=>False) (he:PE Y elt te):PM Y D [] (zfK elt #[M6] Y.env) (zjc te):=by
 intro last lN s σ H ys lQ nn Q Φ I a no h k;unfold zfK;refine ae (ae (thx hx (he (lN++[#[Oq]]) s σ H _ (a.pin I) h) fun yv s1 ⟨y,H1,I1,r1,hz,q1⟩=>ae ?_));have a1:=a.back I1 (aI _ aD);have J1:Inv Y lN σ H1 s1:=I1.LF fun p hp=>aL _ hp
 have yz:=a1.vals.length;refine eZ j2 ⟨_,a1.here,rfl⟩ jQ (jA _ _) (km D lQ.toArray nn yv (by rw [aq]; lia)) ⟨a1.here,?_⟩;refine ao ?_;have q:=kM a1.here (·.push yv);have k10:∀ b o,b≠D->s1.heap.get? b=some o->(s1.heap.update D (dh (·.push yv))).get? b=some o:=fun b o hb e=>(ga s1.heap (dh (·.push yv)) (dq hb)).trans e
 obtain⟨b0,b1,b2,b3,b4,b5⟩:=a1.fp;have I11:Inv Y lN σ H1 { s1 with heap:=s1.heap.update D (dh (·.push yv)) }:=J1.turned (t':=s1.toks) k10 b0 b1 b3 b4 b5;have e1:lQ.toArray.push yv=(lQ++[yv]).toArray:=by simp
 rw [e1] at q;refine k _ (ys++[y]) (lQ++[yv]) _ H1 I11 ⟨a1.fp,q,a1.vals.append (.cons r1 .nil),?_⟩ q1;rw [ap,cT];lia
section
variable {Y:Cx} {D:Addr} {js js':List Nat} {elt:Expr} {gens:List Comprehension} {scope:Scope} {pos:Pos} {d:Nat} {tg:Expr} {ifs:List Expr} {p:Pos} {mk:Sem Fin->Sem Fin} {g:TG} {ts:TT} {tm:TM}
noncomputable def zcz (tg:Expr) (ifs:List Expr) (p:Pos) (mk:Sem Fin->Sem Fin) (c:Code) (it:Value) (env:Env):Sem Fin :=
 standAt p >>= fun _=>pyNext it >>= fun r=>match r with
  | none=>pure (.done .next)
  | some v=>letOwnedTupleGo tg it v >>= fun _=>assign tg env v >>= fun _=>ziD ifs env >>= fun ok=>if ok=true then mk (again c) else again c
theorem zje (hc:Y.calm=true) (hx:Y.xe=fun _ _=>False) (xF:GS js g) (pP:∀ j∈js,j∉js') (hg:PG Y tg g) (ht:zdp Y ifs ts) (hm:PM Y D js' mk tm)
  (pE:∀ it,compTurn #[wp] d it #[M6] Y.env=zcz tg ifs p mk #[RP] it Y.env)
  {σ:St} {s2:Shared} {tn:Nat->Heap->Prop} {Q:List V->Hp->Prop} {R:Result->Shared->Prop} {nn:Nat}
  (I2:Inv Y lN σ H2 s2) (a2:AccAt Y lN H2 s2 D ys lQ nn) (no:zgg (js++js') σ) (T:Turn Y.prog Y.w Y.K tg J fp it tn) (m7:tn 0 s2.heap) (f2:∀ b∈fp,zca Y lN H2 b) (fD:∀ b∈fp,b≠D) (q:cIn g ts tm σ J Q ys H2)
  (hR:∀ (s':Shared) (tJ:List V) (its':List Value) (Ad:Nat) (H':Hp),Inv Y lN σ H' s'->AccAt Y lN H' s' D tJ its' Ad->Q tJ H'->R (.ok .next) s') :
  codeAny #[NW] Y.A #[Ru] R s2:=by
 obtain⟨W,⟨m0,w0⟩,turn⟩:=q;have Bl:∀ {H':Hp} {lQ:List Value} {nn:Nat},(∀ b∈fp,H' b=none)->∀ b∈fp,zca Y (lN++[#[Oq]]) H' b:=fun {H' lQ nn} hn b hb=>by
  obtain⟨_,a1,a2,a3,a4,a5⟩:=f2 b hb;refine⟨hn b hb,a1,a2,a3,a4,fun p hp=>?_⟩;rcases (aP.mp hp) with hp | hp
  ·exact a5 p (aL _ hp)
  ·rcases (aP.mp hp) with hp | hp
   ·exact a5 p (aI _ hp)
   ·obtain rfl:p=(D,zd6 lQ nn):=by simpa using hp
    exact (fD b hb).symm
 refine codeAny_loop rfl (fun n s'=>∃ i ys H' lQ nn,Inv Y lN σ H' s'/\tn i s'.heap/\(∀ b∈fp,H' b=none)/\AccAt Y lN H' s' D ys lQ nn/\W i n ys H') ?_ m0
  ⟨0,ys,H2,lQ,nn,I2,m7,fun b hb=>(f2 b hb).1,a2,w0⟩
 rintro n s5 ⟨i,ys,H5,lQ,nn,I5,Bj,fr5,a5,w5⟩;show wpAny _ Y.A ((compTurn #[wp] d #[NA] #[M6] Y.env).onRaise (fun x=>do noteFrame x Y.env; theTreesLotGoes x)) _ _ s5;refine wpAny_noted ?_;rw [pE];unfold zcz;have I5p:=a5.pin I5
 (refine ae (fm (ae ?_)))
 rcases turn i n ys H5 w5 with ⟨stop,qn⟩ | ⟨go,N,hN,step⟩
 ·refine cE (T.done Y rfl rfl rfl hc i _ s5 _ H5 #[N1] I5p (Bl fr5) Bj stop) (fun r s6 ⟨hr,I6⟩=>?_) fun _ _ z=>z.elim
  subst hr;exact ao (hR s6 ys lQ nn H5 (I6.LF fun p hp=>aL _ hp) (a5.back I6 (aI _ aD)) qn)
 ·refine cE (T.item Y rfl rfl rfl hc i _ s5 _ H5 #[N1] I5p (Bl fr5) Bj go) (fun r s6 ⟨u,hr,h6⟩=>?_) fun _ _ z=>z.elim
  subst hr;refine ae (cE h6 (fun _ s7 ⟨x,H7,I7,r7,y7,Fm,fr7⟩=>?_) fun _ _ z=>z.elim);have I7':=I7.pinned (Bl fr7) (T.obj _ _ Fm);refine ae (thx hx (hg _ s7 _ H7 x u _ I7' r7 (xF σ σ x H7 _ Kp.refl (step x H7 y7))) fun _ s8 ⟨σ8,H8,I8,kp,q8⟩=>?_);refine ae (thx hx (ht _ s8 σ8 H8 _ I8 q8) fun ok s9 ⟨H9,I9,q9⟩=>?_);have mD:#[Oq]∈(lN++[#[Oq]])++zcM fp s7.heap:=aL _ (aI _ aD);have a9:=a5.back I9 mD;have K9:Inv Y #[Rc] σ8 H9 s9:=I9.LF fun p hp=>(aP.mp hp).elim (fun z=>aL _ (aL _ z)) fun z=>aI _ z
  have wk:∀ (j:Nat) v,σ[j]? = some #[Q0]->σ8[j]? = some #[Q0]:=fun j v e=>by
   have hj:j∉js:=fun z=>no j (aL _ z) v e
   rw [kp.2 j hj];exact e
  have back:∀ {H':Hp} {s':Shared},Inv Y #[Rc] σ8 H' s'->Inv Y lN σ H' s'/\tn (i+1) s'.heap/\∀ b∈fp,H' b=none:=fun {H' s'} I'=>by
   refine⟨(I'.LF fun p hp=>aL _ hp).weak kp.1.symm wk,T.keep _ _ _ Fm fun b hb o e=>(I'.pin (b,o) #[OG]).1,fun b hb=>?_⟩;obtain⟨o,e,d⟩:=T.obj _ _ Fm b hb;exact (I'.pin (b,o) #[OG]).2.1
  cases ok with
  | false =>
   rw [if_neg aQ] at q9 |-;obtain⟨m',Fn,w9⟩:=hN _ _ q9;obtain⟨b1,b2,b3⟩:=back K9;exact ao ⟨rfl,m',Fn,i+1,ys,H9,lQ,nn,b1,b2,b3,a9,w9⟩
  | true =>
   rw [if_pos rfl] at q9 |-;have a9':AccAt Y #[Rc] H9 s9 D ys lQ nn:=by
    obtain⟨b0,b1,b2,b3,b4,b5⟩:=a9.fp;refine⟨⟨b0,b1,b2,b3,b4,fun p hp=>?_⟩,a9.here,a9.vals,a9.len⟩;rcases (aP.mp hp) with hp | hp
    ·exact b5 p (aL _ hp)
    ·rcases (aP.mp hp) with hp | hp
     ·exact b5 p (aI _ hp)
     ·exact fD _ (zfB hp).1
   have no':zgg js' σ8:=fun j hj v e=>by
    have qj:j∉js:=fun z=>pP j z hj
    rw [kp.2 j qj] at e;exact no j (aI _ hj) v e
   refine cE (hm (again _) _ s9 σ8 H9 ys lQ nn N (fun fin s'=>match fin with | .done f=>R (.ok f) s' | .again c'=>c'=_/\∃ m,m < n/\_) K9 a9' no' q9 fun s' tJ its' Ad H' I' a' n'=>?_) (fun _ _ z=>z) fun _ _ z=>z.elim
   obtain⟨m',Fn,w'⟩:=hN _ _ n';obtain⟨b1,b2,b3⟩:=back I';obtain⟨c0,c1,c2,c3,c4,c5⟩:=a'.fp;refine ao ⟨rfl,m',Fn,i+1,tJ,H',its',Ad,b1,b2,b3,⟨⟨c0,c1,c2,c3,c4,fun p hp=>?_⟩,a'.here,a'.vals,a'.len⟩,w'⟩;rcases (aP.mp hp) with hp | hp
   ·exact c5 p (aL _ hp)
   ·exact c5 p (aI _ (aL _ hp))
theorem zhl {R:Result->Shared->Prop} {iter:Expr} {it acc:Value} (hd:gens[d]? = some ⟨tg,iter,ifs,0⟩)
  (h0:codeAny #[pc] A (.compLoop #[wp] d it acc env) R s)
  (h:wpAny #[pc] A (pyIter it) (fun Fo s'=>codeAny #[pc] A (.compLoop #[wp] d Fo acc env) R s') #[N1] s) :
  codeAny #[pc] A (.compStart #[wp] d it acc env) R s:=by
 refine i6 ?_;show wpAny _ _ ((compStart #[wp] d it acc env).onRaise (fun x=>do noteFrame x env; standAt theWindowsPlace)) _ _ s;refine wpAny_notedAt ?_;unfold compStart;have e1:(clausesOf #[wp])[d]? = some ⟨tg,iter,ifs,0⟩:=hd;rw [e1]
 (show wpAny _ _ (ask >>= _) _ _ s)
 (refine ae (wpAny_askSetting (wpAny_ite ?_)))
 split
 ·first
   | (exact ae (ao (ao ⟨rfl,h0⟩)))
   | (exact ao ⟨rfl,h0⟩)
 ·first
   | exact ae (cF (ae (fm (ae (cE h #[QY] fun _ _ x=>x.elim)))))
   | (refine ae (cF ?_); show wpAny _ _ (standAt iter.pos >>= _) _ _ s; exact ae (fm (ae (cE h #[QY] fun _ _ x=>x.elim))))
theorem zpe {iter:Expr} (hc:Y.calm=true) (hx:Y.xe=fun _ _=>False) (xF:GS js g) (pP:∀ j∈js,j∉js') (hi:PI Y tg iter wi) (hg:PG Y tg g) (ht:zdp Y ifs ts) (hm:PM Y D js' mk tm) (hd:gens[d]? = some ⟨tg,iter,ifs,0⟩)
  (pE:∀ it,compTurn #[wp] d it #[M6] Y.env=zcz tg ifs p mk #[RP] it Y.env)
  (hs:∀ x,foldedSetIterable iter Y.env x=pure x:=by intro _; rfl) :
  PM Y D (js++js') (zjb #[wp] iter d #[M6] Y.env) (zjd wi g ts tm):=by
 intro last lN s σ H ys lQ nn Q Φ I a no h k;unfold zjb;refine ae (thx hx (hi (lN++[#[Oq]]) s σ H _ (a.pin I) h) fun v s1 h1=>ae (fm (ae ?_)));rw [hs v];refine ao (ae (cm (thx hx h1 fun y8 s2 h2=>?_)));obtain⟨it,fp,tn,J,H2,e,I2,T,m7,f2,q⟩:=h2;subst e;have a2:=a.back I2 (aI _ aD);have J2:Inv Y lN σ H2 s2:=I2.LF fun p hp=>aL _ hp
 have Fp:∀ b∈fp,zca Y lN H2 b:=fun b hb=>by
  obtain⟨c0,c1,c2,c3,c4,c5⟩:=f2 b hb;refine⟨c0,c1,c2,c3,c4,fun p hp=>?_⟩;rcases (aP.mp hp) with hp | hp
  ·exact c5 p (aL _ hp)
  ·exact c5 p (aI _ (aL _ hp))
 have fD:∀ b∈fp,b≠D:=fun b hb=>((f2 b hb).2.2.2.2.2 #[Oq] (aI _ (aI _ aD))).symm
 have loop:codeAny #[NW] Y.A #[Ru] (fun r s'=>match r with | .ok f=>wpAny #[NW] Y.A last Φ #[N1] s' | .error e=>cameBackBy #[NW] Y.A Y.env #[N1] e s') s2 :=
  zje hc hx xF pP hg ht hm pE J2 a2 no T m7 Fp fD q fun s' tJ its' Ad H' I' a' q'=>k s' tJ its' Ad H' I' a' q'
 exact ae (wpAny_runOwn (zhl hd loop (T.self _ 0 _ _ _ m7 loop)))
end
section
variable {X:Cx} {elt tg iter:Expr} {ifs:List Expr} {gs:List Comprehension} {scope:Scope} {pos:Pos} {N':List Str} {ix:List #[GT]} {js js':List Nat} {g:TG} {ts:TT} {tm:TM} {mk:Addr->Env->Sem Fin->Sem Fin}
theorem zdY {σ:St} {s2:Shared} {tn:Nat->Heap->Prop} {E:Value->Shared->Prop} {RR:Value->Addr->Result->Shared->Prop}
  (SC:IK X N' ix scope) (hc:X.calm=true) (xF:GS js g) (pP:∀ j∈js,j∉js') (uo:∀ j∈js++js',ix[j]? = some none)
  (hg:∀ s₃ H₃ ex lN,PG #[np] tg g) (ht:∀ s₃ H₃ ex lN,zdp #[np] ifs ts) (hm:∀ s₃ H₃ ex lN D,PM #[np] D js' (mk D #[np].env) tm)
  (pE:∀ it D env,compTurn #[pi] 0 it #[M6] env=zcz tg ifs iter.pos (mk D env) #[OO] it env)
  (I2:Inv X lN σ H2 s2) (T:Turn X.prog X.w X.K tg J fp it tn) (m7:tn 0 s2.heap) (f2:∀ b∈fp,zca X lN H2 b) (q:cIn g ts tm #[Sz] J (fun ys H'=>∀ D,H' D=none->Q #[M6] #[OF]) [] H2)
  (hRR:∀ (D C:Addr) (s':Shared) (ys:List V) (H':Hp) (m:Str->Option Value),Inv X lN σ #[OF] s'->zca X lN #[OF] C->s'.heap.Ns C m->Q #[M6] #[OF]->RR #[M6] C (.ok .next) s') :
  wpAny #[o0] X.A (newList []) (fun acc s₃=>wpAny #[o0] X.A (newFunctionEnv scope X.env.globals (zas X.env.cells scope.names []) [] X.env.qual none .none (some X.env)) (fun B4 s₄ =>
   codeAny #[o0] X.A (.compStart #[pi] 0 #[NA] acc { B4 with scope:=relabel scope X.env }) (RR acc B4.locals) s₄) E s₃) E s2:=by
 have B5:∀ y∈scope.names,y.2 = .free->∃ c,X.env.cells.lookup y.1=some c:=fun y hy hf=>I2.ok.has y.1 #[R4]
 have oY:∀ x c,(zas X.env.cells scope.names []).lookup x=some c->X.env.cells.lookup x=some c:=zcb scope.names [] B5 (fun x c e=>by simp at e);refine cI (zkj ?_);have I3:Inv X lN σ H2 { s2 with heap:=s2.heap.push { cls:=.type "list",dict:=none,data:=.seq ([]:List Value).toArray } }:=I2.kept (t':=s2.toks) fun b o e=>ai _ e
 have xi:(s2.heap.push { cls:=.type "list",dict:=none,data:=.seq ([]:List Value).toArray }).get? s2.heap.objs.size=some { cls:=.type "list",dict:=none,data:=.seq ([]:List Value).toArray }:=aE _ rfl;have B6:tn 0 (s2.heap.push { cls:=.type "list",dict:=none,data:=.seq ([]:List Value).toArray }):=T.keep _ _ _ m7 fun b hb o e=>ai _ e
 have B7:(s2.heap.push { cls:=.type "list",dict:=none,data:=.seq ([]:List Value).toArray }).objs.size=s2.heap.objs.size+1:=bj _ _;generalize hh3:s2.heap.push { cls:=.type "list",dict:=none,data:=.seq ([]:List Value).toArray }=h3 at *;have Fq:=T.obj _ _ m7;have yA:∀ b∈fp,b < s2.heap.objs.size:=fun b hb=>by obtain⟨o,e,_⟩:=Fq b hb; exact aF e
 have stk:∀ b∈frs X.stack,b=X.env.locals\/b∈X.fs:=fun b hb=>aB.mp (I2.Ll b hb)
 have B8:zca X lN H2 s2.heap.objs.size:=I2.KY (af _) I2.fresh;have vj:∀ b∈s2.heap.objs.size :: fp,zca X lN H2 b:=fun b hb=>by
  rcases (aB.mp hb) with e | hb
  ·rw [e]; exact B8
  ·exact f2 b hb
 have Ae:∀ b∈s2.heap.objs.size :: fp,b < h3.objs.size:=fun b hb=>by
  rw [B7];rcases (aB.mp hb) with e | hb; · rw [e]; exact gd _
  ·exact cA (yA b hb)
 have yB:∀ b∈s2.heap.objs.size :: fp,b∉frs X.stack:=fun b hb z=>by
  obtain⟨_,a1,a2,_⟩:=vj b hb;rcases stk b z with e | e
  ·exact a1 e
  ·exact a2 e
 have hns₁:(pushCells (h3.push { cls:=.type "dict",data:=.dict #[] }) scope.names).Ns h3.objs.size (fun _=>none):=(Heap.Ns.new h3 (.type "dict")).keeps (pushCells_keeps _ _);have old:∀ b o,h3.get? b=some o->(pushCells (h3.push { cls:=.type "dict",data:=.dict #[] }) scope.names).get? b=some o:=fun b o e=>pushCells_keeps _ _ b o (ai _ e)
 have Fs:∀ x c,X.env.cells.lookup x=some c->c < h3.objs.size:=fun x c e=>by
  obtain⟨v,q⟩:=I3.cell x c e;exact q.lt
 have co:CO (pushCells (h3.push { cls:=.type "dict",data:=.dict #[] }) scope.names) #[NJ] (zas X.env.cells scope.names []) (cellsFrom #[NJ] scope.names (zas X.env.cells scope.names [])):=by
  have:=zlo (lo:=h3.objs.size+1) (old:=zas X.env.cells scope.names []) scope.names (h3.push { cls:=.type "dict",data:=.dict #[] }) (zas X.env.cells scope.names [])
   ⟨fun x c e=>.inr ⟨e,cA (Fs x c (oY x c e))⟩,fun x y c e1 e2=>I2.ok.inj x y c (oY x c e1) (oY y c e2)⟩ (by rw [bj]; exact af _)
  rw [bj] at this;exact this
 generalize pushCells (h3.push { cls:=.type "dict",data:=.dict #[] }) scope.names=h₁ at hns₁ old co |-;have Ft:∀ {x c},(cellsFrom #[NJ] scope.names (zas X.env.cells scope.names [])).lookup x=some c->(h₁.IsCell c none/\h3.objs.size+1<=c)\/X.env.cells.lookup x=some c:=fun {x c} e=>(co.each x c e).elim .inl fun z=>.inr (oY x c z.1)
 have cfr:∀ x,scope.names.lookup x=some .free->(cellsFrom #[NJ] scope.names (zas X.env.cells scope.names [])).lookup x=(zas X.env.cells scope.names []).lookup x:=fun x hx=>zgd _ _ _ _ fun z=>by
  have:=SC.cells _ z rfl;rw [hx] at this;cases this
 let s3:Shared:={ s2 with heap:=h3 }
 let Y:Cx:=zQ X N' scope s3 H2 (s2.heap.objs.size :: fp) lN
 have vW:Inv X lN σ H2 s3:=I3;have okY:Y.Ok:=by
  refine⟨I2.ok.mod,SC.kind,I2.ok.glob,I2.ok.blt,af _,co.inj,fun x hx=>?_,fun x c z e=>?_,I2.ok.hd,I2.ok.frames,.inl rfl,fun b hb=>?_,fun b o e=>vW.bs b o e,?_,fun b o e hb=>?_,yB,vW.stack,vW.Lm⟩
  ·have tj:=zdo (env:=X.env) (names:=scope.names) (x:=x) hx;rcases tj with tj | tj
   ·obtain⟨c,e⟩:=zcy (cs:=X.env.cells) scope.names [] x (.inr (lookup_mem tj));exact⟨c,(cfr x tj).trans e⟩
   ·obtain⟨c,e,_⟩:=zge scope.names #[NJ] (zas X.env.cells scope.names []) x (lookup_mem tj);exact⟨c,e⟩
  ·obtain⟨c',e',l'⟩:=zge scope.names #[NJ] (zas X.env.cells scope.names []) x (lookup_mem (by have z':(scope.names.lookup x == some dj)=true:=z; simpa using z'));have e2:(cellsFrom #[NJ] scope.names (zas X.env.cells scope.names [])).lookup x=some c:=e;rw [e'] at e2;cases e2;exact iw l'
  ·refine⟨a8 (Ae b hb),fun x c e=>(Ft e).elim (fun z y=>?_) fun z=>(vj b hb).2.2.2.2.1 x c z⟩;subst y;exact cg _ (ba (Ae _ hb) (iw z.2))
  ·exact aV I2.ok.bsz vW.sz
  ·obtain⟨_,_,_,a3,_⟩:=vj b hb;rcases a3 with z | z
   ·exact I2.ok.Ma b o e z
   ·have:=(I2.ok.bs b o e).1;exact absurd (ba (aF this) z) (cg _)
 have Fu:Inv Y [] #[Sz] H2 { s3 with heap:=h₁ }:=by
  refine⟨okY,rfl,I2.bare,Un.kept old,⟨_,hns₁,fun j x v e1 e2 e3=>?_⟩,fun x c e=>?_,vW.fresh,fun x c e=>(Ft e).elim (fun z=>vW.hok.fresh (iw z.2)) fun z=>I2.JZ x c z,fun p hp=>?_,vW.hok.kept old,?_⟩
  ·unfold zdq at e2;rw [aj] at e2;cases hj:ix[j]? with
   | none=>rw [hj] at e2; simp at e2
   | some oi =>
    rw [hj] at e2;cases oi with
    | none=>simp at e2
    | some i =>
     obtain⟨y,h1,h2,xj⟩:=SC.cap j i hj;have hxy:y=x:=by
      have e1':N'[j]? = some x:=e1;rw [h1] at e1';exact aS e1'
     subst hxy;have B9:(σ[i]?).join=some v:=by simpa using e2
     have Fv:σ[i]? = some #[Q0]:=by
      cases hs:σ[i]? with
      | none=>rw [hs] at B9; simp at B9
      | some w=>rw [hs] at B9; simp at B9; rw [B9]
     obtain⟨m,hn,hl⟩:=vW.loc;have hk:=SC.free (y,.free) (lookup_mem xj) rfl;have Fw:Vis X.env.scope y:=hk.elim (fun z=>.inr (.inl z)) fun z=>.inr (.inr z)
     obtain⟨u,r,l⟩:=hl i y v h2 Fv Fw;refine⟨u,r,.inr ⟨zbQ xj,?_⟩⟩;obtain⟨c,mZ⟩:=zcy (cs:=X.env.cells) scope.names [] y (.inr (lookup_mem xj));refine⟨c,(cfr y xj).trans mZ,?_⟩;rcases l with ⟨vV,_⟩ | ⟨_,c',lV,qi⟩
     ·rcases hk with hk | hk
      ·have rf:X.env.kindOf y=some .cell:=hk;rw [rf] at vV; cases vV
      ·have rf:X.env.kindOf y=some .free:=hk;rw [rf] at vV; cases vV
     ·have:=oY y c mZ;rw [lV] at this;cases this;obtain⟨o,ho,hd⟩:=qi;exact⟨o,old _ _ ho,hd⟩
  ·rcases Ft e with z | z
   ·exact⟨_,z.1⟩
   ·obtain⟨v,o,ho,hd⟩:=vW.cell x c z;exact⟨v,o,old _ _ ho,hd⟩
  ·have pD:p∈X.pn++lN:=by
    have:p∈(X.pn++lN)++([]:List (Addr×Obj)):=hp;simpa using this
   obtain⟨a1,a2,a3,a4,a5⟩:=vW.pin p pD;exact⟨old _ _ a1,a2,a8 (aF a1),fun z=>(stk _ z).elim a3 a4,a5⟩
  ·unfold zdq;rw [ab];exact SC.len.symm
 have Bl:∀ {H':Hp},(∀ b∈s2.heap.objs.size :: fp,H' b=none)->∀ b∈s2.heap.objs.size :: fp,zca Y [] H' b:=fun {H'} hn b hb=>by
  obtain⟨_,a1,a2,a3,a4,a5⟩:=vj b hb;refine⟨hn b hb,a8 (Ae b hb),yB b hb,.inl hb,(okY.exf b hb).2,fun p hp=>?_⟩;have:p∈(X.pn++lN)++([]:List (Addr×Obj)):=hp;exact a5 p (by simpa using this)
 have nn2:∀ b∈s2.heap.objs.size :: fp,H2 b=none:=fun b hb=>(vj b hb).1
 have yx:zgg (js++js') #[Sz]:=fun j hj v e=>by
  unfold zdq at e;rw [aj,uo j hj] at e;simp at e
 have loop:∀ s₅:Shared,s₅ = { s2 with heap:=h₁ } ->
   codeAny #[o0] X.A (.compLoop #[pi] 0 #[NA] (.ref s2.heap.objs.size) (compEnvC scope (cellsFrom #[NJ] scope.names (zas X.env.cells scope.names [])) h3.objs.size X.env)) (RR (.ref s2.heap.objs.size) h3.objs.size) s₅:=by
  rintro s₅ rfl;refine zje (Y:=Y) (lN:=[]) (σ:=zdq ix σ) (lQ:=[]) (nn:=0) hc rfl xF pP (hg s3 H2 _ lN) (ht s3 H2 _ lN) (hm s3 H2 _ lN s2.heap.objs.size) (fun it=>pE it _ _) Fu ⟨Bl nn2 _ aD,old _ _ xi,.nil,bg _⟩ yx T (T.keep _ _ _ B6 fun b hb o e=>old b o e)
   (fun b hb=>Bl nn2 b (au _ hb)) (fun b hb=>a8 (yA b hb)) q fun s6 ys lQ nn H5 I6 a6 qn=>?_
  have dn5:H5 s2.heap.objs.size=none:=a6.fp.1;have I7:Inv X lN σ H5 s6:=by
   refine vW.MD (s':=s6) (ch:=s2.heap.objs.size :: fp) I6.os I6.base I6.hok I6.bare fun b hb=>?_
   obtain⟨_,a1,a2,a3,a4,a5⟩:=vj b hb;exact⟨a3,a1,a4,a5⟩
  have I8:Inv X lN σ (lP H5 s2.heap.objs.size #[Qm]) s6:=by
   obtain⟨_,a1,a2,a3,a4,a5⟩:=B8;exact I7.Lj dn5 I2.sz (dq a1) a4 a5 ⟨a6.len,lQ,nn,a6.vals,a6.here⟩
  obtain⟨mm,hmm,_⟩:=I6.loc;have dne:h3.objs.size≠s2.heap.objs.size:=by rw [B7]; exact iJ _
  refine hRR _ _ s6 ys H5 mm I8 (vW.KY (H':=lP H5 s2.heap.objs.size #[Qm]) (af _) ?_) hmm (qn _ dn5);show lP H5 s2.heap.objs.size #[Qm] h3.objs.size=none;rw [zn dne];exact I6.free
 exact zhl rfl (loop _ rfl) (T.self _ 0 _ _ _ (T.keep _ _ _ B6 fun b hb o e=>old b o e) (loop _ rfl))
theorem zhm (SC:IK X N' ix scope) (hc:X.calm=true) (xF:GS js g) (pP:∀ j∈js,j∉js') (uo:∀ j∈js++js',ix[j]? = some none) (hi:PI X tg iter wi)
  (hg:∀ s₃ H₃ ex lN,PG #[np] tg g) (ht:∀ s₃ H₃ ex lN,zdp #[np] ifs ts) (hm:∀ s₃ H₃ ex lN D,PM #[np] D js' (mk D #[np].env) tm)
  (pE:∀ it D env,compTurn #[pi] 0 it #[M6] env=zcz tg ifs iter.pos (mk D env) #[OO] it env)
  (hs:∀ x,foldedSetIterable iter X.env x=pure x:=by intro _; rfl):PE X #[pi] (zgh ix wi g ts tm):=by
 intro lN s σ H Q I h;rw [eval_ListComp];have B5:∀ y∈scope.names,y.2 = .free->∃ c,X.env.cells.lookup y.1=some c:=fun y hy hf=>I.ok.has y.1 #[R4]
 refine iK (use:=none) rfl hs (zde B5) SC.kind SC.names (thn #[QO] fun v s1 h1=>thn h1 fun y8 s2 h2=>?_);obtain⟨it,fp,tn,J,H2,e,I2,T,m7,f2,q⟩:=h2;subst e;refine zdY (RR:=fun acc C=>compPost #[o0] X.A X.xe none #[Nf] acc C) SC hc xF pP uo hg ht hm pE I2 T m7 f2 q ?_;intro D C s' ys H' m I' Fx hm q';refine⟨m,hm,fun xk oU=>⟨.ref D,_,?_,rfl,q'⟩⟩;obtain⟨f0,f1,Fp,f3,f4,f5⟩:=Fx;exact I'.turned (t':=s'.toks) (fun b o hb e=>oU.extBut b o hb e) f0 f1 f3 f4 f5
theorem zdZ {i:Nat} {x:Str} {pos' qE:Pos} (hN:X.N.Nodup) (xG:X.N[i]? = some x) (hx:Loc X.env.scope x) (SC:IK X N' ix scope) (hc:X.calm=true) (xF:GS js g) (pP:∀ j∈js,j∉js') (uo:∀ j∈js++js',ix[j]? = some none) (hi:PI X tg iter wi)
  (hg:∀ s₃ H₃ ex lN,PG #[np] tg g) (ht:∀ s₃ H₃ ex lN,zdp #[np] ifs ts) (hm:∀ s₃ H₃ ex lN D,PM #[np] D js' (mk D #[np].env) tm)
  (pE:∀ it D env,compTurn #[pi] 0 it #[M6] env=zcz tg ifs iter.pos (mk D env) #[OO] it env)
  (B':swapsWith #[pi] (some #[NP]) qE.line X.env=pure true:=by rfl)
  (hs:∀ x,foldedSetIterable iter X.env x=pure x:=by intro _; rfl) (hf:X.fn x=true\/X.env.scope.names.lookup x=some .local:=by first | exact .inl rfl | exact .inr rfl | assumption) :
  PS X (.Assign [.Name x pos'] #[pi] qE) (ziu (zgh ix wi g ts tm) (zbb i)):=by
 intro lN s σ H D I h;have B5:∀ y∈scope.names,y.2 = .free->∃ c,X.env.cells.lookup y.1=some c:=fun y hy hf=>I.ok.has y.1 #[R4]
 rw [exec_Assign_Name_used _ _ _ _ B']; refine ae (fm (ae ?_));show wpAny _ X.A (do let _ <- comprehension #[pi] scope X.env _ (newList []) false (eval iter X.env) (some #[Rf])) _ _ s;refine ae (cE (iK (use:=some #[Rf]) (Q:=fun _ s'=>SP X lN D .next s') rfl hs (zde B5) SC.kind SC.names
  (thn #[QO] fun v s1 h1=>thn h1 fun y8 s2 h2=>?_)) (fun _ s' hq=>ao (ao hq)) fun _ _ e=>e)
 obtain⟨it,fp,tn,J,H2,e,I2,T,m7,f2,q⟩:=h2;subst e;refine zdY (Q:=fun x H1=>zbb i x σ H1 D.nx) (RR:=fun acc C=>compPost #[o0] X.A X.xe (some #[Rf]) (fun _ s'=>SP X lN D .next s') acc C) SC hc xF pP uo hg ht hm pE I2 T m7 f2 q ?_;intro Da C s' ys H' m I' Fx hm q';show wpAny _ X.A (assign #[NP] X.env (.ref Da)) _ _ _;refine wpAny_assign_Name (zfw I' hN xG hx (show RelV (.ref Da) (.ref Da) from rfl) (fun B1 I'' ⟨a,oj,ha⟩=>?_) hf);obtain⟨f0,f1,Fp,f3,f4,f5⟩:=Fx;have hCa:C≠a:=by
  rcases ha with e | e
  ·rw [e]; exact f1
  ·exact dq (f4 x a e)
 refine⟨m,hm.sameBut oj hCa,fun h₃ hs₃=>⟨_,_,?_,q'⟩⟩;exact I''.turned (t':=B1.toks) (fun b o hb e=>hs₃.extBut b o hb e) f0 f1 f3 f4 f5
end
theorem zlr {t2 i2:Expr} {f2:List Expr} (it:Value) (D:Addr) (env:Env):compTurn (.ListComp elt [⟨t1,i1,f1,0⟩,⟨t2,i2,f2,0⟩] scope pos) 0 it #[M6] env =
  zcz t1 f1 i1.pos (zjb (.ListComp elt [⟨t1,i1,f1,0⟩,⟨t2,i2,f2,0⟩] scope pos) i2 1 #[M6] env) (.compLoop (.ListComp elt [⟨t1,i1,f1,0⟩,⟨t2,i2,f2,0⟩] scope pos) 0 it #[M6] env) it env:=by rfl
theorem zpf {t2 i2:Expr} {f2:List Expr} (it:Value) (D:Addr) (env:Env):compTurn (.ListComp elt [⟨t1,i1,f1,0⟩,⟨t2,i2,f2,0⟩] scope pos) 1 it #[M6] env =
  zcz t2 f2 i2.pos (zfK elt #[M6] env) (.compLoop (.ListComp elt [⟨t1,i1,f1,0⟩,⟨t2,i2,f2,0⟩] scope pos) 1 it #[M6] env) it env:=by rfl
noncomputable def zdQ (ix:List #[GT]):List Nat:=(aN ix.length).filter fun j=>ix[j]? == some none
theorem zcA {ix:List #[GT]} {i:Nat}:i∈zdQ ix↔ix[i]? = some none:=by
 unfold zdQ;rw [bf,bJ,beq_iff_eq];exact⟨fun h=>h.2,fun h=>⟨(av.mp h).1,h⟩⟩
noncomputable def GK (ix:List #[GT]) (g:TG):Prop:=GS (zdQ ix) g
noncomputable def GKs (ix:List #[GT]) (g:TGs):Prop:=GSs (zdQ ix) g
theorem za9 {ix:List #[GT]} {i:Nat} (hi:ix[i]? = some none):GK ix (zbb i):=zcZ (zcA.2 hi)
theorem zaA {ix:List #[GT]}:GKs ix zit:=zja
theorem zt {ix:List #[GT]} {i:Nat} {u:TGs} (hi:ix[i]? = some none) (h2:GKs ix u):GKs ix (zcg (zbb i) u):=zeC (zcA.2 hi) h2
theorem zaT {ix:List #[GT]} {K:ah} {n:Nat} {t:TGs} (h:GKs ix t):GK ix (zhd K n t):=zlq h
theorem zkk {ix:List #[GT]} {g:TG} {u:TGs} (h1:GK ix g) (h2:GKs ix u) (mono:∀ (x:V) (σ:St) (H:Hp) (Q Q':St->Hp->Prop),(∀ σ' H',Q σ' H'->Q' σ' H')->g x σ H Q->g x σ H Q'):GKs ix (zcg g u):=fun σ σ1 xs H Q hw h=>by
 obtain⟨v,r,e,h⟩:=h;refine⟨v,r,e,mono v σ1 H _ _ (fun σ' H' q=>?_) (h1 σ σ1 v H _ hw h)⟩;exact h2 σ σ' r H' Q q.1 q.2
theorem zoC (it:Value) (D:Addr) (env:Env):compTurn (.ListComp elt [⟨t1,i1,f1,0⟩] scope pos) 0 it #[M6] env =
  zcz t1 f1 i1.pos (zfK elt #[M6] env) (.compLoop (.ListComp elt [⟨t1,i1,f1,0⟩] scope pos) 0 it #[M6] env) it env:=by rfl
section
variable {X:Cx} {elt tg iter:Expr} {ifs:List Expr} {scope:Scope} {pos:Pos} {N':List Str} {ix:List #[GT]} {g:TG} {ts:TT} {te:TE}
theorem zal {wi:TI} (SC:IK X N' ix scope) (hc:X.calm=true) (hk:GK ix g) (hi:PI X tg iter wi)
  (hg:∀ s₃ H₃ ex lN,PG #[np] tg g) (ht:∀ s₃ H₃ ex lN,zdp #[np] ifs ts) (he:∀ s₃ H₃ ex lN,PE #[np] elt te)
  (hs:∀ x,foldedSetIterable iter X.env x=pure x:=by intro _; rfl):PE X (.ListComp elt [⟨tg,iter,ifs,0⟩] scope pos) (zoB ix wi g ts te) :=
 zhm (mk:=fun D env=>zfK elt #[M6] env) (js:=zdQ ix) (js':=[]) SC hc hk (fun _ _ h=>nomatch h) (fun j h=>zcA.1 (by simpa using h)) hi hg ht #[Pb] (fun _ _ _=>zoC _ _ _) hs
theorem zaK {wi:TI} {i:Nat} {x:Str} {pos' qE:Pos} (hN:X.N.Nodup) (xG:X.N[i]? = some x) (hx:Loc X.env.scope x) (SC:IK X N' ix scope) (hc:X.calm=true) (hk:GK ix g) (hi:PI X tg iter wi)
  (hg:∀ s₃ H₃ ex lN,PG #[np] tg g) (ht:∀ s₃ H₃ ex lN,zdp #[np] ifs ts) (he:∀ s₃ H₃ ex lN,PE #[np] elt te)
  (B':swapsWith (.ListComp elt [⟨tg,iter,ifs,0⟩] scope pos) (some #[NP]) qE.line X.env=pure true:=by rfl)
  (hs:∀ x,foldedSetIterable iter X.env x=pure x:=by intro _; rfl) (hf:X.fn x=true\/X.env.scope.names.lookup x=some .local:=by first | exact .inl rfl | exact .inr rfl | assumption) :
  PS X (.Assign [.Name x pos'] (.ListComp elt [⟨tg,iter,ifs,0⟩] scope pos) qE) (ziu (zoB ix wi g ts te) (zbb i)) :=
 zdZ (mk:=fun D env=>zfK elt #[M6] env) (js:=zdQ ix) (js':=[]) hN xG hx SC hc hk (fun _ _ h=>nomatch h) (fun j h=>zcA.1 (by simpa using h)) hi hg ht #[Pb] (fun _ _ _=>zoC _ _ _) B' hs hf
end
section
variable {X:Cx} {lN:List (Addr×Obj)} {σ:St} {H:Hp} {s:Shared} {h':Heap}
theorem Inv.Kd {ch:List Addr} (I:Inv X lN σ H s) (k:∀ b o,b∉ch->s.heap.get? b=some o->h'.get? b=some o) (hf:∀ b∈ch,zca X lN H b)
  (th:∀ b∈ch,∃ o,h'.get? b=some o):Inv X lN σ H { s with heap:=h',toks:=t' }:=by
 have tD:∀ b u,H b=some u->b∉ch:=fun b u e z=>by rw [(hf b z).1] at e; cases e
 refine I.step (g':=s.gens) (d':=s.drawn) (ch:=ch) (fun b hb=>?_) (fun b o _ _ hc e _=>k b o hc e) (fun b o _ _ hc e _=>⟨o.slots,k b o hc e⟩) #[NH]
  (fun b o hc e=>⟨o,k b o hc e⟩) #[Ot] #[NK] (fun b ps e=>⟨#[],by rw [e]; simp⟩) #[Os] #[Rs] I.bare
 ·obtain⟨_,a1,_,a3,a4,a5⟩:=hf b hb;exact⟨a3,a1,a4,a5⟩
 ·obtain⟨o,es,ep,ho,r⟩:=hm;exact⟨o,es,ep,k _ o (fun z=>(hf _ z).2.1 rfl) ho,r⟩
 ·refine #[QI].KO (fun c v hc q=>k c v ?_ q) #[Pj] fun _ _ q=>q
  rcases hc with z | z
  ·rw [z]; exact tD b u e
  ·exact tD c _ z
theorem Inv.JO {ch:List Addr} {T:Addr} {o:HO} (I:Inv X lN σ H s) (k:∀ b o,b∉ch->s.heap.get? b=some o->h'.get? b=some o) (hf:∀ b∈ch,zca X lN H b)
  (th:∀ b∈ch,∃ o,h'.get? b=some o) (hT:s.heap.objs.size<=T) (ok:zax X.prog X.w (lP H T o) h' T o):Inv X lN σ (lP H T o) { s with heap:=h',toks:=t' }:=by
 have I1:Inv X lN σ H { s with heap:=h',toks:=t' }:=I.Kd k hf th;have hn:H T=none:=I.hok.fresh hT;obtain⟨_,a1,a2,a3,a4,a5⟩:=I.KY (H':=H) hT hn;exact I1.Lj hn (aV I.sz hT) (dq a1) a4 a5 ok
end
noncomputable def zpg (Sq:Hp->Addr->List V->Prop) (a:Addr):It :=
 ⟨fun i H=>∃ xs x,Sq H a xs/\xs[i]? = some x,fun i H x H'=>∃ T v,H T=none/\x = .ref T/\H'=lP H T (.tup [.int i,v])/\∀ xs,Sq H a xs->xs[i]? = some v,fun i H=>∃ xs,Sq H a xs/\xs.length<=i⟩
theorem zbY {T:Addr} {a b:Value} (e:h.get? T=some { cls:=.type "tuple",data:=.seq #[a,b] }):IsTup h T ([a,b]:List Value).toArray:=⟨_,e,rfl,_,rfl⟩
theorem zaX:2<=sizeLine:=by rw [aW]; decide
theorem ziF {K:ah} {es:List Expr} (a it e:Addr) (hei:e≠it):Turn P w K #[Om] (zpg (lO K) a) [e,it] e (fun i h=>(∃ old,IsEnum h e it i old)/\h.IsListIter it a i) where
 mem:=by simp
 obj:=fun i h st b hb=>by
  obtain⟨⟨old,he⟩,o,ho,hc,hd⟩:=st;rcases aB.mp hb with z | z
  ·subst z;exact⟨_,he,fun v z=>by cases z⟩
  ·have z:b=it:=by simpa using z
   subst z;exact⟨o,ho,fun v z=>by rw [hd] at z; cases z⟩
 keep:=fun i h h' st kk=>⟨st.1.imp fun old he=>kk e #[M] _ he,st.2.at fun o eo=>kk it #[M] o eo⟩
 item:=by
  intro X hP hw hK hc i lN s σ H E I hf st hg;subst hP hw hK;obtain⟨xs,x,hq,hx⟩:=hg;obtain⟨⟨old,he⟩,hit⟩:=st;obtain⟨lQ,rv,p,hz⟩:=I.list hq;obtain⟨u,hu,ru⟩:=rv.get hx;have uq:e < s.heap.objs.size:=aF he;have hits:it < s.heap.objs.size:=by obtain⟨o,ho,_⟩:=hit; exact aF ho
  refine wpAny_pyNext_enum_item he hit p.isList (x:=u) (by simpa using hu) hei fun h' rY ur hT hsz kk=>?_
  have k1:∀ b o,b∉[e,it]->s.heap.get? b=some o->h'.get? b=some o:=fun b o hb eo=>kk b o (fun z=>hb (by simp [z])) (fun z=>hb (by simp [z])) eo
  have Af:∀ b∈[e,it],∃ o,h'.get? b=some o:=fun b hb=>by
   rcases aB.mp hb with z | z
   ·subst z; exact⟨_,rY⟩
   ·have z:b=it:=by simpa using z
    subst z;obtain⟨o,eo,_⟩:=ur;exact⟨o,eo⟩
  have I1:Inv X lN σ (lP H s.heap.objs.size (.tup [.int i,x])) { s with heap:=h',toks:=s.toks+1 } :=
   I.JO k1 hf Af (af _) ⟨zaX,_,.cons ⟨s.toks,rfl⟩ (.cons ru .nil),zbY hT⟩
  refine⟨_,rfl,ik rY fun xk uu oU=>?_⟩;have fr:∀ b∈[e,it],lP H s.heap.objs.size (.tup [.int i,x]) b=none:=fun b hb=>by
   have mh:b < s.heap.objs.size:=by
    rcases aB.mp hb with z | z
    ·subst z; exact uq
    ·have z:b=it:=by simpa using z
     subst z; exact hits
   rw [zn (a8 mh)];exact (hf b hb).1
  have I2:Inv X lN σ (lP H s.heap.objs.size (.tup [.int i,x])) { s with heap:=xk,toks:=s.toks+1 } :=
   Inv.Kd (s:={ s with heap:=h',toks:=s.toks+1 }) (ch:=[e]) (t':=s.toks+1) I1 (fun b o hb eo=>oU.extBut b o (by simpa using hb) eo) (fun b hb=>by
    have z:b=e:=by simpa using hb
    subst z;exact⟨fr b #[M],(hf b #[M]).2⟩) (fun b hb=>by
    have z:b=e:=by simpa using hb
    subst z;exact⟨_,uu⟩)
  refine⟨.ref s.heap.objs.size,_,I2,rfl,⟨_,x,I.fresh,rfl,rfl,fun ys hy=>by rw [I.Jp hy hq]; exact hx⟩,⟨⟨_,by simpa using uu⟩,ur.extBut oU.extBut (dq hei)⟩,fr⟩
 done:=by
  intro X hP hw hK hc i lN s σ H E I hf st hg;subst hP hw hK;obtain⟨xs,hq,hx⟩:=hg;obtain⟨⟨old,he⟩,hit⟩:=st;obtain⟨lQ,rv,p,hz⟩:=I.list hq;have hl:=rv.length;obtain⟨f0,f1,f2,f3,f4,f5⟩:=hf it #[M];exact wpAny_pyNext_enum_end #[Na] he hit p.isList (by simp; lia) fun h' eb=>#[sK]
 self:=fun _ _ _ _ _ st h=>by
  obtain⟨⟨old,he⟩,_⟩:=st;exact fY he h
noncomputable def iEn (Sq:Hp->Addr->List V->Prop) (ta:TA):TI:=fun σ H R=>ta σ H fun vs H1=>∃ a xs,vs = [.ref a]/\Sq H1 a xs/\R (zpg Sq a) H1
theorem zds {X:Cx} {es:List Expr} {k:Nat} {qF p pos:Pos} {a:Expr} {ta:TA} (hg:Gl X "enumerate") (hm:X.mg "enumerate" = none) (ha:PA X [a] ta) (hs:starEach [a] X.env = [#[KM]]:=by rfl) :
  PI X #[OE] (.Call (.Name "enumerate" p) [a] [] pos) (iEn #[RZ] ta):=by
 intro lN s σ H R I h;refine Call_ (zbr I hg hm boot_enumerate (bE (thn #[FM] fun us s1 ⟨vs,H1,I1,r1,q1⟩=>?_) hs rfl));obtain⟨l,xs,e,hq,q⟩:=q1;subst e;cases r1 with
 | cons r rr =>
  cases rr;cases r;obtain⟨lQ,rv,pl,hz⟩:=I1.list hq;refine call_enumerate_list pl.isList fun h' he hi hsz kk=>?_
  have I2:Inv X lN σ H1 { s1 with heap:=h' }:=I1.kept (t':=s1.toks) kk;refine fY he ?_; refine⟨_,[s1.heap.objs.size+1,s1.heap.objs.size],_,zpg #[RZ] l,H1,rfl,I2,ziF l s1.heap.objs.size (s1.heap.objs.size+1) (iJ _),⟨⟨_,he⟩,hi⟩,fun b hb=>?_,q⟩;have hle:s1.heap.objs.size<=b:=by
   rcases aB.mp hb with z | z
   ·rw [z]; exact g7 _
   ·have z:b=s1.heap.objs.size:=by simpa using z
    rw [z]; exact af _
  exact I1.KY hle #[NX]
noncomputable def zkl (rM rN:Hp->Addr->List V->Prop) (a b:Addr):It :=
 ⟨fun i H=>∃ xs ys x y,rM H a xs/\rN H b ys/\xs[i]? = some x/\ys[i]? = some y,
  fun i H x H'=>∃ T u v,H T=none/\x = .ref T/\H'=lP H T (.tup [u,v])/\(∀ xs,rM H a xs->xs[i]? = some u)/\∀ ys,rN H b ys->ys[i]? = some v,
  fun i H=>∃ xs ys,rM H a xs/\rN H b ys/\(xs.length<=i\/ys.length<=i)⟩
theorem zkm {K:ah} {es:List Expr} (a b:Addr) (n:Nat) (ha:a < n) (hb:b < n):Turn P w K #[Om] (zkl (lO K) (lO K) a b) [n+4,n+2,n+3,n,n+1] (n+4)
  (fun i h=>IsZip h (n+4) (n+2) (n+3) .none/\IsPair h (n+2) (.ref n) #[Q8]/\(∃ u v,IsPair h (n+3) u v)/\h.IsListIter n a i/\h.IsListIter (n+1) b i) where
 mem:=by simp
 obj:=fun i h st c hc=>by
  obtain⟨h1,h2,⟨u,v,h3⟩,⟨o4,e4,_,d4⟩,⟨o5,e5,_,d5⟩⟩:=st;simp only [aB,aY,or_false] at hc;rcases hc with z | z | z | z | z <;> subst z
  ·exact⟨_,h1,fun v z=>by cases z⟩
  ·exact⟨_,h2,fun v z=>by cases z⟩
  ·exact⟨_,h3,fun v z=>by cases z⟩
  ·exact⟨_,e4,fun v z=>by rw [d4] at z; cases z⟩
  ·exact⟨_,e5,fun v z=>by rw [d5] at z; cases z⟩
 keep:=fun i h h' st kk=>by
  obtain⟨h1,h2,⟨u,v,h3⟩,h4,h5⟩:=st;exact⟨kk _ #[M] _ h1,kk _ #[M] _ h2,#[Qv],h4.at fun o eo=>kk _ #[M] o eo,h5.at fun o eo=>kk _ #[M] o eo⟩
 item:=by
  intro X hP hw hK hc i lN s σ H E I hf st hg;subst hP hw hK;obtain⟨xs,ys,x,y,pQ,oA,hx,hy⟩:=hg;obtain⟨h1,h2,⟨u0,v0,h3⟩,h4,h5⟩:=st;obtain⟨mQ,rO,p1,qA⟩:=I.list pQ;obtain⟨mL,rZ,p2,rA⟩:=I.list oA;obtain⟨u,hu,ru⟩:=rO.get hx;obtain⟨v,hv,rv⟩:=rZ.get hy;have hzs:n+4 < s.heap.objs.size:=aF h1;refine wpAny_pyNext_zip_item #[PH] h1 h2 h3 h4 h5 p1.isList p2.isList (x:=u) (y:=v) (by simpa using hu) (by simpa using hv) fun h' a1 a2 a3 a4 a5 a6 kk=>?_
  have k1:∀ c o,c∉[n+4,n+3,n,n+1]->s.heap.get? c=some o->h'.get? c=some o:=fun c o lV eo =>
   kk c o (fun z=>lV (by simp [z])) (fun z=>lV (by simp [z])) (fun z=>lV (by simp [z])) (fun z=>lV (by simp [z])) eo
  have sub:∀ c∈[n+4,n+3,n,n+1],c∈[n+4,n+2,n+3,n,n+1]:=fun c lV=>by
   simp only [aB,aY,or_false] at lV |-;rcases lV with z | z | z | z <;> subst z <;> simp
  have Af:∀ c∈[n+4,n+3,n,n+1],∃ o,h'.get? c=some o:=fun c lV=>by
   simp only [aB,aY,or_false] at lV;rcases lV with z | z | z | z <;> subst z
   ·exact⟨_,a1⟩
   ·exact⟨_,a2⟩
   ·obtain⟨o,e,_⟩:=a3; exact⟨o,e⟩
   ·obtain⟨o,e,_⟩:=a4; exact⟨o,e⟩
  have I1:Inv X lN σ (lP H s.heap.objs.size (.tup [x,y])) { s with heap:=h' } :=
   I.JO (t':=s.toks) k1 (fun c lV=>hf c (sub c lV)) Af (af _) ⟨zaX,_,.cons ru (.cons rv .nil),zbY a5⟩
  refine⟨_,rfl,wpAny_letOwnedTupleGo_zip a1 fun xk wu oU=>?_⟩;have fr:∀ c∈[n+4,n+2,n+3,n,n+1],lP H s.heap.objs.size (.tup [x,y]) c=none:=fun c lV=>by
   have mh:c < s.heap.objs.size:=by
    simp only [aB,aY,or_false] at lV;rcases lV with z | z | z | z | z <;> subst z <;> lia
   rw [zn (a8 mh)];exact (hf c lV).1
  have I2:Inv X lN σ (lP H s.heap.objs.size (.tup [x,y])) { s with heap:=xk } :=
   Inv.Kd (s:={ s with heap:=h' }) (ch:=[n+4]) (t':=s.toks) I1 (fun c o lV eo=>oU.extBut c o (by simpa using lV) eo) (fun c lV=>by
    have z:c=n+4:=by simpa using lV
    subst z;exact⟨fr _ #[M],(hf _ #[M]).2⟩) (fun c lV=>by
    have z:c=n+4:=by simpa using lV
    subst z;exact⟨_,wu⟩)
  refine⟨.ref s.heap.objs.size,_,I2,rfl,⟨_,x,y,I.fresh,rfl,rfl,fun zs hz=>by rw [I.Jp hz pQ]; exact hx,fun zs hz=>by rw [I.Jp hz oA]; exact hy⟩,
   ⟨wu,oU.extBut _ _ #[PH].TIz (kk _ _ #[PH].TIz #[PH].TITO #[PH].TIi1 #[PH].TIi2 h2),⟨_,_,oU.extBut _ _ #[PH].TOz a2⟩,a3.extBut oU.extBut #[PH].i1z,a4.extBut oU.extBut #[PH].i2z⟩,fr⟩
 done:=by
  intro X hP hw hK hc i lN s σ H E I hf st hg;subst hP hw hK;obtain⟨xs,ys,pQ,oA,hx⟩:=hg;obtain⟨h1,h2,⟨u0,v0,h3⟩,h4,h5⟩:=st;obtain⟨mQ,rO,p1,qA⟩:=I.list pQ;obtain⟨mL,rZ,p2,rA⟩:=I.list oA;have pN:=rO.length;have oT:=rZ.length;refine wpAny_pyNext_zip_end #[Na] #[PH] h1 h2 h3 h4 h5 p1.isList p2.isList ?_ fun h' kk=>#[QE]
  ·rcases hx with z | z
   ·exact .inl (by simp; lia)
   ·exact .inr (by simp; lia)
  ·have hth:∀ c∈[n+4,n+3,n,n+1],c∈[n+4,n+2,n+3,n,n+1]:=fun c lV=>by
    simp only [aB,aY,or_false] at lV |-;rcases lV with z | z | z | z <;> subst z <;> simp
   refine I.step (g':=s.gens) (d':=s.drawn) (t':=s.toks) (ch:=[n+4,n+3,n,n+1]) #[R1] (fun c o _ _ mZ e _=>kk c o (fun z=>mZ (by simp [z])) (fun z=>mZ (by simp [z])) (fun z=>mZ (by simp [z])) (fun z=>mZ (by simp [z])) e)
    (fun c o _ _ mZ e _=>⟨o.slots,kk c o (fun z=>mZ (by simp [z])) (fun z=>mZ (by simp [z])) (fun z=>mZ (by simp [z])) (fun z=>mZ (by simp [z])) e⟩) #[NH]
    (fun c o mZ e=>⟨o,kk c o (fun z=>mZ (by simp [z])) (fun z=>mZ (by simp [z])) (fun z=>mZ (by simp [z])) (fun z=>mZ (by simp [z])) e⟩) #[Ot] #[NK] (fun c ps e=>⟨#[],by rw [e]; simp⟩) #[Os] #[Rr] I.bare
   ·obtain⟨_,a1,_,a3,a4,a5⟩:=hf c (hth c lV);exact⟨a3,a1,a4,a5⟩
   ·obtain⟨o,vT,ep,ho,r⟩:=hm;have ne:∀ c∈[n+4,n+2,n+3,n,n+1],X.env.locals≠c:=fun c lV=>dq (hf c lV).2.1
    exact⟨o,vT,ep,kk _ o (ne _ #[M]) (ne _ #[M]) (ne _ #[M]) (ne _ #[M]) ho,r⟩
   ·have tD:∀ d u',H d=some u'->∀ c∈[n+4,n+2,n+3,n,n+1],d≠c:=fun d u' e' c lV z=>by rw [z,(hf c lV).1] at e'; cases e'
    refine #[Si].KO (fun d v' hd q=>kk d v' ?_ ?_ ?_ ?_ q) #[Pj] fun _ _ q=>q
    all_goals
     rcases hd with z | z
     ·rw [z]; exact tD c u e _ #[M]
     ·exact tD d _ z _ #[M]
 self:=fun _ _ _ _ _ st h=>ge st.1 h
noncomputable def iZp (rM rN:Hp->Addr->List V->Prop) (ta:TA):TI:=fun σ H R=>ta σ H fun vs H1=>∃ a b xs ys,vs = [.ref a,.ref b]/\rM H1 a xs/\rN H1 b ys/\R (zkl rM rN a b) H1
theorem zeg {X:Cx} {es:List Expr} {k:Nat} {qF p pos:Pos} {a b:Expr} {ta:TA} (hg:Gl X "zip") (hm:X.mg "zip" = none) (ha:PA X [a,b] ta) (hs:starEach [a,b] X.env = [#[KM],#[Ev]]:=by rfl) (oB:starEach [b] X.env = [#[Ev]]:=by rfl) :
  PI X #[OE] (.Call (.Name "zip" p) [a,b] [] pos) (iZp #[RZ] #[RZ] ta):=by
 intro lN s σ H R I h;refine Call_ (zbr I hg hm kP (bE (thn #[FM] fun us s1 ⟨vs,H1,I1,r1,q1⟩=>?_) (by rw [hs,oB]) (by rw [oB]; rfl)));obtain⟨l1,l2,xs,ys,e,pQ,oA,q⟩:=q1;subst e;cases r1 with
 | cons r rr =>
  cases rr with
  | cons r' rr =>
   cases rr;cases r;cases r';obtain⟨mQ,rO,wx,qA⟩:=I1.list pQ;obtain⟨mL,rZ,xl,rA⟩:=I1.list oA;have qr:l1 < s1.heap.objs.size:=by obtain⟨_,_,e,_⟩:=wx; exact aF e
   have qt:l2 < s1.heap.objs.size:=by obtain⟨_,_,e,_⟩:=xl; exact aF e
   refine call_zip_2 wx.isList xl.isList fun h' b1 b2 b3 b4 b5 b6 kk=>?_
   have I2:Inv X lN σ H1 { s1 with heap:=h' }:=I1.kept (t':=s1.toks) kk;refine ge b1 ?_;refine⟨_,_,_,zkl #[RZ] #[RZ] l1 l2,H1,rfl,I2,zkm l1 l2 s1.heap.objs.size qr qt,⟨b1,b2,⟨_,_,b3⟩,b4,b5⟩,fun c hc=>?_,q⟩;have hle:s1.heap.objs.size<=c:=by
    simp only [aB,aY,or_false] at hc;rcases hc with z | z | z | z | z <;> subst z <;> lia
   exact I1.KY hle #[NX]
noncomputable def zhn (Sq:Hp->Addr->List V->Prop) (a:Addr) (n:Nat):It :=
 ⟨fun i H=>i < n/\∃ xs,Sq H a xs/\xs.length=n,fun i H x H'=>H'=H/\∀ xs,Sq H a xs->xs[n - 1 - i]? = some x,fun i H=>n<=i⟩
theorem zkn {K:ah} (a it:Addr) (n:Nat):Turn P w K tg (zhn (lO K) a n) [it] it (fun i h=>i<=n/\h.IsRevIter it a ((n:Int) - 1 - (i:Int))) where
 mem:=by simp
 obj:=fun i h st b hb=>by
  have z:b=it:=by simpa using hb
  subst z;obtain⟨_,o,e,c,d⟩:=st;exact⟨o,e,fun v z=>by rw [d] at z; cases z⟩
 keep:=fun i h h' st k=>⟨st.1,st.2.at fun o e=>k it #[M] o e⟩
 item:=by
  intro X hP hw hK hc i lN s σ H E I hf st hg;subst hP hw hK;obtain⟨qk,xs,hq,hl⟩:=hg;obtain⟨lQ,rv,p,hz⟩:=I.list hq;have lT:=rv.length;obtain⟨x,hx⟩:∃ x,xs[n - 1 - i]? = some x:=⟨xs[n - 1 - i]'#[O],#[M]⟩;obtain⟨u,hu,ru⟩:=rv.get hx;obtain⟨f0,f1,f2,f3,f4,f5⟩:=hf it #[M];have e:(n:Int) - 1 - (i:Int)=((n - 1 - i:Nat):Int):=by lia
  have hit:=st.2;rw [e] at hit;refine wpAny_pyNext_rev_item hit p.isList (x:=u) (by simpa using hu) fun h' lS sb=>?_
  have I1:Inv X lN σ H { s with heap:=h' }:=I.turned (t':=s.toks) (fun b o hb e=>(sb.2 b hb).trans e) f0 f1 f3 f4 f5;have e2:((n - 1 - i:Nat):Int) - 1=(n:Int) - 1 - ((i+1:Nat):Int):=by lia
  rw [e2] at lS;obtain⟨o,eo,c,d⟩:=id lS;exact⟨u,rfl,zfy (s:={ s with heap:=h' }) eo c d #[D] ⟨x,H,I1,ru,⟨rfl,fun ys hy=>by rw [I.Jp hy hq]; exact hx⟩,⟨qk,lS⟩,fun b hb=>(hf b hb).1⟩⟩
 done:=by
  intro X hP hw hK hc i lN s σ H E I hf st hg;subst hP hw hK;obtain⟨f0,f1,f2,f3,f4,f5⟩:=hf it #[M];have qk:n<=i:=hg;have e:(n:Int) - 1 - (i:Int) = -1:=by have:=st.1; lia
  have hit:=st.2;rw [e] at hit;exact wpAny_pyNext_rev_end #[Na] hit fun h' eb=>#[sK]
 self:=fun _ _ _ _ _ st h=>jB st.2 h
end L2
end
section
namespace PySem
namespace F
theorem zfL:Manifest.owners.lookup (String.ofList ['d','e','s','r','e','v','e','r'].reverse)=some Manifest.sig_reversed:=by kernel_rfl
theorem IQ:Slot "reversed" "__next__" "reversed.__next__" :=
 .of (owner:="reversed") (n:="__next__") (by rw [d8,cU]; kernel_rfl) #[N] #[N] #[N] (by first | exact .inl #[N] | exact .inr #[N]) (by rw [dQ]; kernel_rfl)
theorem JI:entryFor table "reversed.__next__" = some Builtin.«reversed.__next__»:=entryFor_of_tree (by kernel_rfl)
theorem JA (a:Value):argsOk "reversed.__next__" ⟨[a],[]⟩:=by
 unfold argsOk; rw [signature?_of (id:="reversed.__next__") (n:=['_','_','t','x','e','n','_','_']) (o:=['d','e','s','r','e','v','e','r']) (by kernel_rfl) zfL]; kernel_rfl
theorem JQ:Slot "reversed" "__iter__" "reversed.__iter__" :=
 .of (owner:="reversed") (n:="__iter__") (by rw [d8,cU]; kernel_rfl) #[N] #[N] #[N] (by first | exact .inl #[N] | exact .inr #[N]) (by rw [dQ]; kernel_rfl)
theorem Kn (a:Value):argsOk "reversed.__iter__" ⟨[a],[]⟩:=by
 unfold argsOk; rw [signature?_of (id:="reversed.__iter__") (n:=['_','_','r','e','t','i','_','_']) (o:=['d','e','s','r','e','v','e','r']) (by kernel_rfl) zfL]; kernel_rfl
theorem Kr:entryFor table "reversed.__iter__" = some Builtin.«dict_keyiterator.__iter__»:=entryFor_alias (id':="dict_keyiterator.__iter__") (by kernel_rfl) (by first | rfl | decide +kernel | (unfold String.splitOn; simp +decide [String.splitOnAux])) #[N] (by kernel_rfl)
theorem zfj:Slot "reversed" "__init__" "object.__init__":=.of (owner:="object") (n:="__init__") (by rw [d8,cU]; kernel_rfl) #[N] #[N] #[N] (by first | exact .inl #[N] | exact .inr #[N]) (by rw [dQ]; kernel_rfl)
theorem Li:TypeCalled "reversed" "reversed.__new__" "object.__init__" :=
 ⟨#[N],#[N],⟨_,_,mro_reversed⟩,made_reversed,#[N],by rw [dQ]; kernel_rfl,zfj⟩
theorem K0:typeLookup (.type "tuple") "__reversed__" = pure none:=by rw [d8,cU]; kernel_rfl
end F
noncomputable def zgi (l:Addr) (i:Int):Obj:={ cls:=.type "reversed",data:=.fields #[.ref l,rawInt i] }
noncomputable def Heap.Ko (h:Heap) (a l:Addr) (i:Int):Prop:=∃ o,h.get? a=some o/\o.cls = .type "reversed"/\o.data = .fields #[.ref l,rawInt i]
theorem Heap.Ko.typeIs {s:Shared} {a l:Addr} {i:Int} (x:s.heap.Ko a l i):s.TypeIs #[M8] "reversed":=let ⟨o,ho,hc,_⟩:=x; ⟨o,ho,hc⟩
theorem Heap.Ko.at {h h':Heap} {a l:Addr} {i:Int} (x:h.Ko a l i) (e:∀ o,h.get? a=some o->h'.get? a=some o):h'.Ko a l i:=let ⟨o,ho,r⟩:=x; ⟨o,e _ ho,r⟩
open PyProof.Rows in
theorem zfk (l:Addr) (items:Array Value) :
  Meets (Builtin.«reversed.__new__» ⟨[.type "reversed",.ref l],[]⟩) (fun _ R s=>IsTup s.heap l items/\(items.size:Int) < 2 ^ 63 /\
   R (.ok (.ret #[ss])) { s with heap:=s.heap.push (zgi l ((items.size:Int) - 1)),toks:=s.toks+1+1 }) :=
 .of_wp fun prog w A R s h=>by
  obtain⟨hl,hsz,h⟩:=h;unfold Builtin.«reversed.__new__»; refine ae (dW (newClass_reversed _) ?_)
  try dsimp only
  iterate 2 refine ae (dW (a:=()) (by first | rfl | kernel_rfl) ?_)
  try dsimp only
  refine ae (gt hl.typeIs F.K0 ?_)
  try dsimp only
  refine ae (ae (m:=isInstance #[Nv] (.type "dict")) (fe hl.typeIs F.sub_tuple_dict ?_));simp only [bA,if_false]; refine ae (m:=specialOf #[Nv] "__getitem__") #[PC];refine ao ?_
  try dsimp only
  try simp only [Bool.not_true,bA,if_false]
  refine ae (len_tuple hl hsz ?_);refine ae (m:=asInt? _) (dW (a:=some (items.size:Int)) rfl ?_)
  try dsimp only
  refine ae (m:=lx _ _) ?_;show wpAny _ _ (newObj (.type "reversed") (.fields #[.ref l,rawInt ((items.size:Int) - 1)]) none) _ _ _;refine cI ?_;exact ao ⟨_,rfl,h⟩
section
variable {prog:Program} {w:World} {A:Around} {E:Value->Shared->Prop} {s:Shared}
open PyProof.Rows
theorem zeD {l:Addr} {items:Array Value} {Q:Value->Shared->Prop} (hl:IsTup s.heap l items) (hsz:(items.size:Int) < 2 ^ 63)
  (h:Q #[ss] { s with heap:=s.heap.push (zgi l ((items.size:Int) - 1)),toks:=s.toks+1+1 }):wpAny #[pc] A (call (.type "reversed") [.ref l]) Q E s:=by
 refine j5 F.Li #[D] (F.typeCall_reversed_1 _) (F.newCall_reversed_1 _) (fun obj=>jC obj _) F.entry_reversed_new (zfk l items) ⟨hl,hsz,?_⟩; exact⟨⟨_,aE _ rfl,rfl⟩,h⟩
theorem zcL {it l:Addr} {i:Nat} {items:Array Value} {x:Value} {Q:Option Value->Shared->Prop} (hit:s.heap.Ko it l (i:Int)) (hl:IsTup s.heap l items) (hx:items[i]? = some x) (hi:(i:Int) < 2 ^ 62)
  (hQ:∀ h',h'.Ko it l ((i:Int) - 1)->bv it s.heap h'->Q (some x) { s with heap:=h',toks:=s.toks+1 }):wpAny #[pc] A #[PB] Q E s:=by
 obtain⟨o,ho,hc,hd⟩:=id hit; unfold pyNext;refine ae (dk (bK (name:=bD "__next__") hit.typeIs F.IQ
  (bS F.IQ hit.typeIs F.JI ?_ (F.JA _))))
 unfold Builtin.«reversed.__next__»;refine ae (dW (a:=(aX it,[])) rfl ?_); try dsimp only
 refine ae #[Te]; refine ae (bP ho hd (x:=rawInt (i:Int)) rfl ?_);show wpAny _ _ (if (i:Int) < 0 then _ else _) _ _ s; rw [if_neg #[O]];refine ae #[PC]
 try simp only [Option.isNone_some,bA,if_false]
 refine ae (wpAny_mkInt ?_); have mh:i < items.size:=by
  obtain⟨h1,_⟩:=dm.mp hx;exact h1
 refine ae (dk (jI (j:=i) hl #[O] #[O] (by rw [gZ #[O] #[O]]; simp) hx ?_))
 try dsimp only
 refine ae (bP (s:={ s with toks:=s.toks+1 }) ho hd (x:=rawInt (i:Int)) rfl ?_);show wpAny _ _ (setField #[NA] 1 (rawInt ((i:Int) - 1)) >>= _) _ _ _;refine ae (et (s:={ s with toks:=s.toks+1 }) ho hd #[M] (ao ⟨x,rfl,ao (hQ _ ?_ (da ..))⟩));exact⟨_,d7 _ ho (eQ (du hd _)),(iz ..).trans hc,by rw [du hd]; simp⟩
theorem zcN {it l:Addr} {Q:Option Value->Shared->Prop} (hh:A.handled=none) (hit:s.heap.Ko it l (-1)) (hQ:∀ h',kD it s.heap h'->Q none { s with heap:=h' }):wpAny #[pc] A #[PB] Q E s:=by
 obtain⟨o,ho,hc,hd⟩:=id hit; unfold pyNext;refine ae (dk (bK (name:=bD "__next__") hit.typeIs F.IQ
  (bS F.IQ hit.typeIs F.JI ?_ (F.JA _))))
 unfold Builtin.«reversed.__next__»;refine ae (dW (a:=(aX it,[])) rfl ?_); try dsimp only
 refine ae #[Te]; refine ae (bP ho hd (x:=rawInt (-1)) rfl ?_);show wpAny _ _ (if (-1:Int) < 0 then _ else _) _ _ s; rw [if_pos #[D]];refine ae (cF ?_);refine ae (ae (m:=setField #[NA] 1 (rawInt (-1))) #[P3]);have hd2:=du hd (·.setIfInBounds 1 (rawInt (-1)));have Bm:=d7 (il (·.setIfInBounds 1 (rawInt (-1)))) ho (eQ hd2);refine et Bm hd2 #[M] ?_
 try dsimp only
 refine ae ?_; show wpAny _ _ (newExc (.type "StopIteration") [] >>= _) _ _ _;refine ae ?_;simp only [newExc,newTuple];refine ae (cI ?_ (by size_fits)); refine ae (m:=firstArgMember _ _) (dW (a:=dg) (by first | rfl | (simp only [firstArgMember]; rfl)) ?_);refine cI ?_ (by size_fits); simp only [raiseNew];refine ae (jJ ?_); first | rw [show A.in1.handled=none from hh] | rw [hh]
 refine ae (ao (kE ?_)); refine ae (fe (T:="StopIteration") (b:=true) ⟨_,aE _ rfl,rfl⟩ gP ?_);exact ao (hQ _ ((((da ..).extBut.trans (da ..).extBut).push _).push _))
theorem zcj {it l:Addr} {i:Int} {Q:Value->Shared->Prop} (hit:s.heap.Ko it l i) (h:Q #[NA] s):wpAny #[pc] A (pyIter #[NA]) Q E s:=by
 refine iA hit.typeIs F.JQ (bS F.JQ hit.typeIs F.Kr ?_ (F.Kn _));show wpAny _ _ (ret #[NA]) _ _ s; exact ao ⟨_,rfl,"reversed",_,hit.typeIs,F.IQ.lookup,h⟩
end
section
variable {prog:Program} {w:World} {A:Around} {E:Value->Shared->Prop} {s:Shared}
theorem zho {it t:Addr} {i:Nat} {items:Array Value} {x:Value} {Q:Value->Shared->Prop} (hit:s.heap.IsTupleIter it t i) (ht:s.heap.IsTuple t items) (hx:items[i]? = some x)
  (hQ:∀ h',h'.IsTupleIter it t (i+1)->bv it s.heap h'->Q x { s with heap:=h' }):wpAny #[pc] A (bn #[NA]) Q E s:=by
 obtain⟨o,ho,hc,hd⟩:=id hit; obtain⟨ot,xH,_,nt,Fy⟩:=ht;unfold bn; refine ae (bK (name:=bD "__next__") hit.typeIs d9 #[RW]);show wpAny _ _ (field #[NA] 0 >>= _) _ _ s; refine ae #[Td]; show wpAny _ _ (if (aX t == dg)=true then _ else _) _ _ _; rw [if_neg (by exact aQ)];refine ae #[Ss]; refine ae (m:=seqItems? _) (dv xH Fy ?_); simp only [bh,hx];have hn:=d7 (il (·.setIfInBounds 1 (rawInt ((i+1:Nat):Int)))) ho (eQ (du hd _));refine ae (et ho hd #[M] (ao ⟨x,rfl,ao (hQ _ ⟨_,hn,(iz ..).trans hc,?_⟩ (da ..))⟩)); rw [du hd]; simp [rawInt]
theorem zhp {it t:Addr} {i:Nat} {items:Array Value} {Q:Value->Shared->Prop} (hh:A.handled=none) (hit:s.heap.IsTupleIter it t i) (ht:s.heap.IsTuple t items) (hx:items[i]? = none)
  (hE:∀ h' e,kD it s.heap h'->(∃ o,h'.get? e=some o/\o.cls = .type "StopIteration")->E #[Q4] { s with heap:=h' }):wpAny #[pc] A (bn #[NA]) Q E s:=by
 obtain⟨o,ho,hc,hd⟩:=id hit; obtain⟨ot,xH,_,nt,Fy⟩:=ht;unfold bn; refine ae (bK (name:=bD "__next__") hit.typeIs d9 #[RW]);show wpAny _ _ (field #[NA] 0 >>= _) _ _ s; refine ae #[Td]; show wpAny _ _ (if (aX t == dg)=true then _ else _) _ _ _; rw [if_neg (by exact aQ)];refine ae #[Ss]; refine ae (m:=seqItems? _) (dv xH Fy ?_); simp only [bh,hx];refine ae (cF (ae #[P3])); show wpAny _ _ (newExc (.type "StopIteration") [] >>= _) _ _ _; refine ae ?_;simp only [newExc,newTuple]; refine ae (cI ?_ (by size_fits)); refine ae (m:=firstArgMember _ _) (dW (a:=dg) (by first | rfl | (simp only [firstArgMember]; rfl)) ?_);refine cI ?_ (by size_fits); simp only [raiseNew]; refine ae (jJ ?_); first | rw [show A.in1.handled=none from hh] | rw [hh]
 refine ae (ao (kE ?_)); exact hE _ _ (((da ..).extBut.push _).push _) ⟨_,aE _ rfl,rfl⟩
end
theorem Draws.tuple {prog:Program} {w:World} {A:Around} (hh:A.handled=none) (it t:Addr) (m5:t≠it) (items:Array Value):Draws prog w A it [it,t] items.size (fun i v=>items[i]? = some v) (fun i h=>h.IsTupleIter it t i/\h.IsTuple t items) where
 live:=fun i h st=>st.1.imp fun o r=>r.1
 frame:=fun i h h' st kk=>⟨st.1.at fun o=>kk it #[M] o,st.2.at fun o=>kk t #[M] o⟩
 item:=fun i s Q E hi st hQ=>zho st.1 st.2 (x:=items[i]) (by simp [hi]) fun h' a b=>hQ _ h' s.toks (by simp [hi]) ⟨a,st.2.extBut b.extBut m5⟩ b
 done:=fun s Q E st hE=>zhp hh st.1 st.2 #[M] hE
noncomputable def zcH (t:Addr):Obj:={ cls:=.type "tuple_iterator",data:=.fields #[.ref t,.int 0 0] }
noncomputable def zls (it:Addr):Obj:={ cls:=.type "enumerate",data:=.fields #[.none,.bool false,.ref it,rawInt 0,.none,.none] }
end PySem
namespace L2
open PySem PySem.Spec PyProof.Rows
variable {H H1:Hp} {P:Program} {R:It->Hp->Prop} {X:Cx} {j:Nat} {lN:List (Addr×Obj)} {ms ns:List Int} {s1:Shared} {tg:Expr} {us:List Value} {w:World}
theorem zko {K:ah} (a it:Addr) (n:Nat):Turn P w K tg (zhn (lY K) a n) [it] it (fun i h=>i<=n/\h.Ko it a ((n:Int) - 1 - (i:Int))) where
 mem:=by simp
 obj:=fun i h st b hb=>by
  have z:b=it:=by simpa using hb
  subst z;obtain⟨_,o,e,c,d⟩:=st;exact⟨o,e,fun v z=>by rw [d] at z; cases z⟩
 keep:=fun i h h' st k=>⟨st.1,st.2.at fun o e=>k it #[M] o e⟩
 item:=by
  intro X hP hw hK hc i lN s σ H E I hf st hg;subst hP hw hK;obtain⟨qk,xs,hq,hl⟩:=hg;obtain⟨lQ,rv,p,hz⟩:=I.tuple hq;have lT:=rv.length;have pO:=aW;obtain⟨x,hx⟩:∃ x,xs[n - 1 - i]? = some x:=⟨xs[n - 1 - i]'#[O],#[M]⟩;obtain⟨u,hu,ru⟩:=rv.get hx;obtain⟨f0,f1,f2,f3,f4,f5⟩:=hf it #[M];have e:(n:Int) - 1 - (i:Int)=((n - 1 - i:Nat):Int):=by lia
  have hit:=st.2;rw [e] at hit;refine zcL hit p (x:=u) (by simpa using hu) #[O] fun h' lS sb=>?_
  have I1:Inv X lN σ H { s with heap:=h',toks:=s.toks+1 }:=I.turned (t':=s.toks+1) (fun b o hb e=>(sb.2 b hb).trans e) f0 f1 f3 f4 f5;have e2:((n - 1 - i:Nat):Int) - 1=(n:Int) - 1 - ((i+1:Nat):Int):=by lia
  rw [e2] at lS;obtain⟨o,eo,c,d⟩:=id lS;exact⟨u,rfl,zfy (s:={ s with heap:=h',toks:=s.toks+1 }) eo c d #[D] ⟨x,H,I1,ru,⟨rfl,fun ys hy=>by rw [I.JP hy hq]; exact hx⟩,⟨qk,lS⟩,fun b hb=>(hf b hb).1⟩⟩
 done:=by
  intro X hP hw hK hc i lN s σ H E I hf st hg;subst hP hw hK;obtain⟨f0,f1,f2,f3,f4,f5⟩:=hf it #[M];have qk:n<=i:=hg;have e:(n:Int) - 1 - (i:Int) = -1:=by have:=st.1; lia
  have hit:=st.2;rw [e] at hit;exact zcN #[Na] hit fun h' eb=>#[sK]
 self:=fun _ _ _ _ _ st h=>zcj st.2 h
theorem zgj {σ:St} {l:Addr} {xs:List V} (I1:Inv X lN σ H1 s1) (hq:lY X.K H1 l xs) (q:R (zhn (lY X.K) l xs.length) H1) :
  wpAny #[o0] X.A (call (.type "reversed") [.ref l]) #[Oz] X.xe s1:=by
 obtain⟨lQ,rv,pl,hz⟩:=I1.tuple hq;have lT:=rv.length;have pO:=aW;refine zeD pl (by rw [aq]; lia) ?_;have I2:Inv X lN σ H1 { s1 with heap:=s1.heap.push (zgi l ((lQ.toArray.size:Int) - 1)),toks:=s1.toks+1+1 }:=I1.kept fun b o e=>ai _ e
 have hr:(s1.heap.push (zgi l ((lQ.toArray.size:Int) - 1))).Ko s1.heap.objs.size l ((xs.length:Int) - 1 - ((0:Nat):Int)):=by
  refine⟨_,aE _ rfl,rfl,?_⟩;have e1:(lQ.toArray.size:Int) - 1=(xs.length:Int) - 1 - ((0:Nat):Int):=by rw [aq,lT]; lia
  show kC #[.ref l,rawInt ((lQ.toArray.size:Int) - 1)]=_;rw [e1]
 refine zcj hr ?_;refine⟨_,[s1.heap.objs.size],_,zhn (lY X.K) l xs.length,H1,rfl,I2,zko l s1.heap.objs.size xs.length,⟨bg _,hr⟩,fun b hb=>?_,q⟩;have z:b=s1.heap.objs.size:=by simpa using hb
 subst z;exact I1.KY (af _) #[Ni]
theorem zhq {σ:St} {l:Addr} {xs:List V} (I1:Inv X lN σ H1 s1) (hq:lO X.K H1 l xs) (q:R (zhn #[RZ] l xs.length) H1) :
  wpAny #[o0] X.A (call (.type "reversed") [.ref l]) #[Oz] X.xe s1:=by
 obtain⟨lQ,rv,pl,hz⟩:=I1.list hq;have lT:=rv.length;refine call_reversed_list pl.isList ?_;have I2:Inv X lN σ H1 { s1 with heap:=s1.heap.push (revObj l ((lQ.toArray.size:Int) - 1)) }:=I1.kept (t':=s1.toks) fun b o e=>ai _ e
 have hr:(s1.heap.push (revObj l ((lQ.toArray.size:Int) - 1))).IsRevIter s1.heap.objs.size l ((xs.length:Int) - 1 - ((0:Nat):Int)):=by
  refine⟨_,aE _ rfl,rfl,?_⟩;have e1:(lQ.toArray.size:Int) - 1=(xs.length:Int) - 1 - ((0:Nat):Int):=by rw [aq,lT]; lia
  show kC #[.ref l,rawInt ((lQ.toArray.size:Int) - 1)]=_;rw [e1]
 refine jB hr ?_;refine⟨_,[s1.heap.objs.size],_,zhn #[RZ] l xs.length,H1,rfl,I2,zkn l s1.heap.objs.size xs.length,⟨bg _,hr⟩,fun b hb=>?_,q⟩;have z:b=s1.heap.objs.size:=by simpa using hb
 subst z;exact I1.KY (af _) #[Ni]
noncomputable def zqR (K:ah) (ta:TA):TI:=fun σ H R=>ta σ H fun vs H1=>∃ a xs,vs = [.ref a]/\((lO K H1 a xs/\R (zhn (lO K) a xs.length) H1)\/(lY K H1 a xs/\R (zhn (lY K) a xs.length) H1))
theorem zph {X:Cx} {tg:Expr} {p pos:Pos} {a:Expr} {ta:TA} (hg:Gl X "reversed") (hm:X.mg "reversed" = none) (ha:PA X [a] ta) (hs:starEach [a] X.env = [#[KM]]:=by rfl) :
  PI X tg (.Call (.Name "reversed" p) [a] [] pos) (zqR X.K ta):=by
 intro lN s σ H R I h;refine Call_ (zbr I hg hm boot_reversed (bE (thn #[FM] fun us s1 ⟨vs,H1,I1,r1,q1⟩=>?_) hs rfl));obtain⟨l,xs,e,hq⟩:=q1;subst e;cases r1 with
 | cons r rr =>
  cases rr;cases r;rcases hq with ⟨hq,q⟩ | ⟨hq,q⟩
  ·exact zhq I1 hq q
  ·exact zgj I1 hq q
inductive EqD (K:ah) (H:Hp):Nat->V->V->Bool->Prop where
 | flat {d:Nat} {x y:V} (hx:zfH x=true) (hy:zfH y=true):EqD K H d x y (eqV x y)
 | same {d:Nat} {a:Addr}:EqD K H d #[M8] #[M8] true
 | lists {d:Nat} {a b:Addr} {xs ys:List V} {e:Nat->Bool} (m5:a≠b) (ha:lO K H a xs) (hb:lO K H b ys) (hl:xs.length=ys.length)
   (he:∀ (j:Nat) x y,xs[j]? = some x->ys[j]? = some y->EqD K H d x y (e j)):EqD K H (d+1) #[M8] #[Ql] (#[RA].all e)
 | lens {d:Nat} {a b:Addr} {xs ys:List V} (m5:a≠b) (ha:lO K H a xs) (hb:lO K H b ys) (hl:xs.length≠ys.length):EqD K H (d+1) #[M8] #[Ql] false
 | La {d:Nat} {a b:Addr} {xs ys:List V} {e:Nat->Bool} (m5:a≠b) (ha:lY K H a xs) (hb:lY K H b ys)
   (he:∀ (j:Nat) x y,xs[j]? = some x->ys[j]? = some y->EqD K H d x y (e j)):EqD K H (d+1) #[M8] #[Ql] ((aN #[Tb]).all e && xs.length == ys.length)
theorem zU.LB {xs:List V} (r:zU xs us) (h:j < us.toArray.size):∃ x,xs[j]? = some x/\RelV x us.toArray[j]:=by
 have hl:=r.length;have hj:j < xs.length:=by rw [hl]; simpa using h
 obtain⟨u,hu,ru⟩:=r.get (i:=j) (x:=xs[j]) #[M];refine⟨xs[j],#[M],?_⟩;have:us.toArray[j]=u:=by
  have h2:j < us.length:=by simpa using h
  rw [ag h2] at hu;simpa using aS hu
 rw [this];exact ru
theorem EqD.at {X:Cx} {lN:List (Addr×Obj)} {σ:St} {H:Hp} {s:Shared} (I:Inv X lN σ H s) {d:Nat} {x y:V} {b:Bool} (h:EqD X.K H d x y b) :
  ∀ (A:Around) (u v:Value),RelV x u->RelV y v->A.units+d < cLine->SeqAt.EqAt A s u v b:=by
 induction h with
 | flat hx hy=>exact fun A u v rx ry _=>zo8 rx ry hx hy
 | same=>intro A u v rx ry _; cases rx; cases ry; exact k9 _
 | lists m5 ha hb hl he ih =>
  intro A u v rx ry hu;cases rx; cases ry;obtain⟨Ag,r1,p1,_⟩:=I.list ha;obtain⟨Ah,r2,p2,_⟩:=I.list hb;have l1:=r1.length;have l2:=r2.length;refine hU m5 ?_;have q:=SeqAt.RcAt.lists (A:=A) p1.isList p2.isList (by simp only [aq]; lia) #[O] fun j h1 h2=>by
   obtain⟨x,hx,rx⟩:=r1.LB h1;obtain⟨y,hy,ry⟩:=r2.LB h2;exact ih j x y hx hy A.in1 _ _ rx ry (by simp only [dn]; lia)
  rw [aq,<- l1] at q;exact q
 | lens m5 ha hb hl =>
  intro A u v rx ry hu;cases rx; cases ry;obtain⟨Ag,r1,p1,_⟩:=I.list ha;obtain⟨Ah,r2,p2,_⟩:=I.list hb;have l1:=r1.length;have l2:=r2.length;exact hU m5 (SeqAt.RcAt.lists_lengths p1.isList p2.isList (by simp only [aq,bne_iff_ne]; lia) #[O])
 | La m5 ha hb he ih =>
  intro A u v rx ry hu;cases rx; cases ry;obtain⟨Ag,r1,p1,_⟩:=I.tuple ha;obtain⟨Ah,r2,p2,_⟩:=I.tuple hb;have l1:=r1.length;have l2:=r2.length;refine hU m5 ?_;have q:=SeqAt.RcAt.tuples (A:=A) (s:=s) p1 p2 #[O] fun j h1 h2=>by
   obtain⟨x,hx,rx⟩:=r1.LB h1;obtain⟨y,hy,ry⟩:=r2.LB h2;exact ih j x y hx hy A.in1 _ _ rx ry (by simp only [dn]; lia)
  rw [aq,aq,<- l1,<- l2] at q;exact q
noncomputable def zpi (K:ah) (neg:Bool):R2:=fun x y H Q=>∃ a b xs ys,x = .ref a/\y = .ref b/\((lO K H a xs/\lO K H b ys)\/(lY K H a xs/\lY K H b ys)) /\
 ((xs.length≠ys.length/\(∀ (j:Nat) x y,xs[j]? = some x->ys[j]? = some y->∃ c,EqD K H 8 x y c)/\Q (.bl neg) H) \/
  (xs.length=ys.length/\∃ e:Nat->Bool,(∀ (j:Nat) x y,xs[j]? = some x->ys[j]? = some y->EqD K H 8 x y (e j))/\Q (.bl (if neg then !#[RA].all e else #[RA].all e)) H))
theorem zgk {X:Cx} (hu:X.A.units+20 < cLine):OpR X (compareOp .NotEq) (zpi X.K true):=by
 intro lN s σ H x y v u Q I rx ry h;obtain⟨a,b,xs,ys,rfl,rfl,hk,h⟩:=h;cases rx; cases ry;rcases hk with ⟨ha,hb⟩ | ⟨ha,hb⟩
 ·obtain⟨Ag,r1,p1,_⟩:=I.list ha;obtain⟨Ah,r2,p2,_⟩:=I.list hb;have l1:=r1.length;have l2:=r2.length;rcases h with ⟨hl,_,q⟩ | ⟨hl,e,he,q⟩
  ·exact SeqAt.RcNeAt.lists_lengths p1.isList p2.isList (by simp only [aq,bne_iff_ne]; lia) #[O] _ _ _ _ ⟨.bl true,H,I,rfl,q⟩
  ·refine SeqAt.RcNeAt.lists p1.isList p2.isList (e:=e) (by simp only [aq]; lia) #[O] #[SK] _ _ _ _ #[Pq]
   ·obtain⟨x,hx,rx⟩:=r1.LB h1;obtain⟨y,hy,ry⟩:=r2.LB h2;exact (he j x y hx hy).at I _ _ _ rx ry (by simp only [dn]; lia)
   ·rw [aq,<- l1];exact q
 ·obtain⟨Ag,r1,p1,_⟩:=I.tuple ha;obtain⟨Ah,r2,p2,_⟩:=I.tuple hb;have l1:=r1.length;have l2:=r2.length;rcases h with ⟨hl,he,q⟩ | ⟨hl,e,he,q⟩
  ·have Ai:∀ j:Nat,∃ c:Bool,∀ x y,xs[j]? = some x->ys[j]? = some y->EqD X.K H 8 x y c:=fun j=>by
    cases hx:xs[j]? with
    | none=>exact⟨true,fun x y z=>by cases z⟩
    | some x =>
     cases hy:ys[j]? with
     | none=>exact⟨true,fun x y _ z=>by cases z⟩
     | some y =>
      obtain⟨c,hc⟩:=he j x y hx hy;exact⟨c,fun x' y' z1 z2=>by cases z1; cases z2; exact hc⟩
   obtain⟨e,uu⟩:=Classical.axiomOfChoice Ai;refine jR (s:=s) p1 p2 (e:=e) #[O] #[SK] _ _ _ _ #[Pq]
   ·obtain⟨x,hx,rx⟩:=r1.LB h1;obtain⟨y,hy,ry⟩:=r2.LB h2;exact (uu j x y hx hy).at I _ _ _ rx ry (by simp only [dn]; lia)
   ·have wy:(Ag.toArray.size == Ah.toArray.size)=false:=by
     rw [aq,aq]; exact beq_eq_false_iff_ne.mpr #[O]
    rw [wy,ly];exact q
  ·refine jR (s:=s) p1 p2 (e:=e) #[O] #[SK] _ _ _ _ #[Pq]
   ·obtain⟨x,hx,rx⟩:=r1.LB h1;obtain⟨y,hy,ry⟩:=r2.LB h2;exact (he j x y hx hy).at I _ _ _ rx ry (by simp only [dn]; lia)
   ·have wy:(Ag.toArray.size == Ah.toArray.size)=true:=by
     rw [aq,aq]; exact beq_iff_eq.mpr #[O]
    have Fz:min Ag.toArray.size Ah.toArray.size=xs.length:=by rw [aq,aq]; lia
    rw [wy,Bool.and_true,Fz];exact q
theorem zlu {K:ah} :∀ (j:Nat) x y,#[Nd][j]? = some x->#[xz][j]? = some y->EqD K H 8 x y ((fun j=>decide (ms[j]? = ns[j]?)) j):=fun j x y hx hy=>by
 rw [aj] at hx hy;cases h1:ms[j]? with
 | none=>rw [h1] at hx; cases hx
 | some m =>
  cases h2:ns[j]? with
  | none=>rw [h2] at hy; cases hy
  | some n =>
   rw [h1] at hx; rw [h2] at hy;cases hx; cases hy;have e:eqV (.int m) (.int n)=decide (some m=some n):=by
    show (m == n)=_;rw [cL]; simp
   show EqD K H 8 (.int m) (.int n) (decide (ms[j]? = ns[j]?));rw [h1,h2,<- e];exact EqD.flat rfl rfl
theorem zhr {X:Cx}:zbG X (.type "range") (fun xs H Q=>∃ j:Int,xs = [.int j]/\∀ l,H l=none->Q #[Nv] (lP H l (.rng 0 j))):=by
 intro lN s σ H xs us Q I r h;obtain⟨j,rfl,q⟩:=h;obtain⟨u,rfl,t,rfl⟩:=vals1 r;refine call_range_1 ?_;exact⟨.ref s.heap.objs.size,_,I.laid (o:=.rng 0 j) (fun b o e=>ai _ e) (af _) ⟨_,_,_,aE _ rfl⟩,rfl,q _ I.fresh⟩
noncomputable def zcc (lo:Int) (n:Nat):List Int:=(aN n).map fun (i:Nat)=>lo+(i:Int)
theorem zdf (lo:Int) (n:Nat):(zcc lo n).length=n:=by simp [zcc]
theorem zfl {acc:Array Value} {lo:Int} {n:Nat} (h:ItemsOf (fun i v=>∃ t,v = .int (lo+(i:Nat)*1) t) acc n):zU ((zcc lo n).map V.int) acc.toList:=by
 obtain⟨hsz,hv⟩:=h;have go:∀ (us:List Value) (k:Nat),(∀ (j:Nat) v,us[j]? = some v->∃ t,v = .int (lo+((k+j:Nat):Int)) t)->zU (((aN us.length).map fun (i:Nat)=>V.int (lo+((k+i:Nat):Int)))) us:=by
  intro us;induction us with
  | nil=>intro k _; exact .nil
  | cons u us ih =>
   intro k hu;rw [bu,je,aM,aR];refine .cons ?_ ?_
   ·obtain⟨t,e⟩:=hu 0 u rfl;exact⟨t,e⟩
   ·have:=ih (k+1) fun j v e=>by
     obtain⟨t,z⟩:=hu (j+1) v (by simpa using e);exact⟨t,by rw [z]; congr 1; lia⟩
    have e2:(fun (i:Nat)=>V.int (lo+((k+1+i:Nat):Int)))=((fun (i:Nat)=>V.int (lo+((k+i:Nat):Int))) ∘ Nat.succ):=by
     funext i;show V.int _=V.int _;congr 2;show ((k+1+i:Nat):Int)=((k+(i+1):Nat):Int);lia
    rw [<- e2];exact this
 have h1:=go acc.toList 0 fun j v e=>by
  obtain⟨t,z⟩:=hv j v (by simpa using e);exact⟨t,by rw [z]; simp⟩
 have e1:acc.toList.length=n:=by simpa using hsz
 rw [e1] at h1;unfold zcc;rw [aR];have e2:(V.int ∘ fun (i:Nat)=>lo+(i:Int))=fun (i:Nat)=>V.int (lo+((0+i:Nat):Int)):=by
  funext i;show V.int (lo+(i:Int))=V.int (lo+((0+i:Nat):Int));rw [dB]
 rw [e2];exact h1
theorem zfm {X:Cx} (hc:X.calm=true):zbG X (.type "list") (fun xs H Q=>∃ p hi,xs = [.ref p]/\H p=some (.rng 0 hi)/\0<=hi/\hi<=1000/\∀ l,H l=none->Q #[Nv] (lP H l (.lst ((zcc 0 hi.toNat).map V.int)))):=by
 intro lN s σ H xs us Q I r h;obtain⟨p,hi,rfl,hp,h0,h1,q⟩:=h;obtain⟨u,rfl,rx⟩:=vals1 r;cases rx;obtain⟨t,u',v,e⟩:=(show zax X.prog X.w H s.heap p (.rng 0 hi) from I.hok p _ hp);have pO:=aW;refine call_list_range (n:=hi.toNat) #[Na] (show IsRange s.heap p 0 hi 1 t u' v from e) (small_one #[O] #[O] #[O] #[O]) (by rw [rangeSize_one]; split <;> lia) #[O] fun h' tk FA c' kk ho tL=>?_
 have hv:=zfl (lo:=0) (n:=hi.toNat) tL;refine⟨.ref s.heap.objs.size,_,I.laid kk (af _) ?_,rfl,q _ I.fresh⟩;exact⟨by rw [ab,zdf]; lia,FA.toList,c',hv,by simpa using ho⟩
noncomputable def zqS (K:ah) (tl:TE):TI:=fun σ H R=>tl σ H fun x H1=>∃ a,x = .ref a/\(((∃ xs,lO K H1 a xs)/\R #[Sb] H1)\/((∃ xs,lY K H1 a xs)/\R (Itt K a) H1))
theorem zpj {X:Cx} {tg l:Expr} {tl:TE} (hl:PE X l tl):PI X tg l (zqS X.K tl):=by
 intro lN s σ H R I h;refine thn #[QN] fun v s1 ⟨x,H1,I1,r1,q1⟩=>?_
 obtain⟨a,e,q⟩:=q1;subst e;cases r1;rcases q with ⟨⟨xs,hq⟩,q⟩ | ⟨⟨xs,hq⟩,q⟩
 ·obtain⟨lQ,rv,p,hz⟩:=I1.list hq;refine fW p.isList ?_;refine⟨s1.heap.objs.size,[s1.heap.objs.size],_,_,H1,rfl,I1.kept (t':=s1.toks) fun b o e=>ai _ e,zfz a _,⟨_,aE _ rfl,rfl,rfl⟩,fun b hb=>?_,q⟩;have e:b=s1.heap.objs.size:=by simpa using hb
  subst e;exact I1.KY (af _) #[Ni]
 ·obtain⟨lQ,rv,p,hz⟩:=I1.tuple hq;refine h9 (show s1.heap.IsTuple a lQ.toArray from p) ?_;refine⟨s1.heap.objs.size,[s1.heap.objs.size],_,_,H1,rfl,I1.kept (t':=s1.toks) fun b o e=>ai _ e,ziw a _,⟨_,aE _ rfl,rfl,rfl⟩,fun b hb=>?_,q⟩;have e:b=s1.heap.objs.size:=by simpa using hb
  subst e;exact I1.KY (af _) #[Ni]
noncomputable def intsOf:List Expr->Option #[GE]
 | []=>some []
 | .Constant (.int i) _ _ :: r=>(intsOf r).map (i :: ·)
 | _=>none
noncomputable def zfM (ns:List Int):TA:=fun _ H Q=>Q #[xz] H
theorem zlv:∀ (es:List Expr) (ns:List Int),intsOf es=some ns->PA X es (zfM ns):=by
 intro es;induction es with
 | nil =>
  intro ns h;have e:ns = []:=(aS h).symm;subst e;exact ze
 | cons e r ih =>
  intro ns h;unfold intsOf at h;split at h
  ·rename_i heq
   cases heq
  ·rename_i i j p r' heq
   injection heq with e1 e2
   subst e1 e2;cases hr:intsOf r with
   | none=>rw [hr] at h; cases h
   | some ms =>
    rw [hr] at h;have e:i :: ms=ns:=aS h;subst e;exact za zg (ih ms hr)
  ·cases h
theorem znm {X:Cx} {es:List Expr} {ns:List Int} (h:intsOf es=some ns):PA X es (zfM ns):=zlv es ns h
theorem zcO {X:Cx} {i:Int} {j:Nat} {p:Pos} {es:List Expr} {t:TA} (hr:PA X es t):PA X (.Constant (.int i) j p :: es) (zoz (tC (.int i)) t):=za zg hr
theorem zlw {X:Cx} {i:Nat} {x:Str} {pos' oV qE:Pos} {rest:List Stmt} {u:TS} {es:List Expr} {ns:List Int} (h:intsOf es=some ns) (hN:X.N.Nodup) (hi:X.N[i]? = some x) (hx:Loc X.env.scope x)
  (hf:X.fn x=true\/X.env.scope.names.lookup x=some .local) (hr:PSs X rest u):PSs X (.Assign [.Name x pos'] (.List es oV) qE :: rest) (zbq (ziu (zng (zfM ns)) (zbb i)) u):=by
 have h1:PE X (.List es oV) (zng (zfM ns)):=@zac X es (zfM ns) oV (@znm X es ns h);have h2:PS X (.Assign [.Name x pos'] (.List es oV) qE) (ziu (zng (zfM ns)) (zbb i)):=zm hN hi hx h1 (by rfl) hf;exact zd h2 hr
section
variable {X:Cx} {K:ah}
theorem zbZ (hK:X.K=K):IxR X (zqd K):=by subst hK; exact zG
theorem znn (hK:X.K=K):IxR X (zqe K):=by subst hK; exact zcv
theorem zhs (hK:X.K=K):SlR X (zqg K):=by subst hK; exact zbT
noncomputable def zqh (K:ah):List V->Hp->VK->Prop:=fun xs H Q=>∃ p ys,xs = [.ref p]/\(lO K H p ys\/lY K H p ys)/\Q (.int ys.length) H
theorem zbd (hK:X.K=K):zbG X (.builtin "len") (zqh K):=by subst hK; exact zI
theorem zat {es:List Expr} {k:Nat} {t:TGs} {n:Nat} {pos:Pos} (hK:X.K=K) (hc:X.calm=true) (h:PGs X es t)
  (hn:#[NY].length=n:=by rfl) (qZ:#[NY].findIdx? (·.1)=none:=by rfl):PG X #[Om] (zhd K n t):=by subst hK; exact zaE hc h hn qZ
theorem zpk {o e:Expr} {es:List Expr} {to:TE} {t:TA} {name:Str} {apos m6:Pos} {T id:String} {r:V->List V->Hp->VK->Prop} (hK:X.K=K) (pa:PlainAttrs T) (slot:Slot T name id) (Fh:typeOf #[OI]=pure (.type "method_descriptor")) (hm:MtR X id r) (ho:PE X o to) (ha:PA X (e :: es) t)
  (tG:attributeBase o name X.env #[Qc]=eval o X.env:=by rfl)
  (Aa:(#[QS].all (fun x=>!x.1) && (backToKw m6 (keywordEach [] X.env)).all (fun x=>x.1.isSome)
   && decide ((e :: es).length+([]:List Keyword).length+(if ([]:List Keyword).isEmpty then 0 else 1) < 30))=true:=by rfl)
  (tH:(apos.endLine == m6.line)=true:=by rfl) (hs:starEach (e :: es) X.env=#[Id] :: starEach es X.env:=by rfl) (um:#[SL].any (·.1)=false:=by rfl) :
  PE X (.Call (.Attribute o name apos) (e :: es) [] m6) (tBM K T r to t):=by subst hK; exact zdX pa slot Fh hm ho ha tG Aa tH hs um
end
end L2
end
section
namespace My
variable {done lR:List (Int×Int)}
noncomputable def Cg (p a b:Int):Prop:=∃ k,a=b+p*k
theorem Cg.refl (p a:Int):Cg p a a:=⟨0,by grind⟩
theorem Cg.symm {p a b:Int} (h:Cg p a b):Cg p b a:=by obtain⟨k,e⟩:=h; exact⟨-k,by grind⟩
theorem Cg.trans {p a b c:Int} (h:Cg p a b) (h':Cg p b c):Cg p a c:=by
 obtain⟨k,e⟩:=h; obtain⟨l,e'⟩:=h'; exact⟨k+l,by grind⟩
theorem Cg.add {p a b c d:Int} (h:Cg p a b) (h':Cg p c d):Cg p (a+c) (b+d):=by
 obtain⟨k,e⟩:=h; obtain⟨l,e'⟩:=h'; exact⟨k+l,by grind⟩
theorem Cg.sub {p a b c d:Int} (h:Cg p a b) (h':Cg p c d):Cg p (a - c) (b - d):=by
 obtain⟨k,e⟩:=h; obtain⟨l,e'⟩:=h'; exact⟨k - l,by grind⟩
theorem Cg.mul {p a b c d:Int} (h:Cg p a b) (h':Cg p c d):Cg p (a*c) (b*d):=by
 obtain⟨k,e⟩:=h; obtain⟨l,e'⟩:=h';exact⟨k*d+b*l+p*k*l,by subst e e'; grind⟩
theorem Cg.of_eq {p a b:Int} (h:a=b):Cg p a b:=h ▸ Cg.refl p a
theorem Cg.emod (p a:Int):Cg p (a % p) a:=⟨-(a / p),by have:=Int.emod_add_mul_ediv a p; grind⟩
theorem Cg.mod_eq {p a b:Int} (h:Cg p a b):a % p=b % p:=by
 obtain⟨k,e⟩:=h; rw [e,Int.add_mul_emod_self_left]
theorem Cg.Lo {p a b:Int} (h:a % p=b % p):Cg p a b:=(Cg.emod p a).symm.trans (h ▸ Cg.emod p b)
theorem Cg.eq {p a b:Int} (h:Cg p a b) (ha:0<=a) (ha':a < p) (hb:0<=b) (wy:b < p):a=b:=by
 have:=h.mod_eq
 rwa [cJ ha ha',cJ hb wy] at this
noncomputable def zp (p x:Int):List Int->Int
 | []=>0
 | c :: r=>(c+x*zp p x r) % p
theorem zbD {p x:Int} (hp:0 < p):∀ l,0<=zp p x l
 | []=>bM 0
 | _ :: _=>aO _ #[O]
theorem zbE {p x:Int} (hp:0 < p):∀ l,zp p x l < p
 | []=>hp
 | _ :: _=>aK _ hp
theorem zao (p x c:Int) (r:List Int):Cg p (zp p x (c :: r)) (c+x*zp p x r):=Cg.emod _ _
noncomputable def lv (p x:Int):Int->Int->List Int->Int
 | lX,_,[]=>lX
 | lX,power,c :: r=>lv p x ((lX+c*power) % p) (power*x % p) r
theorem zoD {p x:Int}:∀ (l:List Int) (lX power:Int),Cg p (lv p x lX power l) (lX+power*zp p x l)
 | [],lX,power=>Cg.of_eq (by show lX=lX+power*0; grind)
 | c :: r,lX,power=>by
  have h1:=zoD (p:=p) (x:=x) r ((lX+c*power) % p) (power*x % p);refine h1.trans ?_;have h2:Cg p ((lX+c*power) % p+power*x % p*zp p x r) (lX+c*power+power*x*zp p x r):=#[NG].add ((Cg.emod p (power*x)).mul #[Nx]);refine h2.trans ?_;have h3:Cg p (lX+power*(c+x*zp p x r)) (lX+power*zp p x (c :: r)):=#[Nx].add (#[Nx].mul (zao p x c r).symm);refine (Cg.of_eq ?_).trans h3;grind
theorem zlx {p x:Int} (hp:0 < p):∀ (l:List Int) (lX power:Int),0<=lX->lX < p->0<=lv p x lX power l/\lv p x lX power l < p
 | [],lX,power,h1,h2=>⟨h1,h2⟩
 | c :: r,lX,power,h1,h2=>zlx hp r _ _ (aO _ #[O]) (aK _ hp)
theorem zjf {p x:Int} (hp:0 < p) (l:List Int):lv p x 0 1 l=zp p x l:=by
 obtain⟨a,b⟩:=zlx (x:=x) hp l 0 1 (bM _) hp;exact ((zoD l 0 1).trans (Cg.of_eq (by grind))).eq a b (zbD hp l) (zbE hp l)
noncomputable def zq:List Int:=[5,7,11,13,17,19,23,29,31,37,41,43,47,53,59,61,67,71,73,79,83,89,97]
noncomputable def zc0 (p:Int):Nat->Int->Int->Int->Int
 | 0,prod,_,_=>prod
 | n+1,prod,sq,left=>if 0 < left then zc0 p n (if left % 2=1 then prod*sq % p else prod) (sq*sq % p) (left / 2) else prod
noncomputable def inv (p h:Int):Int:=zc0 p 7 1 (h % p) (p - 2)
noncomputable def zqT:Bool:=zq.all fun p=>(aN p.toNat).all fun h=>h == 0 || (inv p h*h) % p == 1
theorem zkp:zqT=true:=by decide +kernel
theorem zC {p:Int} (hp:p∈zq):5<=p/\p<=97:=by
 have:zq.all (fun p=>decide (5<=p/\p<=97))=true:=by decide +kernel
 have:=fc.mp this p hp;simpa using this
theorem zgl {p h:Int} (hp:p∈zq) (h0:0 < h) (h1:h < p):Cg p (inv p h*h) 1:=by
 have e:=fc.mp (fc.mp zkp p hp) h.toNat (bJ.mpr #[O]);have hh:((h.toNat:Nat):Int)=h:=by lia
 have:h.toNat≠0:=by lia
 simp only [li,beq_iff_eq,hh,this,false_or] at e;have hr:=zC hp;exact Cg.Lo (by rw [e,cJ #[O] #[O]])
theorem zht {p a b:Int} (hp:p∈zq) (h:Cg p (a*b) 0):Cg p a 0\/Cg p b 0:=by
 have hr:=zC hp;by_cases ha:a % p=0
 ·exact .inl (Cg.Lo (by rw [ha]; simp))
 ·right;have h0:0 < a % p:=by have:=aO a (show p≠0 by lia); lia
  have hi:=zgl hp h0 (aK a #[O]);have h1:Cg p (inv p (a % p)*(a*b)) 0:=(#[Nx].mul h).trans (Cg.of_eq (by grind));have h2:Cg p (inv p (a % p)*(a % p)*b) (1*b):=hi.mul (Cg.refl p b);have h3:Cg p (inv p (a % p)*(a*b)) (inv p (a % p)*(a % p)*b):=by
   have:=((Cg.refl p (inv p (a % p))).mul (Cg.emod p a).symm).mul (Cg.refl p b);exact (Cg.of_eq (by grind)).trans this
  exact ((Cg.of_eq (by grind)).trans (h2.symm.trans (h3.symm.trans h1)))
noncomputable def trF (p r:Int) (high low:Int):Int:=(high - r*low) % p
noncomputable def zb3 (p r:Int) (v:List Int):List Int:=br (trF p r) (0 :: v) (v++[0])
theorem zoE {p r z:Int}:∀ (v:List Int) (h:Int),Cg p (zp p z (br (trF p r) (h :: v) (v++[0]))) (h+(z - r)*zp p z v)
 | [],h=>by
  show Cg p ((trF p r h 0+z*0) % p) (h+(z - r)*0);refine #[NG].trans ?_;have:Cg p (trF p r h 0) (h - r*0):=Cg.emod p _;exact (this.add (Cg.refl p (z*0))).trans (Cg.of_eq (by grind))
 | c :: w,h=>by
  show Cg p ((trF p r h c+z*zp p z (br (trF p r) (c :: w) (w++[0]))) % p) (h+(z - r)*zp p z (c :: w));have ih:=zoE (p:=p) (r:=r) (z:=z) w c;have h1:Cg p (trF p r h c) (h - r*c):=Cg.emod p _;refine #[NG].trans ((h1.add ((Cg.refl p z).mul ih)).trans ?_);have h2:Cg p (h+(z - r)*(c+z*zp p z w)) (h+(z - r)*zp p z (c :: w)):=(Cg.refl p h).add (#[Nx].mul (zao p z c w).symm);exact (Cg.of_eq (by grind)).trans h2
theorem zno {p r z:Int} (v:List Int):Cg p (zp p z (zb3 p r v)) ((z - r)*zp p z v):=(zoE v 0).trans (Cg.of_eq (by grind))
theorem zck (p r:Int) (v:List Int):(zb3 p r v).length=v.length+1:=by simp [zb3]
theorem zeE {α β γ:Type} {f:α->β->γ}:∀ {as:List α} {bs:List β} {c:γ},c∈br f as bs->∃ a b,c=f a b
 | [],_,c,h=>by simp at h
 | _ :: _,[],c,h=>by simp at h
 | a :: as,b :: bs,c,h=>by
  rcases aB.mp h with e | e
  ·exact⟨a,b,e⟩
  ·exact zeE e
theorem zpl {p r:Int} (hp:0 < p) (v:List Int):∀ c∈zb3 p r v,0<=c/\c < p:=by
 intro c hc;obtain⟨a,b,e⟩:=zeE hc;rw [e]; exact⟨aO _ #[O],aK _ hp⟩
noncomputable def ad (p f:Int):List Int->List Int->List Int
 | c :: cs,v :: vs=>(c+f*v) % p :: ad p f cs vs
 | cs,[]=>cs
 | [],_ :: _=>[]
theorem zfN (p f:Int):∀ (cs vs:List Int),#[Rz].length=cs.length
 | _ :: cs,_ :: vs=>by show #[Rz].length+1=_; rw [zfN p f cs vs]; rfl
 | [],[]=>rfl
 | _ :: _,[]=>rfl
 | [],_ :: _=>rfl
theorem zly {p f:Int} (hp:0 < p):∀ (cs vs:List Int),(∀ c∈cs,0<=c/\c < p)->∀ c∈ad p f cs vs,0<=c/\c < p
 | c :: cs,v :: vs,h,d,hd=>by
  rcases aB.mp hd with e | e
  ·rw [e]; exact⟨aO _ #[O],aK _ hp⟩
  ·exact zly hp cs vs (fun c hc=>h c (au _ hc)) d e
 | [],[],h,d,hd=>h d hd
 | _ :: _,[],h,d,hd=>h d hd
 | [],_ :: _,h,d,hd=>by cases hd
theorem zjg {p f z:Int}:∀ (cs vs:List Int),vs.length<=cs.length->Cg p (zp p z #[Rz]) (zp p z cs+f*zp p z vs)
 | c :: cs,v :: vs,h=>by
  have ih:=zjg (p:=p) (f:=f) (z:=z) cs vs (by simpa using h);show Cg p (((c+f*v) % p+z*zp p z #[Rz]) % p) (zp p z (c :: cs)+f*zp p z (v :: vs));refine #[NG].trans (((Cg.emod p (c+f*v)).add ((Cg.refl p z).mul ih)).trans ?_);have h2:Cg p ((c+z*zp p z cs)+f*(v+z*zp p z vs)) (zp p z (c :: cs)+f*zp p z (v :: vs)):=(zao p z c cs).symm.add ((Cg.refl p f).mul (zao p z v vs).symm);exact (Cg.of_eq (by grind)).trans h2
 | [],[],_=>Cg.of_eq (by show (0:Int)=0+f*0; grind)
 | c :: cs,[],_=>Cg.of_eq (by show zp p z (c :: cs)=zp p z (c :: cs)+f*0; grind)
 | [],_ :: _,h=>by simp at h
noncomputable def zcI (p:Int) (s:List Int×List Int) (q:Int×Int):List Int×List Int :=
 (ad p ((q.2 - zp p q.1 s.1)*inv p (zp p q.1 s.2) % p) s.1 s.2,zb3 p q.1 s.2)
noncomputable def zgm (p:Int) (n:Nat) (lR:List (Int×Int)):List Int×List Int:=lR.foldl (zcI p) (aJ n 0,[1])
noncomputable def thr (p:Int) (lR:List (Int×Int)):List Int:=(zgm p lR.length lR).1
noncomputable def zcP (z:Int):List (Int×Int)->Int
 | []=>1
 | q :: r=>(z - q.1)*zcP z r
theorem zeF (z:Int) (q:Int×Int):∀ l,zcP z (l++[q])=zcP z l*(z - q.1)
 | []=>by show (z - q.1)*1=1*(z - q.1); grind
 | a :: l=>by show (z - a.1)*zcP z (l++[q])=(z - a.1)*zcP z l*(z - q.1); rw [zeF z q l]; grind
theorem zdj {z:Int}:∀ {l:List (Int×Int)},(∃ q∈l,q.1=z)->zcP z l=0
 | [],h=>by obtain⟨q,hq,_⟩:=h; cases hq
 | a :: l,h=>by
  show (z - a.1)*zcP z l=0;obtain⟨q,hq,e⟩:=h;rcases aB.mp hq with hq | hq
  ·subst hq; rw [e]; simp
  ·rw [zdj ⟨q,hq,e⟩]; simp
theorem zhu {p z:Int} (hp:p∈zq) (hz:0<=z) (xI:z < p):∀ {l:List (Int×Int)},(∀ q∈l,0<=q.1/\q.1 < p/\q.1≠z)->¬ Cg p (zcP z l) 0
 | [],_,h=>by
  have hr:=zC hp;have:=h.mod_eq;have e1:(zcP z []:Int)=1:=rfl;rw [e1,cJ #[O] #[O]] at this;simp at this
 | a :: l,hl,h=>by
  rcases zht hp (show Cg p ((z - a.1)*zcP z l) 0 from h) with h | h
  ·obtain⟨h1,h2,h3⟩:=hl a aD;have:Cg p z a.1:=by
    have:=h.add (Cg.refl p a.1);exact (Cg.of_eq (by grind)).trans (this.trans (Cg.of_eq (by grind)))
   exact h3 (this.eq hz xI h1 h2).symm
  ·exact zhu hp hz xI (fun q hq=>hl q (au _ hq)) h
structure Nw (p:Int) (n:Nat) (done:List (Int×Int)) (s:List Int×List Int):Prop where
 lc:s.1.length=n
 lv:s.2.length=done.length+1
 rc:∀ c∈s.1,0<=c/\c < p
 rv:∀ c∈s.2,0<=c/\c < p
 van:∀ z,Cg p (zp p z s.2) (zcP z done)
 hit:∀ q∈done,zp p q.1 s.1=q.2
theorem zeG {p:Int} (hp:p∈zq) (n:Nat):Nw p n [] (aJ n 0,[1]):=by
 have hr:=zC hp;refine⟨#[M],rfl,fun c hc=>?_,fun c hc=>?_,fun z=>?_,fun q hq=>by cases hq⟩
 ·obtain⟨_,e⟩:=List.mem_replicate.mp hc;lia
 ·have:c=1:=by simpa using hc
  lia
 ·show Cg p ((1+z*0) % p) 1;exact #[NG].trans (Cg.of_eq (by grind))
theorem zgn {p:Int} {n:Nat} {s:List Int×List Int} (hp:p∈zq) (h:Nw p n done s) {q:Int×Int} (q0:0<=q.1) (q1:q.1 < p) (hd:∀ a∈done,0<=a.1/\a.1 < p/\a.1≠q.1) :
  0 < zp p q.1 s.2/\zp p q.1 s.2 < p:=by
 have hr:=zC hp;refine⟨?_,zbE #[O] _⟩;have h0:=zbD (x:=q.1) (show 0 < p by lia) s.2;by_cases e:zp p q.1 s.2=0
 ·exact absurd ((h.van q.1).symm.trans (Cg.of_eq e)) (zhu hp q0 q1 hd)
 ·lia
theorem zkq {p:Int} {n:Nat} {s:List Int×List Int} (hp:p∈zq) (h:Nw p n done s) {q:Int×Int} (q0:0<=q.1) (q1:q.1 < p) (hd:∀ a∈done,0<=a.1/\a.1 < p/\a.1≠q.1) :
  Cg p ((q.2 - zp p q.1 s.1)*inv p (zp p q.1 s.2) % p*zp p q.1 s.2) (q.2 - zp p q.1 s.1):=by
 obtain⟨h0,h1⟩:=zgn hp h q0 q1 hd;have hi:=zgl hp h0 h1;refine (#[NG].mul #[Nx]).trans ?_;have:=(Cg.refl p (q.2 - zp p q.1 s.1)).mul hi;exact (Cg.of_eq (by grind)).trans (this.trans (Cg.of_eq (by grind)))
theorem zgo {p:Int} {n:Nat} {s:List Int×List Int} (hp:p∈zq) (h:Nw p n done s) {q:Int×Int} (hn:done.length < n) (q0:0<=q.1) (q1:q.1 < p) (q2:0<=q.2) (q3:q.2 < p)
  (hd:∀ a∈done,0<=a.1/\a.1 < p/\a.1≠q.1/\0<=a.2/\a.2 < p):Nw p n (done++[q]) (zcI p s q):=by
 have hr:=zC hp;have hd':∀ a∈done,0<=a.1/\a.1 < p/\a.1≠q.1:=fun a ha=>⟨(hd a ha).1,(hd a ha).2.1,(hd a ha).2.2.1⟩
 have hlv:=h.lv;have hlc:=h.lc;have hle:s.2.length<=s.1.length:=by lia
 refine⟨by show (ad _ _ _ _).length=n; rw [zfN,h.lc],by show (zb3 _ _ _).length=_; rw [zck,h.lv,ap,cT],zly #[O] _ _ h.rc,zpl #[O] _,fun z=>?_,fun a ha=>?_⟩
 ·rw [zeF];exact (zno s.2).trans ((#[Nx].mul (h.van z)).trans (Cg.of_eq (by grind)))
 ·have hv:=zjg (p:=p) (f:=(q.2 - zp p q.1 s.1)*inv p (zp p q.1 s.2) % p) (z:=a.1) s.1 s.2 hle; rcases aP.mp ha with ha | ha
  ·obtain⟨b0,b1,b2,b3,b4⟩:=hd a ha;have hz:Cg p (zp p a.1 s.2) 0:=(h.van a.1).trans (Cg.of_eq (zdj ⟨a,ha,rfl⟩));have h2:Cg p (zp p a.1 (ad p ((q.2 - zp p q.1 s.1)*inv p (zp p q.1 s.2) % p) s.1 s.2)) (zp p a.1 s.1):=hv.trans (((Cg.refl p (zp p a.1 s.1)).add (#[Nx].mul hz)).trans (Cg.of_eq (by rw [fH,Int.add_zero])));rw [h.hit a ha] at h2;exact h2.eq (zbD #[O] _) (zbE #[O] _) b3 b4
  ·have e:a=q:=by simpa using ha
   subst e;have h2:Cg p (zp p a.1 (ad p ((a.2 - zp p a.1 s.1)*inv p (zp p a.1 s.2) % p) s.1 s.2)) a.2:=hv.trans (((Cg.refl p (zp p a.1 s.1)).add (zkq hp h q0 q1 hd')).trans #[MQ]);exact h2.eq (zbD #[O] _) (zbE #[O] _) q2 q3
structure Pts (p:Int) (lR:List (Int×Int)):Prop where
 nd:(lR.map (·.1)).Nodup
 rg:∀ q∈lR,0<=q.1/\q.1 < p/\0<=q.2/\q.2 < p
theorem Pts.apart {p:Int} {rest:List (Int×Int)} {q:Int×Int} (h:Pts p (done++q :: rest)):∀ a∈done,0<=a.1/\a.1 < p/\a.1≠q.1/\0<=a.2/\a.2 < p:=fun a ha=>by
 obtain⟨r1,r2,r3,r4⟩:=h.rg a (aL _ ha);refine⟨r1,r2,fun e=>?_,r3,r4⟩;have nd:=h.nd;rw [am,ck] at nd;exact nd.2.2 a.1 (aw.mpr ⟨a,ha,rfl⟩) q.1 #[M] e
theorem zlz {p:Int} (hp:p∈zq) {n:Nat}:∀ (rest done:List (Int×Int)) (s:List Int×List Int),Pts p (done++rest)->(done++rest).length=n->Nw p n done s->Nw p n (done++rest) (rest.foldl (zcI p) s)
 | [],done,s,_,_,h=>by rw [bH]; exact h
 | q :: rest,done,s,hP,hn,h=>by
  have xC:done.length < n:=by rw [<- hn]; simp
  obtain⟨a,b,c,d⟩:=hP.rg q #[M];have hs:=zgo hp h (q:=q) xC a b c d hP.apart;have e:done++q :: rest=(done++[q])++rest:=by simp
  rw [e] at hP hn |-;exact zlz hp rest (done++[q]) _ hP hn hs
theorem zlA {p:Int} (hp:p∈zq) (hP:Pts p lR):(thr p lR).length=lR.length/\(∀ c∈thr p lR,0<=c/\c < p)/\∀ q∈lR,zp p q.1 (thr p lR)=q.2:=by
 have h:=zlz hp (n:=lR.length) lR [] _ (by simpa using hP) #[M] (zeG hp lR.length);exact⟨h.lc,h.rc,h.hit⟩
end My
end
section
namespace My
open PySem L2 PyProof.Rows
variable {H H':Hp} {Q:VK} {as cs ms ns:List Int} {g:TG} {j k:Nat} {te:TE} {y:V}
section
variable {K:ah}
theorem zlB {k:Int} (h0:0<=k) (h1:k < ns.length):∃ c:Int,ns[k.toNat]? = some c/\atI #[xz] k=some (.int c):=by
 have mh:k.toNat < ns.length:=by lia
 have e:atI #[xz] ((k.toNat:Nat):Int)=some (.int ns[k.toNat]):=zaH (by simp [aj,ag mh]);have hk:((k.toNat:Nat):Int)=k:=by lia
 rw [hk] at e;exact⟨ns[k.toNat],#[M],e⟩
theorem zeh {k:Int} (h0:0<=k) (h1:k < ns.length):∃ c:Int,atI #[xz] k=some (.int c):=let ⟨c,_,e⟩:=zlB h0 h1; ⟨c,e⟩
theorem zb {a:Addr} {o:HO} (h:H a=none):zr H #[QD]:=fun b u e=>by rw [zn (zu e h)]; exact e
theorem zah {a:Addr} {o:HO} (s:zr H H') (h:H a=none):zr H (lP H' a o):=fun b u e=>by rw [zn (zu e h)]; exact s b u e
theorem zay {n:Nat} (h:n<=10000):n < sizeLine:=by rw [aW]; lia
noncomputable def zkr (K:ah):Sp:=fun vs H Q _=>∃ (a:Addr) (ns:List Int) (k:Int),vs = [.ref a,.int k]/\lO K H a #[xz]/\ns.length<=63/\0<=k/\k<=1000/\∀ c:Int,Q (.int c) H
noncomputable def zgp (many:Nat) (base:Int) (ds:List Int):Prop:=ds.length=many/\∀ d∈ds,0<=d/\d < base
noncomputable def ziG (K:ah):Sp:=fun vs H Q _=>∃ (a:Addr) (ns:List Int) (k many base:Int),vs = [.ref a,.int k,.int many,.int base]/\lO K H a #[xz]/\ns.length<=63/\0<=k/\k<=1000/\0<=many/\many<=1000/\0 < base/\base < 1073741824 /\
 ∀ (l:Addr) (ds:List Int) (H':Hp),H l=none->zr H H'->zgp many.toNat base ds->H' l=some #[QG]->Q #[Nv] H'
abbrev znp:List V:=[.int 2147483647,.int 2147483629,.int 2147483587,.int 2147483579,.int 2147483563,.int 2147483549,.int 2147483543,.int 2147483497]
theorem znq {m:Int} (h0:0<=m) (h1:m < 8):∃ q:Int,atI znp m=some (.int q)/\0 < q/\q < 2147483648:=by
 have:m=0\/m=1\/m=2\/m=3\/m=4\/m=5\/m=6\/m=7:=by lia
 rcases this with e | e | e | e | e | e | e | e <;> subst e <;> exact⟨_,rfl,#[D],#[D]⟩
theorem zeH (j:Int):∃ q:Int,atI znp (j % 8)=some (.int q)/\0 < q/\q < 2147483648:=znq (aO _ #[D]) (aK _ #[D])
theorem gY {i:Nat} {x:V} {σ:L2.St} {A B:L2.St->Hp->Prop} (h:A #[MT] H):zbb i x σ H (fun σ2 H2=>znl σ2 H2 fun b H3=>if b=true then A σ2 H3 else B σ2 H3):=by
 show (if true=true then A #[MT] H else B #[MT] H);rw [if_pos rfl];exact h
structure Mh (mk mn p k:Int) (pl:List Int):Prop where
 pr:p∈zq
 k1:1<=k
 kk:k<=mk
 kl:k<=pl.length
 ln:(pl.length:Int)<=mn
 nd:pl.Nodup
 rg:∀ x∈pl,0<=x/\x < p
noncomputable def zkt (K:ah):Sp:=fun vs H Q _=>∃ (a:Addr) (ns:List Int) (at' mk mn:Int),vs = [.ref a,.int at',.int mk,.int mn]/\lO K H a #[xz]/\ns.length<=63/\0<=at'/\at'<=1000/\1<=mk/\mk<=5/\mk<=mn/\mn<=16 /\
 ∀ (c tt:Addr) (p k:Int) (pl:List Int) (H':Hp),H c=none->zr H H'->Mh mk mn p k pl->H' c=some (.tup [.int p,.int k,.ref tt])->H' tt=some (.tup #[Rx])->Q #[PY] H'
theorem zpm {x y m:Int} (h0:0<=m) (h1:m < 2):∃ z:Int,atI [V.int x,V.int y] m=some (.int z)/\(z=x\/z=y):=by
 have:m=0\/m=1:=by lia
 rcases this with e | e <;> subst e
 ·exact⟨x,rfl,.inl rfl⟩
 ·exact⟨y,rfl,.inr rfl⟩
theorem zlC {k:Int} (h0:0<=k) (h1:k < ns.length):∃ c:Int,c∈ns/\atI #[xz] k=some (.int c):=by
 obtain⟨c,e,h⟩:=zlB h0 h1;exact⟨c,aA e,h⟩
theorem zfO {α β:Type} (f:α->β):∀ (l:List α) (k:Nat),(l.map f).eraseIdx k=(l.eraseIdx k).map f
 | [],_=>rfl
 | _ :: _,0=>rfl
 | a :: l,k+1=>by show f a :: (l.map f).eraseIdx k=f a :: (l.eraseIdx k).map f; rw [zfO f l k]
theorem zeI {α:Type}:∀ {l:List α} {k:Nat} {x:α},l[k]? = some x->(x :: l.eraseIdx k).Perm l
 | [],_,_,h=>by simp at h
 | a :: l,0,x,h=>by
  have e:a=x:=by simpa using h
  subst e;exact List.Perm.refl _
 | a :: l,k+1,x,h=>by
  have ih:=zeI (l:=l) (k:=k) (x:=x) (by simpa using h);exact (List.Perm.swap a x _).trans (ih.cons a)
theorem znr {p:Int} {xs ls:List Int} {x:Int} (h:ls[k]? = some x) (nd:(xs++ls).Nodup) (rg:∀ y∈xs++ls,0<=y/\y < p):((xs++[x])++ls.eraseIdx k).Nodup/\∀ y∈(xs++[x])++ls.eraseIdx k,0<=y/\y < p:=by
 have hp:((xs++[x])++ls.eraseIdx k).Perm (xs++ls):=by
  rw [bt];exact (zeI h).append_left xs
 exact⟨hp.nodup_iff.mpr nd,fun y hy=>rg y (hp.mem_iff.mp hy)⟩
theorem zku (p:Int):(zcc 0 p.toNat).Nodup/\∀ y∈zcc 0 p.toNat,0<=y/\y < p:=by
 unfold zcc;constructor
 ·rw [bw,bZ];exact (bw.mp (ff (n:=p.toNat))).imp fun {a b} Bn=>by lia
 ·intro y hy;obtain⟨i,hi,e⟩:=aw.mp hy;have:=bJ.mp hi;lia
noncomputable def zd0 (K:ah):Sp:=fun vs H Q _=>∃ (p x:Int) (a:Addr) (cs:List Int),vs = [.int p,.ref a,.int x]/\(lO K H a #[Oe]\/lY K H a #[Oe])/\0 < p/\p<=97/\0<=x/\x < p/\Q (.int (zp p x cs)) H
noncomputable def ziH (K:ah):Sp:=zd0 K
theorem zfP {i:Nat} {c:Int} (hi:i < cs.length) (h:cs[cs.length - 1 - i]? = some c):cs.drop (cs.length - (i+1))=c :: cs.drop (cs.length - i):=by
 have e:cs.length - (i+1)=cs.length - 1 - i:=by lia
 have mh:cs.length - 1 - i < cs.length:=by lia
 rw [e,cN mh];have:cs[cs.length - 1 - i]=c:=by
  rw [ag mh] at h;exact aS h
 rw [this];congr 2;lia
theorem zaL {x:V} (h:#[Oe][j]? = some x):∃ c,x = .int c/\cs[j]? = some c:=by
 rw [aj] at h;cases e:cs[j]? with
 | none=>rw [e] at h; cases h
 | some c=>rw [e] at h; exact⟨c,(aS h).symm,rfl⟩
theorem zjh {p x lX power c:Int} {i:Nat} (h:cs[i]? = some c):lv p x lX power (cs.drop i)=lv p x ((lX+c*power) % p) (power*x % p) (cs.drop (i+1)):=by
 obtain⟨mh,e⟩:=av.mp h;rw [cN mh,e];rfl
noncomputable def ziI (K:ah):Sp:=fun vs H Q _=>∃ (p h:Int),vs = [.int p,.int h]/\p∈zq/\0<=h/\h < p/\Q (.int (inv p h)) H
noncomputable def zpn (σ:L2.St):Nat:=match (σ[4]?:Option (Option V)) with
 | some (some (V.int l))=>l.toNat
 | _=>0
theorem zgq {p prod sq left:Int} {n:Nat} (h0:0 < left) (h1:left < 2 ^ (n+1)):zc0 p (n+1) prod sq left=zc0 p n (if left % 2=1 then prod*sq % p else prod) (sq*sq % p) (left / 2):=by
 show (if 0 < left then _ else _)=_;rw [if_pos h0]
theorem zhv {p prod sq:Int}:∀ n,zc0 p n prod sq 0=prod
 | 0=>rfl
 | n+1=>by show (if (0:Int) < 0 then _ else prod)=prod; rw [if_neg #[D]]
theorem gY2 {K:ah} {i:Nat} {T:Addr} {x:V} {σ:L2.St} {A B:L2.St->Hp->Prop} (hT:lY K H T [x,y]) (h:A (#[MT].set j (some y)) H) :
  zhd K 2 #[O3] (.ref T) σ H (fun σ2 H2=>znl σ2 H2 fun b H3=>if b=true then A σ2 H3 else B σ2 H3):=by
 refine⟨T,_,rfl,hT,rfl,x,_,rfl,y,_,rfl,rfl,?_⟩;show (if true=true then A (#[MT].set j (some y)) H else B (#[MT].set j (some y)) H);rw [if_pos rfl];exact h
theorem zhw {f:Int->Int->Int} {bs:List Int} {i:Nat} {x y:Int} (hx:as[i]? = some x) (hy:bs[i]? = some y):#[Qs].take (i+1)=#[Qs].take i++[f x y]:=by
 have e:#[Qs][i]? = some (f x y):=by rw [jl,hx,hy]
 rw [eL,e,jK]
noncomputable def zoF (K:ah) (H:Hp) (a:Addr) (lR:List (Int×Int)):Prop:=∃ bs:List Addr,lO K H a #[Of]/\bs.length=lR.length/\∀ (i:Nat) (b:Addr) (q:Int×Int),bs[i]? = some b->lR[i]? = some q->H b=some (.tup [.int q.1,.int q.2])
theorem zeJ (n:Nat):(aJ n [V.int 0]).flatten=(aJ n (0:Int)).map V.int:=by
 induction n with
 | zero=>rfl
 | succ n ih=>rw [cw,dI,ih,cw]; rfl
theorem zns {n:Nat} (h:j < n):ixN n (j:Int)=some j:=by
 unfold ixN;rw [if_pos #[O],if_pos #[O]];rfl
theorem zV {bs:List Addr} {i:Nat} {x:V} (h:#[Of][i]? = some x):∃ b,x = .ref b/\bs[i]? = some b:=by
 rw [aj] at h;cases e:bs[i]? with
 | none=>rw [e] at h; cases h
 | some b=>rw [e] at h; exact⟨b,(aS h).symm,rfl⟩
theorem take_snoc {α:Type} {l:List α} {i:Nat} {x:α} (h:l[i]? = some x):l.take (i+1)=l.take i++[x]:=by
 rw [eL,h,jK]
theorem zeK {α:Type} {l:List α} {i:Nat} {x:α} (h:l[i]? = some x):l=l.take i++x :: l.drop (i+1):=by
 obtain⟨hi,e⟩:=av.mp h; have:=bT i l;rw [cN hi,e] at this;exact this.symm
theorem zlD {f:Int->Int->Int} {bs:List Int} {n:Nat} (h1:n<=as.length) (h2:n<=bs.length) (h3:as.length<=n\/bs.length<=n):#[Qs].length=n:=by
 rw [fw];lia
theorem zfQ {a b:Addr} {bs:List Int} {n:Nat} {f:Int->Int->Int} {ts:TT} {σ0:L2.St} (ha:H a=some (.lst (as.map V.int))) (hb:H b=some (.lst (bs.map V.int))) (h1:n<=as.length) (h2:n<=bs.length) (h3:as.length<=n\/bs.length<=n) (hn:n<=10000)
  (hs:∀ (i:Nat) (x y:Int) (H1:Hp) (T:Addr) (R:VK) (B:L2.St->Hp->Prop),as[i]? = some x->bs[i]? = some y->zr H H1->H1 T=none->R (.int (f x y)) (lP H1 T (.tup [.int x,.int y]))->g (.ref T) σ0 (lP H1 T (.tup [.int x,.int y])) fun σ2 H2=>ts σ2 H2 fun b H3=>if b=true then te σ2 H3 R else B σ2 H3)
  (hd:∀ D H1,zr H H1->H1 D=none->Q #[M6] (lP H1 D (.lst (#[Qs].map V.int)))):cGo g ts te σ0 (zkl (lO K) (lO K) a b) Q H:=by
 have hl:=zlD (f:=f) h1 h2 h3;refine zgf (n:=n) (fun i ys H'=>ys=(#[Qs].take i).map V.int/\zr H H') ⟨#[M],fun _ _ e=>e⟩ ?_ ?_ ?_ ?_
 ·rintro i ys H3 hi ⟨_,s3⟩;obtain⟨x,hx⟩:∃ x,as[i]? = some x:=⟨as[i]'#[O],#[M]⟩;obtain⟨y,hy⟩:∃ y,bs[i]? = some y:=⟨bs[i]'#[O],#[M]⟩;exact⟨_,_,.int x,.int y,lO.of #[Qo],lO.of (s3 _ _ hb),by rw [aj,hx]; rfl,by rw [aj,hy]; rfl⟩
 ·rintro ys H3 ⟨_,s3⟩;exact⟨_,_,lO.of #[Qo],lO.of (s3 _ _ hb),by rw [ab,ab]; exact h3⟩
 ·rintro i x ys H3 H4 hi ⟨rfl,s3⟩ ⟨T,u,v,hT,rfl,rfl,hu,hv⟩;obtain⟨x,rfl,hx⟩:=zaL (hu _ (lO.of #[Qo]));obtain⟨y,rfl,hy⟩:=zaL (hv _ (lO.of (s3 _ _ hb)));refine hs i x y H3 T _ _ hx hy s3 hT ⟨zay ?_,?_,s3.trans (zb hT)⟩
  ·rw [ab];exact aV (gM _ _) #[O]
  ·rw [zhw hx hy,am];rfl
 ·rintro ys H3 D ⟨rfl,s3⟩ hD;rw [aH #[O]];exact hd D H3 s3 hD
theorem zcl {a:Addr} {xs fs:List V} {ts:TT} {σ0:L2.St} (ha:lO K H a xs) (hl:fs.length=xs.length) (hn:xs.length<=10000)
  (hs:∀ (i:Nat) (x y:V) (R:VK) (B:L2.St->Hp->Prop),xs[i]? = some x->fs[i]? = some y->R y H->g x σ0 H fun σ2 H2=>ts σ2 H2 fun b H3=>if b=true then te σ2 H3 R else B σ2 H3)
  (hd:∀ D,H D=none->Q #[M6] (lP H D (.lst fs))):cGo g ts te σ0 #[Sb] Q H:=by
 refine zgf (n:=xs.length) (fun i ys H'=>ys=fs.take i/\H'=H) ⟨#[M],rfl⟩ ?_ ?_ ?_ ?_
 ·rintro i ys H3 hi ⟨_,rfl⟩;exact⟨_,xs[i],ha,#[M]⟩
 ·rintro ys H3 ⟨_,rfl⟩;exact⟨_,ha,af _⟩
 ·rintro i x ys H3 H4 hi ⟨rfl,rfl⟩ ⟨rfl,hx⟩;have hy:fs[i]? = some fs[i]:=by simp
  refine hs i x fs[i] _ _ (hx _ ha) hy ⟨zay (aV (gM _ _) #[O]),?_,rfl⟩;rw [take_snoc hy]
 ·rintro ys H3 D ⟨rfl,rfl⟩ hD;rw [aH #[O]];exact hd D hD
theorem zhx (ds:List Int) (lo hi:Option Int):∃ ms:List Int,zcu #[KK] lo hi=ms.map V.int/\ms.length<=ds.length:=by
 refine⟨(ds.drop (HT.sIx #[KK].length 0 lo)).take (HT.sIx #[KK].length #[KK].length hi - HT.sIx #[KK].length 0 lo),?_,?_⟩
 ·unfold zcu; rw [dJ,fq]
 ·rw [aG,cn];lia
theorem zhy {f:Int->V} {i:Nat} {x:V} (hx:#[Nd][i]? = some x) (hy:(ms.map f)[i]? = some y):∃ c,ms[i]? = some c/\x = .int c/\y=f c:=by
 obtain⟨c,rfl,hc⟩:=zaL hx;rw [aj,hc] at hy;exact⟨c,hc,rfl,(aS hy).symm⟩
end
end My
end
section
namespace PySem
abbrev IsZ (h:Heap) (z TI TO:Addr) (f0 f1:Value):Prop:=h.get? z=some { cls:=.type "zip",dict:=none,data:=.fields #[f0,f1,.bool false,.ref TI,.ref TO],slots:=#[] }
noncomputable def ZF (f0 f1:Value):Prop:=(f0 = .none\/∃ a t,f0 = .int a t)/\∃ b,f1 = .bool b
structure Zap (z TI TO i1 i2:Addr) (rh rj:List Addr):Prop where
 zTI:TI≠z
 zTO:TO≠z
 z1:i1≠z
 z2:i2≠z
 TT:TI≠TO
 T1:TI≠i1
 T2:TI≠i2
 O1:TO≠i1
 O2:TO≠i2
 ii:i1≠i2
 a1:z∉rh
 a2:TO∉rh
 a3:i2∉rh
 b1:z∉rj
 b2:TO∉rj
 b3:i1∉rj
section
variable {prog:Program} {w:World} {A:Around} {E:Value->Shared->Prop} {s:Shared}
theorem zkv {a:Addr} {Q:Option Obj->Shared->Prop} (h:Q (s.heap.get? a) s):wpAny #[pc] A (loadIfAlive a) Q E s:=fun _ _ _=>h
theorem zlE {z TI TO:Addr} {f0 f1:Value} {Q:Bool->Shared->Prop} (hz:IsZ s.heap z TI TO f0 f1) (hf:ZF f0 f1) (h1:Q true s)
  (h2:∀ h',IsZ h' z TI TO f0 #[Op]->bv z s.heap h'->Q false { s with heap:=h' }):wpAny #[pc] A (b8 #[OY]) Q E s:=by
 obtain⟨hf,b,rfl⟩:=hf;unfold b8; rcases hf with rfl | ⟨a,t,rfl⟩
 ·exact ae (bP hz rfl (x:=.none) rfl (ao h1))
 ·refine ae (bP hz rfl (x:=.int a t) rfl ?_);refine ae (zkv ?_);cases s.heap.get? a.toNat with
  | none=>exact ao h1
  | some o =>
   refine ae (bP hz rfl (x:=.bool b) rfl ?_);cases b with
   | true=>exact ao (h2 s.heap hz #[QL])
   | false=>exact ae (bV hz #[M] fun h' a' b'=>ao (h2 h' a' b'))
theorem zji {z TI TO i1 i2:Addr} {rh rj:List Addr} {n1 n2 k1 k2:Nat} {P1 P2:Nat->Value->Prop} {S1 S2:Nat->Heap->Prop} {f0 f1 a b:Value} {Q:Value->Shared->Prop} (D1:Draws prog w A i1 rh n1 P1 S1) (D2:Draws prog w A i2 rj n2 P2 S2) (Z:Zap z TI TO i1 i2 rh rj)
  (hz:IsZ s.heap z TI TO f0 f1) (hf:ZF f0 f1) (vo:IsPair s.heap TI #[PF] #[PD]) (vX:IsPair s.heap TO a b) (oZ:S1 k1 s.heap) (m7:S2 k2 s.heap) (l1:k1 < n1) (l2:k2 < n2)
  (hQ:∀ x y h' tk g0 g1 a' b',P1 k1 x->P2 k2 y->IsZ h' z TI TO g0 g1->ZF g0 g1->IsPair h' TI #[PF] #[PD]->IsPair h' TO a' b'->S1 (k1+1) h'->S2 (k2+1) h'->IsPair h' s.heap.objs.size x y->h'.objs.size=s.heap.objs.size+1 ->
   (∀ c o,c≠z->c≠TO->c≠i1->c≠i2->s.heap.get? c=some o->h'.get? c=some o)->Q #[ss] { s with heap:=h',toks:=tk }):wpAny #[pc] A (Builtin.«zip.__next__» ⟨[.ref z],[]⟩) (fun fin s'=>∃ v,fin = .done (.ret v)/\Q v s') E s:=by
 obtain⟨hp,g,d,Ee,os⟩:=s;show wpAny _ _ (field #[OY] 2 >>= _) _ _ _; refine ae #[Rt]; show wpAny _ _ (field #[OY] 3 >>= _) _ _ _;refine ae #[Sr]; refine ae (dv vo rfl ?_);show wpAny _ _ (b8 #[OY] >>= _) _ _ _; refine ae (zlE hz hf ?_ fun h0 xJ ue=>?_)
 ·simp only [if_true];refine ae #[QZ];refine ae (bV hz #[M] fun ha yC uv=>?_);replace yC:IsZ ha z TI TO .ellipsis f1:=yC;replace uv:bv z hp ha:=uv;refine ae ?_;simp only [kQ,lj,eI,gS]; refine ae (ae (im ?_)); show wpAny _ _ (bn #[PF] >>= _) _ _ _;refine ae (D1.item k1 _ _ _ l1 (D1.frame _ _ _ oZ fun c hc o e=>uv.extBut c o (fun q=>Z.a1 (q ▸ hc)) e) fun x hb Ca px Cb oj=>ao ?_);replace oj:bv i1 ha hb:=oj;have wA:IsPair hb TO a b:=oj.extBut _ _ Z.O1 (uv.extBut _ _ Z.zTO vX);refine ae (dv wA rfl (ae (gu wA fun hc xK uw=>?_)));replace xK:IsPair hc TO x b:=xK;replace uw:bv TO hb hc:=uw;refine ae (jf (ao (ae (ae (im ?_))))); show wpAny _ _ (bn #[PD] >>= _) _ _ _;refine ae (D2.item k2 _ _ _ l2 (D2.frame _ _ _ m7 fun c qu o e=>uw.extBut c o (fun q=>Z.b2 (q ▸ qu)) (oj.extBut c o (fun q=>Z.b3 (q ▸ qu)) (uv.extBut c o (fun q=>Z.b1 (q ▸ qu)) e))) fun y hd FC py FD rP=>ao ?_);replace rP:bv i2 hc hd:=rP;have xM:IsPair hd TO x b:=rP.extBut _ _ Z.O2 xK;refine ae (dv xM rfl (ae (gu xM fun he xN Aj=>?_)));replace xN:IsPair he TO x y:=xN;replace Aj:bv TO hd he:=Aj;refine ae (jf (ao (ao ?_))); refine ae (dv xN rfl (ae (gT ?_)));have hsz:he.objs.size=hp.objs.size:=by rw [Aj.1,rP.1,uw.1,oj.1,uv.1]
  have hze:IsZ he z TI TO .ellipsis f1:=Aj.extBut _ _ Z.zTO.symm (rP.extBut _ _ Z.z2.symm #[OT]);have kk:∀ c o,c≠z->c≠TO->c≠i1->c≠i2->hp.get? c=some o->he.get? c=some o:=fun c o c1 c2 c3 c4 e=>Aj.extBut _ _ c2 (rP.extBut _ _ c4 (uw.extBut _ _ c2 (oj.extBut _ _ c3 (uv.extBut _ _ c1 e))))
  have FE:S1 (k1+1) he:=D1.frame _ _ _ Cb fun c qu o e=>Aj.extBut c o (fun q=>Z.a2 (q ▸ qu)) (rP.extBut c o (fun q=>Z.a3 (q ▸ qu)) (uw.extBut c o (fun q=>Z.a2 (q ▸ qu)) e))
  have FF:S2 (k2+1) he:=D2.frame _ _ _ FD fun c qu o e=>Aj.extBut c o (fun q=>Z.b2 (q ▸ qu)) e
  have zlt:z < he.objs.size:=aF hze;show wpAny _ _ (cW #[OY] (.ref he.objs.size) >>= _) _ _ _;refine ae ?_;unfold cW; have vq:IsZ (he.push { cls:=.type "tuple",data:=.seq #[x,y] }) z TI TO .ellipsis f1:=ai _ hze;refine ae (bV vq #[M] fun h7 FG yD=>?_);replace FG:IsZ h7 z TI TO (rawInt he.objs.size) f1:=FG;refine bV FG #[M] fun h8 Ef FH=>ao #[PJ]
  replace Ef:IsZ h8 z TI TO (rawInt he.objs.size) #[Sm]:=Ef;have up:∀ c o,c≠z->he.get? c=some o->h8.get? c=some o:=fun c o c1 e=>FH.extBut _ _ c1 (yD.extBut _ _ c1 (ai _ e))
  have yE:IsPair h8 he.objs.size x y:=FH.extBut _ _ (de zlt) (yD.extBut _ _ (de zlt) (aE _ rfl));have wB:h8.objs.size=he.objs.size+1:=by rw [FH.1,yD.1,bj]
  show Q (.ref he.objs.size) _;rw [hsz] at Ef yE wB |-;exact hQ x y h8 FC _ _ _ _ px py Ef ⟨.inr ⟨_,_,rfl⟩,_,rfl⟩ (up _ _ Z.zTI #[Rk]) (up _ _ Z.zTO xN) (D1.frame _ _ _ FE fun c qu o e=>up c o (fun q=>Z.a1 (q ▸ qu)) e) (D2.frame _ _ _ FF fun c qu o e=>up c o (fun q=>Z.b1 (q ▸ qu)) e) yE wB fun c o c1 c2 c3 c4 e=>up c o c1 (kk c o c1 c2 c3 c4 e)
 ·simp only [bA,if_false]; replace ue:bv z hp h0:=ue;rw [show (#[aX i1,aX i2]:Array Value) = [aX i1,aX i2].toArray from rfl];simp only [j6,eI,gS];refine ae (ae (ae (cm ?_))); show wpAny _ _ (bn #[PF] >>= _) _ _ _;refine ae (D1.item k1 _ _ _ l1 (D1.frame _ _ _ oZ fun c hc o e=>ue.extBut c o (fun q=>Z.a1 (q ▸ hc)) e) fun x hb Ca px Cb oj=>ao (ao ?_));replace oj:bv i1 h0 hb:=oj;refine ae (ae (cm ?_)); show wpAny _ _ (bn #[PD] >>= _) _ _ _;refine ae (D2.item k2 _ _ _ l2 (D2.frame _ _ _ m7 fun c qu o e=>oj.extBut c o (fun q=>Z.b3 (q ▸ qu)) (ue.extBut c o (fun q=>Z.b1 (q ▸ qu)) e)) fun y hd FC py FD rP=>ao (ao (ao ?_)));replace rP:bv i2 hb hd:=rP;show wpAny _ _ (newTuple [x,y] >>= _) _ _ _;refine ae (gT (ao #[PJ]));have hsz:hd.objs.size=hp.objs.size:=by rw [rP.1,oj.1,ue.1]
  have kk:∀ c o,c≠z->c≠TO->c≠i1->c≠i2->hp.get? c=some o->hd.get? c=some o:=fun c o c1 c2 c3 c4 e=>rP.extBut _ _ c4 (oj.extBut _ _ c3 (ue.extBut _ _ c1 e))
  have Eg:IsZ hd z TI TO f0 #[Op]:=rP.extBut _ _ Z.z2.symm (oj.extBut _ _ Z.z1.symm xJ);have xM:IsPair hd TO a b:=rP.extBut _ _ Z.O2 (oj.extBut _ _ Z.O1 (ue.extBut _ _ Z.zTO vX));have FI:S1 (k1+1) hd:=D1.frame _ _ _ Cb fun c qu o e=>rP.extBut c o (fun q=>Z.a3 (q ▸ qu)) e
  have up:∀ c o,hd.get? c=some o->(hd.push { cls:=.type "tuple",data:=.seq #[x,y] }).get? c=some o:=fun c o e=>ai _ e
  have yE:IsPair (hd.push { cls:=.type "tuple",data:=.seq #[x,y] }) hd.objs.size x y:=aE _ rfl;have wB:(hd.push { cls:=.type "tuple",data:=.seq #[x,y] }).objs.size=hd.objs.size+1:=bj ..;show Q (.ref hd.objs.size) _;rw [hsz] at yE wB |-;exact hQ x y _ FC _ _ _ _ px py (up _ _ Eg) ⟨hf.1,_,rfl⟩ (up _ _ #[Rk]) (up _ _ xM) (D1.frame _ _ _ FI fun c _ o e=>up c o e) (D2.frame _ _ _ FD fun c _ o e=>up c o e) yE wB fun c o c1 c2 c3 c4 e=>up c o (kk c o c1 c2 c3 c4 e)
theorem zlF {z TI TO i1 i2:Addr} {rh rj:List Addr} {n1 n2 k1 k2:Nat} {P1 P2:Nat->Value->Prop} {S1 S2:Nat->Heap->Prop} {f0 f1 a b:Value} {Q:Fin->Shared->Prop} (D1:Draws prog w A i1 rh n1 P1 S1) (D2:Draws prog w A i2 rj n2 P2 S2) (Z:Zap z TI TO i1 i2 rh rj)
  (hz:IsZ s.heap z TI TO f0 f1) (hf:ZF f0 f1) (vo:IsPair s.heap TI #[PF] #[PD]) (vX:IsPair s.heap TO a b) (oZ:S1 k1 s.heap) (m7:S2 k2 s.heap) (l1:k1=n1\/(k1 < n1/\k2=n2))
  (hE:∀ h' tk e,(∀ c o,c≠z->c≠TO->c≠i1->c≠i2->s.heap.get? c=some o->h'.get? c=some o)->(∃ o,h'.get? e=some o/\o.cls = .type "StopIteration")->E #[Q4] { s with heap:=h',toks:=tk }):wpAny #[pc] A (Builtin.«zip.__next__» ⟨[.ref z],[]⟩) Q E s:=by
 obtain⟨hp,g,d,Ee,os⟩:=s;have nz:∀ {h:Heap} {e:Addr} {o:Obj} {x y:Value},IsZ h z TI TO x y->h.get? e=some o->o.cls = .type "StopIteration"->e≠z:=fun h1 h2 h3 q=>by subst q; rw [h1] at h2; cases h2; simp at h3
 show wpAny _ _ (field #[OY] 2 >>= _) _ _ _; refine ae #[Rt]; show wpAny _ _ (field #[OY] 3 >>= _) _ _ _;refine ae #[Sr]; refine ae (dv vo rfl ?_);show wpAny _ _ (b8 #[OY] >>= _) _ _ _; refine ae (zlE hz hf ?_ fun h0 xJ ue=>?_)
 ·simp only [if_true];refine ae #[QZ];refine ae (bV hz #[M] fun ha yC uv=>?_);replace yC:IsZ ha z TI TO .ellipsis f1:=yC;replace uv:bv z hp ha:=uv;refine ae ?_;simp only [kQ,lj,eI,gS]; refine ae (ae (im ?_)); show wpAny _ _ (bn #[PF] >>= _) _ _ _;have wC:S1 k1 ha:=D1.frame _ _ _ oZ fun c hc o e=>uv.extBut c o (fun q=>Z.a1 (q ▸ hc)) e
  rcases l1 with rfl | ⟨l1,rfl⟩
  ·refine ae (D1.done _ _ _ wC fun hb e oj ⟨oe,Cc,Cd⟩=>?_);have Bo:IsZ hb z TI TO .ellipsis f1:=oj _ _ Z.z1.symm yC;exact bV Bo #[M] fun h3 _ uf=>hE h3 Ee e (fun c o c1 _ c3 _ x=>uf.extBut _ _ c1 (oj _ _ c3 (uv.extBut _ _ c1 x))) ⟨oe,uf.extBut _ _ (nz Bo Cc Cd) Cc,Cd⟩
  ·refine ae (D1.item k1 _ _ _ l1 wC fun x hb Ca px Cb oj=>ao ?_);replace oj:bv i1 ha hb:=oj;have wA:IsPair hb TO a b:=oj.extBut _ _ Z.O1 (uv.extBut _ _ Z.zTO vX);refine ae (dv wA rfl (ae (gu wA fun hc xK uw=>?_)));replace uw:bv TO hb hc:=uw;refine ae (jf (ao (ae (ae (im ?_))))); show wpAny _ _ (bn #[PD] >>= _) _ _ _;refine ae (D2.done _ _ _ (D2.frame _ _ _ m7 fun c qu o e=>uw.extBut c o (fun q=>Z.b2 (q ▸ qu)) (oj.extBut c o (fun q=>Z.b3 (q ▸ qu)) (uv.extBut c o (fun q=>Z.b1 (q ▸ qu)) e))) fun hd e rP ⟨oe,Cc,Cd⟩=>?_);have Eg:IsZ hd z TI TO .ellipsis f1:=rP _ _ Z.z2.symm #[OT];exact bV Eg #[M] fun h3 _ uf=>hE h3 Ca e (fun c o c1 c2 c3 c4 x=>uf.extBut _ _ c1 (rP _ _ c4 (uw.extBut _ _ c2 (oj.extBut _ _ c3 (uv.extBut _ _ c1 x))))) ⟨oe,uf.extBut _ _ (nz Eg Cc Cd) Cc,Cd⟩
 ·simp only [bA,if_false]; replace ue:bv z hp h0:=ue;rw [show (#[aX i1,aX i2]:Array Value) = [aX i1,aX i2].toArray from rfl];simp only [j6,eI,gS];refine ae (ae (ae (cm ?_))); show wpAny _ _ (bn #[PF] >>= _) _ _ _;have wC:S1 k1 h0:=D1.frame _ _ _ oZ fun c hc o e=>ue.extBut c o (fun q=>Z.a1 (q ▸ hc)) e
  rcases l1 with rfl | ⟨l1,rfl⟩
  ·exact ae (D1.done _ _ _ wC fun hb e oj he=>hE hb Ee e (fun c o c1 _ c3 _ x=>oj _ _ c3 (ue.extBut _ _ c1 x)) he)
  ·refine ae (D1.item k1 _ _ _ l1 wC fun x hb Ca px Cb oj=>ao (ao ?_));replace oj:bv i1 h0 hb:=oj;refine ae (ae (cm ?_)); show wpAny _ _ (bn #[PD] >>= _) _ _ _;exact ae (D2.done _ _ _ (D2.frame _ _ _ m7 fun c qu o e=>oj.extBut c o (fun q=>Z.b3 (q ▸ qu)) (ue.extBut c o (fun q=>Z.b1 (q ▸ qu)) e)) fun hd e rP he=>hE hd Ca e (fun c o c1 _ c3 c4 x=>rP _ _ c4 (oj.extBut _ _ c3 (ue.extBut _ _ c1 x))) he)
theorem znt {e z TI TO i1 i2:Addr} {rh rj:List Addr} {n1 n2 i:Nat} {P1 P2:Nat->Value->Prop} {S1 S2:Nat->Heap->Prop} {f0 f1 a b old:Value} {Q:Option Value->Shared->Prop} (D1:Draws prog w A.in1.in1 i1 rh n1 P1 S1) (D2:Draws prog w A.in1.in1 i2 rj n2 P2 S2) (Z:Zap z TI TO i1 i2 rh rj)
  (he:IsEnum s.heap e z i old) (ez:e≠z) (eT:e≠TI) (eO:e≠TO) (e1:e≠i1) (e2:e≠i2) (ef1:e∉rh) (ef2:e∉rj)
  (hz:IsZ s.heap z TI TO f0 f1) (hf:ZF f0 f1) (vo:IsPair s.heap TI #[PF] #[PD]) (vX:IsPair s.heap TO a b) (oZ:S1 i s.heap) (m7:S2 i s.heap) (l1:i < n1) (l2:i < n2)
  (hQ:∀ x y h' tk g0 g1 a' b',P1 i x->P2 i y->IsEnumOut h' e z ((i:Int)+1) #[ss] #[Do]->IsZ h' z TI TO g0 g1->ZF g0 g1->IsPair h' TI #[PF] #[PD]->IsPair h' TO a' b'->S1 (i+1) h'->S2 (i+1) h'->IsPair h' s.heap.objs.size x y ->
   IsPair h' #[Do] (.int i tk) #[ss]->h'.objs.size=s.heap.objs.size+2 ->
   (∀ c o,c≠e->c≠z->c≠TO->c≠i1->c≠i2->s.heap.get? c=some o->h'.get? c=some o)->Q (some (.ref #[Do])) { s with heap:=h',toks:=tk+1 }):wpAny #[pc] A (pyNext #[Q4]) Q E s:=by
 have hT:s.TypeIs #[Q4] "enumerate":=⟨_,he,rfl⟩; have vt:s.TypeIs #[OY] "zip":=⟨_,hz,rfl⟩;unfold pyNext;refine ae (dk (bK (name:=bD "__next__") hT eR (bS eR hT jg ?_ (iU _))));obtain⟨hp,g,d,Ee,os⟩:=s;show wpAny _ _ (field #[Q4] 2 >>= _) _ _ _; refine ae #[RX];unfold bn; refine ae (bK (name:=bD "__next__") vt dC #[OJ]);refine zji D1 D2 Z hz hf vo vX oZ m7 l1 l2 fun x y h1 tk g0 g1 a' b' px py qA FJ Ak Al Am An ux Ao kk=>ao ?_
 have FK:IsEnum h1 e z i old:=kk _ _ ez eO e1 e2 he;have elt:e < hp.objs.size:=aF he;show wpAny _ _ (field #[Q4] 3 >>= _) _ _ ⟨h1,g,d,tk,os⟩; refine ae (bP FK rfl (x:=rawInt i) rfl ?_);show wpAny _ _ (field #[Q4] 4 >>= _) _ _ ⟨h1,g,d,tk,os⟩; refine ae (bP FK rfl (x:=.none) rfl ?_);show wpAny _ _ (mkInt i >>= _) _ _ ⟨h1,g,d,tk,os⟩; refine ae (wpAny_mkInt ?_);show wpAny _ _ (setField #[Q4] 3 (rawInt ((i:Int)+1)) >>= _) _ _ ⟨h1,g,d,tk+1,os⟩; refine ae (bV FK #[M] fun h2 FN oB=>?_);replace oB:bv e h1 h2:=oB;replace FN:IsEnum h2 e z ((i:Int)+1) old:=FN;show wpAny _ _ (setField #[Q4] 4 .none >>= _) _ _ ⟨h2,g,d,tk+1,os⟩; refine ae (bV FN #[M] fun h3 FO uf=>?_);replace uf:bv e h2 h3:=uf;replace FO:IsEnum h3 e z ((i:Int)+1) old:=FO;show wpAny _ _ (newTuple [.int i tk,.ref hp.objs.size] >>= _) _ _ ⟨h3,g,d,tk+1,os⟩; refine ae (gT ?_);have z3:h3.objs.size=hp.objs.size+1:=by rw [uf.1,oB.1]; exact Ao
 rw [z3];have Eh:IsEnum (h3.push { cls:=.type "tuple",data:=.seq #[M7] }) e z ((i:Int)+1) old:=ai _ FO;have FP:=aE h3 (o:={ cls:=.type "tuple",data:=.seq #[M7] }) rfl;rw [z3] at FP;have k4:∀ c o,c≠e->h1.get? c=some o->(h3.push { cls:=.type "tuple",data:=.seq #[M7] }).get? c=some o:=fun c o ce x=>ai _ (uf.extBut c o ce (oB.extBut c o ce x))
 have z4:(h3.push { cls:=.type "tuple",data:=.seq #[M7] }).objs.size=hp.objs.size+2:=by rw [bj,z3]
 generalize h3.push { cls:=.type "tuple",data:=.seq #[M7] }=h4 at Eh FP k4 z4 |-;show wpAny _ _ (b8 #[Q4] >>= _) _ _ ⟨h4,g,d,tk+1,os⟩;refine ae ?_;unfold b8; refine ae (bP Eh rfl (x:=.none) rfl (ao ?_));simp only [if_true]; refine ae (cF (ae (bP Eh rfl (x:=old) rfl ?_)));refine ae (bV Eh #[M] fun h5 FQ Bp=>?_);replace Bp:bv e h4 h5:=Bp;replace FQ:IsEnum h5 e z ((i:Int)+1) #[Rh]:=FQ;show wpAny _ _ (cW #[Q4] (.ref (hp.objs.size+1)) >>= _) _ _ ⟨h5,g,d,tk+1,os⟩;refine ae ?_;unfold cW; refine ae (bV FQ #[M] fun h6 FR yF=>?_);replace yF:bv e h5 h6:=yF;replace FR:IsEnumOut h6 e z ((i:Int)+1) #[Rh] (hp.objs.size+1):=FR;refine bV FR #[M] fun h7 FT yD=>?_
 replace yD:bv e h6 h7:=yD;replace FT:IsEnumOut h7 e z ((i:Int)+1) #[Rh] (hp.objs.size+1):=FT;have up:∀ c o,c≠e->h4.get? c=some o->h7.get? c=some o:=fun c o ce x=>yD.extBut c o ce (yF.extBut c o ce (Bp.extBut c o ce x))
 have z7:h7.objs.size=hp.objs.size+2:=by rw [yD.1,yF.1,Bp.1,z4]
 refine ae (jf (ao ⟨_,rfl,ao ?_⟩));exact hQ x y h7 tk g0 g1 a' b' px py FT (up _ _ ez.symm (k4 _ _ ez.symm qA)) FJ (up _ _ eT.symm (k4 _ _ eT.symm Ak)) (up _ _ eO.symm (k4 _ _ eO.symm Al))
  (D1.frame _ _ _ Am fun c hc o x=>up c o (fun q=>ef1 (q ▸ hc)) (k4 c o (fun q=>ef1 (q ▸ hc)) x)) (D2.frame _ _ _ An fun c hc o x=>up c o (fun q=>ef2 (q ▸ hc)) (k4 c o (fun q=>ef2 (q ▸ hc)) x))
  (up _ _ (de elt) (k4 _ _ (de elt) ux)) (up _ _ (de (cA elt)) FP) z7 fun c o ce cz cO c1 c2 x=>up c o ce (k4 c o ce (kk c o cz cO c1 c2 x))
theorem zpo {e z TI TO i1 i2:Addr} {rh rj:List Addr} {n1 n2 k:Nat} {i:Int} {P1 P2:Nat->Value->Prop} {S1 S2:Nat->Heap->Prop} {f0 f1 a b old:Value} {Q:Option Value->Shared->Prop} (D1:Draws prog w A.in1.in1 i1 rh n1 P1 S1) (D2:Draws prog w A.in1.in1 i2 rj n2 P2 S2) (Z:Zap z TI TO i1 i2 rh rj)
  (he:IsEnum s.heap e z i old) (hz:IsZ s.heap z TI TO f0 f1) (hf:ZF f0 f1) (vo:IsPair s.heap TI #[PF] #[PD]) (vX:IsPair s.heap TO a b) (oZ:S1 k s.heap) (m7:S2 k s.heap) (l1:k=n1\/(k < n1/\k=n2))
  (hQ:∀ h' tk,(∀ c o,c≠z->c≠TO->c≠i1->c≠i2->s.heap.get? c=some o->h'.get? c=some o)->Q none { s with heap:=h',toks:=tk }):wpAny #[pc] A (pyNext #[Q4]) Q E s:=by
 have hT:s.TypeIs #[Q4] "enumerate":=⟨_,he,rfl⟩; have vt:s.TypeIs #[OY] "zip":=⟨_,hz,rfl⟩;unfold pyNext;refine ae (dk (bK (name:=bD "__next__") hT eR (bS eR hT jg ?_ (iU _))));show wpAny _ _ (field #[Q4] 2 >>= _) _ _ _; refine ae #[RX];unfold bn; refine ae (bK (name:=bD "__next__") vt dC #[OJ]);refine zlF D1 D2 Z hz hf vo vX oZ m7 l1 fun h' tk x kk ⟨o,ho,hc⟩=>?_
 exact ae (fe (T:="StopIteration") (b:=true) ⟨o,ho,hc⟩ gP (ao (hQ h' tk kk)))
end
noncomputable def zgr (x y:Value):Obj:={ cls:=.type "tuple",data:=.seq #[x,y] }
noncomputable def zqi (a b:Addr):Obj:={ cls:=.type "zip",data:=.fields #[.none,.bool false,.bool false,.ref a,.ref b] }
noncomputable def itO (C:String) (l:Addr):Obj:={ cls:=.type C,data:=.fields #[.ref l,.int 0 0] }
abbrev zt2 (C:String) (h:Heap) (l1 l2:Addr):Heap:=#[SJ].push (itO C l2)
abbrev zt4 (C:String) (h:Heap) (l1 l2:Addr):Heap:=((zt2 C h l1 l2).push (zgr (.ref h.objs.size) (.ref #[SJ].objs.size))).push (zgr .none .none)
abbrev zt5 (C:String) (h:Heap) (l1 l2:Addr):Heap:=(zt4 C h l1 l2).push (zqi (zt2 C h l1 l2).objs.size ((zt2 C h l1 l2).push (zgr (.ref h.objs.size) (.ref #[SJ].objs.size))).objs.size)
noncomputable def ItC (C:String) (h:Heap) (a l:Addr) (i:Nat):Prop:=∃ o,h.get? a=some o/\o.cls = .type C/\o.data = .fields #[.ref l,.int i 0]
structure SkH (C:String) (Is:Heap->Addr->Array Value->Prop):Prop where
 it:∀ {prog:Program} {w:World} {A:Around} {E:Value->Shared->Prop} {s:Shared} {l:Addr} {items:Array Value} {Q:Value->Shared->Prop},Is s.heap l items->Q #[ss] { s with heap:=s.heap.push (itO C l) }->wpAny #[pc] A (pyIter #[Nv]) Q E s
 pu:∀ {h:Heap} {l:Addr} {items:Array Value} (o:Obj),Is h l items->Is (h.push o) l items
 dr:∀ {prog:Program} {w:World} {A:Around},A.handled=none->∀ (it l:Addr),l≠it->∀ (items:Array Value),Draws prog w A it [it,l] items.size (fun i v=>items[i]? = some v) fun i h=>ItC C h it l i/\Is h l items
theorem skL:SkH "list_iterator" Heap.IsList:=⟨fun h q=>fW h q,fun o h=>Heap.IsList.push h o,fun hh it l ne items=>fR hh it l ne items⟩
theorem zhz {C:String} {Is:Heap->Addr->Array Value->Prop} (S:SkH C Is) (l1 l2:Addr) (xs ys:Array Value):Meets (Builtin.«zip.__new__» ⟨[.type "zip",.ref l1,.ref l2],[]⟩) (fun _ R s=>s.heap.IsTuple l1 xs/\Is s.heap l2 ys/\R (.ok (.ret (.ref #[QM].objs.size))) { s with heap:=zt5 C s.heap l1 l2 }) :=
 .of_wp fun prog w A R s h=>by
  obtain⟨hp,g,d,tk,os⟩:=s; obtain⟨pN,oT,h⟩:=h; have xO:=sub_zip;have xm:Heap.IsTuple (kF ⟨hp,g,d,tk,os⟩) l1 xs:=pN;have Ap:Is (kF ⟨hp.push { cls:=.type "tuple_iterator",data:=.fields #[.ref l1,.int 0 0] },g,d,tk,os⟩) l2 ys:=S.pu _ oT
  wp_walk using h9 xm,S.it Ap
  exact⟨_,rfl,h⟩
section
variable {prog:Program} {w:World} {A:Around} {E:Value->Shared->Prop} {s:Shared}
theorem zeL {C:String} {Is:Heap->Addr->Array Value->Prop} (S:SkH C Is) {l1 l2:Addr} {xs ys:Array Value} {Q:Value->Shared->Prop} (pN:s.heap.IsTuple l1 xs) (oT:Is s.heap l2 ys)
  (h:∀ h' n,n=s.heap.objs.size->IsZ h' (n+4) (n+2) (n+3) .none #[Sm]->IsPair h' (n+2) (.ref n) #[Q8]->IsPair h' (n+3) .none .none->h'.IsTupleIter n l1 0->ItC C h' (n+1) l2 0->h'.objs.size=n+5 ->
   (∀ c o,s.heap.get? c=some o->h'.get? c=some o)->Q #[Q7] { s with heap:=h' }):wpAny #[pc] A (call (.type "zip") [.ref l1,.ref l2]) Q E s:=by
 refine j5 F.called_zip #[D] (F.typeCall_zip_2 _ _) (F.newCall_zip_2 _ _) (fun obj=>F.args_object_init_3 obj _ _) F.entry_zip_new (zhz S l1 l2 xs ys) ⟨pN,oT,?_⟩;have z1:#[LE].objs.size=s.heap.objs.size+1:=bj ..;have z2:#[M0].objs.size=s.heap.objs.size+2:=by rw [bj,z1]
 have z3:(#[M0].push (zgr #[ss] (.ref #[LE].objs.size))).objs.size=s.heap.objs.size+3:=by rw [bj,z2]
 have z4:#[QM].objs.size=s.heap.objs.size+4:=by rw [bj,z3]
 have g5:=aE #[QM] (o:=zqi #[M0].objs.size (#[M0].push (zgr #[ss] (.ref #[LE].objs.size))).objs.size) rfl;have g4:#[MZ].get? _=some _:=ai _ (aE (#[M0].push (zgr #[ss] (.ref #[LE].objs.size))) (o:=zgr .none .none) rfl);have g3:#[MZ].get? _=some _:=ai _ (ai _ (aE #[M0] (o:=zgr #[ss] (.ref #[LE].objs.size)) rfl));have g2:#[MZ].get? _=some _:=ai _ (ai _ (ai _ (aE #[LE] (o:=itO C l2) rfl)));have g1:#[MZ].get? s.heap.objs.size=some (zcH l1):=ai _ (ai _ (ai _ (ai _ (aE _ rfl))));have z5:#[MZ].objs.size=s.heap.objs.size+5:=by rw [bj,z4]
 have k5:∀ c o,s.heap.get? c=some o->#[MZ].get? c=some o:=fun c o x=>ai _ (ai _ (ai _ (ai _ (ai _ x))))
 show _/\_;rw [z4] at g5 |-;rw [z3] at g4;rw [z2] at g3;rw [z1] at g2;refine⟨⟨_,g5,rfl⟩,h _ _ rfl ?_ ?_ g4 ⟨_,g1,rfl,rfl⟩ ⟨_,g2,rfl,rfl⟩ z5 k5⟩
 ·have:IsZ #[MZ] (s.heap.objs.size+4) #[M0].objs.size (#[M0].push (zgr #[ss] (.ref #[LE].objs.size))).objs.size .none #[Sm]:=g5;rw [z2,z3] at this;exact this
 ·have:IsPair #[MZ] (s.heap.objs.size+2) #[ss] (.ref #[LE].objs.size):=g3;rw [z1] at this;exact this
theorem ziJ {l1 l2:Addr} {xs ys:Array Value} {Q:Value->Shared->Prop} (pN:s.heap.IsTuple l1 xs) (oT:s.heap.IsList l2 ys)
  (h:∀ h' n,n=s.heap.objs.size->IsZ h' (n+4) (n+2) (n+3) .none #[Sm]->IsPair h' (n+2) (.ref n) #[Q8]->IsPair h' (n+3) .none .none->h'.IsTupleIter n l1 0->h'.IsListIter (n+1) l2 0->h'.objs.size=n+5 ->
   (∀ c o,s.heap.get? c=some o->h'.get? c=some o)->Q #[Q7] { s with heap:=h' }):wpAny #[pc] A (call (.type "zip") [.ref l1,.ref l2]) Q E s:=zeL skL pN oT h
end
open AutoSeq1 (wpAny_loadPart') in
theorem zhA (z TI TO:Addr) (f0:Value):Meets (Builtin.«enumerate.__new__» ⟨[.type "enumerate",.ref z],[]⟩) (fun _ R s=>IsZip s.heap z TI TO f0/\R (.ok (.ret #[ss])) { s with heap:=s.heap.push (zls z) }) :=
 .of_wp fun prog w A R s h=>by
  obtain⟨hp,g,d,tk,os⟩:=s; obtain⟨hz,h⟩:=h;have hZ:IsZip (kF ⟨hp,g,d,tk,os⟩) z TI TO f0:=hz;have xO:=sub_enumerate; wp_walk using i7 hz;refine wpAny_stack_any fun st=>ao ?_; split
  ·rename_i c _ _ _ _ _; cases (c == gm "enumerate") <;> (wp_walk using i7 hz,ge hZ; exact⟨_,rfl,h⟩)
  ·wp_walk using i7 hz,ge hZ; exact⟨_,rfl,h⟩
theorem ziK {prog:Program} {w:World} {A:Around} {E:Value->Shared->Prop} {s:Shared} {z TI TO:Addr} {f0:Value} {Q:Value->Shared->Prop} (hz:IsZip s.heap z TI TO f0)
  (h:∀ h',IsEnum h' s.heap.objs.size z 0 .none->h'.objs.size=s.heap.objs.size+1->(∀ b o,s.heap.get? b=some o->h'.get? b=some o)->Q #[ss] { s with heap:=h' }):wpAny #[pc] A (call (.type "enumerate") [.ref z]) Q E s:=by
 refine j5 F.called_enumerate #[D] (F.typeCall_enumerate_1 _) (F.newCall_enumerate_1 _) (fun obj=>jC obj _) F.entry_enumerate_new (zhA z TI TO f0) ⟨hz,?_⟩;have he:=aE s.heap (o:=zls z) rfl;exact⟨⟨_,he,rfl⟩,h _ he (bj ..) fun b o x=>ai _ x⟩
end PySem
end
section
namespace L2
open PySem PySem.Spec PyProof.Rows
variable {P:Program} {j k:Nat} {pos:Pos} {w:World}
noncomputable def znu (rM rN:Hp->Addr->List V->Prop) (a b:Addr):It :=
 ⟨fun i H=>∃ xs ys x y,rM H a xs/\rN H b ys/\xs[i]? = some x/\ys[i]? = some y,
  fun i H x H'=>∃ T1 T2 u v,H T1=none/\H T2=none/\T1≠T2/\x = .ref T2/\H'=lP (lP H T1 (.tup [u,v])) T2 (.tup [.int i,.ref T1])/\(∀ xs,rM H a xs->xs[i]? = some u)/\∀ ys,rN H b ys->ys[i]? = some v,
  fun i H=>∃ xs ys,rM H a xs/\rN H b ys/\xs.length=i⟩
abbrev zeM (n:Nat):List Addr:=[n+5,n+4,n+2,n+3,n,n+1]
abbrev zpp (n a b:Nat) (i:Nat) (h:Heap):Prop:=(∃ old,IsEnum h (n+5) (n+4) i old)/\(∃ f0 f1,IsZ h (n+4) (n+2) (n+3) f0 f1/\ZF f0 f1)/\IsPair h (n+2) (.ref n) #[Q8]/\(∃ u v,IsPair h (n+3) u v)/\h.IsTupleIter n a i/\h.IsListIter (n+1) b i
theorem nq {x y:Nat} (h:x≠y):@Ne Addr x y:=h
theorem nl {x y:Nat} (h:x < y):@LT.lt Nat _ x y:=h
theorem nm2 {c x y:Nat} (h1:c≠x) (h2:c≠y):¬ @Membership.mem Addr (List Addr) _ [x,y] c:=fun h=>by
 rcases aB.mp h with e | e
 ·exact h1 e
 ·exact h2 (aU.mp e)
theorem zc1 {n a b:Nat} (ha:a < n) (hb:b < n):Zap (n+4) (n+2) (n+3) n (n+1) [n,a] [n+1,b] :=
 ⟨nq #[O],nq #[O],nq #[O],nq #[O],nq #[O],nq #[O],nq #[O],nq #[O],nq #[O],nq #[O],nm2 #[O] #[O],nm2 #[O] #[O],nm2 #[O] #[O],nm2 #[O] #[O],nm2 #[O] #[O],nm2 #[O] #[O]⟩
theorem znv {K:ah} {es:List Expr} (a b n:Nat) (ha:a < n) (hb:b < n):Turn P w K #[Om] (znu (lY K) (lO K) a b) (zeM n) (n+5) (zpp n a b) where
 mem:=by simp
 obj:=fun i h st c hc=>by
  obtain⟨⟨old,h0⟩,⟨f0,f1,h1,_⟩,h2,⟨u,v,h3⟩,⟨o4,e4,_,d4⟩,⟨o5,e5,_,d5⟩⟩:=st;simp only [zeM,aB,aY,or_false] at hc;rcases hc with z | z | z | z | z | z <;> subst z
  ·exact⟨_,h0,fun v z=>by cases z⟩
  ·exact⟨_,h1,fun v z=>by cases z⟩
  ·exact⟨_,h2,fun v z=>by cases z⟩
  ·exact⟨_,h3,fun v z=>by cases z⟩
  ·exact⟨_,e4,fun v z=>by rw [d4] at z; cases z⟩
  ·exact⟨_,e5,fun v z=>by rw [d5] at z; cases z⟩
 keep:=fun i h h' st kk=>by
  obtain⟨⟨old,h0⟩,⟨f0,f1,h1,hf⟩,h2,⟨u,v,h3⟩,h4,h5⟩:=st;exact⟨⟨old,kk _ #[M] _ h0⟩,⟨f0,f1,kk _ #[M] _ h1,hf⟩,kk _ #[M] _ h2,#[Qv],h4.at fun o eo=>kk _ #[M] o eo,h5.at fun o eo=>kk _ #[M] o eo⟩
 item:=by
  intro X hP hw hK hc i lN s σ H E I hf st hg;subst hP hw hK;obtain⟨xs,ys,x,y,pQ,oA,hx,hy⟩:=hg;obtain⟨⟨old,h0⟩,⟨f0,f1,h1,vq⟩,h2,⟨u0,v0,h3⟩,h4,h5⟩:=st;obtain⟨mQ,rO,p1,qA⟩:=I.tuple pQ;obtain⟨mL,rZ,p2,rA⟩:=I.list oA;obtain⟨u,hu,ru⟩:=rO.get hx;obtain⟨v,hv,rv⟩:=rZ.get hy;have uq:n+5 < s.heap.objs.size:=aF h0;have hh:X.A.in1.in1.handled=none:=by simp [I.ok.hd hc]
  have qr:i < mQ.toArray.size:=by have:=(av.mp hu).1; simpa using this
  have qt:i < mL.toArray.size:=by have:=(av.mp hv).1; simpa using this
  refine znt #[MV] #[S4] #[Rn] h0 #[NU] #[NU] #[NU] #[NU] #[NU] (nm2 #[O] #[O]) (nm2 #[O] #[O]) h1 vq h2 h3 ⟨h4,(show s.heap.IsTuple a mQ.toArray from p1)⟩ ⟨h5,p2.isList⟩ qr qt
   fun x' y' h' tk g0 g1 a' b' px py eo ez Ce e2 e3 t4 t5 pp pe hsz kk=>?_
  have eu:x'=u:=by
   have e1:mQ[i]? = some x':=by simpa using px
   rw [hu] at e1; exact (aS e1).symm
  have ev:y'=v:=by
   have e1:mL[i]? = some y':=by simpa using py
   rw [hv] at e1; exact (aS e1).symm
  subst eu ev;have ch:∀ c∈[n+5,n+4,n+3,n,n+1],c∈zeM n:=fun c lV=>by
   simp only [zeM,aB,aY,or_false] at lV |-;rcases lV with z | z | z | z | z <;> subst z <;> simp
  have k1:∀ c o,c∉[n+5,n+4,n+3,n,n+1]->s.heap.get? c=some o->h'.get? c=some o:=fun c o lV eo=>by
   simp only [aB,aY,or_false,not_or] at lV;exact kk c o lV.1 lV.2.1 lV.2.2.1 lV.2.2.2.1 lV.2.2.2.2 eo
  have Af:∀ c∈[n+5,n+4,n+3,n,n+1],∃ o,h'.get? c=some o:=fun c lV=>by
   simp only [aB,aY,or_false] at lV;rcases lV with z | z | z | z | z <;> subst z
   ·exact⟨_,eo⟩
   ·exact⟨_,ez⟩
   ·exact⟨_,e3⟩
   ·obtain⟨o,e,_⟩:=t4.1; exact⟨o,e⟩
   ·obtain⟨o,e,_⟩:=t5.1; exact⟨o,e⟩
  have I1:Inv X lN σ (lP H s.heap.objs.size (.tup [x,y])) { s with heap:=h',toks:=tk+1 } :=
   I.JO k1 (fun c lV=>hf c (ch c lV)) Af (af _) #[QB]
  have ug:H #[Do]=none:=I.hok.fresh (g7 _);have FU:lP H s.heap.objs.size (.tup [x,y]) #[Do]=none:=by rw [zn (iJ _)]; exact ug
  obtain⟨_,a1,a2,a3,a4,a5⟩:=I.KY (H':=H) (g7 s.heap.objs.size) ug;have I1':Inv X lN σ (lP (lP H s.heap.objs.size (.tup [x,y])) #[Do] (.tup [.int i,.ref s.heap.objs.size])) { s with heap:=h',toks:=tk+1 } :=
   I1.Lj FU (aV I.sz (g7 _)) (dq a1) a4 a5 ⟨zaX,_,.cons ⟨tk,rfl⟩ (.cons rfl .nil),zbY pe⟩
  refine⟨_,rfl,ik eo fun xk uu oU=>?_⟩;have fr:∀ c∈zeM n,lP (lP H s.heap.objs.size (.tup [x,y])) #[Do] (.tup [.int i,.ref s.heap.objs.size]) c=none:=fun c lV=>by
   have mh:c < s.heap.objs.size:=by
    simp only [zeM,aB,aY,or_false] at lV;rcases lV with z | z | z | z | z | z <;> subst z <;> exact nl #[O]
   rw [zn (a8 (cA mh)),zn (a8 mh)];exact (hf c lV).1
  have I2:Inv X lN σ (lP (lP H s.heap.objs.size (.tup [x,y])) #[Do] (.tup [.int i,.ref s.heap.objs.size])) { s with heap:=xk,toks:=tk+1 } :=
   Inv.Kd (s:={ s with heap:=h',toks:=tk+1 }) (ch:=[n+5]) (t':=tk+1) I1' (fun c o lV eo=>oU.extBut c o (by simpa using lV) eo) (fun c lV=>by
    have z:c=n+5:=by simpa using lV
    subst z;exact⟨fr _ #[M],(hf _ #[M]).2⟩) (fun c lV=>by
    have z:c=n+5:=by simpa using lV
    subst z;exact⟨_,uu⟩)
  have up:∀ c o,c≠n+5->h'.get? c=some o->xk.get? c=some o:=fun c o lV e=>oU.extBut c o lV e
  exact⟨.ref #[Do],_,I2,rfl,⟨_,_,x,y,I.fresh,ug,a8 (gd _),rfl,rfl,fun zs hz=>by rw [I.JP hz pQ]; exact hx,fun zs hz=>by rw [I.Jp hz oA]; exact hy⟩,
   ⟨⟨_,by simpa using uu⟩,⟨g0,g1,up _ _ #[NU] ez,Ce⟩,up _ _ #[NU] e2,⟨_,_,up _ _ #[NU] e3⟩,t4.1.at fun o e=>up _ o #[NU] e,t5.1.at fun o e=>up _ o #[NU] e⟩,fr⟩
 done:=by
  intro X hP hw hK hc i lN s σ H E I hf st hg;subst hP hw hK;obtain⟨xs,ys,pQ,oA,hx⟩:=hg;obtain⟨⟨old,h0⟩,⟨f0,f1,h1,vq⟩,h2,⟨u0,v0,h3⟩,h4,h5⟩:=st;obtain⟨mQ,rO,p1,qA⟩:=I.tuple pQ;obtain⟨mL,rZ,p2,rA⟩:=I.list oA;have hh:X.A.in1.in1.handled=none:=by simp [I.ok.hd hc]
  have pN:=rO.length;refine zpo #[MV] #[S4] #[Rn] h0 h1 vq h2 h3 ⟨h4,(show s.heap.IsTuple a mQ.toArray from p1)⟩ ⟨h5,p2.isList⟩ (.inl (by rw [aq]; lia)) fun h' tk kk=>#[QE]
  have sub:∀ c∈[n+4,n+3,n,n+1],c∈zeM n:=fun c lV=>by
   simp only [zeM,aB,aY,or_false] at lV |-;rcases lV with z | z | z | z <;> subst z <;> simp
  have k1:∀ c o,c∉[n+4,n+3,n,n+1]->s.heap.get? c=some o->h'.get? c=some o:=fun c o lV e=>by
   simp only [aB,aY,or_false,not_or] at lV;exact kk c o lV.1 lV.2.1 lV.2.2.1 lV.2.2.2 e
  have tD:∀ d u',H d=some u'->d∉[n+4,n+3,n,n+1]:=fun d u' e' hd=>by rw [(hf d (sub d hd)).1] at e'; cases e'
  refine I.step (g':=s.gens) (d':=s.drawn) (t':=tk) (ch:=[n+4,n+3,n,n+1]) #[R1] #[Ox] #[Nz] #[NH]
   (fun c o mZ e=>⟨o,k1 c o mZ e⟩) #[Ot] #[NK] (fun c ps e=>⟨#[],by rw [e]; simp⟩) #[Os] #[Rr] I.bare
  ·obtain⟨_,a1,_,a3,a4,a5⟩:=hf c (sub c lV);exact⟨a3,a1,a4,a5⟩
  ·obtain⟨o,vT,ep,ho,r⟩:=hm;exact⟨o,vT,ep,k1 _ o (fun z=>(hf _ (sub _ z)).2.1 rfl) ho,r⟩
  ·refine #[Si].KO #[O4] #[Pj] fun _ _ q=>q
   rcases hd with z | z
   ·rw [z]; exact tD c u e
   ·exact tD d _ z
 self:=fun _ _ _ _ _ st h=>by
  obtain⟨⟨old,he⟩,_⟩:=st;exact fY he h
noncomputable def iEZ (rM rN:Hp->Addr->List V->Prop) (ta:TA):TI:=fun σ H R=>ta σ H fun vs H1=>∃ a b xs ys,vs = [.ref a,.ref b]/\rM H1 a xs/\rN H1 b ys/\R (znu rM rN a b) H1
theorem ziL {X:Cx} {es:List Expr} {k:Nat} {qF p p2 pos oV:Pos} {a b:Expr} {ta:TA} (hg:Gl X "enumerate") (hm:X.mg "enumerate" = none) (xP:Gl X "zip") (sg:X.mg "zip" = none) (ha:PA X [a,b] ta) (hs:starEach [a,b] X.env = [#[KM],#[Ev]]:=by rfl) (oB:starEach [b] X.env = [#[Ev]]:=by rfl)
  (uf:starEach [.Call (.Name "zip" p2) [a,b] [] oV] X.env = [(false,eval (.Call (.Name "zip" p2) [a,b] [] oV) X.env)]:=by rfl) :
  PI X #[OE] (.Call (.Name "enumerate" p) [.Call (.Name "zip" p2) [a,b] [] oV] [] pos) (iEZ (lY X.K) #[RZ] ta):=by
 intro lN s σ H R I h;refine Call_ (zbr I hg hm boot_enumerate (bE ?_ uf rfl));rw [uf];show wpAny _ _ (spliced ((false,eval (.Call (.Name "zip" p2) [a,b] [] oV) X.env) :: [])) _ _ s;refine dt ?_;refine Call_ (zbr I xP sg kP (bE (thn (ha oV lN s σ H _ I h) fun us s1 ⟨vs,H1,I1,r1,q1⟩=>?_) (by rw [hs,oB]) (by rw [oB]; rfl)));obtain⟨l1,l2,xs,ys,e,pQ,oA,q⟩:=q1;subst e;cases r1 with
 | cons r rr =>
  cases rr with
  | cons r' rr =>
   cases rr;cases r;cases r';obtain⟨mQ,rO,wx,qA⟩:=I1.tuple pQ;obtain⟨mL,rZ,xl,rA⟩:=I1.list oA;have qr:l1 < s1.heap.objs.size:=by obtain⟨_,e,_⟩:=wx; exact aF e
   have qt:l2 < s1.heap.objs.size:=by obtain⟨_,_,e,_⟩:=xl; exact aF e
   refine ziJ (show s1.heap.IsTuple l1 mQ.toArray from wx) xl.isList fun h' n hn b1 b2 b3 b4 b5 b6 kk=>?_
   refine ed ?_;refine ziK b1 fun h2 he hsz xn=>?_
   have I2:Inv X lN σ H1 { s1 with heap:=h2 }:=I1.kept (t':=s1.toks) fun c o e=>xn c o (kk c o e)
   refine fY he ?_; have e5:h'.objs.size=n+5:=b6;have Ai:IsEnum h2 (n+5) (n+4) 0 .none:=by rw [<- e5]; exact he
   refine⟨_,zeM n,zpp n l1 l2,znu (lY X.K) #[RZ] l1 l2,H1,rfl,I2,?_,⟨⟨_,Ai⟩,⟨_,_,xn _ _ b1,.inl rfl,_,rfl⟩,xn _ _ b2,⟨_,_,xn _ _ b3⟩,b4.at fun o e=>xn _ o e,b5.at fun o e=>xn _ o e⟩,fun c hc=>?_,q⟩
   ·show Turn X.prog X.w X.K #[OE] (znu (lY X.K) #[RZ] l1 l2) (zeM n) h'.objs.size (zpp n l1 l2);rw [e5];exact znv l1 l2 n (by rw [hn]; exact qr) (by rw [hn]; exact qt)
   ·have hle:s1.heap.objs.size<=c:=by
     simp only [zeM,aB,aY,or_false] at hc;rw [<- hn];rcases hc with z | z | z | z | z | z <;> subst z
     all_goals first | exact gg _ _ | exact af _
    exact I1.KY hle #[NX]
theorem ziM {K:ah} {i:Nat}:∀ (x:V) (σ:St) (H:Hp) (Q Q':St->Hp->Prop),(∀ σ' H',Q σ' H'->Q' σ' H')->zhd K 2 #[O3] x σ H Q->zhd K 2 #[O3] x σ H Q':=fun x σ H Q Q' hq ⟨a,xs,e1,h1,h2,v,r,e3,v2,r2,e4,e5,h⟩=>⟨a,xs,e1,h1,h2,v,r,e3,v2,r2,e4,e5,hq _ _ h⟩
end L2
end
section
namespace My
open PySem L2 PyProof.Rows
variable {H H':Hp} {j:Nat} {pl:List Int} {rw:List #[ww]}
section
variable {K:ah}
noncomputable def zqX (H:Hp):V->Option (List V)
 | .ref a=>match H a with
  | some #[Ob]=>some xs
  | _=>none
 | _=>none
noncomputable def zaY (H:Hp) (c tt:Addr) (p k:Int) (pl:List Int):Prop:=H c=some (.tup [.int p,.int k,.ref tt])/\H tt=some (.tup #[Rx])
theorem zaY.same {c tt:Addr} {p k:Int} (s:zr H H') (h:zaY H c tt p k pl):zaY H' c tt p k pl:=⟨s _ _ h.1,s _ _ h.2⟩
noncomputable def pB:Option Int->V
 | none=>.non
 | some i=>.int i
noncomputable def zby (p:Int) (pl:List Int) (rw:List #[ww]) (mR:List Int) (j:Nat):Bool:=match pl[j]?,rw[j]? with
 | some x,some (some i)=>decide (i=zp p x mR)
 | _,_=>false
noncomputable def zb0 (p:Int) (pl:List Int) (rw:List #[ww]) (mR:List Int) (n:Nat):List Int:=((aN n).filter (zby p pl rw mR)).map fun (j:Nat)=>(j:Int)
theorem zfR {p:Int} {mR:List Int} {n:Nat}:zb0 p pl rw mR (n+1)=zb0 p pl rw mR n++if zby p pl rw mR n then [(n:Int)] else []:=by
 unfold zb0;rw [cQ,bW,am];congr 1;by_cases h:zby p pl rw mR n=true
 ·rw [if_pos h]; simp [h]
 ·rw [if_neg h]; simp [h]
theorem zhB (p:Int) (pl:List Int) (rw:List #[ww]) (mR:List Int) (n:Nat):(zb0 p pl rw mR n).length<=n:=by
 unfold zb0;rw [ab];exact aV (b9 _ _) (by rw [bF]; exact af _)
theorem zei {x:V} (h:(rw.map pB)[j]? = some x):∃ o,x=pB o/\rw[j]? = some o:=by
 rw [aj] at h;cases e:rw[j]? with
 | none=>rw [e] at h; cases h
 | some c=>rw [e] at h; exact⟨c,(aS h).symm,rfl⟩
noncomputable def hide (H:Hp) (a:Addr):Hp:=fun b=>if b=a then none else H b
theorem zcm (H:Hp) (a:Addr):zr (hide H a) H:=fun b o e=>by
 unfold hide at e;split at e
 ·cases e
 ·exact e
theorem zlG {a:Addr} {o:HO}:hide #[QD] a=hide H a:=by
 funext b;unfold hide;by_cases h:b=a
 ·rw [if_pos h,if_pos h]
 ·rw [if_neg h,if_neg h,zn h]
theorem zkw {a:Addr} (s:zr H H'):zr (hide H a) (hide H' a):=fun b o e=>by
 unfold hide at e |-;by_cases h:b=a
 ·rw [if_pos h] at e; cases e
 ·rw [if_neg h] at e |-; exact s _ _ e
theorem zag {a b:Addr} {o:HO} (h:H b=some o) (m5:b≠a):hide H a b=some o:=by unfold hide; rw [if_neg m5]; exact h
noncomputable def znw (K:ah):Sp:=fun vs H Q _=>∃ (c tt ra po:Addr) (p k:Int) (pl mR:List Int) (rw:List #[ww]),vs = [.ref c,.ref ra,.ref po]/\zaY H c tt p k pl/\H ra=some #[N9]/\rw.length=pl.length/\H po=some (.tup (mR.map V.int))/\0 < p/\p<=97/\(∀ x∈pl,0<=x/\x < p)/\pl.length<=100 /\
 ∀ (l:Addr) (H':Hp),H l=none->zr H H'->H' l=some (.lst ((zb0 p pl rw mR pl.length).map V.int))->Q #[Nv] H'
theorem zlH (o:Option Int) (z:Int):zne (pB o) (.int z)=true:=by cases o <;> rfl
theorem zlI {p:Int} {mR:List Int} {x:Int} {o:Option Int} (hx:pl[j]? = some x) (ho:rw[j]? = some o):zby p pl rw mR j=decide (pB o = .int (zp p x mR)):=by
 unfold zby;rw [hx,ho];cases o with
 | none=>rfl
 | some i=>simp [pB]
end
end My
end
section
namespace PySem
section
variable {prog:Program} {w:World} {A:Around} {E:Value->Shared->Prop} {s:Shared}
theorem zjj {z TI TO i1 i2:Addr} {rh rj:List Addr} {n1 n2 k1 k2:Nat} {P1 P2:Nat->Value->Prop} {S1 S2:Nat->Heap->Prop} {f0 f1 a b:Value} {Q:Option Value->Shared->Prop} (D1:Draws prog w A.in1 i1 rh n1 P1 S1) (D2:Draws prog w A.in1 i2 rj n2 P2 S2) (Z:Zap z TI TO i1 i2 rh rj)
  (hz:IsZ s.heap z TI TO f0 f1) (hf:ZF f0 f1) (vo:IsPair s.heap TI #[PF] #[PD]) (vX:IsPair s.heap TO a b) (oZ:S1 k1 s.heap) (m7:S2 k2 s.heap) (l1:k1 < n1) (l2:k2 < n2)
  (hQ:∀ x y h' tk g0 g1 a' b',P1 k1 x->P2 k2 y->IsZ h' z TI TO g0 g1->ZF g0 g1->IsPair h' TI #[PF] #[PD]->IsPair h' TO a' b'->S1 (k1+1) h'->S2 (k2+1) h'->IsPair h' s.heap.objs.size x y->h'.objs.size=s.heap.objs.size+1 ->
   (∀ c o,c≠z->c≠TO->c≠i1->c≠i2->s.heap.get? c=some o->h'.get? c=some o)->Q (some #[ss]) { s with heap:=h',toks:=tk }):wpAny #[pc] A (pyNext #[OY]) Q E s:=by
 have vt:s.TypeIs #[OY] "zip":=⟨_,hz,rfl⟩;unfold pyNext;refine ae (dk (bK (name:=bD "__next__") vt dC #[OJ]));exact zji D1 D2 Z hz hf vo vX oZ m7 l1 l2 fun x y h1 tk g0 g1 a' b' px py qA FJ Ak Al Am An ux Ao kk=>ao (hQ x y h1 tk g0 g1 a' b' px py qA FJ Ak Al Am An ux Ao kk)
theorem zlJ {z TI TO i1 i2:Addr} {rh rj:List Addr} {n1 n2 k1 k2:Nat} {P1 P2:Nat->Value->Prop} {S1 S2:Nat->Heap->Prop} {f0 f1 a b:Value} {Q:Option Value->Shared->Prop} (D1:Draws prog w A.in1 i1 rh n1 P1 S1) (D2:Draws prog w A.in1 i2 rj n2 P2 S2) (Z:Zap z TI TO i1 i2 rh rj)
  (hz:IsZ s.heap z TI TO f0 f1) (hf:ZF f0 f1) (vo:IsPair s.heap TI #[PF] #[PD]) (vX:IsPair s.heap TO a b) (oZ:S1 k1 s.heap) (m7:S2 k2 s.heap) (l1:k1=n1\/(k1 < n1/\k2=n2))
  (hQ:∀ h' tk,(∀ c o,c≠z->c≠TO->c≠i1->c≠i2->s.heap.get? c=some o->h'.get? c=some o)->Q none { s with heap:=h',toks:=tk }):wpAny #[pc] A (pyNext #[OY]) Q E s:=by
 have vt:s.TypeIs #[OY] "zip":=⟨_,hz,rfl⟩;unfold pyNext;refine ae (dk (bK (name:=bD "__next__") vt dC #[OJ]));refine zlF D1 D2 Z hz hf vo vX oZ m7 l1 fun h' tk x kk ⟨o,ho,hc⟩=>?_
 exact ae (fe (T:="StopIteration") (b:=true) ⟨o,ho,hc⟩ gP (ao (hQ h' tk kk)))
theorem zgs {z TI TO:Addr} {f0 f1:Value} {Q:Value->Shared->Prop} (hz:IsZ s.heap z TI TO f0 f1) (h:Q #[OY] s):wpAny #[pc] A (pyIter #[OY]) Q E s:=by
 have hT:s.TypeIs #[OY] "zip":=⟨_,hz,rfl⟩; refine iA hT F.slot_zip_iter (bS F.slot_zip_iter hT F.entry_zip_iter ?_ (F.args_zip_iter_1 _));show wpAny _ _ (ret #[OY]) _ _ s; exact ao ⟨_,rfl,"zip",_,hT,F.slot_zip_next.lookup,h⟩
theorem zqj {elts:List Expr} {x1} {pos:Pos} {z TI TO T:Addr} {f0 f1:Value} {Q:Unit->Shared->Prop} (hz:IsZ s.heap z TI TO f0 f1) (hf:ZF f0 f1)
  (hQ:∀ h' g0,IsZ h' z TI TO g0 f1->ZF g0 f1->bv z s.heap h'->Q () { s with heap:=h' }):wpAny #[pc] A (letOwnedTupleGo (.Tuple elts x1 pos) #[OY] (.ref T)) Q E s:=by
 unfold letOwnedTupleGo; refine ae (wpAny_load hz ?_);show wpAny _ _ (if _ then _ else _) Q E s;split
 ·refine ae (cF ?_); show wpAny _ _ (setField #[OY] 0 .none) Q E s;exact bV hz #[M] fun h' xI o6=>hQ h' .none xI ⟨.inl rfl,hf.2⟩ o6
 ·exact ao (hQ s.heap f0 hz hf #[QL])
end
end PySem
namespace L2
open PySem PySem.Spec PyProof.Rows
variable {A:Around} {H H':Hp} {P prog:Program} {X:Cx} {env:Env} {h':Heap} {k t':Nat} {kvs:List (List Key×V)} {lN:List (Addr×Obj)} {pos:Pos} {s:Shared} {v y:V} {w:World}
noncomputable def zpq (rM rN:Hp->Addr->List V->Prop) (a b:Addr):It :=
 ⟨(zkl rM rN a b).go,(zkl rM rN a b).yld,fun i H=>∃ xs ys,rM H a xs/\rN H b ys/\(xs.length=i\/(i < xs.length/\ys.length=i))⟩
abbrev zcd (n:Nat):List Addr:=[n+4,n+2,n+3,n,n+1]
abbrev zqk (C:String) (n a b:Nat) (i:Nat) (h:Heap):Prop:=(∃ f0 f1,IsZ h (n+4) (n+2) (n+3) f0 f1/\ZF f0 f1)/\IsPair h (n+2) (.ref n) #[Q8]/\(∃ u v,IsPair h (n+3) u v)/\h.IsTupleIter n a i/\ItC C h (n+1) b i
structure Sk (C:String) (Is:Heap->Addr->Array Value->Prop) (Sq:ah->Hp->Addr->List V->Prop):Prop where
 h:SkH C Is
 inv:∀ {X:Cx} {lN:List (Addr×Obj)} {σ:St} {H:Hp} {s:Shared} {a:Addr} {xs:List V},Inv X lN σ H s->Sq X.K H a xs->∃ lQ:List Value,zU xs lQ/\Is s.heap a lQ.toArray/\a < s.heap.objs.size
 inj:∀ {X:Cx} {lN:List (Addr×Obj)} {σ:St} {H:Hp} {s:Shared} {a:Addr} {xs ys:List V},Inv X lN σ H s->Sq X.K H a xs->Sq X.K H a ys->xs=ys
theorem sqL:Sk "list_iterator" Heap.IsList lO:=⟨skL,fun I h=>let ⟨lQ,r,p,_⟩:=I.list h; ⟨lQ,r,p.isList,by obtain⟨_,_,e,_⟩:=p; exact aF e⟩,fun I h h'=>I.Jp h h'⟩
theorem zlK {C:String} {Is:Heap->Addr->Array Value->Prop} {Sq:ah->Hp->Addr->List V->Prop} (S:Sk C Is Sq) {K:ah} {es:List Expr} (a b n:Nat) (ha:a < n) (hb:b < n):Turn P w K #[Om] (zpq (lY K) (Sq K) a b) (zcd n) (n+4) (zqk C n a b) where
 mem:=by simp
 obj:=fun i h st c hc=>by
  obtain⟨⟨f0,f1,h1,_⟩,h2,⟨u,v,h3⟩,⟨o4,e4,_,d4⟩,⟨o5,e5,_,d5⟩⟩:=st;simp only [zcd,aB,aY,or_false] at hc;rcases hc with z | z | z | z | z <;> subst z
  ·exact⟨_,h1,fun v z=>by cases z⟩
  ·exact⟨_,h2,fun v z=>by cases z⟩
  ·exact⟨_,h3,fun v z=>by cases z⟩
  ·exact⟨_,e4,fun v z=>by rw [d4] at z; cases z⟩
  ·exact⟨_,e5,fun v z=>by rw [d5] at z; cases z⟩
 keep:=fun i h h' st kk=>by
  obtain⟨⟨f0,f1,h1,hf⟩,h2,⟨u,v,h3⟩,h4,h5⟩:=st;obtain⟨o5,e5,r5⟩:=h5;exact⟨⟨f0,f1,kk _ #[M] _ h1,hf⟩,kk _ #[M] _ h2,#[Qv],h4.at fun o eo=>kk _ #[M] o eo,o5,kk _ #[M] _ e5,r5⟩
 item:=by
  intro X hP hw hK hc i lN s σ H E I hf st hg;subst hP hw hK;obtain⟨xs,ys,x,y,pQ,oA,hx,hy⟩:=hg;obtain⟨⟨f0,f1,h1,vq⟩,h2,⟨u0,v0,h3⟩,h4,h5⟩:=st;obtain⟨mQ,rO,p1,qA⟩:=I.tuple pQ;obtain⟨mL,rZ,p2,_⟩:=S.inv I oA;obtain⟨u,hu,ru⟩:=rO.get hx;obtain⟨v,hv,rv⟩:=rZ.get hy;have uq:n+4 < s.heap.objs.size:=aF h1;have hh:X.A.in1.handled=none:=by simp [I.ok.hd hc]
  have qr:i < mQ.toArray.size:=by have:=(av.mp hu).1; simpa using this
  have qt:i < mL.toArray.size:=by have:=(av.mp hv).1; simpa using this
  refine zjj #[MV] #[RO] #[Rn] h1 vq h2 h3 ⟨h4,(show s.heap.IsTuple a mQ.toArray from p1)⟩ ⟨h5,p2⟩ qr qt
   fun x' y' h' tk g0 g1 a' b' px py ez Ce e2 e3 t4 t5 pp hsz kk=>?_
  have eu:x'=u:=by
   have e1:mQ[i]? = some x':=by simpa using px
   rw [hu] at e1; exact (aS e1).symm
  have ev:y'=v:=by
   have e1:mL[i]? = some y':=by simpa using py
   rw [hv] at e1; exact (aS e1).symm
  subst eu ev;have ch:∀ c∈[n+4,n+3,n,n+1],c∈zcd n:=fun c lV=>by
   simp only [zcd,aB,aY,or_false] at lV |-;rcases lV with z | z | z | z <;> subst z <;> simp
  have k1:∀ c o,c∉[n+4,n+3,n,n+1]->s.heap.get? c=some o->h'.get? c=some o:=fun c o lV eo=>by
   simp only [aB,aY,or_false,not_or] at lV;exact kk c o lV.1 lV.2.1 lV.2.2.1 lV.2.2.2 eo
  have Af:∀ c∈[n+4,n+3,n,n+1],∃ o,h'.get? c=some o:=fun c lV=>by
   simp only [aB,aY,or_false] at lV;rcases lV with z | z | z | z <;> subst z
   ·exact⟨_,ez⟩
   ·exact⟨_,e3⟩
   ·obtain⟨o,e,_⟩:=t4.1; exact⟨o,e⟩
   ·obtain⟨o,e,_⟩:=t5.1; exact⟨o,e⟩
  have I1:Inv X lN σ (lP H s.heap.objs.size (.tup [x,y])) { s with heap:=h',toks:=tk } :=
   I.JO k1 (fun c lV=>hf c (ch c lV)) Af (af _) #[QB]
  refine⟨_,rfl,zqj (s:={ s with heap:=h',toks:=tk }) ez Ce fun xk g2 wu Cf oU=>?_⟩;have fr:∀ c∈zcd n,lP H s.heap.objs.size (.tup [x,y]) c=none:=fun c lV=>by
   have mh:c < s.heap.objs.size:=by
    simp only [zcd,aB,aY,or_false] at lV;rcases lV with z | z | z | z | z <;> subst z <;> exact nl #[O]
   rw [zn (a8 mh)];exact (hf c lV).1
  have I2:Inv X lN σ (lP H s.heap.objs.size (.tup [x,y])) { s with heap:=xk,toks:=tk } :=
   Inv.Kd (s:={ s with heap:=h',toks:=tk }) (ch:=[n+4]) (t':=tk) I1 (fun c o lV eo=>oU.extBut c o (by simpa using lV) eo) (fun c lV=>by
    have z:c=n+4:=by simpa using lV
    subst z;exact⟨fr _ #[M],(hf _ #[M]).2⟩) (fun c lV=>by
    have z:c=n+4:=by simpa using lV
    subst z;exact⟨_,wu⟩)
  have up:∀ c o,c≠n+4->h'.get? c=some o->xk.get? c=some o:=fun c o lV e=>oU.extBut c o lV e
  exact⟨.ref s.heap.objs.size,_,I2,rfl,⟨_,x,y,I.fresh,rfl,rfl,fun zs hz=>by rw [I.JP hz pQ]; exact hx,fun zs hz=>by rw [S.inj I hz oA]; exact hy⟩,
   ⟨⟨g2,g1,wu,Cf⟩,up _ _ #[NU] e2,⟨_,_,up _ _ #[NU] e3⟩,t4.1.at fun o e=>up _ o #[NU] e,⟨t5.1.choose,up _ _ #[NU] t5.1.choose_spec.1,t5.1.choose_spec.2⟩⟩,fr⟩
 done:=by
  intro X hP hw hK hc i lN s σ H E I hf st hg;subst hP hw hK;obtain⟨xs,ys,pQ,oA,hx⟩:=hg;obtain⟨⟨f0,f1,h1,vq⟩,h2,⟨u0,v0,h3⟩,h4,h5⟩:=st;obtain⟨mQ,rO,p1,qA⟩:=I.tuple pQ;obtain⟨mL,rZ,p2,_⟩:=S.inv I oA;have hh:X.A.in1.handled=none:=by simp [I.ok.hd hc]
  have pN:=rO.length;have oT:=rZ.length;refine zlJ #[MV] #[RO] #[Rn] h1 vq h2 h3 ⟨h4,(show s.heap.IsTuple a mQ.toArray from p1)⟩ ⟨h5,p2⟩ (by rw [aq,aq]; lia) fun h' tk kk=>#[QE]
  have sub:∀ c∈[n+4,n+3,n,n+1],c∈zcd n:=fun c lV=>by
   simp only [zcd,aB,aY,or_false] at lV |-;rcases lV with z | z | z | z <;> subst z <;> simp
  have k1:∀ c o,c∉[n+4,n+3,n,n+1]->s.heap.get? c=some o->h'.get? c=some o:=fun c o lV e=>by
   simp only [aB,aY,or_false,not_or] at lV;exact kk c o lV.1 lV.2.1 lV.2.2.1 lV.2.2.2 e
  have tD:∀ d u',H d=some u'->d∉[n+4,n+3,n,n+1]:=fun d u' e' hd=>by rw [(hf d (sub d hd)).1] at e'; cases e'
  refine I.step (g':=s.gens) (d':=s.drawn) (t':=tk) (ch:=[n+4,n+3,n,n+1]) #[R1] #[Ox] #[Nz] #[NH]
   (fun c o mZ e=>⟨o,k1 c o mZ e⟩) #[Ot] #[NK] (fun c ps e=>⟨#[],by rw [e]; simp⟩) #[Os] #[Rr] I.bare
  ·obtain⟨_,a1,_,a3,a4,a5⟩:=hf c (sub c lV);exact⟨a3,a1,a4,a5⟩
  ·obtain⟨o,vT,ep,ho,r⟩:=hm;exact⟨o,vT,ep,k1 _ o (fun z=>(hf _ (sub _ z)).2.1 rfl) ho,r⟩
  ·refine #[Si].KO #[O4] #[Pj] fun _ _ q=>q
   rcases hd with z | z
   ·rw [z]; exact tD c u e
   ·exact tD d _ z
 self:=fun _ _ _ _ _ st h=>by
  obtain⟨⟨f0,f1,hz,_⟩,_⟩:=st;exact zgs hz h
noncomputable def iZq (rM rN:Hp->Addr->List V->Prop) (ta:TA):TI:=fun σ H R=>ta σ H fun vs H1=>∃ a b xs ys,vs = [.ref a,.ref b]/\rM H1 a xs/\rN H1 b ys/\R (zpq rM rN a b) H1
theorem zlL {C:String} {Is:Heap->Addr->Array Value->Prop} {Sq:ah->Hp->Addr->List V->Prop} (S:Sk C Is Sq) {es:List Expr} {qF p:Pos} {a b:Expr} {ta:TA} (hg:Gl X "zip") (hm:X.mg "zip" = none) (ha:PA X [a,b] ta) (hs:starEach [a,b] X.env = [#[KM],#[Ev]]:=by rfl) (oB:starEach [b] X.env = [#[Ev]]:=by rfl) :
  PI X #[OE] (.Call (.Name "zip" p) [a,b] [] pos) (iZq (lY X.K) (Sq X.K) ta):=by
 intro lN s σ H R I h;refine Call_ (zbr I hg hm kP (bE (thn #[FM] fun us s1 ⟨vs,H1,I1,r1,q1⟩=>?_) (by rw [hs,oB]) (by rw [oB]; rfl)));obtain⟨l1,l2,xs,ys,e,pQ,oA,q⟩:=q1;subst e;cases r1 with
 | cons r rr =>
  cases rr with
  | cons r' rr =>
   cases rr;cases r;cases r';obtain⟨mQ,rO,wx,qA⟩:=I1.tuple pQ;obtain⟨mL,rZ,xl,qt⟩:=S.inv I1 oA;have qr:l1 < s1.heap.objs.size:=by obtain⟨_,e,_⟩:=wx; exact aF e
   refine zeL S.h (show s1.heap.IsTuple l1 mQ.toArray from wx) xl fun h' n hn b1 b2 b3 b4 b5 b6 kk=>?_
   have I2:Inv X lN σ H1 { s1 with heap:=h' }:=I1.kept (t':=s1.toks) kk;refine zgs b1 ?_;refine⟨_,zcd n,zqk C n l1 l2,zpq (lY X.K) (Sq X.K) l1 l2,H1,rfl,I2,zlK S l1 l2 n (by rw [hn]; exact qr) (by rw [hn]; exact qt),⟨⟨_,_,b1,.inl rfl,_,rfl⟩,b2,⟨_,_,b3⟩,b4,b5⟩,fun c hc=>?_,q⟩;have hle:s1.heap.objs.size<=c:=by
    simp only [zcd,aB,aY,or_false] at hc;rw [<- hn];rcases hc with z | z | z | z | z <;> subst z
    all_goals first | exact gg _ _ | exact af _
   exact I1.KY hle #[NX]
theorem zlM {X:Cx} {es:List Expr} {k:Nat} {qF p pos:Pos} {a b:Expr} {ta:TA} (hg:Gl X "zip") (hm:X.mg "zip" = none) (ha:PA X [a,b] ta) (hs:starEach [a,b] X.env = [#[KM],#[Ev]]:=by rfl) (oB:starEach [b] X.env = [#[Ev]]:=by rfl) :
  PI X #[OE] (.Call (.Name "zip" p) [a,b] [] pos) (iZq (lY X.K) #[RZ] ta):=zlL sqL hg hm ha hs oB
section
variable {P:Program} {w:World} {outer:List Env} {H H':Hp} {h h' B:Heap} {e C:Addr}
theorem zlN {o:HO} {a:Addr} (x:zax P w H h a o):∃ ob,h.get? a=some ob:=by
 cases o with
 | lst xs=>obtain⟨_,_,_,_,e⟩:=x; exact⟨_,e⟩
 | tup xs=>obtain⟨_,_,_,o,e,_⟩:=x; exact⟨_,e⟩
 | dK kvs=>obtain⟨_,_,_,_,o,_,_,e,_⟩:=x; exact⟨_,e⟩
 | dT kvs=>obtain⟨_,_,_,_,o,_,_,e,_⟩:=x; exact⟨_,e⟩
 | set S n=>obtain⟨o,_,_,_,e,_⟩:=x; exact⟨_,e⟩
 | ins C dx fs=>obtain⟨_,_,_,e,_⟩:=x; exact⟨_,e⟩
 | own y=>obtain⟨_,e⟩:=x; exact⟨_,e⟩
 | xd fs=>obtain⟨_,⟨_,_,_,e,_⟩,_⟩:=x; exact⟨_,e⟩
 | rng lo hi=>obtain⟨_,_,_,e⟩:=x; exact⟨_,e⟩
 | frz ob u=>obtain⟨e,_⟩:=x; exact⟨_,e⟩
 | tbl ps=>exact⟨_,(show h.get? a=some _ from x)⟩
 | met f y=>exact⟨_,(show h.get? a=some _ from x)⟩
 | ext φ=>obtain⟨_,⟨_,e⟩,_⟩:=x; exact⟨_,e⟩
end
section
variable {κ:Type} [DecidableEq κ]
noncomputable def zaU (kvs:List (κ×V)) (k:κ):Option V:=(kvs.find? fun kv=>decide (kv.1=k)).map (·.2)
noncomputable def putK (kvs:List (κ×V)) (k:κ) (v:V):List (κ×V) :=
 if (kvs.any fun kv=>decide (kv.1=k))=true then kvs.map (fun kv=>if kv.1=k then (kv.1,v) else kv) else kvs++[(k,v)]
theorem zaZ {p:κ×V} {r:List (κ×V)} {k:κ} (e:p.1=k):zaU (p :: r) k=some p.2:=by simp [zaU,c9,e]
theorem za0 {p:κ×V} {r:List (κ×V)} {k:κ} (e:¬ p.1=k):zaU (p :: r) k=zaU r k:=by simp [zaU,c9,e]
theorem zcQ (k:κ):∀ kvs:List (κ×V),(kvs.any fun kv=>decide (kv.1=k))=(zaU kvs k).isSome
 | []=>rfl
 | p :: r=>by
  rw [io];by_cases e:p.1=k
  ·simp only [zaZ e,decide_eq_true e,Bool.true_or,j4]
  ·rw [za0 e,decide_eq_false e,Bool.false_or]; exact zcQ k r
theorem zhC (k j:κ) (y:V):∀ kvs:List (κ×V),zaU (kvs.map fun kv=>if kv.1=k then (kv.1,y) else kv) j=(zaU kvs j).map fun x=>if j=k then y else x
 | []=>rfl
 | p :: r=>by
  have ih:=zhC k j y r;rw [aM];by_cases h:p.1=k
  ·rw [if_pos h];by_cases e:p.1=j
   ·rw [zaZ (p:=(p.1,y)) e,zaZ e,gv,if_pos (e.symm.trans h)]
   ·rw [za0 (p:=(p.1,y)) e,za0 e,ih]
  ·rw [if_neg h];by_cases e:p.1=j
   ·rw [zaZ (p:=p) e,zaZ e,gv,if_neg (fun z=>h (e.trans z))]
   ·rw [za0 (p:=p) e,za0 e,ih]
theorem zfS (k j:κ) (y:V):∀ kvs:List (κ×V),zaU kvs k=none->zaU (kvs++[(k,y)]) j=if j=k then some y else zaU kvs j
 | [],_=>by
  by_cases e:k=j
  ·rw [if_pos e.symm]; exact zaZ (p:=(k,y)) e
  ·rw [if_neg (fun z=>e z.symm)]; exact za0 (p:=(k,y)) e
 | p :: r,hn=>by
  rw [List.cons_append];have hk:¬ p.1=k:=fun z=>by rw [zaZ z] at hn; cases hn
  rw [za0 hk] at hn;have ih:=zfS k j y r hn;by_cases e:p.1=j
  ·rw [zaZ e,zaZ e,if_neg (fun z=>hk (e.trans z))]
  ·rw [za0 e,za0 e,ih]
theorem zhD (kvs:List (κ×V)) (k j:κ) (y:V):zaU (putK kvs k y) j=if j=k then some y else zaU kvs j:=by
 unfold putK;by_cases a:(kvs.any fun kv=>decide (kv.1=k))=true
 ·rw [if_pos a,zhC];rw [zcQ] at a;by_cases e:j=k
  ·obtain⟨x,hx⟩:=iI.mp a;rw [if_pos e,e,hx,gv,if_pos rfl]
  ·rw [if_neg e];cases zaU kvs j with
   | none=>rfl
   | some x=>rw [gv,if_neg e]
 ·rw [if_neg a];refine zfS k j y kvs ?_;rw [zcQ] at a;cases q:zaU kvs k with
  | none=>rfl
  | some x=>rw [q] at a; exact (a rfl).elim
theorem zcR (kvs:List (κ×V)) (k:κ) (v:V):#[Nr].length<=kvs.length+1:=by
 unfold putK;split
 ·rw [ab]; lia
 ·rw [ap,bu,i8]; lia
theorem zlO {kvs:List (κ×V)} {k:κ} (v:V) (h:zaU kvs k=none):putK kvs k v=kvs++[(k,v)]:=by
 unfold putK;rw [zcQ,h];exact if_neg #[D]
theorem zd4.Lz {o:Option V} {u:Option Value} (r:zd4 o u):o.isSome=u.isSome:=by
 cases o with
 | none=>cases u with
  | none=>rfl
  | some _=>exact (show False from r).elim
 | some _=>cases u with
  | none=>exact (show False from r).elim
  | some _=>rfl
theorem zd4.getD {o:Option V} {u:Option Value} {d:V} {d':Value} (r:zd4 o u) (rd:RelV d d'):RelV (o.getD d) (u.getD d'):=by
 cases o with
 | none=>cases u with
  | none=>exact rd
  | some _=>exact (show False from r).elim
 | some _=>cases u with
  | none=>exact (show False from r).elim
  | some _=>exact r
theorem KV.val {kvs:List (κ×V)} {vs:List (κ×Value)} (r:KV kvs vs) (k:κ):zd4 (zaU kvs k) (valueAt vs k):=by
 unfold KV at r;induction r with
 | nil=>exact iE
 | @cons p q ps qs h t ih =>
  obtain⟨h1,h2⟩:=h;by_cases e:p.1=k
  ·have e':q.1=k:=h1.symm.trans e;have b:valueAt (q :: qs) k=some q.2:=by simp [valueAt,c9,e']
   rw [zaZ e,b]; exact h2
  ·have e':¬ q.1=k:=fun z=>e (h1.trans z)
   have b:valueAt (q :: qs) k=valueAt qs k:=by simp [valueAt,c9,e']
   rw [za0 e,b]; exact ih
theorem KV.any {kvs:List (κ×V)} {vs:List (κ×Value)} (r:KV kvs vs) (k:κ):(kvs.any fun kv=>decide (kv.1=k))=vs.any fun kv=>decide (kv.1=k):=by
 unfold KV at r;induction r with
 | nil=>rfl
 | cons h t ih=>rw [io,io,ih,h.1]
theorem KV.Mw {kvs:List (κ×V)} {vs:List (κ×Value)} (r:KV kvs vs) (k:κ) {u:Value} (ry:RelV y u) :
  KV (kvs.map fun kv=>if kv.1=k then (kv.1,y) else kv) (vs.map fun kv=>if kv.1=k then (kv.1,u) else kv):=by
 unfold KV at r |-;induction r with
 | nil=>exact .nil
 | @cons p q ps qs h t ih =>
  rw [aM,aM];refine .cons ?_ ih;obtain⟨h1,h2⟩:=h;by_cases e:p.1=k
  ·rw [if_pos e,if_pos (h1.symm.trans e)]; exact⟨h1,ry⟩
  ·rw [if_neg e,if_neg (fun z=>e (h1.trans z))]; exact⟨h1,h2⟩
theorem KV.put {kvs:List (κ×V)} {vs:List (κ×Value)} (r:KV kvs vs) (k:κ) {u:Value} (ry:RelV y u):KV (putK kvs k y) (stored vs k u):=by
 unfold putK stored;rw [r.any k];by_cases e:(vs.any fun kv=>decide (kv.1=k))=true
 ·rw [if_pos e,if_pos e]; exact r.Mw k ry
 ·rw [if_neg e,if_neg e]; exact cb r ⟨rfl,ry⟩
theorem KV.length {kvs:List (κ×V)} {vs:List (κ×Value)} (r:KV kvs vs):kvs.length=vs.length:=bq r
end
theorem zjk {k:Key} {u:Value} (r:RelV (kV k) u):(zar P w).is k u=true:=by
 cases k with
 | inl i=>obtain⟨t,e⟩:=(show ∃ t,u=i0 i t from r); subst e; exact zha P w i t
 | inr x=>obtain⟨t,e⟩:=(show ∃ t,u=lF x t from r); subst e; exact zhb P w x t
theorem zfT {P:Program} {w:World}:∀ {ks:List Key} {us:List Value},zU (ks.map kV) us->ItemsAre (zar P w) ks us
 | [],_,r=>by rw [fG] at r; cases r; exact .nil
 | k :: ks,_,r=>by
  rw [aM] at r;cases r with
  | cons h t=>exact .cons (zjk h) (zfT t)
abbrev KT (H:Hp):List (List Key×V)->List (List Key×Addr×Value)->Prop:=Paired fun p q=>p.1=q.1/\H q.2.1=some (.tup (p.1.map kV))/\RelV p.2 q.2.2
theorem KT.val {xs:List (List Key×Addr×Value)} (r:KT H kvs xs) (k:List Key):zd4 (zaU kvs k) ((atKey xs k).map (·.2)):=by
 induction r with
 | nil=>exact iE
 | @cons p q ps qs h t ih =>
  obtain⟨h1,_,h2⟩:=h;by_cases e:p.1=k
  ·have e':q.1=k:=h1.symm.trans e;have b:atKey (q :: qs) k=some q.2:=by simp [atKey,c9,e']
   rw [zaZ e,b]; exact h2
  ·have e':¬ q.1=k:=fun z=>e (h1.trans z)
   have b:atKey (q :: qs) k=atKey qs k:=by simp [atKey,c9,e']
   rw [za0 e,b]; exact ih
theorem KT.Mw {xs:List (List Key×Addr×Value)} (r:KT H kvs xs) (k:List Key) {u:Value} (ry:RelV y u) :
  KT H (kvs.map fun kv=>if kv.1=k then (kv.1,y) else kv) (xs.map (putAt k u)):=by
 induction r with
 | nil=>exact .nil
 | @cons p q ps qs h t ih =>
  rw [aM,aM];refine .cons ?_ ih;obtain⟨h1,h2,h3⟩:=h;unfold putAt;by_cases e:p.1=k
  ·rw [if_pos e,if_pos (h1.symm.trans e)]; exact⟨h1,h2,ry⟩
  ·rw [if_neg e,if_neg (fun z=>e (h1.trans z))]; exact⟨h1,h2,h3⟩
theorem KT.put {xs:List (List Key×Addr×Value)} (r:KT H kvs xs) (k:List Key) {b:Addr} {u:Value} (hb:H b=some #[Nm]) (ry:RelV y u) :
  KT H (putK kvs k y) (storedH xs k b u):=by
 have e:(kvs.any fun kv=>decide (kv.1=k))=(atKey xs k).isSome:=by
  rw [zcQ,(r.val k).Lz,Option.isSome_map]
 unfold putK storedH;rw [e];by_cases q:(atKey xs k).isSome=true
 ·rw [if_pos q,if_pos q]; exact r.Mw k ry
 ·rw [if_neg q,if_neg q]; exact cb r ⟨rfl,hb,ry⟩
theorem KT.keeps {xs:List (List Key×Addr×Value)} (r:KT H kvs xs) (ht:∀ b ys,H b=some (.tup ys)->H' b=some (.tup ys)):KT H' kvs xs :=
 Paired.Mz r fun _ _ z=>⟨z.1,ht _ _ z.2.1,z.2.2⟩
section
variable {P:Program} {w:World} {H:Hp} {h:Heap} {a:Addr}
theorem zoG {u:HO} (ok:HOk P w H h) (e:Rd H a u):zax P w H h a u:=e.ok ok
theorem zhE {kvs:List (Key×V)} (ok:HOk P w H h) (e:Rd H a #[Qn]):kvs.length<=sizeLine/\(a == sysModules)=false/\∃ vs,KV kvs vs/\h.DictOf (zar P w) a vs :=
 show zax P w H h a #[Qn] from zoG ok e
theorem zoH {kvs:List (Key×V)} (ok:HOk P w H h) (e:H a=some #[Qn]):kvs.length<=sizeLine/\(a == sysModules)=false/\∃ vs,KV kvs vs/\h.DictOf (zar P w) a vs:=zhE ok (.inl e)
theorem zeN {ks:List Key} (ok:HOk P w H h) (e:H a=some (.tup (ks.map kV))):#[ND].is h ks a:=by
 obtain⟨_,lQ,r,o,h1,h2,n,h3⟩:=(show zax P w H h a (.tup (ks.map kV)) from ok a _ e);exact⟨o,lQ.toArray,n,h1,h2,h3,by simpa using zfT r⟩
theorem zhF (ok:HOk P w H h) (e:Rd H a #[OM]):kvs.length<=sizeLine/\(a == sysModules)=false /\
  ∃ xs,KT H kvs xs/\h.DictOfH #[ND] a xs:=by
 obtain⟨z,y,xs,r,o,es,ep,h1,h2,h3,h4,h5⟩:=(show zax P w H h a #[OM] from zoG ok e);refine⟨z,y,xs,r,o,es,ep,h1,h2,h3,h4,fun x hx=>?_,h5⟩;have all:∀ {l:List (List Key×V)} {m:List (List Key×Addr×Value)},KT H l m->∀ x∈m,#[ND].is h x.1 x.2.1:=by
  intro l m q;induction q with
  | nil=>intro x hx; exact nomatch hx
  | @cons p q ps qs hq t ih =>
   intro x hx;rcases aB.mp hx with e | hx
   ·subst e;exact zeN ok (by rw [<- hq.1]; exact hq.2.1)
   ·exact ih x hx
 exact all r x hx
theorem zoI (ok:HOk P w H h) (e:H a=some #[OM]):kvs.length<=sizeLine/\(a == sysModules)=false /\
  ∃ xs,KT H kvs xs/\h.DictOfH #[ND] a xs:=zhF ok (.inl e)
end
noncomputable def zfn (H:Hp) (a:Addr) (y:V) (r:Option V):Prop :=
 (∃ kvs k,Rd H a #[Qn]/\y=kV k/\r=zaU kvs k)\/∃ kvs k b,Rd H a #[OM]/\y = .ref b/\H b=some #[Nm]/\r=zaU kvs k
noncomputable def zkx (H:Hp) (a:Addr) (y v:V) (H':Hp):Prop :=
 (∃ kvs k,H a=some #[Qn]/\y=kV k/\kvs.length < sizeLine/\H'=lP H a (.dK #[Nr])) \/
 ∃ kvs k b,H a=some #[OM]/\y = .ref b/\H b=some #[Nm]/\kvs.length < sizeLine/\H'=lP H a (.dT #[Nr])
theorem zfn.t {a b:Addr} {k:List Key} (e:H a=some #[OM]) (eb:H b=some #[Nm]):zfn H a #[Ql] (zaU kvs k):=.inr ⟨kvs,k,b,.inl e,rfl,eb,rfl⟩
theorem zkx.t {a b:Addr} {k:List Key} (e:H a=some #[OM]) (eb:H b=some #[Nm]) (hl:kvs.length < sizeLine) :
  zkx H a #[Ql] v (lP H a (.dT #[Nr])):=.inr ⟨kvs,k,b,e,rfl,eb,hl,rfl⟩
section
variable {X:Cx} {lN:List (Addr×Obj)} {σ:St} {H:Hp} {s:Shared} {a:Addr} {y v:V} {u r:Value} {o:Option V} {A:Around} {E:Value->Shared->Prop}
theorem Inv.big (I:Inv X lN σ H s):sysModules < s.heap.objs.size:=by
 have h:mainGlobals < s.heap.objs.size:=(I.mod.glob.keeps I.bk).lt;exact Nat.lt_trans #[D] h
theorem zky {Q:Value->Shared->Prop} (hu:A.units+1 < cLine) (I:Inv X lN σ H s) (g:zfn H a y #[Q0]) (ry:RelV y u) (h:∀ w' s',Inv X lN σ H s'->RelV v w'->Q w' s') :
  wpAny #[o0] A (getItem #[M8] u) Q E s:=by
 rcases g with ⟨kvs,k,e,ey,l⟩ | ⟨kvs,k,b,e,ey,eb,l⟩
 ·subst ey;obtain⟨z,hd,vs,rel,dd⟩:=zhE I.hok e;obtain⟨w',hw,vf⟩:=zd4.some_of (v:=v) (o:=valueAt vs k) (by rw [l]; exact rel.val k);exact wpAny_getItem_of (zjk ry) dd.mapOf hw (h w' _ (I.tok _) vf)
 ·subst ey;cases (show u=aX b from ry);obtain⟨z,hd,xs,rel,dd⟩:=zhF I.hok e;obtain⟨w',hw,vf⟩:=zd4.some_of (v:=v) (o:=(atKey xs k).map (·.2)) (by rw [l]; exact rel.val k);obtain⟨p,hp,qG⟩:=df.mp hw;refine wpAny_getItem_heap (fI hu) (zeN I.hok eb) dd hp ?_;rw [qG];exact h w' _ (I.tok _) vf
theorem zgt {ob:HO} (I:Inv X lN σ H s) (mu:Mut (H a)) (hs:bv a s.heap h') (he:∃ q,h'.get? a=some q) (new:zax X.prog X.w (lP H a ob) h' a ob) :
  Inv X lN σ (lP H a ob) { s with heap:=h',toks:=t' } :=
 I.write (x:=a) (e:=a) mu #[Nq] (fun b q hb z=>(hs.2 b hb).trans z) he new
theorem zpr {kvs:List (Key×V)} {vs:List (Key×Value)} (z:kvs.length<=sizeLine) (hd:(a == sysModules)=false) (rel:KV kvs vs) (dd:h'.DictOf (zar P w) a vs) :
  zax P w H' h' a #[Qn]:=⟨z,hd,vs,rel,dd⟩
theorem zkz {Q:Unit->Shared->Prop} (hu:A.units+1 < cLine) (I:Inv X lN σ H s) (g:zkx H a y v H') (ry:RelV y u) (rv:RelV v r) (h:∀ s',Inv X lN σ H' s'->Q () s') :
  wpAny #[o0] A (setItem #[M8] u r) Q E s:=by
 rcases g with ⟨kvs,k,e,ey,l,eH⟩ | ⟨kvs,k,b,e,ey,eb,l,eH⟩
 ·subst ey eH;obtain⟨z,hd,vs,rel,dd⟩:=zoH I.hok e;have hz:vs.length<=sizeLine:=by rw [<- rel.length]; exact z
  have hl:#[Nr].length<=sizeLine:=by have:=zcR kvs k v; lia
  refine wpAny_setItem_pairs (hsz:=hz) (zjk ry) dd fun h' Bq hs=>h _ ?_
  have he:∃ q,h'.get? a=some q:=let ⟨q,_,_,hq,_⟩:=Bq; ⟨q,hq⟩
  exact zgt I (by rw [e]; exact iE) hs he (zpr hl hd (rel.put k rv) Bq)
 ·subst ey eH;cases (show u=aX b from ry);obtain⟨z,hd,xs,rel,dd⟩:=zoI I.hok e;have hz:xs.length<=sizeLine:=by rw [<- bq rel]; exact z
  have hl:#[Nr].length<=sizeLine:=by have:=zcR kvs k v; lia
  refine wpAny_setItem_heap (hsz:=hz) (fI hu) (zeN I.hok eb) dd fun h' Bq hs=>h _ ?_
  obtain⟨q,es,ep,hq,h2,h3,h4,_,h5⟩:=Bq;refine zgt I (by rw [e]; exact iE) hs ⟨q,hq⟩ ⟨hl,hd,_,(rel.put k eb rv).keeps fun c ys ec=>?_,q,es,ep,hq,h2,h3,h4,h5⟩;rw [zn (zot ec e (fun z=>nomatch z))];exact ec
end
noncomputable def zql (i:Expr):Prop:=∀ ov iv,subscripted i false ov iv=operate [ov,iv] (getItem ov iv)
theorem znx {E:Value->Shared->Prop} {value slice:Expr} {T id:String} {Q:Value->Shared->Prop}
  (hl:typeLookup (.type T) "__getitem__" = pure (some #[OI])) (hs:zql slice)
  (h:wpAny #[pc] A (eval value env) (fun o s₁=>wpAny #[pc] A (eval slice env) (fun i s₂=>s₂.TypeIs o T/\wpAny #[pc] A (getItem o i) Q E s₂) E s₁) E s) :
  wpAny #[pc] A (eval (.Subscript value slice pos) env) Q E s:=by
 refine jy (cE h (fun o s₁ h₁=>cE h₁ (fun i s₂ h₂=>?_) fun _ _ x=>x) fun _ _ x=>x);obtain⟨hT,h₂⟩:=h₂;unfold subscriptTail;refine ae ?_;rw [getitemInPython_of_ne hT.not_modules];refine ae (gt hT hl ?_);have fin:wpAny #[pc] A (subscripted slice false o i) (fun r s₃=>wpAny #[pc] A (letTemporaryGo value o r >>= fun _=>pure r) Q E s₃) E s₂:=by
  rw [hs o i];exact wpAny_operating (cE h₂ (fun r s₃ h₃=>ae (wpAny_letTemporaryGo (ao h₃))) fun _ _ x=>x)
 first
  | exact ao (ae fin)
  | exact ae (ao (ae fin))
  | exact ae fin
theorem zhG {σ:St} {a:Addr} {o:Option V} (I:Inv X lN σ H s) (g:zfn H a y o):s.TypeIs #[M8] "dict":=by
 rcases g with ⟨kvs,k,e,_,_⟩ | ⟨kvs,k,b,e,_,_,_⟩
 ·obtain⟨_,_,vs,_,dd⟩:=zhE I.hok e;exact dd.typeIs
 ·obtain⟨_,_,xs,_,dd⟩:=zhF I.hok e;exact dd.typeIs
noncomputable def zqm (td ty:TE):TE:=fun σ H Q=>td σ H fun x H1=>ty σ H1 fun y H2=>∃ a v,x = .ref a/\zfn H2 a y #[Q0]/\Q v H2
noncomputable def zqn (td ty tv:TE):TS:=fun D σ H=>tv σ H fun v H1=>td σ H1 fun x H2=>ty σ H2 fun y H3=>∃ a H4,x = .ref a/\zkx H3 a y v H4/\D.nx σ H4
section
variable {X:Cx} {o i e value:Expr} {pos pos' qF:Pos} {td ty tv:TE}
theorem zny (hu:X.A.units+1 < cLine) (ho:PE X o td) (hi:PE X i ty) (hs:zql i):PE X #[QQ] (zqm td ty):=by
 intro lN s σ H Q I h;refine znx PySem.F.slot_dict_getitem.lookup hs (thn #[Og] fun u s1 ⟨x,H1,I1,rx,q1⟩=>thn (hi lN s1 σ H1 _ I1 q1) fun iv s2 ⟨y,H2,I2,ry,a,v,ex,g,q2⟩=>?_);subst ex;obtain rfl:u=aX a:=rx;exact⟨zhG I2 g,zky hu I2 g ry fun w' s3 I3 vf=>⟨v,H2,I3,vf,q2⟩⟩
theorem zgu (hu:X.A.units+1 < cLine) (ho:PE X o td) (hi:PE X i ty) (hv:PE X value tv) (hs:swapsWith value (some (.Subscript o i pos')) pos.line X.env=pure false) :
  PS X (.Assign [.Subscript o i pos'] value pos) (zqn td ty tv):=by
 intro lN s σ H D I h;refine wpAny_Assign_Subscript (thn (hv lN s σ H _ I h) fun r s1 ⟨v,H1,I1,rv,q1⟩=>thn (ho lN s1 σ H1 _ I1 q1) fun u s2 ⟨x,H2,I2,rx,q2⟩=>thn (hi lN s2 σ H2 _ I2 q2) fun iv s3 ⟨y,H3,I3,ry,a,H4,ex,g,q3⟩=>?_) hs;subst ex;obtain rfl:u=aX a:=rx;exact zkz hu I3 g ry rv fun s4 I4=>⟨σ,H4,I4,q3⟩
end
theorem zlP (h:Heap) (hb:sysModules < h.objs.size):zax P w H (h.push { cls:=.type "dict",data:=.dict #[] }) h.objs.size (.dK []) :=
 ⟨bg _,beq_eq_false_iff_ne.mpr (dq (a8 hb)),[],.nil,Heap.DictOf.new h⟩
theorem zhH (h:Heap) (hb:sysModules < h.objs.size):zax P w H (h.push { cls:=.type "dict",data:=.dict #[] }) h.objs.size (.dT []) :=
 ⟨bg _,beq_eq_false_iff_ne.mpr (dq (a8 hb)),[],.nil,_,#[],0,aE _ rfl,⟨rfl,rfl,rfl⟩,rfl,rfl,lA⟩
noncomputable def zps:TE:=fun _ H Q=>∀ p,H p=none->Q (.ref p) (lP H p (.dK []))
noncomputable def zpt:TE:=fun _ H Q=>∀ p,H p=none->Q (.ref p) (lP H p (.dT []))
section
variable {X:Cx} {pos:Pos}
theorem zlQ:PE X (.Dict [] [] pos) zps:=fun lN s σ H Q I h =>
 wpAny_Dict_empty ⟨.ref s.heap.objs.size,_,I.laid (a:=s.heap.objs.size) (o:=.dK []) (t':=s.toks) #[RG] (af _) (zlP s.heap I.big),rfl,h _ #[Pr]⟩
theorem zhI:PE X (.Dict [] [] pos) zpt:=fun lN s σ H Q I h =>
 wpAny_Dict_empty ⟨.ref s.heap.objs.size,_,I.laid (a:=s.heap.objs.size) (o:=.dT []) (t':=s.toks) #[RG] (af _) (zhH s.heap I.big),rfl,h _ #[Pr]⟩
end
structure M2 (X:Cx) (o:Expr) (m:Str) (apos:Pos) (e f:Expr) (m6:Pos):Prop where
 base:attributeBase o m X.env #[Qc]=eval o X.env
 few:((backTo m6 (starEach [e,f] X.env)).all (fun x=>!x.1) && (backToKw m6 (keywordEach [] X.env)).all (fun x=>x.1.isSome)
  && decide (([e,f]:List Expr).length+([]:List Keyword).length+(if ([]:List Keyword).isEmpty then 0 else 1) < 30))=true
 line:(apos.endLine == m6.line)=true
 trees:backTo m6 (starEach [e,f] X.env) = [#[Id],(false,eval f X.env)]
noncomputable def IsD (H:Hp) (a:Addr):Prop:=(∃ kvs,Rd H a #[Qn])\/∃ kvs,Rd H a #[OM]
theorem zlR {σ:St} {a:Addr} (I:Inv X lN σ H s) (d:IsD H a) :
  s.TypeIs #[M8] "dict"/\(∀ b,aX a = .ref b->∃ ob,s.heap.get? b=some ob/\ob.dict=none)/\(a == sysModules)=false:=by
 rcases d with ⟨kvs,e⟩ | ⟨kvs,e⟩
 ·obtain⟨_,hd,vs,_,dd⟩:=zhE I.hok e;refine⟨dd.typeIs,fun b q=>?_,hd⟩;cases q;obtain⟨ob,_,_,h1,h2,_⟩:=dd;exact⟨ob,h1,h2.2.1⟩
 ·obtain⟨_,hd,xs,_,dd⟩:=zhF I.hok e;refine⟨dd.typeIs,fun b q=>?_,hd⟩;cases q;obtain⟨ob,_,_,h1,h2,_⟩:=dd;exact⟨ob,h1,h2.2.1⟩
section
variable {X:Cx} {lN:List (Addr×Obj)} {σ:St} {H:Hp} {s:Shared} {a:Addr} {y d:V} {u r:Value} {o:Option V} {A:Around} {E:Value->Shared->Prop}
theorem zpu {Q:Value->Shared->Prop} (hu:A.units+1 < cLine) (I:Inv X lN σ H s) (g:zfn H a y o) (ry:RelV y u) (rd:RelV d r) (h:∀ w' s',Inv X lN σ H s'->RelV (o.getD d) w'->Q w' s') :
  wpAny #[o0] A (call (.builtin "dict.get") [.ref a,u,r]) Q E s:=by
 rcases g with ⟨kvs,k,e,ey,l⟩ | ⟨kvs,k,b,e,ey,eb,l⟩
 ·subst ey;obtain⟨z,hd,vs,rel,dd⟩:=zhE I.hok e;refine j7 gj dd.typeIs jh (iV _ _ _) (meets_dict_get_default #[Qu] a (zjk ry) hd r) ⟨_,dd.mapOf,h _ _ (I.tok _) ?_⟩;rw [l];exact (rel.val k).getD rd
 ·subst ey;cases (show u=aX b from ry);obtain⟨z,hd,xs,rel,dd⟩:=zhF I.hok e;refine j7 gj dd.typeIs jh (iV _ _ _) (meetsH_dict_get_default (tupleKind #[Qu]) a b hd r) ⟨fI hu,k,xs,zeN I.hok eb,dd,h _ _ (I.tok _) ?_⟩;rw [l];exact (rel.val k).getD rd
end
noncomputable def zpv (td ty tx:TE):TE:=fun σ H Q=>td σ H fun x H1=>∃ a,x = .ref a/\IsD H1 a/\ty σ H1 fun y H2=>tx σ H2 fun z H3=>∃ o,zfn H3 a y o/\Q (o.getD z) H3
section
variable {X:Cx} {o e f:Expr} {apos m6:Pos} {td ty tx:TE}
theorem zeO (hu:X.A.units+1 < cLine) (ho:PE X o td) (he:PE X e ty) (hf:PE X f tx) (m:M2 X o "get" apos e f m6):PE X (.Call (.Attribute o "get" apos) [e,f] [] m6) (zpv td ty tx):=by
 intro lN s σ H Q I h;refine wpAny_Call_method m.base m.few m.line iW gj PySem.F.type_dict_get (thn #[Og] fun u s1 ⟨x,H1,I1,rx,a,ex,d,q1⟩=>?_);subst ex;obtain rfl:u=aX a:=rx;obtain⟨t1,t2,_⟩:=zlR I1 d;refine⟨t1,t2,?_⟩;rw [m.trees];refine gb rfl (jz (dt (thn (he lN s1 σ H1 _ I1 q1) fun iv s2 ⟨y,H2,I2,ry,q2⟩ =>
  dt (thn (hf lN s2 σ H2 _ I2 q2) fun fv s3 ⟨z,H3,I3,rz,ov,g,q3⟩=>ed ?_))))
 exact zpu hu I3 g ry rz fun w' s4 I4 vf=>⟨_,H3,I4,vf,q3⟩
end
theorem zhJ:∀ {ns:List Int} {us:List Value},zU #[xz] us->∃ ps:List (Int×Tok),us=ps.map (fun p=>i0 p.1 p.2)/\ps.map (·.1)=ns
 | [],_,r=>by cases r; exact⟨[],rfl,rfl⟩
 | n :: ns,_,r=>by
  cases r with
  | cons r1 r2 =>
   obtain⟨ps,e1,e2⟩:=zhJ r2;obtain⟨t,rfl⟩:=r1;exact⟨(n,t) :: ps,by rw [e1]; rfl,by rw [<- e2]; rfl⟩
theorem zdR {X:Cx} (hc:X.calm=true):zbG X (.builtin "sum") (fun xs H Q=>∃ (p:Addr) (ns:List Int),xs = [.ref p]/\lO X.K H p #[xz]/\Q (.int ns.sum) H):=by
 intro lN s σ H xs us Q I r h;obtain⟨p,ns,rfl,hq,q⟩:=h;obtain⟨u,rfl,rx⟩:=vals1 r;cases rx;obtain⟨lQ,rv,pl,hz⟩:=I.list hq;obtain⟨ps,e1,e2⟩:=zhJ rv;subst e1 e2;have hl:s.heap.IsList p (intItems ps.toArray):=by
  have:=pl.isList;simpa [intItems] using this
 refine sum_intListG (xs:=ps.toArray) (by simp [I.ok.hd hc]) hl fun h' tk t' kk=>⟨.int (ps.map (·.1)).sum,H,I.kept kk,⟨t',?_⟩,q⟩
 rw [preSum_eq,aH #[M]]
end L2
namespace PySem
open PyProof.Rows
end PySem
namespace L2
open PySem PySem.Spec PyProof.Rows
variable {ns:List Int} {us:List Value}
theorem znz:∀ {kvs:List (Key×V)} {vs:List (Key×Value)} {ns:List Int},KV kvs vs->kvs.map (·.2)=ns.map V.int->IntsAre (vs.map (·.2)) ns:=by
 intro kvs vs ns r e;refine intsAre_of ?_;rw [<- e];clear e;induction r with
 | nil=>exact .nil
 | cons h1 h2 ih=>exact .cons h1.2 ih
theorem zgv (h:IntsAre us ns):zU #[xz] us:=by
 induction h with
 | nil=>exact .nil
 | cons ih=>exact .cons ⟨_,rfl⟩ (by assumption)
end L2
namespace My
open PySem L2 PyProof.Rows
section
variable {K:ah}
structure LZ (K:ah) (H:Hp) (r:Addr) (n:Nat) (rw:List #[ww]):Prop where
 at':lO K H r (rw.map pB)
 len:rw.length=n
end
end My
end
section
namespace Srt
open PySem PyProof.Rows
variable {arr:Array Keyed} {j l4:Nat} {st₀:SortSt}
noncomputable def Vk (val:Keyed->Int) (xs:Array Keyed) (i:Nat):Int:=match xs[i]? with
 | some p=>val p
 | none=>0
theorem zaq {val:Keyed->Int} {xs ys:Array Keyed} {i:Nat} (h:xs[i]? = ys[j]?):Vk val xs i=Vk val ys j:=by unfold Vk; rw [h]
theorem zae {val:Keyed->Int} {xs:Array Keyed} {i:Nat} {p:Keyed} (h:xs[i]? = some p):Vk val xs i=val p:=by unfold Vk; rw [h]
noncomputable def SIn (val:Keyed->Int) (xs:Array Keyed) (lo hi:Nat):Prop:=∀ i j,lo<=i->i<=j->j < hi->Vk val xs i<=Vk val xs j
noncomputable def DIn (val:Keyed->Int) (xs:Array Keyed) (lo hi:Nat):Prop:=∀ i j,lo<=i->i<=j->j < hi->Vk val xs j<=Vk val xs i
structure SB (κ:SortKind) (a₀:Array Keyed) (st:SortSt):Prop where
 perm:#[ut].Perm a₀
 kind:kindOf st=κ
 failed:failedOf st=none
theorem SB.size {κ:SortKind} {a₀:Array Keyed} {st:SortSt} (h:SB κ a₀ st):#[ut].size=a₀.size:=h.perm.size_eq
theorem SB.mem {κ:SortKind} {a₀:Array Keyed} {st:SortSt} (h:SB κ a₀ st) {i:Nat} (hi:i < a₀.size):∃ p,#[ut][i]? = some p/\p∈a₀.toList:=by
 (have nY:i < #[ut].size:=by rw [h.size]; exact hi)
 exact⟨#[ut][i],getElem?_pos _ i nY,(fu.mp h.perm).mem_iff.mp #[M]⟩
structure SF (κ:SortKind) (a₀:Array Keyed) (lo:Nat) (st₀ st:SortSt):Prop where
 b:SB κ a₀ st
 low:∀ k,k < lo->#[ut][k]? = (arrOf st₀)[k]?
 pend:pendingOf st=pendingOf st₀
theorem SF.refl {κ:SortKind} {a₀:Array Keyed} {lo:Nat} {st:SortSt} (h:SB κ a₀ st):SF κ a₀ lo st st:=⟨h,fun _ _=>rfl,rfl⟩
theorem SF.setArr {κ:SortKind} {a₀:Array Keyed} {lo:Nat} {st₀ st:SortSt} (h:SF κ a₀ lo st₀ st) {xs:Array Keyed} (hp:xs.Perm #[ut]) (hl:∀ k,k < lo->xs[k]? = #[ut][k]?):SF κ a₀ lo st₀ (setArr st xs) :=
 ⟨⟨hp.trans h.b.perm,h.b.kind,h.b.failed⟩,fun k hk=>(hl k hk).trans (h.low k hk),h.pend⟩
section
variable {prog:Program} {w:World} {A:Around} {E:Value->Shared->Prop} {s:Shared} {a₀:Array Keyed} {κ:SortKind} {val:Keyed->Int}
noncomputable def Cmp (prog:Program) (w:World) (A:Around) (s:Shared) (κ:SortKind) (val:Keyed->Int) (a₀:Array Keyed):Prop :=
 ∀ x y,x∈a₀.toList->y∈a₀.toList->∀ (Q:Bool->Shared->Prop) (E:Value->Shared->Prop),Q (decide (val x < val y)) s->wpAny #[pc] A (keyLt' κ x.1 y.1) Q E s
theorem zlS {st:SortSt} {x y:Keyed} {Q:Option Bool->SortSt->Prop} (hC:Cmp prog w A s κ val a₀) (hk:kindOf st=κ) (hx:x∈a₀.toList) (hy:y∈a₀.toList) (h:Q (some (decide (val x < val y))) st) :
  wpS #[pc] A E s (lt' x y) Q st:=by
 rw [lt'_eq];refine az (fS ?_);rw [hk];refine az (gU (dk (hC x y hx hy _ _ #[QE])));exact aC h
theorem zaa {st:SortSt} {i:Nat} {p:Keyed} {Q:Keyed->SortSt->Prop} (hi:arr[i]? = some p) (h:Q p st):wpS #[pc] A E s (elem' arr i) Q st:=by
 rw [elem'_eq,hi];exact aC h
theorem zeP {st:SortSt} {i:Nat} {Q:Option Bool->SortSt->Prop} (hC:Cmp prog w A s κ val a₀) (hB:SB κ a₀ st) (hi:i < a₀.size) (hj:j < a₀.size) (h:Q (some (decide (Vk val #[ut] i < Vk val #[ut] j))) st) :
  (wpS #[pc] A E s (ltAt' i j) Q st):=by
 obtain⟨x,ex,mx⟩:=hB.mem hi;obtain⟨y,ey,my⟩:=hB.mem hj;rw [ltAt'_eq];refine az (fS ?_)
 (show wpS _ _ _ _ (do let x <- elem' #[ut] i; let y <- elem' #[ut] j; lt' x y) Q st)
 refine az (zaa ex (az (zaa ey (zlS hC hB.kind mx my ?_))));rw [zae ex,zae ey] at h;exact h
theorem zjl {st:SortSt} {i:Nat} {Q:Unit->SortSt->Prop} (h:Q () (setArr st (mirror #[ut] i j ((j - i) / 2)))) :
  (wpS #[pc] A E s (reverseSlice' i j) Q st):=by
 ((rw [reverseSlice'_eq]; exact fg h))
theorem zeQ {xs:Array Keyed} {i:Nat} (hj:j<=xs.size) (k:Nat):Vk val (mirror xs i j ((j - i) / 2)) k=if i<=k/\k < j then Vk val xs (i+j - 1 - k) else Vk val xs k:=by
 (have e:=jS (i:=i) hj k)
 by_cases h1:i<=k/\k < j
 ·rw [if_pos h1] at e |-; exact zaq e
 ·rw [if_neg h1] at e |-; exact zaq e
theorem zbI {xs:Array Keyed} {i:Nat} (hj:j<=xs.size) (heq:∀ k,i<=k->k < j->Vk val xs k=Vk val xs (j - 1)) (k:Nat):Vk val (mirror xs i j ((j - i) / 2)) k=Vk val xs k:=by
 rw [zeQ hj];split
 ·(rw [heq _ #[O] #[O],heq k #[O] #[O]])
 ·rfl
theorem zcB {xs:Array Keyed} {lo i:Nat} (hj:j<=xs.size) (hi:lo<=i):∀ k,k < lo->(mirror xs i j ((j - i) / 2))[k]? = xs[k]?:=fun k hk=>by
 rw [jS hj,if_neg #[O]]
theorem ziN {xs:Array Keyed} {lo src d:Nat} (hs:src < xs.size) (hd:d<=src) (hl:lo<=src - d):∀ k,k < lo->(bubble xs src d)[k]? = xs[k]?:=fun k hk=>by
 rw [getElem?_bubble hs d hd,if_neg #[O],if_neg #[O]]
noncomputable def zlT (lo a l4:Nat):StateT SortSt Sem AscSt :=
 forIn [a:l4] ((none,a):AscSt) fun _ st=>do
  let x <- ltAt' (lo+st.snd) (lo+st.snd - 1)
  match x with
  | some sh=>if sh=true then pure (fT (none,st.snd)) else pure (cM (none,st.snd+1))
  | _=>pure (fT (some none,st.snd))
noncomputable def zhK (lo n l4:Nat):StateT SortSt Sem #[GT]:=do
 reverseSlice' lo (lo+n)
 let st <- zlT lo n l4
 match st.fst with
 | some r=>pure r
 | none=>pure (some st.snd)
noncomputable def zjm (lo n l4:Nat):StateT SortSt Sem DescSt :=
 forIn [n:l4] ((none,n,0):DescSt) fun _ st=>do
  let x <- ltAt' #[Rp] (lo+st.snd.fst - 1)
  match x with
  | some sh =>
   if sh=true then
    if st.snd.snd > 0 then do
     reverseSlice' (lo+st.snd.fst - (st.snd.snd+1)) #[Rp]
     pure (cM (none,st.snd.fst+1,0))
    else pure (cM (none,st.snd.fst+1,0))
   else do
    let x <- ltAt' (lo+st.snd.fst - 1) #[Rp]
    match x with
    | some Aq =>
     if Aq=true then pure (fT (none,st.snd.fst,st.snd.snd))
     else pure (cM (none,st.snd.fst+1,st.snd.snd+1))
    | _=>pure #[Rl]
  | _=>pure #[Rl]
noncomputable def zhL (lo n l4:Nat):StateT SortSt Sem #[GT]:=do
 liftM (rule "list.sort.descending-run"); let st <- zjm lo (n+1) l4
 match st.fst with
 | some r=>pure r
 | none =>
  if st.snd.snd > 0 then do
   reverseSlice' (lo+st.snd.fst - (st.snd.snd+1)) #[Rp]
   zhK lo st.snd.fst l4
  else zhK lo st.snd.fst l4
theorem zgw (lo l4:Nat):countRun' lo l4=(do
  let st <- zlT lo 1 l4
  match st.fst with
  | some r=>pure r
  | none =>
   if (st.snd == l4)=true then pure (some st.snd)
   else if st.snd > 1 then do
    let x <- ltAt' lo (lo+st.snd - 1)
    match x with
    | some Ci=>if Ci=true then pure (some st.snd) else do
      reverseSlice' lo (lo+st.snd)
      zhL lo st.snd l4
    | _=>pure none
   else zhL lo st.snd l4):=by
 rw [countRun'_eq];unfold zhL zhK zjm zlT;dsimp only;refine congrArg (bind _) ?_;funext c;obtain⟨r,n⟩:=c;cases r with
 | some r=>rfl
 | none =>
  dsimp only;split
  ·rfl
  ·split
   ·congr 1;funext x;cases x with
    | none=>rfl
    | some Ci =>
     dsimp only;split
     ·rfl
     ·congr 1;funext _r;congr 1; funext _u; congr 1; congr 1; funext s2; obtain⟨r2,n2,q2⟩:=s2;cases r2 with
      | some r2=>rfl
      | none =>
       dsimp only;split
       ·congr 1; funext _v; congr 1; funext _w; congr 1; funext s3; obtain⟨r3,n3⟩:=s3; cases r3 <;> rfl
       ·congr 1; funext _w; congr 1; funext s3; obtain⟨r3,n3⟩:=s3; cases r3 <;> rfl
   ·congr 1; funext _u; congr 1; congr 1; funext s2; obtain⟨r2,n2,q2⟩:=s2;cases r2 with
    | some r2=>rfl
    | none =>
     dsimp only;split
     ·congr 1; funext _v; congr 1; funext _w; congr 1; funext s3; obtain⟨r3,n3⟩:=s3; cases r3 <;> rfl
     ·congr 1; funext _w; congr 1; funext s3; obtain⟨r3,n3⟩:=s3; cases r3 <;> rfl
theorem zoJ {st:SortSt} {lo a:Nat} {Q:AscSt->SortSt->Prop} (hC:Cmp prog w A s κ val a₀) (hn:lo+l4<=a₀.size) (ha:1<=a) (han:a<=l4) (hB:SF κ a₀ lo st₀ st)
  (hs:SIn val #[ut] lo (lo+a))
  (h:∀ n,a<=n->n<=l4->SIn val #[ut] lo (lo+n)->(n=l4\/Vk val #[ut] (lo+n) < Vk val #[ut] (lo+n - 1))->Q (none,n) st) :
  wpS #[pc] A E s (zlT lo a l4) Q st:=by
 unfold zlT;refine cX (I:=fun x c lS=>lS=st/\c=(none,x)/\SIn val #[ut] lo (lo+x)) ?step ?fin ⟨rfl,rfl,hs⟩
 case fin =>
  rintro c lS ⟨rfl,rfl,o6⟩
  (rw [show max a l4=l4 by lia] at o6 |-)
  (exact h l4 han (af _) o6 #[Nq])
 case step =>
  (rintro x c lS FV Ei ⟨rfl,rfl,o6⟩)
  dsimp only;refine az (zeP hC hB.b #[O] #[O] ?_);by_cases nR:Vk val #[wS] (lo+x) < Vk val #[wS] (lo+x - 1)
  ·(simp only [nR,decide_true,if_true])
   (exact aC (h x FV #[O] o6 (.inr nR)))
  ·(simp only [nR,decide_false,bA,if_false])
   refine aC ⟨rfl,rfl,fun i j tq qH hj=>?_⟩;by_cases Cj:j < lo+x
   ·exact o6 i j tq qH Cj
   ·have qj:j=lo+x:=by lia
    subst qj;by_cases nY:i=lo+x
    ·(subst nY; exact bM _)
    ·exact bQ (o6 i (lo+x - 1) tq #[O] #[O]) (Int.not_lt.mp nR)
theorem zlU {st:SortSt} {lo n:Nat} {Q:Option Nat->SortSt->Prop} (hC:Cmp prog w A s κ val a₀) (hn:lo+l4<=a₀.size) (h1:1<=n) (vY:n<=l4) (hB:SF κ a₀ lo st₀ st)
  (hs:DIn val #[ut] lo (lo+n)) (h:∀ m lS,SF κ a₀ lo st₀ lS->1<=m->m<=l4->SIn val #[wS] lo (lo+m)->Q (some m) lS) :
  wpS #[pc] A E s (zhK lo n l4) Q st:=by
 unfold zhK;have hsz:lo+n<=#[ut].size:=by rw [hB.b.size]; lia
 refine az (zjl ?_);have pd:=hB.setArr (ji #[ut] lo (lo+n) ((lo+n - lo) / 2)) (zcB hsz (af _));refine az (zoJ hC hn h1 vY pd ?_ fun m vw sg Ck _=>aC (h m _ pd #[O] sg Ck));intro i j tq qH hj;show Vk val (mirror #[ut] lo (lo+n) ((lo+n - lo) / 2)) i<=Vk val (mirror #[ut] lo (lo+n) ((lo+n - lo) / 2)) j;rw [zeQ hsz,zeQ hsz,if_pos #[O],if_pos #[O]];exact hs _ _ #[O] #[O] #[O]
theorem zpw {st:SortSt} {lo n:Nat} {Q:DescSt->SortSt->Prop} (hC:Cmp prog w A s κ val a₀) (hn:lo+l4<=a₀.size) (h1:1<=n) (vY:n<=l4) (hB:SF κ a₀ lo st₀ st)
  (hs:DIn val #[ut] lo (lo+n))
  (h:∀ m uy lS,SF κ a₀ lo st₀ lS->n<=m->m<=l4->DIn val #[wS] lo (lo+m)->uy+1<=m->(∀ i,lo+m - (uy+1)<=i->i < lo+m->Vk val #[wS] i=Vk val #[wS] (lo+m - 1))->Q (none,m,uy) lS) :
  wpS #[pc] A E s (zjm lo n l4) Q st:=by
 unfold zjm;refine cX (I:=fun x c lS=>∃ uy,c=(none,x,uy)/\SF κ a₀ lo st₀ lS/\DIn val #[wS] lo (lo+x)/\uy+1<=x /\
   (∀ i,lo+x - (uy+1)<=i->i < lo+x->Vk val #[wS] i=Vk val #[wS] (lo+x - 1))) ?step ?fin ⟨0,rfl,hB,hs,#[O],fun i h1 h2=>by congr 1; lia⟩
 case fin =>
  (rintro c lS ⟨uy,rfl,pd,o6,hq,he⟩)
  (rw [show max n l4=l4 by lia] at o6 hq he |-)
  (exact h l4 uy lS pd vY (af _) o6 hq he)
 case step =>
  (rintro x c lS FV Ei ⟨uy,rfl,pd,o6,hq,he⟩)
  dsimp only;have hsz:lo+x<=#[wS].size:=by rw [pd.b.size]; lia
  refine az (zeP hC pd.b #[O] #[O] ?_);by_cases nR:Vk val #[wS] (lo+x) < Vk val #[wS] (lo+x - 1)
  ·(simp only [nR,decide_true,if_true])
   have step1:∀ xs:Array Keyed,(∀ k,Vk val xs k=Vk val #[wS] k)->DIn val xs lo (lo+(x+1)):=by
    intro xs hk i j tq qH hj;rw [hk,hk];by_cases Cj:j < lo+x
    ·exact o6 i j tq qH Cj
    ·have qj:j=lo+x:=by lia
     subst qj;by_cases nY:i=lo+x
     ·(subst nY; exact bM _)
     ·exact bQ (eS nR) (o6 i (lo+x - 1) tq #[O] #[O])
   by_cases wD:uy > 0
   ·rw [if_pos wD];refine az (zjl (aC ⟨0,rfl,pd.setArr (ji _ _ _ _) (zcB hsz #[O]),step1 _ (zbI hsz he),#[O],fun i h1 h2=>by congr 1; lia⟩))
   ·rw [if_neg wD]
    (exact aC ⟨0,rfl,pd,step1 _ #[QF],#[O],fun i h1 h2=>by congr 1; lia⟩)
  ·(simp only [nR,decide_false,bA,if_false])
   refine az (zeP hC pd.b #[O] #[O] ?_);by_cases uV:Vk val #[wS] (lo+x - 1) < Vk val #[wS] (lo+x)
   ·(simp only [uV,decide_true,if_true])
    (exact aC (h x uy lS pd FV #[O] o6 hq he))
   ·(simp only [uV,decide_false,bA,if_false])
    have Cm:Vk val #[wS] (lo+x)=Vk val #[wS] (lo+x - 1):=by lia
    refine aC ⟨uy+1,rfl,pd,fun i j tq qH hj=>?_,#[O],fun i h1 h2=>?_⟩
    ·by_cases Cj:j < lo+x
     ·exact o6 i j tq qH Cj
     ·have qj:j=lo+x:=by lia
      subst qj;by_cases nY:i=lo+x
      ·(subst nY; exact bM _)
      ·rw [Cm]; exact o6 i (lo+x - 1) tq #[O] #[O]
    ·rw [show lo+(x+1) - 1=lo+x by lia];by_cases hix:i=lo+x
     ·subst hix; rfl
     ·(rw [Cm]; exact he i #[O] #[O])
theorem zjn {st:SortSt} {lo n:Nat} {Q:Option Nat->SortSt->Prop} (hC:Cmp prog w A s κ val a₀) (hn:lo+l4<=a₀.size) (vY:n+1<=l4) (hB:SF κ a₀ lo st₀ st)
  (hs:DIn val #[ut] lo (lo+(n+1))) (h:∀ m lS,SF κ a₀ lo st₀ lS->1<=m->m<=l4->SIn val #[wS] lo (lo+m)->Q (some m) lS) :
  wpS #[pc] A E s (zhL lo n l4) Q st:=by
 unfold zhL
 (refine az #[NB])
 refine az (zpw hC hn #[O] vY hB hs fun m uy lS pd vw sg o6 hq he=>?_);dsimp only;have hsz:lo+m<=#[wS].size:=by rw [pd.b.size]; lia
 by_cases wD:uy > 0
 ·rw [if_pos wD];refine az (zjl (zlU hC hn #[O] sg (pd.setArr (ji _ _ _ _) (zcB hsz #[O])) ?_ h));intro i j tq qH hj;show Vk val (mirror #[wS] _ _ _) j<=Vk val (mirror #[wS] _ _ _) i;rw [zbI hsz he,zbI hsz he];exact o6 i j tq qH hj
 ·rw [if_neg wD];exact zlU hC hn #[O] sg pd o6 h
theorem znA {st:SortSt} {lo:Nat} {Q:Option Nat->SortSt->Prop} (hC:Cmp prog w A s κ val a₀) (hn:lo+l4<=a₀.size) (h1:1<=l4) (hB:SF κ a₀ lo st₀ st)
  (h:∀ m lS,SF κ a₀ lo st₀ lS->1<=m->m<=l4->SIn val #[wS] lo (lo+m)->Q (some m) lS) :
  wpS #[pc] A E s (countRun' lo l4) Q st:=by
 rw [zgw];refine az (zoJ hC hn (af 1) h1 hB (fun i j tq qH hj=>(by
   have e:i=j:=by lia
   rw [e];exact bM _)) fun n xo ug xp hor=>?_)
 dsimp only;by_cases vY:n=l4
 ·(rw [if_pos (by simpa using vY)])
  (exact aC (h n st hB xo ug xp))
 ·(rw [if_neg (by simpa using vY)])
  have mh:Vk val #[ut] (lo+n) < Vk val #[ut] (lo+n - 1):=hor.resolve_left vY;by_cases hgt:n > 1
  ·rw [if_pos hgt];refine az (zeP hC hB.b #[O] #[O] ?_);by_cases yG:Vk val #[ut] lo < Vk val #[ut] (lo+n - 1)
   ·(simp only [yG,decide_true,if_true])
    (exact aC (h n st hB xo ug xp))
   ·(simp only [yG,decide_false,bA,if_false])
    have hsz:lo+n<=#[ut].size:=by rw [hB.b.size]; lia
    have ng:∀ k,lo<=k->k < lo+n->Vk val #[ut] k=Vk val #[ut] (lo+n - 1):=by
     intro k vZ hk;have a1:=xp lo k (af _) vZ hk;have a2:=xp k (lo+n - 1) vZ #[O] #[O];lia
    refine az (zjl (zjn hC hn #[O] (hB.setArr (ji _ _ _ _) (zcB hsz (af _))) ?_ h));intro i j tq qH hj;show Vk val (mirror #[ut] _ _ _) j<=Vk val (mirror #[ut] _ _ _) i;rw [zbI hsz ng,zbI hsz ng];by_cases hjn:j < lo+n
    ·(rw [ng i #[O] #[O],ng j #[O] hjn]; exact bM _)
    ·have qj:j=lo+n:=by lia
     subst qj;by_cases nY:i=lo+n
     ·(subst nY; exact bM _)
     ·(rw [ng i #[O] #[O]]; exact eS mh)
  ·rw [if_neg hgt];have FW:n=1:=by lia
   subst FW;refine zjn hC hn #[O] hB ?_ h;intro i j tq qH hj;by_cases nY:i=j
   ·(subst nY; exact bM _)
   ·have hi0:i=lo:=by lia
    have xQ:j=lo+1:=by lia
    subst hi0; subst xQ;exact eS mh
theorem zhM {xs:Array Keyed} {src d:Nat} (hs:src < xs.size) (hd:d<=src) (k:Nat) :
  Vk val (bubble xs src d) k=if k=src - d then Vk val xs src else if src - d < k/\k<=src then Vk val xs (k - 1) else Vk val xs k:=by
 (have e:=getElem?_bubble hs d hd k)
 by_cases h1:k=src - d
 ·rw [if_pos h1] at e |-; exact zaq e
 ·rw [if_neg h1] at e |-
  (by_cases h2:src - d < k/\k<=src)
  ·rw [if_pos h2] at e |-; exact zaq e
  ·rw [if_neg h2] at e |-; exact zaq e
theorem zqo {st:SortSt} {lo n ok:Nat} {Q:Bool->SortSt->Prop} (hC:Cmp prog w A s κ val a₀) (hn:lo+n<=a₀.size) (hok:ok<=n) (hB:SF κ a₀ lo st₀ st) (hs:SIn val #[ut] lo (lo+ok))
  (h:∀ lS,SF κ a₀ lo st₀ lS->SIn val #[wS] lo (lo+n)->Q true lS):wpS #[pc] A E s (binarySort' lo n ok) Q st:=by
 rw [binarySort'_eq];refine az (dR (cX (I:=fun k c lS=>c=(none,())/\SF κ a₀ lo st₀ lS/\SIn val #[wS] lo (lo+min k n))
  (Q:=fun c lS=>c=(none,())/\SF κ a₀ lo st₀ lS/\SIn val #[wS] lo (lo+n)) ?step ?fin ?init) ?post)
 case post =>
  rintro c lS ⟨rfl,pd,o6⟩
  (exact aC (h lS pd o6))
 case init =>
  refine⟨rfl,hB,fun i j tq qH hj=>?_⟩;by_cases h1:ok=0
  ·have e:i=j:=by lia
   rw [e]; exact bM _
  ·exact hs i j tq qH #[O]
 case fin =>
  rintro c lS ⟨hc,pd,o6⟩;refine⟨hc,pd,?_⟩
  (rwa [show min (max (max ok 1) n) n=n by lia] at o6)
 case step =>
  (rintro k c lS hak Ej ⟨rfl,pd,o6⟩)
  (rw [show min k n=k by lia] at o6)
  have hk:lo+k < a₀.size:=#[O]; refine az (dR (cX (I:=fun x c oC=>oC=lS/\∃ l r,c=(none,l,r)/\l<=r/\r<=k/\r - l<=k - x /\
    (∀ i,i < l->Vk val #[wS] (lo+i)<=Vk val #[wS] (lo+k))/\(∀ i,r<=i->i < k->Vk val #[wS] (lo+k) < Vk val #[wS] (lo+i)))
   (Q:=fun c oC=>oC=lS/\∃ l r,c=(none,l,r)/\l<=k/\(∀ i,i < l->Vk val #[wS] (lo+i)<=Vk val #[wS] (lo+k))/\(∀ i,l<=i->i < k->Vk val #[wS] (lo+k) < Vk val #[wS] (lo+i))) ?istep ?ifin ?iinit) ?ipost)
  case iinit=>(exact⟨rfl,0,k,rfl,#[O],#[O],#[O],fun i hi=>by lia,fun i h1 h2=>by lia⟩)
  case ifin =>
   (rintro c oC ⟨rfl,l,r,rfl,Br,FX,hm,rq,xR⟩)
   have:l=r:=by lia
   subst this
   (exact⟨rfl,l,l,rfl,FX,rq,xR⟩)
  case istep =>
   (rintro x c oC _ hxk ⟨rfl,l,r,rfl,Br,FX,hm,rq,xR⟩)
   dsimp only;by_cases pf:l>=r
   ·rw [if_pos pf];have:l=r:=by lia
    subst this
    (exact aC ⟨rfl,l,l,rfl,FX,rq,xR⟩)
   ·rw [if_neg pf];refine az (zeP hC pd.b hk #[O] ?_);by_cases nR:Vk val #[Qa] (lo+k) < Vk val #[Qa] (lo+(l+r) / 2)
    ·(simp only [nR,decide_true,if_true])
     (refine aC ⟨rfl,l,(l+r) / 2,rfl,#[O],#[O],#[O],rq,fun i h1 h2=>?_⟩)
     exact Int.lt_of_lt_of_le nR (o6 _ _ #[O] #[O] #[O])
    ·(simp only [nR,decide_false,bA,if_false])
     (refine aC ⟨rfl,(l+r) / 2+1,r,rfl,#[O],#[O],#[O],fun i h1=>?_,xR⟩)
     exact bQ (o6 (lo+i) (lo+(l+r) / 2) #[O] #[O] #[O]) (Int.not_lt.mp nR)
  case ipost =>
   (rintro c oC ⟨rfl,l,r,rfl,hlk,rq,xR⟩)
   show wpS _ _ _ _ (do moveDown' (lo+k) (lo+l); pure (cM (none,()))) _ _;rw [moveDown'_eq];have FY:lo+k < #[Qa].size:=by rw [pd.b.size]; exact hk
   refine az (fg (aC ⟨rfl,pd.setArr (bubble_perm _ _ _) (ziN FY #[O] #[O]),?_⟩))
   (rw [show min (k+1) n=k+1 by lia])
   intro i j tq qH hj;show Vk val (bubble #[Qa] (lo+k) (lo+k - (lo+l))) i<=Vk val (bubble #[Qa] (lo+k) (lo+k - (lo+l))) j;rw [zhM FY #[O],zhM FY #[O],show lo+k - (lo+k - (lo+l))=lo+l by lia];have FZ:∀ i,lo<=i->i < lo+l->Vk val #[Qa] i<=Vk val #[Qa] (lo+k):=fun i h1 h2=>by
    have:=rq (i - lo) #[O]
    rwa [show lo+(i - lo)=i by lia] at this
   have F0:∀ i,lo+l<=i->i < lo+k->Vk val #[Qa] (lo+k) < Vk val #[Qa] i:=fun i h1 h2=>by
    have:=xR (i - lo) #[O] #[O]
    rwa [show lo+(i - lo)=i by lia] at this
   repeat' split
   all_goals first
    | (exfalso; lia)
    | exact bM _
    | exact FZ _ #[O] #[O]
    | exact eS (F0 _ #[O] #[O])
    | exact o6 _ _ #[O] #[O] #[O]
end
end Srt
end
section
namespace Srt
open PySem PyProof.Rows
variable {A:Around} {M:Model} {arr:Array Keyed} {j:Nat} {key:Keyed} {s:Shared}
noncomputable def znB:Bool->Keyed->Array Keyed->Nat->Nat->Nat->StateT SortSt Sem #[GT]:=sortPriv% PySem.Builtin.gallop
noncomputable def zlV:Array Keyed->Array Keyed->StateT SortSt Sem (Array Keyed):=sortPriv% PySem.Builtin.mergeLo
noncomputable def zlW:Array Keyed->Array Keyed->StateT SortSt Sem (Array Keyed):=sortPriv% PySem.Builtin.mergeHi
noncomputable def zdg:Nat->StateT SortSt Sem Unit:=sortPriv% PySem.Builtin.setMinGallop
theorem zgx {E:Value->Shared->Prop} {α:Type} {m:StateT SortSt Sem α} {Q:α->SortSt->Prop} {st:SortSt} (h:wpAny M A (m st) (fun r s'=>s'=s/\Q r.1 r.2) E s):wpS M A E s m Q st:=h
theorem zgy {E:Value->Shared->Prop} {α:Type} {m:StateT SortSt Sem α} {Q:α->SortSt->Prop} {st:SortSt} (h:wpS M A E s m Q st):wpAny M A (m st) (fun r s'=>s'=s/\Q r.1 r.2) E s:=h
section
variable {prog:Program} {w:World} {A:Around} {E:Value->Shared->Prop} {s:Shared} {a₀:Array Keyed} {κ:SortKind} {val:Keyed->Int}
noncomputable def bB (val:Keyed->Int) (left:Bool) (key:Keyed) (arr:Array Keyed) (base i:Nat):Bool:=if left then decide (Vk val arr (base+i) < val key) else !decide (val key < Vk val arr (base+i))
theorem zdt {left:Bool} {base n i:Nat} (hs:SIn val arr base (base+n)) (qH:i<=j) (hj:j < n) (h:bB val left key arr base j=true):bB val left key arr base i=true:=by
 have:=hs (base+i) (base+j) #[O] #[O] #[O];unfold bB at h |-;cases left <;> simp at h |- <;> lia
theorem zcS {st:SortSt} {left:Bool} {base i:Nat} {Q:Option Bool->SortSt->Prop} {p:Keyed} (hC:Cmp prog w A s κ val a₀) (hk:kindOf st=κ) (qI:key∈a₀.toList) (he:arr[base+i]? = some p) (hp:p∈a₀.toList)
  (h:Q (some (bB val left key arr base i)) st):wpS #[pc] A E s (do
   let x <- elem' arr (base+i)
   if left then lt' x key else do
    let r <- lt' key x
    return r.map (!·)) Q st:=by
 refine az (zaa he ?_);unfold bB at h;rw [zae he] at h;cases left with
 | true=>exact zlS hC hk hp qI h
 | false=>exact az (zlS hC hk qI hp (aC h))
abbrev znC:=Option #[GT]×Nat×Nat
theorem zlX {st:SortSt} {left:Bool} {base n lo hi:Nat} {f:Nat->znC->StateT SortSt Sem (ForInStep znC)} (hs:SIn val arr base (base+n)) (hlh:lo<=hi) (Cn:hi<=n)
  (h1:∀ i,i < lo->bB val left key arr base i=true) (h2:∀ i,hi<=i->i < n->bB val left key arr base i=false)
  (hf:∀ (x l r:Nat) (R:ForInStep znC->SortSt->Prop),r<=n->(l>=r->R (.done (none,l,r)) st)->(l < r->R (if bB val left key arr base (l+(r - l) / 2)=true then .yield (none,l+(r - l) / 2+1,r) else .yield (none,l,l+(r - l) / 2)) st)->wpS #[pc] A E s (f x (none,l,r)) R st) :
  wpS #[pc] A E s (forIn [0:n] ((none,lo,hi):znC) f) (fun c lS=>lS=st/\∃ l,c=(none,l,l)/\l<=n/\(∀ i,i < l->bB val left key arr base i=true)/\(∀ i,l<=i->i < n->bB val left key arr base i=false)) st:=by
 refine cX (I:=fun x c lS=>lS=st/\∃ l r,c=(none,l,r)/\l<=r/\r<=n/\r - l<=n - x/\(∀ i,i < l->bB val left key arr base i=true)/\(∀ i,r<=i->i < n->bB val left key arr base i=false)) ?step ?fin ⟨rfl,lo,hi,rfl,hlh,Cn,#[O],h1,h2⟩
 case fin =>
  rintro c lS ⟨rfl,l,r,rfl,Br,Ar,hm,a1,a2⟩;have:l=r:=by lia
  subst this;exact⟨rfl,l,rfl,Ar,a1,a2⟩
 case step =>
  rintro x c lS _ Ei ⟨rfl,l,r,rfl,Br,Ar,hm,a1,a2⟩;refine hf x l r _ Ar (fun pf=>?_) (fun mh=>?_)
  ·have:l=r:=by lia
   subst this;exact⟨rfl,l,rfl,Ar,a1,a2⟩
  ·cases hb:bB val left key arr base (l+(r - l) / 2) with
   | true =>
    rw [if_pos rfl];exact⟨rfl,l+(r - l) / 2+1,r,rfl,#[O],Ar,#[O],fun i hi=>zdt hs #[O] #[O] hb,a2⟩
   | false =>
    rw [if_neg #[D]];refine⟨rfl,l,l+(r - l) / 2,rfl,#[O],#[O],#[O],a1,fun i hi qk=>?_⟩;cases e:bB val left key arr base i with
    | false=>rfl
    | true=>rw [zdt hs hi qk e] at hb; cases hb
theorem zbJ {st:SortSt} {left:Bool} {base n hint:Nat} {Q:Option Nat->SortSt->Prop} (hC:Cmp prog w A s κ val a₀) (hk:kindOf st=κ) (qI:key∈a₀.toList)
  (ha:∀ i,i < n->∃ p,arr[base+i]? = some p/\p∈a₀.toList) (hs:SIn val arr base (base+n)) (hh:hint < n)
  (h:∀ k,k<=n->(∀ i,i < k->bB val left key arr base i=true)->(∀ i,k<=i->i < n->bB val left key arr base i=false)->Q (some k) st) :
  wpS #[pc] A E s (znB left key arr base n hint) Q st:=by
 refine zgx ?_
 wp_delta
 wp_delta
 refine zgy ?_;dsimp only;obtain⟨p,ep,mp⟩:=ha hint hh;refine az #[NM];dsimp only;have up:∀ {i j:Nat},i<=j->j < n->bB val left key arr base i=false->bB val left key arr base j=false:=fun {i j} qH hj h=>by
  cases e:bB val left key arr base j with
  | false=>rfl
  | true=>rw [zdt hs qH hj e] at h; cases h
 cases hr:bB val left key arr base hint with
 | true =>
  simp only [if_true];refine az (dR (cX (I:=fun x c lS=>lS=st/\∃ l o,c=(none,l,o)/\l < o/\x+1<=o/\hint+l < n/\bB val left key arr base (hint+l)=true)
   (Q:=fun c lS=>lS=st/\∃ l o,c=(none,l,o)/\l < o/\hint+l < n/\bB val left key arr base (hint+l)=true/\(hint+o < n->bB val left key arr base (hint+o)=false)) ?step ?fin ⟨rfl,0,1,rfl,#[O],#[O],hh,hr⟩) ?post)
  case fin =>
   rintro c lS ⟨rfl,l,o,rfl,rq,hx,hl,hb⟩;exact⟨rfl,l,o,rfl,rq,hl,hb,fun z=>by lia⟩
  case step =>
   rintro x c lS _ Ei ⟨rfl,l,o,rfl,rq,hx,hl,hb⟩;dsimp only;by_cases pf:o>=n - hint
   ·rw [if_pos pf];exact aC ⟨rfl,l,o,rfl,rq,hl,hb,fun z=>by lia⟩
   ·rw [if_neg pf];obtain⟨p,ep,mp⟩:=ha (hint+o) #[O];refine az #[NM];dsimp only;cases tw:bB val left key arr base (hint+o) with
    | true =>
     rw [if_neg #[D]];exact aC ⟨rfl,o,2*o+1,rfl,#[O],#[O],#[O],tw⟩
    | false =>
     rw [if_pos #[D]];exact aC ⟨rfl,l,o,rfl,rq,hl,hb,fun _=>tw⟩
  case post =>
   rintro c lS ⟨rfl,l,o,rfl,rq,hl,hb,tw⟩;dsimp only;refine az (dR (zlX (val:=val) (left:=left) (key:=key) (arr:=arr) (base:=base) hs #[O] #[O] (fun i hi=>zdt hs #[O] hl hb) (fun i hi qk=>(by
    by_cases ho:hint+o < n
    ·exact up #[O] qk (tw ho)
    ·lia)) #[SZ]) ?_)
   ·dsimp only;by_cases pf:l'>=r'
    ·rw [if_pos pf];exact aC (k1 pf)
    ·rw [if_neg pf];obtain⟨p,ep,mp⟩:=ha (l'+(r' - l') / 2) #[O];refine az #[NM];have k3:=k2 #[O];dsimp only;cases xq:bB val left key arr base (l'+(r' - l') / 2) with
     | true=>rw [xq] at k3; rw [if_pos rfl] at k3 |-; exact aC k3
     | false=>rw [xq] at k3; rw [if_neg #[D]] at k3 |-; exact aC k3
   ·rintro c oC ⟨rfl,l,rfl,hl,b1,b2⟩;exact aC (h l hl b1 b2)
 | false =>
  (simp only [bA,if_false])
  refine az (dR (cX (I:=fun x c lS=>lS=st/\∃ l o,c=(none,l,o)/\l < o/\x+1<=o/\l<=hint/\bB val left key arr base (hint - l)=false)
   (Q:=fun c lS=>lS=st/\∃ l o,c=(none,l,o)/\l < o/\l<=hint/\bB val left key arr base (hint - l)=false/\(o<=hint->bB val left key arr base (hint - o)=true)) ?step ?fin ⟨rfl,0,1,rfl,#[O],#[O],#[O],hr⟩) ?post)
  case fin =>
   rintro c lS ⟨rfl,l,o,rfl,rq,hx,hl,hb⟩;exact⟨rfl,l,o,rfl,rq,hl,hb,fun z=>by lia⟩
  case step =>
   rintro x c lS _ Ei ⟨rfl,l,o,rfl,rq,hx,hl,hb⟩;dsimp only;by_cases pf:o>=hint+1
   ·rw [if_pos pf];exact aC ⟨rfl,l,o,rfl,rq,hl,hb,fun z=>by lia⟩
   ·rw [if_neg pf];obtain⟨p,ep,mp⟩:=ha (hint - o) #[O];refine az #[NM];dsimp only;cases tw:bB val left key arr base (hint - o) with
    | false =>
     rw [if_neg #[D]];exact aC ⟨rfl,o,2*o+1,rfl,#[O],#[O],#[O],tw⟩
    | true =>
     rw [if_pos rfl];exact aC ⟨rfl,l,o,rfl,rq,hl,hb,fun _=>tw⟩
  case post =>
   rintro c lS ⟨rfl,l,o,rfl,rq,hl,hb,tw⟩;dsimp only;refine az (dR (zlX (val:=val) (left:=left) (key:=key) (arr:=arr) (base:=base) hs #[O] #[O] (fun i hi=>(by
    by_cases ho:o<=hint
    ·exact zdt hs #[O] #[O] (tw ho)
    ·lia)) (fun i hi qk=>up hi qk hb) #[SZ]) ?_)
   ·dsimp only;by_cases pf:l'>=r'
    ·rw [if_pos pf];exact aC (k1 pf)
    ·rw [if_neg pf];obtain⟨p,ep,mp⟩:=ha (l'+(r' - l') / 2) #[O];refine az #[NM];have k3:=k2 #[O];dsimp only;cases xq:bB val left key arr base (l'+(r' - l') / 2) with
     | true=>rw [xq] at k3; rw [if_pos rfl] at k3 |-; exact aC k3
     | false=>rw [xq] at k3; rw [if_neg #[D]] at k3 |-; exact aC k3
   ·rintro c oC ⟨rfl,l,rfl,hl,b1,b2⟩;exact aC (h l hl b1 b2)
end
end Srt
end
section
namespace Srt
open PySem PyProof.Rows
variable {k:Nat}
abbrev zaz (st:SortSt) (g:Nat):SortSt:=lq (kindOf st) #[ut] #[Pl] g (failedOf st)
theorem zdS (g:Nat):zdg g=modify fun s=>zaz s g:=rfl
noncomputable def Le (val:Keyed->Int) (xs ys:List Keyed):Prop:=∀ x∈xs,∀ y∈ys,val x<=val y
noncomputable def Ris (val:Keyed->Int) (xs:List Keyed):Prop:=xs.Pairwise fun x y=>val x<=val y
theorem zaI {val:Keyed->Int} {xs ys:List Keyed}:Ris val (xs++ys)↔Ris val xs/\Ris val ys/\Le val xs ys:=jD
structure MI (val:Keyed->Int) (T o l r:List Keyed):Prop where
 perm:(o++l++r).Perm T
 so:Ris val o
 sl:Ris val l
 sr:Ris val r
 ol:Le val o l
 or':Le val o r
noncomputable def Good (val:Keyed->Int) (T res:List Keyed):Prop:=res.Perm T/\Ris val res
section
variable {val:Keyed->Int} {T o l l1 l2 r r1 r2:List Keyed}
theorem Le.left {xs ys zs:List Keyed} (h:Le val (xs++ys) zs):Le val xs zs:=fun x hx y hy=>h x (aL _ hx) y hy
theorem Le.right {xs ys zs:List Keyed} (h:Le val (xs++ys) zs):Le val ys zs:=fun x hx y hy=>h x (aI _ hx) y hy
theorem Le.app {xs ys zs:List Keyed} (h1:Le val xs zs) (h2:Le val ys zs):Le val (xs++ys) zs:=fun x hx y hy=>by
 rcases aP.mp hx with h | h
 ·exact h1 x h y hy
 ·exact h2 x h y hy
theorem Le.Mm {xs ys zs:List Keyed} (h1:Le val xs ys) (h2:Le val xs zs):Le val xs (ys++zs):=fun x hx y hy=>by
 rcases aP.mp hy with h | h
 ·exact h1 x hx y h
 ·exact h2 x hx y h
theorem Le.sub {xs ys zs:List Keyed} (h1:Le val xs (ys++zs)):Le val xs ys/\Le val xs zs:=⟨fun x hx y hy=>h1 x hx y (aL _ hy),fun x hx y hy=>h1 x hx y (aI _ hy)⟩
theorem MI.Kw (h:MI val T o (l1++l2) r) (hle:Le val l1 r):MI val T (o++l1) l2 r:=by
 obtain⟨a1,a2,a3⟩:=zaI.mp h.sl;obtain⟨b1,b2⟩:=h.ol.sub;exact⟨by have:=h.perm; simpa [bt] using this,zaI.mpr ⟨h.so,a1,b1⟩,a2,h.sr,b2.app a3,h.or'.app hle⟩
theorem MI.Ke (h:MI val T o l (r1++r2)) (hle:Le val r1 l):MI val T (o++r1) l r2:=by
 obtain⟨a1,a2,a3⟩:=zaI.mp h.sr;obtain⟨b1,b2⟩:=h.or'.sub;refine⟨?_,zaI.mpr ⟨h.so,a1,b1⟩,h.sl,a2,h.ol.app hle,b2.app a3⟩;refine fA ?_ h.perm;have:(r1++l++r2).Perm (l++r1++r2):=List.perm_append_comm.append_right _;simpa [bt] using this.append_left o
theorem MI.J5 (h:MI val T o l []):Good val T (o++l):=⟨by have:=h.perm; simpa using this,zaI.mpr ⟨h.so,h.sl,h.ol⟩⟩
theorem MI.J4 (h:MI val T o [] r):Good val T (o++r):=⟨by have:=h.perm; simpa using this,zaI.mpr ⟨h.so,h.sr,h.or'⟩⟩
theorem MI.last (h:MI val T o l r) (hle:Le val r l):Good val T (o++r++l):=by
 refine⟨fA ?_ h.perm,?_⟩
 ·rw [bt,bt];exact List.perm_append_comm.append_left o
 ·exact zaI.mpr ⟨zaI.mpr ⟨h.so,h.sr,h.or'⟩,h.sl,h.ol.app hle⟩
end
section
variable {val:Keyed->Int} {T:List Keyed} {a b out:Array Keyed} {ia ib:Nat}
abbrev MA (val:Keyed->Int) (T:List Keyed) (a b out:Array Keyed) (ia ib:Nat):Prop:=MI val T out.toList (a.toList.drop ia) (b.toList.drop ib)
theorem zej {xs:Array Keyed} {i:Nat} {p:Keyed} (h:xs[i]? = some p):xs.toList.drop i=p :: xs.toList.drop (i+1):=by
 have hi:i < xs.toList.length:=by
  have:=(dm.mp h).1;simpa using this
 rw [cN hi];congr 1;have:=(dm.mp h).2;simpa using this
theorem zdu {xs:Array Keyed} (h:SIn val xs 0 xs.size):∀ i,Ris val #[ON]:=by
 have all:Ris val xs.toList:=by
  unfold Ris
  (rw [cR])
  intro i j hi hj qH
  (have nY:i < xs.size:=by simpa using hi)
  (have qj:j < xs.size:=by simpa using hj)
  have:=h i j (bg _) #[O] qj;rw [zae (getElem?_pos xs i nY),zae (getElem?_pos xs j qj)] at this;simpa using this
 exact fun i=>eU (kq _ _) all
theorem zek {xs:Array Keyed} {i:Nat} {p q:Keyed} (h:SIn val xs 0 xs.size) (hp:xs[i]? = some p) (hq:q∈xs.toList.drop i):val p<=val q:=by
 have:=zdu h i;rw [zej hp] at this hq;rcases (aB.mp hq) with rfl | hq
 ·exact bM _
 ·exact List.rel_of_pairwise_cons this hq
theorem MA.KP {y x:Keyed} (h:MA val T a b out ia ib) (sa:SIn val a 0 a.size) (hy:b[ib]? = some y) (hx:a[ia]? = some x) (hle:val y<=val x):MA val T a b (out.push y) ia (ib+1):=by
 unfold MA at h |-;rw [zej hy] at h;have:=MI.Ke (r1:=[y]) h fun p hp q hq=>by
  rw [aU.mp hp];exact bQ hle (zek sa hx hq)
 simpa using this
theorem MA.J7 {y x:Keyed} (h:MA val T a b out ia ib) (sb:SIn val b 0 b.size) (hy:b[ib]? = some y) (hx:a[ia]? = some x) (hle:val x<=val y):MA val T a b (out.push x) (ia+1) ib:=by
 unfold MA at h |-;rw [zej hx] at h;have:=MI.Kw (l1:=[x]) h fun p hp q hq=>by
  rw [aU.mp hp];exact bQ hle (zek sb hy hq)
 simpa using this
theorem zlY (xs:Array Keyed) (i k:Nat):xs.toList.drop i=#[RC].toList++xs.toList.drop (i+k):=by
 rw [dD];have:(xs.toList.extract i (i+k))=#[ON].take k:=by
  simp [dw] <;> lia
 rw [this,<- gV,bT]
theorem zel {xs:Array Keyed} {i:Nat} {p:Keyed} (h:p∈#[RC].toList):∃ j,j < k/\xs[i+j]? = some p:=by
 have e0:#[RC].toList=#[ON].take k:=by
  rw [dD];simp [dw] <;> lia
 rw [e0] at h
 (obtain⟨j,hj,e⟩:=cK h)
 have rB:j < k/\j < #[ON].length:=by
  rw [aG] at hj;lia
 refine⟨j,rB.1,?_⟩;rw [<- be,<- eJ,ag rB.2,<- e,kr]
theorem MA.Kw {y:Keyed} (h:MA val T a b out ia ib) (sb:SIn val b 0 b.size) (hy:b[ib]? = some y) (hle:∀ i,i < k->Vk val a (ia+i)<=val y):MA val T a b (out++a.extract ia (ia+k)) (ia+k) ib:=by
 unfold MA at h |-;rw [zlY a ia k] at h;have:=MI.Kw h fun p hp q hq=>by
  obtain⟨j,hj,e⟩:=zel hp;have:=hle j hj;rw [zae e] at this;exact bQ this (zek sb hy hq)
 simpa using this
theorem MA.Ke {x:Keyed} (h:MA val T a b out ia ib) (sa:SIn val a 0 a.size) (hx:a[ia]? = some x) (hle:∀ i,i < k->Vk val b (ib+i)<=val x):MA val T a b (out++b.extract ib (ib+k)) ia (ib+k):=by
 unfold MA at h |-;rw [zlY b ib k] at h;have:=MI.Ke h fun p hp q hq=>by
  obtain⟨j,hj,e⟩:=zel hp;have:=hle j hj;rw [zae e] at this;exact bQ this (zek sa hx hq)
 simpa using this
theorem zc2 (xs:Array Keyed) (i:Nat):(xs.extract i xs.size).toList=xs.toList.drop i:=by
 rw [dD];simp only [dw]
 (exact aH #[M])
theorem MA.J4 (h:MA val T a b out ia ib) (e:ib=b.size):Good val T (out++a.extract ia a.size++b.extract ib b.size).toList:=by
 unfold MA at h;rw [show b.toList.drop ib = [] from dX (by simp [e])] at h;have:=h.J5;rw [bO,bO,zc2,zc2,show b.toList.drop ib = [] from dX (by simp [e]),bH];exact this
theorem MA.J5 (h:MA val T a b out ia ib) (e:ia=a.size):Good val T (out++a.extract ia a.size++b.extract ib b.size).toList:=by
 unfold MA at h;rw [show a.toList.drop ia = [] from dX (by simp [e])] at h;have:=h.J4;rw [bO,bO,zc2,zc2,show a.toList.drop ia = [] from dX (by simp [e]),bH];exact this
theorem MA.last (h:MA val T a b out ia ib) (e:ia+1=a.size) (hl:∀ i,i < b.size->Vk val b i<=Vk val a (a.size - 1)):Good val T (out++b.extract ib b.size++a.extract ia a.size).toList:=by
 unfold MA at h;have hx:a[ia]? = some (a[ia]'#[O]):=getElem?_pos a ia #[O];have:=h.last fun p hp q hq=>by
  rw [zej hx,show a.toList.drop (ia+1) = [] from dX (by simp [e])] at hq;rw [aU.mp hq];obtain⟨j,hj,ej⟩:=cK (gw hp);have qj:j < b.size:=by simpa using hj
  have:=hl j qj;rw [zae (getElem?_pos b j qj),show a.size - 1=ia by lia,zae hx] at this;rw [<- ej];simpa using this
 rw [bO,bO,zc2,zc2];exact this
end
end Srt
end
section
namespace Srt
open PySem PyProof.Rows
variable {M:Model} {arr:Array Keyed} {key:Keyed}
section
variable {prog:Program} {w:World} {A:Around} {E:Value->Shared->Prop} {s:Shared} {a₀:Array Keyed} {κ:SortKind} {val:Keyed->Int}
theorem zdv {st:SortSt} {g:Nat} {Q:Unit->SortSt->Prop} (h:Q () (zaz st g)):wpS #[pc] A E s (zdg g) Q st:=by
 rw [zdS];exact fg h
theorem zaG {g:Prop} {xs:Array Keyed} {i:Nat} (h:i < xs.size) (k:∀ p,xs[i]? = some p->p∈xs.toList->g):g:=k _ (getElem?_pos xs i h) #[M]
theorem zcC {base i:Nat} (h:bB val true key arr base i=true):Vk val arr (base+i) < val key:=by
 unfold bB at h;simpa using h
theorem zdw {base i:Nat} (h:bB val false key arr base i=true):Vk val arr (base+i)<=val key:=by
 unfold bB at h;simp at h;lia
theorem zdk {base i:Nat} (h:bB val true key arr base i=false):val key<=Vk val arr (base+i):=by
 unfold bB at h;simp at h;lia
theorem zem {base i:Nat} (h:bB val false key arr base i=false):val key < Vk val arr (base+i):=by
 unfold bB at h;simp at h;exact h
theorem SIn.sub {xs:Array Keyed} {lo hi lo' nY:Nat} (h:SIn val xs lo hi) (h1:lo<=lo') (h2:nY<=hi):SIn val xs lo' nY:=fun i j a b c=>h i j #[O] b #[O]
theorem zA {σ α:Type} {c:Prop} {inst:Decidable c} {x y:StateT σ Sem α} {Q:α->σ->Prop} {st:σ} (h:c) (k:wpS M A E s x Q st):wpS M A E s #[Rg] Q st:=by rw [if_pos h]; exact k
theorem zB {σ α:Type} {c:Prop} {inst:Decidable c} {x y:StateT σ Sem α} {Q:α->σ->Prop} {st:σ} (h:¬ c) (k:wpS M A E s y Q st):wpS M A E s #[Rg] Q st:=by rw [if_neg h]; exact k
theorem dup {P X:Prop} (h:P->P->X) (k:P):X:=h k k
theorem zqU {P X:Prop} (h:(Unit->P)->(Unit->P)->X) (k:P):X:=h (fun _=>k) (fun _=>k)
theorem fr5 {σ β A1 A2 A3 A4 A5:Type} {lo hi:Nat} {f:Nat->β->StateT σ Sem (ForInStep β)} {Q:β->σ->Prop} {c:β} {st:σ} (uW:A1->A2->A3->A4->A5->β) (wF:A1->A2->A3->A4->A5->σ) (J:Nat->A1->A2->A3->A4->A5->Prop) (start:∃ a1 a2 a3 a4 a5,st=wF a1 a2 a3 a4 a5/\c=uW a1 a2 a3 a4 a5/\J lo a1 a2 a3 a4 a5) (fin:∀ a1 a2 a3 a4 a5,J (max lo hi) a1 a2 a3 a4 a5->Q #[Ra] (wF a1 a2 a3 a4 a5))
  (step:∀ x a1 a2 a3 a4 a5,lo<=x->x < hi->J x a1 a2 a3 a4 a5->wpS M A E s (f x #[Ra]) (fun r lS=>match r with | .done c'=>Q c' lS | .yield c'=>∃ a1 a2 a3 a4 a5,lS=wF a1 a2 a3 a4 a5/\c'=uW a1 a2 a3 a4 a5/\J (x+1) a1 a2 a3 a4 a5) (wF a1 a2 a3 a4 a5)):wpS M A E s (forIn [lo:hi] c f) Q st:=by
 refine cX (I:=fun x c lS=>∃ a1 a2 a3 a4 a5,lS=wF a1 a2 a3 a4 a5/\c=uW a1 a2 a3 a4 a5/\J x a1 a2 a3 a4 a5) ?_ ?_ start
 ·rintro x c lS h1 h2 ⟨a1,a2,a3,a4,a5,rfl,rfl,j⟩;exact step x _ _ _ _ _ h1 h2 j
 ·rintro c lS ⟨a1,a2,a3,a4,a5,rfl,rfl,j⟩;exact fin _ _ _ _ _ j
theorem fr7 {σ β A1 A2 A3 A4 A5 A6 A7:Type} {lo hi:Nat} {f:Nat->β->StateT σ Sem (ForInStep β)} {Q:β->σ->Prop} {c:β} {st:σ} (uW:A1->A2->A3->A4->A5->A6->A7->β) (wF:A1->A2->A3->A4->A5->A6->A7->σ) (J:Nat->A1->A2->A3->A4->A5->A6->A7->Prop) (start:∃ a1 a2 a3 a4 a5 a6 a7,st=wF a1 a2 a3 a4 a5 a6 a7/\c=uW a1 a2 a3 a4 a5 a6 a7/\J lo a1 a2 a3 a4 a5 a6 a7) (fin:∀ a1 a2 a3 a4 a5 a6 a7,J (max lo hi) a1 a2 a3 a4 a5 a6 a7->Q #[Ta] #[S9])
  (step:∀ x a1 a2 a3 a4 a5 a6 a7,lo<=x->x < hi->J x a1 a2 a3 a4 a5 a6 a7->wpS M A E s (f x #[Ta]) (fun r lS=>match r with | .done c'=>Q c' lS | .yield c'=>∃ a1 a2 a3 a4 a5 a6 a7,lS=wF a1 a2 a3 a4 a5 a6 a7/\c'=uW a1 a2 a3 a4 a5 a6 a7/\J (x+1) a1 a2 a3 a4 a5 a6 a7) #[S9]):wpS M A E s (forIn [lo:hi] c f) Q st:=by
 refine cX (I:=fun x c lS=>∃ a1 a2 a3 a4 a5 a6 a7,lS=wF a1 a2 a3 a4 a5 a6 a7/\c=uW a1 a2 a3 a4 a5 a6 a7/\J x a1 a2 a3 a4 a5 a6 a7) ?_ ?_ start
 ·rintro x c lS h1 h2 ⟨a1,a2,a3,a4,a5,a6,a7,rfl,rfl,j⟩;exact step x _ _ _ _ _ _ _ h1 h2 j
 ·rintro c lS ⟨a1,a2,a3,a4,a5,a6,a7,rfl,rfl,j⟩;exact fin _ _ _ _ _ _ _ j
theorem zoK {σ α γ δ A1 A2 A3 A4 A5:Type} {x:StateT σ Sem (Option γ×δ)} {k:Option γ×δ->StateT σ Sem α} {R:α->σ->Prop} {st:σ} (uW:A1->A2->A3->A4->A5->Option γ×δ) (G:γ->Prop) (J:A1->A2->A3->A4->A5->Prop) (F1:σ) (hx:wpS M A E s x (fun c lS=>lS=F1/\((∃ r o,c=(some r,o)/\G r)\/∃ a1 a2 a3 a4 a5,c=uW a1 a2 a3 a4 a5/\J a1 a2 a3 a4 a5)) st) (h1:∀ r o,G r->wpS M A E s (k (some r,o)) R F1) (h:∀ a1 a2 a3 a4 a5,J a1 a2 a3 a4 a5->wpS M A E s (k #[Ra]) R F1):wpS M A E s (x >>= k) R st:=by
 refine az (dR hx ?_);rintro c lS ⟨rfl,⟨r,o,rfl,g⟩ | ⟨a1,a2,a3,a4,a5,rfl,j⟩⟩
 ·exact h1 _ _ g
 ·exact h _ _ _ _ _ j
theorem zbi {σ α:Type} {c:Prop} {inst:Decidable c} {x y:StateT σ Sem α} {Q:α->σ->Prop} {st:σ} (h:c->wpS M A E s x Q st) (k:¬ c->wpS M A E s y Q st):wpS M A E s #[Rg] Q st:=by
 by_cases hc:c
 ·rw [if_pos hc]; exact h hc
 ·rw [if_neg hc]; exact k hc
theorem zkA {st:SortSt} {a b:Array Keyed} {Q:Array Keyed->SortSt->Prop} (hC:Cmp prog w A s κ val a₀) (hk:kindOf st=κ) (ma:∀ p∈a.toList,p∈a₀.toList) (mb:∀ p∈b.toList,p∈a₀.toList)
  (sa:SIn val a 0 a.size) (sb:SIn val b 0 b.size) (h1:1<=a.size) (h2:1<=b.size) (hf:Vk val b 0<=Vk val a 0) (hl:∀ i,i < b.size->Vk val b i<=Vk val a (a.size - 1))
  (h:∀ out g,Good val #[wn] out.toList->Q out (zaz st g)):wpS #[pc] A E s (zlV a b) Q st:=by
 refine zgx ?_
 wp_delta
 wp_delta
 refine zgy ?_
 (refine az #[NB])
 refine zaG (xs:=b) (i:=0) #[O] fun y0 xr F2=>?_
 refine zaG (xs:=a) (i:=0) #[O] fun x0 xt F4=>?_
 refine az (zaa xr ?_);have I0:MA val #[wn] a b #[] 0 0:=⟨#[M],iu,zdu sa 0,zdu sb 0,fun x hx=>by simp at hx,fun x hx=>by simp at hx⟩;have I1:MA val #[wn] a b #[y0] 0 1:=I0.KP sa xr xt (by rw [zae xr,zae xt] at hf; exact hf);dsimp only;by_cases rQ:1=b.size
 ·refine zA (by simpa using rQ) ?_;exact aC (h _ #[QH] (I1.J4 rQ))
 refine zB (by simpa using rQ) ?_;by_cases v7:0+1=a.size
 ·refine zA (by simpa using v7) ?_;exact aC (h _ #[QH] (I1.last #[O] hl))
 refine zB (by simpa using v7) ?_;refine az (fS ?_);refine az (dR (fr5 (fun g out ia ib mg=>(none,out,ia,ib,mg)) (fun g out ia ib mg=>zaz st g) (fun x g out ia ib mg=>MA val #[wn] a b out ia ib/\ia+1 < a.size/\ib < b.size/\x+1<=ia+ib)
  (Q:=fun c lS=>∃ g r o,lS=zaz st g/\c=(some r,o)/\Good val #[wn] r.toList) ⟨gallopOf st,#[y0],0,1,gallopOf st,rfl,rfl,I1,#[O],#[O],#[O]⟩ ?fin ?step) ?post)
 case post =>
  rintro c lS ⟨g,r,o,rfl,rfl,hG⟩;exact aC (h _ g hG)
 case fin =>
  rintro g out ia ib mg ⟨hI,b1,b2,b3⟩;lia
 case step =>
  intro x g out ia ib mg hr0 hx J;have hI:=J.1;have b1:=J.2.1;have b2:=J.2.2.1;have b3:=J.2.2.2;dsimp only;refine zoK #[RU] #[R8] (fun l5 nS nG ac bc=>MA val #[wn] a b l5 nS nG/\nS+1 < a.size/\nG < b.size/\ia+ib+1<=nS+nG) (zaz st g) (fr5 #[RU] (fun l5 nS nG ac bc=>zaz st g) (fun x l5 nS nG ac bc=>MA val #[wn] a b l5 nS nG/\nS+1 < a.size/\nG < b.size/\ia+ib+x<=nS+nG) ⟨out,ia,ib,0,0,rfl,rfl,hI,b1,b2,#[O]⟩ ?fin1 ?step1) #[Tc] ?post1
  case fin1 =>
   rintro l5 nS nG ac bc ⟨hI,b1,b2,b3⟩;exact⟨rfl,.inr ⟨l5,nS,nG,ac,bc,rfl,hI,b1,b2,#[O]⟩⟩
  case step1 =>
   intro x1 l5 nS nG ac bc hr1 Bs J;have hI:=J.1;have b1:=J.2.1;have b2:=J.2.2.1;have b3:=J.2.2.2;dsimp only;refine zaG (xs:=b) (i:=nG) #[O] fun y ey my=>?_
   refine zaG (xs:=a) (i:=nS) #[O] fun z ez mz=>?_
   refine az #[O5];dsimp only;by_cases Cp:val y < val z
   ·refine zA (by simpa using Cp) ?_;refine az #[Ro];have ql:=hI.KP sa ey ez #[O];by_cases e1:nG+1=b.size
    ·refine zA (by simpa using e1) ?_;exact aC ⟨rfl,.inl ⟨_,_,rfl,ql.J4 e1⟩⟩
    refine zB (by simpa using e1) ?_;refine zbi #[wP] #[wP]
    ·exact aC ⟨rfl,.inr ⟨_,_,_,_,_,rfl,ql,b1,#[O],#[O]⟩⟩
    ·exact aC ⟨_,_,_,_,_,rfl,rfl,ql,b1,#[O],#[O]⟩
   ·refine zB (by simpa using Cp) ?_;refine az #[OX];have ql:=hI.J7 sb ey ez #[O];by_cases e1:nS+1+1=a.size
    ·refine zA (by simpa using e1) ?_;exact aC ⟨rfl,.inl ⟨_,_,rfl,ql.last e1 hl⟩⟩
    refine zB (by simpa using e1) ?_;refine zbi #[wP] #[wP]
    ·exact aC ⟨rfl,.inr ⟨_,_,_,_,_,rfl,ql,#[O],b2,#[O]⟩⟩
    ·exact aC ⟨_,_,_,_,_,rfl,rfl,ql,#[O],b2,#[O]⟩
  case post1 =>
   intro As F5 F6 F7 F8 J;have F9:=J.1;have c1:=J.2.1;have c2:=J.2.2.1;have c3:=J.2.2.2;dsimp only
   (refine az #[NB])
   refine az (dR (fr7 (fun g l5 nS nG mg ac bc=>(none,l5,nS,nG,mg,ac,bc)) (fun g l5 nS nG mg ac bc=>zaz st g) (fun x g l5 nS nG mg ac bc=>MA val #[wn] a b l5 nS nG/\nS+1 < a.size/\nG < b.size/\F5+F6<=nS+nG)
    (Q:=fun c lS=>∃ g,lS=zaz st g/\((∃ r o,c=(some r,o)/\Good val #[wn] r.toList)\/∃ l5 nS nG mg ac bc,c=(none,l5,nS,nG,mg,ac,bc)/\MA val #[wn] a b l5 nS nG/\nS+1 < a.size/\nG < b.size/\F5+F6<=nS+nG)) ⟨g,As,F5,F6,_,F7,F8,rfl,rfl,F9,c1,c2,af _⟩ ?fin2 ?step2) ?post2)
   case fin2 =>
    rintro g l5 nS nG mg ac bc ⟨hI,b1,b2,b3⟩;exact⟨g,rfl,.inr ⟨l5,nS,nG,mg,ac,bc,rfl,hI,b1,b2,b3⟩⟩
   case post2 =>
    rintro c lS ⟨g,rfl,hc⟩;rcases hc with ⟨r,o,rfl,hG⟩ | ⟨Au,ia2,ib2,mg2,ac2,bc2,rfl,ql,d1,d2,d3⟩
    ·exact aC ⟨g,r,_,rfl,rfl,hG⟩
    dsimp only;refine az (zdv (aC ⟨_,Au,ia2,ib2,_,rfl,rfl,ql,d1,d2,#[O]⟩))
   case step2 =>
    intro x2 g l5 nS nG Av ac bc yH xS J;have hI:=J.1;have b1:=J.2.1;have b2:=J.2.2.1;have b3:=J.2.2.2;dsimp only;refine zaG (xs:=b) (i:=nG) #[O] fun y ey my=>?_
    apply dup
    ·intro k1 k2;by_cases vi:Av > 1
     ·refine zA vi ?_;clear vi;generalize Av - 1=m0
      revert m0
      exact k1
     ·refine zB vi ?_;clear vi;generalize Av=m0
      revert m0
      exact k2
    intro mg0;refine az (zdv (az (zaa ey (az (zbJ hC hk (mb y my) (fun i hi=>(by
     refine zaG (xs:=a) (i:=nS+i) #[O] fun p ep mp=>?_
     exact⟨p,ep,ma p mp⟩)) (sa.sub #[O] #[O]) #[O] fun k Ek rf yI=>?_)))))
    dsimp only;have ql:=hI.Kw (k:=k) sb ey fun i hi=>zdw (rf i hi)
    by_cases vZ:k > 0
    ·refine zA vZ ?_;by_cases e1:nS+k+1=a.size
     ·refine zA (by simpa using e1) ?_;exact aC ⟨_,rfl,.inl ⟨_,_,rfl,ql.last e1 hl⟩⟩
     refine zB (by simpa using e1) ?_;by_cases e2:nS+k=a.size
     ·refine zA (by simpa using e2) ?_;exact aC ⟨_,rfl,.inl ⟨_,_,rfl,ql.J5 e2⟩⟩
     refine zB (by simpa using e2) ?_;refine az #[Ro];refine zaG (xs:=a) (i:=nS+k) #[O] fun z ez mz=>?_
     have uz:=ql.KP sa ey ez (by have:=zem (yI k (af _) #[O]); rw [zae ez] at this; lia);by_cases e3:nG+1=b.size
     ·refine zA (by simpa using e3) ?_;exact aC ⟨_,rfl,.inl ⟨_,_,rfl,uz.J4 e3⟩⟩
     refine zB (by simpa using e3) ?_;refine az (zaa ez (az (zbJ hC hk (ma z mz) (fun i hi=>(by
      refine zaG (xs:=b) (i:=nG+1+i) #[O] fun p ep mp=>?_
      exact⟨p,ep,mb p mp⟩)) #[Qe] #[O] fun j xQ rB wG=>?_)))
     dsimp only;have vy:=uz.Ke (k:=j) sa ez fun i hi=>eS (zcC (rB i hi))
     by_cases uA:j > 0
     ·refine zA uA ?_;by_cases e4:nG+1+j=b.size
      ·refine zA (by simpa using e4) ?_;exact aC ⟨_,rfl,.inl ⟨_,_,rfl,vy.J4 e4⟩⟩
      refine zB (by simpa using e4) ?_;refine zaG (xs:=b) (i:=nG+1+j) #[O] fun y2 qJ xT=>?_
      refine az #[OX];have pg:=vy.J7 sb qJ ez (by have:=zdk (wG j (af _) #[O]); rw [zae qJ] at this; exact this);by_cases e9:nS+k+1+1=a.size
      ·refine zA (by simpa using e9) ?_;exact aC ⟨_,rfl,.inl ⟨_,_,rfl,pg.last e9 hl⟩⟩
      refine zB (by simpa using e9) ?_;refine zbi #[wP] #[wP]
      ·exact aC #[KB]
      ·exact aC #[Nl]
     ·refine zB uA ?_;have Aw:j=0:=by lia
      subst Aw;refine zaG (xs:=b) (i:=nG+1) #[O] fun y2 qJ xT=>?_
      refine az #[OX];have pg:=uz.J7 sb qJ ez (by have:=zdk (wG 0 (af _) #[O]); rw [fJ,zae qJ] at this; exact this);by_cases e9:nS+k+1+1=a.size
      ·refine zA (by simpa using e9) ?_;exact aC ⟨_,rfl,.inl ⟨_,_,rfl,pg.last e9 hl⟩⟩
      refine zB (by simpa using e9) ?_;refine zbi #[wP] #[wP]
      ·exact aC #[KB]
      ·exact aC #[Nl]
    ·refine zB vZ ?_;have F':k=0:=by lia
     subst F';refine az #[Ro];refine zaG (xs:=a) (i:=nS) #[O] fun z ez mz=>?_
     have uz:=hI.KP sa ey ez (by have:=zem (yI 0 (af _) #[O]); rw [fJ,zae ez] at this; lia);by_cases e3:nG+1=b.size
     ·refine zA (by simpa using e3) ?_;exact aC ⟨_,rfl,.inl ⟨_,_,rfl,uz.J4 e3⟩⟩
     refine zB (by simpa using e3) ?_;refine az (zaa ez (az (zbJ hC hk (ma z mz) (fun i hi=>(by
      refine zaG (xs:=b) (i:=nG+1+i) #[O] fun p ep mp=>?_
      exact⟨p,ep,mb p mp⟩)) #[Qe] #[O] fun j xQ rB wG=>?_)))
     dsimp only;have vy:=uz.Ke (k:=j) sa ez fun i hi=>eS (zcC (rB i hi))
     by_cases uA:j > 0
     ·refine zA uA ?_;by_cases e4:nG+1+j=b.size
      ·refine zA (by simpa using e4) ?_;exact aC ⟨_,rfl,.inl ⟨_,_,rfl,vy.J4 e4⟩⟩
      refine zB (by simpa using e4) ?_;refine zaG (xs:=b) (i:=nG+1+j) #[O] fun y2 qJ xT=>?_
      refine az #[OX];have pg:=vy.J7 sb qJ ez (by have:=zdk (wG j (af _) #[O]); rw [zae qJ] at this; exact this);by_cases e9:nS+1+1=a.size
      ·refine zA (by simpa using e9) ?_;exact aC ⟨_,rfl,.inl ⟨_,_,rfl,pg.last e9 hl⟩⟩
      refine zB (by simpa using e9) ?_;refine zbi #[wP] #[wP]
      ·exact aC #[KB]
      ·exact aC #[Nl]
     ·refine zB uA ?_;have Aw:j=0:=by lia
      subst Aw;refine zaG (xs:=b) (i:=nG+1) #[O] fun y2 qJ xT=>?_
      refine az #[OX];have pg:=uz.J7 sb qJ ez (by have:=zdk (wG 0 (af _) #[O]); rw [fJ,zae qJ] at this; exact this);by_cases e9:nS+1+1=a.size
      ·refine zA (by simpa using e9) ?_;exact aC ⟨_,rfl,.inl ⟨_,_,rfl,pg.last e9 hl⟩⟩
      refine zB (by simpa using e9) ?_;refine zbi #[wP] #[wP]
      ·exact aC #[KB]
      ·exact aC #[Nl]
end
end Srt
end
section
namespace Srt
open PySem PyProof.Rows
structure MH (val:Keyed->Int) (T l r o:List Keyed):Prop where
 perm:(l++r++o).Perm T
 so:Ris val o
 sl:Ris val l
 sr:Ris val r
 lo:Le val l o
 ro:Le val r o
section
variable {val:Keyed->Int} {T o l l1 l2 r r1 r2:List Keyed}
theorem MH.Kw (h:MH val T (l1++l2) r o) (hle:Le val r l2):MH val T l1 r (l2++o):=by
 obtain⟨a1,a2,a3⟩:=zaI.mp h.sl;refine⟨?_,zaI.mpr ⟨a2,h.so,h.lo.right⟩,a1,h.sr,a3.Mm h.lo.left,hle.Mm h.ro⟩;refine fA ?_ h.perm;have:(r++l2).Perm (l2++r):=List.perm_append_comm;have:=(this.append_left l1).append_right o;simpa [bt] using this
theorem MH.Ke (h:MH val T l (r1++r2) o) (hle:Le val l r2):MH val T l r1 (r2++o):=by
 obtain⟨a1,a2,a3⟩:=zaI.mp h.sr;exact⟨by have:=h.perm; simpa [bt] using this,zaI.mpr ⟨a2,h.so,h.ro.right⟩,h.sl,a1,hle.Mm h.lo,a3.Mm h.ro.left⟩
theorem MH.J5 (h:MH val T [] r o):Good val T (r++o):=⟨by have:=h.perm; simpa using this,zaI.mpr ⟨h.sr,h.so,h.ro⟩⟩
theorem MH.J4 (h:MH val T l [] o):Good val T (l++o):=⟨by have:=h.perm; simpa using this,zaI.mpr ⟨h.sl,h.so,h.lo⟩⟩
theorem MH.first (h:MH val T l r o) (hle:Le val r l):Good val T (r++l++o):=by
 refine⟨fA (List.perm_append_comm.append_right _) h.perm,?_⟩;exact zaI.mpr ⟨zaI.mpr ⟨h.sr,h.sl,hle⟩,h.so,h.ro.app h.lo⟩
end
section
variable {val:Keyed->Int} {T:List Keyed} {a b out:Array Keyed} {na nb:Nat}
abbrev MB (val:Keyed->Int) (T:List Keyed) (a b out:Array Keyed) (na nb:Nat):Prop:=MH val T (a.toList.take na) (b.toList.take nb) out.toList.reverse
theorem zjo {xs:Array Keyed} {n:Nat} {p:Keyed} (h:xs[n]? = some p):xs.toList.take (n+1)=xs.toList.take n++[p]:=by
 rw [List.take_succ,be,h];rfl
theorem zhN {xs:Array Keyed} (h:SIn val xs 0 xs.size) (i:Nat):Ris val (xs.toList.take i):=by
 have:=zdu h 0;rw [eW] at this;exact eU (ci _ _) this
theorem zeR {xs:Array Keyed} {n:Nat} {p:Keyed} (h:p∈xs.toList.take n):∃ j,j < n/\j < xs.size/\xs[j]? = some p:=by
 (obtain⟨j,hj,e⟩:=cK h)
 have rB:j < n/\j < xs.toList.length:=by
  rw [aG] at hj;lia
 refine⟨j,rB.1,by simpa using rB.2,?_⟩;rw [<- be,ag rB.2,<- e,kr]
theorem JW {xs:Array Keyed} {n:Nat} {p q:Keyed} (h:SIn val xs 0 xs.size) (hp:xs[n]? = some p) (hq:q∈xs.toList.take (n+1)):val q<=val p:=by
 obtain⟨j,hj,uo,e⟩:=zeR hq;have hn:=(dm.mp hp).1;have:=h j n (bg _) #[O] hn;rw [zae e,zae hp] at this;exact this
theorem MB.J7 {y x:Keyed} (h:MB val T a b out (na+1) nb) (sb:SIn val b 0 b.size) (hn:1<=nb) (hy:b[nb - 1]? = some y) (hx:a[na]? = some x) (hle:val y<=val x):MB val T a b (out.push x) na nb:=by
 unfold MB at h |-;rw [zjo hx] at h;have:=MH.Kw h fun p hp q hq=>by
  rw [aU.mp hq];exact bQ (JW sb hy (by rw [show nb - 1+1=nb by lia]; exact hp)) hle
 simpa using this
theorem MB.KP {y x:Keyed} (h:MB val T a b out na (nb+1)) (sa:SIn val a 0 a.size) (hn:1<=na) (hy:b[nb]? = some y) (hx:a[na - 1]? = some x) (hle:val x<=val y):MB val T a b (out.push y) na nb:=by
 unfold MB at h |-;rw [zjo hy] at h;have:=MH.Ke h fun p hp q hq=>by
  rw [aU.mp hq];exact bQ (JW sa hx (by rw [show na - 1+1=na by lia]; exact hp)) hle
 simpa using this
theorem zjp (xs:Array Keyed) {i n:Nat} (h:i<=n):xs.toList.take n=xs.toList.take i++(xs.extract i n).toList:=by
 rw [dD];simp only [dw];rw [<- bT i (xs.toList.take n),lB,dE h,List.drop_take]
theorem MB.Kw {y:Keyed} {at':Nat} (h:MB val T a b out na nb) (sb:SIn val b 0 b.size) (nH:at'<=na) (hn:1<=nb) (hy:b[nb - 1]? = some y) (hle:∀ i,at'<=i->i < na->val y<=Vk val a i):MB val T a b (out++(a.extract at' na).reverse) at' nb:=by
 unfold MB at h |-;rw [zjp a nH] at h;have:=MH.Kw h fun p hp q hq=>by
  have oA:q∈(a.extract at' (at'+(na - at'))).toList:=by rw [show at'+(na - at')=na by lia]; exact hq
  obtain⟨j,hj,e⟩:=zel oA;have:=hle (at'+j) #[O] #[O];rw [zae e] at this;exact bQ (JW sb hy (by rw [show nb - 1+1=nb by lia]; exact hp)) this
 simpa using this
theorem MB.Ke {x:Keyed} {at':Nat} (h:MB val T a b out na nb) (sa:SIn val a 0 a.size) (nH:at'<=nb) (hn:1<=na) (hx:a[na - 1]? = some x) (hle:∀ i,at'<=i->i < nb->val x<=Vk val b i):MB val T a b (out++(b.extract at' nb).reverse) na at':=by
 unfold MB at h |-;rw [zjp b nH] at h;have:=MH.Ke h fun p hp q hq=>by
  have oA:q∈(b.extract at' (at'+(nb - at'))).toList:=by rw [show at'+(nb - at')=nb by lia]; exact hq
  obtain⟨j,hj,e⟩:=zel oA;have:=hle (at'+j) #[O] #[O];rw [zae e] at this;exact bQ (JW sa hx (by rw [show na - 1+1=na by lia]; exact hp)) this
 simpa using this
theorem zcn (xs:Array Keyed) (n:Nat):(xs.extract 0 n).toList=xs.toList.take n:=by
 rw [dD];simp [dw]
theorem MB.J5 (h:MB val T a b out na nb) (e:na=0):Good val T (a.extract 0 na++b.extract 0 nb++out.reverse).toList:=by
 unfold MB at h;subst e;have:=MH.J5 h;rw [bO,bO,zcn,zcn,c7,i5,gz];exact this
theorem MB.J4 (h:MB val T a b out na nb) (e:nb=0):Good val T (a.extract 0 na++b.extract 0 nb++out.reverse).toList:=by
 unfold MB at h;subst e;have:=MH.J4 h;rw [bO,bO,zcn,zcn,c7,bH,gz];exact this
theorem MB.first (h:MB val T a b out na nb) (e:nb=1) (sa:SIn val a 0 a.size) (h2:1<=b.size) (hf:Vk val b 0<=Vk val a 0):Good val T (b.extract 0 nb++a.extract 0 na++out.reverse).toList:=by
 unfold MB at h;subst e;have:=MH.first h fun p hp q hq=>by
  obtain⟨j,hj,uo,ej⟩:=zeR hp;have uA:j=0:=by lia
  subst uA;obtain⟨i,hi,his,ei⟩:=zeR hq;have:=sa 0 i (bg _) (bg _) his;rw [zae ei] at this;rw [zae ej] at hf;lia
 rw [bO,bO,zcn,zcn,gz];exact this
end
section
variable {prog:Program} {w:World} {A:Around} {E:Value->Shared->Prop} {s:Shared} {a₀:Array Keyed} {κ:SortKind} {val:Keyed->Int}
theorem zkB {st:SortSt} {a b:Array Keyed} {Q:Array Keyed->SortSt->Prop} (hC:Cmp prog w A s κ val a₀) (hk:kindOf st=κ) (ma:∀ p∈a.toList,p∈a₀.toList) (mb:∀ p∈b.toList,p∈a₀.toList)
  (sa:SIn val a 0 a.size) (sb:SIn val b 0 b.size) (h1:1<=a.size) (h2:1<=b.size) (hf:Vk val b 0<=Vk val a 0) (hl:∀ i,i < b.size->Vk val b i<=Vk val a (a.size - 1))
  (h:∀ out g,Good val #[wn] out.toList->Q out (zaz st g)):wpS #[pc] A E s (zlW a b) Q st:=by
 refine zgx ?_
 wp_delta
 wp_delta
 refine zgy ?_
 (refine az #[NB])
 refine zaG (xs:=a) (i:=a.size - 1) #[O] fun x0 xt F4=>?_
 refine zaG (xs:=b) (i:=b.size - 1) #[O] fun y0 xr F2=>?_
 refine az (zaa xt ?_);have I0:MB val #[wn] a b #[] (a.size - 1+1) b.size:=by
  refine⟨?_,iu,zhN sa _,zhN sb _,fun x _ y hy=>by simp at hy,fun x _ y hy=>by simp at hy⟩;rw [show a.size - 1+1=a.size by lia,aH #[M],aH #[M]];simp
 have I1:MB val #[wn] a b #[x0] (a.size - 1) b.size:=I0.J7 sb h2 xr xt (by have:=hl (b.size - 1) #[O]; rw [zae xr,zae xt] at this; exact this);dsimp only;by_cases v7:a.size - 1=0
 ·refine zA (by simpa using v7) ?_;exact aC (h _ #[QH] (I1.J5 v7))
 refine zB (by simpa using v7) ?_;by_cases rQ:b.size=1
 ·refine zA (by simpa using rQ) ?_;exact aC (h _ #[QH] (I1.first rQ sa h2 hf))
 refine zB (by simpa using rQ) ?_;refine az (fS ?_);refine az (dR (fr5 (fun g out na nb mg=>(none,na,nb,out,mg)) (fun g out na nb mg=>zaz st g) (fun x g out na nb mg=>MB val #[wn] a b out na nb/\1<=na/\2<=nb/\na<=a.size/\nb<=b.size/\x+na+nb+1<=a.size+b.size)
  (Q:=fun c lS=>∃ g r o,lS=zaz st g/\c=(some r,o)/\Good val #[wn] r.toList) ⟨gallopOf st,#[x0],a.size - 1,b.size,gallopOf st,rfl,rfl,I1,#[O],#[O],#[O],#[O],#[O]⟩ ?fin ?step) ?post)
 case post =>
  rintro c lS ⟨g,r,o,rfl,rfl,hG⟩;exact aC (h _ g hG)
 case fin =>
  rintro g out na nb mg ⟨hI,b1,b2,b3⟩;lia
 case step =>
  intro x g out na nb mg hr0 hx J;have hI:=J.1;have b1:=J.2.1;have b2:=J.2.2.1;have b4:=J.2.2.2.1;have b5:=J.2.2.2.2.1;have b3:=J.2.2.2.2.2;dsimp only;refine zoK #[RT] #[R8] (fun l5 om oo ac bc=>MB val #[wn] a b l5 om oo/\1<=om/\2<=oo/\om<=a.size/\oo<=b.size/\1+om+oo<=na+nb) (zaz st g) (fr5 #[RT] (fun l5 om oo ac bc=>zaz st g) (fun x l5 om oo ac bc=>MB val #[wn] a b l5 om oo/\1<=om/\2<=oo/\om<=a.size/\oo<=b.size/\x+om+oo<=na+nb) ⟨out,na,nb,0,0,rfl,rfl,hI,b1,b2,b4,b5,#[O]⟩ ?fin1 ?step1) #[Tc] ?post1
  case fin1 =>
   rintro l5 om oo ac bc ⟨hI,b1,b2,b4,b5,b3⟩;exact⟨rfl,.inr ⟨l5,om,oo,ac,bc,rfl,hI,b1,b2,b4,b5,#[O]⟩⟩
  case step1 =>
   intro x1 l5 om oo ac bc hr1 Bs J;have hI:=J.1;have b1:=J.2.1;have b2:=J.2.2.1;have b4:=J.2.2.2.1;have b5:=J.2.2.2.2.1;have b3:=J.2.2.2.2.2;dsimp only;obtain⟨n1,rfl⟩:∃ n1,om=n1+1:=⟨om - 1,#[O]⟩;obtain⟨m1,rfl⟩:∃ m1,oo=m1+1:=⟨oo - 1,#[O]⟩;simp only [cY];refine zaG (xs:=b) (i:=m1) #[O] fun y ey my=>?_
   refine zaG (xs:=a) (i:=n1) #[O] fun z ez mz=>?_
   refine az #[O5];dsimp only;by_cases Cp:val y < val z
   ·refine zA (by simpa using Cp) ?_;refine az #[OX];have ql:=hI.J7 sb #[O] ey ez #[O];by_cases e1:n1=0
    ·refine zA (by simpa using e1) ?_;exact aC ⟨rfl,.inl ⟨_,_,rfl,ql.J5 e1⟩⟩
    refine zB (by simpa using e1) ?_;refine zbi #[wP] #[wP]
    ·exact aC #[SO]
    ·exact aC ⟨_,_,_,_,_,rfl,rfl,ql,#[O],#[O],#[O],#[O],#[O]⟩
   ·refine zB (by simpa using Cp) ?_;refine az #[Ro];have ql:=hI.KP sa #[O] ey ez #[O];by_cases e1:m1=1
    ·refine zA (by simpa using e1) ?_;exact aC ⟨rfl,.inl ⟨_,_,rfl,ql.first e1 sa h2 hf⟩⟩
    refine zB (by simpa using e1) ?_;refine zbi #[wP] #[wP]
    ·exact aC #[SO]
    ·exact aC ⟨_,_,_,_,_,rfl,rfl,ql,#[O],#[O],#[O],#[O],#[O]⟩
  case post1 =>
   intro As Ga Gb F7 F8 J;have F9:=J.1;have c1:=J.2.1;have c2:=J.2.2.1;have c4:=J.2.2.2.1;have c5:=J.2.2.2.2.1;have c3:=J.2.2.2.2.2;dsimp only
   (refine az #[NB])
   refine az (dR (fr7 (fun g l5 om oo mg ac bc=>(none,om,oo,l5,mg,ac,bc)) (fun g l5 om oo mg ac bc=>zaz st g) (fun x g l5 om oo mg ac bc=>MB val #[wn] a b l5 om oo/\1<=om/\2<=oo/\om<=a.size/\oo<=b.size/\om+oo<=Ga+Gb)
    (Q:=fun c lS=>∃ g,lS=zaz st g/\((∃ r o,c=(some r,o)/\Good val #[wn] r.toList)\/∃ l5 om oo mg ac bc,c=(none,om,oo,l5,mg,ac,bc)/\MB val #[wn] a b l5 om oo/\1<=om/\2<=oo/\om<=a.size/\oo<=b.size/\om+oo<=Ga+Gb)) ⟨g,As,Ga,Gb,_,F7,F8,rfl,rfl,F9,c1,c2,c4,c5,af _⟩ ?fin2 ?step2) ?post2)
   case fin2 =>
    rintro g l5 om oo mg ac bc ⟨hI,b1,b2,b4,b5,b3⟩;exact⟨g,rfl,.inr ⟨l5,om,oo,mg,ac,bc,rfl,hI,b1,b2,b4,b5,b3⟩⟩
   case post2 =>
    rintro c lS ⟨g,rfl,hc⟩;rcases hc with ⟨r,o,rfl,hG⟩ | ⟨Au,na2,nb2,mg2,ac2,bc2,rfl,ql,d1,d2,d4,d5,d3⟩
    ·exact aC ⟨g,r,_,rfl,rfl,hG⟩
    dsimp only;refine az (zdv (aC ⟨_,Au,na2,nb2,_,rfl,rfl,ql,d1,d2,d4,d5,#[O]⟩))
   case step2 =>
    intro x2 g l5 om oo Av ac bc yH xS J;have hI:=J.1;have b1:=J.2.1;have b2:=J.2.2.1;have b4:=J.2.2.2.1;have b5:=J.2.2.2.2.1;have b3:=J.2.2.2.2.2;dsimp only;obtain⟨m1,rfl⟩:∃ m1,oo=m1+1:=⟨oo - 1,#[O]⟩;simp only [cY];refine zaG (xs:=b) (i:=m1) #[O] fun y ey my=>?_
    apply dup
    ·intro k1 k2;by_cases vi:Av > 1
     ·refine zA vi ?_;clear vi;generalize Av - 1=m0
      revert m0
      exact k1
     ·refine zB vi ?_;clear vi;generalize Av=m0
      revert m0
      exact k2
    intro mg0;refine az (zdv (az (zaa ey (az (zbJ hC hk (mb y my) (fun i hi=>(by
     refine zaG (xs:=a) (i:=0+i) #[O] fun p ep mp=>?_
     exact⟨p,ep,ma p mp⟩)) (sa.sub #[O] #[O]) #[O] fun k Ek rf yI=>?_)))))
    dsimp only;have ql:=hI.Kw (at':=k) sb Ek #[O] ey fun i h1 h2=>eS (by have:=zem (yI i h1 h2); rwa [dB] at this)
    by_cases vZ:om - k > 0
    ·refine zA vZ ?_;by_cases e1:k=0
     ·refine zA (by simpa using e1) ?_;exact aC ⟨_,rfl,.inl ⟨_,_,rfl,ql.J5 e1⟩⟩
     refine zB (by simpa using e1) ?_;obtain⟨n1,rfl⟩:∃ n1,k=n1+1:=⟨k - 1,#[O]⟩;simp only [cY];refine az #[Ro];refine zaG (xs:=a) (i:=n1) #[O] fun z ez mz=>?_
     have uz:=ql.KP sa #[O] ey (show a[n1+1 - 1]? = some z by rw [cY]; exact ez) (by have:=zdw (rf n1 #[O]); rw [dB,zae ez] at this; exact this);by_cases e3:m1=1
     ·refine zA (by simpa using e3) ?_;exact aC ⟨_,rfl,.inl ⟨_,_,rfl,uz.first e3 sa h2 hf⟩⟩
     refine zB (by simpa using e3) ?_;refine az (zaa ez (az (zbJ hC hk (ma z mz) (fun i hi=>(by
      refine zaG (xs:=b) (i:=0+i) #[O] fun p ep mp=>?_
      exact⟨p,ep,mb p mp⟩)) #[Qe] #[O] fun j xQ rB wG=>?_)))
     dsimp only;have vy:=uz.Ke (at':=j) sa xQ #[O] (show a[n1+1 - 1]? = some z by rw [cY]; exact ez) fun i h1 h2=>(by have:=zdk (wG i h1 h2); rwa [dB] at this)
     by_cases uA:m1 - j > 0
     ·refine zA uA ?_;by_cases e4:j=1
      ·refine zA (by simpa using e4) ?_;exact aC ⟨_,rfl,.inl ⟨_,_,rfl,vy.first e4 sa h2 hf⟩⟩
      refine zB (by simpa using e4) ?_;by_cases e5:j=0
      ·refine zA (by simpa using e5) ?_;exact aC ⟨_,rfl,.inl ⟨_,_,rfl,vy.J4 e5⟩⟩
      refine zB (by simpa using e5) ?_;refine zaG (xs:=b) (i:=j - 1) #[O] fun y2 qJ xT=>?_
      refine az #[OX];have pg:=vy.J7 sb #[O] qJ ez (by have:=zcC #[QA]; rw [dB,zae qJ] at this; lia);by_cases e9:n1=0
      ·refine zA (by simpa using e9) ?_;exact aC ⟨_,rfl,.inl ⟨_,_,rfl,pg.J5 e9⟩⟩
      refine zB (by simpa using e9) ?_;refine zbi #[wP] #[wP]
      ·exact aC #[Go]
      ·exact aC #[MP]
     ·refine zB uA ?_;have Gc:j=m1:=by lia
      subst Gc;refine zaG (xs:=b) (i:=j - 1) #[O] fun y2 qJ xT=>?_
      refine az #[OX];have pg:=uz.J7 sb #[O] qJ ez (by have:=zcC #[QA]; rw [dB,zae qJ] at this; lia);by_cases e9:n1=0
      ·refine zA (by simpa using e9) ?_;exact aC ⟨_,rfl,.inl ⟨_,_,rfl,pg.J5 e9⟩⟩
      refine zB (by simpa using e9) ?_;refine zbi #[wP] #[wP]
      ·exact aC #[Go]
      ·exact aC #[MP]
    ·refine zB vZ ?_;have Ej:k=om:=by lia
     subst Ej;obtain⟨n1,rfl⟩:∃ n1,k=n1+1:=⟨k - 1,#[O]⟩;simp only [cY];refine az #[Ro];refine zaG (xs:=a) (i:=n1) #[O] fun z ez mz=>?_
     have uz:=hI.KP sa #[O] ey (show a[n1+1 - 1]? = some z by rw [cY]; exact ez) (by have:=zdw (rf n1 #[O]); rw [dB,zae ez] at this; exact this);by_cases e3:m1=1
     ·refine zA (by simpa using e3) ?_;exact aC ⟨_,rfl,.inl ⟨_,_,rfl,uz.first e3 sa h2 hf⟩⟩
     refine zB (by simpa using e3) ?_;refine az (zaa ez (az (zbJ hC hk (ma z mz) (fun i hi=>(by
      refine zaG (xs:=b) (i:=0+i) #[O] fun p ep mp=>?_
      exact⟨p,ep,mb p mp⟩)) #[Qe] #[O] fun j xQ rB wG=>?_)))
     dsimp only;have vy:=uz.Ke (at':=j) sa xQ #[O] (show a[n1+1 - 1]? = some z by rw [cY]; exact ez) fun i h1 h2=>(by have:=zdk (wG i h1 h2); rwa [dB] at this)
     by_cases uA:m1 - j > 0
     ·refine zA uA ?_;by_cases e4:j=1
      ·refine zA (by simpa using e4) ?_;exact aC ⟨_,rfl,.inl ⟨_,_,rfl,vy.first e4 sa h2 hf⟩⟩
      refine zB (by simpa using e4) ?_;by_cases e5:j=0
      ·refine zA (by simpa using e5) ?_;exact aC ⟨_,rfl,.inl ⟨_,_,rfl,vy.J4 e5⟩⟩
      refine zB (by simpa using e5) ?_;refine zaG (xs:=b) (i:=j - 1) #[O] fun y2 qJ xT=>?_
      refine az #[OX];have pg:=vy.J7 sb #[O] qJ ez (by have:=zcC #[QA]; rw [dB,zae qJ] at this; lia);by_cases e9:n1=0
      ·refine zA (by simpa using e9) ?_;exact aC ⟨_,rfl,.inl ⟨_,_,rfl,pg.J5 e9⟩⟩
      refine zB (by simpa using e9) ?_;refine zbi #[wP] #[wP]
      ·exact aC #[Go]
      ·exact aC #[MP]
     ·refine zB uA ?_;have Gc:j=m1:=by lia
      subst Gc;refine zaG (xs:=b) (i:=j - 1) #[O] fun y2 qJ xT=>?_
      refine az #[OX];have pg:=uz.J7 sb #[O] qJ ez (by have:=zcC #[QA]; rw [dB,zae qJ] at this; lia);by_cases e9:n1=0
      ·refine zA (by simpa using e9) ?_;exact aC ⟨_,rfl,.inl ⟨_,_,rfl,pg.J5 e9⟩⟩
      refine zB (by simpa using e9) ?_;refine zbi #[wP] #[wP]
      ·exact aC #[Go]
      ·exact aC #[MP]
end
end Srt
end
section
namespace Srt
open PySem PyProof.Rows
variable {j k sa:Nat}
noncomputable def wb (sa:Nat) (l:List (Keyed×Nat)) (xs:Array Keyed):Array Keyed:=l.foldl (fun a (p,j)=>a.setIfInBounds (sa+j) p) xs
theorem zlZ (sa:Nat):∀ (l:List Keyed) (n:Nat) (xs:Array Keyed) (k:Nat),sa+n+l.length<=xs.size->(wb sa (l.zipIdx n) xs)[k]? = if sa+n<=k/\k < sa+n+l.length then l[k - (sa+n)]? else xs[k]?
 | [],n,xs,k,h=>by
  rw [if_neg (by simp only [i8]; lia)];rfl
 | p :: l,n,xs,k,h=>by
  have hl:(p :: l).length=l.length+1:=rfl;rw [hl] at h |-;show (wb sa (l.zipIdx (n+1)) (xs.setIfInBounds (sa+n) p))[k]? = _;rw [zlZ sa l (n+1) _ k (by rw [Array.size_setIfInBounds]; lia)];by_cases h1:sa+(n+1)<=k/\k < sa+(n+1)+l.length
  ·rw [if_pos h1,if_pos #[O],show k - (sa+n)=k - (sa+(n+1))+1 by lia,cD]
  ·rw [if_neg h1,Array.getElem?_setIfInBounds];by_cases h2:sa+n=k
   ·rw [if_pos h2,if_pos #[O],if_pos #[O],show k - (sa+n)=0 by lia];rfl
   ·rw [if_neg h2,if_neg #[O]]
theorem znD {m xs:Array Keyed} (h:sa+m.size<=xs.size):#[SU].toList=xs.toList.take sa++m.toList++xs.toList.drop (sa+m.size):=by
 have hm:m.toList.length=m.size:=by simp
 have hx:xs.toList.length=xs.size:=by simp
 refine ee fun k=>?_
 rw [be,zlZ sa m.toList 0 xs k (by rw [hm]; lia),hm,fJ];by_cases h1:k < sa
 ·rw [if_neg #[O],bt,bL (by rw [aG]; lia),b7 h1,be]
 ·by_cases h2:k < sa+m.size
  ·rw [if_pos #[O],bt,cr (by rw [aG]; lia),aG,hx,show min sa xs.size=sa by lia,bL #[O]]
  ·rw [if_neg #[O],cr (by rw [ap,aG]; lia),ap,aG,hx,show min sa xs.size=sa by lia,hm,eJ,show sa+m.size+(k - (sa+m.size))=k by lia,be]
theorem zkC (xs:List Keyed) {i:Nat} (h1:i<=j) (h2:j<=k):xs=xs.take i++((xs.drop i).take (j - i)++(xs.drop j).take (k - j))++xs.drop k:=by
 have e1:xs.drop i=(xs.drop i).take (j - i)++xs.drop j:=by
  have:=(bT (j - i) (xs.drop i)).symm
  rwa [gV,show i+(j - i)=j by lia] at this
 have e2:xs.drop j=(xs.drop j).take (k - j)++xs.drop k:=by
  have:=(bT (k - j) (xs.drop j)).symm
  rwa [gV,show j+(k - j)=k by lia] at this
 have e0:=(bT i xs).symm;rw [e1,e2] at e0;rw [bt,bt];exact e0
theorem zdx (xs:Array Keyed) (i j:Nat):#[OC].toList=#[ON].take (j - i):=by
 rw [dD]
theorem znE {sb e:Nat} {m xs:Array Keyed} (h1:sa<=sb) (h2:sb<=e) (h3:e<=xs.size) (hp:m.toList.Perm ((xs.extract sa sb).toList++(xs.extract sb e).toList)):#[SU].Perm xs:=by
 have hms:m.size=e - sa:=by
  have:=hp.length_eq;rw [ap,zdx,zdx,aG,aG,cn,cn] at this;have hx:xs.toList.length=xs.size:=by simp
  have hm:m.toList.length=m.size:=by simp
  lia
 rw [fu,znD #[O],show sa+m.size=e by lia];refine fA ((hp.append_left _).append_right _) ?_;rw [zdx,zdx,<- zkC xs.toList h1 h2]
section
variable {prog:Program} {w:World} {A:Around} {E:Value->Shared->Prop} {s:Shared} {a₀:Array Keyed} {κ:SortKind} {val:Keyed->Int}
theorem zdl {xs:Array Keyed} {i:Nat} (h:k < j - i) (hj:j<=xs.size):#[OC][k]? = xs[i+k]?:=by
 rw [<- be,zdx,b7 h,eJ,be]
theorem zdy {xs:Array Keyed} {i:Nat} (hj:j<=xs.size):#[OC].size=j - i:=by rw [Array.size_extract,dE hj]
theorem zjq {xs:Array Keyed} {i:Nat} (hj:j<=xs.size) (h:SIn val xs i j):SIn val #[OC] 0 #[OC].size:=by
 rw [zdy hj];intro p q _ hpq hq;rw [zaq (zdl #[O] hj),zaq (zdl hq hj)];exact h _ _ #[O] #[O] #[O]
theorem zen {xs:Array Keyed} {i:Nat} (hj:j<=xs.size) {p:Keyed} (h:p∈#[OC].toList):∃ k,i<=k/\k < j/\xs[k]? = some p:=by
 obtain⟨k,hk,e⟩:=cK h;have vV:k < j - i:=by
  rwa [bG,zdy hj] at hk
 refine⟨i+k,#[O],#[O],?_⟩;rw [<- zdl vV hj,<- be,ag hk,e]
theorem zkD {st:SortSt} {i na pw sb nb pw2:Nat} {Q:Bool->SortSt->Prop} (hC:Cmp prog w A s κ val a₀) (hB:SB κ a₀ st) (e1:#[Pl][i]? = some (sa,na,pw)) (e2:#[Pl][i+1]? = some (sb,nb,pw2))
  (oj:sb=sa+na) (hna:1<=na) (El:1<=nb) (hsz:sb+nb<=a₀.size) (sA:SIn val #[ut] sa (sa+na)) (sB:SIn val #[ut] sb (sb+nb))
  (h:∀ lS,SB κ a₀ lS->pendingOf lS=(#[Pl].setIfInBounds i (sa,na+nb,pw)).eraseIdxIfInBounds (i+1)->(∀ k,(k < sa\/sb+nb<=k)->#[wS][k]? = #[ut][k]?)->SIn val #[wS] sa (sb+nb)->Q true lS) :
  wpS #[pc] A E s (mergeAt' i) Q st:=by
 refine zgx ?_
 wp_delta
 wp_delta
 refine zgy ?_;refine az (fS ?_);rw [e1,e2];dsimp only;have Cq:=hB.size;obtain⟨y0,xr,F2⟩:=hB.mem (i:=sb) #[O];generalize Ax:(sortPriv% PySem.Builtin.SortState.mk) (kindOf st) #[ut] ((#[Pl].setIfInBounds i (sa,na+nb,pw)).eraseIdxIfInBounds (i+1)) #[QH] (failedOf st)=oZ;have wH:SB κ a₀ oZ:=by subst Ax; exact⟨hB.perm,hB.kind,hB.failed⟩
 have ux:pendingOf oZ=(#[Pl].setIfInBounds i (sa,na+nb,pw)).eraseIdxIfInBounds (i+1):=by subst Ax; rfl
 have v7:arrOf oZ=arrOf st:=by subst Ax; rfl
 have xU:∀ n,n < a₀.size->∃ p,#[ut][n]? = some p/\p∈a₀.toList:=fun n hn=>hB.mem hn
 refine az (show wpS _ _ _ _ (set oZ) _ st from fg (f:=fun _=>oZ) ?_);refine az (zaa xr (az (zbJ (arr:=arrOf st) hC wH.kind F2 (fun j hj=>xU (sa+j) #[O]) sA #[O] fun k Ek rf yI=>?_)));dsimp only;have Cr:∀ j,sa<=j->j < sa+k->Vk val #[ut] j<=Vk val #[ut] sb:=fun j h1 h2=>by
  have:=zdw (rf (j - sa) #[O])
  rwa [show sa+(j - sa)=j by lia,<- zae (val:=val) xr] at this
 by_cases vZ:na - k=0
 ·rw [if_pos (by simpa using vZ)];refine aC (h oZ wH ux (fun _ _=>by rw [v7]) ?_);rw [v7];intro p q h1 h2 h3;by_cases hq:q < sa+na
  ·exact sA p q h1 h2 hq
  ·by_cases hp:p < sa+na
   ·exact bQ (Cr p h1 #[O]) (sB sb q #[O] #[O] h3)
   ·exact sB p q #[O] h2 h3
 rw [if_neg (by simpa using vZ)];have Cs:sa+k+(na - k) - 1=sa+na - 1:=by lia
 rw [Cs];obtain⟨x0,xt,F4⟩:=hB.mem (i:=sa+na - 1) #[O];refine az (zaa xt (az (zbJ (arr:=arrOf st) hC wH.kind F4 (fun j hj=>xU (sb+j) #[O]) sB #[O] fun m vw sg Gd=>?_)));dsimp only;have yJ:∀ j,sb+m<=j->j < sb+nb->Vk val #[ut] (sa+na - 1)<=Vk val #[ut] j:=fun j h1 h2=>by
  have:=zdk (Gd (j - sb) #[O] #[O])
  rwa [show sb+(j - sb)=j by lia,<- zae (val:=val) xt] at this
 have Ge:∀ j,sb<=j->j < sb+m->Vk val #[ut] j < Vk val #[ut] (sa+na - 1):=fun j h1 h2=>by
  have:=zcC (sg (j - sb) #[O])
  rwa [show sb+(j - sb)=j by lia,<- zae (val:=val) xt] at this
 by_cases hm0:m=0
 ·rw [if_pos (by simpa using hm0)];refine aC (h oZ wH ux (fun _ _=>by rw [v7]) ?_);rw [v7];intro p q h1 h2 h3;by_cases hq:q < sa+na
  ·exact sA p q h1 h2 hq
  ·by_cases hp:p < sa+na
   ·exact bQ (sA p (sa+na - 1) h1 #[O] #[O]) (yJ q #[O] h3)
   ·exact sB p q #[O] h2 h3
 rw [if_neg (by simpa using hm0)];have zx:#[ut].size=a₀.size:=Cq;have z1:=zdy (xs:=arrOf st) (i:=sa+k) (j:=sb) #[O];have z2:=zdy (xs:=arrOf st) (i:=sb) (j:=sb+m) #[O];have hf:Vk val (#[ut].extract sb (sb+m)) 0<=Vk val (#[ut].extract (sa+k) sb) 0:=by
  rw [zaq (zdl #[O] #[O]),zaq (zdl (xs:=arrOf st) (i:=sa+k) (j:=sb) (k:=0) #[O] #[O])];have:=zem (yI k (af _) #[O]);rw [<- zae (val:=val) xr] at this;simp only [fJ] at this |-;lia
 have hl:∀ j,j < (#[ut].extract sb (sb+m)).size->Vk val (#[ut].extract sb (sb+m)) j<=Vk val (#[ut].extract (sa+k) sb) ((#[ut].extract (sa+k) sb).size - 1):=by
  intro j hj;rw [z2] at hj;rw [z1,zaq (zdl #[O] #[O]),zaq (zdl (xs:=arrOf st) (i:=sa+k) (j:=sb) #[O] #[O])];have:=Ge (sb+j) #[O] #[O];rw [show sa+k+(sb - (sa+k) - 1)=sa+na - 1 by lia];lia
 have fin:∀ (out:Array Keyed) (g:Nat),Good val ((#[ut].extract (sa+k) sb).toList++(#[ut].extract sb (sb+m)).toList) out.toList ->
   wpS #[pc] A E s (do
    modify fun s=>setArr s (out.toList.zipIdx.foldl (fun a (p,j)=>a.setIfInBounds (sa+k+j) p) (arrOf s))
    let s' <- get
    pure (failedOf s').isNone) Q (zaz oZ g):=by
  intro out g hG;refine az (fg (az (fS ?_)));have hms:out.size=sb+m - (sa+k):=by
   have:=hG.1.length_eq;rw [ap] at this;have e1:out.toList.length=out.size:=by simp
   have e2:(#[ut].extract (sa+k) sb).toList.length=sb - (sa+k):=by rw [bG,z1]
   have e3:(#[ut].extract sb (sb+m)).toList.length=sb+m - sb:=by rw [bG,z2]
   lia
  have nE:=znE (xs:=arrOf st) (sa:=sa+k) (sb:=sb) (e:=sb+m) #[O] #[O] #[O] hG.1;have nH:∀ n,#[Ch][n]? = if sa+k<=n/\n < sb+m then out[n - (sa+k)]? else #[ut][n]?:=fun n=>by
   have:=zlZ (sa+k) out.toList 0 #[ut] n (by rw [bG]; lia);rw [bG,fJ,hms,show sa+k+(sb+m - (sa+k))=sb+m by lia,be] at this;exact this
  have Bi:(failedOf (setArr (zaz oZ g) #[Ch])).isNone=true:=by
   show (failedOf oZ).isNone=true;rw [wH.failed];rfl
  have Gf:arrOf (zaz oZ g)=arrOf st:=v7;show wpS _ _ _ _ (pure (failedOf #[OH]).isNone) Q #[OH];rw [Gf,Bi];refine aC (h _ ⟨nE.trans hB.perm,wH.kind,wH.failed⟩ ux (fun n hn=>?_) ?_)
  ·show #[Ch][n]? = _;rw [nH,if_neg #[O]]
  ·show SIn val #[Ch] sa (sb+nb);have qk:∀ n,sa+k<=n->n < sb+m->∃ q,sa+k<=q/\q < sb+m/\Vk val #[Ch] n=Vk val #[ut] q:=fun n h1 h2=>by
    have ho:n - (sa+k) < out.size:=by lia
    have Bm:out[n - (sa+k)]? = some out[n - (sa+k)]:=getElem?_pos out _ ho;have nC:out[n - (sa+k)]∈(#[ut].extract (sa+k) sb).toList++(#[ut].extract sb (sb+m)).toList:=hG.1.mem_iff.mp #[M];have hv:Vk val #[Ch] n=val out[n - (sa+k)]:=zae (by rw [nH,if_pos ⟨h1,h2⟩,Bm]);rcases aP.mp nC with nC | nC
    ·obtain⟨q,q1,q2,q3⟩:=zen #[O] nC;exact⟨q,q1,#[O],by rw [hv,zae q3]⟩
    ·obtain⟨q,q1,q2,q3⟩:=zen #[O] nC;exact⟨q,#[O],q2,by rw [hv,zae q3]⟩
   have vz:∀ n,¬ (sa+k<=n/\n < sb+m)->Vk val #[Ch] n=Vk val #[ut] n:=fun n hn=>zaq (by rw [nH,if_neg hn])
   intro p q h1 h2 h3;by_cases hp:p < sa+k
   ·rw [vz p #[O]];by_cases hq:q < sa+k
    ·rw [vz q #[O]];exact sA p q h1 h2 #[O]
    ·have key:∀ q',sa+k<=q'->q' < sb+nb->Vk val #[ut] p<=Vk val #[ut] q':=fun q' a1 a2=>by
      by_cases rk:q' < sb
      ·exact sA p q' h1 #[O] #[O]
      ·exact bQ (Cr p h1 hp) (sB sb q' #[O] #[O] a2)
     by_cases oA:q < sb+m
     ·obtain⟨q',q1,q2,q3⟩:=qk q #[O] oA;rw [q3];exact key q' q1 #[O]
     ·rw [vz q #[O]];exact key q #[O] h3
   ·by_cases qG:p < sb+m
    ·by_cases oA:q < sb+m
     ·have Ay:p - (sa+k) < out.size:=by lia
      have Bm:q - (sa+k) < out.size:=by lia
      rw [zae (p:=out[p - (sa+k)]) (by rw [nH,if_pos #[O]]; exact getElem?_pos out _ Ay),zae (p:=out[q - (sa+k)]) (by rw [nH,if_pos #[O]]; exact getElem?_pos out _ Bm)];by_cases hpq:p=q
      ·subst hpq;exact bM _
      ·have:=cR.mp hG.2 (p - (sa+k)) (q - (sa+k)) (by simpa using Ay) (by simpa using Bm) #[O];simpa using this
     ·obtain⟨p',p1,p2,p3⟩:=qk p #[O] qG;rw [p3,vz q #[O]];by_cases pD:p' < sb
      ·exact bQ (sA p' (sa+na - 1) #[O] #[O] #[O]) (yJ q #[O] h3)
      ·exact sB p' q #[O] #[O] h3
    ·rw [vz p #[O],vz q #[O]];exact sB p q #[O] h2 h3
 have ma:∀ p∈(#[ut].extract (sa+k) sb).toList,p∈a₀.toList:=fun p hp=>by
  obtain⟨q,q1,q2,q3⟩:=zen #[O] hp;obtain⟨p',e,m'⟩:=xU q #[O];rw [q3] at e;cases e;exact m'
 have mb:∀ p∈(#[ut].extract sb (sb+m)).toList,p∈a₀.toList:=fun p hp=>by
  obtain⟨q,q1,q2,q3⟩:=zen #[O] hp;obtain⟨p',e,m'⟩:=xU q #[O];rw [q3] at e;cases e;exact m'
 have ss1:=zjq (val:=val) (xs:=arrOf st) (i:=sa+k) (j:=sb) #[O] (sA.sub #[O] #[O]);have ss2:=zjq (val:=val) (xs:=arrOf st) (i:=sb) (j:=sb+m) #[O] (sB.sub #[O] #[O]);by_cases hle:na - k<=m
 ·rw [if_pos hle];exact az (zkA (a:=#[ut].extract (sa+k) sb) (b:=#[ut].extract sb (sb+m)) hC wH.kind ma mb ss1 ss2 #[O] #[O] hf hl fin)
 ·rw [if_neg hle];exact az (zkB (a:=#[ut].extract (sa+k) sb) (b:=#[ut].extract sb (sb+m)) hC wH.kind ma mb ss1 ss2 #[O] #[O] hf hl fin)
end
end Srt
end
section
namespace Srt
open PySem PyProof.Rows
variable {j:Nat}
noncomputable def Runs (val:Keyed->Int) (xs:Array Keyed):List (Nat×Nat×Nat)->Nat->Nat->Prop
 | [],lo,hi=>lo=hi
 | (s,n,_) :: r,lo,hi=>s=lo/\1<=n/\SIn val xs lo (lo+n)/\Runs val xs r (lo+n) hi
section
variable {val:Keyed->Int}
theorem Runs.le {xs:Array Keyed}:∀ {p:List (Nat×Nat×Nat)} {lo hi:Nat},Runs val xs p lo hi->lo+p.length<=hi
 | [],lo,hi,h=>by
  have h:lo=hi:=h;simp only [i8];lia
 | (s,n,w) :: r,lo,hi,h=>by
  obtain⟨_,h1,_,h2⟩:=h;have:=h2.le;simp only [bu];lia
theorem Runs.append {xs:Array Keyed}:∀ {p q:List (Nat×Nat×Nat)} {lo hi:Nat},Runs val xs (p++q) lo hi↔∃ mid,Runs val xs p lo mid/\Runs val xs q mid hi
 | [],q,lo,hi=>⟨fun h=>⟨lo,rfl,h⟩,fun ⟨mid,h1,h2⟩=>by
   have h1:lo=mid:=h1;subst h1;exact h2⟩
 | (s,n,w) :: p,q,lo,hi=>by
  constructor
  ·rintro⟨h1,h2,h3,h4⟩;obtain⟨mid,h5,h6⟩:=Runs.append.mp h4;exact⟨mid,⟨h1,h2,h3,h5⟩,h6⟩
  ·rintro⟨mid,⟨h1,h2,h3,h5⟩,h6⟩;exact⟨h1,h2,h3,Runs.append.mpr ⟨mid,h5,h6⟩⟩
theorem Runs.keep {xs ys:Array Keyed}:∀ {p:List (Nat×Nat×Nat)} {lo hi:Nat},Runs val xs p lo hi->(∀ k,lo<=k->k < hi->ys[k]? = xs[k]?)->Runs val ys p lo hi
 | [],lo,hi,h,_=>h
 | (s,n,w) :: p,lo,hi,h,e=>by
  obtain⟨h1,h2,h3,h4⟩:=h;have:=h4.le;refine⟨h1,h2,fun i j a b c=>?_,h4.keep fun k a b=>e k #[O] b⟩;rw [zaq (e i #[O] #[O]),zaq (e j #[O] #[O])];exact h3 i j a b c
theorem zl0 {α:Type} (p q:List α) (x y v:α):((p++x :: y :: q).toArray.setIfInBounds p.length v).eraseIdxIfInBounds (p.length+1)=(p++v :: q).toArray:=by
 simp [Array.eraseIdxIfInBounds];rw [List.eraseIdx_append_of_length_le #[O],show p.length+1 - p.length=1 by lia];rfl
theorem zl1 {α:Type} (q:List α) (z:α) (f:α->α):(q++[z]).toArray.modify ((q++[z]).toArray.size - 1) f=(q++[f z]).toArray:=by
 apply Array.ext';simp;induction q with
 | nil=>rfl
 | cons a q ih =>
  show (a :: (q++[z])).modify (q.length+1) f=a :: (q++[f z]);rw [List.modify_succ_cons,ih]
theorem zjr {xs:Array Keyed} {p:List (Nat×Nat×Nat)} {n:Nat} (hl:p.length<=1) (hn:1<=n) (h:Runs val xs p 0 n):SIn val xs 0 n:=by
 match p,hl,h with
 | [],_,h =>
  have h:0=n:=h;lia
 | [(a,b,c)],_,h =>
  obtain⟨_,_,h3,h4⟩:=h;have h4:0+b=n:=h4;rw [<- h4];exact h3
 | _ :: _ :: _,hl,_=>simp at hl
theorem zkE {α:Type} {p:List α} (h:j+2<=p.length):∃ pre x y post,p=pre++x :: y :: post/\pre.length=j:=by
 refine⟨p.take j,p[j],p[j+1],p.drop (j+2),?_,by rw [aG]; lia⟩;have e1:=(bT j p).symm;rw [cN (show j < p.length by lia),cN (show j+1 < p.length by lia)] at e1;exact e1
end
section
variable {prog:Program} {w:World} {A:Around} {E:Value->Shared->Prop} {s:Shared} {a₀:Array Keyed} {κ:SortKind} {val:Keyed->Int}
theorem zhO {st:SortSt} {pre post:List (Nat×Nat×Nat)} {x y:Nat×Nat×Nat} {hi:Nat} {Q:Bool->SortSt->Prop} (hC:Cmp prog w A s κ val a₀) (hB:SB κ a₀ st) (hp:pendingOf st=(pre++x :: y :: post).toArray) (hR:Runs val #[ut] (pre++x :: y :: post) 0 hi) (xR:hi<=a₀.size)
  (h:∀ lS v,SB κ a₀ lS->pendingOf lS=(pre++v :: post).toArray->(∀ k,hi<=k->#[wS][k]? = #[ut][k]?)->Runs val #[wS] (pre++v :: post) 0 hi->Q true lS) :
  wpS #[pc] A E s (mergeAt' pre.length) Q st:=by
 obtain⟨sa,na,pw⟩:=x;obtain⟨sb,nb,pw2⟩:=y;obtain⟨mid,r1,r2⟩:=Runs.append.mp hR;obtain⟨rfl,q1,q2,rfl,q4,q5,r3⟩:=r2;have hle:=r3.le;refine zkD (i:=pre.length) (sa:=sa) (na:=na) (pw:=pw) (sb:=sa+na) (nb:=nb) (pw2:=pw2) hC hB (by rw [hp]; simp) (by rw [hp]; simp) rfl q1 q4 #[O] q2 q5 fun lS pd pD hk hs=>?_
 refine h lS (sa,na+nb,pw) pd (by rw [pD,hp,zl0]) (fun k vV=>hk k #[O]) ?_;refine Runs.append.mpr ⟨sa,r1.keep fun k _ b=>hk k #[O],rfl,#[O],?_,?_⟩
 ·rw [<- jL];exact hs
 ·rw [<- jL];exact r3.keep fun k a b=>hk k #[O]
theorem znF {n:Nat} {c:Prop} [Decidable c] (h:¬ n<=1):(if c then n - 2 - 1 else n - 2)+2<=n:=by
 by_cases hc:c
 ·rw [if_pos hc];lia
 ·rw [if_neg hc];lia
theorem zl2 {st:SortSt} {p:List (Nat×Nat×Nat)} {hi:Nat} {Q:Bool->SortSt->Prop} (hj:j+2<=p.length) (hC:Cmp prog w A s κ val a₀) (hB:SB κ a₀ st) (hp:pendingOf st=p.toArray) (hR:Runs val #[ut] p 0 hi) (xR:hi<=a₀.size)
  (h:∀ lS p',SB κ a₀ lS->pendingOf lS=p'.toArray->Runs val #[wS] p' 0 hi->p'.length+1=p.length->Q true lS):wpS #[pc] A E s (mergeAt' j) Q st:=by
 obtain⟨pre,x,y,post,rfl,rfl⟩:=zkE hj;exact zhO hC hB hp hR xR fun lS v a b _ d=>h lS _ a b d (by simp only [ap,bu]; lia)
theorem zpx {st:SortSt} {Q:Unit->SortSt->Prop} (hC:Cmp prog w A s κ val a₀) (hB:SB κ a₀ st) (hp:pendingOf st = #[]) (h2:1<=a₀.size)
  (h:∀ lS,SB κ a₀ lS->SIn val #[wS] 0 a₀.size->Q () lS):wpS #[pc] A E s sortRuns' Q st:=by
 rw [sortRuns'_eq];refine az (fS ?_);dsimp only;rw [hB.size];generalize minRun' a₀.size a₀.size 0=mr;refine az (dR (cX (I:=fun x c lS=>∃ lo p,c=(none,lo)/\SB κ a₀ lS/\pendingOf lS=p.toArray/\Runs val #[wS] p 0 lo/\lo<=a₀.size/\min x a₀.size<=lo)
  (Q:=fun c lS=>∃ p,c=(none,a₀.size)/\SB κ a₀ lS/\pendingOf lS=p.toArray/\Runs val #[wS] p 0 a₀.size) ?step ?fin ⟨0,[],rfl,hB,hp,rfl,#[O],#[O]⟩) ?post)
 case fin =>
  rintro c lS ⟨lo,p,rfl,pd,pD,hR,rq,hx⟩;have:lo=a₀.size:=by lia
  subst this;exact⟨p,rfl,pd,pD,hR⟩
 case step =>
  rintro x c lS _ hx ⟨lo,p,rfl,pd,pD,hR,rq,Gg⟩;dsimp only;by_cases pf:lo>=a₀.size
  ·rw [if_pos pf];have:lo=a₀.size:=by lia
   subst this;exact aC ⟨p,rfl,pd,pD,hR⟩
  rw [if_neg pf];refine az (znA hC #[O] #[O] (SF.refl pd) fun m oZ hF1 vw sg Em=>?_);dsimp only;apply zqU
  ·intro k1 k2;by_cases Gh:m < mr
   ·rw [if_pos Gh]
    (refine az #[NB])
    refine az (zqo hC #[O] #[O] hF1 Em fun m7 yK oB=>?_);rw [if_neg #[D]];have xo:1<=min #[SN] mr:=by lia
    have ug:lo+min #[SN] mr<=a₀.size:=by lia
    generalize min #[SN] mr=n at oB xo ug |-
    revert ug; revert xo; revert oB; revert yK; revert m7; revert n
    exact k1 ()
   ·rw [if_neg Gh];have ug:lo+m<=a₀.size:=by lia
    clear sg Gh
    revert ug; revert vw; revert Em; revert hF1; revert oZ; revert m
    exact k2 ()
  intro n m7 yK oB xo ug;refine az (fS ?_);have ux:pendingOf m7=p.toArray:=yK.pend.trans pD;have yL:Runs val (arrOf m7) p 0 lo:=hR.keep fun k _ b=>yK.low k b
  rcases jm p with rfl | ⟨q,z,rfl⟩
  ·rw [ux];show wpS _ _ _ _ (do
    modify fun s=>setPending s ((pendingOf s).push (lo,n,0)); pure (cM (none,lo+n))) _ _
   refine az (fg (aC ⟨lo+n,[(lo,n,0)],rfl,⟨yK.b.perm,yK.b.kind,yK.b.failed⟩,?_,?_,#[O],#[O]⟩))
   ·show #[Od].push _=_;rw [ux];rfl
   ·have h0:0=lo:=yL;subst h0;exact⟨rfl,xo,oB,rfl⟩
  obtain⟨s1,n1,w1⟩:=z;rw [ux,gk,show ((q++[(s1,n1,w1)]).toArray).back? = some (s1,n1,w1) by simp];rw [gk] at ux yL;dsimp only;generalize power' a₀.size (2*s1+n1) (2*s1+n1+n1+n) a₀.size=pw;refine az (dR (cX (I:=fun _ c lS=>c=(none,())/\∃ q' z,SB κ a₀ lS/\pendingOf lS=(q'++[z]).toArray/\Runs val #[wS] (q'++[z]) 0 lo/\(∀ k,lo<=k->#[wS][k]? = (arrOf m7)[k]?))
   (Q:=fun c lS=>c=(none,())/\∃ q' z,SB κ a₀ lS/\pendingOf lS=(q'++[z]).toArray/\Runs val #[wS] (q'++[z]) 0 lo/\(∀ k,lo<=k->#[wS][k]? = (arrOf m7)[k]?)) ?_ (fun _ _ hh=>hh) ⟨rfl,q,(s1,n1,w1),yK.b,ux,yL,fun _ _=>rfl⟩) ?_)
  ·rintro x2 c m7 _ xS ⟨rfl,q',z,rR,qG,vA,rf⟩;refine az (fS ?_);rcases jm q' with rfl | ⟨q2,y,rfl⟩
   ·rw [qG,if_neg #[M]];exact aC ⟨rfl,[],z,rR,qG,vA,rf⟩
   rw [gk,bt] at qG vA;have En:#[Od].size - 2=q2.length:=by rw [qG]; simp
   have eel:(if #[Od].size > 1 then #[Od][#[Od].size - 2]? else none)=some y:=by
    rw [if_pos (by rw [qG]; simp),En,qG];simp
   rw [eel];obtain⟨y1,y2,y3⟩:=y;dsimp only;by_cases ho:y3<=pw
   ·rw [if_pos ho];exact aC ⟨rfl,q2++[(y1,y2,y3)],z,rR,by rw [qG,bt],by rw [bt]; exact vA,rf⟩
   ·rw [if_neg ho,En];refine az (zhO hC rR qG vA #[O] fun Ed v yM xu yI Gi=>?_);rw [if_neg #[D]];exact aC ⟨rfl,q2,v,yM,xu,Gi,fun k hk=>(yI k hk).trans (rf k hk)⟩
  ·rintro c m7 ⟨rfl,q',z,rR,qG,vA,rf⟩;obtain⟨z1,z2,z3⟩:=z;dsimp only;refine az (fg (az (fg (aC ⟨lo+n,q'++[(z1,z2,pw),(lo,n,0)],rfl,⟨rR.perm,rR.kind,rR.failed⟩,?_,?_,#[O],#[O]⟩))))
   ·show (#[Od].modify (#[Od].size - 1) fun x=>(x.fst,x.2.fst,pw)).push (lo,n,0)=_;rw [qG,zl1];simp
   ·show Runs val (arrOf m7) _ _ _;obtain⟨mid,r1,r2⟩:=Runs.append.mp vA;obtain⟨e1,e2,e3,e4⟩:=r2;have e4:mid+z2=lo:=e4;refine Runs.append.mpr ⟨mid,r1,e1,e2,e3,e4.symm,xo,?_,?_⟩
    ·intro i j a1 a2 a3;rw [zaq (rf i #[O]),zaq (rf j #[O])];exact oB i j #[O] a2 #[O]
    ·show mid+z2+n=lo+n;lia
 case post =>
  rintro c oZ ⟨p,rfl,wH,ux,yL⟩;dsimp only;have m8:=yL.le;refine az (dR (cX (I:=fun x c lS=>c=(none,())/\∃ p,SB κ a₀ lS/\pendingOf lS=p.toArray/\Runs val #[wS] p 0 a₀.size/\p.length<=max 1 (a₀.size - x))
   (Q:=fun c lS=>c=(none,())/\SB κ a₀ lS/\SIn val #[wS] 0 a₀.size) ?_ ?_ ⟨rfl,p,wH,ux,yL,#[O]⟩) ?_)
  ·rintro x c m7 _ hx ⟨rfl,p2,rR,qG,vA,oT⟩;refine az (fS ?_);have hsz:#[Od].size=p2.length:=by rw [qG]; simp
   rw [hsz];by_cases hle:p2.length<=1
   ·rw [if_pos hle];exact aC ⟨rfl,rR,zjr hle h2 vA⟩
   rw [if_neg hle];refine az (zl2 (p:=p2) (znF hle) hC rR qG vA (af _) fun Ed p3 yM xu Gi hl3=>?_);rw [if_neg #[D]];exact aC ⟨rfl,p3,yM,xu,Gi,#[O]⟩
  ·rintro c m7 ⟨rfl,p2,rR,qG,vA,oT⟩;exact⟨rfl,rR,zjr #[O] h2 vA⟩
  ·rintro c m7 ⟨rfl,rR,hS⟩;exact aC (h m7 rR hS)
end
end Srt
end
section
namespace Srt
open PySem PyProof.Rows
noncomputable def num (B:Int):List Int->Int
 | []=>0
 | n :: r=>n*B ^ r.length+num B r
theorem Kg {B:Int} (hB:1<=B):∀ {ns:List Int},(∀ n∈ns,0<=n/\n < B)->0<=num B ns/\num B ns < B ^ ns.length
 | [],_=>by simp [num]
 | n :: r,h=>by
  obtain⟨h1,h2⟩:=Kg hB (ns:=r) fun m hm=>h m (au _ hm)
  obtain⟨a,b⟩:=h n #[M];have hp:0 < B ^ r.length:=Int.pow_pos #[O];have e:B ^ (n :: r).length=B ^ r.length*B:=by rw [bu,iL]
  show 0<=n*B ^ r.length+num B r/\n*B ^ r.length+num B r < _;rw [e];have h3:0<=n*B ^ r.length:=Int.mul_nonneg a #[O];have h4:n*B ^ r.length<=(B - 1)*B ^ r.length:=cS #[O] #[O];have h5:(B - 1)*B ^ r.length=B ^ r.length*B - B ^ r.length:=by rw [Int.sub_mul,kG,eX]
  lia
noncomputable def zhP:List Int->List Int->Bool
 | [],[]=>false
 | [],_ :: _=>true
 | _ :: _,[]=>false
 | x :: xs,y :: ys=>if x=y then zhP xs ys else decide (x < y)
theorem zc3 (x y:Int) (xs ys:List Int):zhP (x :: xs) (y :: ys)=if x=y then zhP xs ys else decide (x < y):=rfl
theorem zjs {B:Int} (hB:1<=B):∀ {ms ns:List Int},ms.length=ns.length->(∀ n∈ms,0<=n/\n < B)->(∀ n∈ns,0<=n/\n < B)->zhP ms ns=decide (num B ms < num B ns)
 | [],[],_,_,_=>by simp [zhP,num]
 | [],_ :: _,h,_,_=>by simp at h
 | _ :: _,[],h,_,_=>by simp at h
 | m :: ms,n :: ns,hl,h1,h2=>by
  have yr:ms.length=ns.length:=by simpa using hl
  have ih:=zjs hB yr (fun x hx=>h1 x #[QT]) (fun x hx=>h2 x #[QT]);obtain⟨a1,a2⟩:=Kg hB fun x hx=>h1 x (au m hx)
  obtain⟨b1,b2⟩:=Kg hB fun x hx=>h2 x (au n hx)
  rw [zc3];show _=decide (m*B ^ ms.length+num B ms < n*B ^ ns.length+num B ns);rw [yr] at a2 |-;have hp:0 < B ^ ns.length:=Int.pow_pos #[O];by_cases e:m=n
  ·rw [if_pos e,ih,e];rw [cL];simp only [decide_eq_true_eq];lia
  ·rw [if_neg e,cL];simp only [decide_eq_true_eq];have key:∀ x y:Int,x < y->x*B ^ ns.length+B ^ ns.length<=y*B ^ ns.length:=fun x y hxy=>by
    have:=cS (show x+1<=y by lia) (show 0<=B ^ ns.length by lia);rw [Int.add_mul,kG] at this;exact this
   constructor
   ·intro h;have:=key m n h;lia
   ·intro h;rcases ku m n with h3 | h3 | h3
    ·exact h3
    ·exact absurd h3 e
    ·have:=key n m h3;lia
section
variable {prog:Program} {w:World} {A:Around} {E:Value->Shared->Prop} {s:Shared}
theorem zjt {Q:Bool->Shared->Prop} {fin:Bool}:∀ {xs ys:List Value} {ms ns:List Int} (i:Nat),IntsAre xs ms->IntsAre ys ns->ms.length=ns.length->Q (if ms=ns then fin else zhP ms ns) s->PySem.W.KatLex prog w A true fin Q (xs.zip ys) i s
 | [],[],[],[],i,_,_,_,h=>PySem.W.kat_nil (by simpa using h)
 | _ :: _,_,[],_,_,hx,_,_,_=>by cases hx
 | [],_,_ :: _,_,_,hx,_,_,_=>by cases hx
 | _,[],_,_ :: _,_,_,hy,_,_=>by cases hy
 | _,_ :: _,_,[],_,_,hy,_,_=>by cases hy
 | x :: xs,y :: ys,m :: ms,n :: ns,i,hx,hy,hl,h=>by
  cases hx with
  | cons _ t hx =>
   cases hy with
   | cons _ u hy =>
    refine PySem.W.kat_cons (wpAny_eqBool_int ?_);by_cases e:m=n
    ·rw [show (m == n)=true by simpa using e];refine PySem.W.kat_yes (zjt (i+1) hx hy (by simpa using hl) ?_);subst e;rw [zc3,if_pos rfl] at h;simpa using h
    ·rw [show (m == n)=false by simpa using e];have m5:¬ (m :: ms=n :: ns):=fun z=>e (jM z).1
     rw [if_neg m5,zc3,if_neg e] at h;refine PySem.W.kat_no ?_;by_cases hi:i=0
     ·subst hi;exact oneLt_int h
     ·have hb:(true && i == 0)=false:=by simp [hi]
      rw [hb];exact PySem.W.kat_one _ _ (wpAny_lt_int h)
end
end Srt
end
section
namespace PySem
open PyProof.Rows
noncomputable def zd7 (h:Heap) (d:Addr) (es:Array DictEntry) (ep:Nat):Prop:=∃ o,h.get? d=some o/\o.ExactDict/\o.data = .dict es ep
theorem zd7.at' {h h':Heap} {d:Addr} {es:Array DictEntry} {ep:Nat} (x:zd7 h d es ep) (e:∀ o,h.get? d=some o->h'.get? d=some o):zd7 h' d es ep:=let ⟨o,ho,r⟩:=x; ⟨o,e _ ho,r⟩
theorem zd7.typeIs {s:Shared} {d:Addr} {es:Array DictEntry} {ep:Nat} (x:zd7 s.heap d es ep):s.TypeIs (.ref d) "dict":=let ⟨o,ho,hc,_⟩:=x; ⟨o,ho,hc.1⟩
section
variable {prog:Program} {w:World} {A:Around} {E:Value->Shared->Prop} {s:Shared} {it d:Addr} {i ep:Nat} {es:Array DictEntry}
theorem zhQ {Q:Value->Shared->Prop} (hd:(d == sysModules)=false) (hm:zd7 s.heap d es ep) (hQ:Q #[ss] { s with heap:=s.heap.push { cls:=.type "dict_keyiterator",data:=.fields #[.ref d,.int 0 0,.int es.size 0,.int ep 0] } }):wpAny #[pc] A (pyIter (.ref d)) Q E s:=by
 have hT:=hm.typeIs;obtain⟨o,ho,hc,Ct⟩:=id hm;refine iA hT kR (bS kR hT F.entry_dict_iter ?_ (F.args_dict_iter_1 _)); unfold Builtin.«dict.__iter__» Builtin.Dict.dictSlotNone;refine ae (ae (jn hT ?_)); show wpAny _ _ (pure (aX d)) _ _ s;refine ao ?_; show wpAny _ _ (jo d >>= _) _ _ s; unfold jo;rw [if_neg (show ¬ ((d == sysModules)=true) by rw [hd]; decide)];refine ae (ao (ae (iB ho Ct (ae (i9 ho Ct (ae (cI (ao ⟨_,rfl,"dict_keyiterator",_,⟨_,aE _ rfl,rfl⟩,F.slot_dict_keyiterator_next.lookup,?_⟩))))))));simpa [rawInt] using hQ
theorem zhR {e:DictEntry} {Q:Option Value->Shared->Prop} (hit:s.heap.IsKeyIter it d i es.size ep) (hm:zd7 s.heap d es ep) (he:es[i]? = some e)
  (hQ:∀ h',h'.IsKeyIter it d (i+1) es.size ep->bv it s.heap h'->Q (some e.key) { s with heap:=h' }):wpAny #[pc] A #[PB] Q E s:=by
 (obtain⟨o,ho,hc,hd⟩:=id hit)
 obtain⟨od,Cu,tf,Az⟩:=id hm;have mh:i < es.size:=(dm.mp he).1;have AA:gW "dict_keyiterator" = false:=by decide +kernel
 unfold pyNext; refine ae (dk (bK (name:=bD "__next__") hit.typeIs dS #[RV]));refine ae #[OA];simp only [AA,bA,if_false]; show wpAny _ _ (if (aX d == dg)=true then _ else _) _ _ s;rw [if_neg (show ¬ ((aX d == dg)=true) from fun z=>aQ z)];refine ae (ao (ae (iB Cu Az ?_)));rw [if_neg (show ¬ ((((es.size:Nat):Int) != ((es.size:Nat):Int))=true) by simp)];refine ae (ao (ae (i9 Cu Az ?_)));rw [if_neg #[M]]; refine ao ?_;simp only [show ¬ ((i:Int) < 0) by lia,if_false,bh,he];refine ae (ae (dL hit.typeIs (ao (ae (jp hit.typeIs ?_)))));show wpAny _ _ (setField #[NA] 1 (rawInt ((i:Int)+1)) >>= _) _ _ s; refine ae #[P3];have ur:(s.heap.update it (il (·.setIfInBounds 1 (rawInt ((i:Int)+1))))).IsKeyIter it d (i+1) es.size ep:=⟨_,d7 _ ho (eQ (du hd _)),(iz ..).trans hc,by rw [du hd]; simp [rawInt]⟩;refine ae (cm (ae (jp (s:={ s with heap:=s.heap.update it (il (·.setIfInBounds 1 (rawInt ((i:Int)+1)))) }) ur.typeIs ?_)));show wpAny _ _ (pure e.key) _ _ _; exact ao (ao ⟨_,rfl,ao (hQ _ ur (da ..))⟩)
theorem zju {Q:Option Value->Shared->Prop} (hh:A.handled=none) (hit:s.heap.IsKeyIter it d i es.size ep) (hm:zd7 s.heap d es ep) (he:es.size<=i) (hQ:∀ h',kD it s.heap h'->Q none { s with heap:=h' }):wpAny #[pc] A #[PB] Q E s:=by
 (obtain⟨o,ho,hc,hd⟩:=id hit)
 obtain⟨od,Cu,tf,Az⟩:=id hm;have AA:gW "dict_keyiterator" = false:=by decide +kernel
 unfold pyNext; refine ae (dk (bK (name:=bD "__next__") hit.typeIs dS #[RV]));refine ae #[OA];simp only [AA,bA,if_false]; show wpAny _ _ (if (aX d == dg)=true then _ else _) _ _ s;rw [if_neg (show ¬ ((aX d == dg)=true) from fun z=>aQ z)];refine ae (ao (ae (iB Cu Az ?_)));rw [if_neg (show ¬ ((((es.size:Nat):Int) != ((es.size:Nat):Int))=true) by simp)];refine ae (ao (ae (i9 Cu Az ?_)));rw [if_neg #[M]]; refine ao ?_;simp only [show ¬ ((i:Int) < 0) by lia,if_false,bh,Array.getElem?_eq_none he];refine ae (ae (dL hit.typeIs (ao ?_)));show wpAny _ _ (setField #[NA] 0 .none >>= _) _ _ s; refine ae #[P3];show wpAny _ _ (newExc (.type "StopIteration") [] >>= _) _ _ _; simp only [newExc,newTuple];refine ae (ae (cI (ae (m:=firstArgMember _ _) (dW (a:=dg) (by first | rfl | (simp only [firstArgMember]; rfl)) (cI ?_ (by size_fits)))) (by size_fits)));simp only [raiseNew]; refine ae (jJ ?_); rw [show A.in1.handled=none from hh];refine ae (ao (kE ?_)); refine ae (fe (T:="StopIteration") (b:=true) ⟨_,aE _ rfl,rfl⟩ gP ?_)
 (exact ao (hQ _ (((da ..).extBut.push _).push _)))
theorem zkF (hh:A.handled=none) (I d:Addr) (m5:d≠I) (es:Array DictEntry) (ep:Nat) :
  Walks prog w A I [I,d] [I] es.size (fun i v=>∃ e,es[i]? = some e/\v=e.key) (fun i h=>h.IsKeyIter I d i es.size ep/\zd7 h d es ep) where
 sub:=(fun b hb=>by simp at hb; simp [hb])
 frame:=(fun _ _ _ st hk=>⟨st.1.at fun o e=>hk I #[M] o e,st.2.at' fun o e=>hk d #[M] o e⟩)
 item:=fun i s Q E hi st hQ=>zhR st.1 st.2 (getElem?_pos es i hi) fun h' ur o6=>hQ _ h' s.toks ⟨es[i],getElem?_pos es i hi,rfl⟩ ⟨ur,st.2.at' fun o e=>o6.extBut d o m5 e⟩ fun b o hb e=>o6.extBut b o (fun h=>hb (by simp [h])) e
 done:=fun s Q E st hQ=>zju hh st.1 st.2 (af _) fun h' Ai=>hQ h' s.toks fun b o hb e=>Ai b o (fun h=>hb (by simp [h])) e
 self:=(fun _ _ _ _ st hQ=>jE st.1 hQ)
theorem znG (lo:(d == sysModules)=false):lC prog w "dict" d d es.size (fun i v=>∃ e,es[i]? = some e/\v=e.key) (fun h=>zd7 h d es ep) where
 type:=fun _ hm=>hm.typeIs
 there:=fun _ hm=>let ⟨_,ho,_⟩:=hm; ⟨aF ho,aF ho⟩
 keep:=(fun _ _ hm hk=>hm.at' fun o e=>hk d #[Nq] o e)
 notList:=by decide
 notTuple:=by decide
 hint:=fun _ _ _ _ hm hq=>PySem.W.kdl_hint_dict hm.typeIs hq
 iter:=fun _ _ hh hm=>⟨_,_,(fun _ _ hq=>zhQ lo hm hq),zkF hh _ d (by obtain⟨_,ho,_⟩:=id hm; exact a8 (aF ho)) es ep,⟨⟨_,aE _ rfl,rfl,rfl⟩,hm.at' fun o e=>ai _ e⟩⟩
end
end PySem
end
section
namespace Srt
open PySem PyProof.Rows
section
variable {prog:Program} {w:World} {A:Around} {E:Value->Shared->Prop} {s:Shared} {κ:SortKind} {val:Keyed->Int}
theorem zdT {vs:List Value} {p:Keyed} (h:p∈#[NV].toList):p.1∈vs/\p.2=p.1:=by
 rw [jq] at h;obtain⟨i,hi,e⟩:=cK h;rw [List.getElem_zip] at e;rw [<- e];exact⟨cG _,rfl⟩
theorem zpy {vs:List Value} {xs:Array Keyed} (hp:xs.Perm #[NV]) (hs:SIn val xs 0 #[NV].size):(xs.map (·.2)).toList.Perm vs/\(xs.map (·.2)).toList.Pairwise fun x y=>val (x,x)<=val (y,y):=by
 (have hl:xs.toList.Perm (vs.zip vs):=by rw [<- jq]; exact fu.mp hp)
 have hm:∀ p∈xs.toList,p=(p.2,p.2):=fun p pD=>by
  have:=zdT (by rw [jq]; exact hl.mem_iff.mp pD);exact lK this.2.symm rfl
 constructor
 ·rw [kS];refine (hl.map (·.2)).trans ?_;rw [show (vs.zip vs).map (·.2)=vs from kT (af _)]
 ·rw [kS,bZ,cR];intro i j hi hj qH
  (have nY:i < xs.size:=by simpa using hi)
  (have qj:j < xs.size:=by simpa using hj)
  have h1:=hs i j (bg _) #[O] (by rw [<- hp.size_eq]; exact qj);rw [zae (getElem?_pos xs i nY),zae (getElem?_pos xs j qj)] at h1;have e1:=hm xs.toList[i] (cG _);have e2:=hm xs.toList[j] (cG _);rw [<- e1,<- e2];simpa using h1
theorem zkG {a:Addr} {vs:List Value} {n:Nat} {P:PySem.Fin->Shared->Prop} (ho:s.heap.get? a=some (seqObj "list" vs.toArray n)) (lT:vs.length<=sizeLine)
  (tF:∀ h',(∀ b o,b≠a->s.heap.get? b=some o->h'.get? b=some o)->2<=vs.length->∀ (Q:SortKind->Shared->Prop) (E:Value->Shared->Prop),Q κ { s with heap:=h' }->wpAny #[pc] A (keyKind' vs.toArray) Q E { s with heap:=h' })
  (AB:∀ h',(∀ b o,b≠a->s.heap.get? b=some o->h'.get? b=some o)->Cmp prog w A { s with heap:=h' } κ val #[NV])
  (h:∀ out:Array Value,out.toList.Perm vs->(out.toList.Pairwise fun x y=>val (x,x)<=val (y,y))->P (.done #[Rv]) { s with heap:=sortedHeap s.heap a vs out }):wpAny #[pc] A (Builtin.«list.sort» ⟨[.ref a],[]⟩) P E s:=by
 rw [list_sort_plain]
 (have ha:a < s.heap.objs.size:=aF ho)
 have hz:vs.toArray.size=vs.length:=aq;refine ae (listItems_at ho rfl (ae (jN ho rfl ?_ (hsz:=by rw [hz]; exact lT))))
 (obtain⟨e1,Ay⟩:∃ e1,(s.heap.update a (dh fun _=>#[])).get? a=some (seqObj "list" #[] e1):=⟨_,get?_update_seq ho (fun _=>#[])⟩)
 refine ae (kH Ay rfl (ae (gT (ae (jO (cm ?_))) (hsz:=lT))));have Eo:(((s.heap.update a (dh fun _=>#[])).push (seqObj "tuple" vs.toArray 0)).push (seqObj "list" #[] 0)).get? a=some (seqObj "list" #[] e1):=ai _ (ai _ Ay);have hk6:∀ b o,b≠a->s.heap.get? b=some o->(((s.heap.update a (dh fun _=>#[])).push (seqObj "tuple" vs.toArray 0)).push (seqObj "list" #[] 0)).get? b=some o:=fun b o hb e=>ai _ (ai _ ((Heap.get?_update_ne _ _ _ _ hb).trans e))
 (show wpAny #[pc] A _ P E { s with heap:=((s.heap.update a (dh fun _=>#[])).push (seqObj "tuple" vs.toArray 0)).push (seqObj "list" #[] 0) })
 dsimp only;have hcm:=AB _ hk6;have fin:∀ lS:SortSt,SB κ #[NV] lS\/(arrOf lS=pairsOf vs/\failedOf lS=none)->SIn val #[wS] 0 #[NV].size ->
   P (.done #[Rv]) { s with heap:=sortedHeap s.heap a vs (#[wS].map (·.2)) }:=fun lS hB hs=>by
  have hp:#[wS].Perm #[NV]:=by
   rcases hB with hB | hB
   ·exact hB.perm
   ·rw [hB.1]
  obtain⟨b1,b2⟩:=zpy hp hs;exact h _ b1 b2
 (by_cases h2:vs.toArray.size < 2)
 ·rw [if_pos h2,if_pos h2];refine ae (ao ?_); rw [StateT.run_pure]; refine ae (ao ?_);dsimp only;refine ae (kH Eo rfl (ae (jN Eo rfl ?_ (hsz2:=by rw [lD]; show #[NV].size<=_; rw [iM]; lia))))
  (simp only [bne_self_eq_false,bA,if_false])
  refine ao (fin (lq general' #[So] #[] 7 none) (.inr ⟨rfl,rfl⟩) fun i j _ qH hj=>?_);have e:i=j:=by rw [iM] at hj; lia
  rw [e];exact bM _
 ·rw [if_neg h2,if_neg h2];refine ae (tF _ hk6 #[O] _ _ ?_);refine ae (cE (zpx (a₀:=pairsOf vs) (κ:=κ) (val:=val) (st:=lq κ #[So] #[] 7 none) (Q:=fun _ lS=>SB κ #[NV] lS/\SIn val #[wS] 0 #[NV].size)
   hcm ⟨Array.Perm.refl _,rfl,rfl⟩ rfl (by rw [iM]; lia) fun lS a1 a2=>⟨a1,a2⟩) ?_ fun _ _ e=>e)
  rintro⟨⟨⟩,lS⟩ s' ⟨rfl,hB,hs⟩;dsimp only;refine ae (kH Eo rfl (ae (jN Eo rfl ?_ (hsz2:=aV (Nat.le_of_eq ((lD ..).trans (hB.perm.size_eq.trans (iM _)))) #[O]))));rw [hB.failed]
  (simp only [bne_self_eq_false,bA,if_false])
  exact ao (fin lS (.inl hB) hs)
theorem zkH {v:Value} {vs:List Value} {Q:Value->Shared->Prop} (lT:vs.length<=sizeLine)
  (Gj:∀ R:List Value->Shared->Prop,(∀ (h':Heap) (tk:Nat),(∀ b o,s.heap.get? b=some o->h'.get? b=some o)->R vs { s with heap:=h',toks:=tk })->wpAny #[pc] A.in1 (collect v) R E s)
  (tF:∀ s',(∀ b o,s.heap.get? b=some o->s'.heap.get? b=some o)->2<=vs.length->∀ (A':Around) (Q:SortKind->Shared->Prop) (E:Value->Shared->Prop),Q κ s'->wpAny #[pc] A' (keyKind' vs.toArray) Q E s')
  (AB:∀ s' A',(∀ b o,s.heap.get? b=some o->s'.heap.get? b=some o)->Cmp prog w A' s' κ val #[NV])
  (h:∀ (h':Heap) (tk:Nat) (out:Array Value) (e:Nat) (D:Addr),(∀ b o,s.heap.get? b=some o->h'.get? b=some o)->(∀ b o,s.heap.get? b=some o->b < D)->h'.get? D=some (seqObj "list" out e)->out.toList.Perm vs->(out.toList.Pairwise fun x y=>val (x,x)<=val (y,y))->Q #[M6] { s with heap:=h',toks:=tk }) :
  wpAny #[pc] A (call (.builtin "sorted") [v]) Q E s:=by
 refine Calls.call_function_entry kind_sorted plain_sorted entry_sorted (args_sorted1 _) ?_; unfold Builtin.«sorted»;refine ae (m:=checkCount "sorted" 1 1 _) (ao (ae (cE (Gj (fun us s'=>us=vs/\∃ (h':Heap) (tk:Nat),s' = { s with heap:=h',toks:=tk }/\∀ b o,s.heap.get? b=some o->h'.get? b=some o) fun h' tk k=>⟨rfl,h',tk,rfl,k⟩) ?_ fun _ _ e=>e)));rintro us s' ⟨rfl,h1,tk,rfl,kk⟩;refine ae (jO ?_ (hsz:=lT));have xD:(h1.push (seqObj "list" us.toArray 0)).get? h1.objs.size=some (seqObj "list" us.toArray 0):=aE _ rfl;have kn:∀ b o,s.heap.get? b=some o->b≠h1.objs.size:=fun b o e=>a8 (aF (kk b o e))
 refine ae (cm (bS slot_list_sort ⟨_,xD,rfl⟩ entry_list_sort (zkG (κ:=κ) (val:=val) xD lT (fun h' hk h2 Q E hq=>tF _ (fun b o e=>hk b o (kn b o e) (ai _ (kk b o e))) h2 _ Q E hq) (fun h' hk=>AB _ _ fun b o e=>hk b o (kn b o e) (ai _ (kk b o e))) fun out a1 a2=>#[PJ]) (args_list_sort _)));obtain⟨e,he⟩:=sortedHeap_at (out:=out) xD;refine ao ⟨_,rfl,h _ tk out e h1.objs.size (fun b o x=>?_) (fun b o x=>aF #[Sy]) he a1 a2⟩;rw [sortedHeap_old (kn b o x) (by rw [bj]; exact cA (aF #[Sy]))];exact ai _ #[Sy]
end
end Srt
end
section
namespace L2
open PySem PySem.Spec PyProof.Rows PySem.Builtin.Str
variable {H:Hp} {X:Cx} {h':Heap} {lN:List (Addr×Obj)} {s:Shared} {tk:Nat}
theorem Inv.above {σ:St} {D:Addr} {o:HO} (I:Inv X lN σ H s) (k:∀ b o,s.heap.get? b=some o->h'.get? b=some o) (hD:∀ b o,s.heap.get? b=some o->b < D)
  (new:zax X.prog X.w (lP H D o) h' D o):H D=none/\Inv X lN σ (lP H D o) { s with heap:=h',toks:=tk }:=by
 have hn:H D=none:=by
  cases e:H D with
  | none=>rfl
  | some u =>
   obtain⟨ob,z⟩:=zlN (I.hok D u e);exact absurd (hD D ob z) (cg _)
 have hL:X.env.locals < D:=by
  obtain⟨m,⟨o,es,ep,ho,_⟩,_⟩:=I.loc;exact hD _ _ ho
 have I1:Inv X lN σ H { s with heap:=h',toks:=tk }:=I.kept k;refine⟨hn,I1.Lj hn (dY (fK I.ok.above hL)) (a8 hL) (fun x c e z=>?_) (fun p hp z=>?_) new⟩
 ·obtain⟨v,oc,q,_⟩:=I.cell x c e;exact absurd (hD c oc q) (by rw [z]; exact cg _)
 ·exact absurd (hD p.1 _ (I.pin p hp).1) (by rw [z]; exact cg _)
end L2
end
section
namespace L2
open PySem PySem.Spec PyProof.Rows Srt
variable {H:Hp} {M:Model} {X:Cx} {h:Heap} {kvs:List (List Key×V)} {lN:List (Addr×Obj)} {ns:List Int} {s s':Shared}
noncomputable def zl3 (xs:List V):List Int:=xs.filterMap fun x=>match x with
 | .int n=>some n
 | _=>none
theorem zkI (ns:List Int):zl3 #[xz]=ns:=by
 unfold zl3;rw [j8];induction ns with
 | nil=>rfl
 | cons n ns ih =>
  rw [eE];simp only [Function.comp];rw [ih]
noncomputable def zdz (H:Hp) (v:Value):List Int:=match v with
 | .ref a=>(match H a with
  | some #[P8]=>zl3 xs
  | _=>[])
 | _=>[]
theorem zeS {a:Addr} (h:H a=some (.tup #[xz])):zdz H #[M8]=ns:=by
 unfold zdz;simp only [h];exact zkI ns
noncomputable def znH (H:Hp) (k:Nat) (B:Int) (ps:List (Addr×List Int)):Prop:=∀ q∈ps,H q.1=some (.tup (q.2.map V.int))/\q.2.length=k/\∀ n∈q.2,0<=n/\n < B
theorem zdA:∀ (ps:List (Addr×List Int)),zU (ps.map fun q=>V.ref q.1) (ps.map fun q=>aX q.1)
 | []=>.nil
 | q :: ps=>.cons rfl (zdA ps)
section
variable {X:Cx} {lN:List (Addr×Obj)} {σ:St} {H:Hp} {s:Shared} {k:Nat} {B:Int} {ps:List (Addr×List Int)}
theorem zgz (I:Inv X lN σ H s) {q:Addr×List Int} (h:H q.1=some (.tup (q.2.map V.int))):∃ o lQ n,s.heap.get? q.1=some o/\o.cls = .type "tuple"/\o.data = .seq lQ n/\IntsAre lQ.toList q.2:=by
 obtain⟨lQ,r,⟨o,ho,hc,n,hd⟩,hz⟩:=I.tuple (lY.of h);exact⟨o,lQ.toArray,n,ho,hc,hd,by simpa using intsAre_of r⟩
theorem zpz (I:Inv X lN σ H s) (hT:znH H k B ps) (hk:1<=k) (kk:∀ b o,s.heap.get? b=some o->s'.heap.get? b=some o):∃ fs:List Value,PySem.W.KatTups s'.heap (ps.map fun q=>aX q.1) fs/\fs.length=ps.length/\∀ v∈fs,∃ n t,v=i0 n t:=by
 induction ps with
 | nil=>exact⟨[],trivial,rfl,fun v hv=>by cases hv⟩
 | cons q ps ih =>
  obtain⟨fs,h1,h2,h3⟩:=ih fun q' rk=>hT q' (au _ rk)
  obtain⟨hq,hl,_⟩:=hT q #[M];obtain⟨o,lQ,n,ho,hc,hd,hi⟩:=zgz I hq;have lT:=hi.length;obtain⟨m,ms,e⟩:∃ m ms,q.2=m :: ms:=by
   cases e:q.2 with
   | nil=>rw [e] at hl; simp at hl; lia
   | cons m ms=>exact⟨m,ms,rfl⟩
  rw [e] at hi;cases e2:lQ.toList with
  | nil=>rw [e2] at hi; cases hi
  | cons f fr =>
   rw [e2] at hi;cases hi with
   | cons _ t hi =>
    refine⟨.int m t :: fs,lM (kk _ _ ho) hc hd ?_ h1,by simp [h2],fun v hv=>?_⟩
    ·rw [<- be,e2];rfl
    ·rcases (aB.mp hv) with rfl | hv
     ·exact⟨m,t,rfl⟩
     ·exact h3 v hv
theorem zfU:∀ ms:List Int,zhP ms ms=false
 | []=>rfl
 | m :: ms=>by rw [zc3,if_pos rfl,zfU ms]
theorem zpA (I:Inv X lN σ H s) (hT:znH H k B ps) (hB:1<=B) {A':Around} (kk:∀ b o,s.heap.get? b=some o->s'.heap.get? b=some o) :
  Cmp X.prog X.w A' s' (tuples' true) (fun p=>num B (zdz H p.1)) (pairsOf (ps.map fun q=>aX q.1)):=by
 intro x y hx hy Q E hQ;obtain⟨qx,mx,ex⟩:=aw.mp (zdT hx).1;obtain⟨qy,my,ey⟩:=aw.mp (zdT hy).1;obtain⟨Bs,xS,hx3⟩:=hT qx mx;obtain⟨Ep,Er,hy3⟩:=hT qy my;obtain⟨ox,ix,nx,gx,cx,dx,ax⟩:=zgz I Bs;obtain⟨oy,iy,ny,gy,cy,dy,ay⟩:=zgz I Ep;have ev:decide ((fun p:Keyed=>num B (zdz H p.1)) x < (fun p:Keyed=>num B (zdz H p.1)) y)=zhP qx.2 qy.2:=by
  rw [zjs hB (xS.trans Er.symm) hx3 hy3,<- zeS Bs,<- zeS Ep];simp only [ex,ey]
 rw [ev] at hQ;rw [<- ex,<- ey];refine PySem.W.kat_lt (kk _ _ gx) dx (kk _ _ gy) dy (zjt 0 ax ay (xS.trans Er.symm) ?_);have hsz:decide (ix.size < iy.size)=false:=by
  have e1:=ax.length;have e2:=ay.length;rw [bG] at e1 e2;exact decide_eq_false #[O]
 rw [hsz];by_cases e:qx.2=qy.2
 ·rw [if_pos e];rw [e,zfU] at hQ;exact hQ
 ·rw [if_neg e];exact hQ
theorem zl4 (hT:znH H k B ps) {out:Array Value} (hp:out.toList.Perm (ps.map fun q=>aX q.1)) (hs:out.toList.Pairwise fun x y=>num B (zdz H x)<=num B (zdz H y)) :
  ∃ pC:List (Addr×List Int),pC.Perm ps/\(pC.Pairwise fun a b=>num B a.2<=num B b.2)/\out.toList=pC.map fun q=>aX q.1:=by
 let g:Value->Addr×List Int:=fun v=>match v with
  | .ref a=>(a,zdz H #[M8])
  | _=>(0,[])
 have hg:∀ q∈ps,g (.ref q.1)=q:=fun q hq=>lK rfl (zeS (hT q hq).1)
 have hv:∀ v∈out.toList,∃ q∈ps,v = .ref q.1:=fun v hv=>by
  obtain⟨q,hq,e⟩:=aw.mp (hp.mem_iff.mp hv);exact⟨q,hq,e.symm⟩
 refine⟨out.toList.map g,?_,?_,?_⟩
 ·refine (hp.map g).trans ?_;rw [aR];have:ps.map (g ∘ fun q=>aX q.1)=ps:=by
   conv=>rhs; rw [<- g8 ps]
   exact bY fun q hq=>hg q hq
  rw [this]
 ·rw [bZ];refine dF (fun {x y} hx hy h=>?_) hs;obtain⟨q,hq,rfl⟩:=hv x hx;obtain⟨q',rk,rfl⟩:=hv y hy;exact h
 ·rw [aR]
  conv=>lhs; rw [<- g8 out.toList]
  refine bY fun v hv'=>?_
  obtain⟨q,hq,rfl⟩:=hv v hv';rfl
end
theorem zkJ {n:Int} {t:Tok}:PySem.W.Looks M h (typeOf (.int n t)) (.type "int"):=PySem.W.Looks.of_pure rfl
theorem znI {σ:St} {d:Addr} {mM:List #[GE]} (I:Inv X lN σ H s) (hd:H d=some #[OM]) (hk:kvs.map (·.1)=mM.map (·.map bI)) :
  (d == sysModules)=false/\kvs.length<=sizeLine/\∃ (ps:List (Addr×List Int)) (es:Array DictEntry) (ep:Nat),zd7 s.heap d es ep/\es.toList.map (·.key)=(ps.map fun q=>aX q.1)/\ps.map (·.2)=mM/\∀ q∈ps,H q.1=some (.tup (q.2.map V.int)):=by
 obtain⟨hz,hs,xs,hp,o,es,ep,ho,hx,he,uq,oz⟩:=I.hok d _ hd;refine⟨hs,hz,?_⟩;have key:∀ {kvs:List (List Key×V)} {xs:List (List Key×Addr×Value)} {mM:List #[GE]},Paired (fun (p:List Key×V) (q:List Key×Addr×Value)=>p.1=q.1/\H q.2.1=some (.tup (p.1.map kV))/\RelV p.2 q.2.2) kvs xs->kvs.map (·.1)=mM.map (·.map bI) ->
   ∃ ps:List (Addr×List Int),xs.map (fun x=>aX x.2.1)=(ps.map fun q=>aX q.1)/\ps.map (·.2)=mM/\∀ q∈ps,H q.1=some (.tup (q.2.map V.int)):=by
  intro kvs xs mM hp;induction hp generalizing mM with
  | nil =>
   intro e;cases mM with
   | nil=>exact⟨[],rfl,rfl,fun q hq=>by cases hq⟩
   | cons m mM=>simp at e
  | @cons x y l1 l2 h1 h2 ih =>
   intro e;cases mM with
   | nil=>simp at e
   | cons m mM =>
    rw [aM,aM] at e;obtain⟨e1,e2⟩:=jM e;obtain⟨ps,a1,a2,a3⟩:=ih e2;obtain⟨_,h12,_⟩:=h1;refine⟨(y.2.1,m) :: ps,by rw [aM,aM,a1],by rw [aM,a2],fun q hq=>?_⟩;rcases (aB.mp hq) with rfl | hq
    ·rw [h12,e1,aR];rfl
    ·exact a3 q hq
 obtain⟨ps,a1,a2,a3⟩:=key hp hk;refine⟨ps,es,ep,⟨o,ho,hx,he⟩,?_,a2,a3⟩;rw [uq,aR,<- a1];rfl
theorem zdB {X:Cx} (hc:X.calm=true):zbG X (.builtin "sorted") (fun xs H Q=>∃ (d:Addr) (k:Nat) (B:Int) (kvs:List (List Key×V)) (mM:List #[GE]),xs = [.ref d]/\H d=some #[OM]/\kvs.map (·.1)=mM.map (·.map bI)/\(∀ ms∈mM,ms.length=k/\∀ n∈ms,0<=n/\n < B)/\1<=k/\1<=B /\
  ∀ (l:Addr) (pC:List (Addr×List Int)),H l=none->(pC.map (·.2)).Perm mM->(pC.Pairwise fun a b=>num B a.2<=num B b.2)->(∀ q∈pC,H q.1=some (.tup (q.2.map V.int)))->Q #[Nv] (lP H l (.lst (pC.map fun q=>V.ref q.1)))):=by
 intro lN s σ H xs us Q I r h;obtain⟨d,k,B,kvs,mM,rfl,hd,uB,uh,hk,hB,q⟩:=h;obtain⟨u,rfl,rx⟩:=vals1 r;cases rx;obtain⟨hs,hz,ps,es,ep,wI,hek,mS,hH⟩:=znI I hd uB;have hT:znH H k B ps:=fun q' rk=>⟨hH q' rk,uh q'.2 (by rw [<- mS]; exact dO rk)⟩
 have hlp:ps.length=kvs.length:=by
  have e1:=congrArg er mS;have e2:=congrArg er uB;rw [ab] at e1;rw [ab,ab] at e2;lia
 have uq:es.size=ps.length:=by
  have:=congrArg er hek;rw [ab,ab,bG] at this;exact this
 refine zkH (vs:=ps.map fun q=>aX q.1) (κ:=tuples' true) (val:=fun p=>num B (zdz H p.1)) (by rw [ab]; lia) (fun R hR=>?_) (fun s' kk h2 A' Q' E' rk=>?_) (fun s' A' kk=>zpA I hT hB kk) fun h' tk out e D kk hD AD hp hs=>?_
 ·refine jT (znG (es:=es) (ep:=ep) hs) (by simp [I.ok.hd hc]) wI #[O] fun h' tk acc kk tL=>?_
  have:acc.toList=ps.map fun q=>aX q.1:=by
   rw [<- hek];refine ee fun j=>?_
   by_cases hj:j < es.size
   ·have hja:j < acc.size:=by rw [tL.1]; exact hj
    obtain⟨e',h1,h2⟩:=tL.2 j acc[j] (getElem?_pos acc j hja);rw [be,getElem?_pos acc j hja,aj,be,h1,h2];rfl
   ·rw [bX (by rw [bG,tL.1]; lia),bX (by rw [ab,bG]; lia)]
  rw [this];exact hR h' tk kk
 ·obtain⟨fs,k1,k2,k3⟩:=zpz I hT hk kk;exact PySem.W.kat_kind (T:=.type "int") k1 (by rw [ab] at h2; lia) (fun v hv=>by obtain⟨n,t,rfl⟩:=k3 v hv; exact zkJ) rfl rk
 ·obtain⟨pC,p1,p2,p3⟩:=zl4 hT hp hs;have hl:=p1.length_eq;obtain⟨hn,I2⟩:=I.above (tk:=tk) (D:=D) (o:=.lst (pC.map fun q=>V.ref q.1)) kk hD ⟨by rw [ab]; lia,pC.map fun q=>aX q.1,e,zdA pC,by rw [<- p3]; exact AD⟩;exact⟨.ref D,_,I2,rfl,q D pC hn (by rw [<- mS]; exact p1.map _) p2 fun q' rk=>(hT q' (p1.mem_iff.mp rk)).1⟩
end L2
end
section
namespace L2
open PySem PySem.Spec PyProof.Rows
variable {H:Hp} {J:It} {g:TG} {sc:Scope} {ys:List V} {σ0:St}
section
variable {X:Cx} {elt t1 i1 t2 i2:Expr} {f1 f2:List Expr} {scope:Scope} {pos:Pos} {N':List Str} {ix:List #[GT]} {Bt xV:List Nat} {g1 g2:TG} {Es Bu:TT} {te:TE} {Et Bv:TI}
theorem zl5 (hc:X.calm=true) (Cv:GS xV g2) (Cw:∀ s₃ H₃ ex lN,PI #[np] t2 i2 Bv)
  (xP:∀ s₃ H₃ ex lN,PG #[np] t2 g2) (Cy:∀ s₃ H₃ ex lN,zdp #[np] f2 Bu) (he:∀ s₃ H₃ ex lN,PE #[np] elt te)
  (oB:∀ s₃ H₃ ex lN x,foldedSetIterable i2 #[np].env x=pure x) :
  ∀ s₃ H₃ ex lN D,PM #[np] D xV ((fun D env=>zjb (.ListComp elt [⟨t1,i1,f1,0⟩,⟨t2,i2,f2,0⟩] scope pos) i2 1 #[M6] env) D #[np].env) #[Qf]:=by
 intro s₃ H₃ ex lN D;have h:=zpe (Y:=zQ X N' scope s₃ H₃ ex lN) (D:=D) (js:=xV) (js':=[]) (elt:=elt) (gens:=[⟨t1,i1,f1,0⟩,⟨t2,i2,f2,0⟩]) (scope:=scope) (pos:=pos) (d:=1) (p:=i2.pos) hc rfl Cv (fun _ _ z=>by cases z) (Cw s₃ H₃ ex lN) (xP s₃ H₃ ex lN) (Cy s₃ H₃ ex lN) (ziE rfl (he s₃ H₃ ex lN)) rfl (fun it=>zpf it D _) (oB s₃ H₃ ex lN);rw [bH] at h;exact h
theorem znJ (SC:IK X N' ix scope) (hc:X.calm=true) (Gk:GS Bt g1) (Cv:GS xV g2) (pP:∀ j∈Bt,j∉xV) (uo:∀ j∈Bt++xV,ix[j]? = some none) (Gm:PI X t1 i1 Et)
  (Bw:∀ s₃ H₃ ex lN,PG #[np] t1 g1) (Bx:∀ s₃ H₃ ex lN,zdp #[np] f1 Es) (Cw:∀ s₃ H₃ ex lN,PI #[np] t2 i2 Bv)
  (xP:∀ s₃ H₃ ex lN,PG #[np] t2 g2) (Cy:∀ s₃ H₃ ex lN,zdp #[np] f2 Bu) (he:∀ s₃ H₃ ex lN,PE #[np] elt te)
  (hs:∀ x,foldedSetIterable i1 X.env x=pure x:=by intro _; rfl) (oB:∀ s₃ H₃ ex lN x,foldedSetIterable i2 #[np].env x=pure x:=by intros; rfl) :
  PE X (.ListComp elt [⟨t1,i1,f1,0⟩,⟨t2,i2,f2,0⟩] scope pos) (zgh ix Et g1 Es #[Qf]) :=
 zhm SC hc Gk pP uo Gm Bw Bx #[SS] #[S0] hs
theorem zeT {i:Nat} {x:Str} {pos' qE:Pos} (hN:X.N.Nodup) (xG:X.N[i]? = some x) (hx:Loc X.env.scope x) (SC:IK X N' ix scope) (hc:X.calm=true) (Gk:GS Bt g1) (Cv:GS xV g2) (pP:∀ j∈Bt,j∉xV) (uo:∀ j∈Bt++xV,ix[j]? = some none) (Gm:PI X t1 i1 Et)
  (Bw:∀ s₃ H₃ ex lN,PG #[np] t1 g1) (Bx:∀ s₃ H₃ ex lN,zdp #[np] f1 Es) (Cw:∀ s₃ H₃ ex lN,PI #[np] t2 i2 Bv)
  (xP:∀ s₃ H₃ ex lN,PG #[np] t2 g2) (Cy:∀ s₃ H₃ ex lN,zdp #[np] f2 Bu) (he:∀ s₃ H₃ ex lN,PE #[np] elt te)
  (B':swapsWith (.ListComp elt [⟨t1,i1,f1,0⟩,⟨t2,i2,f2,0⟩] scope pos) (some #[NP]) qE.line X.env=pure true:=by rfl)
  (hs:∀ x,foldedSetIterable i1 X.env x=pure x:=by intro _; rfl) (oB:∀ s₃ H₃ ex lN x,foldedSetIterable i2 #[np].env x=pure x:=by intros; rfl) (hf:X.fn x=true\/X.env.scope.names.lookup x=some .local:=by first | exact .inl rfl | exact .inr rfl | assumption) :
  PS X (.Assign [.Name x pos'] (.ListComp elt [⟨t1,i1,f1,0⟩,⟨t2,i2,f2,0⟩] scope pos) qE) (ziu (zgh ix Et g1 Es #[Qf]) (zbb i)) :=
 zdZ hN xG hx SC hc Gk pP uo Gm Bw Bx #[SS] #[S0] B' hs hf
end
theorem zfV {n:Nat} {ts:TT} {tm:TM} {Q:List V->Hp->Prop} (Pv:Nat->List V->Hp->Prop) (h0:Pv 0 ys H) (wq:∀ i ys H,i < n->Pv i ys H->J.go i H) (qZ:∀ ys H,Pv n ys H->J.stop n H)
  (hs:∀ i x ys H H',i < n->Pv i ys H->J.yld i H x H'->g x σ0 H' fun σ2 H2=>ts σ2 H2 fun b H3=>if b=true then tm ys σ2 H3 (Pv (i+1)) else Pv (i+1) ys H3)
  (hd:∀ ys H,Pv n ys H->Q ys H):cIn g ts tm σ0 J Q ys H:=by
 refine⟨fun i m ys H=>m=n - i/\i<=n/\Pv i ys H,#[PZ],?_⟩;rintro i m ys H ⟨rfl,hi,p⟩;by_cases mh:i < n
 ·exact .inr #[NF]
 ·have e:i=n:=by lia
  subst e;exact .inl ⟨qZ ys H p,hd ys H p⟩
noncomputable def zpB (sc:Scope) (x:Str):Bool:=match sc.names.lookup x with
 | some .local=>true
 | some .cell=>true
 | some .free=>true
 | _=>false
theorem znK {x:Str} (h:zpB sc x=true):Vis sc x:=by
 unfold zpB at h;unfold Vis;cases e:sc.names.lookup x with
 | none=>rw [e] at h; cases h
 | some k=>cases k <;> simp_all
noncomputable def pvB (N:List Str) (sc:Scope) (i:Nat) (x:Str):Bool:=decide (N[i]? = some x) && zpB sc x && !(x == ("__debug__" : Str)) && !(x == ("__classdict__" : Str))
theorem pvx {X:Cx} (i:Nat) {x:Str} {pos:Pos} (h:pvB X.N X.env.scope i x=true):PE X #[QJ] (zp3 i):=by
 unfold pvB at h;simp only [fb,Bool.not_eq_true',decide_eq_true_eq] at h;exact zoV h.1.1.1 (znK h.1.1.2) h.1.2 h.2
end L2
end
section
namespace My
open PySem L2 PyProof.Rows
variable {H H':Hp} {L j k:Nat} {cl:List (Nat×List Int)} {kvs:List (List Key×V)} {lR pk:List (Int×Int)} {pl q:List Int} {qs vs:List #[GE]} {rw:List #[ww]}
noncomputable def nxt {α:Type} (xs:List α) (c:Nat×List α):List (Nat×List α):=(aN (xs.length - c.1)).map fun j=>(c.1+j+1,c.2++xs[c.1+j]?.toList)
noncomputable def chs {α:Type} (xs:List α):Nat->List (Nat×List α)
 | 0=>[(0,[])]
 | m+1=>#[O0].flatMap (nxt xs)
theorem zgA {α:Type} (xs:List α) (c:Nat×List α):(nxt xs c).length=xs.length - c.1:=by unfold nxt; rw [ab,bF]
theorem znL {α:Type} {xs:List α} {c:Nat×List α} {x:α} (h:xs[c.1+j]? = some x):(nxt xs c)[j]? = some (c.1+j+1,c.2++[x]):=by
 have hj:j < xs.length - c.1:=by
  have:=(av.mp h).1;lia
 unfold nxt;rw [aj,db hj];simp [h]
theorem zjv:∀ r:Nat,((aN r).map fun j=>2 ^ (r - j - 1)).sum+1=2 ^ r
 | 0=>rfl
 | r+1=>by
  rw [je,aM,bR,aR];have e:((aN r).map ((fun j=>2 ^ (r+1 - j - 1)) ∘ Nat.succ))=(aN r).map fun j=>2 ^ (r - j - 1):=bY fun j _=>by
   show 2 ^ (r+1 - (j+1) - 1)=2 ^ (r - j - 1);congr 1;lia
  rw [e];have:=zjv r;rw [j9];show 2 ^ (r+1 - 0 - 1)+_+1=_;rw [show r+1 - 0 - 1=r from by lia];lia
noncomputable def pot {α:Type} (n:Nat) (cs:List (Nat×List α)):Nat:=(cs.map fun c=>2 ^ (n - c.1)).sum
theorem znM {α:Type} (xs:List α) (c:Nat×List α):pot xs.length (nxt xs c)<=2 ^ (xs.length - c.1):=by
 unfold pot nxt;rw [aR];have e:((aN (xs.length - c.1)).map ((fun c:Nat×List α=>2 ^ (xs.length - c.1)) ∘ fun j=>(c.1+j+1,c.2++xs[c.1+j]?.toList)))=(aN (xs.length - c.1)).map fun j=>2 ^ (xs.length - c.1 - j - 1):=bY fun j _=>by
  show 2 ^ (xs.length - (c.1+j+1))=_;congr 1;lia
 rw [e];have:=zjv (xs.length - c.1);lia
theorem zhS {α:Type} (xs:List α):∀ cs:List (Nat×List α),pot xs.length (cs.flatMap (nxt xs))<=pot xs.length cs
 | []=>af _
 | c :: cs=>by
  have h1:=znM xs c;have h2:=zhS xs cs;rw [f6];unfold pot at h1 h2 |-;rw [am,fB,aM,bR];lia
theorem zjw {α:Type} (n:Nat):∀ cs:List (Nat×List α),cs.length<=pot n cs
 | []=>af _
 | c :: cs=>by
  have h:=zjw n cs;have:0 < 2 ^ (n - c.1):=Nat.pos_of_ne_zero #[M];unfold pot at h |-;rw [aM,bR,bu];lia
theorem zjx {α:Type} (xs:List α):∀ m,pot xs.length #[O0]<=2 ^ xs.length
 | 0=>by
  unfold chs pot;simp
 | m+1=>aV (zhS xs #[O0]) (zjx xs m)
theorem znN {α:Type} (xs:List α) (m:Nat):#[O0].length<=2 ^ xs.length:=aV (zjw _ _) (zjx xs m)
theorem zc4 {α:Type} {xs:List α} (m:Nat) (h:xs.length<=16):#[O0].length<=65536:=aV (znN xs m) (aV (fh #[D] h) #[D])
theorem zkK {α β:Type} {f:α->List β} {l:List α} {i:Nat} {c:α} (hc:l[i]? = some c) (hj:j < (f c).length):((l.take i).flatMap f).length+j < (l.flatMap f).length:=by
 have e:l.flatMap f=(l.take i).flatMap f++(f c++(l.drop (i+1)).flatMap f):=by
  conv=>lhs; rw [zeK hc]
  rw [dP,f6]
 rw [e,ap,ap];lia
theorem zkL {α β:Type} {f:α->List β} {l:List α} {i:Nat} {c:α} (hc:l[i]? = some c):(l.take (i+1)).flatMap f=(l.take i).flatMap f++f c:=by
 rw [take_snoc hc,dP,f6,List.flatMap_nil,bH]
theorem zpC {α:Type} {xs:List α}:∀ {m:Nat} {c:Nat×List α},c∈chs xs m->c.1<=xs.length
 | 0,c,h=>by
  unfold chs at h;rw [aU] at h;subst h;exact bg _
 | m+1,c,h=>by
  unfold chs at h;obtain⟨c',_,hc⟩:=dU.mp h;unfold nxt at hc;obtain⟨j,hj,rfl⟩:=aw.mp hc;have:=bJ.mp hj;show c'.1+j+1<=xs.length;lia
theorem zhT {α:Type} {xs:List α}:∀ {m:Nat} {c:Nat×List α},c∈chs xs m->c.2.length<=m
 | 0,c,h=>by
  unfold chs at h;rw [aU] at h;subst h;exact af _
 | m+1,c,h=>by
  unfold chs at h;obtain⟨c',hm,hc⟩:=dU.mp h;have:=zhT hm;unfold nxt at hc;obtain⟨j,hj,rfl⟩:=aw.mp hc;show (c'.2++xs[c'.1+j]?.toList).length<=m+1;rw [ap];have:xs[c'.1+j]?.toList.length<=1:=by cases xs[c'.1+j]? <;> simp
  lia
theorem Paired.get {α β:Type} {F:α->β->Prop}:∀ {l₁:List α} {l₂:List β},Paired F l₁ l₂->∀ {i:Nat} {a:α},l₁[i]? = some a->∃ b,l₂[i]? = some b/\F a b
 | _,_,.nil,i,a,h=>by simp at h
 | _,_,.cons r t,0,a,h=>by
  (simp only [fV,iC] at h)
  subst h;exact⟨_,rfl,r⟩
 | _,_,.cons r t,i+1,a,h=>by
  rw [cD] at h;obtain⟨b,hb,f⟩:=Paired.get t h;exact⟨b,by rw [cD]; exact hb,f⟩
noncomputable def znO (H:Hp) (t:Addr) (c:Nat×List V):Prop:=∃ L,H t=some (.tup [.int (c.1:Int),.ref L])/\H L=some (.lst c.2)
theorem znO.same (s:zr H H') {t:Addr} {c:Nat×List V} (h:znO H t c):znO H' t c:=let ⟨L,h1,h2⟩:=h; ⟨L,s _ _ h1,s _ _ h2⟩
noncomputable def zeU (H:Hp):List Addr->List (Nat×List V)->Prop:=Paired (znO H)
theorem zeU.same (s:zr H H') {ts:List Addr} {cs:List (Nat×List V)} (h:zeU H ts cs):zeU H' ts cs:=c6 (fun _ _ z=>z.same s) h
noncomputable def zhU (H:Hp):List Addr->List (List V)->Prop:=Paired fun l pk=>H l=some (.lst pk)
theorem zhU.same (s:zr H H') {ts:List Addr} {cs:List (List V)} (h:zhU H ts cs):zhU H' ts cs:=c6 #[NL] h
noncomputable def ziO (K:ah):Sp:=fun vs H Q _=>∃ (a:Addr) (m:Nat) (xs:List V),vs = [.ref a,.int (m:Int)]/\lO K H a xs/\xs.length<=16/\m<=1000 /\
 ∀ (l:Addr) (ls:List Addr) (H':Hp),H l=none->zr H H'->H' l=some #[MS]->zhU H' ls (#[O0].map (·.2))->Q #[Nv] H'
noncomputable def quo (p r:Int):List Int->List Int
 | []=>[]
 | [_]=>[]
 | _ :: d :: cs=>zp p r (d :: cs) :: quo p r (d :: cs)
theorem zjy (p r:Int):∀ (c:Int) (cs:List Int),(quo p r (c :: cs)).length=cs.length
 | _,[]=>rfl
 | _,d :: cs=>by
  show #[RD].length+1=cs.length+1;rw [zjy p r d cs]
theorem zl6 {p r x:Int}:∀ d:List Int,Cg p (zp p x d - zp p r d) ((x - r)*zp p x (quo p r d))
 | []=>Cg.of_eq (by show (0:Int) - 0=(x - r)*0; lia)
 | [c]=>by
  have h1:Cg p (zp p x [c]) (c+x*0):=zao p x c [];have h2:Cg p (zp p r [c]) (c+r*0):=zao p r c [];refine (h1.sub h2).trans (Cg.of_eq ?_);show c+x*0 - (c+r*0)=(x - r)*0;lia
 | c :: d :: cs=>by
  have h1:=zao p x c (d :: cs);have h2:=zao p r c (d :: cs);have ih:=zl6 (p:=p) (r:=r) (x:=x) (d :: cs);have h3:Cg p (zp p x (quo p r (c :: d :: cs))) (zp p r (d :: cs)+x*zp p x #[RD]):=zao p x _ _;have h4:=(Cg.refl p (x - r)).mul h3;have h5:=(Cg.refl p x).mul ih;refine (h1.sub h2).trans (Cg.symm (h4.trans ?_));refine (Cg.of_eq (show _=(x - r)*zp p r (d :: cs)+x*((x - r)*zp p x #[RD]) by grind)).trans ?_;refine ((Cg.refl p ((x - r)*zp p r (d :: cs))).add h5.symm).trans (Cg.of_eq (by grind))
theorem zhV {p r:Int}:∀ d:List Int,Cg p (zp p r d) 0->(∀ c∈quo p r d,Cg p c 0)->∀ c∈d,Cg p c 0
 | [],_,_,c,hc=>by cases hc
 | [a],h,_,c,hc=>by
  obtain rfl:c=a:=by simpa using hc
  have h1:Cg p (zp p r [c]) (c+r*0):=zao p r c [];exact (#[MQ].trans h1.symm).trans h
 | a :: d :: cs,h,hq,c,hc=>by
  have h0:Cg p (zp p r (d :: cs)) 0:=hq _ aD;rcases (aB.mp hc) with rfl | hc
  ·have h1:=zao p r c (d :: cs);have h2:=(Cg.refl p r).mul h0;have h3:=(h1.symm.trans h).sub h2;exact #[MQ].trans (h3.trans #[MQ])
  ·exact zhV (d :: cs) h0 (fun c hc=>hq c (au _ hc)) c hc
theorem zfW {p a y:Int} (hp:p∈zq) (ha0:a % p≠0) (h:Cg p (a*y) 0):Cg p y 0:=by
 have rp:=zC hp;have g0:=aO a (show p≠0 by lia);have g1:=aK a (show 0 < p by lia);have hi:=zgl hp (h:=a % p) #[O] g1;have h1:Cg p (inv p (a % p)*(a % p)*y) (1*y):=hi.mul (Cg.refl p y);have h2:Cg p (inv p (a % p)*(a % p)*y) (inv p (a % p)*(a*y)):=by
  have:=((Cg.refl p (inv p (a % p))).mul (Cg.emod p a)).mul (Cg.refl p y);exact this.trans (Cg.of_eq (by grind))
 have h3:=(Cg.refl p (inv p (a % p))).mul h;exact #[MQ].trans (h1.symm.trans (h2.trans (h3.trans #[MQ])))
theorem zeV {p:Int} (hp:p∈zq):∀ (n:Nat) (d xs:List Int),d.length=n->n<=xs.length->xs.Nodup->(∀ x∈xs,0<=x/\x < p)->(∀ x∈xs,Cg p (zp p x d) 0)->∀ c∈d,Cg p c 0
 | 0,d,xs,hd,_,_,_,_,c,hc=>by
  rw [iX] at hd;subst hd;cases hc
 | n+1,d,[],hd,hx,_,_,_,c,hc=>by simp at hx
 | n+1,[],r :: xs,hd,hx,_,_,_,c,hc=>by cases hc
 | n+1,a :: cs,r :: xs,hd,hx,oz,uh,hz,c,hc=>by
  have rp:=zC hp;obtain⟨r0,r1⟩:=uh r aD;have hr:=hz r aD;refine zhV (a :: cs) hr (zeV hp n (quo p r (a :: cs)) xs (by rw [zjy]; simpa using hd) (by simpa using hx) (c8.mp oz).2 (fun x h=>uh x (au _ h)) fun x h=>?_) c hc;obtain⟨x0,x1⟩:=uh x (au _ h);have m5:x≠r:=fun e=>(c8.mp oz).1 (e ▸ h)
  have he:=zl6 (p:=p) (r:=r) (x:=x) (a :: cs);have h0:=(hz x (au _ h)).sub hr;refine zfW hp (a:=x - r) (fun e=>?_) (he.symm.trans (h0.trans #[MQ]));have:Cg p x r:=by
   have h1:Cg p (x - r) 0:=Cg.Lo (by rw [e]; simp);have h2:=h1.add (Cg.refl p r);exact #[MQ].trans (h2.trans #[MQ])
  exact m5 (this.eq x0 x1 r0 r1)
theorem zhW {p x:Int}:∀ {a b:List Int},a.length=b.length->Cg p (zp p x (br (· - ·) a b)) (zp p x a - zp p x b)
 | [],[],_=>Cg.of_eq rfl
 | c :: a,d :: b,h=>by
  have ih:=zhW (p:=p) (x:=x) (a:=a) (b:=b) (by simpa using h);have h1:=zao p x c a;have h2:=zao p x d b;have h3:Cg p (zp p x (br (· - ·) (c :: a) (d :: b))) (c - d+x*zp p x (br (· - ·) a b)):=zao p x (c - d) _;refine h3.trans (((Cg.refl p (c - d)).add ((Cg.refl p x).mul ih)).trans (Cg.symm ((h1.sub h2).trans (Cg.of_eq (by grind)))))
 | [],_ :: _,h=>by simp at h
 | _ :: _,[],h=>by simp at h
theorem zhX {p:Int}:∀ {a b:List Int},a.length=b.length->(∀ c∈a,0<=c/\c < p)->(∀ c∈b,0<=c/\c < p)->(∀ c∈br (· - ·) a b,Cg p c 0)->a=b
 | [],[],_,_,_,_=>rfl
 | c :: a,d :: b,h,ha,hb,hz=>by
  obtain⟨c0,c1⟩:=ha c aD;obtain⟨d0,d1⟩:=hb d aD;have h1:Cg p (c - d) 0:=hz _ aD;have h2:Cg p c d:=#[MQ].trans ((h1.add (Cg.refl p d)).trans #[MQ]);rw [h2.eq c0 c1 d0 d1,zhX (by simpa using h) (fun c hc=>ha c (au _ hc)) (fun c hc=>hb c (au _ hc)) (fun c hc=>hz c (au _ hc))]
 | [],_ :: _,h,_,_,_=>by simp at h
 | _ :: _,[],h,_,_,_=>by simp at h
theorem zhY {p:Int} (hp:p∈zq) {a b xs:List Int} (hl:a.length=b.length) (hx:a.length<=xs.length) (oz:xs.Nodup) (uh:∀ x∈xs,0<=x/\x < p) (ha:∀ c∈a,0<=c/\c < p) (hb:∀ c∈b,0<=c/\c < p)
  (he:∀ x∈xs,zp p x a=zp p x b):a=b:=by
 refine zhX hl ha hb (zeV hp a.length _ xs (by rw [fw]; lia) hx oz uh fun x h=>?_);refine (zhW hl).trans (Cg.of_eq ?_);rw [he x h];lia
theorem zl7 {p:Int} (hp:p∈zq) (hP:Pts p pk) (hl:q.length=pk.length) (hq:∀ c∈q,0<=c/\c < p) (hh:∀ a∈pk,zp p a.1 q=a.2):q=thr p pk:=by
 obtain⟨h1,h2,h3⟩:=zlA hp hP;refine zhY hp (xs:=pk.map (·.1)) #[O] (by rw [ab]; lia) hP.nd #[Qt] hq h2 fun x hx=>?_
 ·obtain⟨a,ha,rfl⟩:=aw.mp hx;exact⟨(hP.rg a ha).1,(hP.rg a ha).2.1⟩
 ·obtain⟨a,ha,rfl⟩:=aw.mp hx;rw [hh a ha,h3 a ha]
theorem Pts.sub {p:Int} (h:Pts p lR) (hs:pk.Sublist lR):Pts p pk:=⟨(hs.map _).nodup h.nd,fun q hq=>h.rg q (hs.subset hq)⟩
theorem zjz {α:Type} {xs:List α}:∀ {m:Nat} {c:Nat×List α},c∈chs xs m->c.2.Sublist (xs.take c.1)/\c.2.length=m/\c.1<=xs.length
 | 0,c,h=>by
  unfold chs at h;rw [aU] at h;subst h;exact⟨gh _,rfl,bg _⟩
 | m+1,c,h=>by
  unfold chs at h;obtain⟨c',hm,hc⟩:=dU.mp h;obtain⟨h1,h2,h3⟩:=zjz hm;unfold nxt at hc;obtain⟨j,hj,rfl⟩:=aw.mp hc
  (have qj:=bJ.mp hj)
  have mh:c'.1+j < xs.length:=by lia
  have e:xs[c'.1+j]? = some xs[c'.1+j]:=ag mh;dsimp only;rw [e];refine⟨?_,by rw [ap,h2]; rfl,#[O]⟩;rw [take_snoc e];refine List.Sublist.append (h1.trans ?_) (List.Sublist.refl _);have:xs.take c'.1=(xs.take (c'.1+j)).take c'.1:=by rw [lB]; congr 1; lia
  rw [this];exact ci _ _
theorem sub_one {α:Type} {l:List α} {x:α} (h:l.Sublist [x]):l = []\/l = [x]:=by
 cases h with
 | cons _ h=>exact .inl (iN.mp h)
 | cons_cons _ h=>exact .inr (by rw [iN.mp h])
theorem zeo {α:Type} {xs:List α}:∀ {m n:Nat} {pk:List α},pk.Sublist (xs.take n)->pk.length=m->∃ s,s<=n/\(s,pk)∈chs xs m
 | 0,n,pk,h,hl=>by
  rw [iX] at hl;subst hl;exact⟨0,bg _,by unfold chs; exact aU.mpr rfl⟩
 | m+1,0,pk,h,hl=>by
  rw [c7] at h;rw [iN.mp h] at hl;simp at hl
 | m+1,n+1,pk,h,hl=>by
  cases e:xs[n]? with
  | none =>
   have:xs.take (n+1)=xs.take n:=by
    have:=List.getElem?_eq_none_iff.mp e;rw [aH #[O],aH this]
   rw [this] at h;obtain⟨s,h1,h2⟩:=zeo (m:=m+1) (n:=n) h hl;exact⟨s,#[O],h2⟩
  | some x =>
   rw [take_snoc e] at h;obtain⟨l1,l2,rfl,h1,h2⟩:=List.sublist_append_iff.mp h;rcases (sub_one h2) with rfl | rfl
   ·rw [bH] at hl |-;obtain⟨s,a1,a2⟩:=zeo (m:=m+1) (n:=n) h1 hl;exact⟨s,#[O],a2⟩
   ·obtain⟨s,a1,a2⟩:=zeo (m:=m) (n:=n) h1 (by simpa using hl);refine⟨n+1,af _,?_⟩;unfold chs;refine dU.mpr ⟨(s,l1),a2,?_⟩;have mh:=(av.mp e).1;unfold nxt;refine aw.mpr ⟨n - s,bJ.mpr (by show n - s < xs.length - s; lia),?_⟩;have es:s+(n - s)=n:=by lia
    dsimp only;rw [es,e];rfl
theorem zgB {α:Type} {xs pk:List α} {m:Nat}:pk∈#[O0].map (·.2)↔pk.Sublist xs/\pk.length=m:=by
 constructor
 ·intro h;obtain⟨c,hc,rfl⟩:=aw.mp h;obtain⟨h1,h2,h3⟩:=zjz hc;exact⟨h1.trans (ci _ _),h2⟩
 ·rintro⟨h1,h2⟩;obtain⟨s,_,hs⟩:=zeo (xs:=xs) (n:=xs.length) (by rw [bC]; exact h1) h2;exact aw.mpr ⟨_,hs,rfl⟩
noncomputable def hit (p:Int) (q:List Int) (a:Int×Int):Bool:=decide (zp p a.1 q=a.2)
noncomputable def hits (p:Int) (q:List Int) (lR:List (Int×Int)):Nat:=(lR.filter #[Sa]).length
noncomputable def IsP (p:Int) (k:Nat) (q:List Int):Prop:=q.length=k/\∀ c∈q,0<=c/\c < p
theorem zeW {p:Int} (hp:p∈zq) (hP:Pts p lR) {t n:Nat} (hq:IsP p k q) (hk:k<=t) (hn:lR.length<=n+(t - k)) (ht:t<=hits p q lR) :
  ∃ pk,pk∈(chs #[Qp] k).map (·.2)/\q=thr p pk:=by
 have Gn:hits p q lR=(#[Qp].filter #[Sa]).length+((lR.drop n).filter #[Sa]).length:=by
  unfold hits
  conv=>lhs; rw [<- bT n lR]
  rw [bW,ap]
 have hd:=b9 #[Sa] (lR.drop n);rw [cn] at hd;have vV:k<=(#[Qp].filter #[Sa]).length:=by lia
 have hs:((#[Qp].filter #[Sa]).take k).Sublist #[Qp]:=(ci _ _).trans (fz);have hl:((#[Qp].filter #[Sa]).take k).length=k:=by rw [aG]; lia
 refine⟨_,zgB.mpr ⟨hs,hl⟩,zl7 hp (hP.sub (hs.trans (ci _ _))) (by rw [hl]; exact hq.1) hq.2 fun a ha=>?_⟩;have:=(bf.mp ((ci _ _).subset ha)).2;simpa [hit] using this
theorem zjA {p:Int} (hp:p∈zq) (hP:Pts p lR) (h:pk∈(chs lR k).map (·.2)):IsP p k (thr p pk):=by
 obtain⟨h1,h2⟩:=zgB.mp h;obtain⟨a,b,_⟩:=zlA hp (hP.sub h1);exact⟨a.trans h2,b⟩
noncomputable def mS:List Int->List #[ww]->List (Int×Int)
 | x :: pl,some y :: rw=>(x,y) :: mS pl rw
 | _ :: pl,none :: rw=>mS pl rw
 | _,_=>[]
theorem zeX:∀ {pl:List Int} {rw:List #[ww]} {i:Nat} {x:Int} {o:Option Int},pl[i]? = some x->rw[i]? = some o->mS (pl.take (i+1)) (rw.take (i+1))=mS (pl.take i) (rw.take i)++(match o with | some y=>[(x,y)] | none=>[])
 | [],_,i,x,o,h,_=>by simp at h
 | _ :: _,[],i,x,o,_,h=>by simp at h
 | a :: pl,b :: rw,0,x,o,h1,h2=>by
  simp only [fV,iC] at h1 h2;subst h1 h2;cases b <;> rfl
 | a :: pl,b :: rw,i+1,x,o,h1,h2=>by
  rw [cD] at h1 h2;have ih:=zeX h1 h2;cases b with
  | none=>exact ih
  | some y =>
   show (a,y) :: mS (pl.take (i+1)) (rw.take (i+1))=(a,y) :: mS (pl.take i) (rw.take i)++_;rw [ih];rfl
theorem zb4:∀ (pl:List Int) (rw:List #[ww]),#[MY].length<=pl.length
 | [],rw=>by unfold mS; simp
 | a :: pl,[]=>by unfold mS; simp
 | a :: pl,none :: rw=>by
  have:=zb4 pl rw;show #[MY].length<=pl.length+1;lia
 | a :: pl,some y :: rw=>by
  have:=zb4 pl rw;show #[MY].length+1<=pl.length+1;lia
theorem zc5:∀ {pl:List Int} {rw:List #[ww]} {a:Int×Int},a∈mS pl rw->a.1∈pl/\some a.2∈rw
 | [],_,a,h=>by unfold mS at h; cases h
 | _ :: _,[],a,h=>by unfold mS at h; cases h
 | x :: pl,none :: rw,a,h=>by
  obtain⟨h1,h2⟩:=zc5 (pl:=pl) (rw:=rw) h;exact⟨au _ h1,au _ h2⟩
 | x :: pl,some y :: rw,a,h=>by
  rcases (aB.mp h) with rfl | h
  ·exact⟨aD,aD⟩
  ·obtain⟨h1,h2⟩:=zc5 (pl:=pl) (rw:=rw) h;exact⟨au _ h1,au _ h2⟩
theorem zgC:∀ (pl:List Int) (rw:List #[ww]),(#[MY].map (·.1)).Sublist pl
 | [],_=>by unfold mS; exact gh _
 | _ :: _,[]=>by unfold mS; exact gh _
 | x :: pl,none :: rw=>(zgC pl rw).cons _
 | x :: pl,some y :: rw=>(zgC pl rw).cons_cons _
theorem zep {p:Int} (h1:pl.Nodup) (h2:∀ x∈pl,0<=x/\x < p) (h3:∀ z,some z∈rw->0<=z/\z < p):Pts p #[MY] :=
 ⟨(zgC pl rw).nodup h1,fun q hq=>⟨(h2 _ (zc5 hq).1).1,(h2 _ (zc5 hq).1).2,(h3 _ (zc5 hq).2).1,(h3 _ (zc5 hq).2).2⟩⟩
theorem zhZ {p:Int} {pl:List Int} {rw:List #[ww]} {q:List Int} (hl:rw.length=pl.length):∀ n,n<=pl.length->(zb0 p pl rw q n).length=hits p q (mS (pl.take n) (rw.take n))
 | 0,_=>by simp [zb0,hits,mS]
 | n+1,hn=>by
  have ih:=zhZ (p:=p) (q:=q) hl n #[O];have e1:pl[n]? = some pl[n]:=ag #[O];have e2:rw[n]? = some rw[n]:=ag #[O];rw [zfR,ap,ih,zeX e1 e2];unfold hits;rw [bW,ap];congr 1;unfold zby;rw [e1,e2];cases rw[n] with
  | none=>rfl
  | some y =>
   show (if decide (y=zp p pl[n] q)=true then [(n:Int)] else []).length=([(pl[n],y)].filter #[Sa]).length;by_cases e:y=zp p pl[n] q
   ·rw [bb (by simp [hit,e])];simp [e]
   ·rw [bd (by simp [hit]; exact fun z=>e z.symm)];simp [e]
theorem zjB {p:Int} (hl:rw.length=pl.length):(zb0 p pl rw q pl.length).length=hits p q #[MY]:=by
 have:=zhZ (p:=p) (q:=q) hl pl.length (af _);rw [bC,aH #[O]] at this;exact this
noncomputable def zdC (p:Int) (k:Nat) (qs:List #[GE]):Prop:=(∀ q∈qs,IsP p k q)/\qs.Pairwise fun a b=>Srt.num p a < Srt.num p b
theorem zjC {B:Int} (hB:1<=B):∀ {a b:List Int},a.length=b.length->(∀ n∈a,0<=n/\n < B)->(∀ n∈b,0<=n/\n < B)->Srt.num B a=Srt.num B b->a=b
 | [],[],_,_,_,_=>rfl
 | c :: a,d :: b,h,ha,hb,e=>by
  have h':a.length=b.length:=by simpa using h
  have ra:=Srt.Kg hB (ns:=a) fun n hn=>ha n (au _ hn)
  have rb:=Srt.Kg hB (ns:=b) fun n hn=>hb n (au _ hn)
  have e':c*B ^ a.length+Srt.num B a=d*B ^ b.length+Srt.num B b:=e;rw [<- h'] at e' rb;generalize B ^ a.length=M at e' ra rb;have hM:0 < M:=by lia
  have tf:c=d:=by
   have e2:(c - d)*M=Srt.num B b - Srt.num B a:=by
    rw [Int.sub_mul];lia
   rcases (ku c d) with mh | heq | hgt
   ·have:(c - d)*M<=(-1)*M:=cS #[O] #[O];lia
   ·exact heq
   ·have:1*M<=(c - d)*M:=cS #[O] #[O];lia
  subst tf;rw [zjC hB h' (fun n hn=>ha n (au _ hn)) (fun n hn=>hb n (au _ hn)) #[O]]
 | [],_ :: _,h,_,_,_=>by simp at h
 | _ :: _,[],h,_,_,_=>by simp at h
theorem zjD {p:Int} (hp:1<=p) (h1:∀ q∈qs,IsP p k q) (h2:qs.Nodup) (h3:qs.Pairwise fun a b=>Srt.num p a<=Srt.num p b):zdC p k qs:=by
 refine⟨h1,?_⟩;have h4:=h3.and h2;refine dF (fun {a b} ha hb h=>?_) h4;have m5:Srt.num p a≠Srt.num p b:=fun e=>h.2 (zjC hp ((h1 a ha).1.trans (h1 b hb).1.symm) (h1 a ha).2 (h1 b hb).2 e)
 have:=h.1;lia
theorem zdC.tail {p:Int} (h:zdC p k (q :: qs)):zdC p k qs:=⟨fun x hx=>h.1 x #[QT],(cZ.mp h.2).2⟩
theorem zjE {p:Int} {k:Nat}:∀ {as bs:List #[GE]},zdC p k as->zdC p k bs->(∀ q,q∈as↔q∈bs)->as=bs
 | [],[],_,_,_=>rfl
 | [],b :: bs,_,_,h=>by
  have:=(h b).mpr aD;cases this
 | a :: as,[],_,_,h=>by
  have:=(h a).mp aD;cases this
 | a :: as,b :: bs,ha,hb,h=>by
  have pa:=(cZ.mp ha.2).1;have pb:=(cZ.mp hb.2).1;have e:a=b:=by
   rcases (aB.mp ((h a).mp aD)) with e | ma
   ·exact e
   ·rcases (aB.mp ((h b).mpr aD)) with e | mb
    ·exact e.symm
    ·have:=pb a ma;have:=pa b mb;lia
  subst e;rw [zjE ha.tail hb.tail fun q=>?_];have hq:=h q;rw [aB,aB] at hq;constructor
  ·intro m;rcases (hq.mp (.inr m)) with rfl | z
   ·exact absurd (pa q m) #[O]
   ·exact z
  ·intro m;rcases (hq.mpr (.inr m)) with rfl | z
   ·exact absurd (pb q m) #[O]
   ·exact z
theorem zdC.filter {p:Int} (f:List Int->Bool) (h:zdC p k qs):zdC p k (qs.filter f):=⟨fun q hq=>h.1 q (bf.mp hq).1,h.2.filter f⟩
noncomputable def sm:Nat->(Nat->Int)->Int
 | 0,_=>0
 | n+1,f=>sm n f+f n
theorem zco {f g:Nat->Int}:∀ {n:Nat},(∀ i,i < n->f i=g i)->sm n f=sm n g
 | 0,_=>rfl
 | n+1,h=>by
  show sm n f+f n=sm n g+g n;rw [zco (n:=n) fun i hi=>h i #[O],h n #[O]]
theorem zl8 {p:Int} {f g:Nat->Int}:∀ {n:Nat},(∀ i,i < n->Cg p (f i) (g i))->Cg p (sm n f) (sm n g)
 | 0,_=>Cg.refl _ _
 | n+1,h=>(zl8 (n:=n) fun i hi=>h i #[O]).add (h n #[O])
theorem zl9 {f g:Nat->Int}:∀ n:Nat,sm n (fun i=>f i+g i)=sm n f+sm n g
 | 0=>rfl
 | n+1=>by
  show sm n (fun i=>f i+g i)+(f n+g n)=sm n f+f n+(sm n g+g n);rw [zl9 n];lia
theorem zma {c:Int} {f:Nat->Int}:∀ n:Nat,sm n (fun i=>c*f i)=c*sm n f
 | 0=>by show (0:Int)=c*0; lia
 | n+1=>by
  show sm n (fun i=>c*f i)+c*f n=c*(sm n f+f n);rw [zma n,Int.mul_add]
theorem zeq {f:Nat->Int}:∀ {n:Nat},(∀ i,i < n->f i=0)->sm n f=0
 | 0,_=>rfl
 | n+1,h=>by
  show sm n f+f n=0;rw [zeq (n:=n) fun i hi=>h i #[O],h n #[O]];rfl
theorem zmb {f:Nat->Int} {j:Nat}:∀ {n:Nat},j < n->(∀ i,i < n->i≠j->f i=0)->sm n f=f j
 | 0,hj,_=>by lia
 | n+1,hj,h=>by
  show sm n f+f n=f j;by_cases e:j=n
  ·subst e;rw [zeq fun i hi=>h i #[O] #[O]];lia
  ·rw [zmb (n:=n) #[O] fun i hi m5=>h i #[O] m5,h n #[O] #[O]];lia
theorem zjF {f:Nat->Int}:∀ n:Nat,sm (n+1) f=f 0+sm n (fun i=>f (i+1))
 | 0=>by show (0:Int)+f 0=f 0+0; lia
 | n+1=>by
  show sm (n+1) f+f (n+1)=f 0+(sm n (fun i=>f (i+1))+f (n+1));rw [zjF n];lia
theorem zgD {f:Nat->Int} {m:Nat}:∀ {n:Nat},m<=n->(∀ i,m<=i->i < n->f i=0)->sm n f=sm m f
 | 0,h,_=>by rw [show m=0 by lia]
 | n+1,h,hz=>by
  by_cases e:m=n+1
  ·rw [e]
  ·show sm n f+f n=_;rw [zgD (n:=n) #[O] fun i h1 h2=>hz i h1 #[O],hz n #[O] #[O]];lia
noncomputable def gl (w:List Int) (y:Nat):Int:=w.getD y 0
theorem zdh {w:List Int} {y:Nat} {c:Int} (h:w[y]? = some c):gl w y=c:=by
 unfold gl;rw [aZ,h];rfl
theorem ziP {w:List Int} {y:Nat} (h:w.length<=y):gl w y=0:=by
 unfold gl;rw [aZ,bX h];rfl
theorem zbO {w:List Int} {y:Nat} (h:y < w.length):w[y]? = some (gl w y):=by
 rw [ag h,zdh (ag h)]
theorem ziQ {w:List Int} {p:Int} (hp:0 < p) (h:∀ c∈w,0<=c/\c < p) (y:Nat):0<=gl w y/\gl w y < p:=by
 by_cases hy:y < w.length
 ·exact h _ (aA (zbO hy))
 ·rw [ziP #[O]];lia
theorem zpD {f:Int->Int} {w:List Int} {y:Nat} (h:y < w.length):gl (w.map f) y=f (gl w y):=zdh (by rw [aj,zbO h]; rfl)
theorem zmc {f:Int->Int->Int} {v w:List Int} {y:Nat} (h:y < v.length) (h':y < w.length):gl (br f v w) y=f (gl v y) (gl w y):=zdh (by rw [jl,zbO h,zbO h'])
theorem zmd {v w:List Int} (hl:v.length=w.length) (h:∀ y,y < v.length->gl v y=gl w y):v=w:=by
 refine ee fun y=>?_
 by_cases hy:y < v.length
 ·rw [zbO hy,zbO #[O],h y hy]
 ·rw [bX #[O],bX #[O]]
noncomputable def vx (vs:List #[GE]) (i x:Nat):Int:=gl (vs.getD i []) x
noncomputable def Rel (p:Int) (L N:Nat) (vs:List #[GE]) (u:Nat->Int):Prop:=∀ x,x < L->Cg p (u x) (sm N fun i=>u (L+i)*vx vs i x)
theorem Rel.sub {p:Int} {N:Nat} {u w r:Nat->Int} (hu:Rel p L N vs u) (hw:Rel p L N vs w) (t:Int) (hr:∀ y,y < L+N->Cg p (r y) (u y - t*w y)):Rel p L N vs r:=fun x hx=>by
 refine (hr x #[O]).trans (((hu x hx).sub ((Cg.refl p t).mul (hw x hx))).trans ?_);have e:sm N (fun i=>u (L+i)*vx vs i x) - t*sm N (fun i=>w (L+i)*vx vs i x)=sm N (fun i=>(u (L+i) - t*w (L+i))*vx vs i x):=by
  rw [show ∀ a b:Int,a - t*b=a+(-t)*b by intros; grind,<- zma,<- zl9];exact zco fun i _=>by grind
 rw [e];exact zl8 fun i hi=>(hr (L+i) #[O]).symm.mul (Cg.refl _ _)
structure Ech (p:Int) (L N m:Nat) (vs:List #[GE]) (cl:List (Nat×List Int)):Prop where
 ln:cl.length=m
 one:∀ (j:Nat) (a:Nat×List Int),cl[j]? = some a->a.1 < L/\a.2.length=L+N/\(∀ c∈a.2,0<=c/\c < p)/\Rel p L N vs (gl a.2)/\gl a.2 a.1=1/\∀ i,j < i->i < N->gl a.2 (L+i)=0
 up:∀ (j j':Nat) (a a':Nat×List Int),cl[j]? = some a->cl[j']? = some a'->j < j'->gl a'.2 a.1=0
 ii:∀ u:Nat->Int,Rel p L N vs u->(∀ i,m<=i->i < N->Cg p (u (L+i)) 0)->(∀ a∈cl,Cg p (u a.1) 0)->∀ i,i < N->Cg p (u (L+i)) 0
theorem Ech.start (p:Int) (L N:Nat) (vs:List #[GE]):Ech p L N 0 vs [] where
 ln:=rfl
 one:=fun _ _ h=>by simp at h
 up:=fun _ _ _ _ h=>by simp at h
 ii:=fun u _ h _ i hi=>h i (bg _) hi
structure Wh (p:Int) (L N m:Nat) (vs:List #[GE]) (cl:List (Nat×List Int)) (w:List Int):Prop where
 ln:w.length=L+N
 rg:∀ c∈w,0<=c/\c < p
 rel:Rel p L N vs (gl w)
 top:gl w (L+m)=1
 up:∀ j,m < j->j < N->gl w (L+j)=0
 z:∀ a∈cl,gl w a.1=0
theorem zh0 {p:Int} (hp:p∈zq) {N m:Nat} {v:List Int} (hm:m < N) (hv:vs[m]? = some v) (hl:v.length=L) (hr:∀ c∈v,0<=c/\c < p):Wh p L N m vs [] ((v++aJ N 0).set (L+m) 1):=by
 have rp:=zC hp;have vB:∀ y,y < L->gl ((v++aJ N 0).set (L+m) 1) y=gl v y:=fun y hy=>zdh (by
  rw [eg #[O],bL #[O],zbO #[O]])
 have oW:gl ((v++aJ N 0).set (L+m) 1) (L+m)=1:=zdh (by
  rw [f9 (by rw [ap,cB]; lia)])
 have hz:∀ j,j < N->j≠m->gl ((v++aJ N 0).set (L+m) 1) (L+j)=0:=fun j hj m5=>zdh (by
  rw [eg #[O],cr #[O],fU];rw [if_pos #[O]])
 refine⟨by rw [i3,ap,cB,hl],fun c hc=>?_,fun x hx=>?_,oW,fun j h1 h2=>hz j h2 #[O],fun a ha=>by cases ha⟩
 ·rcases List.mem_or_eq_of_mem_set hc with h | rfl
  ·rcases (aP.mp h) with h | h
   ·exact hr c h
   ·rw [iO h]; lia
  ·lia
 ·rw [vB x hx,zmb (j:=m) hm fun i hi m5=>by rw [hz i hi m5,fL],oW,kG];unfold vx;rw [aZ,hv];exact Cg.refl _ _
theorem zjG {p:Int} (hp:p∈zq) {N m i:Nat} {w:List Int} {a:Nat×List Int} (E:Ech p L N m vs cl) (hm:m < N) (ha:cl[i]? = some a) (W:Wh p L N m vs (cl.take i) w) :
  Wh p L N m vs (cl.take (i+1)) (br (fun x y=>(x - gl w a.1*y) % p) w a.2):=by
 have rp:=zC hp;obtain⟨a1,a2,a3,a4,a5,a6⟩:=E.one i a ha;have Cz:i < m:=by rw [<- E.ln]; exact (av.mp ha).1
 have hg:∀ y,y < L+N->gl (br (fun x y=>(x - gl w a.1*y) % p) w a.2) y=(gl w y - gl w a.1*gl a.2 y) % p:=fun y hy=>zmc (by rw [W.ln]; exact hy) #[O]
 refine⟨by rw [fw,W.ln,a2,Nat.min_self],fun c hc=>?_,W.rel.sub a4 (gl w a.1) fun y hy=>by rw [hg y hy]; exact Cg.emod _ _,?_,fun j h1 h2=>?_,fun b hb=>?_⟩
 ·obtain⟨x,y,rfl⟩:=zeE hc;exact⟨aO _ #[O],aK _ #[O]⟩
 ·rw [hg _ #[O],W.top,a6 m Cz hm,fH,ka];exact cJ #[O] #[O]
 ·rw [hg _ #[O],W.up j h1 h2,a6 j #[O] h2,fH];rfl
 ·rw [take_snoc ha] at hb;rcases (aP.mp hb) with hb | hb
  ·obtain⟨j,hj⟩:=fj hb;have CA:j < i:=by
    have:=(av.mp hj).1;rw [aG] at this;lia
   have qj:cl[j]? = some b:=by rw [b7 CA] at hj; exact hj
   have rQ:=(E.one j b qj).1;rw [hg _ #[O],W.z b hb,E.up j i b a qj ha CA,fH];rfl
  ·obtain rfl:b=a:=by simpa using hb
   rw [hg _ #[O],a5,Int.mul_one,Int.sub_self];rfl
theorem zh1 {p:Int} (hp:p∈zq) {N m:Nat} {w:List Int} {ld:Nat} (E:Ech p L N m vs cl) (hm:m < N) (W:Wh p L N m vs cl w) (CB:ld < L) (h0:gl w ld≠0) :
  Ech p L N (m+1) vs (cl++[(ld,w.map fun x=>x*inv p #[Pw] % p)]):=by
 have rp:=zC hp;obtain⟨g0,g1⟩:=ziQ (show 0 < p by lia) W.rg ld;have hi:=zgl hp (h:=gl w ld) #[O] g1;have hg:∀ y,y < L+N->gl (w.map fun x=>x*inv p #[Pw] % p) y=gl w y*inv p #[Pw] % p:=fun y hy=>zpD (f:=fun x=>x*inv p #[Pw] % p) (by rw [W.ln]; exact hy)
 have nH:∀ j a,(cl++[(ld,w.map fun x=>x*inv p #[Pw] % p)])[j]? = some a->(j < m/\cl[j]? = some a)\/(j=m/\a=(ld,w.map fun x=>x*inv p #[Pw] % p)):=fun j a h=>by
  by_cases hj:j < m
  ·rw [bL (by rw [E.ln]; exact hj)] at h;exact .inl ⟨hj,h⟩
  ·rw [cr (by rw [E.ln]; lia),E.ln] at h;have uA:j - m=0:=by
    have:=(av.mp h).1;simp at this;lia
   rw [uA] at h;exact .inr ⟨#[O],(by simpa using h.symm)⟩
 refine⟨by rw [ap,E.ln]; rfl,fun j a h=>?_,fun j j' a a' h h' mh=>?_,fun u hu hup hz i nY=>?_⟩
 ·rcases nH j a h with ⟨_,h⟩ | ⟨rfl,rfl⟩
  ·exact E.one j a h
  ·refine⟨CB,by rw [ab,W.ln],fun c hc=>?_,?_,?_,fun i h1 h2=>?_⟩
   ·obtain⟨x,_,rfl⟩:=aw.mp hc;exact⟨aO _ #[O],aK _ #[O]⟩
   ·refine Rel.sub (u:=fun _=>0) (fun x _=>Cg.of_eq (zeq fun i _=>fL _).symm) W.rel (-inv p #[Pw]) fun y hy=>?_
    rw [hg y hy];exact (Cg.emod _ _).trans (Cg.of_eq (by grind))
   ·rw [hg ld #[O]];have h2:Cg p (gl w ld*inv p #[Pw]) 1:=(Cg.of_eq (eX _ _)).trans hi;rw [h2.mod_eq];exact cJ #[O] #[O]
   ·rw [hg _ #[O],W.up i h1 h2,fL];rfl
 ·rcases nH j' a' h' with ⟨qj,h'⟩ | ⟨rfl,rfl⟩
  ·rcases nH j a h with ⟨_,h⟩ | ⟨rfl,_⟩
   ·exact E.up j j' a a' h h' mh
   ·lia
  ·rcases nH j a h with ⟨_,h⟩ | ⟨rfl,_⟩
   ·have:=(E.one j a h).1;rw [hg _ #[O],W.z a (aA h),fL];rfl
   ·lia
 ·have hru:Rel p L N vs (fun y=>u y - u (L+m)*gl w y):=hu.sub W.rel (u (L+m)) fun y _=>Cg.refl _ _
  have ng:=E.ii (fun y=>u y - u (L+m)*gl w y) hru (fun i h1 h2=>by
   by_cases e:i=m
   ·subst e;show Cg p (u (L+i) - u (L+i)*gl w (L+i)) 0;rw [W.top];exact Cg.of_eq #[O]
   ·show Cg p (u (L+i) - u (L+m)*gl w (L+i)) 0;rw [W.up i #[O] h2,fH,ka];exact hup i #[O] h2) (fun a ha=>by
   show Cg p (u a.1 - u (L+m)*gl w a.1) 0;rw [W.z a ha,fH,ka];exact hz a (aL _ ha))
  have CC:Cg p (u ld - u (L+m)*gl w ld) 0:=(hru ld CB).trans ((zl8 (g:=fun _=>0) fun i hi=>((ng i hi).mul (Cg.refl _ _)).trans (Cg.of_eq (fL _))).trans (Cg.of_eq (zeq fun _ _=>rfl)));have rm:=hz (ld,_) (aI _ (aU.mpr rfl));have hc:Cg p (gl w ld*u (L+m)) 0:=by
   have:=rm.sub CC;exact (Cg.of_eq (by show gl w ld*u (L+m)=u ld - (u ld - u (L+m)*gl w ld); grind)).trans (this.trans #[MQ])
  have AE:Cg p (u (L+m)) 0:=zfW hp (by rw [cJ g0 g1]; exact h0) hc;have:=ng i nY;have h3:=this.add (AE.mul (Cg.refl p (gl w (L+i))));exact (Cg.of_eq (by show u (L+i)=u (L+i) - u (L+m)*gl w (L+i)+u (L+m)*gl w (L+i); lia)).trans (h3.trans #[MQ])
noncomputable def Indep (p:Int) (L:Nat) (vs:List #[GE]):Prop:=∀ u:Nat->Int,(∀ x,x < L->Cg p (sm vs.length fun i=>u i*vx vs i x) 0)->∀ i,i < vs.length->Cg p (u i) 0
noncomputable def Dep (p:Int) (L:Nat) (vs:List #[GE]) (c:List Int):Prop:=∀ x,x < L->Cg p (sm vs.length fun i=>gl c i*vx vs i x) 0
theorem zme {p:Int} (E:Ech p L vs.length vs.length vs cl):Indep p L vs:=fun u hu i hi=>by
 have h:=E.ii (fun y=>if y < L then sm vs.length (fun i=>u i*vx vs i y) else u (y - L)) #[Qt] (fun i h1 h2=>by lia) (fun a ha=>?_) i hi
 ·rw [if_neg #[O],dN] at h;exact h
 ·dsimp only;rw [if_pos hx];refine Cg.of_eq (zco fun i _=>?_);rw [if_neg #[O],dN]
 ·obtain⟨j,hj⟩:=fj ha;have:=(E.one j a hj).1;rw [if_pos this];exact hu _ this
theorem zmf {p:Int} {m:Nat} {w:List Int} (W:Wh p L vs.length m vs cl w) (hm:m < vs.length) (hz:∀ x,x < L->gl w x=0) :
  IsP p (m+1) (#[Sw].take (m+1))/\gl (#[Sw].take (m+1)) m=1/\Dep p L vs (#[Sw].take (m+1)):=by
 have hg:∀ i,i<=m->gl (#[Sw].take (m+1)) i=gl w (L+i):=fun i hi=>zdh (by
  rw [b7 #[O],eJ];exact zbO (by rw [W.ln]; lia))
 have hl:(#[Sw].take (m+1)).length=m+1:=by
  rw [aG,cn,W.ln];lia
 refine⟨⟨hl,fun c hc=>W.rg c (gw (gB hc))⟩,by rw [hg m (af _)]; exact W.top,fun x hx=>?_⟩;have h:=W.rel x hx;rw [hz x hx] at h;refine Cg.trans (Cg.of_eq (zco fun i hi=>?_)) h.symm;by_cases e:i<=m
 ·rw [hg i e]
 ·rw [W.up i #[O] hi,ziP #[O]]
theorem znP {α β:Type} (f:α->β) (xs:List α) (c:Nat×List α):nxt #[Sv] (c.1,c.2.map f)=(nxt xs c).map fun d=>(d.1,d.2.map f):=by
 unfold nxt;rw [aR,ab];refine bY fun j _=>?_
 show (c.1+j+1,c.2.map f++#[Sv][c.1+j]?.toList)=(c.1+j+1,(c.2++xs[c.1+j]?.toList).map f);rw [aj,am];cases xs[c.1+j]? <;> rfl
theorem zjH {α β:Type} (f:α->β) (xs:List α):∀ m,chs #[Sv] m=#[O0].map fun d=>(d.1,d.2.map f)
 | 0=>rfl
 | m+1=>by
  show (chs #[Sv] m).flatMap (nxt #[Sv])=(#[O0].flatMap (nxt xs)).map _;rw [zjH f xs m,kU,List.flatMap_map];congr 1;funext c;exact znP f xs c
theorem zfX {α β:Type} (f:α->β) (xs:List α) (m:Nat):(chs #[Sv] m).map (·.2)=(#[O0].map (·.2)).map (·.map f):=by
 rw [zjH,aR,aR];rfl
noncomputable def PtB (H:Hp):List Addr->List (Int×Int)->Prop:=Paired fun b q=>H b=some (.tup [.int q.1,.int q.2])
theorem PtB.same (s:zr H H') {bs:List Addr} (h:PtB H bs lR):PtB H' bs lR:=c6 #[NL] h
theorem PtB.zs {H:Hp}:∀ {bs:List Addr} {lR:List (Int×Int)},PtB H bs lR->∃ zs:List (Addr×Int×Int),bs=zs.map (·.1)/\lR=zs.map (·.2)/\∀ z∈zs,H z.1=some (.tup [.int z.2.1,.int z.2.2])
 | _,_,.nil=>⟨[],rfl,rfl,#[M]⟩
 | _,_,.cons (a:=b) (b:=q) r t=>by
  obtain⟨zs,h1,h2,h3⟩:=PtB.zs t;refine⟨(b,q) :: zs,by rw [h1]; rfl,by rw [h2]; rfl,fun z hz=>?_⟩;rcases (aB.mp hz) with rfl | hz
  ·exact r
  ·exact h3 z hz
theorem PtB.take {bs:List Addr} (h:PtB H bs lR) (n:Nat):PtB H (bs.take n) #[Qp]:=by
 induction h generalizing n with
 | nil=>rw [gc,gc]; exact .nil
 | cons r t ih =>
  cases n with
  | zero=>exact .nil
  | succ n=>exact .cons r (ih n)
noncomputable def zbU (H:Hp):List Addr->List #[GE]->Prop:=Paired fun r q=>H r=some (.tup #[PQ])
theorem zbU.same (s:zr H H') {rs:List Addr} (h:zbU H rs qs):zbU H' rs qs:=c6 #[NL] h
theorem zbU.of {H:Hp}:∀ {ps:List (Addr×List Int)},(∀ q∈ps,H q.1=some (.tup (q.2.map V.int)))->zbU H (ps.map (·.1)) (ps.map (·.2))
 | [],_=>.nil
 | a :: ps,h=>.cons (h a aD) (zbU.of fun q hq=>h q (au _ hq))
theorem zmg {κ:Type} [DecidableEq κ] (kvs:List (κ×V)) (k:κ) (v:V):#[Nr].map (·.1)=if k∈kvs.map (·.1) then kvs.map (·.1) else kvs.map (·.1)++[k]:=by
 unfold putK;by_cases h:(kvs.any fun kv=>decide (kv.1=k))=true
 ·rw [if_pos h];obtain⟨kv,h1,h2⟩:=cH.mp h;have h2:kv.1=k:=by simpa using h2
  rw [if_pos (by rw [<- h2]; exact dO h1),aR];refine bY fun a _=>?_
  show (if a.1=k then (a.1,v) else a).1=a.1;split <;> rfl
 ·rw [if_neg h];rw [if_neg (fun hm=>h ?_),am]
  ·rfl
  ·obtain⟨kv,h1,h2⟩:=aw.mp hm;exact cH.mpr ⟨kv,h1,by simpa using h2⟩
theorem zgE {a b:List Int} (h:(a.map bI:List Key)=b.map bI):a=b:=by
 induction a generalizing b with
 | nil=>cases b with
  | nil=>rfl
  | cons _ _=>simp at h
 | cons x a ih=>cases b with
  | nil=>simp at h
  | cons y b =>
   rw [aM,aM] at h;obtain⟨h1,h2⟩:=jM h;rw [f8 h1,ih h2]
noncomputable def KeysAre (kvs:List (List Key×V)) (mM:List #[GE]):Prop:=kvs.map (·.1)=mM.map (·.map bI)
theorem zh2 {mM:List #[GE]} (h:KeysAre kvs mM) (hn:mM.Nodup) (q:List Int) (v:V):∃ tM,KeysAre (putK kvs (q.map bI) v) tM/\tM.Nodup/\tM.length<=mM.length+1/\∀ x,x∈tM↔x∈mM\/x=q:=by
 unfold KeysAre at h |-;rw [zmg,h];have hm:(q.map bI:List Key)∈mM.map (·.map bI)↔q∈mM:=by
  constructor
  ·intro hm;obtain⟨x,hx,e⟩:=aw.mp hm;rw [<- zgE e];exact hx
  ·intro hm;exact dO hm
 by_cases hq:q∈mM
 ·refine⟨mM,by rw [if_pos (hm.mpr hq)],hn,#[O],fun x=>⟨.inl,fun z=>z.elim id fun e=>e ▸ hq⟩⟩
 ·refine⟨mM++[q],by rw [if_neg fun z=>hq (hm.mp z),am]; rfl,?_,by rw [ap]; exact af _,fun x=>by rw [aP,aU]⟩;rw [ck];exact⟨hn,#[M],fun a ha b hb e=>hq (by rw [<- aU.mp hb,<- e]; exact ha)⟩
noncomputable def znQ (K:ah):Sp:=fun vs H Q _=>∃ (c tt r:Addr) (p k:Int) (pl:List Int) (rw:List #[ww]),vs = [.ref c,.ref r]/\zaY H c tt p k pl/\LZ K H r pl.length rw/\pl.length<=1000 /\
 ∀ (l:Addr) (bs:List Addr) (H':Hp),H l=none->zr H H'->H' l=some #[At]->PtB H' bs #[MY]->Q #[Nv] H'
noncomputable def zeY (K:ah):Sp:=fun vs H Q _=>∃ (c tt a:Addr) (p:Int) (k:Nat) (pl:List Int) (bs:List Addr) (lR:List (Int×Int)),vs = [.ref c,.ref a]/\zaY H c tt p k pl/\lO K H a #[Of]/\PtB H bs lR/\lR.length<=16/\p∈zq/\Pts p lR/\1<=k/\k<=100 /\
 ∀ (l:Addr) (rs:List Addr) (qs:List #[GE]) (H':Hp),H l=none->zr H H'->H' l=some (.lst #[Oc])->zbU H' rs qs->qs.length<=65536->zdC p k qs->(∀ q,q∈qs↔∃ pk∈(chs lR k).map (·.2),q=thr p pk)->Q #[Nv] H'
theorem zbe {α β:Type} {F:α->β->Prop}:∀ {a:List α} {b:List β} {c:List α} {d:List β},Paired F a b->Paired F c d->Paired F (a++c) (b++d)
 | _,_,_,_,.nil,h=>h
 | _,_,_,_,.cons r t,h=>.cons r (zbe t h)
end My
end
section
namespace L2
open PySem PySem.Spec PyProof.Rows
variable {H:Hp} {P:Program} {X:Cx} {h:Heap} {kvs:List (List Key×V)} {lN:List (Addr×Obj)} {s:Shared} {tg:Expr} {w:World}
noncomputable def Itd (d:Addr) (o:Obj) (kvs:List (List Key×V)):It :=
 ⟨fun i H=>H d=some #[NI]/\i < kvs.length,fun i H x H'=>H'=H/\∃ a k,x = .ref a/\(kvs.map (·.1))[i]? = some k/\H a=some #[Nm],fun i H=>H d=some #[NI]/\kvs.length<=i⟩
theorem zmh {d:Addr} {o:Obj} {es:Array DictEntry} {ep:Nat} (hd:o.data = .dict es ep) (x:zax P w H h d #[NI]) :
  zd7 h d es ep/\es.size=kvs.length/\∀ (i:Nat) (e:DictEntry),es[i]? = some e->∃ a k,e.key = .ref a/\(kvs.map (·.1))[i]? = some k/\H a=some #[Nm]:=by
 obtain⟨ho,_,_,xs,hp,o',vT,Eb,rY,hx,he,uq,oz⟩:=x;have e1:o'=o:=by rw [ho] at rY; exact (aS rY).symm
 subst e1;rw [he] at hd;cases hd;have hl:es.toList.length=kvs.length:=by rw [uq,ab]; exact (bq hp).symm
 refine⟨⟨o',ho,hx,he⟩,by simpa using hl,fun i e h=>?_⟩;have h':es.toList[i]? = some e:=by rw [be]; exact h
 rw [uq,aj] at h';cases xG:xs[i]? with
 | none=>rw [xG] at h'; cases h'
 | some x =>
  rw [xG] at h';have Ai:e=entryOfKey #[ND] x:=(aS h').symm;have key:∀ {kvs:List (List Key×V)} {xs:List (List Key×Addr×Value)},Paired (fun (p:List Key×V) (q:List Key×Addr×Value)=>p.1=q.1/\H q.2.1=some (.tup (p.1.map kV))/\RelV p.2 q.2.2) kvs xs->∀ (i:Nat) x,xs[i]? = some x->∃ p,kvs[i]? = some p/\H x.2.1=some (.tup (p.1.map kV)):=by
   intro kvs xs hp;induction hp with
   | nil=>intro i x h; simp at h
   | cons h1 _ ih =>
    intro i x h;cases i with
    | zero =>
     (simp only [fV,iC] at h)
     subst h;exact⟨_,rfl,h1.2.1⟩
    | succ i =>
     rw [cD] at h;obtain⟨p,hp,hh⟩:=ih i x h;exact⟨p,by rw [cD]; exact hp,hh⟩
  obtain⟨p,pD,hh⟩:=key hp i x xG;exact⟨x.2.1,p.1,by rw [Ai]; rfl,by rw [aj,pD]; rfl,hh⟩
theorem znR {K:ah} (d it:Addr) (o:Obj) (kvs:List (List Key×V)) (es:Array DictEntry) (ep:Nat) (hd:o.data = .dict es ep):Turn P w K tg (Itd d o kvs) [it] it (fun i h=>h.IsKeyIter it d i es.size ep) where
 mem:=by simp
 obj:=fun i h st b hb=>by
  have e:b=it:=by simpa using hb
  subst e;obtain⟨o,e,c,d⟩:=st;exact⟨o,e,fun v z=>by rw [d] at z; cases z⟩
 keep:=fun i h h' st k=>st.at fun o e=>k it #[M] o e
 item:=by
  intro X hP hw hK hc i lN s σ H E I hf st hg;subst hP hw hK;obtain⟨hq,hi⟩:=hg;obtain⟨wI,hsz,qI⟩:=zmh hd (I.hok d _ hq);have nY:i < es.size:=by lia
  obtain⟨a,k,he,hk,ha⟩:=qI i es[i] (getElem?_pos es i nY);obtain⟨f0,f1,f2,f3,f4,f5⟩:=hf it #[M];refine zhR st wI (getElem?_pos es i nY) fun h' lS sb=>?_
  have I1:Inv X lN σ H { s with heap:=h' }:=I.turned (t':=s.toks) (fun b o hb e=>(sb.2 b hb).trans e) f0 f1 f3 f4 f5;obtain⟨o,e,c,d⟩:=id lS;exact⟨_,rfl,zfy (s:={ s with heap:=h' }) e c d #[D] ⟨.ref a,H,I1,by rw [he]; rfl,⟨rfl,a,k,rfl,hk,ha⟩,lS,fun b hb=>(hf b hb).1⟩⟩
 done:=by
  intro X hP hw hK hc i lN s σ H E I hf st hg;subst hP hw hK;obtain⟨hq,hi⟩:=hg;obtain⟨wI,hsz,qI⟩:=zmh hd (I.hok d _ hq);obtain⟨f0,f1,f2,f3,f4,f5⟩:=hf it #[M];exact zju #[Na] st wI #[O] fun h' eb=>#[sK]
 self:=fun _ _ _ _ _ st h=>jE st h
theorem Inv.MM {σ:St} {d:Addr} {o:Obj} (I:Inv X lN σ H s) (hd:H d=some #[OM]) (ho:s.heap.get? d=some o):Inv X lN σ (lP H d #[NI]) s:=by
 have ne:∀ b u,H b=some u->(∀ k,u≠.dT k)->b≠d:=fun b u e n z=>by subst z; rw [hd] at e; exact n kvs (aS e).symm
 have nn:∀ b,H b=none->b≠d:=fun b e z=>by subst z; rw [hd] at e; cases e
 have up:∀ b,H b=none->lP H d #[NI] b=none:=fun b e=>by rw [zn (nn b e)]; exact e
 refine⟨I.ok,I.os,I.bare,⟨I.base.keep,I.base.slot,fun b u e n hx=>up b (I.base.free b u e n hx),I.base.there,fun b xs e=>?_,fun b u xs e=>?_,fun b ps e=>?_⟩,I.loc,I.cell,up _ I.free,fun x c e=>up _ (I.JZ x c e),fun p pD=>?_,fun b u e=>?_,I.len⟩
 ·have:=I.base.La b xs e;rw [zn (ne b _ this fun k z=>by cases z)];exact this
 ·have:=I.base.LD b u xs e;rw [zn (ne b _ this fun k z=>by cases z)];exact this
 ·obtain⟨more,q⟩:=I.base.Lk b ps e;exact⟨more,by rw [zn (ne b _ q fun k z=>by cases z)]; exact q⟩
 ·obtain⟨a1,a2,a3⟩:=I.pin p pD;exact⟨a1,up _ a2,a3⟩
 ·have KO:∀ {u:HO} {b:Addr},zax X.prog X.w H s.heap b u->zax X.prog X.w (lP H d #[NI]) s.heap b u:=fun {u b} x=>x.KO (fun c v _ q=>q) (fun c q=>by rw [zn (ne c _ q fun k z=>by cases z)]; exact q) fun c xs q=>by rw [zn (ne c _ q fun k z=>by cases z)]; exact q
  by_cases hb:b=d
  ·subst hb;rw [zc] at e;cases e;exact⟨ho,KO (I.hok b _ hd)⟩
  ·rw [zn hb] at e;exact KO #[QI]
noncomputable def iDT (tl:TE):TI:=fun σ H R=>tl σ H fun x H1=>∃ d kvs,x = .ref d/\H1 d=some #[OM]/\∀ o,R (Itd d o kvs) (lP H1 d #[NI])
theorem zqp {X:Cx} {tg l:Expr} {tl:TE} (hl:PE X l tl):PI X tg l (iDT tl):=by
 intro lN s σ H R I h;refine thn #[QN] fun v s1 ⟨x,H1,I1,r1,q1⟩=>?_
 obtain⟨d,kvs,e,hd,q⟩:=q1;subst e;cases r1;obtain⟨hz,hs,xs,hp,o,es,ep,ho,hx,he,uq,oz⟩:=I1.hok d _ hd;have I2:=I1.MM hd ho;refine zhQ (es:=es) (ep:=ep) hs ⟨o,ho,hx,he⟩ ?_;refine⟨s1.heap.objs.size,[s1.heap.objs.size],_,_,_,rfl,I2.kept (t':=s1.toks) fun b o e=>ai _ e,znR d _ o kvs es ep he,⟨_,aE _ rfl,rfl,rfl⟩,fun b hb=>?_,q o⟩;have e:b=s1.heap.objs.size:=by simpa using hb
 subst e;exact I2.KY (af _) (I2.hok.fresh (af _))
end L2
end
section
namespace My
open PySem L2 PyProof.Rows
variable {X:Cx}
theorem ziR {st:Stmt} {ts:TS} (h:PS X st ts):PS X st (fun D σ H=>∃ Pv:L2.St->Hp->Prop,ts { D with nx:=Pv } σ H/\∀ σ' H',Pv σ' H'->D.nx σ' H'):=by
 intro lN s σ H D I hq;obtain⟨Pv,h1,h2⟩:=hq;refine thn (h lN s σ H _ I h1) fun f s1 q=>?_
 cases f with
 | next =>
  obtain⟨σ',H',I',p⟩:=q;exact⟨σ',H',I',h2 _ _ p⟩
 | ret v=>exact q
 | brk=>exact q
 | cont=>exact q
end My
end
section
namespace L2
open PySem PySem.Spec PyProof.Rows
end L2
end
section
namespace HT
open PySem PySem.Spec PyProof.Rows
end HT
namespace L2
open PySem PySem.Spec PyProof.Rows
theorem zmi {X:Cx} {K:ah} {tg l:Expr} {tl:TE} (hK:X.K=K) (hl:PE X l tl):PI X tg l (zov K tl):=by subst hK; exact z8 hl
end L2
end
section
namespace My
open PySem L2 PyProof.Rows
variable {H H':Hp} {cl:List (Nat×List Int)} {vv:List #[GE]}
noncomputable def md (p:Int) (q:Int×Int):Int×Int:=(q.1,q.2 % p)
theorem zh3 (p:Int) (s:List Int×List Int) (q:Int×Int):zcI p s (md p q)=zcI p s q:=by
 unfold zcI md;have:(q.2 % p - zp p q.1 s.1)*inv p (zp p q.1 s.2) % p=(q.2 - zp p q.1 s.1)*inv p (zp p q.1 s.2) % p:=(((Cg.emod p q.2).sub #[Nx]).mul #[Nx]).mod_eq;dsimp only;rw [this]
theorem zjI (p:Int):∀ (lR:List (Int×Int)) (s:List Int×List Int),#[Rq].foldl (zcI p) s=lR.foldl (zcI p) s
 | [],s=>rfl
 | q :: lR,s=>by
  rw [aM,i4,i4,zh3,zjI p lR]
theorem zpE (p:Int) (lR:List (Int×Int)):thr p #[Rq]=thr p lR:=by
 unfold thr zgm;rw [zjI,ab]
noncomputable def zh4 (K:ah):Sp:=fun vs H Q _=>∃ (p:Int) (a:Addr) (lR:List (Int×Int)),vs = [.int p,.ref a]/\zoF K H a lR/\lR.length<=100/\p∈zq/\Pts p #[Rq]/\(∀ q∈lR,0<=q.2/\q.2 < 10000) /\
 ∀ (l:Addr) (H':Hp),H l=none->zr H H'->H' l=some (.tup ((thr p #[Rq]).map V.int))->Q #[Nv] H'
noncomputable def ziS (K:ah):Sp:=fun vs H Q _=>∃ (p tm:Int) (a b:Addr) (as bs:List Int),vs = [.int p,.ref a,.int tm,.ref b]/\H a=some (.lst (as.map V.int))/\H b=some (.lst (bs.map V.int))/\as.length=bs.length/\as.length<=1000/\0 < p/\0<=tm/\tm < 1000 /\
 ∀ (l:Addr) (H':Hp),H l=none->zr H H'->H' l=some (.lst ((br (fun x y=>(x - tm*y) % p) as bs).map V.int))->Q #[Nv] H'
noncomputable def LsA (H:Hp):List Addr->List #[GE]->Prop:=Paired fun b v=>H b=some (.lst (v.map V.int))
theorem LsA.same (s:zr H H') {bs:List Addr} (h:LsA H bs vv):LsA H' bs vv:=c6 #[NL] h
noncomputable def ClA (ca:Addr) (H:Hp):List Addr->List (Nat×List Int)->Prop:=Paired fun b a=>∃ wa,H b=some (.tup [.int (a.1:Int),.ref wa])/\H wa=some (.lst (a.2.map V.int))/\wa≠ca
theorem ClA.same {ca:Addr} (s:zr H H') {bs:List Addr} (h:ClA ca H bs cl):ClA ca H' bs cl:=c6 (fun _ _ ⟨wa,z1,z2,z3⟩=>⟨wa,s _ _ z1,s _ _ z2,z3⟩) h
theorem ClA.put {ca:Addr} {bs:List Addr} {xs:List V} {o:HO} (h:ClA ca H bs cl) (hf:H ca=some #[Ob]):ClA ca (lP H ca o) bs cl:=c6 (fun b _ ⟨wa,z1,z2,z3⟩=>⟨wa,by
 rw [zn (fun e=>by rw [e,hf] at z1; cases z1)]; exact z1,by rw [zn z3]; exact z2,z3⟩) h
theorem znS {xs:List V} {a b:Nat} (h:b<=xs.length):zcu xs (some (a:Int)) (some (b:Int))=(xs.drop a).take (b - a):=by
 unfold zcu;rw [HT.Kf,HT.Kf];by_cases ha:a<=xs.length
 ·rw [dE ha,dE h]
 ·rw [show min a xs.length=xs.length by lia,dE h,jj (af _),jj (show xs.length<=a by lia),gc,gc]
end My
end
section
namespace L2
open PySem PySem.Spec PyProof.Rows
theorem zdU {X:Cx} (hc:X.calm=true):zbG X (.builtin "max") (fun xs H Q=>∃ (p:Addr) (ns:List Int),xs = [.ref p]/\lO X.K H p #[xz]/\ns≠[]/\∀ M:Int,M∈ns->(∀ a∈ns,a<=M)->Q (.int M) H):=by
 intro lN s σ H xs us Q I r h;obtain⟨p,ns,rfl,hq,hn,q⟩:=h;obtain⟨u,rfl,rx⟩:=vals1 r;cases rx;obtain⟨lQ,rv,pl,hz⟩:=I.list hq;have hi:IntsAre lQ ns:=by simpa using intsAre_of rv
 (obtain⟨xs,e⟩:=hi.allInts.items)
 have wJ:ns=xs.toList.map (·.1):=by rw [<- hi.numsOf,<- nums_intItems,<- e]
 have hsz:0 < xs.size:=by
  have h3:=jU.mpr hn;rw [wJ,ab,bG] at h3;exact h3
 have hl:=pl.isList;rw [e] at hl;refine max_intList #[Na] hl hsz fun v h' tk hv hk=>?_
 (obtain⟨t,rfl⟩:=intItems_at hv)
 (obtain⟨h1,h2⟩:=argBest_gt (numAt xs) (xs.size - 1))
 refine⟨.int _,H,I.kept hk,⟨_,rfl⟩,q _ ?_ fun a ha=>?_⟩
 ·(rw [wJ,numAt_eq]; exact getD_mem (by rw [ab,bG]; lia))
 ·rw [wJ] at ha
  (obtain⟨j,hj,rfl⟩:=mem_getD ha)
  (rw [ab,bG] at hj)
  (rw [<- numAt_eq]; exact h2 j #[O])
end L2
end
section
namespace My
open PySem L2 PyProof.Rows
theorem ziT {S:List Nat}:∀ {l:List Nat},l.Nodup->l.length<=(l.filter fun i=>decide (i∉S)).length+S.length:=by
 induction S with
 | nil =>
  intro l _;rw [jV.mpr #[M]];exact af _
 | cons a S ih =>
  intro l hl;have h1:=ih hl;have h2:l.filter (fun i=>decide (i∉a :: S))=(l.filter fun i=>decide (i∉S)).filter (fun i=>i != a):=by
   rw [kb];refine kx fun i _=>?_
   by_cases e:i=a <;> by_cases e2:i∈S <;> simp [e,e2]
  have h3:=List.Nodup.erase_eq_filter (hl.filter fun i=>decide (i∉S)) a;have h4:(l.filter fun i=>decide (i∉S)).length<=((l.filter fun i=>decide (i∉S)).erase a).length+1:=by
   rw [List.length_erase];split <;> lia
  rw [h2,<- h3,bu];lia
end My
end
section
namespace PySem
open PyProof.Rows
end PySem
namespace L2
open PySem PySem.Spec PyProof.Rows
variable {X:Cx}
theorem zeZ {K:ah} (hK:X.K=K):zbG X (.type "tuple") (fun xs H Q=>∃ p ys,xs = [.ref p]/\((lO K H p ys/\∀ l,H l=none->Q #[Nv] (lP H l (.tup ys)))\/(lY K H p ys/\Q (.ref p) H))):=by subst hK; exact zaP
end L2
end
section
namespace PySem
theorem zd8:typeLookup (.type "zip") "__getattr__" = pure none:=by rw [d8,cU]; kernel_rfl
theorem zgF:typeLookup (.type "zip") "keys" = pure none:=by rw [d8,cU]; kernel_rfl
theorem zmj:entryFor table "zip.__getattribute__" = some Builtin.«object.__getattribute__»:=entryFor_alias (id':="object.__getattribute__") (by kernel_rfl) #[N] #[N] (by kernel_rfl)
theorem zmk (a:Addr) (xs:Array Value) (u:Tok) :
  Meets (Builtin.«object.__getattribute__» ⟨[.ref a,.str "keys" u],[]⟩) (fun A R s=>s.heap.get? a=some { cls:=.type "zip",dict:=none,data:=.fields xs,slots:=#[] }/\raisesAttr #[M8] "keys" A R s) :=
 Meets.of_wp fun prog w A R s ue=>by
  (obtain⟨hp,g,d,tk,os⟩:=s)
  obtain⟨hx,hs⟩:=ue;have hT:(⟨hp,g,d,tk,os⟩:Shared).TypeIs #[M8] "zip":=⟨_,hx,rfl⟩;have hmiss:=zgF
  (unfold Builtin.«object.__getattribute__»); repeat (any_goals (first | assumption | wp_step))
  exact wpAny_raiseAttrError hs.1 hs.2 (attrMsg_fits #[N] (by rw [aW]; decide))
theorem znT {prog:Program} {w:World} {A:Around} {E:Value->Shared->Prop} {s:Shared} {a:Addr} {xs:Array Value} {Q:Option Value->Shared->Prop}
  (hx:s.heap.get? a=some { cls:=.type "zip",dict:=none,data:=.fields xs,slots:=#[] }) (hA:A.handled=none)
  (h:∀ h' tk,(∀ b o,s.heap.get? b=some o->h'.get? b=some o)->Q none { s with heap:=h',toks:=tk }) :
  wpAny #[pc] A (getAttr? #[M8] "keys") Q E s:=by
 (obtain⟨hp,g,d,tk,os⟩:=s)
 have hT:∀ By,(⟨hp,g,d,By,os⟩:Shared).TypeIs #[M8] "zip":=fun _=>⟨_,hx,rfl⟩
 have f1:=sub_AttributeError;have f3:=F.slot_zip_getattribute.lookup;have f4:=F.slot_zip_getattribute.bind #[M8];have f5:=zd8
 (unfold getAttr? getAttrBy? getAttrBy)
 repeat (any_goals (first | assumption | exact hT _ | ((with_reducible show wpAny _ _ (call (Value.builtin "zip.__getattribute__") _ _) _ _ _); refine eZ F.slot_zip_getattribute (hT _) zmj (F.args_zip_getattribute_2 _ _) (zmk a xs _) ⟨hx,hA,fun h' By e tj=>?_⟩) | wp_step))
 (obtain⟨t',u',he⟩:=tj.there)
 (show wpAny _ _ (getattributeRaised _ _ _ _ _ _ _) _ _ _)
 unfold getattributeRaised; repeat (any_goals (first | assumption | wp_step))
 exact h _ _ tj.keeps
end PySem
end
section
namespace PySem
theorem zh5:entryFor table "dict.update.loop" = some Builtin.«dict.update.loop»:=entryFor_of_tree (by kernel_rfl)
theorem zdD:plainId "dict.update.loop" = true:=by decide +kernel
end PySem
namespace L2
open PySem PySem.Spec PyProof.Rows
variable {A:Around} {H:Hp} {X:Cx} {h':Heap} {kvs:List (List Key×V)} {lN:List (Addr×Obj)} {pos:Pos} {s:Shared} {tk:Nat} {v y:V} {ys:List V}
abbrev zqV (n a b:Nat) (i:Nat) (h:Heap):Prop:=(∃ f0 f1,IsZ h (n+4) (n+2) (n+3) f0 f1/\ZF f0 f1)/\IsPair h (n+2) (.ref n) #[Q8]/\(∃ u v,IsPair h (n+3) u v)/\h.IsListIter n a i/\h.IsListIter (n+1) b i
theorem zkM {κ:Type} [DecidableEq κ] {kvs:List (κ×V)} {k:κ} (h:k∉kvs.map (·.1)):zaU kvs k=none:=by
 unfold zaU;rw [Option.map_eq_none_iff,List.find?_eq_none];intro kv hkv e;have e:kv.1=k:=of_decide_eq_true e;exact h (aw.mpr ⟨kv,hkv,e⟩)
theorem zml {κ:Type} {ks:List κ} {i:Nat} {k:κ} (hk:ks[i]? = some k) (hy:ys[i]? = some y):#[Pi].take (i+1)=#[Pi].take i++[(k,y)]:=by
 have:#[Pi][i]? = some (k,y):=by rw [fC]; exact⟨hk,hy⟩
 rw [eL,this,jK]
theorem znU {κ:Type} {ks:List κ} {i:Nat} {k:κ} (oz:ks.Nodup) (hk:ks[i]? = some k):k∉(#[Pi].take i).map (·.1):=by
 intro h;obtain⟨q,hq,e⟩:=aw.mp h;obtain⟨j,hj⟩:=cV.mp hq;have CA:j < i:=by
  have:=(av.mp hj).1;rw [aG] at this;lia
 rw [b7 CA] at hj;have hkj:ks[j]? = some k:=by
  have qj:#[Pi][j]? = some (q.1,q.2):=hj;rw [fC] at qj;rw [qj.1,e]
 have h1:=(av.mp hkj).1;have h2:=(av.mp hk).1;exact cR.mp oz j i h1 h2 CA (by rw [(av.mp hkj).2,(av.mp hk).2])
theorem znV {α β:Type} {R:α->β->Prop} {as:List α} {bs:List β} (h:Paired R as bs):∀ {i:Nat} {x:α},as[i]? = some x->∃ y,bs[i]? = some y/\R x y:=by
 induction h with
 | nil=>intro i x e; simp at e
 | cons h1 _ ih =>
  intro i x e;cases i with
  | zero=>cases e; exact⟨_,rfl,h1⟩
  | succ i=>exact ih (by simpa using e)
theorem zch {n c:Nat} (h:c∈[n+4,n+3,n,n+1]):c∈zcd n:=by
 simp only [zcd,aB,aY,or_false] at h |-;rcases h with z | z | z | z <;> subst z <;> simp
theorem zqq {σ:St} {n:Nat} (I:Inv X lN σ H s) (hf:∀ c∈zcd n,zca X lN H c) (k1:∀ c o,c∉[n+4,n+3,n,n+1]->s.heap.get? c=some o->h'.get? c=some o):Inv X lN σ H { s with heap:=h',toks:=tk }:=by
 have tD:∀ d u',H d=some u'->d∉[n+4,n+3,n,n+1]:=fun d u' e' hd=>by rw [(hf d (zch hd)).1] at e'; cases e'
 refine I.step (g':=s.gens) (d':=s.drawn) (t':=tk) (ch:=[n+4,n+3,n,n+1]) #[R1] #[Ox] #[Nz] #[NH]
  (fun c o mZ e=>⟨o,k1 c o mZ e⟩) #[Ot] #[NK] (fun c ps e=>⟨#[],by rw [e]; simp⟩) #[Os] #[Rr] I.bare
 ·obtain⟨_,a1,_,a3,a4,a5⟩:=hf c (zch lV);exact⟨a3,a1,a4,a5⟩
 ·obtain⟨o,vT,ep,ho,r⟩:=hm;exact⟨o,vT,ep,k1 _ o (fun z=>(hf _ (zch z)).2.1 rfl) ho,r⟩
 ·refine #[Si].KO #[O4] #[Pj] fun _ _ q=>q
  rcases hd with z | z
  ·rw [z]; exact tD c u e
  ·exact tD d _ z
theorem zkN {σ:St} {a b:Addr} {k:List Key} {r:Value} {E:Value->Shared->Prop} {Q:Unit->Shared->Prop} (hu:A.units+1 < cLine) (I:Inv X lN σ H s) (e:H a=some #[OM]) (eb:H b=some #[Nm]) (l:kvs.length < sizeLine) (rv:RelV v r)
  (h:∀ s',(∀ c o,c≠a->s.heap.get? c=some o->s'.heap.get? c=some o)->Inv X lN σ (lP H a (.dT #[Nr])) s'->Q () s'):wpAny #[o0] A.in1 (dictSet a #[Ql] r) Q E s:=by
 obtain⟨z,hd,xs,rel,dd⟩:=zoI I.hok e;have hz:xs.length<=sizeLine:=by rw [<- bq rel]; exact z
 have hl:#[Nr].length<=sizeLine:=by have:=zcR kvs k v; lia
 refine wpAny_dictSet_heap (hsz:=hz) (fI hu) (zeN I.hok eb) dd fun h' Bq hs=>h _ (fun c o hc eo=>hs.extBut c o hc eo) ?_
 obtain⟨q,es,ep,hq,h2,h3,h4,_,h5⟩:=Bq;refine zgt I (by rw [e]; exact iE) hs ⟨q,hq⟩ ⟨hl,hd,_,(rel.put k eb rv).keeps fun c ys ec=>?_,q,es,ep,hq,h2,h3,h4,h5⟩;rw [zn (zot ec e (fun z=>nomatch z))];exact ec
noncomputable def KyA (H:Hp):List V->List (List Key)->Prop:=Paired fun x k=>∃ c,x = .ref c/\H c=some #[Nm]
theorem znW {σ:St} {R:Result->Shared->Prop} {H0:Hp} {a b n D:Nat} {xs:List V} {ks:List (List Key)} (hh:A.handled=none) (hu:A.units+1 < cLine) (ha:a < n) (hb:b < n)
  (hD:H0 D=none) (hfD:D∉zcd n) (pQ:lO X.K H0 a xs) (oA:lO X.K H0 b ys) (hk:KyA H0 xs ks) (oz:ks.Nodup) (hf:∀ c∈zcd n,zca X lN H0 c)
  (hR:∀ s' H',Inv X lN σ H' s'->zr H0 H'->H' D=some (.dT #[Pi])->R (.ok #[Rv]) s') :
  ∀ (m i:Nat) (t:Tok) (s:Shared) (H:Hp),i+m=min xs.length ys.length->Inv X lN σ H s->zr H0 H->(∀ c∈zcd n,H c=none)->zqV n a b i s.heap->H D=some (.dT (#[Pi].take i)) ->
   codeAny #[o0] A (.builtin "dict.update.loop" ⟨[.ref D,.ref (n+4),.int i t,.none],[]⟩) R s:=by
 intro m;induction m with
 | zero =>
  intro i t s H hi I hs hn st Gp;obtain⟨⟨f0,f1,h1,vq⟩,h2,⟨u0,v0,h3⟩,h4,h5⟩:=st;obtain⟨mQ,rO,p1,qA⟩:=I.list (hs.seq pQ);obtain⟨mL,rZ,p2,rA⟩:=I.list (hs.seq oA);have pN:=rO.length;have oT:=rZ.length;refine gC zh5 ?_;rw [jF zdD _];show wpAny _ A.in1 (pyNext #[Q7] >>= _) _ _ s;have CD:A.in1.in1.handled=none:=by simp [hh]
  refine ae (zlJ #[S5] #[S6] #[Rn] h1 vq h2 h3 ⟨h4,p1.isList⟩ ⟨h5,p2.isList⟩ (by rw [aq,aq]; lia) fun h' tk kk=>?_);show wpAny _ A.in1 (Builtin.Dict.addKeywords D [] >>= _) _ _ _
  (refine ae (ao (ao ?_)))
  have I1:Inv X lN σ H { s with heap:=h',toks:=tk }:=zqq I (fun c hc=>⟨hn c hc,(hf c hc).2⟩) fun c o lV e=>by
   simp only [aB,aY,or_false,not_or] at lV;exact kk c o lV.1 lV.2.1 lV.2.2.1 lV.2.2.2 e
  refine hR _ _ I1 hs ?_;rw [Gp,aH];rw [lr,<- bq hk];lia
 | succ m ih =>
  intro i t s H hi I hs hn st Gp;obtain⟨⟨f0,f1,h1,vq⟩,h2,⟨u0,v0,h3⟩,h4,h5⟩:=st;obtain⟨mQ,rO,p1,qA⟩:=I.list (hs.seq pQ);obtain⟨mL,rZ,p2,rA⟩:=I.list (hs.seq oA);have pN:=rO.length;have oT:=rZ.length;have hx:xs[i]? = some (xs[i]'#[O]):=ag _;have hy:ys[i]? = some (ys[i]'#[O]):=ag _;generalize xs[i]'#[O]=x at hx;generalize ys[i]'#[O]=y at hy;obtain⟨u,huu,ru⟩:=rO.get hx;obtain⟨v,hv,rv⟩:=rZ.get hy;refine gC zh5 ?_;rw [jF zdD _];show wpAny _ A.in1 (pyNext #[Q7] >>= _) _ _ s;have CD:A.in1.in1.handled=none:=by simp [hh]
  refine ae (zjj #[S5] #[S6] #[Rn] h1 vq h2 h3 ⟨h4,p1.isList⟩ ⟨h5,p2.isList⟩ (by rw [aq]; lia) (by rw [aq]; lia)
   fun x' y' h' tk g0 g1 a' b' px py ez Ce e2 e3 t4 t5 pp hsz kk=>?_)
  have eu:x'=u:=by
   have e1:mQ[i]? = some x':=by simpa using px
   rw [huu] at e1; exact (aS e1).symm
  have ev:y'=v:=by
   have e1:mL[i]? = some y':=by simpa using py
   rw [hv] at e1; exact (aS e1).symm
  subst eu ev;obtain⟨k,hki,kc,rfl,Fl⟩:=znV hk hx;cases ru;have hff:∀ c∈zcd n,zca X lN H c:=fun c hc=>⟨hn c hc,(hf c hc).2⟩
  have uq:n+4 < s.heap.objs.size:=aF h1;have k1:∀ c o,c∉[n+4,n+3,n,n+1]->s.heap.get? c=some o->h'.get? c=some o:=fun c o lV eo=>by
   simp only [aB,aY,or_false,not_or] at lV;exact kk c o lV.1 lV.2.1 lV.2.2.1 lV.2.2.2 eo
  have I1:Inv X lN σ H { s with heap:=h',toks:=tk }:=zqq I hff k1;show wpAny _ A.in1 (holding [.ref s.heap.objs.size] _ >>= _) _ _ _
  (refine ae (cm ?_))
  (refine ae (wpAny_tryCatch ?_))
  unfold Builtin.Dict.pairItems;have hT:({ s with heap:=h',toks:=tk }:Shared).TypeIs #[ss] "tuple":=⟨_,pp,rfl⟩
  (refine ae (kd hT ?_))
  rw [if_pos #[D]];refine ae (dv pp rfl (ao ?_));show wpAny _ A.in1 (holding [.ref kc,y'] (dictSet D (.ref kc) y')) _ _ _;have mh:(#[Pi].take i).length < sizeLine:=by
   rw [aG];lia
  refine cm (zkN (A:=A) hu I1 Gp (hs _ _ Fl) mh rv fun s2 k2 I2=>?_);rw [zlO _ (zkM (znU oz hki)),<- zml hki hy] at I2;have nD:∀ c,c∈zcd n->c≠D:=fun c hc z=>hfD (by rw [<- z]; exact hc)
  refine ao #[SQ];show codeAny _ A (.builtin "dict.update.loop" ⟨[.ref D,.ref (n+4),.int ((i+1:Nat):Int) _,.none],[]⟩) R s2;refine ih (i+1) _ s2 _ #[O] I2 (fun c o e=>?_) (fun c hc=>?_) ?_ zc
  ·rw [zn (zu e hD)];exact hs c o e
  ·rw [zn (nD c hc)];exact hn c hc
  ·exact⟨⟨g0,g1,k2 _ _ (nD _ #[M]) ez,Ce⟩,k2 _ _ (nD _ #[M]) e2,⟨_,_,k2 _ _ (nD _ #[M]) e3⟩,t4.1.at fun o e=>k2 _ o (nD _ #[M]) e,t5.1.at fun o e=>k2 _ o (nD _ #[M]) e⟩
noncomputable def tDZ (K:ah) (ta:TA):TE:=fun σ H Q=>ta σ H fun vs H1=>∃ a b xs ys ks,vs = [.ref a,.ref b]/\lO K H1 a xs/\lO K H1 b ys/\KyA H1 xs ks/\ks.Nodup/\∀ D H',H1 D=none->zr H1 H'->H' D=some (.dT #[Pi])->Q #[M6] H'
theorem ziU {p p2 oV:Pos} {a b:Expr} {ta:TA} (hu:X.A.units+2 < cLine) (hc:X.calm=true) (hg:Gl X "dict") (hm:X.mg "dict" = none) (xP:Gl X "zip") (sg:X.mg "zip" = none) (ha:PA X [a,b] ta) (hs:starEach [a,b] X.env = [#[KM],#[Ev]]:=by rfl) (oB:starEach [b] X.env = [#[Ev]]:=by rfl)
  (uf:starEach [.Call (.Name "zip" p2) [a,b] [] oV] X.env = [(false,eval (.Call (.Name "zip" p2) [a,b] [] oV) X.env)]:=by rfl) :
  PE X (.Call (.Name "dict" p) [.Call (.Name "zip" p2) [a,b] [] oV] [] pos) (tDZ X.K ta):=by
 intro lN s σ H Q I h;refine Call_ (zbr I hg hm boot_dict (bE ?_ uf rfl));rw [uf];show wpAny _ _ (spliced ((false,eval (.Call (.Name "zip" p2) [a,b] [] oV) X.env) :: [])) _ _ s;refine dt ?_;refine Call_ (zbr I xP sg kP (bE (thn (ha oV lN s σ H _ I h) fun us s1 ⟨vs,H1,I1,r1,q1⟩=>?_) (by rw [hs,oB]) (by rw [oB]; rfl)));obtain⟨l1,l2,xs,ys,ks,e,pQ,oA,Eu,oz,q⟩:=q1;subst e;cases r1 with
 | cons r rr =>
  cases rr with
  | cons r' rr =>
   cases rr;cases r;cases r';obtain⟨mQ,rO,wx,qA⟩:=I1.list pQ;obtain⟨mL,rZ,xl,rA⟩:=I1.list oA;have qr:l1 < s1.heap.objs.size:=by obtain⟨_,_,e,_⟩:=wx; exact aF e
   have qt:l2 < s1.heap.objs.size:=by obtain⟨_,_,e,_⟩:=xl; exact aF e
   refine call_zip_2 wx.isList xl.isList fun h' b1 b2 b3 b4 b5 b6 kk=>?_
   refine ed ?_;have I2:Inv X lN σ H1 { s1 with heap:=h' }:=I1.kept (t':=s1.toks) kk;have Gq:∀ c∈zcd s1.heap.objs.size,zca X lN H1 c:=fun c hc=>by
    have hle:s1.heap.objs.size<=c:=by
     simp only [zcd,aB,aY,or_false] at hc;rcases hc with z | z | z | z | z <;> subst z
     all_goals first | exact gg _ _ | exact af _
    exact I1.KY hle #[NX]
   generalize hn:s1.heap.objs.size=n at b1 b2 b3 b4 b5 b6 qr qt Gq |-;refine callType_codes (Q₁:=fun obj s₁=>obj = .ref h'.objs.size/\s₁ = { s1 with heap:=h'.push { cls:=.type "dict",data:=.dict #[] } }) F.kt_called_dict (F.kt_typeCall_dict_1 _) F.entry_dict_init (kt_code_dict_new _ ⟨rfl,rfl⟩) ?_;rintro obj s₁ ⟨rfl,rfl⟩;have Gr:∀ c o,h'.get? c=some o->(h'.push { cls:=.type "dict",data:=.dict #[] }).get? c=some o:=fun c o e=>ai _ e
   have I3:Inv X lN σ (lP H1 h'.objs.size (.dT [])) { s1 with heap:=h'.push { cls:=.type "dict",data:=.dict #[] } } :=
    I2.laid (a:=h'.objs.size) (o:=.dT []) (t':=s1.toks) Gr (af _) (zhH h' I2.big)
   have hT:({ s1 with heap:=h'.push { cls:=.type "dict",data:=.dict #[] } }:Shared).TypeIs (.ref h'.objs.size) "dict":=⟨_,aE _ rfl,rfl⟩;refine⟨hT,F.args_dict_init_2 _ _,?_⟩
   (unfold Builtin.«dict.__init__»; refine ae ?_; unfold Builtin.Dict.selfAndRest)
   (refine ae (jn hT ?_))
   show wpAny _ _ (pure (h'.objs.size,[aX (n+4)])) _ _ _;refine (ao ?_);show wpAny _ _ (iY "dict.__init__" h'.objs.size #[Q7] [] .none) _ _ _
   (unfold iY)
   have Bz:=Gr _ _ b1;have vt:({ s1 with heap:=h'.push { cls:=.type "dict",data:=.dict #[] } }:Shared).TypeIs #[Q7] "zip":=⟨_,Bz,rfl⟩;refine ae (kd vt ?_);rw [if_pos #[D]];have hh:X.A.handled=none:=I.ok.hd hc;refine ae (znT Bz (by simp [hh]) fun h2 tk xn=>?_);rw [if_pos (by rfl)];refine ae (cF ?_);have I4:Inv X lN σ (lP H1 h'.objs.size (.dT [])) { s1 with heap:=h2,toks:=tk }:=Inv.kept (s:={ s1 with heap:=h'.push { cls:=.type "dict",data:=.dict #[] } }) (t':=tk) I3 xn;refine ae (zgs (xn _ _ Bz) (ao #[SQ]));have D0:H1 h'.objs.size=none:=I2.hok.fresh (af _);have up:∀ c o,h'.get? c=some o->h2.get? c=some o:=fun c o e=>xn c o (Gr c o e)
   refine znW (X:=X) (lN:=lN) (σ:=σ) (A:=X.A.in1) (H0:=H1) (a:=l1) (b:=l2) (n:=n) (D:=h'.objs.size) (xs:=xs) (ys:=ys) (ks:=ks) (by simp [hh]) (by simp only [dn]; lia) qr qt D0 ?_ pQ oA Eu oz Gq (fun s' H' I' e1 e2=>?_) #[Tb] 0 _ _ _ #[O] I4 (fun c o e=>?_) (fun c hc=>?_) ?_ ?_
   ·rw [b6];simp
   ·exact⟨rfl,.ref h'.objs.size,_,I',rfl,q _ _ D0 e1 e2⟩
   ·rw [zn (zu e D0)];exact e
   ·rw [zn]
    ·exact (Gq c hc).1
    ·rw [b6];simp only [zcd,aB,aY,or_false] at hc;rcases hc with z | z | z | z | z <;> subst z <;> exact nq #[O]
   ·exact⟨⟨_,_,up _ _ b1,.inl rfl,_,rfl⟩,up _ _ b2,⟨_,_,up _ _ b3⟩,b4.at fun o e=>up _ o e,b5.at fun o e=>up _ o e⟩
   ·rw [c7];exact zc
end L2
end
section
namespace PySem
theorem zdE:typeLookup (.type "list") (dunderI "add")=pure (some (.builtin "list.__iadd__")):=by rw [d8,cU]; kernel_rfl
theorem zfo:seqSlot? (.type "list") (dunderI "add")=pure (some (.builtin "list.__iadd__")):=by
 unfold seqSlot?;rw [zdE]
 kernel_rfl
theorem zgG:fillsInplaceSlot (.type "list") "add" (Operator.Add == .Add)=pure false:=by
 unfold fillsInplaceSlot;show (typeLookup (.type "list") (dunderI "add") >>= fun fi=>pure (fi.isSome && !isSeqSlot fi))=pure false;rw [zdE]
 kernel_rfl
theorem zkO {M:Model} {A:Around} {E:Value->Shared->Prop} {s:Shared} {a b:Value} {Q:Value->Shared->Prop} (ha:s.TypeIs a "list") (hb:s.TypeIs b "list")
  (hc:wpAny M A (call (.builtin "list.__iadd__") [a,b]) Q E s):wpAny M A (inplaceOp .Add a b) Q E s:=by
 (unfold inplaceOp; refine cm ?_)
 refine ae (kd ha (ae (dW zgG ?_)))
 (show wpAny M A (if false=true then _ else _) Q E s)
 rw [if_neg aQ];refine ae (wpAny_binaryOp1_none (nm:="add") ha hb noFill_list_add ?_);refine ae (dW zfo ?_);exact (ae (cF hc))
end PySem
namespace L2
open PySem PySem.Spec PyProof.Rows
variable {X:Cx}
noncomputable def zpF:R2:=fun x y H Q=>∃ l b xs zs,x = .ref l/\y = .ref b/\H l=some #[Ob]/\H b=some (.lst zs)/\xs.length+zs.length<=sizeLine/\Q #[Nv] (lP H l (.lst (xs++zs)))
theorem zmm:OpR X (inplaceOp .Add) zpF:=by
 intro lN s σ H x y v u Q I rx ry h;obtain⟨l,b,xs,zs,rfl,rfl,hH,hB,hz,q⟩:=h;cases rx;cases ry;obtain⟨z,lQ,n,r,hl,e⟩:=I.LR hH;obtain⟨z2,mL,n2,r2,oT,e2⟩:=I.LR hB;have hsz:lQ.toArray.size+mL.toArray.size<=sizeLine:=by rw [aq,aq]; lia
 have wo:¬ (!lQ.toArray.isEmpty && eB (lQ.toArray.size+mL.toArray.size))=true:=by
  rw [zhk hsz,ly];exact aQ
 refine zkO ⟨_,e,rfl⟩ ⟨_,e2,rfl⟩ (eZ F.slot_list_iadd ⟨_,e,rfl⟩ F.entry_list_iadd (F.args_list_iadd_2 _ _)
  (AutoSeq1.list___iadd___list_list_0 l lQ.toArray n b mL.toArray n2 wo (by rw [aq]; lia) #[O]) ⟨e,e2,?_⟩)
 refine⟨.ref l,_,I.Mj (its':=lQ++mL) hH e #[M] (r.append r2) ?_,rfl,q⟩;rw [ap];lia
end L2
end
section
namespace My
open PySem L2 PyProof.Rows
variable {H H':Hp} {L j k:Nat} {cl:List (Nat×List Int)} {ls:List Addr} {ms:List Int} {qs vs vv:List #[GE]} {v:V}
noncomputable def ch:Nat->Nat->Int
 | _,0=>1
 | 0,_+1=>0
 | t+1,j+1=>ch t j+ch t (j+1)
theorem zgH:∀ {t j:Nat},t < j->ch t j=0
 | _,0,h=>by lia
 | 0,j+1,_=>rfl
 | t+1,j+1,h=>by rw [ch,zgH #[O],zgH #[O]]; rfl
theorem zmn {l:List Nat} {d:Nat} (h:l.Nodup) (hl:∀ x∈l,x < d):l.length<=d:=by
 have h1:=ziT (S:=aN d) h;rw [eK.mpr (fun x hx=>by have:=hl x hx; simpa using this),bF] at h1;simpa using h1
theorem zjJ {p:Int} (hp:p∈zq) {L N m:Nat} {vs:List #[GE]} {cl:List (Nat×List Int)} (E:Ech p L N m vs cl) (hm:m < N) {w0:List Int} (W0:Wh p L N m vs [] w0):∀ i,i<=cl.length->∃ w,Wh p L N m vs (cl.take i) w
 | 0,_=>⟨w0,by rw [c7]; exact W0⟩
 | i+1,hi=>by
  obtain⟨w,W⟩:=zjJ hp E hm W0 i #[O];exact⟨_,zjG hp E hm (ag #[O]) W⟩
theorem zmo {p:Int} (hp:p∈zq) {L:Nat} {vs:List #[GE]} (hv:∀ v∈vs,v.length=L/\∀ c∈v,0<=c/\c < p) (hI:Indep p L vs):∀ m,m<=vs.length->∃ cl,Ech p L vs.length m vs cl
 | 0,_=>⟨[],Ech.start p L vs.length vs⟩
 | m+1,hm=>by
  have rp:=zC hp;obtain⟨cl,E⟩:=zmo hp hv hI m #[O];have hvm:vs[m]? = some (vs[m]'#[O]):=ag #[O];obtain⟨h1,h2⟩:=hv _ (aA hvm);obtain⟨w,W⟩:=zjJ hp E #[O] (zh0 hp (N:=vs.length) #[O] hvm h1 h2) cl.length (af _);rw [bC] at W;by_cases hz:∀ x,x < L->gl w x=0
  ·exfalso;obtain⟨_,d2,d3⟩:=zmf W #[O] hz;have:=hI _ d3 m #[O];rw [d2] at this;have:=this.eq #[O] #[O] (bM _) #[O];lia
  ·obtain⟨x,hx⟩:=Classical.not_forall.mp hz;obtain⟨Bs,xS⟩:=Classical.not_imp.mp hx;exact⟨_,zh1 hp E #[O] W Bs xS⟩
theorem zmp {p:Int} (hp:p∈zq) (hv:∀ v∈vs,v.length=L/\∀ c∈v,0<=c/\c < p) (hI:Indep p L vs):vs.length<=L:=by
 obtain⟨cl,E⟩:=zmo hp hv hI vs.length (af _);have hn:(cl.map (·.1)).Nodup:=by
  rw [bw,bZ,cR];intro i j hi hj qH e;have h1:=E.up i j _ _ (ag hi) (ag hj) qH;have h2:=(E.one j _ (ag hj)).2.2.2.2.1;rw [e,h2] at h1;cases h1
 have:=zmn hn fun x hx=>by
  obtain⟨a,ha,rfl⟩:=aw.mp hx;obtain⟨j,hj⟩:=fj ha;exact (E.one j a hj).1
 rw [ab,E.ln] at this;exact this
abbrev Tm:=Nat×Nat
noncomputable def cf (x:Int) (n u:Nat):Int:=ch n u*x ^ (n - u)
theorem zgI (x:Int) (n:Nat):cf x n 0=x ^ n:=by
 unfold cf;cases n <;> simp [ch]
theorem znX (x:Int) (n u:Nat):cf x (n+1) (u+1)=cf x n u+x*cf x n (u+1):=by
 unfold cf;by_cases h:u < n
 ·rw [show n+1 - (u+1)=n - u by lia,show n - u=(n - (u+1))+1 by lia,iL];show (ch n u+ch n (u+1))*_=_;grind
 ·have h1:ch n (u+1)=0:=zgH #[O];rw [show n+1 - (u+1)=n - u by lia];show (ch n u+ch n (u+1))*_=_;rw [h1];simp
structure Co where
 x:Int
 y:Int
 u:Nat
 v:Nat
noncomputable def cv (t:Tm) (c:Co):Int:=cf c.x t.1 c.u*cf c.y t.2 c.v
noncomputable def pco (q:Int×Int×Nat):List Co:=(aN q.2.2).flatMap fun u=>(aN (q.2.2 - u)).map fun v=>⟨q.1,q.2.1,u,v⟩
noncomputable def cos (lR:List (Int×Int×Nat)):List Co:=lR.flatMap pco
noncomputable def za1 (p:Int) (lR:List (Int×Int×Nat)) (t:Tm):List Int:=#[Pe].map fun c=>cv t c % p
noncomputable def tz (k:Nat) (t:Tm):Nat:=t.1+(k - 1)*t.2
noncomputable def tms (k s:Nat):List Tm:=(aN (s / (k - 1)+1)).map fun j=>(s - (k - 1)*j,j)
noncomputable def zZ (k s:Nat):List Tm:=(aN s).flatMap (tms k)
theorem za2 (k s:Nat):zZ k (s+1)=zZ k s++tms k s:=by
 unfold zZ;rw [cQ,dP];simp
theorem zc6 {s:Nat} (hk:2<=k) {t:Tm}:t∈tms k s↔tz k t=s:=by
 unfold tms tz;have k1:0 < k - 1:=by lia
 constructor
 ·intro h;obtain⟨j,hj,rfl⟩:=aw.mp h;have hj:=bJ.mp hj;have:(k - 1)*j<=s:=by
   have:=(eY k1).mp (show j<=s / (k - 1) by lia);rw [gr]; exact this
  show s - (k - 1)*j+(k - 1)*j=s;lia
 ·intro h;refine aw.mpr ⟨t.2,bJ.mpr ?_,?_⟩
  ·have:t.2<=s / (k - 1):=(eY k1).mpr (by rw [gr]; lia);lia
  ·have:s - (k - 1)*t.2=t.1:=by lia
   rw [this]
theorem zbp {s:Nat} (hk:2<=k) {t:Tm}:t∈zZ k s↔tz k t < s:=by
 unfold zZ;rw [dU];constructor
 ·rintro⟨z,hz,h⟩;rw [(zc6 hk).mp h];exact bJ.mp hz
 ·intro h;exact⟨tz k t,bJ.mpr h,(zc6 hk).mpr rfl⟩
theorem zkP (k s:Nat):(tms k s).Nodup:=by
 unfold tms;rw [bw,bZ];refine kA ?_ ff;intro a b h e;exact h (congrArg kW e)
theorem zbK {k:Nat} (hk:2<=k):∀ s,(zZ k s).Nodup
 | 0=>by simp [zZ]
 | s+1=>by
  rw [za2,ck];refine⟨zbK hk s,zkP k s,fun a ha b hb e=>?_⟩;subst e;have h1:=(zbp hk).mp ha;have h2:=(zc6 hk).mp hb;lia
theorem zcD {k:Nat} (hk:2<=k):∀ s,(zZ k s).Pairwise fun a b=>tz k a<=tz k b
 | 0=>by simp [zZ]
 | s+1=>by
  rw [za2,jD];refine⟨zcD hk s,?_,fun a ha b hb=>?_⟩
  ·refine dF (R:=fun _ _=>True) ?_ (List.pairwise_of_forall fun _ _=>trivial);intro a b ha hb _;rw [(zc6 hk).mp ha,(zc6 hk).mp hb];exact af _
  ·have h1:=(zbp hk).mp ha;have h2:=(zc6 hk).mp hb;lia
theorem zfY (k:Nat):∀ s,s<=(zZ k s).length
 | 0=>bg _
 | s+1=>by
  rw [za2,ap];have:=zfY k s;have h:1<=(tms k s).length:=by unfold tms; rw [ab,bF]; exact Nat.le_add_left _ _
  lia
theorem zfZ (k:Nat) {a:Nat}:∀ {b},a<=b->zZ k a <+: zZ k b
 | 0,h=>by
  obtain rfl:a=0:=by lia
  exact kX _
 | b+1,h=>by
  by_cases e:a=b+1
  ·rw [e];exact kX _
  ·exact (zfZ k (show a<=b by lia)).trans (by rw [za2]; exact List.prefix_append _ _)
noncomputable def lsum (l:List Tm) (f:Tm->Int):Int:=(l.map f).sum
theorem zbz (a:Tm) (l:List Tm) (f:Tm->Int):lsum (a :: l) f=f a+lsum l f:=by simp [lsum]
theorem zh6 (l m:List Tm) (f:Tm->Int):lsum (l++m) f=lsum l f+lsum m f:=by simp [lsum]
theorem zgJ {p:Int} {f g:Tm->Int}:∀ {l:List Tm},(∀ t∈l,Cg p (f t) (g t))->Cg p (lsum l f) (lsum l g)
 | [],_=>Cg.refl p _
 | a :: l,h=>by
  rw [zbz,zbz];exact (h a aD).add (zgJ fun t ht=>h t (au _ ht))
theorem zf0 {f:Tm->Int}:∀ {l:List Tm},(∀ t∈l,f t=0)->lsum l f=0
 | [],_=>rfl
 | a :: l,h=>by rw [zbz,h a aD,zf0 fun t ht=>h t (au _ ht)]; rfl
theorem zmq {l m:List Int} (h:l.Perm m):l.sum=m.sum:=by
 induction h with
 | nil=>rfl
 | cons a _ ih=>simp [ih]
 | swap a b l=>simp only [bR]; lia
 | trans _ _ h1 h2=>rw [h1,h2]
theorem zkQ {l m:List Tm} {f:Tm->Int} (h:l.Perm m):lsum l f=lsum m f:=zmq (h.map f)
theorem zkR {l m:List Tm} {f:Tm->Int} (hl:l.Nodup) (hm:m.Nodup) (h:∀ t,t∈l↔t∈m):lsum l f=lsum m f:=zkQ ((ip hl hm).mpr h)
theorem zgK {f:Tm->Int} {g:Nat->Int}:∀ {l:List Tm} {n:Nat},n=l.length->(∀ i t,l[i]? = some t->g i=f t)->sm n g=lsum l f
 | [],_,rfl,_=>rfl
 | a :: l,_,rfl,h=>by
  rw [zbz,bu,zjF,h 0 a rfl,zgK rfl fun i t e=>h (i+1) t (by simpa using e)]
noncomputable def znY (p:Int) (L m:Nat) (vs:List #[GE]):Prop:=∀ u:Nat->Int,(∀ x,x < L->Cg p (sm m fun i=>u i*vx vs i x) 0)->∀ i,i < m->Cg p (u i) 0
theorem znZ {p:Int} {N m:Nat} (hm:m<=N) (E:Ech p L N m vs cl):znY p L m vs:=fun u hu i hi=>by
 have key:∀ y,sm N (fun i=>(if i < m then u i else 0)*vx vs i y)=sm m (fun i=>u i*vx vs i y):=fun y=>by
  rw [zgD hm (f:=fun i=>(if i < m then u i else 0)*vx vs i y) (fun i h1 _=>by rw [if_neg #[O]]; simp)];exact zco fun i hi=>by rw [if_pos hi]
 have h:=E.ii (fun y=>if y < L then sm m (fun i=>u i*vx vs i y) else if y - L < m then u (y - L) else 0) #[Qt] (fun i h1 h2=>?_) (fun a ha=>?_) i #[O]
 ·rw [if_neg #[O],dN,if_pos hi] at h;exact h
 ·dsimp only;rw [if_pos hx,<- key];refine Cg.of_eq (zco fun i _=>?_);have e:(if L+i < L then sm m (fun i_1=>u i_1*vx vs i_1 (L+i)) else if L+i - L < m then u (L+i - L) else 0)=if i < m then u i else 0:=by rw [if_neg #[O],dN]
  rw [e]
 ·rw [if_neg #[O],dN,if_neg #[O]];exact Cg.refl p 0
 ·obtain⟨j,hj⟩:=fj ha;have:=(E.one j a hj).1;rw [if_pos this];exact hu _ this
theorem zpG {p:Int} {lR:List (Int×Int×Nat)} {t:Tm} {x:Nat} {c:Co} (h:#[Pe][x]? = some c):gl (za1 p lR t) x=cv t c % p:=zdh (by unfold za1; rw [aj,h]; rfl)
theorem zjK (p:Int) (lR:List (Int×Int×Nat)) (t:Tm):(za1 p lR t).length=#[Pe].length:=by unfold za1; rw [ab]
theorem zn0 {p:Int} (p0:0 < p) {lR:List (Int×Int×Nat)} {t:Tm}:∀ c∈za1 p lR t,0<=c/\c < p:=fun c hc=>by
 unfold za1 at hc;obtain⟨d,_,rfl⟩:=aw.mp hc;exact#[OS]
theorem zmr {p:Int} {lR:List (Int×Int×Nat)} {ts:List Tm} {i x:Nat} {t:Tm} {c:Co} (ht:ts[i]? = some t) (h:#[Pe][x]? = some c):vx #[NS] i x=cv t c % p:=by
 unfold vx;rw [aZ,aj,ht];exact zpG h
structure Lst (p:Int) (k:Nat) (lR:List (Int×Int×Nat)) (size:Nat) (g:Tm->Int):Prop where
 rg:∀ t,0<=g t/\g t < p
 top:∃ t,tz k t=size/\g t≠0
 out:∀ t,size < tz k t->g t=0
 ok:∀ c∈cos lR,Cg p (lsum (zZ k (size+1)) fun t=>g t*cv t c) 0
 least:∀ h:Tm->Int,(∀ c∈cos lR,Cg p (lsum (zZ k size) fun t=>h t*cv t c) 0)->∀ t,tz k t < size->Cg p (h t) 0
 few:(zZ k size).length<=#[Pe].length
noncomputable def gof (ts:List Tm) (c:List Int) (t:Tm):Int:=(jd t (ts.zip c)).getD 0
theorem ziV:∀ {ts:List Tm} {c:List Int} {i:Nat} {t:Tm},ts.Nodup->ts[i]? = some t->gof ts c t=gl c i
 | [],_,_,_,_,h=>(by simp at h)
 | a :: ts,[],i,t,_,_=>by
  show (jd t ([]:List (Tm×Int))).getD 0=_;rw [ziP #[M]];rfl
 | a :: ts,b :: c,0,t,_,h=>by
  cases h;unfold gof;rw [dZ,bi,beq_self_eq_true];rfl
 | a :: ts,b :: c,i+1,t,hn,h=>by
  (have xC:=c8.mp hn)
  have h':ts[i]? = some t:=by simpa using h
  have ne:t≠a:=fun e=>xC.1 (by rw [<- e]; exact aA h')
  have:=ziV (c:=c) xC.2 h';unfold gof at this |-;rw [dZ,bi,show (t == a)=false by simpa using ne,this];unfold gl;simp
theorem zjL:∀ {ts:List Tm} {c:List Int} {t:Tm},gof ts c t≠0->∃ i,i < c.length/\ts[i]? = some t
 | [],_,_,h=>absurd rfl h
 | a :: ts,[],t,h=>absurd rfl h
 | a :: ts,b :: c,t,h=>by
  by_cases e:t=a
  ·exact⟨0,#[M],by rw [e]; rfl⟩
  ·unfold gof at h;rw [dZ,bi,show (t == a)=false by simpa using e] at h;obtain⟨i,h1,h2⟩:=zjL (ts:=ts) (c:=c) (t:=t) h;exact⟨i+1,by simpa using h1,by simpa using h2⟩
theorem zn1 {p:Int} (p0:0 < p) {ts:List Tm} {c:List Int} (hc:∀ z∈c,0<=z/\z < p) (t:Tm):0<=gof ts c t/\gof ts c t < p:=by
 unfold gof;cases h:jd t (ts.zip c) with
 | none=>exact⟨bM _,p0⟩
 | some z =>
  have:(t,z)∈ts.zip c:=by
   clear hc;induction ts generalizing c with
   | nil=>simp at h
   | cons a ts ih =>
    cases c with
    | nil=>simp at h
    | cons b c =>
     rw [dZ,bi] at h;cases e:(t == a) with
     | true =>
      rw [e] at h;cases h;rw [show t=a by simpa using e];exact aD
     | false =>
      rw [e] at h;exact au _ (ih h)
  exact hc z (gq this).2
theorem zcT {f:Tm->Int} {q:Tm->Bool}:∀ {l:List Tm},(∀ t∈l,q t=false->f t=0)->lsum l f=lsum (l.filter q) f
 | [],_=>rfl
 | a :: l,h=>by
  have ih:=zcT (l:=l) (f:=f) (q:=q) fun t ht=>h t (au _ ht)
  cases e:q a with
  | true=>rw [bb e,zbz,zbz,ih]
  | false=>rw [bd (by rw [e]; simp),zbz,h a aD e,ih]; lia
theorem zdV {l:List Tm} (h:l.Pairwise fun a b=>tz k a<=tz k b) {i:Nat} {a b:Tm} (ha:l[i]? = some a) (hb:l[j]? = some b) (qH:i<=j):tz k a<=tz k b:=by
 by_cases e:i=j
 ·subst e;rw [ha] at hb;cases hb;exact af _
 ·obtain⟨h1,e1⟩:=av.mp ha;obtain⟨h2,e2⟩:=av.mp hb;have:=cR.mp h i j h1 h2 #[O];rw [e1,e2] at this;exact this
theorem zpH {p:Int} (p0:0 < p) (hk:2<=k) {lR:List (Int×Int×Nat)} {S:Nat} {ts:List Tm} (xW:ts=#[PX].take (#[Pe].length+1)) {c:List Int} {m:Nat} (hc:IsP p (m+1) c) {top:Tm} (oW:ts[m]? = some top) (h1:gl c m=1)
  (hD:Dep p #[Pe].length #[NS] c) (hI:znY p #[Pe].length m #[NS]):Lst p k lR #[Sx] (gof ts c):=by
 have rn:ts <+: zZ k S:=by rw [xW]; exact List.take_prefix _ _
 have oz:ts.Nodup:=fM rn.sublist (zbK hk S);have Ew:ts.Pairwise fun a b=>tz k a<=tz k b:=eU rn.sublist (zcD hk S)
 have hmt:m < ts.length:=(av.mp oW).1;have vC:m < #[Pe].length+1:=by
  rw [xW,aG] at hmt;lia
 have qk:∀ t,gof ts c t≠0->∃ i,i<=m/\ts[i]? = some t:=fun t ht=>by
  obtain⟨i,h1,h2⟩:=zjL ht;exact⟨i,by rw [hc.1] at h1; lia,h2⟩
 have Gs:tz k top < S:=(zbp hk).mp (rn.sublist.subset (aA oW));have AF:∀ F:Tm->Int,lsum (zZ k (tz k top+1)) (fun t=>gof ts c t*F t)=lsum ts (fun t=>gof ts c t*F t):=fun F=>by
  rw [zcT (l:=zZ k (tz k top+1)) (q:=fun t=>decide (gof ts c t≠0)) fun t _ e=>by
    rw [show gof ts c t=0 by simpa using e]; simp,
   zcT (l:=ts) (q:=fun t=>decide (gof ts c t≠0)) fun t _ e=>by
    rw [show gof ts c t=0 by simpa using e]; simp]
  refine zkR (fM fz (zbK hk _)) (fM fz oz) fun t=>?_
  rw [bf,bf,zbp hk];constructor
  ·rintro⟨_,h⟩;obtain⟨i,_,hi⟩:=qk t (by simpa using h);exact⟨aA hi,h⟩
  ·rintro⟨_,h⟩;obtain⟨i,Cz,hi⟩:=qk t (by simpa using h);exact⟨iD (zdV Ew hi oW Cz),h⟩
 have CF:zZ k #[Sx] <+: zZ k S:=zfZ k (dY Gs);have hM:(zZ k #[Sx]).length<=m:=by
  refine kN fun mh=>?_
  have hS:#[PX][m]? = some top:=by
   obtain⟨r,hr⟩:=rn;rw [<- hr,bL hmt];exact oW
  obtain⟨r,hr⟩:=CF;rw [<- hr,bL mh] at hS;have:=(zbp hk).mp (aA hS);lia
 have Gu:∀ i t,(zZ k #[Sx])[i]? = some t->ts[i]? = some t:=fun i t e=>by
  have hi:=(av.mp e).1;obtain⟨r,hr⟩:=CF;have hS:#[PX][i]? = some t:=by rw [<- hr,bL hi]; exact e
  obtain⟨r2,yH⟩:=rn;rw [<- yH,bL #[O]] at hS;exact hS
 refine⟨zn1 p0 hc.2,⟨top,rfl,by rw [ziV oz oW,h1]; decide⟩,fun t ht=>?_,fun d hd=>?_,fun h hh t ht=>?_,#[O]⟩
 ·refine iF fun m5=>?_
  obtain⟨i,Cz,hi⟩:=qk t m5;have:=zdV Ew hi oW Cz;lia
 ·rw [AF];obtain⟨x,hx⟩:=cV.mp hd;have tj:=(av.mp hx).1;have:=hD x tj;rw [ab,zgK (l:=ts) (f:=fun t=>gof ts c t*(cv t d % p)) rfl fun i t e=>by rw [ziV oz e,zmr e hx]] at this;exact (zgJ fun t _=>#[Nx].mul #[NG].symm).trans this
 ·have hu:=hI (fun i=>if i < (zZ k #[Sx]).length then h (ts.getD i (0,0)) else 0) #[Qt]
  ·obtain⟨i,hi⟩:=cV.mp ((zbp hk).mpr ht);have xv:=(av.mp hi).1;have:=hu i #[O];rw [if_pos xv,aZ,Gu i t hi] at this;exact this
  ·have xS:#[Pe][x]? = some (#[Pe][x]'hx):=ag hx;rw [zgD hM fun i h2 _=>by rw [if_neg #[O]]; simp];rw [zgK (l:=zZ k #[Sx]) (f:=fun t=>h t*(cv t (#[Pe][x]'hx) % p)) rfl fun i t e=>by
    rw [if_pos (av.mp e).1,zmr (Gu i t e) xS,aZ,Gu i t e];rfl]
   exact (zgJ fun t _=>#[Nx].mul #[NG]).trans (hh _ (cG hx))
noncomputable def tri (w:Nat):Nat:=w*(w+1) / 2
theorem zms (w:Nat):tri (w+1)=tri w+(w+1):=by
 unfold tri;rw [show (w+1)*(w+1+1)=w*(w+1)+2*(w+1) by grind,Nat.add_mul_div_left _ _ #[D]]
theorem zh7 (n:Nat):∀ m,m<=n->((aN m).map fun u=>n - u).sum+tri (n - m)=tri n
 | 0,_=>by simp
 | m+1,h=>by
  have ih:=zh7 n m #[O];rw [cQ,am,fB];have:tri (n - m)=tri (n - (m+1))+(n - m):=by
   rw [show n - m=(n - (m+1))+1 by lia,zms]
  (simp only [aM,fG,bR,List.sum_nil])
  lia
theorem zn2 (q:Int×Int×Nat):(pco q).length=tri q.2.2:=by
 unfold pco;rw [List.length_flatMap];have:=zh7 q.2.2 q.2.2 (af _);have e:(aN q.2.2).map (fun u=>((aN (q.2.2 - u)).map fun v=>(⟨q.1,q.2.1,u,v⟩:Co)).length)=(aN q.2.2).map fun u=>q.2.2 - u:=bY fun u _=>by rw [ab,bF]
 rw [e];have t0:tri (q.2.2 - q.2.2)=0:=by rw [gD]; rfl
 lia
noncomputable def zcU (lR:List (Int×Int×Nat)):Nat:=(lR.map fun q=>tri q.2.2).sum
theorem zer:∀ lR,#[Pe].length=zcU lR
 | []=>rfl
 | q :: lR=>by
  have ih:=zer lR;unfold cos zcU at ih |-;rw [f6,ap,zn2,ih];simp
noncomputable def zgL (k s:Nat) (g:Tm->Int):List #[GE]:=(aN (s / (k - 1)+1)).map fun j=>(aN (s - (k - 1)*j+1)).map fun i=>g (i,j)
theorem zh8 (k s:Nat) (g:Tm->Int):(zgL k s g).length=s / (k - 1)+1:=by unfold zgL; rw [ab,bF]
theorem zmt {s:Nat} {g:Tm->Int} (h:j < s / (k - 1)+1):(zgL k s g)[j]? = some ((aN (s - (k - 1)*j+1)).map fun i=>g (i,j)):=by
 unfold zgL;rw [aj,db h];rfl
section
variable {K:ah}
theorem LsA.off {l:Addr} (h:LsA H ls vv) (hl:H l=some #[MS]):∀ (i:Nat) (b:Addr),ls[i]? = some b->b≠l:=by
 rintro i b hb rfl;obtain⟨v,_,hv⟩:=Paired.get h hb;rw [hl] at hv;cases ls with
 | nil=>simp at hb
 | cons x r =>
  cases v with
  | nil=>simp at hv
  | cons y z=>simp at hv
theorem zjM {many:Nat} {base:Int} {ds:List Int} (h:zgp many base ds) {i:Int} (h0:0<=i) (h1:i < many):∃ d,atI #[KK] i=some (.int d)/\0<=d/\d < base:=by
 obtain⟨n,rfl⟩:∃ n:Nat,i=n:=⟨i.toNat,#[O]⟩;have hn:n < ds.length:=by rw [h.1]; lia
 refine⟨ds[n]'hn,zaH (by rw [aj,ag hn]; rfl),h.2 _ (cG hn)⟩
theorem zpI {D:Addr} (hD:D∉ls) (k:∀ b o,b≠D->H b=some o->H' b=some o) (h:LsA H ls vv):LsA H' ls vv:=by
 induction h with
 | nil=>exact .nil
 | cons h1 _ ih=>exact .cons (k _ _ (fun e=>hD (by rw [<- e]; exact aD)) h1) (ih fun z=>hD (au _ z))
theorem zd1 {α β:Type} {R:α->β->Prop}:∀ {as:List α} {bs:List β} {x:α} {y:β},Paired R (as++[x]) (bs++[y])->Paired R as bs/\R x y
 | [],[],_,_,h=>by cases h with | cons h1 _=>exact⟨.nil,h1⟩
 | [],b :: bs,_,_,h=>by have:=bq h; simp at this
 | a :: as,[],_,_,h=>by have:=bq h; simp at this
 | a :: as,b :: bs,_,_,h=>by
  cases h with
  | cons h1 h2 =>
   obtain⟨p1,p2⟩:=zd1 h2;exact⟨.cons h1 p1,p2⟩
theorem zmu {d:Nat} {x:V} (hx:zfH x=true):EqD K H d x x true:=by
 have h:=EqD.flat (K:=K) (H:=H) (d:=d) (x:=x) (y:=x) hx hx;have e:eqV x x=true:=by
  cases x <;> simp_all [eqV,zfH]
 rw [e] at h;exact h
theorem zn3 {a b:Addr} (ha:H a=some (.tup #[Nd])) (hb:H b=some (.tup #[Nd])):EqD K H 8 #[M8] #[Ql] true:=by
 by_cases m5:a=b
 ·subst m5;exact .same
 ·have h:=EqD.La (K:=K) (H:=H) (d:=7) (e:=fun _=>true) m5 (lY.of ha) (lY.of hb) fun j x y h1 h2=>by
   rw [h1] at h2;cases h2;obtain⟨z,rfl,_⟩:=zaL h1;exact zmu rfl
  have e:((aN (min #[Nd].length #[Nd].length)).all (fun _=>true) && #[Nd].length == #[Nd].length)=true:=by simp
  rw [e] at h;exact h
theorem zn4 {rs Gv:List Addr} (h1:zbU H rs qs) (h2:zbU H Gv qs):∀ (j:Nat) x y,#[Oc][j]? = some x->(Gv.map V.ref)[j]? = some y->EqD K H 8 x y true:=fun j x y e1 e2=>by
 obtain⟨a,rfl,ha⟩:=zV e1;obtain⟨b,rfl,hb⟩:=zV e2;obtain⟨q,g1,g2⟩:=Paired.get h1 ha;obtain⟨q',g3,g4⟩:=Paired.get h2 hb;rw [g1] at g3;cases g3;exact zn3 g2 g4
theorem zn5 {xs:List V} :atI (xs++[v]) (-1)=some v:=by
 unfold atI ixN;rw [if_neg #[D],if_pos (by rw [ap]; show -((xs.length+1:Nat):Int)<=-1; lia)];show (xs++[v])[(-1+((xs++[v]).length:Int)).toNat]? = some v;rw [ap,show (-1+((xs.length + [v].length:Nat):Int)).toNat=xs.length by show (-1+((xs.length+1:Nat):Int)).toNat=_; lia,cr (af _),gD];rfl
end
end My
end
section
namespace L2
open PySem PySem.Spec PyProof.Rows PySem.W
variable {A:Around} {CX:CXT} {H:Hp} {M:Model} {N:List Str} {P:Program} {X:Cx} {cP:Addr} {fd:FuncData} {j k:Nat} {lN:List (Addr×Obj)} {mg:Str->Option Value} {name qual:Str} {ns:List Int} {oc pm:Value} {od:Option Addr} {pos:Pos} {s:Shared} {sc scope:Scope} {sl:Array #[Qd]} {sp:Sp} {w:World}
noncomputable def zfp (mg:Str->Option Value) (h:Heap):Prop:=∃ bm ob,mg "__builtins__" = some (.ref bm)/\bm≠builtinsNs/\h.get? bm=some ob/\ob.cls = .type "module"/\ob.dict=some builtinsNs/\ob.data = .plain
noncomputable def zjN (c:Addr) (q:Str):HO:=.ext fun h=>h.CodeRec #[PY] q
noncomputable def TbI (P:Addr) (pos:Pos) (q:Str) (H:Hp):Prop:=∃ ps,H P=some (.tbl ps)/\TriplesOk ps.toList/\(codeAmong pos ps.toList=none\/∃ c,codeAmong pos ps.toList=some #[PY]/\H c=some (zjN c q))
theorem zkS {σ:St} {c:Addr} {q:Str} (I:Inv X lN σ H s) (h:H c=some (zjN c q)):s.heap.CodeRec #[PY] q:=(I.hok c _ h).1
theorem zdF {a b:Int} {t u:Tok} {c:Value}:∀ {l:List Value},TriplesOk l->TriplesOk (l++[.int a t,.int b u,c])
 | [],_=>trivial
 | [_],h=>by
  unfold TriplesOk at h;split at h <;> first | trivial | (rename_i e; simp at e) | exact h.elim
 | [_,_],h=>by
  unfold TriplesOk at h;split at h <;> first | trivial | (rename_i e; simp at e) | exact h.elim
 | x :: y :: z :: l,h=>by
  unfold TriplesOk at h;split at h
  ·rename_i e; simp at e
  ·rename_i e
   simp only [List.cons.injEq] at e;obtain⟨rfl,rfl,rfl,rfl⟩:=e;exact zdF (l:=l) h
  ·exact h.elim
theorem zmv {σ:St} {c P:Addr} {q:Str} {params:Arguments} {body:Expr} {fl:Nat} {LI:List (Str×Addr)} {E:Value->Shared->Prop} {Q:Value->Shared->Prop}
  (I:Inv X lN σ H s) (uX:X.env.code = .ref c) (hK:codeHdIn X.K c P=true) (hB:zfp X.mg X.base) (oY:closureFor scope X.env=pure LI) (hT:TbI P pos q H)
  (h:∀ (f c':Addr) (ui:Value) (H':Hp) (h':Heap) (tk:Nat),Inv X lN σ H' { s with heap:=h',toks:=tk }->(∀ b,b≠P->∀ o,H b=some o->H' b=some o)->TbI P pos q H' ->
   h'.get? f=some (kla_obj name q params body scope LI ((X.mg "__name__").getD .none) c' ui)->h'.CodeRec (.ref c') q->s.heap.objs.size<=f->H' f=none->f≠X.env.locals->Q #[Q3] { s with heap:=h',toks:=tk }) :
  wpAny M A (makeFunction name q params (.expr body) scope X.env [] [] [] pos fl) Q E s:=by
 obtain⟨ps,hP,ht,hT⟩:=hT;have hg:s.heap.Ns mainGlobals X.mg:=I.mod.glob.keeps I.bk;have C:CodeHd s.heap c P:=codeHd_of_K I.kIn hK;have oP:s.heap.get? P=some (tabObj ps):=I.hok P _ hP;have hgP:mainGlobals≠P:=fun e=>by
  obtain⟨o,es,ep,e1,hd,_⟩:=hg;rw [e,oP] at e1; cases e1; cases hd
 have hb:s.heap.BuiltinsAt X.mg P:=by
  obtain⟨bm,ob,b1,b2,b3,b4,b5,b6⟩:=hB;have CG:=I.bk _ _ b3;refine⟨bm,ob,b1,b2,fun e=>?_,fun e=>?_,CG,b4,b5,b6⟩
  ·obtain⟨o,es,ep,e1,hd,_⟩:=hg;rw [e,e1] at CG; cases CG; rw [hd] at b6; cases b6
  ·rw [e,oP] at CG; cases CG; cases b4
 have hLP:X.env.locals≠P:=fun e=>by have:=I.free; rw [e,hP] at this; cases this
 obtain⟨m0,n0,_⟩:=id I.loc;have Ex:X.env.locals < s.heap.objs.size:=n0.lt;rcases hT with hT | ⟨c0,hT,AE⟩
 ·refine kla_makeFunction (mg:=X.mg) oY I.ok.glob hg uX C oP ht hT hgP hb fun c' ui h' tk hx pf mh AG wK=>?_
  have AH:H c'=none:=I.hok.fresh pf;have CH:c'≠P:=fun e=>by rw [e,hP] at AH; cases AH
  have k1:∀ b o,b≠P->s.heap.get? b=some o->(h'.push (kla_obj name q params body scope LI ((X.mg "__name__").getD .none) c' ui)).get? b=some o:=fun b o hb e=>ai _ (hx b o hb e)
  have CI:(h'.push (kla_obj name q params body scope LI ((X.mg "__name__").getD .none) c' ui)).get? P=some (tabObj (ps++#[MW])):=ai _ wK;have yN:(h'.push (kla_obj name q params body scope LI ((X.mg "__name__").getD .none) c' ui)).CodeRec (.ref c') q:=AG.push _;have hsz:s.heap.objs.size<=h'.objs.size:=aV pf (dY mh);have u1:∀ b,b≠P->b≠c'->lP (lP H P (.tbl (ps++#[MW]))) c' (zjN c' q) b=H b:=fun b h1 h2=>by rw [zn h2,zn h1]
  have old:∀ b o,s.heap.get? b=some o->b≠c':=fun b o e=>a8 (ba (aF e) pf)
  have vD:∀ b o,H b=some o->b≠c':=fun b o e z=>by rw [z,AH] at e; cases e
  have I2:Inv X lN σ (lP (lP H P (.tbl (ps++#[MW]))) c' (zjN c' q)) { s with heap:=h'.push (kla_obj name q params body scope LI ((X.mg "__name__").getD .none) c' ui),toks:=tk }:=by
   refine I.step (g':=s.gens) (d':=s.drawn) (ch:=[]) (fun _ z=>nomatch z) (fun b o _ _ _ e n=>k1 b o (fun z=>by rw [z,hP] at n; cases n) e) (fun b o _ _ _ e n=>⟨o.slots,k1 b o (fun z=>by rw [z,hP] at n; cases n) e⟩)
    (fun b o _ e n=>by rw [u1 b (fun z=>by rw [z,hP] at n; cases n) (old b o e)]; exact n) (fun b o _ e=>?_) (fun b xs e=>?_) (fun b o u e=>?_) (fun b qs e=>?_) #[Os] #[Rs] I.bare
   ·by_cases hb:b=P
    ·rw [hb]; exact⟨_,CI⟩
    ·exact⟨o,k1 b o hb e⟩
   ·rw [u1 b (fun z=>by rw [z,hP] at e; cases e) (vD b _ e)]; exact e
   ·rw [u1 b (fun z=>by rw [z,hP] at e; cases e) (vD b _ e)]; exact e
   ·by_cases hb:b=P
    ·subst hb;rw [hP] at e; cases e;exact⟨_,by rw [zn (dq CH),zc]⟩
    ·exact⟨#[],by rw [u1 b hb (vD b _ e),e]; simp⟩
   ·obtain⟨o,es,ep,ho,r⟩:=hm;exact⟨o,es,ep,k1 _ o hLP ho,r⟩
   ·by_cases hbc:b=c'
    ·subst hbc;rw [zc] at e; cases e;obtain⟨cc,oc,vs,t,e2,yu,hd,hv⟩:=yN;cases e2;exact⟨⟨_,oc,vs,t,rfl,yu,hd,hv⟩,⟨oc,yu⟩,fun h1 h2 ⟨cc,o1,vs1,t1,e3,Ay,r1⟩ kk=>by cases e3; exact⟨_,o1,vs1,t1,rfl,kk _ Ay,r1⟩⟩
    ·rw [zn hbc] at e;by_cases Gw:b=P
     ·subst Gw;rw [zc] at e; cases e;exact CI
     ·rw [zn Gw] at e;refine #[QI].KO (fun d v hd r=>k1 d v (fun z=>?_) r) (fun d r=>?_) fun d xs r=>?_
      ·rcases hd with hd | hd
       ·exact Gw (hd.symm.trans z)
       ·rw [z,hP] at hd; cases hd
      ·rw [u1 d (fun z=>by rw [z,hP] at r; cases r) (vD d _ r)]; exact r
      ·rw [u1 d (fun z=>by rw [z,hP] at r; cases r) (vD d _ r)]; exact r
  refine h h'.objs.size c' ui _ _ tk I2 (fun b hb o e=>by rw [u1 b hb (vD b _ e)]; exact e) ⟨ps++#[MW],by rw [zn (dq CH),zc],?_,.inr ⟨c',?_,zc⟩⟩ (aE _ rfl) yN hsz ?_ ?_
  ·rw [bO]; exact zdF ht
  ·rw [bO]; exact codeAmong_snoc _ ht hT
  ·rw [u1 h'.objs.size (fun z=>absurd (show h'.objs.size < s.heap.objs.size from z ▸ aF oP) (Nat.not_lt.mpr hsz)) (de mh)];exact I.hok.fresh hsz
  ·exact de (ba Ex hsz)
 ·refine kla_makeFunctionHit (mg:=X.mg) oY I.ok.glob hg uX C oP ht hT hb fun ui h' tk hk hsz=>?_
  have k2:∀ b o,s.heap.get? b=some o->(h'.push { cls:=.type "function",data:=.func (kla_fn name q params body scope LI ((X.mg "__name__").getD .none) (.ref c0) ui) }).get? b=some o:=fun b o e=>ai _ (hk b o e)
  have I2:Inv X lN σ H { s with heap:=h'.push { cls:=.type "function",data:=.func (kla_fn name q params body scope LI ((X.mg "__name__").getD .none) (.ref c0) ui) },toks:=tk } :=
   I.un (Un.kept k2) (I.hok.kept k2)
  exact h h'.objs.size c0 ui H _ tk I2 #[NK] ⟨ps,hP,ht,.inr ⟨c0,hT,AE⟩⟩ (aE _ rfl) ((zkS I AE).keeps k2) hsz (I.hok.fresh hsz) (de (ba Ex hsz))
structure Mg (sc:Scope) (x:Str) (ar:Arguments):Prop where
 kind:sc.kind = .function
 co:sc.isCoroutine=false
 gen:sc.isGenerator=false
 loc:sc.names.lookup x=some .local
 Mb:∀ y∈sc.names,y.2≠.cell
 bind:∀ (name q:Str) (body:Expr) (cl:List (Str×Addr)) (pm cd ct u:Value),bindArgs (kla_fn name q ar body sc cl pm cd ct) ⟨[u],[]⟩=pure [(x,u)]
 dflt:∀ env,defaultsOf ar env=([],[])
 LI:∀ env,closureFor sc env=pure []
noncomputable def zpJ (P:Addr) (pos:Pos) (q:Str) (te:TE):TE:=fun σ H Q=>te σ H fun x H1=>∃ (l:Addr) (bs:List Addr),x = .ref l/\H1 l=some #[At]/\bs.length < 64/\(∀ b∈bs,∃ u v n,H1 b=some (.tup [u,v,.int n]))/\TbI P pos q H1 /\
 ∀ (D:Addr) (su:List Addr) (H2:Hp),su.Perm bs->(∀ b,b≠P->∀ o,H1 b=some o->H2 b=some o)->TbI P pos q H2->H2 D=none->Q #[M6] (lP H2 D #[O6])
theorem zf1:∀ {rs:List Addr} {us:List Value},zU #[Oc] us->us=rs.map aX
 | [],_,.nil=>rfl
 | r :: rs,_,.cons h t=>by cases h; rw [zf1 t]; rfl
theorem zf2:∀ (rs:List Addr),zU #[Oc] (rs.map aX)
 | []=>.nil
 | _ :: rs=>.cons rfl (zf2 rs)
theorem zn6 {f c' a:Addr} {q x:Str} {ar:Arguments} {ui:Value} {p1 p2 p3 p4:Pos} {lQ:Array Value} {n:Int} {t:Tok} {Q:Value->Shared->Prop} {E:Value->Shared->Prop}
  (S:Mg sc x ar) (hx:(x == ("__debug__" : Str))=false) (Gx:A.depth < recursionLimit) (lim:s.heap.NoLimit)
  (ho:s.heap.get? f=some (kla_obj name q ar #[xL] sc [] pm c' ui)) (tf:s.heap.CodeRec (.ref c') q)
  (ht:IsTup s.heap a lQ) (hi:lQ[2]? = some (.int n t)) (hz:lQ.size=3)
  (h:∀ (h':Heap) (tk:Nat) (t':Tok),(∀ b o,s.heap.get? b=some o->h'.get? b=some o)->Q (.int (-n) t') { s with heap:=h',toks:=tk }) :
  wpAny #[Ph] A (call #[Q3] [.ref a]) Q E s:=by
 refine jx (kla_callFunE Gx ho rfl S.co S.gen rfl tf ?_);rw [S.bind];refine ao (wpAny_newFunctionEnv S.Mb (fun y hy=>?_) (fun h₁ wJ oj=>⟨lim.fresh _ oj,?_⟩) S.kind)
 ·have e:y=(x,aX a):=by simpa using hy
  rw [e]; exact S.loc
 have k1:∀ b o,s.heap.get? b=some o->h₁.get? b=some o:=fun b o e=>oj.extBut b o (a8 (aF e)) (ai _ e)
 refine kla_codeExpr (UnaryOp_ (jy (jw (gn S.kind S.loc wJ (v:=.ref a) ?_ (j0 ?_)) hx)))
 ·simp
 have Bx:IsTup h₁ a lQ:=by obtain⟨o,e,r⟩:=ht; exact⟨o,k1 _ _ e,r⟩
 refine f' (x:=.int n t) Bx.typeIs slot_tuple_getitem.lookup (jI (j:=2) (Q:=fun r s'=>r = .int n t/\_) Bx #[D] #[D] (by rw [hz]; rfl) hi ⟨rfl,neg_int ?_⟩) rfl;exact h _ _ _ k1
theorem zmw (g:Addr->Int):∀ rs:List Addr,(rs.map fun b=>- g b).length=(rs.map aX).length:=fun rs=>by rw [ab,ab]
theorem zmx {X:Cx} {P c:Addr} {e:Expr} {te:TE} {x:Str} {ar:Arguments} {sc:Scope} {p pos kp lp p1 p2 p3 p4:Pos} {j:Nat} (uX:X.env.code = .ref c) (hK:codeHdIn X.K c P=true) (hB:zfp X.mg X.base) (S:Mg sc x ar) (hx:(x == ("__debug__" : Str))=false)
  (Gx:X.A.depth < recursionLimit) (hg:Gl X "sorted") (hm:X.mg "sorted" = none) (he:PE X e te)
  (qZ:backTo pos (starEach [e] X.env) = [#[Id]]:=by rfl) :
  PE X (.Call (.Name "sorted" p) [e] [⟨some "key",.Lambda ar #[xL] sc lp,kp⟩] pos) (zpJ P lp (X.env.qual++"<lambda>") te):=by
 intro lN s σ H Q I h;refine eG (zbr I hg hm jk ?_);refine callWith_kw ?_ (by rw [qZ]; rfl) (by rw [qZ]; rfl);rw [qZ];refine dt (thn #[No] fun v s1 ⟨y,H1,I1,r1,l,bs,ey,hl,h64,hbs,hT,q1⟩=>?_);subst ey;obtain rfl:v=aX l:=r1;refine ed (kws_cons (kla_eval (S.dflt _) (zmv I1 uX hK hB (S.LI _) hT fun f c' ui H2 h2 tk I2 s2 o7 hf AG hfs Bi hfL=>kws_nil ?_)));show wpAny _ _ (call (.builtin "sorted") [.ref l] [(bD "key",.ref f)]) _ _ _;obtain⟨ps2,Gy,_⟩:=id o7;have neP:∀ b o,H1 b=some o->(∀ ps,o≠.tbl ps)->b≠P:=fun b o e1 nt z=>by
  obtain⟨ps,hP,_⟩:=hT;rw [z,hP] at e1;exact nt ps (aS e1).symm
 have oT:=s2 l (neP l _ hl (fun _ z=>by cases z)) _ hl;obtain⟨lQ,rv,pl,hz⟩:=I2.list (lO.of oT);have ev:=zf1 rv;subst ev;have Gz:∀ b∈bs,∃ u v n,H2 b=some (.tup [u,v,.int n]):=fun b hb=>by
  obtain⟨u,v,n,z⟩:=hbs b hb;exact⟨u,v,n,s2 b (neP b _ z (fun _ y=>by cases y)) _ z⟩
 obtain⟨m0,n0,_⟩:=id I2.loc;have hw:∃ g:Addr->Int,∀ b∈bs,∃ u v,H2 b=some (.tup [u,v,.int (g b)]):=by
  refine⟨fun b=>match H2 b with | some (.tup [_,_,.int n])=>n | _=>0,fun b hb=>?_⟩;obtain⟨u,v,n,z⟩:=Gz b hb;refine⟨u,v,?_⟩;simp only [z]
 obtain⟨g,hgw⟩:=hw;have N0:=Att.K1 (L:=X.env.locals) hfL hf;have GA:=I2.ok.mod.nolimit;have bsk:∀ (h3:Heap) (own:List (Addr×Obj)),News (Att.Kt h2) X.env.locals h3 (([]++(f,kla_obj "<lambda>" (X.env.qual++"<lambda>") ar #[xL] sc [] ((X.mg "__name__").getD .none) c' ui) :: Att.ledger h2 X.env.locals f)++own) ->
   ∀ b o,b≠X.env.locals->h2.get? b=some o->h3.get? b=some o:=fun h3 own N b o hb e=>by
  by_cases CJ:b=f
  ·subst CJ;rw [hf] at e; cases e;exact (N (b,_) (aL _ (aD ..))).1
  ·exact (N (b,o) (aL _ #[Tf])).1
 have Bh:∀ b o,H2 b=some o->b≠X.env.locals:=fun b o e z=>by have:=I2.free; rw [<- z,e] at this; cases this
 refine ksk_sorted (b:=false) (f:=.ref f) (vs:=bs.map aX) (kz:=bs.map fun b=>- g b) (Att.Md n0) N0 pl.isList (zmw g bs) (by rw [ab]; exact h64) (ksk_s1 _ _) (fun _=>ksk_l1 _ _) (fun _=>ksk_t1 _ _) (fun i v k hv hk h3 tk3 own F3 N3=>?_) fun D h3 tk3 out ce F3 N3 hD ko=>?_
 ·rw [aj] at hv hk;cases eb:bs[i]? with
  | none=>rw [eb] at hv; cases hv
  | some b =>
   rw [eb] at hv hk;cases hv;cases hk;have AI:=aA eb;obtain⟨u,v,hH⟩:=hgw b AI;obtain⟨GB,rv3,Ey,_⟩:=I2.tuple (lY.of hH);have hl3:=rv3.length;obtain⟨u2,e2,t2,r2⟩:=rv3.get (i:=2) (x:=.int (g b)) rfl;have kk:=bsk h3 own N3;subst r2;refine zn6 S hx Gx ?_ (kk f _ hfL hf) ?_ (a:=b) (lQ:=GB.toArray) (n:=g b) (t:=t2) ?_ (by simpa using e2) (by rw [aq,<- hl3]; rfl) fun h4 tk4 t4 k4=>?_
   ·refine GA.keeps fun b o e=>kk b o ?_ ((I2.bs b o e).1)
    intro z;have e1:=(I2.ok.bs b o e).1;have:=ba (aF e1) I2.ok.above;rw [z] at this;exact cg _ this
   ·obtain⟨cc,oc,vs,tt,e3,yu,hd,Ez⟩:=AG;cases e3;have ne:c'≠X.env.locals:=fun z=>by
     obtain⟨o',es,ep,rY,hd',_⟩:=n0;have CK:h2.get? X.env.locals=some oc:=by rw [<- z]; exact yu
     rw [rY] at CK; cases CK;rw [hd] at hd'; cases hd'
    exact⟨_,oc,vs,tt,rfl,kk _ _ ne yu,hd,Ez⟩
   ·obtain⟨o,eo,r⟩:=Ey;exact⟨o,kk _ _ (Bh b _ hH) eo,r⟩
   ·exact KskEnd.intro (F3.keeps k4) (fun p hp=>⟨k4 _ _ (N3 p hp).1,(N3 p hp).2⟩) fun p hp=>hp
 ·obtain⟨qs,hp,ho,hs⟩:=ko;have nE:out.toList.Perm (bs.map aX):=by
   rw [ho];have:=hp.map kW;rw [kT (by rw [ab,ab]; exact af _)] at this;exact this
  have N3':News (Att.Kt h2) X.env.locals h3 (([]++(f,kla_obj "<lambda>" (X.env.qual++"<lambda>") ar #[xL] sc [] ((X.mg "__name__").getD .none) c' ui) :: Att.ledger h2 X.env.locals f)++[]):=fun p hp=>N3 p (au _ (by simpa using hp))
  have kk:=bsk h3 [] N3';obtain⟨su,rQ,tw⟩:∃ su:List Addr,out.toList=su.map aX/\su.Perm bs:=by
   refine⟨out.toList.map fun v=>match v with | .ref a=>a | _=>0,?_,?_⟩
   ·rw [aR]
    conv=>lhs; rw [<- g8 out.toList]
    refine bY fun v hv=>?_
    obtain⟨a,_,rfl⟩:=aw.mp (nE.mem_iff.mp hv);rfl
   ·have:=nE.map fun v=>(match v with | .ref a=>a | _=>0:Addr)
    rw [aR] at this;have e:bs.map ((fun v=>(match v with | .ref a=>a | _=>0:Addr)) ∘ aX)=bs:=by
     conv=>rhs; rw [<- g8 bs]
     exact bY fun a _=>rfl
    rw [e] at this;exact this
  have GC:D≠X.env.locals:=(N3 (D,_) (aD ..)).2.1;have GD:∀ b o,b≠X.env.locals->h2.get? b=some o->b < D:=fun b o hb e=>by
   by_cases CJ:b=f
   ·exact CJ ▸ hD (f,_) (aD ..)
   ·exact hD (b,o) #[Tf]
  have EA:H2 D=none:=by
   cases e:H2 D with
   | none=>rfl
   | some u =>
    obtain⟨ob,z⟩:=zlN (I2.hok D u e);exact absurd (GD D ob GC z) (cg _)
  have I3:Inv X lN σ H2 { s1 with heap:=h3,toks:=tk3 }:=by
   refine Inv.step (s:={ s1 with heap:=h2,toks:=tk }) (g':=s1.gens) (d':=s1.drawn) (ch:=[]) I2 (fun _ z=>nomatch z) (fun b o hb _ _ e _=>kk b o hb e) (fun b o hb _ _ e _=>⟨o.slots,kk b o hb e⟩) #[NH] (fun b o _ e=>?_) #[Ot] #[NK] (fun b ps e=>⟨#[],by rw [e]; simp⟩) #[Os] #[Rs] I2.bare
   ·by_cases hb:b=X.env.locals
    ·obtain⟨o',es,ep,rY,_⟩:=F3.ns;exact⟨o',by rw [hb]; exact rY⟩
    ·exact⟨o,kk b o hb e⟩
   ·have e1:=hm.eq_nsMap;have e2:=Heap.Ns.eq_nsMap n0;have e3:m=m0:=e1.trans e2.symm;rw [e3]; exact F3.ns
   ·refine (I2.hok b u e).KO (fun d v hd r=>kk d v (fun z=>?_) r) (fun _ r=>r) fun _ _ r=>r
    rcases hd with hd | hd
    ·exact Bh b u e (hd.symm.trans z)
    ·exact Bh d _ hd z
  have lT:=tw.length_eq;refine⟨.ref D,_,I3.Lj (o:=.lst (su.map V.ref)) EA ?_ (dq GC) (fun y cc e z=>?_) (fun p hp z=>?_) ⟨?_,su.map aX,ce,zf2 su,?_⟩,rfl,q1 D su H2 tw s2 o7 EA⟩
  ·have hL0:=I2.ok.above;have h3:f < D:=hD (f,_) (aD ..);have h1:X.s₀.heap.objs.size<=s1.heap.objs.size:=I1.sz;exact aV h1 (aV hfs (dY h3))
  ·obtain⟨v,oc,q,_⟩:=I2.cell y cc e;refine absurd (GD cc oc (fun w=>?_) q) (by rw [z]; exact cg _);exact GC (z.symm.trans w)
  ·exact absurd (GD p.1 _ (I2.pin p hp).2.2.1 (I2.pin p hp).1) (by rw [z]; exact cg _)
  ·rw [ab]; have:=aW; lia
  ·rw [<- rQ];have:=(N3 (D,_) (aD ..)).1;rw [jG];exact this
theorem zkT {K:ah} {mb:Str->Option Value} {fa a TP:Addr} {x:Str} {s₁:Shared} {vs:List Value} 
  (KX:K.In s₁.heap) (wJ:s₁.heap.Ns mainGlobals mg) (hb:s₁.heap.Ns builtinsNs mb) (hbb:∀ x:Str,x≠"__name__"->mb x=bootBuiltins x) (GF:s₁.heap.NoLimit) (hg:s₁.gens = #[])
  (ha:s₁.heap.get? a=some { cls:=.type "list",data:=.seq vs.toArray }) (hi:IntsAre vs ns) (hl:ns.length<=sizeLine) (hr:KL k callerA)
  (hT:s₁.heap.get? TP=some (tabObj #[])) (CL:K.lookup TP=none) (hC:CodeHd s₁.heap cP TP) (AI:zfp mg s₁.heap)
  (F:∀ base:Heap,K.In base->base.Ns mainGlobals mg->zfp mg base->Jk P w K mg base CX k fa fd [x] sp) (CM:∀ (s:Shared) (u:Value),BindsTo s fd ⟨[u],[]⟩ [(x,u)])
  (vU:∀ H:Hp,H TP=some (.tbl #[])->lO K H a #[xz]->sp [.ref a] H (fun v _=>v = .bl true) fun _ _ _=>False)
  (GG:∀ H e s',CX [] H s₁ (fun _ _ _=>False) e s'->False) :
  codeAny #[Ph] callerA (.call (.ref fa) ⟨[.ref a],[]⟩) (fun r s'=>r = .ok (.ret #[Op])/\OldK s₁.heap s'.heap/\s'.os=s₁.os/\AllBare s'.gens) s₁:=by
 have rv:=zfJ hi;have GH:=hi.length;have GI:a≠TP:=fun e=>by rw [e,hT] at ha; cases ha
 have core:∀ H:Hp,(∀ b,b≠TP->H b=none\/∃ o xs,H b=some (.frz o #[Ob]))->H TP=some (.tbl #[])->lO K H a #[xz]->HOk P w H s₁.heap->(∀ b,H b≠none->b=a\/b=TP)->(H a≠none->K.lookup a=none) ->
   codeAny #[Ph] callerA (.call (.ref fa) ⟨[.ref a],[]⟩) (fun r s'=>r = .ok (.ret #[Op])/\OldK s₁.heap s'.heap/\s'.os=s₁.os/\AllBare s'.gens) s₁:=by
  intro H hO hHT hS hok hA hK;have sv:∀ {b:Addr} {o:Obj},s₁.heap.get? b=some o->H b=none->#[Ol].get? b=some o:=fun e n=>zk9 e n
  have yx:∀ {b:Addr} {o:Obj},s₁.heap.get? b=some o->(∀ xs n,o.data≠.seq xs n)->(∀ xs,o.data≠.fields xs)->H b=none:=fun {b o} e d1 d2=>by
   cases q:H b with
   | none=>rfl
   | some u =>
    rcases hA b (by rw [q]; simp) with e' | e'
    ·subst e';rw [ha] at e; cases e;exact absurd rfl (d1 _ _)
    ·subst e';rw [hT] at e; cases e;exact absurd rfl (d2 _)
  have EB:∀ {b:Addr} {m:Str->Option Value},s₁.heap.Ns b m->#[Ol].Ns b m:=fun {b m} ⟨o,es,ep,e,d,r⟩=>⟨o,es,ep,sv e (yx e (fun xs n z=>by rw [d] at z; cases z) (fun xs z=>by rw [d] at z; cases z)),d,r⟩
  have hKb:K.In #[Ol]:=fun b o e=>sv (KX b o e) (by
   cases q:H b with
   | none=>rfl
   | some u =>
    rcases hA b (by rw [q]; simp) with e' | e'
    ·subst e';rw [hK (by rw [q]; simp)] at e; cases e
    ·subst e';rw [CL] at e; cases e)
  have hM:Mod K mg #[Ol]:=⟨hKb,EB wJ,⟨mb,EB hb,hbb⟩,let ⟨mc,h1,h2⟩:=GF; ⟨mc,EB h1,h2⟩⟩;have hBb:zfp mg #[Ol]:=by
   obtain⟨bm,ob,b1,b2,b3,b4,b5,b6⟩:=AI;exact⟨bm,ob,b1,b2,sv b3 (yx b3 (fun xs n z=>by rw [b6] at z; cases z) (fun xs z=>by rw [b6] at z; cases z)),b4,b5,b6⟩
  have e0:Mn P w K mg #[Ol] callerA [] s₁ H:=⟨rfl,hM,fun b o e=>zm9 e,Nat.le_of_eq (zkc _ _),trivial,fun b hb=>absurd (show b∈([]:List Addr) from hb) #[M],hok,.of_eq hg⟩;refine eP ((F _ hKb (EB wJ) hBb).run callerA [] s₁ H ⟨[.ref a],[]⟩ [.ref a] [.ref a] _ _ hr e0 (CM s₁ #[M8]) (.cons rfl .nil) (vU H hHT hS)) fun r s' h=>?_
  cases r with
  | error e=>exact (GG H e s' h).elim
  | ok fl =>
   cases fl with
   | next=>exact eh h
   | brk=>exact eh h
   | cont=>exact eh h
   | ret u =>
    obtain⟨v,H',os,bare,un,CN,r',q⟩:=h;have q':v = .bl true:=q;subst q';obtain rfl:u=Value.bool true:=r';have keep:∀ b o,b≠TP->s₁.heap.get? b=some o->s'.heap.get? b=some o:=fun b o tN e=>by
     cases q:H b with
     | none=>exact un.keep b o e q (by intro z; exact absurd (show b∈([]:List Addr) from z) #[M]) #[M]
     | some u =>
      rcases hO b tN with z | ⟨ob,xs,z⟩
      ·rw [q] at z; cases z
      ·have z2:=un.LD b ob _ z;obtain⟨e1,_⟩:=hok b _ z;obtain⟨e2,_⟩:=CN b _ z2;rw [e] at e1; cases e1;exact e2
    obtain⟨more,hm⟩:=un.Lk TP #[] hHT;have uC:s'.heap.get? TP=some { cls:=.none,data:=.fields (#[]++more) }:=CN TP _ hm;refine⟨rfl,⟨fun b o e=>?_,fun b o e=>?_⟩,os,bare⟩
    ·by_cases tN:b=TP
     ·subst tN;rw [hT] at e; cases e;obtain⟨oc,vs',_,_,_,_,_,_,_,c1,c2,c3,c4,_⟩:=hC;exact .inr (.inl ⟨⟨cP,oc,vs',c1,c2,c3,c4⟩,rfl,#[],more,rfl,uC⟩)
     ·exact .inl (keep b o tN e)
    ·by_cases tN:b=TP
     ·subst tN; exact⟨_,uC⟩
     ·exact⟨o,keep b o tN e⟩
 have CP:∀ (H:Hp),zax P w H s₁.heap TP (.tbl #[]):=fun H=>hT
 cases hk:K.lookup a with
 | some o =>
  have e:=KX a o hk;rw [ha] at e;cases e;refine core (fun b=>if b=TP then some (.tbl #[]) else none) (fun b hb=>.inl (if_neg hb)) (if_pos rfl) (.inr ⟨_,vs.toArray,_,hk,rfl,rfl,rfl,by rw [aq,GH]; exact hl,by simpa using rv⟩) (fun b u z=>?_) (fun b z=>?_) fun z=>absurd (if_neg GI) z
  ·by_cases hb:b=TP
   ·have z':=(if_pos hb).symm.trans z;cases z';subst hb;exact CP _
   ·have z':=(if_neg hb).symm.trans z;cases z'
  ·by_cases hb:b=TP
   ·exact .inr hb
   ·exact absurd (if_neg hb) z
 | none =>
  have m5:∀ {o:HO},(if a=TP then some (HO.tbl #[]) else if a=a then some o else none)=some o:=fun {o}=>by rw [if_neg GI,if_pos rfl]
  refine core (fun b=>if b=TP then some (.tbl #[]) else if b=a then some (.frz { cls:=.type "list",data:=.seq vs.toArray } (.lst #[xz])) else none) (fun b tN=>?_) (if_pos rfl) (.inl (.inr ⟨{ cls:=.type "list",data:=.seq vs.toArray },m5⟩)) (fun b u z=>?_) (fun b z=>?_) fun _=>hk
  ·by_cases hb:b=a
   ·exact .inr ⟨_,_,by rw [if_neg tN,if_pos hb]⟩
   ·exact .inl (by rw [if_neg tN,if_neg hb])
  ·by_cases tN:b=TP
   ·have z':=(if_pos tN).symm.trans z;cases z';subst tN;exact CP _
   ·have z1:=(if_neg tN).symm.trans z;by_cases hb:b=a
    ·have z':=(if_pos hb).symm.trans z1;cases z';subst hb;exact⟨ha,by rw [ab]; exact hl,vs,_,rv,ha⟩
    ·have z':=(if_neg hb).symm.trans z1;cases z'
  ·by_cases tN:b=TP
   ·exact .inr tN
   ·by_cases hb:b=a
    ·exact .inl hb
    ·exact absurd (by rw [if_neg tN,if_neg hb]) z
theorem zmy {l:ja} {n:Nat} {q:Program} {loose:List Str} {XP:#[RJ]->Heap->Prop} {YP:World->Heap->Prop} {d:DefRec} {K:Params->ah} {CX:World->CXT} {sp:World->Sp} {x:Str} {TP:Addr}
  (hn:l.most=some n) (ug:n<=sizeLine) (B2:d.params.defaults = []) (hr:KL k callerA)
  (hY:∀ (w:World) (h:Heap),YP w h->#[Nn].In h/\h.get? TP=some (tabObj #[])) (CL:∀ w:World,#[Nn].lookup TP=none) (GJ:∀ w:World,codeHdIn #[Nn] cP TP=true)
  (F:∀ (w:World) (mg:Str->Option Value) (fa:Addr) (h:Heap),#[Nn].In h->h.Ns mainGlobals mg->mg d.name=some (.ref fa) ->
   ∃ fd:FuncData,(∀ (s:Shared) (u:Value),BindsTo s fd ⟨[u],[]⟩ [(x,u)]) /\
    ∀ base:Heap,#[Nn].In base->base.Ns mainGlobals mg->zfp mg base->Jk l.prog w #[Nn] mg base (CX w) k fa fd [x] (sp w))
  (vU:∀ (w:World) (H:Hp) (a:Addr) (ns:List Int),ns.length<=n->H TP=some (.tbl #[])->lO #[Nn] H a #[xz]->sp w [.ref a] H (fun v _=>v = .bl true) fun _ _ _=>False)
  (GG:∀ (w:World) (H:Hp) (s:Shared) (e:Value) (s':Shared),CX w [] H s (fun _ _ _=>False) e s'->False) :
  lH q loose XP YP l.row.toRowW d [] #[RF]:=by
 refine Att.K7 hn B2 fun w s₀ s₁ mg mb fa o pm cd doc a vs ns G Y ho hd tf vi Ac hints lT hg=>?_
 obtain⟨KX,hT⟩:=hY w _ Y;obtain⟨fd,hb,hF⟩:=F w mg fa _ KX G.T.g vi;exact zkT KX G.T.g G.T.b G.T.builtins G.T.nolimit hg Ac hints (aV lT ug) hr hT (CL w) (codeHd_of_K KX (GJ w)) G.T.bmain hF hb (fun H hO hS=>vU w H a ns lT hO hS) fun H e s'=>GG w H s₁ e s'
noncomputable def TabOf (K:ah) (f TP:Addr):Prop:=∀ o fd,K.lookup f=some o->o.data = .func fd->∃ c,fd.code = .ref c/\codeHdIn K c TP=true
theorem zpK {K:ah} {f c TP:Addr} (l:K.lookup f=some ⟨oc,od,.func fd,sl⟩) (e:fd.code = .ref c) (h:codeHdIn K c TP=true):TabOf K f TP:=fun o fd' l' d=>by
 rw [l] at l';cases l';cases d;exact⟨c,e,h⟩
theorem Fun.okT {K:ah} {base:Heap} {x:Str} {st:Stmt} {f:Addr} {ps:List Str} {TP:Addr} (F:Fun K x qual st f fd) (hT:TabOf K f TP) (S:IJ N ps (zi st)) (len:∀ vs H Q E,sp vs H Q E->vs.length=ps.length)
  (tE:∀ (cP:Addr) (hK:codeHdIn K cP TP=true) (A:Around) (outer:List Env) (s:Shared) (H:Hp) (vs:List V) (Q:VK) (E:XK),KL k (A.deeper (envOfC qual (zi st) s.heap.objs.size f (.ref cP)))->sp vs H Q E ->
   ∃ t,PSs (ziA CX0 P w K mg base N qual (zi st) f (.ref cP) A outer s H E).nox (zbC st) t/\t { nx:=fun _ H'=>Q .non H',rt:=Q } #[Qr] H):Jk P w K mg base CX0 (k+1) f fd ps sp:=by
 obtain⟨oc,od,kV,doc,pm,an,mE,ct,xE,rfl,lk,tf⟩:=F.ex;obtain⟨cP,hc,hK⟩:=hT _ _ lk rfl;have lV:mE = .ref cP:=hc;subst lV;refine zoA lk tf S len fun A outer s H vs Q E hr vU=>?_
 obtain⟨t,h,q⟩:=tE cP hK A outer s H vs Q E hr vU;exact⟨t,h.nox,q⟩
end L2
end
section
namespace My
open PySem L2 PyProof.Rows
variable {j k:Nat}
abbrev Wt3:=Int×Int×Int
noncomputable def pt (q:Wt3):Int×Int:=(q.1,q.2.1)
noncomputable def kw (q:Wt3):Int×Int:=(q.1,q.2.2)
noncomputable def za3 (p:Int) (f:List Int) (q:Wt3):Bool:=decide (zp p q.1 f=q.2.1)
noncomputable def wts (ts:List Wt3):Int:=(ts.map (·.2.2)).sum
noncomputable def wsum (p:Int) (f:List Int) (ts:List Wt3):Int:=wts #[Nh]
structure Wp (p:Int) (ts:List Wt3):Prop where
 nd:(ts.map pt).Nodup
 rg:∀ q∈ts,0<=q.1/\q.1 < p/\0<=q.2.1/\q.2.1 < p/\0<=q.2.2
theorem Wp.perm {p:Int} {ts us:List Wt3} (h:Wp p ts) (e:us.Perm ts):Wp p us:=⟨(e.map pt).nodup_iff.mpr h.nd,fun q hq=>h.rg q (e.mem_iff.mp hq)⟩
theorem Wp.sub {p:Int} {ts us:List Wt3} (h:Wp p ts) (e:us.Sublist ts):Wp p us:=⟨(e.map pt).nodup h.nd,fun q hq=>h.rg q (e.subset hq)⟩
theorem zes (a b:List Wt3):wts (a++b)=wts a+wts b:=by unfold wts; rw [am,fB]
theorem zpL {ts:List Wt3} (h:∀ q∈ts,0<=q.2.2):0<=wts ts:=by
 induction ts with
 | nil=>exact bM _
 | cons q r ih =>
  have h1:=ih fun x hx=>h x #[QT]
  have h2:=h q aD;show 0<=((q :: r).map (·.2.2)).sum
  (rw [aM,bR])
  unfold wts at h1;lia
theorem zn7 {ts us:List Wt3} (e:us.Sublist ts) (h:∀ q∈ts,0<=q.2.2):wts us<=wts ts:=by
 induction e with
 | slnil=>exact bM _
 | cons a e ih =>
  have:=ih fun x hx=>h x #[QT]
  have h2:=h a aD;unfold wts at *
  (rw [aM,bR])
  lia
 | cons_cons a e ih =>
  have:=ih fun x hx=>h x #[QT]
  unfold wts at *;rw [aM,bR,aM,bR];lia
theorem zh9 {a b:List Int} (h:a.Perm b):a.sum=b.sum:=by
 induction h with
 | nil=>rfl
 | cons x _ ih=>rw [bR,bR,ih]
 | swap x y l=>simp only [bR]; lia
 | trans _ _ i1 i2=>exact i1.trans i2
theorem zc7 {p:Int} {f:List Int} {ts us:List Wt3} (e:us.Perm ts):wsum p f us=wsum p f ts:=zh9 ((e.filter _).map _)
theorem zia (p:Int) (f:List Int) (a b:List Wt3):wsum p f (a++b)=wsum p f a+wsum p f b:=by unfold wsum; rw [bW,zes]
theorem zmz {p:Int} {f:List Int} {ts:List Wt3} (h:Wp p ts):(#[Nh].map (·.1)).Nodup:=by
 have h1:=(fz (p:=za3 p f) (l:=ts)).map pt |>.nodup h.nd
 rw [bw,bZ] at h1 |-;refine dF (fun {a b} ha hb n e=>n ?_) h1;have e1:=of_decide_eq_true (bf.mp ha).2;have e2:=of_decide_eq_true (bf.mp hb).2;unfold pt;rw [<- e1,<- e2,e]
noncomputable def zdG (d:List (Int×Int)) (x:Int):Option Int:=(d.find? fun e=>decide (e.1=x)).map (·.2)
noncomputable def zdW (d:List (Int×Int)) (x v:Int):List (Int×Int):=if (d.any fun e=>decide (e.1=x))=true then d.map (fun e=>if e.1=x then (e.1,v) else e) else d++[(x,v)]
noncomputable def zd9 (e:Int×Int):Key×V:=(bI e.1,V.int e.2)
theorem zjO (a x:Int):decide ((bI a:Key)=bI x)=decide (a=x):=by
 by_cases h:a=x
 ·rw [h]; simp
 ·rw [decide_eq_false h,decide_eq_false]; intro e; exact h (f8 e)
theorem zmA (d:List (Int×Int)) (x:Int):zaU (d.map zd9) (bI x)=(zdG d x).map V.int:=by
 induction d with
 | nil=>rfl
 | cons e r ih =>
  unfold zaU zdG at *;rw [aM,c9,c9];have:decide ((zd9 e).1=bI x)=decide (e.1=x):=zjO _ _;rw [this];cases decide (e.1=x) with
  | true=>rfl
  | false=>exact ih
theorem zmB (d:List (Int×Int)) (x v:Int):putK (d.map zd9) (bI x) (V.int v)=(zdW d x v).map zd9:=by
 have ha:((d.map zd9).any fun kv=>decide (kv.1=bI x))=d.any fun e=>decide (e.1=x):=by
  rw [List.any_map];congr 1;funext e;exact zjO _ _
 unfold putK zdW;rw [ha];split
 ·rw [aR,aR];refine bY fun e _=>?_
  show (if (zd9 e).1=bI x then _ else _)=zd9 (if e.1=x then _ else _);by_cases h:e.1=x
  ·rw [if_pos h,if_pos (show (zd9 e).1=bI x by unfold zd9; rw [h])]; rfl
  ·rw [if_neg h,if_neg (show ¬ (zd9 e).1=bI x from fun z=>h (f8 z))]
 ·rw [am]; rfl
noncomputable def mxS (d:List (Int×Int)) (q:Int×Int):List (Int×Int):=zdW d q.1 (if (zdG d q.1).getD 0 > q.2 then (zdG d q.1).getD 0 else q.2)
noncomputable def mxs (l:List (Int×Int)):List (Int×Int):=l.foldl mxS []
theorem ze0 (l:List (Int×Int)) (q:Int×Int):mxs (l++[q])=mxS (mxs l) q:=by unfold mxs; rw [f7]; rfl
theorem zkU (d:List (Int×Int)) (x v:Int):(zdW d x v).map (·.1)=if x∈d.map (·.1) then d.map (·.1) else d.map (·.1)++[x]:=by
 unfold zdW;have hm:(d.any fun e=>decide (e.1=x))=true↔x∈d.map (·.1):=by
  rw [cH];constructor
  ·rintro⟨e,h1,h2⟩;exact aw.mpr ⟨e,h1,of_decide_eq_true h2⟩
  ·intro h;obtain⟨e,h1,h2⟩:=aw.mp h;exact⟨e,h1,decide_eq_true h2⟩
 by_cases h:x∈d.map (·.1)
 ·rw [if_pos (hm.mpr h),if_pos h,aR];refine bY fun e _=>?_
  show (if e.1=x then (e.1,v) else e).1=e.1;split <;> rfl
 ·rw [if_neg (fun z=>h (hm.mp z)),if_neg h,am]; rfl
theorem zn8 {d:List (Int×Int)} (hn:(d.map (·.1)).Nodup) {e:Int×Int} (h:e∈d):zdG d e.1=some e.2:=by
 induction d with
 | nil=>cases h
 | cons a r ih =>
  unfold zdG at *;rw [c9]
  (rw [aM,c8] at hn)
  rcases (aB.mp h) with rfl | h
  ·simp
  ·have:decide (a.1=e.1)=false:=decide_eq_false fun z=>hn.1 (aw.mpr ⟨e,h,z.symm⟩)
   rw [this];exact ih hn.2 h
structure Mx (l d:List (Int×Int)):Prop where
 nd:(d.map (·.1)).Nodup
 up:∀ q∈l,∃ v,(q.1,v)∈d/\q.2<=v
 nn:∀ e∈d,0<=e.2
 ln:d.length<=l.length
theorem zn9 {l d:List (Int×Int)} (h:Mx l d) {q:Int×Int} (q0:0<=q.2):Mx (l++[q]) (mxS d q):=by
 obtain⟨M,hM⟩:∃ M,M=(if (zdG d q.1).getD 0 > q.2 then (zdG d q.1).getD 0 else q.2):=⟨_,rfl⟩;have e:mxS d q=zdW d q.1 M:=by rw [hM]; rfl
 have hq:q.2<=M:=by rw [hM]; split <;> lia
 have hg:∀ v,(q.1,v)∈d->v<=M:=fun v hv=>by
  rw [hM,zn8 h.nd hv];show v<=if v > q.2 then v else q.2;split <;> lia
 have hk:=zkU d q.1 M;have nC:∀ e',e'∈zdW d q.1 M->e'=(q.1,M)\/(e'∈d/\e'.1≠q.1):=fun e' he=>by
  unfold zdW at he;split at he
  ·obtain⟨a,h1,h2⟩:=aw.mp he;by_cases ha:a.1=q.1
   ·rw [if_pos ha,ha] at h2; exact .inl h2.symm
   ·rw [if_neg ha] at h2; subst h2; exact .inr ⟨h1,ha⟩
  ·rename_i hn
   rcases (aP.mp he) with he | he
   ·refine .inr ⟨he,fun z=>hn ?_⟩;rw [cH];exact⟨e',he,decide_eq_true z⟩
   ·exact .inl (by simpa using he)
 have qk:(q.1,M)∈zdW d q.1 M:=by
  unfold zdW;split
  ·rename_i hn
   obtain⟨a,h1,h2⟩:=cH.mp hn;have h2:=of_decide_eq_true h2;exact aw.mpr ⟨a,h1,by rw [if_pos h2,h2]⟩
  ·simp
 have hold:∀ a∈d,a.1≠q.1->a∈zdW d q.1 M:=fun a ha hn=>by
  unfold zdW;split
  ·exact aw.mpr ⟨a,ha,by rw [if_neg hn]⟩
  ·exact aL _ ha
 rw [e];refine⟨?_,fun r hr=>?_,fun e' he=>?_,?_⟩
 ·rw [hk];split
  ·exact h.nd
  ·rename_i hn
   rw [ck];exact⟨h.nd,#[M],fun a ha b hb z=>by
    have hb:b=q.1:=by simpa using hb
    exact hn (by rw [<- hb,<- z]; exact ha)⟩
 ·rcases aP.mp hr with hr | hr
  ·obtain⟨v,h1,h2⟩:=h.up r hr;by_cases hx:r.1=q.1
   ·rw [hx] at h1 |-;exact⟨M,qk,bQ h2 (hg v h1)⟩
   ·exact⟨v,hold _ h1 hx,h2⟩
  ·have hr:r=q:=by simpa using hr
   rw [hr];exact⟨M,qk,hq⟩
 ·rcases nC e' he with rfl | ⟨h1,_⟩
  ·exact bQ q0 hq
  ·exact h.nn e' h1
 ·have:=congrArg er hk;have hl:=h.ln;rw [ab] at this;rw [this,ap,cT];split
  ·rw [ab]; lia
  ·rw [ap,ab,cT]; lia
theorem zgM:∀ {l:List (Int×Int)} (n:Nat),(∀ q∈l,0<=q.2)->Mx (l.take n) (mxs (l.take n))
 | l,0,_=>by rw [c7]; exact⟨.nil,(fun q hq=>by cases hq),(fun e he=>by cases he),af _⟩
 | l,n+1,h=>by
  by_cases hn:n < l.length
  ·have e:l[n]? = some l[n]:=ag hn;rw [take_snoc e,ze0];exact zn9 (zgM n h) (h _ (cG hn))
  ·have e:l.take (n+1)=l.take n:=by rw [aH #[O],aH #[O]]
   rw [e];exact zgM n h
theorem zoL {l:List (Int×Int)} (h:∀ q∈l,0<=q.2):Mx l (mxs l):=by
 have:=zgM l.length h;rw [bC] at this;exact this
noncomputable def zgN (vs:List Int) (m:Nat) (v:Int):Prop:=∃ D:List Int,D.Perm vs/\(D.Pairwise fun a b=>b<=a)/\v=(D.take m).sum
theorem zf3:∀ {a b:List Int},a.Perm b->(a.Pairwise fun x y=>y<=x)->(b.Pairwise fun x y=>y<=x)->a=b
 | [],b,h,_,_=>by rw [h.symm.eq_nil]
 | x :: a,b,h,ha,hb=>by
  cases b with
  | nil=>cases h.eq_nil
  | cons y b =>
   have e:x=y:=by
    have h1:y∈x :: a:=h.mem_iff.mpr aD;have h2:x∈y :: b:=h.mem_iff.mp aD;rcases aB.mp h1 with h1 | h1
    ·exact h1.symm
    ·rcases aB.mp h2 with h2 | h2
     ·exact h2
     ·have l1:=(cZ.mp ha).1 y h1;have l2:=(cZ.mp hb).1 x h2;lia
   subst e;rw [zf3 (jr _ |>.mp h) (cZ.mp ha).2 (cZ.mp hb).2]
theorem zgN.one {vs us:List Int} {m:Nat} {v u:Int} (h:zgN vs m v) (h':zgN us m u) (e:vs.Perm us):v=u:=by
 obtain⟨D,a1,a2,rfl⟩:=h;obtain⟨D',b1,b2,rfl⟩:=h';rw [zf3 (a1.trans (e.trans b1.symm)) a2 b2]
theorem JW {D:List Int} {a:Int} (m:Nat) (h:0<=a) (hb:∀ x∈D,x<=a):(D.take m).sum<=((a :: D).take m).sum:=by
 cases m with
 | zero=>simp
 | succ m =>
  rw [gN,bR,eL,fB];cases e:D[m]? with
  | none=>simp; lia
  | some x =>
   have:=hb x (aA e);simp;lia
theorem ziW:∀ {D A R:List Int} {m:Nat},(A++R).Perm D->(D.Pairwise fun a b=>b<=a)->(∀ x∈D,0<=x)->A.length<=m->A.sum<=(D.take m).sum
 | [],A,R,m,h,_,_,_=>by
  have:=h.eq_nil;have e:A = []:=(List.append_eq_nil_iff.mp this).1;subst e;simp
 | a :: D,A,R,m,h,hD,h0,hm=>by
  have hd:=cZ.mp hD;by_cases ha:a∈A
  ·have p1:=gE ha;have hl:=p1.length_eq;rw [bu] at hl;have p2:(A.erase a++R).Perm D:=(jr a).mp (((p1.append_right R).symm).trans h);cases m with
   | zero=>lia
   | succ m =>
    have:=ziW (m:=m) p2 hd.2 (fun x hx=>h0 x #[QT]) #[O];rw [zh9 p1,bR,gN,bR];lia
  ·have hr:a∈R:=(aP.mp (h.mem_iff.mpr aD)).resolve_left ha;have p1:=gE hr;have p2:(A++R.erase a).Perm D:=(jr a).mp ((kY.symm).trans (((List.Perm.append_left A p1).symm).trans h));exact bQ (ziW p2 hd.2 (fun x hx=>h0 x #[QT]) hm) (JW m (h0 a aD) hd.1)
theorem zib:∀ {S d:List (Int×Int)},(S.map (·.1)).Nodup->(∀ e∈S,∃ v,(e.1,v)∈d/\e.2<=v)->∃ A R:List Int,(A++R).Perm (d.map (·.2))/\A.length=S.length/\(S.map (·.2)).sum<=A.sum
 | [],d,_,_=>⟨[],d.map (·.2),.refl _,rfl,bM _⟩
 | e :: S,d,hn,h=>by
  obtain⟨v,h1,h2⟩:=h e aD
  (rw [aM,c8] at hn)
  have p1:=gE h1;obtain⟨A,R,a1,a2,a3⟩:=zib (d:=d.erase (e.1,v)) hn.2 fun x hx=>by
   obtain⟨u,g1,g2⟩:=h x #[QT];refine⟨u,?_,g2⟩;rcases aB.mp (p1.mem_iff.mp g1) with z | z
   ·injection z with z1 z2
    exact absurd (aw.mpr ⟨x,hx,z1⟩) hn.1
   ·exact z
  refine⟨v :: A,R,?_,by rw [bu,bu,a2],by rw [aM,bR,bR]; lia⟩;exact (a1.cons v).trans (p1.map (fun x:Int×Int=>x.2)).symm
theorem zic {p:Int} {f:List Int} {ts:List Wt3} {m:Nat} {v:Int} (h:Wp p ts) (ht:zgN ((mxs #[Pg]).map (·.2)) m v) (hm:#[Nh].length<=m):wsum p f ts<=v:=by
 have BA:=zoL (l:=ts.map kw) fun q hq=>by
  obtain⟨x,hx,rfl⟩:=aw.mp hq;exact (h.rg x hx).2.2.2.2
 obtain⟨D,d1,d2,rfl⟩:=ht;obtain⟨A,R,a1,a2,a3⟩:=zib (S:=#[Nh].map kw) (d:=mxs #[Pg]) (by rw [aR]; exact zmz h) fun e he=>by
  obtain⟨x,hx,rfl⟩:=aw.mp he;exact BA.up _ (aw.mpr ⟨x,(bf.mp hx).1,rfl⟩)
 rw [ab] at a2;have h3:=ziW (m:=m) (a1.trans d1.symm) d2 (fun x hx=>by
  obtain⟨e,he,rfl⟩:=aw.mp (d1.mem_iff.mp hx);exact BA.nn e he) #[O]
 rw [aR] at a3;exact bQ a3 h3
abbrev Pk:=Nat×List Wt3
noncomputable def pkP (p:Int) (k:Nat) (S:List Wt3):List Int×List Int:=zgm p k (S.map pt)
structure Mf (p:Int) (ts:List Wt3) (j:Nat) (c:Pk):Prop where
 len:c.2.length=j
 sub:c.2.Sublist (ts.take c.1)
 L4:Pts p (c.2.map pt)
 le:c.1<=ts.length
theorem zmC {p:Int} (hp:p∈zq) :∀ {S:List (Int×Int)},Pts p S->S.length<=k->Nw p k S (zgm p k S):=by
 intro S;generalize hr:S.reverse=R;induction R generalizing S with
 | nil =>
  intro _ _;have:S = []:=by simpa using hr
  subst this;exact zeG hp k
 | cons q R ih =>
  intro hP hl;have e:S=R.reverse++[q]:=by rw [<- List.reverse_reverse S,hr,List.reverse_cons]
  subst e;have h1:=ih (S:=R.reverse) #[M] ⟨by have:=hP.nd; rw [am,ck] at this; exact this.1,fun x hx=>hP.rg x (aL _ hx)⟩ (by rw [ap] at hl; lia);obtain⟨a,b,c,d⟩:=hP.rg q #[M];have h2:=zgo hp h1 (q:=q) (by rw [ap,cT] at hl; lia) a b c d (by have:=hP.apart (done:=R.reverse) (q:=q) (rest:=[]); exact this);unfold zgm at *;rw [f7];exact h2
theorem zid (p:Int) (k:Nat) (S:List Wt3) (q:Wt3):pkP p k (S++[q])=zcI p (pkP p k S) (pt q):=by
 unfold pkP zgm;rw [am,f7];rfl
theorem zoa {p:Int} (hp:p∈zq) {S:List Wt3} (hP:Pts p (S.map pt)) (hl:S.length<=k) {x:Int} (x0:0<=x) (x1:x < p):zp p x (pkP p k S).2=0↔x∈S.map (·.1):=by
 have hw:=zmC hp (k:=k) hP (by rw [ab]; exact hl);constructor
 ·intro h;by_cases hx:x∈S.map (·.1)
  ·exact hx
  ·have:=(zgn hp hw (q:=(x,0)) x0 x1 fun a ha=>by
    obtain⟨b,hb,rfl⟩:=aw.mp ha;obtain⟨r1,r2,_⟩:=hP.rg _ ha;exact⟨r1,r2,fun e=>hx (aw.mpr ⟨b,hb,e⟩)⟩).1
   have h':zp p x (zgm p k (S.map pt)).2=0:=h;have this':0 < zp p x (zgm p k (S.map pt)).2:=this;lia
 ·intro h;obtain⟨b,hb,e⟩:=aw.mp h;have rp:=zC hp;have h1:=(hw.van x).trans (Cg.of_eq (zdj ⟨pt b,aw.mpr ⟨b,hb,rfl⟩,e⟩));exact h1.eq (zbD #[O] _) (zbE #[O] _) (bM _) #[O]
theorem zkV {p:Int} {ts:List Wt3} (h:Wp p ts) {c:Pk} (hc:Mf p ts j c) {a:Nat} {q:Wt3} (ha:c.1<=a) (hq:ts[a]? = some q) (hx:q.1∉c.2.map (·.1)):Mf p ts (j+1) (a+1,c.2++[q]):=by
 have mh:=(av.mp hq).1;refine⟨by show (c.2++[q]).length=_; rw [ap,hc.len]; rfl,?_,?_,mh⟩
 ·show (c.2++[q]).Sublist (ts.take (a+1));rw [take_snoc hq];exact (hc.sub.trans (List.take_sublist_take_left ha)).append (.refl _)
 ·show Pts p ((c.2++[q]).map pt);refine⟨?_,fun x tj=>?_⟩
  ·rw [aR,am,ck];refine⟨by have:=hc.L4.nd; rw [aR] at this; exact this,#[M],fun x tj y hy e=>?_⟩;have:y=q.1:=(by simpa using hy:y=(pt q).1);exact hx (by rw [<- this,<- e]; exact tj)
  ·obtain⟨z,hz,rfl⟩:=aw.mp tj;rcases (aP.mp hz) with hz | hz
   ·exact hc.L4.rg _ (aw.mpr ⟨z,hz,rfl⟩)
   ·have e:z=q:=by simpa using hz
    subst e;obtain⟨b1,b2,b3,b4,_⟩:=h.rg z (aA hq);exact⟨b1,b2,b3,b4⟩
structure LP (ts:List Wt3) (R:Nat->Int) (T:Int) (c:Pk) (res:List Pk):Prop where
 src:∀ d∈res,∃ a q,c.1<=a/\ts[a]? = some q/\q.1∉c.2.map (·.1)/\d=(a+1,c.2++[q])
 all:∀ a q,c.1<=a->ts[a]? = some q->q.1∉c.2.map (·.1)->(∀ i,c.1<=i->i<=a->T<=wts c.2+R i)->(a+1,c.2++[q])∈res
 ln:res.length<=ts.length
structure Pks (p:Int) (ts:List Wt3) (k:Nat) (T:Int) (j:Nat) (sx:List Pk):Prop where
 ok:∀ c∈sx,Mf p ts j c
 all:∀ f,T<=wsum p f ts->k<=#[Nh].length->∃ s,s<=ts.length/\(s,#[Pf].filter #[Pu])∈sx
 ln:sx.length<=ts.length ^ j
theorem zie {ts:List Wt3} {R:Nat->Int} {T:Int} {cs:List Pk} {rs:List (List Pk)} (hp:Paired (LP ts R T) cs rs):rs.flatten.length<=cs.length*ts.length:=by
 induction hp with
 | nil=>simp
 | cons h1 _ ih =>
  rw [dI,ap,bu,kJ,Nat.one_mul];have:=h1.ln;lia
theorem zkW {p:Int} {ts:List Wt3} {T:Int}:Pks p ts k T 0 [(0,[])]:=by
 refine⟨fun c hc=>?_,fun f _ _=>⟨0,bg _,#[M]⟩,#[M]⟩;have e:c=(0,[]):=by simpa using hc
 subst e;exact⟨rfl,gh _,⟨.nil,fun q hq=>by cases hq⟩,bg _⟩
theorem zf4 {α:Type} {h:α->Bool}:∀ {l:List α},l.filter h≠[]->∃ a q b,l=a++q :: b/\h q=true/\a.filter h = []
 | [],e=>absurd rfl e
 | x :: l,e=>by
  by_cases hx:h x=true
  ·exact⟨[],x,l,rfl,hx,rfl⟩
  ·rw [bd hx] at e;obtain⟨a,q,b,rfl,h1,h2⟩:=zf4 e;exact⟨x :: a,q,b,rfl,h1,by rw [bd hx]; exact h2⟩
theorem zmD {p:Int} {ts:List Wt3} (hW:Wp p ts) {T:Int} (hj:j < k) {R:Nat->Int} (hR:∀ f i,i < ts.length->wsum p f (ts.drop i)<=R i) {sx:List Pk} (h:Pks p ts k T j sx) {qv:List (List Pk)} (hr:Paired (LP ts R T) sx qv):Pks p ts k T (j+1) qv.flatten:=by
 refine⟨fun d hd=>?_,fun f hT hk=>?_,?_⟩
 ·obtain⟨res,h1,h2⟩:=kZ.mp hd;obtain⟨i,hi,e⟩:=cK h1;have nY:i < sx.length:=by rw [hr.length]; exact hi
  obtain⟨r',e1,hn⟩:=Paired.get hr (ag nY);rw [ag hi,e] at e1;cases e1;obtain⟨a,q,g1,g2,g3,rfl⟩:=hn.src d h2;exact zkV hW (h.ok _ (cG nY)) g1 g2 g3
 ·obtain⟨s,hs,hm⟩:=h.all f hT hk;have hok:=h.ok _ hm;have lT:(#[Pf].filter #[Pu]).length=j:=hok.len;have esp:ts.filter #[Pu]=#[Pf].filter #[Pu]++#[PP].filter #[Pu]:=by rw [<- bW,bT]
  have m5:#[PP].filter #[Pu]≠[]:=fun e=>by
   rw [esp,e,bH] at hk;lia
  obtain⟨a,q,b,e1,hq,ha⟩:=zf4 m5;have nH:ts[s+a.length]? = some q:=by
   have:#[PP][a.length]? = some q:=by rw [e1]; simp
   rw [eJ] at this;exact this
  have htk:(ts.take (s+a.length+1)).filter #[Pu]=#[Pf].filter #[Pu]++[q]:=by
   have e2:ts.take (s+a.length+1)=ts.take s++(a++[q]):=by
    rw [jL,List.take_add,e1];congr 1;rw [List.take_append];simp [aH]
   rw [e2,bW,bW,ha,i5,bb hq];rfl
  obtain⟨i,hi,ei⟩:=cK hm;obtain⟨res,g1,hn⟩:=Paired.get hr (ag hi);rw [ei] at hn;refine⟨s+a.length+1,(av.mp nH).1,kZ.mpr ⟨res,aA g1,?_⟩⟩;rw [htk];refine hn.all (s+a.length) q (gg _ _) nH (fun hx=>?_) fun i h1 h2=>?_
  ·have nd:=zmz (f:=f) (hW.sub (ci (s+a.length+1) ts));rw [htk,am,ck] at nd;exact nd.2.2 q.1 hx q.1 #[M] rfl
  ·have xv:i < ts.length:=fK h2 (av.mp nH).1;have h3:=hR f i xv;obtain⟨c,rfl⟩:∃ c,i=s+c:=⟨i - s,#[O]⟩;have e3:wsum p f #[PP]=wsum p f (ts.drop (s+c)):=by
    have e4:ts.drop s=#[PP].take c++ts.drop (s+c):=by rw [<- gV,bT]
    have e5:(#[PP].take c).filter #[Pu] = []:=by
     rw [e1,List.take_append_of_le_length #[O]];exact eK.mpr fun x hx=>eK.mp ha x (gB hx)
    rw [e4,zia]
    conv=>lhs; rw [show wsum p f (#[PP].take c)=0 by unfold wsum; rw [e5]; rfl]
    lia
   have e6:wsum p f ts=wts (#[Pf].filter #[Pu])+wsum p f #[PP]:=by
    unfold wsum;rw [esp,zes]
   show T<=wts (#[Pf].filter #[Pu])+R (s+c);lia
 ·have:=zie hr;have h2:=gF ts.length h.ln;rw [j9];lia
theorem zmE {p:Int} (hp:p∈zq) {ts:List Wt3} (hW:Wp p ts) {c:Pk} (h:Mf p ts k c):IsP p k (pkP p k c.2).1/\wts c.2<=wsum p (pkP p k c.2).1 ts:=by
 have hw:=zmC hp (k:=k) h.L4 (by rw [ab,h.len]; exact af _);refine⟨⟨hw.lc,hw.rc⟩,?_⟩;have hs:c.2.Sublist (ts.filter (za3 p (pkP p k c.2).1)):=by
  have h1:=(h.sub.trans (ci _ _)).filter (za3 p (pkP p k c.2).1);rw [(jV (p:=za3 p (pkP p k c.2).1)).mpr (fun q hq=>decide_eq_true (hw.hit (pt q) (aw.mpr ⟨q,hq,rfl⟩)))] at h1;exact h1
 exact zn7 hs fun q hq=>(hW.rg q (bf.mp hq).1).2.2.2.2
theorem zob {p:Int} (hp:p∈zq) {ts:List Wt3} (hW:Wp p ts) {T:Int} {sx:List Pk} (h:Pks p ts k T k sx) {f:List Int} (hf:IsP p k f) (hT:T<=wsum p f ts) (hk:k<=#[Nh].length):∃ c∈sx,(pkP p k c.2).1=f:=by
 obtain⟨s,_,hm⟩:=h.all f hT hk;have hok:=h.ok _ hm;refine⟨_,hm,?_⟩;have hl:((#[Pf].filter #[Pu]).map pt).length=k:=by rw [ab]; exact hok.len
 have:=zl7 hp hok.L4 (q:=f) (by rw [hl]; exact hf.1) hf.2 fun a ha=>by
  obtain⟨q,hq,rfl⟩:=aw.mp ha;exact of_decide_eq_true (bf.mp hq).2
 refine Eq.trans ?_ this.symm;show (zgm p k ((#[Pf].filter #[Pu]).map pt)).1=thr p ((#[Pf].filter #[Pu]).map pt);unfold thr;rw [hl]
end My
end
section
namespace PySem
open PyProof.Rows
section
variable {prog:Program} {w:World} {A:Around} {E:Value->Shared->Prop} {s:Shared}
theorem zgO {T:String} {r d:Addr} {n:Nat} {P:Nat->Value->Prop} {OK:Heap->Prop} {ns:List Int} {Q:Value->Shared->Prop} (K:lC prog w T r d n P OK) (hh:A.handled=none) (hok:OK s.heap) (hn:n < 64)
  (hP:∀ vs:List Value,vs.length=n->(∀ (j:Nat) v,vs[j]? = some v->P j v)->IntsAre vs ns)
  (h:∀ (h':Heap) (tk:Nat) (out:Array Value) (uj:List Int) (e:Nat) (D:Addr),(∀ c o,s.heap.get? c=some o->h'.get? c=some o)->(∀ c o,s.heap.get? c=some o->c < D)->h'.get? D=some (seqObj "list" out e)->IntsAre out.toList uj->uj.Perm ns->(uj.Pairwise fun x y=>y<=x)->Q #[M6] { s with heap:=h',toks:=tk }) :
  wpAny #[pc] A (call (.builtin "sorted") [.ref r] [(bD "reverse",.bool true)]) Q E s:=by
 (refine call_function_entry_kw kind_sorted plain_sorted entry_sorted (args_sorted_rev _ _) ?_)
 unfold Builtin.«sorted»; refine ae (m:=checkCount "sorted" 1 1 _) (ao ?_);refine ae (jT K (by simp [hh]) hok (by rw [aW]; lia) fun h1 tk acc kk tL=>?_);have hl:acc.toList.length=n:=(bG ..).trans tL.1;have hI:IntsAre acc.toList ns:=hP acc.toList hl fun j v e=>tL.2 j v (by rw [<- be]; exact e)
 refine ae (jO ?_ (hsz:=by rw [hl,aW]; lia));have xD:(h1.push (seqObj "list" acc.toList.toArray 0)).get? h1.objs.size=some (seqObj "list" acc.toList.toArray 0):=aE _ rfl;refine ae (cm (wpAny_call_entry_kw slot_list_sort ⟨_,xD,rfl⟩ entry_list_sort (list_sort_tree_rev xD hI #[O] fun out uj a1 a2 a3=>#[PJ]) (args_list_sort_rev _ _)));obtain⟨e,he⟩:=sortedHeap_at (out:=out) xD;refine ao ⟨_,rfl,h _ tk out uj e h1.objs.size (fun c o x=>?_) (fun c o x=>aF #[Sy]) he a1 a2 a3⟩;have mh:c < h1.objs.size:=aF #[Sy];rw [sortedHeap_old (a8 mh) (by rw [bj]; exact cA mh)];exact ai _ #[Sy]
end
end PySem
namespace L2
open PySem PySem.Spec PyProof.Rows
variable {X:Cx} {pos:Pos}
noncomputable def zoc (td:TE):TE:=fun σ H Q=>td σ H fun x H1=>∃ (a:Addr) (kvs:List (Key×V)) (ns:List Int),x = .ref a/\H1 a=some #[Qn]/\kvs.map (·.2)=ns.map V.int/\ns.length < 64 /\
 ∀ (l:Addr) (uj:List Int),H1 l=none->uj.Perm ns->(uj.Pairwise fun x y=>y<=x)->Q #[Nv] (lP H1 l (.lst (uj.map V.int)))
theorem zkX {o:Expr} {td:TE} {p apos m6 kp vp:Pos} (hc:X.calm=true) (hg:Gl X "sorted") (hm:X.mg "sorted" = none) (ho:PE X o td)
  (tG:attributeBase o "values" X.env #[Qc]=eval o X.env:=by rfl) (tH:(apos.endLine == m6.line)=true:=by rfl) :
  PE X (.Call (.Name "sorted" p) [.Call (.Attribute o "values" apos) [] [] m6] [⟨some "reverse",.Constant #[Op] 0 vp,kp⟩] pos) (zoc td):=by
 intro lN s σ H Q I h;refine eG (zbr I hg hm jk ?_);refine callWith_kw ?_;show wpAny _ _ (spliced ((false,eval (.Call (.Attribute o "values" apos) [] [] m6) X.env) :: [])) _ _ s;refine dt ?_;refine wpAny_Call_method0_late tG tH (thn #[Og] fun v s1 ⟨x,H1,I1,r1,a,kvs,ns,ex,hH,wJ,h64,q1⟩=>?_);subst ex;obtain rfl:v=aX a:=r1;obtain⟨t1,t2,_⟩:=zlR I1 (.inl ⟨kvs,.inl hH⟩);obtain⟨z,hd,vs,rel,dd⟩:=zoH I1.hok hH;refine⟨"dict","dict.values",iW,iP,PySem.F.type_dict_values,t1,t2,gb rfl (PySem.evalArgs_none ?_)⟩;refine j7 iP dd.typeIs PySem.F.entry_dict_values (PySem.F.args_dict_values_1 _) (meets_dict_values #[Qu] a hd) ⟨⟨vs,dd⟩,?_⟩;refine ed (kws_cons (Constant_bool (kws_nil ?_)));obtain⟨ep,nH⟩:=dd.dictAt;have lT:vs.length=ns.length:=by
  have e1:=rel.length;have e2:=congrArg er wJ;rw [ab,ab] at e2;lia
 obtain⟨s2,e2⟩:∃ s2,s2=({ s1 with heap:=s1.heap.push { cls:=.type "dict_values",data:=.fields #[.ref a] } }:Shared):=⟨_,rfl⟩;have hv:s2.heap.get? s1.heap.objs.size=some { cls:=.type "dict_values",data:=.fields #[.ref a] }:=by rw [e2]; exact aE _ rfl
 have k2:∀ c o,s1.heap.get? c=some o->s2.heap.get? c=some o:=fun c o x=>by rw [e2]; exact ai _ x
 have hu:s2 = { s1 with heap:=s2.heap }:=by rw [e2]
 show wpAny _ _ (call (.builtin "sorted") [.ref s1.heap.objs.size] [(bD "reverse",.bool true)]) _ _ _;rw [<- e2];refine zgO (ns:=ns) (PySem.W.kdl_values (knd:=zar X.prog X.w) (d:=a) (r:=s1.heap.objs.size) (kvs:=vs) (ep:=ep)) (I1.ok.hd hc) ⟨⟨_,hv,rfl,rfl⟩,nH.keep k2⟩ #[O] (fun us hl hj=>?_) fun h' tk out uj e D kk hD AD hI hp GL=>?_
 ·rw [PySem.W.kdl_vals_eq us hl hj];exact znz rel wJ
 ·have hle:s1.heap.objs.size<=D:=dY (hD _ _ hv);have hr:=zgv hI;have hlen':uj.length=ns.length:=hp.length_eq;have I2:Inv X lN σ (lP H1 D (.lst (uj.map V.int))) { s1 with heap:=h',toks:=tk } :=
   I1.laid (fun c o x=>kk c o (k2 c o x)) hle ⟨by rw [ab,aW]; lia,out.toList,e,hr,by rw [jG]; exact AD⟩
  have e3:({ s2 with heap:=h',toks:=tk }:Shared) = { s1 with heap:=h',toks:=tk }:=by rw [e2]
  rw [e3];exact⟨.ref D,_,I2,rfl,q1 D uj #[NX] hp GL⟩
end L2
end
section
namespace My
open PySem L2 PyProof.Rows
variable {H H':Hp} {Q:VK} {cs pl:List Int} {fd:FuncData} {g:TG} {j k:Nat} {lR:List (Int×Int)} {ls:List Addr} {rw:List #[ww]} {te:TE} {y:V}
noncomputable def top (i:Nat):Stmt:=PySem.Challenge.pw_slipcurve_k37_whole_guesses_as_rows.main.body.getD i (.Pass ⟨0,0,0,0⟩)
abbrev zcE:Stmt:=top 1
abbrev zc8:Stmt:=top 2
abbrev zbu:Stmt:=top 3
abbrev ze1:Stmt:=top 4
abbrev zc9:Stmt:=top 5
abbrev zbv:Stmt:=top 11
abbrev zaM:Stmt:=top 12
abbrev zba:Stmt:=top 13
abbrev zcp:Stmt:=top 14
abbrev zaw:Stmt:=top 15
abbrev zbL:Stmt:=top 16
abbrev za4:Stmt:=top 18
abbrev ze2:Stmt:=top 19
abbrev zbf:Stmt:=top 21
abbrev zav:Stmt:=top 22
abbrev zbw:Stmt:=top 23
abbrev zbM:Stmt:=top 24
abbrev zaC:Stmt:=top 26
abbrev zbN:Stmt:=top 27
abbrev zb5:Stmt:=top 28
abbrev zbg:Stmt:=top 29
abbrev zbV:Stmt:=top 30
abbrev zaj:Stmt:=top 31
abbrev zda:Stmt:=top 32
abbrev zcF:Stmt:=top 33
abbrev zbX:Stmt:=top 35
abbrev zbh:Stmt:=top 36
abbrev zb1:Stmt:=top 37
abbrev zdH:Stmt:=top 39
abbrev zdb:Stmt:=top 40
abbrev zcV:Stmt:=top 41
abbrev zdc:Stmt:=top 42
abbrev za5:Stmt:=top 43
abbrev zdI:Stmt:=top 44
abbrev zcq:Stmt:=top 45
structure Adr where
 tab:Addr
 KW:Addr
 Me:Addr
 L3:Addr
 Ka:Addr
 inverse:Addr
 JC:Addr
 Ml:Addr
 through:Addr
 Jg:Addr
 JD:Addr
 JB:Addr
 without:Addr
 IU:Addr
 Jv:Addr
 Ji:Addr
 fits:Addr
 Jq:Addr
 Je:Addr
 Jj:Addr
 JV:Addr
 IP:Addr
 JN:Addr
 JM:Addr
 Jd:Addr
 JE:Addr
 IM:Addr
 LA:Addr
 Kb:Addr
 KJ:Addr
 Jf:Addr
 Kc:Addr
 Lc:Addr
 KG:Addr
 Lb:Addr
 KE:Addr
 Jh:Addr
 LN:Addr
 law:Addr
abbrev FbQ (K:ah) (x:Str) (s:Stmt) (a:Addr) (p:List Str):Prop:=∃ fd,Fun K x x s a fd/\Binds K fd p []
structure Txt (K:ah) (mg:Str->Option Value) (base:Heap) (t:Adr):Prop where
 bm:zfp mg base
 tb:TabOf K t.IM t.tab
 Ki:mg "len" = none
 IS:mg "range" = none
 LM:mg "list" = none
 Ks:mg "tuple" = none
 MF:mg "min" = none
 L5:mg "max" = none
 ML:mg "int" = none
 LU:mg "zip" = none
 Jo:mg "enumerate" = none
 Mv:mg "sum" = none
 MC:mg "dict" = none
 ME:mg "set" = none
 Ln:mg "reversed" = none
 Kx:mg "sorted" = none
 LY:mg "ValueError" = none
 LX:mg "SlipError" = some (.ref t.KW)
 Mi:mg "TooFew" = some (.ref t.Me)
 L8:mg "NoCurve" = some (.ref t.L3)
 sb:lI K t.KW (.type "BaseException")=some true
 Jn:mg "value_at" = some (.ref t.Ka)
 KU:mg "inverse" = some (.ref t.inverse)
 Ju:mg "times_root" = some (.ref t.JC)
 LQ:mg "bent" = some (.ref t.Ml)
 Lr:mg "through" = some (.ref t.through)
 JF:mg "moved_powers" = some (.ref t.Jg)
 KR:mg "numbers_at" = some (.ref t.JD)
 KQ:mg "vectors_of" = some (.ref t.JB)
 Lq:mg "without" = some (.ref t.without)
 J9:mg "first_relation" = some (.ref t.IU)
 K3:mg "first_sum" = some (.ref t.Jv)
 JG:mg "heard_points" = some (.ref t.Ji)
 Lx:mg "fits" = some (.ref t.fits)
 KA:mg "first_terms" = some (.ref t.Jq)
 JS:mg "least_curve" = some (.ref t.Je)
 JH:mg "check_curves" = some (.ref t.Jj)
 K4:mg "curve_for" = some (.ref t.JV)
 IT:mg "weighted_points" = some (.ref t.IP)
 Kh:mg "weight_in" = some (.ref t.JN)
 K2:mg "weight_of" = some (.ref t.JM)
 JR:mg "most_weight" = some (.ref t.Jd)
 KS:mg "next_picks" = some (.ref t.JE)
 J8:mg "picked_weights" = some (.ref t.IM)
 Lw:mg "heavy" = some (.ref t.LA)
 Lh:mg "curve_by" = some (.ref t.Kb)
 Ly:mg "choices" = some (.ref t.KJ)
 KD:mg "all_through" = some (.ref t.Jf)
 JY:mg "all_near" = some (.ref t.Kc)
 LL:mg "_law_cell" = some (.ref t.Lc)
 JT:mg "_law_draws" = some (.ref t.KG)
 LK:mg "_law_code" = some (.ref t.Lb)
 Lu:mg "_law_value" = some (.ref t.KE)
 Kq:mg "_law_polynomial" = some (.ref t.Jh)
 Lv:mg "_law_row" = some (.ref t.LN)
 Jc:FbQ K "value_at" zcE t.Ka ["p","polynomial","x"]
 JU:FbQ K "inverse" zc8 t.inverse ["p","number"]
 IX:FbQ K "times_root" zbu t.JC ["p","polynomial","root"]
 Lf:FbQ K "bent" ze1 t.Ml ["p","polynomial","vanishing","point"]
 Kk:FbQ K "through" zc9 t.through ["p","points"]
 Jl:FbQ K "moved_powers" zbv t.Jg ["p","by","most","kept"]
 Jx:FbQ K "numbers_at" zaM t.JD ["p","terms","point"]
 Jw:FbQ K "vectors_of" zba t.JB ["p","terms","points"]
 Kj:FbQ K "without" zcp t.without ["p","vector","times","other"]
 IZ:FbQ K "first_relation" zaw t.IU ["p","vectors"]
 JK:FbQ K "first_sum" zbL t.Jv ["p","terms","points"]
 IV:FbQ K "heard_points" za4 t.Ji ["code","row"]
 Ld:FbQ K "fits" ze2 t.fits ["code","row","polynomial"]
 Js:FbQ K "first_terms" zbf t.Jq ["k","many"]
 Jb:FbQ K "least_curve" zav t.Je ["p","k","points"]
 IW:FbQ K "check_curves" zbw t.Jj ["k"]
 JL:FbQ K "curve_for" zbM t.JV ["code","row","m"]
 IL:FbQ K "weighted_points" zaC t.IP ["code","guesses"]
 Jr:FbQ K "weight_in" zbN t.JN ["p","points","polynomial"]
 JJ:FbQ K "weight_of" zb5 t.JM ["code","guesses","polynomial"]
 Ja:FbQ K "most_weight" zbg t.Jd ["points","many"]
 Jy:FbQ K "next_picks" zbV t.JE ["p","points","rests","least","pick"]
 IY:FbQ K "picked_weights" zaj t.IM ["p","k","points","least"]
 K6:FbQ K "heavy" zda t.LA ["code","guesses","least"]
 J0:FbQ K "curve_by" zcF t.Kb ["code","guesses"]
 Km:FbQ K "choices" zbX t.KJ ["things","many"]
 Jt:FbQ K "all_through" zbh t.Jf ["code","points"]
 J3:FbQ K "all_near" zb1 t.Kc ["code","row","t"]
 KI:FbQ K "_law_cell" zdH t.Lc ["script","k"]
 Jz:FbQ K "_law_draws" zdb t.KG ["script","k","many","base"]
 KH:FbQ K "_law_code" zcV t.Lb ["script","at","most_k","most_n"]
 Kl:FbQ K "_law_value" zdc t.KE ["p","polynomial","x"]
 Jm:FbQ K "_law_polynomial" za5 t.Jh ["draws","p","k"]
 K5:FbQ K "_law_row" zdI t.LN ["script","at","code"]
section
variable {P:Program} {w:World} {K:ah} {mg:Str->Option Value} {base:Heap} {t:Adr}
theorem zkY:IJ ["script","k"] ["script","k"] (zi zdH):=#[S]
theorem zkZ (T:Txt K mg base t) (F:Fun K "_law_cell" "_law_cell" zdH t.Lc fd):Jk P w K mg base CX0 1 t.Lc fd ["script","k"] (zkr K):=by
 refine F.ok zkY #[re] #[mt]
 ·obtain⟨a,ns,k,rfl,_⟩:=h; rfl
 ·obtain⟨a,ns,k,rfl,hS,lT,k0,k1,q⟩:=h;refine zaW ?_; intro zX;refine⟨_,#[zd,#[zbo,#[zH,#[zey],#[AT],#[P6],(zY _)],#[zl,#[zN,#[zR,#[zG],#[AC],#[AT]]]],#[zam]],#[zd,#[zbo,#[zH,#[zex],#[P6],#[zg],(zY _)],#[zl,#[zN,#[Py]]],#[zam]],#[zl,#[zN,#[zj,#[zL],#[zj,#[zO],#[zR,#[zG],#[AC],#[zj,#[zO],#[AT],#[P6]]],#[zg]],#[Nb]]]]]],?_⟩;refine zgc ?_; intro qB pF;refine⟨_,rfl,_,rfl,a,_,rfl,.inl hS,_,_,rfl,rfl,_,rfl,?_⟩; rw [ab];refine zaO (fun h=>?_) (fun h=>?_)
  ·have h:k < (ns.length:Int):=by simpa using h
   obtain⟨c,hc⟩:=zeh k0 h;exact⟨_,rfl,_,rfl,a,_,k,_,rfl,rfl,hS,hc,q c⟩
  ·have h:¬ k < (ns.length:Int):=by simpa using h
   refine⟨_,rfl,a,_,rfl,.inl hS,rfl,_,rfl,?_⟩;rw [ab];refine zaO (fun h2=>?_) (fun h2=>?_)
   ·exact#[SR]
   ·have h2:¬ V.int (ns.length:Int)=V.int 0:=by simpa using h2
    have CQ:0 < (ns.length:Int):=by
     have:(ns.length:Int)≠0:=fun z=>h2 (by rw [z])
     lia
    have m0:=aO k (show (ns.length:Int)≠0 by lia);have m1:=aK k CQ;obtain⟨c,hc⟩:=zeh m0 m1;refine⟨_,rfl,_,rfl,_,rfl,a,_,rfl,.inl hS,_,_,rfl,rfl,by rw [ab]; exact CQ,a,_,_,_,rfl,rfl,hS,by rw [ab]; exact hc,_,_,rfl,rfl,(by show (0:Int) < 1000003; decide),?_⟩;exact#[SR]
theorem zak:IJ ["script","k","many","base","primes","cell","rest","row","j","mash"] ["script","k","many","base"] (zi zdb):=#[S]
theorem zdm (T:Txt K mg base t) (F:Fun K "_law_draws" "_law_draws" zdb t.KG fd):Jk P w K mg base CX0 2 t.KG fd ["script","k","many","base"] (ziG K):=by
 obtain⟨vE,tO,qK⟩:=T.KI;have wL:=zkZ (P:=P) (w:=w) (base:=base) T tO;refine F.ok zak #[re] #[mt]
 ·obtain⟨a,ns,k,many,base,rfl,_⟩:=h;rfl
 ·obtain⟨a,ns,k,many,bs,rfl,hS,lT,k0,k1,m0,m1,b0,b1,q⟩:=h;refine zaW ?_; intro zX;refine⟨_,#[zd,#[zm,4,zak.nd,#[A],#[zaS,#[zcO,#[zcO,#[zcO,#[zcO,#[zcO,#[za,#[zg],#[Ix]]]]]]]]],#[zd,#[zm,5,zak.nd,#[A],#[zo,wL,#[sn],T.LL,tO.kp,qK,#[zJ],#[Nc]]],#[zd,#[zm,6,zak.nd,#[A],#[zg]],#[zd,#[zbo,#[zH,#[zi6],#[Pc],#[zj,(@zo4 _),#[zg],#[zg]],(zY _)],#[zl,#[zm,6,zak.nd,#[A],#[Pc]]],#[zam]],#[zd,#[zm,7,zak.nd,#[A],#[NT]],#[zd,#[zaF,bp,#[QX],#[zf,8,zak.nd,#[A]],#[zd,#[zm,9,zak.nd,#[A],#[zj,#[zW],#[zj,#[zO],#[Pc],#[zR,#[zcv],#[M5],#[zj,#[zO],#[PV],#[zg]]]],#[zj,#[zL],#[zg],#[zj,#[zW],#[zj,#[zW],#[zg],#[PV]],#[PV]]]]],#[zd,#[zm,9,zak.nd,#[A],#[zj,#[zL],#[zj,#[zL],#[Qk],#[zj,#[zW],#[zj,#[zW],#[zg],#[R6]],#[R6]]],#[Nb]]],#[zd,#[zm,9,zak.nd,#[A],#[zj,#[zO],#[Qk],#[zR,#[zcv],#[M5],#[zj,#[zO],#[zj,#[zL],#[zj,#[zW],#[zg],#[PV]],#[AT]],#[zg]]]]],#[zd,#[zm,9,zak.nd,#[A],#[zj,#[zO],#[zj,#[zW],#[zj,#[zW],#[Qk],#[Qk]],#[Qk]],#[zR,#[zcv],#[M5],#[zj,#[zO],#[R6],#[zg]]]]],#[zd,#[zbo,#[zH,#[zhh],#[On],#[zg],(zY _)],#[zl,#[zm,9,zak.nd,#[A],#[On]]],#[zam]],#[zd,#[zbR,#[zdX,cq,dG,dH,#[zci],#[RY],#[ya,#[zj,#[zO],#[Qk],#[MX]]]]],#[zl,#[zm,6,zak.nd,#[A],#[zj,#[zct],#[On],#[MX]]]]]]]]]]],#[zl,#[zN,#[RY]]]]]]]]],?_⟩;refine zpc ?_; intro GN EC yO uD qB pF;refine⟨by show 8<=sizeLine; rw [aW]; decide,fun tp ht=>?_⟩;have s1:zr H (lP H tp (.tup znp)):=zb ht;refine⟨_,rfl,_,rfl,a,ns,k,rfl,s1.seq hS,lT,k0,k1,fun c=>?_⟩;refine⟨_,rfl,_,_,rfl,rfl,⟨#[D],#[D],#[D]⟩,_,_,rfl,rfl,_,rfl,?_⟩;refine zaO (fun _=>#[PJ]) #[wP]
  all_goals
   refine⟨bg _,fun l hl=>?_⟩;have BB:H l=none:=zr.free s1 hl;have pR:tp≠l:=zu zc hl;refine⟨_,rfl,many,rfl,#[O],#[O],zbk (lo:=0) (n:=many.toNat) (fun i σ H'=>∃ (r:Int) (v8 v9:Option V) (ds:List Int),σ = [some #[M8],some (.int k),some (.int many),some (.int bs),some (.ref tp),some (.int c),some (.int r),some #[Nv],v8,v9]/\zgp i bs ds/\zr H H'/\H' tp=some (.tup znp)/\H' l=some #[QG])
    ⟨_,none,none,[],rfl,⟨rfl,#[M]⟩,zah s1 BB,by rw [zn pR]; exact zc,zc⟩ ?_ ?_⟩
   ·rintro zD zT i σ H2 hi ⟨r,v8,v9,ds,rfl,hd,s2,CS,xX⟩;obtain⟨q1,e1,q1p,q1l⟩:=zeH (0+(i:Int));obtain⟨q2,e2,q2p,q2l⟩:=zeH (3*(0+(i:Int))+k);obtain⟨q3,e3,q3p,q3l⟩:=zeH (0+(i:Int)+5);have c1:=aO c (show q1≠0 by lia);have c2:=aK c q1p;have nY:(i:Int) < 1000:=by lia
    refine⟨_,rfl,_,rfl,_,rfl,_,_,rfl,rfl,(by show (0:Int) < 8; decide),tp,_,_,_,rfl,rfl,lY.of CS,e1,_,_,rfl,rfl,q1p,_,rfl,_,_,rfl,rfl,.inl #[FB],_,rfl,_,_,rfl,rfl,.inl #[wr],_,_,rfl,rfl,_,_,rfl,rfl,.inl #[wr],?_⟩;refine⟨_,rfl,_,rfl,_,_,rfl,rfl,_,_,rfl,rfl,.inl #[FB],_,rfl,_,_,rfl,rfl,_,_,rfl,rfl,.inl #[wr],_,_,rfl,rfl,_,rfl,_,_,rfl,rfl,.inl #[FB],_,_,rfl,rfl,?_⟩;refine⟨_,rfl,_,rfl,_,rfl,_,_,rfl,rfl,.inl #[FB],_,rfl,_,_,rfl,rfl,_,_,rfl,rfl,(by show (0:Int) < 8; decide),tp,_,_,_,rfl,rfl,lY.of CS,e2,_,_,rfl,rfl,q2p,?_⟩;generalize c % q1*(48271+2*(0+(i:Int))*(0+(i:Int)))+7919*(0+(i:Int)+1)*(0+(i:Int)+1)+104729*k=ms;have d1:=aO ms (show q2≠0 by lia);have d2:=aK ms q2p;refine⟨_,rfl,_,rfl,_,_,rfl,rfl,.inl #[wr],_,rfl,_,_,rfl,rfl,.inr #[wr],_,rfl,_,rfl,_,_,rfl,rfl,_,_,rfl,rfl,(by show (0:Int) < 8; decide),tp,_,_,_,rfl,rfl,lY.of CS,e3,_,_,rfl,rfl,q3p,?_⟩;refine#[Nk];have tP:=hd.1;refine zaO (fun _=>#[PJ]) #[wP]
    all_goals
     refine⟨_,rfl,.inl ⟨rfl,_,lO.of xX⟩,_,rfl,_,rfl,_,_,rfl,rfl,b0,l,_,_,rfl,rfl,xX,zay (by rw [ab]; lia),?_⟩;refine⟨_,rfl,_,rfl,_,_,rfl,rfl,⟨b0,b1⟩,?_⟩;refine⟨_,_,_,ds++[_],rfl,⟨by rw [ap,tP]; rfl,fun d hm=>?_⟩,zah s2 BB,by rw [zn pR]; exact CS,by rw [zc,am]; rfl⟩; rcases aP.mp hm with hm | hm
     ·exact hd.2 d hm
     ·have e:=aU.mp hm;rw [e];exact⟨aO _ #[O],aK _ b0⟩
   ·rintro σ H2 ⟨r,v8,v9,ds,rfl,hd,s2,CS,xX⟩;exact⟨_,rfl,q l ds H2 BB s2 hd xX⟩
theorem zbA:IJ ["script","at","most_k","most_n","plan","primes","p","k","many","left"] ["script","at","most_k","most_n"] (zi zcV):=#[S]
theorem zk0 (T:Txt K mg base t) (F:Fun K "_law_code" "_law_code" zcV t.Lb fd):Jk P w K mg base CX0 3 t.Lb fd ["script","at","most_k","most_n"] (zkt K):=by
 obtain⟨ph,mC,mK⟩:=T.Jz;have nc:=zdm (P:=P) (w:=w) (base:=base) T mC;refine F.ok zbA #[re] #[mt]
 ·obtain⟨a,ns,at',mk,mn,rfl,_⟩:=h;rfl
 ·obtain⟨a,ns,at',mk,mn,rfl,hS,lT,a0,a1,k1,k5,kn,n16,q⟩:=h;refine zaW ?_; intro zX;refine⟨_,#[zd,#[zm,4,zbA.nd,#[Oo],#[zo,nc,#[sn],T.JT,mC.kp,mK,#[zJ],#[za,#[AC],by exact #[za,#[AT],#[Ix]]]]],(by exact (@zlw _ 5 _ _ _ _ _ _ _ [5,7,11,13,17,19,23,29,31,37,41,43,47,53,59,61,67,71,73,79,83,89,97] #[N] zbA.nd rfl #[A] (by first | exact .inl rfl | exact .inr rfl) (by exact #[zd,#[zm,6,zbA.nd,#[A],#[zR,#[zG],#[zac,#[za,#[zR,#[zG],#[Pc],#[R5]],#[ya,#[zR,#[zG],#[Pc],#[R5]]]]],#[R5]]],#[zd,#[zm,7,zbA.nd,#[A],#[zj,#[zL],#[zg],#[zj,#[zO],#[Oh],#[zw,#[zfC],T.MF,boot_min,#[za,#[Fa],#[Sf]]]]]],#[zd,#[zm,8,zbA.nd,#[A],#[zj,#[zL],#[RY],#[zj,#[zO],#[Oh],#[zj,#[zL],#[zj,#[zaV],#[zw,#[zfC],T.MF,boot_min,#[za,#[MX],#[Sf]]],#[RY]],#[zg]]]]],#[zd,#[zm,9,zbA.nd,#[Oo],#[zan,(@zfm _ rfl),T.LM,kf,#[ya,#[zan,(@zhr _),T.IS,k8,#[Sf]]]]],#[zl,#[zN,#[zaS,#[za,#[On],#[za,#[RY],#[ya,#[zan,#[zaP],T.Ks,gG,#[ya,#[zal,(IK.of (N':=["j","left","plan"]) (ix:=[none,some 9,some 4]) (zi zcV) _ rfl rfl rfl),#[za9],#[zai,T.IS,#[ya,#[PV]]],#[wf],#[ul],(fun _ _ _ _=>(@zpk _ (K) _ _ _ _ _ _ _ _ _ _ _ rfl cq PySem.F.slot_list_pop PySem.F.type_list_pop (@zll _) #[AT] #[ya,#[zj,#[zO],#[zR,#[Su],#[Fa],#[zj,#[zL],#[zg],#[AC]]],#[zw,#[zbd,(K)],T.Ki,cp,#[Oy]]]] (by rfl) (by rfl) (by rfl) (by rfl) (by rfl)))]]]]]]]]]]]]])))],?_⟩;refine zpc ?_; intro GN EC yO uD qB pF;refine⟨_,rfl,_,rfl,a,ns,at',20,27720,rfl,hS,lT,a0,a1,#[D],#[D],#[D],#[D],fun l ds H1 hl s1 hd m8=>?_⟩;have tP:ds.length=20:=hd.1;have dat:∀ m:Int,0<=m->m < 20->∃ c:Int,atI #[KK] m=some (.int c):=fun m h0 h1=>zeh h0 #[O]
  refine⟨by show 23<=sizeLine; rw [aW]; decide,fun pr hpr=>?_⟩;have GO:l≠pr:=zu m8 hpr;obtain⟨d0,ed0⟩:=dat 0 #[D] #[D];obtain⟨d1,ed1⟩:=dat 1 #[D] #[D];obtain⟨d2,ed2⟩:=dat 2 #[D] #[D];obtain⟨d3,ed3⟩:=dat 3 #[D] #[D];have qG:#[NC] l=some #[QG]:=by rw [zn GO]; exact m8
  obtain⟨p1,mp1,ep1⟩:=zlC (ns:=zq) (k:=d0 % 23) (aO _ #[D]) (aK _ #[D]);obtain⟨p2,mp2,ep2⟩:=zlC (ns:=zq) (k:=d0 % 3) (aO _ #[D]) (by have:=aK d0 (show (0:Int) < 3 by decide); have e:(zq.length:Int)=23:=rfl; lia);obtain⟨p,ep,ED⟩:=zpm (x:=p1) (y:=p2) (m:=d1 % 2) (aO _ #[D]) (aK _ #[D]);have mp:p∈zq:=by rcases ED with e | e <;> rw [e] <;> assumption
  have rp:=zC mp;refine⟨_,rfl,_,rfl,l,_,_,_,rfl,rfl,lO.of qG,ed0,_,_,rfl,rfl,(by show (0:Int) < 23; decide),pr,_,_,_,rfl,rfl,lO.of zc,ep1,
   _,rfl,_,rfl,l,_,_,_,rfl,rfl,lO.of qG,ed0,_,_,rfl,rfl,(by show (0:Int) < 3; decide),pr,_,_,_,rfl,rfl,lO.of zc,ep2,zaX,fun l2 oT=>?_⟩
  have GP:l≠l2:=zu qG oT;have xu:(lP #[NC] l2 (.lst [.int p1,.int p2])) l=some #[QG]:=by rw [zn GP]; exact qG
  refine⟨_,rfl,l,_,_,_,rfl,rfl,lO.of xu,ed1,_,_,rfl,rfl,(by show (0:Int) < 2; decide),l2,_,_,_,rfl,rfl,lO.of zc,ep,?_⟩;have vw:(0:Int) < (if p < mk then p else mk):=by split <;> lia
  have sg:(if p < mk then p else mk)<=mk:=by split <;> lia
  have Gd:(if p < mk then p else mk)<=p:=by split <;> lia
  refine⟨_,rfl,l,_,_,_,rfl,rfl,lO.of xu,ed2,_,rfl,_,rfl,_,_,rfl,_,_,rfl,rfl,vw,_,_,rfl,rfl,?_⟩;generalize (if p < mk then p else mk)=mm at vw sg Gd |-;have vZ:=aO d2 (show mm≠0 by lia);have Ek:=aK d2 vw;have xo:(if p < mn then p else mn)<=mn:=by split <;> lia
  have ug:(if p < mn then p else mn)<=p:=by split <;> lia
  have hn3:mm<=(if p < mn then p else mn):=by split <;> lia
  refine⟨_,rfl,_,rfl,l,_,_,_,rfl,rfl,lO.of xu,ed3,_,rfl,_,rfl,_,_,rfl,_,rfl,_,_,rfl,rfl,_,_,rfl,rfl,_,_,rfl,rfl,#[O],_,_,rfl,rfl,?_⟩;generalize (if p < mn then p else mn)=nn at xo ug hn3 |-;have hq0:=aO d3 (show nn - (1+d2 % mm)+1≠0 by lia);have pQ:=aK d3 (show 0 < nn - (1+d2 % mm)+1 by lia);refine⟨_,rfl,p,rfl,fun r yH=>⟨r,p,rfl,zc,#[O],#[O],fun lf CT=>?_⟩⟩;have Br:l≠r:=zu xu yH;have CU:l≠lf:=by
   refine zu (H:=lP (lP #[NC] l2 (.lst [.int p1,.int p2])) r (.rng 0 p)) (o:=.lst #[KK]) ?_ CT;rw [zn Br]; exact xu
  have sA:zr H (lP #[NC] l2 (.lst [.int p1,.int p2])):=(s1.trans (zb hpr)).trans (zb oT);have sB:=#[SW].trans (zb (o:=.lst ((zcc 0 p.toNat).map V.int)) CT);have GQ:H lf=none:=#[SW].free CT;obtain⟨nd0,rg0⟩:=zku p;refine⟨_,rfl,_,rfl,_,rfl,_,rfl,#[O],#[O],z9 (n:=(1+d2 % mm+d3 % (nn - (1+d2 % mm)+1)).toNat) (fun i ys H'=>∃ xs ls:List Int,ys=xs.map V.int/\xs.length=i/\zr H H'/\H' l=some #[QG]/\H' lf=some (.lst (ls.map V.int))/\ls.length+i=p.toNat/\(xs++ls).Nodup/\∀ y∈xs++ls,0<=y/\y < p)
   ⟨[],zcc 0 p.toNat,rfl,rfl,sB,by rw [zn CU,zn Br]; exact xu,zc,by rw [zdf]; rfl,by simpa using nd0,by simpa using rg0⟩ #[MO] #[KF] ?_ ?_⟩
  ·rintro zS zT zE i x ys H4 H5 hi ⟨xs,ls,rfl,Gg,s4,AJ,xY,xZ,nd,rg⟩ ⟨rfl,rfl⟩;refine gY ?_;obtain⟨c,ec⟩:=dat (4+(0+(i:Int))) #[O] #[O];have lpos:0 < ls.length:=by lia
   have lm:((ls.map V.int).length:Int)=(ls.length:Int):=by rw [ab]
   have c0:=aO c (show (ls.length:Int)≠0 by lia);have c1:=aK c (show (0:Int) < ls.length by lia);have pO:=aW;obtain⟨y,ey⟩:∃ y,ls[(c % (ls.length:Int)).toNat]? = some y:=⟨ls[(c % (ls.length:Int)).toNat]'#[O],#[M]⟩;refine⟨_,rfl,.inl ⟨rfl,_,lO.of xY⟩,_,rfl,_,rfl,_,_,rfl,rfl,l,_,_,_,rfl,rfl,lO.of AJ,ec,_,rfl,lf,_,rfl,.inl (lO.of xY),_,_,rfl,rfl,(by rw [lm]; lia),lf,_,_,(c % (ls.length:Int)).toNat,.int y,rfl,rfl,xY,?_⟩;rw [lm];refine⟨#[O],#[O],by rw [ab]; exact gZ c0 c1,by rw [aj,ey]; rfl,zay (by rw [ab]; lia),xs++[y],ls.eraseIdx (c % (ls.length:Int)).toNat,by rw [am]; rfl,by rw [ap,Gg]; rfl,zah s4 GQ,by rw [zn CU]; exact AJ,by rw [zc,zfO],?_,znr ey nd rg⟩;rw [List.length_eraseIdx];split <;> lia
  ·rintro ys H4 D ⟨xs,ls,rfl,Gg,s4,AJ,xY,xZ,nd,rg⟩ hD;refine⟨D,_,rfl,.inl ⟨lO.of zc,fun tt BC=>⟨by show 3<=sizeLine; rw [aW]; decide,fun c hc=>?_⟩⟩⟩;have s5:=(s4.trans (zb (o:=.lst (xs.map V.int)) hD)).trans (zb (o:=.tup (xs.map V.int)) BC);refine q c tt p _ xs _ (s5.free hc) (s5.trans (zb hc)) ⟨mp,#[O],#[O],#[O],#[O],(ck.mp nd).1,fun y hy=>rg y (aL _ hy)⟩ zc ?_;rw [zn (zu zc hc)];exact zc
theorem zbB:IJ ["p","polynomial","x","total","power","number"] ["p","polynomial","x"] (zi zdc):=#[S]
theorem ziX (T:Txt K mg base t) (F:Fun K "_law_value" "_law_value" zdc t.KE fd):Jk P w K mg base CX0 1 t.KE fd ["p","polynomial","x"] (ziH K):=by
 refine F.ok zbB #[re] #[mt]
 ·obtain⟨p,x,a,cs,rfl,_⟩:=h;rfl
 ·obtain⟨p,x,a,cs,rfl,hS,p0,p1,x0,x1,q⟩:=h;refine zaW ?_; intro zX;refine⟨_,#[zd,#[zm,3,zbB.nd,#[A],#[zg]],#[zd,#[zm,4,zbB.nd,#[A],#[zg]],#[zd,#[zaF,bp,(@zpj _ _ _ _ #[AT]),#[zf,5,zbB.nd,#[A]],#[zd,#[zm,3,zbB.nd,#[A],#[zj,#[zO],#[zj,#[zL],#[MX],#[zj,#[zW],#[Pc],#[M5]]],#[AC]]],#[zl,#[zm,4,zbB.nd,#[A],#[zj,#[zO],#[zj,#[zW],#[M5],#[Fa]],#[AC]]]]]],#[zl,#[zN,#[MX]]]]]],?_⟩;refine ziC ?_; intro uD qB pF;refine⟨_,rfl,a,rfl,?_⟩;rcases hS with hS | hS
  ·refine .inl ⟨⟨_,hS⟩,zaQ (K:=K) (a:=a) (xs:=cs.map V.int) (fun i σ H'=>H'=H/\∃ (lX power:Int) (nb:Option V),σ = [some #[OZ],some #[M8],some (.int x),some (.int lX),some (.int power),nb]/\0<=power/\power<=97/\lv p x lX power (cs.drop i)=lv p x 0 1 cs)
    ⟨rfl,0,1,none,rfl,#[D],#[D],rfl⟩ (fun i σ H' _ ⟨e,_⟩=>by rw [e]; exact hS) ?_ ?_⟩
   ·rintro zD zT i y σ H1 hy ⟨rfl,lX,power,nb,rfl,w0,w1,hl⟩;obtain⟨c,rfl,hc⟩:=zaL hy;have m0:=aO (power*x) (show p≠0 by lia);have m1:=aK (power*x) p0;refine#[Qw];refine#[RM];exact⟨rfl,_,_,_,rfl,m0,#[O],(zjh hc).symm.trans hl⟩
   ·rintro σ H1 ⟨rfl,lX,power,nb,rfl,w0,w1,hl⟩;rw [ab,gi] at hl;have hl:lX=lv p x 0 1 cs:=hl;rw [zjf p0] at hl;rw [<- hl] at q;exact⟨_,rfl,q⟩
  ·refine .inr ⟨⟨_,hS⟩,zlp (K:=K) (a:=a) (xs:=cs.map V.int) (fun i σ H'=>H'=H/\∃ (lX power:Int) (nb:Option V),σ = [some #[OZ],some #[M8],some (.int x),some (.int lX),some (.int power),nb]/\0<=power/\power<=97/\lv p x lX power (cs.drop i)=lv p x 0 1 cs)
    ⟨rfl,0,1,none,rfl,#[D],#[D],rfl⟩ (fun i σ H' _ ⟨e,_⟩=>by rw [e]; exact hS) ?_ ?_⟩
   ·rintro zD zT i y σ H1 hy ⟨rfl,lX,power,nb,rfl,w0,w1,hl⟩;obtain⟨c,rfl,hc⟩:=zaL hy;have m0:=aO (power*x) (show p≠0 by lia);have m1:=aK (power*x) p0;refine#[Qw];refine#[RM];exact⟨rfl,_,_,_,rfl,m0,#[O],(zjh hc).symm.trans hl⟩
   ·rintro σ H1 ⟨rfl,lX,power,nb,rfl,w0,w1,hl⟩;rw [ab,gi] at hl;have hl:lX=lv p x 0 1 cs:=hl;rw [zjf p0] at hl;rw [<- hl] at q;exact⟨_,rfl,q⟩
theorem ze3 (xs:List V) (j:Nat):zcu xs none (some (j:Int))=xs.take j:=by
 unfold zcu;rw [HT.Kf,HT.Ky,gH,eW];by_cases h:j<=xs.length
 ·rw [dE h]
 ·rw [show min j xs.length=xs.length by lia,aH (af _),aH (show xs.length<=j by lia)]
noncomputable def zk1 (K:ah):Sp:=fun vs H Q _=>∃ (a:Addr) (ds:List Int) (p k:Int),vs = [.ref a,.int p,.int k]/\lO K H a #[KK]/\ds.length<=1000/\0 < p /\
 ∀ (l:Addr) (mR:List Int) (H':Hp),H l=none->zr H H'->(mR.length<=ds.length/\∀ x∈mR,0<=x/\x < p)->H' l=some (.tup (mR.map V.int))->(∀ n:Nat,k=(n:Int)->n<=ds.length->mR.length=n)->Q #[Nv] H'
theorem zea:IJ ["draws","p","k"] ["draws","p","k"] (zi za5):=#[S]
theorem zeb (T:Txt K mg base t) (F:Fun K "_law_polynomial" "_law_polynomial" za5 t.Jh fd):Jk P w K mg base CX0 1 t.Jh fd ["draws","p","k"] (zk1 K):=by
 refine F.ok zea #[re] #[mt]
 ·obtain⟨a,ds,p,k,rfl,_⟩:=h;rfl
 ·obtain⟨a,ds,p,k,rfl,ha,hn,p0,q⟩:=h;refine zaW ?_; intro zX;refine⟨_,#[zl,#[zN,#[zan,#[zaP],T.Ks,gG,#[ya,#[zal,(IK.of (N':=["draw","p"]) (ix:=[none,some 1]) (zi za5) _ rfl rfl rfl),#[za9],#[z8,#[zbc,zbT,#[AC],#[zbS],#[zbt,#[Fa]]]],#[wf],#[ul],(fun _ _ _ _=>#[zj,#[zO],#[AC],#[AT]])]]]]],?_⟩;obtain⟨ms,EE,lms⟩:=zhx ds none (some k);refine⟨_,rfl,_,rfl,_,rfl,a,_,rfl,ha,fun z hz=>?_⟩;rw [EE];have s4:=zb (o:=.lst #[Nd]) hz;refine⟨z,rfl,⟨_,lO.of zc⟩,zcl (K:=K) (xs:=ms.map V.int) (fs:=ms.map fun d=>V.int (d % p)) (lO.of zc) (by rw [ab,ab]) (by rw [ab]; lia) ?_ ?_⟩
  ·intro j x y R B hx hy hR;obtain⟨c,_,rfl,rfl⟩:=zhy hx hy;refine gY ?_;exact⟨_,rfl,_,rfl,_,_,rfl,rfl,p0,hR⟩
  intro D hD;have GR:(ms.map fun d=>V.int (d % p))=(ms.map (· % p)).map V.int:=by rw [aR]; rfl
  rw [GR];refine⟨D,_,rfl,.inl ⟨lO.of zc,fun po CV=>?_⟩⟩;have s5:=s4.trans (zb (o:=.lst ((ms.map (· % p)).map V.int)) hD);refine q po _ _ (s5.free CV) (s5.trans (zb CV)) ⟨by rw [ab]; exact lms,fun x hx=>?_⟩ zc (fun n Ej hle=>?_)
  ·obtain⟨d,_,rfl⟩:=aw.mp hx;exact#[OS]
  ·have h1:=congrArg er EE;rw [Ej,ze3,aG,ab,ab] at h1;rw [ab];lia
noncomputable def zmF (K:ah):Sp:=fun vs H Q _=>∃ (a c tt:Addr) (ns:List Int) (at' p k:Int) (pl:List Int),vs = [.ref a,.int at',.ref c]/\lO K H a #[xz]/\ns.length<=63/\0<=at'/\at'<=900/\zaY H c tt p k pl/\0 < p/\p<=97/\(∀ x∈pl,0<=x/\x < p)/\pl.length<=16 /\
 ∀ (l:Addr) (rw:List #[ww]) (H':Hp),H l=none->zr H H'->rw.length=pl.length->(∀ z,some z∈rw->0<=z/\z < p)->H' l=some #[N9]->Q #[Nv] H'
theorem zpM {a b m:Int} (h0:0<=m) (h1:m < 6) (a0:0<=a) (a1:a < 3) (b0:0<=b) (b1:b < 3):∃ z:Int,atI [V.int 0,.int 0,.int a,.int b,.int 0,.int 0] m=some (.int z)/\0<=z/\z < 3:=by
 have:m=0\/m=1\/m=2\/m=3\/m=4\/m=5:=by lia
 rcases this with e | e | e | e | e | e <;> subst e
 ·exact#[PR]
 ·exact#[PR]
 ·exact⟨a,rfl,a0,a1⟩
 ·exact⟨b,rfl,b0,b1⟩
 ·exact#[PR]
 ·exact#[PR]
theorem zod {m:Int} (h0:0<=m) (h1:m < 6):∃ z:Int,atI [V.int 4,.int 9,.int 9,.int 9,.int 2,.int 1] m=some (.int z)/\0 < z:=by
 have:m=0\/m=1\/m=2\/m=3\/m=4\/m=5:=by lia
 rcases this with e | e | e | e | e | e <;> subst e <;> exact⟨_,rfl,#[D]⟩
theorem zoe {m:Int} (h0:0<=m) (h1:m < 2):∃ z:Int,atI [V.int 9,.int 3] m=some (.int z)/\0 < z:=by
 have:m=0\/m=1:=by lia
 rcases this with e | e <;> subst e <;> exact⟨_,rfl,#[D]⟩
theorem zqr (n:Nat):(aJ n [V.non]).flatten=(aJ n (none:Option Int)).map pB:=by
 induction n with
 | zero=>rfl
 | succ n ih=>rw [cw,dI,ih,cw]; rfl
noncomputable def zgP (H:Hp) (on:Addr):Prop:=∃ os:List Addr,os.length=3/\H on=some #[QP]/\∀ o∈os,∃ ms:List Int,H o=some (.tup #[Nd])
theorem zgP.same {on:Addr} (s:zr H H') (h:zgP H on):zgP H' on:=by
 obtain⟨os,h1,h2,h3⟩:=h;exact⟨os,h1,s _ _ h2,fun o ho=>let ⟨ms,e⟩:=h3 o ho; ⟨ms,s _ _ e⟩⟩
theorem zmG {p:Int} (h:∀ z,some z∈rw->0<=z/\z < p):∀ z,some z∈rw++[none]->0<=z/\z < p:=by
 intro z hz;rcases aP.mp hz with m | m
 ·exact h z m
 ·cases aU.mp m
theorem zif {p i:Int} (h:∀ z,some z∈rw->0<=z/\z < p) (hi:0<=i/\i < p):∀ z,some z∈rw++[some i]->0<=z/\z < p:=by
 intro z hz;rcases aP.mp hz with m | m
 ·exact h z m
 ·cases aU.mp m;exact hi
theorem zig {p x:Int} (hp:0 < p):0<=zp p x cs/\zp p x cs < p:=⟨zbD hp cs,zbE hp cs⟩
theorem zaD:IJ ["script","at","code","p","k","places","plan","ones","slips","way","row","number","which","entry"] ["script","at","code"] (zi zdI):=#[S]
theorem zmH (T:Txt K mg base t) (F:Fun K "_law_row" "_law_row" zdI t.LN fd):Jk P w K mg base CX0 3 t.LN fd ["script","at","code"] (zmF K):=by
 obtain⟨ph,mC,mK⟩:=T.Jz;have nc:=zdm (P:=P) (w:=w) (base:=base) T mC;obtain⟨qw,oD,nh⟩:=T.Jm;have qL:=zeb (P:=P) (w:=w) (base:=base) T oD;obtain⟨uE,rS,pS⟩:=T.Kl;have vF:=ziX (P:=P) (w:=w) (base:=base) T rS;refine F.ok zaD #[re] #[mt]
 ·obtain⟨a,c,tt,ns,at',p,k,pl,rfl,_⟩:=h;rfl
 ·obtain⟨a,c,tt,ns,at',p,k,pl,rfl,hS,lT,a0,a1,hc,p0,p1,m8,hn,q⟩:=h;refine zaW ?_; intro zX;refine⟨_,#[zd,#[zbs,#[Fa],#[zaE,#[zh,#[zf,3,zaD.nd,#[Oo]],#[zh,#[zf,4,zaD.nd,#[Oo]],#[zh,#[zf,5,zaD.nd,#[A]],#[zy]]]]]],#[zd,#[zm,6,zaD.nd,#[Oo],#[zo,nc,#[sn],T.JT,mC.kp,mK,#[zJ],#[za,#[AC],by exact #[za,#[AT],#[Ix]]]]],#[zd,#[zaK,7,zaD.nd,#[A],(IK.of (N':=["j","plan","p","k"]) (ix:=[none,some 6,some 3,some 4]) (zi zdI) _ rfl rfl rfl),#[za9],#[zai,T.IS,#[ya,#[zg]]],#[wf],#[ul],(fun _ _ _ _=>#[zo,qL,#[sn],T.Kq,oD.kp,nh,#[zJ],#[za,#[zbc,(zhs (K:=K) rfl),#[AT],#[zbt,#[zj,#[zW],#[zg],#[AC]]],#[zbS]],#[za,#[Fa],#[ya,#[MX]]]]])],#[zd,#[zm,8,zaD.nd,#[A],#[zo,nc,#[sn],T.JT,mC.kp,mK,#[zJ],#[za,#[AC],by exact #[za,#[zj,#[zL],#[AT],#[zg]],#[Ix]]]]],#[zd,#[zm,9,zaD.nd,#[A],#[Db]],#[zd,#[zm,10,zaD.nd,#[A],#[NT]],#[zd,#[zaF,bp,#[zai,T.IS,#[ya,#[zw,#[zI],T.Ki,cp,#[Se]]]],#[zf,11,zaD.nd,#[A]],#[zd,#[zm,12,zaD.nd,#[A],#[zR,#[zG],#[zac,#[zcO,#[zcO,#[za,#[zj,#[zO],#[Nu],#[zg]],by exact #[za,#[zj,#[zO],#[Nu],#[zg]],#[Ix]]]]]],#[Qk]]],#[zd,#[zm,13,zaD.nd,#[A],#[zo,vF,#[sn],T.Lu,rS.kp,pS,#[zJ],#[za,#[MX],#[za,#[zR,#[zG],#[RY],#[pvx,12]],#[ya,#[zR,#[zcv],#[Pc],#[pvx,11]]]]]]],#[zd,#[zbo,#[zH,#[zex],#[zj,#[zO],#[RK],#[zR,#[zG],#[zac,#[zcO,#[zcO,#[zcO,#[za,#[zg],#[Ix]]]]]],#[Qk]]],#[zg],(zY _)],#[zl,#[zm,13,zaD.nd,#[A],#[zj,#[zO],#[RK],#[MX]]]],#[zam]],#[zd,#[zbo,(@PW.pt _ _ _ #[zf9,#[zH,#[zex],#[zj,#[zO],#[RK],#[zR,#[zG],#[zac,#[Ix]],#[Db]]],#[zg],(zY _)],#[zf8,#[zH,#[zhh],#[Db],#[zg],(zY _)]]]),#[zl,#[zm,13,zaD.nd,#[A],#[zdN]]],#[zam]],#[zl,#[zbR,#[zdX,cq,dG,dH,#[zci],#[Rm],#[ya,#[pvx,13]]]]]]]]]],#[zl,#[zN,(@zlb _ _ _ _ _ _ _ _ #[zH,#[zex],#[Db],#[zg],(zY _)] #[zj,#[zeB],#[zac,#[ya,#[zdN]]],#[zw,#[zI],T.Ki,cp,#[ya,#[Rm]]]] #[Rm])]]]]]]]]],?_⟩;refine zqQ ?_; intro zN8 GN EC yO uD qB pF;have pO:=aW;refine⟨_,rfl,c,_,rfl,lY.of hc.1,rfl,_,_,rfl,_,_,rfl,_,_,rfl,rfl,?_⟩;refine⟨_,rfl,_,rfl,a,ns,at',16,27720,rfl,hS,lT,a0,#[O],#[D],#[D],#[D],#[D],fun l ds H1 hl s1 hd uF=>?_⟩;have tP:ds.length=16:=hd.1;refine⟨3,rfl,#[D],#[D],z9 (n:=3) (fun i ys H'=>zr H1 H'/\∃ os:List Addr,os.length=i/\ys=os.map V.ref/\∀ o∈os,∃ ms:List Int,H' o=some (.tup #[Nd])) ⟨fun _ _ e=>e,[],rfl,rfl,#[M]⟩ #[MO] #[KF] ?_ ?_⟩
  ·rintro zS zT zE i xx ys H4 H5 hi ⟨s4,os,ho,rfl,GU⟩ ⟨rfl,rfl⟩;refine gY ?_;refine⟨_,rfl,_,rfl,_,_,rfl,rfl,.inl #[FB],_,rfl,l,_,rfl,lO.of (s4 _ _ uF),fun z hz=>?_⟩;obtain⟨ms,EE,lms⟩:=zhx ds (some (3*(0+(i:Int)))) none;rw [EE];refine⟨_,rfl,_,rfl,z,ms,p,k,rfl,lO.of zc,#[O],p0,fun po mR H6 CV s6 _ h6 _=>?_⟩;have s5:=(zb (o:=.lst #[Nd]) hz).trans s6;refine⟨zay (by rw [ab]; lia),s4.trans s5,os++[po],by rw [ap,ho]; rfl,by rw [am]; rfl,fun o hm=>?_⟩;rcases (aP.mp hm) with hm | hm
   ·obtain⟨m2,e⟩:=GU o hm;exact⟨m2,s5 _ _ e⟩
   ·rw [aU.mp hm]; exact⟨mR,h6⟩
  ·rintro ys H4 on ⟨s4,os,ho,rfl,GU⟩ hon;have s5:=s1.trans (s4.trans (zb (o:=.lst (os.map V.ref)) hon));have yP:zgP (lP H4 on #[QP]) on:=⟨os,ho,zc,fun o hm=>let ⟨ms,e⟩:=GU o hm; ⟨ms,(zb hon) _ _ e⟩⟩;generalize lP H4 on #[QP]=H5 at s5 yP |-;refine⟨_,rfl,_,rfl,_,_,rfl,rfl,a,ns,at'+1,20,27720,rfl,s5.seq hS,lT,#[O],#[O],#[D],#[D],#[D],#[D],fun sl es H6 hsl6 s6 he GV=>?_⟩;have hel:es.length=20:=he.1;have her:=he.2;have CW:∀ m:Int,0<=m->m < 20->∃ c:Int,atI (es.map V.int) m=some (.int c):=fun m h0 h1=>zeh h0 #[O]
   obtain⟨GW,x3⟩:=CW 16 #[D] #[D];obtain⟨d17,xw⟩:=CW 17 #[D] #[D];obtain⟨d18,xy⟩:=CW 18 #[D] #[D];obtain⟨d19,xA⟩:=CW 19 #[D] #[D];have w0:=aO GW (show (6:Int)≠0 by decide);have w1:=aK GW (show (0:Int) < 6 by decide);refine⟨_,rfl,sl,_,_,_,rfl,rfl,lO.of GV,x3,_,_,rfl,rfl,(by show (0:Int) < 6; decide),?_⟩;obtain⟨way,CY⟩:∃ way,GW % 6=way:=⟨_,rfl⟩;rw [CY] at w0 w1;refine⟨bg _,fun ro x4=>?_⟩;have uY:sl≠ro:=zu GV x4;have GX:H ro=none:=(s5.trans s6).free x4;have AK:H5 ro=none:=s6.free x4;refine⟨_,rfl,tt,_,rfl,.inr (lY.of ((((s5.trans s6).trans (zb x4))) _ _ hc.2)),_,rfl,by rw [ab]; lia,by rw [ab]; lia,?_⟩;rw [ab,bh];refine zbk (lo:=0) (n:=pl.length) (fun i σ H'=>∃ (rw:List #[ww]) (v11 BD BE:Option V),σ = [some #[M8],some (.int at'),some #[PY],some #[OZ],some (.int k),some #[QU],some #[Nv],some (.ref on),some (.ref sl),some (.int way),some (.ref ro),v11,BD,BE] /\
    rw.length=i/\zr H5 H'/\H' ro=some #[N9]/\H' sl=some (.lst (es.map V.int))/\∀ z,some z∈rw->0<=z/\z < p)
    ⟨[],none,none,none,by subst CY; rfl,rfl,s6.trans (zb x4),zc,by rw [zn uY]; exact GV,fun z hz=>by simp at hz⟩ ?_ ?_
   ·rintro zD zT i σ H7 hi ⟨rw,v11,BD,BE,rfl,oX,s7,EF,CZ,uh⟩;obtain⟨di,ei⟩:=CW (0+(i:Int)) #[O] #[O];obtain⟨x,hx⟩:∃ x,pl[i]? = some x:=⟨pl[i]'hi,#[M]⟩;obtain⟨x0,x1⟩:=m8 x (aA hx);have GY:atI #[Rx] (0+(i:Int))=some (.int x):=by rw [eC]; exact zaH (by rw [aj,hx]; rfl)
    have m20:=aO di (show (2:Int)≠0 by decide);have m21:=aK di (show (0:Int) < 2 by decide);have m30:=aO di (show (3:Int)≠0 by decide);have m31:=aK di (show (0:Int) < 3 by decide);obtain⟨wh,ewh,wh0,wh1⟩:=zpM w0 w1 m20 #[O] m30 m31;refine⟨_,rfl,_,rfl,sl,_,_,_,rfl,rfl,lO.of CZ,ei,_,_,rfl,rfl,(by show (0:Int) < 2; decide),_,rfl,_,rfl,sl,_,_,_,rfl,rfl,lO.of CZ,ei,_,_,rfl,rfl,(by show (0:Int) < 3; decide),by show 6<=sizeLine; lia,fun l6 GZ=>?_⟩;refine⟨_,rfl,l6,_,_,_,rfl,rfl,lO.of zc,ewh,?_⟩;have s8:=s7.trans (zb (o:=.lst [.int 0,.int 0,.int (di % 2),.int (di % 3),.int 0,.int 0]) GZ);have BF:=(zb (o:=.lst [.int 0,.int 0,.int (di % 2),.int (di % 3),.int 0,.int 0]) GZ) _ _ EF;have G0:=(zb (o:=.lst [.int 0,.int 0,.int (di % 2),.int (di % 3),.int 0,.int 0]) GZ) _ _ CZ;obtain⟨H8,hH8⟩:∃ H8,H8=lP H7 l6 (.lst [.int 0,.int 0,.int (di % 2),.int (di % 3),.int 0,.int 0]):=⟨_,rfl⟩;rw [<- hH8] at s8 BF G0 |-;have G1:=hc.same (s5.trans s8);obtain⟨G2,o1,o2,o3⟩:=yP.same s8;obtain⟨ow,how⟩:∃ ow,G2[wh.toNat]? = some ow:=⟨G2[wh.toNat]'#[O],#[M]⟩;obtain⟨mw,hmw⟩:=o3 ow (aA how);have G3:atI (G2.map V.ref) wh=some (.ref ow):=by
     have e:((wh.toNat:Nat):Int)=wh:=by lia
     rw [<- e];exact zaH (by rw [aj,how]; rfl)
    refine⟨_,rfl,_,rfl,_,rfl,on,_,_,_,rfl,rfl,lO.of o2,G3,_,rfl,_,rfl,tt,_,_,_,rfl,rfl,lY.of G1.2,GY,p,x,ow,mw,rfl,.inr (lY.of hmw),p0,p1,x0,x1,?_⟩;obtain⟨z6,ez6,z60⟩:=zod w0 w1;refine⟨_,rfl,_,rfl,sl,_,_,_,rfl,rfl,lO.of G0,ei,_,_,rfl,rfl,#[FB],by show 6<=sizeLine; lia,fun l7 hl7=>?_⟩;have u7:=zb (o:=.lst [.int 4,.int 9,.int 9,.int 9,.int 2,.int 1]) hl7;refine⟨_,rfl,l7,_,_,_,rfl,rfl,lO.of zc,ez6,_,_,rfl,rfl,z60,rfl,_,rfl,?_⟩;have s9:=s8.trans u7;have h9r:=u7 _ _ BF;have EG:=u7 _ _ G0;generalize lP H8 l7 (.lst [.int 4,.int 9,.int 9,.int 9,.int 2,.int 1])=H9 at s9 h9r EG |-;have t0:=aO d17 (show (2:Int)≠0 by decide);have t1:=aK d17 (show (0:Int) < 2 by decide);obtain⟨z2,ez2,z20⟩:=zoe t0 t1;refine zaO (fun _=>⟨_,rfl,_,rfl,sl,_,_,_,rfl,rfl,lO.of EG,ei,_,_,rfl,rfl,#[FB],_,rfl,_,_,rfl,rfl,p0,?_⟩) #[wP]
    all_goals
     refine⟨_,rfl,_,rfl,sl,_,_,_,rfl,rfl,lO.of EG,ei,_,_,rfl,rfl,#[FB],zaX,fun l8 hl8=>?_⟩;have u8:=zb (o:=.lst [.int 9,.int 3]) hl8;have sX:=s9.trans u8;have BG:=u8 _ _ h9r;have C0:=u8 _ _ EG;refine⟨_,rfl,sl,_,_,_,rfl,rfl,lO.of C0,xw,_,_,rfl,rfl,(by show (0:Int) < 2; decide),l8,_,_,_,rfl,rfl,lO.of zc,ez2,_,_,rfl,rfl,z20,rfl,_,rfl,?_⟩; refine zaO #[wP] #[wP]
     ·refine⟨_,rfl,sl,_,_,_,rfl,rfl,lO.of C0,xy,_,_,rfl,rfl,(by show (0:Int) < 3; decide),_,_,rfl,rfl,_,rfl,?_⟩; refine zaO #[wP] #[wP]
      ·exact⟨_,rfl,.inl ⟨rfl,_,lO.of BG⟩,_,rfl,ro,_,_,rfl,rfl,BG,zay (by rw [ab]; lia),rw++[none],_,_,_,rfl,by rw [ap,oX]; rfl,zah sX AK,by rw [zc,am]; rfl,by rw [zn uY]; exact C0,zmG uh⟩
      ·exact⟨_,rfl,.inl ⟨rfl,_,lO.of BG⟩,_,rfl,ro,_,_,rfl,rfl,BG,zay (by rw [ab]; lia),rw++[some _],_,_,_,rfl,by rw [ap,oX]; rfl,zah sX AK,by rw [zc,am]; rfl,by rw [zn uY]; exact C0,zif uh (by first | exact#[OS] | exact zig p0)⟩
     ·refine zki ?_;exact⟨_,rfl,.inl ⟨rfl,_,lO.of BG⟩,_,rfl,ro,_,_,rfl,rfl,BG,zay (by rw [ab]; lia),rw++[some _],_,_,_,rfl,by rw [ap,oX]; rfl,zah sX AK,by rw [zc,am]; rfl,by rw [zn uY]; exact C0,zif uh (by first | exact#[OS] | exact zig p0)⟩
   ·rintro σ H7 ⟨rw,v11,BD,BE,rfl,oX,s7,EF,CZ,uh⟩;refine⟨_,rfl,sl,_,_,_,rfl,rfl,lO.of CZ,xA,_,_,rfl,rfl,(by show (0:Int) < 30; decide),rfl,_,rfl,?_⟩;refine zaO #[wP] (fun _=>⟨_,rfl,q ro rw H7 GX (s5.trans s7) oX uh EF⟩);refine⟨by show 1<=sizeLine; lia,fun z hz=>⟨_,rfl,ro,_,rfl,.inl (lO.of ((zb hz) _ _ EF)),z,_,[.non],rfl,rfl,zc,by rw [ab]; lia,by rw [ab]; lia,by rw [ab]; show 1*_<=sizeLine; lia,fun y hy=>?_⟩⟩;have s8:=(s5.trans s7).trans (zb (o:=.lst [.non]) hz);refine q y (aJ pl.length none) _ (s8.free hy) (s8.trans (zb hy)) (by rw [cB]) (fun z hz=>by cases iO hz) ?_;rw [zc,ab,zqr,oX,bh]
theorem zb6:IJ ["p","polynomial","x","value","number"] ["p","polynomial","x"] (zi zcE):=#[S]
theorem zb7 (T:Txt K mg base t) (F:Fun K "value_at" "value_at" zcE t.Ka fd):Jk P w K mg base CX0 1 t.Ka fd ["p","polynomial","x"] (zd0 K):=by
 refine F.ok zb6 #[re] #[mt]
 ·obtain⟨p,x,a,cs,rfl,_⟩:=h;rfl
 ·obtain⟨p,x,a,cs,rfl,hS,p0,p1,x0,x1,q⟩:=h;refine zaW ?_; intro zX;refine⟨_,#[zd,#[zm,3,zb6.nd,#[A],#[zg]],#[zd,#[zaF,bp,(@zph _ _ _ _ _ _ rfl T.Ln #[Oy] (by rfl)),#[zf,4,zb6.nd,#[A]],#[zl,#[zm,3,zb6.nd,#[A],#[zj,#[zO],#[zj,#[zL],#[zj,#[zW],#[MX],#[Fa]],#[M5]],#[AC]]]]],#[zl,#[zN,#[MX]]]]],?_⟩;refine zgc ?_; intro qB pF;refine⟨_,rfl,a,cs.map V.int,rfl,?_⟩;rcases hS with hS | hS
  ·refine .inl ⟨hS,?_⟩;rw [ab];refine zdr (n:=cs.length) (fun i σ H'=>H'=H/\∃ nb,σ = [some #[OZ],some #[M8],some (.int x),some (.int (zp p x #[GM])),nb]) ⟨rfl,none,by rw [gH,gi]; rfl⟩
    (fun i σ H' hi ⟨e,_⟩=>⟨hi,cs.map V.int,by rw [e]; exact hS,by rw [ab]⟩) (fun σ H' _=>af _) ?_ ?_
   ·rintro zD zT i y σ H1 H2 hi ⟨rfl,nb,rfl⟩ ⟨rfl,hy⟩;obtain⟨c,rfl,hc⟩:=zaL (hy _ hS);have v0:=zbD (x:=x) p0 #[GM];have v1:=zbE (x:=x) p0 #[GM];refine#[Qy];refine⟨rfl,some (.int c),?_⟩;rw [zfP hi hc];show _ = [some (V.int p),_,_,some (V.int ((c+x*zp p x #[GM]) % p)),_];rw [Int.add_comm c,eX x];rfl
   ·rintro σ H1 ⟨rfl,nb,rfl⟩;rw [gD,eW];exact⟨_,rfl,q⟩
  ·refine .inr ⟨hS,?_⟩;rw [ab];refine zdr (n:=cs.length) (fun i σ H'=>H'=H/\∃ nb,σ = [some #[OZ],some #[M8],some (.int x),some (.int (zp p x #[GM])),nb]) ⟨rfl,none,by rw [gH,gi]; rfl⟩
    (fun i σ H' hi ⟨e,_⟩=>⟨hi,cs.map V.int,by rw [e]; exact hS,by rw [ab]⟩) (fun σ H' _=>af _) ?_ ?_
   ·rintro zD zT i y σ H1 H2 hi ⟨rfl,nb,rfl⟩ ⟨rfl,hy⟩;obtain⟨c,rfl,hc⟩:=zaL (hy _ hS);have v0:=zbD (x:=x) p0 #[GM];have v1:=zbE (x:=x) p0 #[GM];refine#[Qy];refine⟨rfl,some (.int c),?_⟩;rw [zfP hi hc];show _ = [some (V.int p),_,_,some (V.int ((c+x*zp p x #[GM]) % p)),_];rw [Int.add_comm c,eX x];rfl
   ·rintro σ H1 ⟨rfl,nb,rfl⟩;rw [gD,eW];exact⟨_,rfl,q⟩
theorem zbl:IJ ["p","number","product","square","left"] ["p","number"] (zi zc8):=#[S]
theorem ze4 (T:Txt K mg base t) (F:Fun K "inverse" "inverse" zc8 t.inverse fd):Jk P w K mg base CX0 1 t.inverse fd ["p","number"] (ziI K):=by
 refine F.ok zbl #[re] #[mt]
 ·obtain⟨p,h,rfl,_⟩:=h;rfl
 ·obtain⟨p,hh,rfl,mp,h0,h1,q⟩:=h;refine zaW ?_; intro zX;refine⟨_,#[zd,#[zm,2,zbl.nd,#[A],#[zg]],#[zd,#[zm,3,zbl.nd,#[A],#[zj,#[zO],#[AT],#[AC]]],#[zd,#[zm,4,zbl.nd,#[A],#[zj,#[zaV],#[AC],#[zg]]],#[zd,#[zhe,bp,#[zH,#[zhh],#[M5],#[zg],(zY _)],#[zd,#[zbo,#[zH,#[zex],#[zj,#[zO],#[M5],#[zg]],#[zg],(zY _)],#[zl,#[zm,2,zbl.nd,#[A],#[zj,#[zO],#[zj,#[zW],#[Fa],#[MX]],#[AC]]]],#[zam]],#[zd,#[zm,3,zbl.nd,#[A],#[zj,#[zO],#[zj,#[zW],#[MX],#[MX]],#[AC]]],#[zl,#[ziv,4,zbl.nd,#[A],#[zg],zlg]]]]],#[zl,#[zN,#[Fa]]]]]]],?_⟩;refine znk ?_; intro yO uD qB pF;have rp:=zC mp;have e0:=aO hh (show p≠0 by lia);have e1:=aK hh (show 0 < p by lia);refine⟨_,rfl,_,rfl,_,_,rfl,rfl,(by show 0 < p; lia),_,rfl,_,_,rfl,rfl,?_⟩;refine zlf (fun σ H'=>H'=H/\∃ (prod sq left:Int) (n:Nat),σ = [some #[OZ],some (.int hh),some (.int prod),some (.int sq),some (.int left)]/\0<=prod/\prod < p/\0<=sq/\sq < p/\0<=left/\left < 2 ^ n/\zc0 p n prod sq left=inv p hh) (fun σ _=>zpn σ)
   ⟨rfl,1,hh % p,p - 2,7,rfl,#[O],#[O],e0,e1,#[O],#[O],rfl⟩ ?_ ?_
  ·rintro σ H1 ⟨rfl,prod,sq,left,n,rfl,b0,b1,s0,s1,l0,l1,hi⟩;refine#[Nk];refine zaO (fun hl=>?_) (fun hl=>?_)
   ·have hl:0 < left:=by simpa using hl
    obtain⟨m,rfl⟩:∃ m,n=m+1:=by
     cases n with
     | zero=>lia
     | succ m=>exact⟨m,rfl⟩
    rw [zgq hl l1] at hi;have l2:left / 2 < 2 ^ m:=by
     have:(2:Int) ^ (m+1)=2 ^ m*2:=iL ..;lia
    have m0:=aO (prod*sq) (show p≠0 by lia);have m1:=aK (prod*sq) (show 0 < p by lia);have n0:=aO (sq*sq) (show p≠0 by lia);have n1:=aK (sq*sq) (show 0 < p by lia);refine⟨_,rfl,_,_,rfl,rfl,(by show (0:Int) < 2; decide),rfl,_,rfl,?_⟩; refine zaO (fun ho=>?_) (fun ho=>?_)
    ·have ho:left % 2=1:=by simpa using ho
     rw [if_pos ho] at hi;refine⟨_,rfl,_,rfl,_,_,rfl,rfl,.inl #[wr],_,rfl,_,_,rfl,rfl,(by show 0 < p; lia),?_⟩;refine⟨_,rfl,_,rfl,_,_,rfl,rfl,.inl #[wr],_,rfl,_,_,rfl,rfl,(by show 0 < p; lia),?_⟩;refine⟨_,rfl,_,_,rfl,rfl,#[FB],⟨rfl,_,_,_,m,rfl,m0,m1,n0,n1,#[O],l2,hi⟩,?_⟩;show (left / 2).toNat < left.toNat;lia
    ·have ho:¬ left % 2=1:=by simpa using ho
     rw [if_neg ho] at hi;refine⟨_,rfl,_,rfl,_,_,rfl,rfl,.inl #[wr],_,rfl,_,_,rfl,rfl,(by show 0 < p; lia),?_⟩;refine⟨_,rfl,_,_,rfl,rfl,#[FB],⟨rfl,_,_,_,m,rfl,b0,b1,n0,n1,#[O],l2,hi⟩,?_⟩;show (left / 2).toNat < left.toNat;lia
   ·have hl:¬ 0 < left:=by simpa using hl
    have el:left=0:=by lia
    subst el;rw [zhv] at hi;rw [<- hi] at q;exact⟨_,rfl,q⟩
  ·rintro σ H1 Q1 Q2 hq ⟨v,e,i,j,e1,e2,k,e3,q⟩;exact⟨v,e,i,j,e1,e2,k,e3,hq _ _ q⟩
noncomputable def ze5 (K:ah):Sp:=fun vs H Q _=>∃ (p r:Int) (a:Addr) (cs:List Int),vs = [.int p,.ref a,.int r]/\H a=some (.lst #[Oe])/\cs.length<=1000/\0 < p/\-97<=r/\r<=97 /\
 ∀ (l:Addr) (H':Hp),H l=none->zr H H'->H' l=some (.lst ((zb3 p r cs).map V.int))->Q #[Nv] H'
theorem zce:IJ ["p","polynomial","root","raised","kept"] ["p","polynomial","root"] (zi zbu):=#[S]
theorem zcf (T:Txt K mg base t) (F:Fun K "times_root" "times_root" zbu t.JC fd):Jk P w K mg base CX0 1 t.JC fd ["p","polynomial","root"] (ze5 K):=by
 refine F.ok zce #[re] #[mt]
 ·obtain⟨p,r,a,cs,rfl,_⟩:=h;rfl
 ·obtain⟨p,r,a,cs,rfl,ha,lT,p0,r0,r1,q⟩:=h;refine zaW ?_; intro zX;refine⟨_,#[zd,#[zm,3,zce.nd,#[A],#[zj,#[zcx],#[Ng],#[AT]]],#[zd,#[zm,4,zce.nd,#[A],#[zj,#[zcx],#[AT],#[Ng]]],#[zl,#[zN,#[zal,(IK.of (N':=["high","low","root","p"]) (ix:=[none,none,some 2,some 0]) (zi zbu) _ rfl rfl rfl),#[wE],#[zeg,T.LU,#[za,#[MX],#[OU]]],#[or],#[ul],#[QC]]]]]],?_⟩;refine zgc ?_; intro qB pF;have pO:=aW;refine⟨by show 1<=sizeLine; lia,fun z hz=>⟨_,rfl,z,a,[.int 0],cs.map V.int,rfl,rfl,zc,by rw [zn (zu ha hz)]; exact ha,by rw [ab]; show 1+cs.length<=sizeLine; lia,fun ra wM=>?_⟩⟩;have s1:zr H (lP (lP H z (.lst [.int 0])) ra (.lst ([.int 0]++cs.map V.int))):=(zb hz).trans (zb wM);refine⟨_,rfl,by show 1<=sizeLine; lia,fun z2 rA=>⟨a,z2,cs.map V.int,[.int 0],rfl,rfl,by rw [zn (zu #[SG] rA)]; exact s1 _ _ ha,zc,by rw [ab]; show cs.length+1<=sizeLine; lia,fun ke hke=>?_⟩⟩;have s2:=s1.trans ((zb (o:=.lst [.int 0]) rA).trans (zb (o:=.lst (cs.map V.int++[.int 0])) hke));have wN:lP (lP (lP (lP H z (.lst [.int 0])) ra (.lst ([.int 0]++cs.map V.int))) z2 (.lst [.int 0])) ke (.lst (cs.map V.int++[.int 0])) ra=some (.lst ((0 :: cs).map V.int)) :=
   ((zb (o:=.lst [.int 0]) rA).trans (zb (o:=.lst (cs.map V.int++[.int 0])) hke)) _ _ zc
  have wO:lP (lP (lP (lP H z (.lst [.int 0])) ra (.lst ([.int 0]++cs.map V.int))) z2 (.lst [.int 0])) ke (.lst (cs.map V.int++[.int 0])) ke=some (.lst ((cs++[0]).map V.int)):=by rw [zc,am]; rfl
  generalize lP (lP (lP (lP H z (.lst [.int 0])) ra (.lst ([.int 0]++cs.map V.int))) z2 (.lst [.int 0])) ke (.lst (cs.map V.int++[.int 0]))=H2 at s2 wN wO |-;refine⟨_,rfl,_,rfl,ra,ke,_,_,rfl,lO.of wN,lO.of wO,z9 (n:=cs.length+1) (fun i ys H'=>ys=((zb3 p r cs).take i).map V.int/\zr H2 H') ⟨#[M],fun _ _ e=>e⟩ ?_ ?_ ?_ ?_⟩
  ·rintro i ys H3 hi ⟨_,s3⟩;obtain⟨x,hx⟩:∃ x,(0 :: cs)[i]? = some x:=⟨(0 :: cs)[i]'(by simpa using hi),#[M]⟩;obtain⟨y,hy⟩:∃ y,(cs++[0])[i]? = some y:=⟨(cs++[0])[i]'(by simpa using hi),#[M]⟩;exact⟨_,_,.int x,.int y,lO.of (s3 _ _ wN),lO.of (s3 _ _ wO),by rw [aj,hx]; rfl,by rw [aj,hy]; rfl⟩
  ·rintro ys H3 ⟨_,s3⟩;exact⟨_,_,lO.of (s3 _ _ wN),lO.of (s3 _ _ wO),.inl #[M]⟩
  ·rintro zS zT zE i x ys H3 H4 hi ⟨rfl,s3⟩ ⟨T,u,v,hT,rfl,rfl,hu,hv⟩;obtain⟨x,rfl,hx⟩:=zaL (hu _ (lO.of (s3 _ _ wN)));obtain⟨y,rfl,hy⟩:=zaL (hv _ (lO.of (s3 _ _ wO)));refine gY2 (lY.of zc) ?_;refine⟨_,rfl,_,rfl,_,rfl,_,_,rfl,rfl,.inl #[wr],_,_,rfl,rfl,_,rfl,_,_,rfl,rfl,p0,zay ?_,?_,s3.trans (zb hT)⟩
   ·rw [ab];exact aV (gM _ _) #[O]
   ·show _=(List.take (i+1) (br (trF p r) (0 :: cs) (cs++[0]))).map V.int;rw [zhw hx hy,am];rfl
  ·rintro ys H3 D ⟨rfl,s3⟩ hD;refine q D _ (#[Sh].free hD) (#[Sh].trans (zb hD)) ?_;rw [zc,aH (by rw [zck]; exact af _)]
theorem zmI {p f:Int}:∀ (cs vs:List Int),vs.length<=cs.length->ad p f cs vs=br (fun number other=>(number+f*other) % p) cs vs++cs.drop vs.length
 | [],[],_=>rfl
 | _ :: _,[],_=>rfl
 | [],_ :: _,h=>by simp at h
 | c :: cs,v :: vs,h=>by
  show (c+f*v) % p :: ad p f cs vs=(c+f*v) % p :: (br _ cs vs++cs.drop vs.length);rw [zmI cs vs (by simpa using h)]
theorem zih {xs:List V} (h:k<=xs.length):zcu xs (some (k:Int)) none=xs.drop k:=by
 have e1:HT.sIx xs.length 0 (some (k:Int))=k:=by
  unfold HT.sIx;simp;split <;> lia
 have e2:HT.sIx xs.length xs.length none=xs.length:=rfl;unfold zcu;rw [e1,e2];exact aH (by rw [cn]; exact af _)
noncomputable def zof (K:ah):Sp:=fun vs H Q _=>∃ (p x y:Int) (c v b:Addr) (cs ws:List Int),vs = [.int p,.ref c,.ref v,.ref b]/\H c=some (.lst #[Oe])/\H v=some (.lst (ws.map V.int))/\H b=some (.tup [.int x,.int y])/\p∈zq/\0<=x/\x < p/\0<=y/\y < 10000/\0 < zp p x ws/\zp p x ws < p/\ws.length<=cs.length/\cs.length<=1000 /\
 ∀ (l:Addr) (H':Hp),H l=none->zr H H'->H' l=some (.lst ((ad p (#[QV]*inv p (zp p x ws) % p) cs ws).map V.int))->Q #[Nv] H'
theorem zdd:IJ ["p","polynomial","vanishing","point","x","y","missing","factor","added"] ["p","polynomial","vanishing","point"] (zi ze1):=#[S]
theorem zjP (T:Txt K mg base t) (F:Fun K "bent" "bent" ze1 t.Ml fd):Jk P w K mg base CX0 2 t.Ml fd ["p","polynomial","vanishing","point"] (zof K):=by
 obtain⟨nF,lZ,mf⟩:=T.Jc;have ml:=zb7 (P:=P) (w:=w) (base:=base) T lZ;obtain⟨qM,nU,nV⟩:=T.JU;have pT:=ze4 (P:=P) (w:=w) (base:=base) T nU;refine F.ok zdd #[re] #[mt]
 ·obtain⟨p,x,y,c,v,b,cs,ws,rfl,_⟩:=h;rfl
 ·obtain⟨p,x,y,c,v,b,cs,ws,rfl,hc,hv,hb,mp,x0,x1,y0,y1,g0,g1,hle,lT,q⟩:=h;refine zaW ?_; intro zX;refine⟨_,#[zd,#[zbs,#[MX],#[zaE,#[zh,#[zf,4,zdd.nd,#[A]],#[zh,#[zf,5,zdd.nd,#[A]],#[zy]]]]],#[zd,#[zm,6,zdd.nd,#[A],#[zj,#[zaV],#[Pc],#[zo,ml,#[sn],T.Jn,lZ.kp,mf,#[zJ],#[za,#[AC],#[za,#[AT],#[OU]]]]]],#[zd,#[zm,7,zdd.nd,#[Oo],#[zj,#[zO],#[zj,#[zW],#[On],#[zo,pT,#[sn],T.KU,nU.kp,nV,#[zJ],#[za,#[AC],#[ya,#[zo,ml,#[sn],T.Jn,lZ.kp,mf,#[zJ],#[za,#[AC],#[za,#[Fa],#[OU]]]]]]]],#[AC]]],#[zd,#[zaK,8,zdd.nd,#[A],(IK.of (N':=["number","other","factor","p"]) (ix:=[none,none,some 7,some 0]) (zi ze1) _ rfl rfl rfl),#[wE],#[zeg,T.LU,#[PK]],#[or],#[ul],(fun _ _ _ _=>#[zj,#[zO],#[zj,#[zL],#[AC],#[zj,#[zW],#[Fa],#[AT]]],#[MX]])],#[zl,#[zN,#[zj,#[zcx],#[PV],#[zbc,zbT,#[AT],#[zbt,#[zw,#[zI],T.Ki,cp,#[ya,#[PV]]]],#[zbS]]]]]]]]],?_⟩;refine znk ?_; intro yO uD qB pF;have pO:=aW;have rp:=zC mp;have p0:0 < p:=by lia
  have v0:=zbD (x:=x) p0 cs;have v1:=zbE (x:=x) p0 cs;refine⟨_,rfl,b,_,rfl,lY.of hb,rfl,_,_,rfl,_,_,rfl,rfl,?_⟩;refine⟨_,rfl,_,rfl,_,rfl,_,rfl,p,x,c,cs,rfl,.inl (lO.of hc),p0,#[O],x0,x1,_,_,rfl,rfl,?_⟩;refine⟨_,rfl,_,rfl,_,rfl,_,rfl,_,rfl,p,x,v,ws,rfl,.inl (lO.of hv),p0,#[O],x0,x1,p,_,rfl,mp,#[O],#[O],_,_,rfl,rfl,.inl #[wr],_,rfl,_,_,rfl,rfl,p0,?_⟩;have f0:=aO (#[QV]*inv p (zp p x ws)) (show p≠0 by lia);have f1:=aK (#[QV]*inv p (zp p x ws)) p0;refine⟨_,rfl,_,rfl,c,v,_,_,rfl,lO.of hc,lO.of hv,zfQ (n:=ws.length) (f:=fun number other=>(number+(#[QV]*inv p (zp p x ws) % p)*other) % p) hc hv hle (af _) (.inr (af _)) #[O] ?_ ?_⟩
  ·intro j u w H6 T R B hu hv s6 hT hR;refine gY2 (lY.of zc) ?_;exact#[Qx]
  ·intro D H6 s6 hD;obtain⟨f,hf⟩:∃ f,(y - zp p x cs)*inv p (zp p x ws) % p=f:=⟨_,rfl⟩;rw [hf] at q |-;have lz:(br (fun number other=>(number+f*other) % p) cs ws).length=ws.length:=by rw [fw]; lia
   have s7:=s6.trans (zb (o:=.lst ((br (fun number other=>(number+f*other) % p) cs ws).map V.int)) hD);have x5:lP H6 D (.lst ((br (fun number other=>(number+f*other) % p) cs ws).map V.int)) D=some (.lst ((br (fun number other=>(number+f*other) % p) cs ws).map V.int)):=zc;generalize lP H6 D (.lst ((br (fun number other=>(number+f*other) % p) cs ws).map V.int))=H7 at s7 x5 |-;have uG:=s7 _ _ hc;refine⟨_,rfl,_,rfl,_,rfl,D,_,rfl,.inl (lO.of x5),?_⟩;refine⟨_,rfl,c,_,rfl,lO.of uG,fun z hz=>?_⟩;have ec:zcu #[Oe] (some ((((br (fun number other=>(number+f*other) % p) cs ws).map V.int).length:Nat):Int)) none=(cs.drop ws.length).map V.int:=by
    rw [ab,lz,zih (by rw [ab]; exact hle),fq]
   rw [ec];have s8:=zb (o:=.lst ((cs.drop ws.length).map V.int)) hz;refine⟨D,z,_,_,rfl,rfl,s8 _ _ x5,zc,by rw [ab,ab,lz,cn]; lia,fun l hl=>q l _ (((s7.trans s8).free hl)) ((s7.trans s8).trans (zb hl)) ?_⟩;rw [zc,zmI cs ws hle,am]
theorem zbm:IJ ["p","points","polynomial","vanishing","x","y"] ["p","points"] (zi zc9):=#[S]
theorem ziY (T:Txt K mg base t) (F:Fun K "through" "through" zc9 t.through fd):Jk P w K mg base CX0 3 t.through fd ["p","points"] (zh4 K):=by
 obtain⟨uZ,qN,qO⟩:=T.Lf;have uH:=zjP (P:=P) (w:=w) (base:=base) T qN;obtain⟨nI,l9,mi⟩:=T.IX;have mN:=zcf (P:=P) (w:=w) (base:=base) T l9;refine F.ok zbm #[re] #[mt]
 ·obtain⟨p,a,lR,rfl,_⟩:=h;rfl
 ·obtain⟨p,a,lR,rfl,hP,lT,mp,hp,hyr,q⟩:=h;refine zaW ?_; intro zX;refine⟨_,#[zd,#[zm,2,zbm.nd,#[A],#[zj,#[zeB],#[Ng],#[Ri]]],#[zd,#[zm,3,zbm.nd,#[A],#[Ng]],#[zd,#[zaF,bp,#[Q6],#[zaE,#[zh,#[zf,4,zbm.nd,#[A]],#[zh,#[zf,5,zbm.nd,#[A]],#[zy]]]],#[zd,#[zm,2,zbm.nd,#[A],#[zo,uH,#[sn],T.LQ,qN.kp,qO,#[zJ],#[za,#[AC],by exact #[za,#[Fa],#[za,#[MX],#[ya,#[zaS,#[za,#[M5],#[Se]]]]]]]]],#[zl,#[zm,3,zbm.nd,#[A],#[zo,mN,#[sn],T.Ju,l9.kp,mi,#[zJ],#[za,#[AC],#[za,#[MX],#[OU]]]]]]]],#[zl,#[zN,#[zan,#[zaP],T.Ks,gG,#[Ny]]]]]]],?_⟩;refine ziC ?_; intro uD qB pF;have pO:=aW;have rp:=zC mp;have p0:0 < p:=by lia
  obtain⟨bs,hS,tQ,hb⟩:=id hP;refine⟨by show 1<=sizeLine; lia,fun z hz=>⟨_,rfl,a,_,rfl,.inl ((zb hz).seq hS),z,_,[.int 0],rfl,rfl,zc,by rw [ab]; lia,by rw [ab]; lia,by rw [ab]; show 1*_<=sizeLine; lia,fun c hc=>?_⟩⟩;have s0:=zb (o:=.lst [.int 0]) hz;have hcH:H c=none:=s0.free hc;refine⟨by show 1<=sizeLine; lia,fun v hv=>?_⟩;have hcv:c≠v:=zu zc hv;rw [ab,zeJ,tQ,bh] at hv |-;have s2:zr H (lP (lP (lP H z (.lst [.int 0])) c (.lst ((aJ lR.length 0).map V.int))) v (.lst [.int 1])):=(s0.trans (zb hc)).trans (zb hv);refine⟨_,rfl,a,rfl,⟨_,s2.seq hS⟩,zaQ (K:=K) (a:=a) (xs:=bs.map V.ref) (fun i σ H'=>∃ (c v:Addr) (s:List Int×List Int) (e4 e5:Option V),σ = [some #[OZ],some #[M8],some #[PY],some (.ref v),e4,e5] /\
   s=#[Qq].foldl (zcI p) (aJ lR.length 0,[1])/\Nw p lR.length (#[Qq].map (md p)) s/\zr H H'/\H' c=some (.lst (s.1.map V.int))/\H' v=some (.lst (s.2.map V.int)))
   ⟨c,v,_,none,none,rfl,rfl,by rw [c7]; exact zeG mp _,s2,by rw [zn hcv]; exact zc,zc⟩ (fun i σ H' _ ⟨_,_,_,_,_,_,_,_,s3,_⟩=>s3.seq hS) ?_ ?_⟩
  ·rintro zD zT i y σ H1 hy ⟨c,v,s,e4,e5,rfl,hs,nw,s1,sy,G4⟩;obtain⟨b,rfl,vG⟩:=zV hy;obtain⟨hi,_⟩:=av.mp vG;obtain⟨⟨x,y⟩,hq⟩:∃ q,lR[i]? = some q:=⟨lR[i]'#[O],#[M]⟩;have hbq:=s1 _ _ (hb i b _ vG hq);have vU:=zeK hq;have pD:=hp;rw [vU,am,aM] at pD;have EH:=pD.apart;obtain⟨x0,x1,m0,m1⟩:=hp.rg _ (aw.mpr ⟨_,aA hq,rfl⟩);obtain⟨y0,y1⟩:=hyr _ (aA hq);dsimp only [md] at x0 x1 m0 m1 y0 y1;have xv:i < lR.length:=by lia
   have pR:#[Qq].length=i:=by rw [aG]; lia
   have G5:=zgo mp nw (q:=md p (x,y)) (by rw [ab,pR]; exact xv) x0 x1 m0 m1 EH;rw [zh3] at G5;obtain⟨EI,Bw⟩:=zgn mp nw (q:=(x,y)) x0 x1 (fun a ha=>⟨(EH a ha).1,(EH a ha).2.1,(EH a ha).2.2.1⟩);dsimp only at EI Bw;have qZ:zcI p s (x,y)=(ad p ((y - zp p x s.1)*inv p (zp p x s.2) % p) s.1 s.2,zb3 p x s.2):=rfl;rw [qZ] at G5;have l1:=nw.lc;have l2:=nw.lv;rw [ab,pR] at l2;refine⟨b,_,rfl,lY.of hbq,rfl,_,_,rfl,_,_,rfl,rfl,?_⟩;refine⟨_,rfl,_,rfl,_,rfl,_,rfl,_,rfl,by show 2<=sizeLine; lia,fun tt ht=>?_⟩;have t1:=zb (o:=.tup [.int x,.int y]) ht;refine⟨p,x,y,c,v,tt,s.1,s.2,rfl,t1 _ _ sy,t1 _ _ G4,zc,mp,x0,x1,y0,y1,EI,Bw,#[O],#[O],fun l H3 hl s3 yQ=>?_⟩;have s4:=t1.trans s3;refine⟨_,rfl,_,rfl,_,rfl,p,x,v,s.2,rfl,s4 _ _ G4,#[O],p0,#[O],#[O],fun l2 H4 oT s5 yR=>?_⟩;refine⟨l,l2,zcI p s (x,y),_,_,rfl,?_,?_,(s1.trans s4).trans s5,?_,?_⟩
   ·rw [take_snoc hq,f7,<- hs];rfl
   ·rw [take_snoc hq,qZ,am];exact G5
   ·rw [qZ];exact s5 _ _ yQ
   ·rw [qZ];exact yR
  ·rintro σ H1 ⟨c,v,s,e4,e5,rfl,hs,nw,s1,sy,G4⟩;rw [ab,tQ,bC] at hs;refine⟨_,rfl,c,_,rfl,.inl ⟨lO.of sy,fun l hl=>q l _ (s1.free hl) (s1.trans (zb hl)) ?_⟩⟩;rw [zc,hs,zpE];rfl
theorem zbj:IJ ["code","row","p","k","places"] ["code","row"] (zi za4):=#[S]
theorem zcJ (T:Txt K mg base t) (F:Fun K "heard_points" "heard_points" za4 t.Ji fd):Jk P w K mg base CX0 1 t.Ji fd ["code","row"] (znQ K):=by
 refine F.ok zbj #[re] #[mt]
 ·obtain⟨c,tt,r,p,k,pl,rw,rfl,_⟩:=h;rfl
 ·obtain⟨c,tt,r,p,k,pl,rw,rfl,hc,wQ,hn,q⟩:=h;refine zaW ?_; intro zX;refine⟨_,#[zd,#[zbs,#[AC],#[zaE,#[zh,#[zf,2,zbj.nd,#[A]],#[zh,#[zf,3,zbj.nd,#[A]],#[zh,#[zf,4,zbj.nd,#[A]],#[zy]]]]]],#[zl,#[zN,#[zal,(IK.of (N':=["place","entry"]) (ix:=[none,none]) (zi za4) _ rfl rfl rfl),#[wE],(@zlM _ _ _ _ _ _ _ _ _ rfl T.LU #[za,#[M5],#[Oy]] (by rfl) (by rfl)),#[or],#[RN],(fun _ _ _ _=>#[zaS,#[Nc]])]]]],?_⟩;refine zln ?_; intro pF;have pO:=aW;have hl:=wQ.len;refine⟨_,rfl,c,_,rfl,lY.of hc.1,rfl,_,_,rfl,_,_,rfl,_,_,rfl,rfl,?_⟩;refine⟨_,rfl,_,rfl,tt,r,_,_,rfl,lY.of hc.2,wQ.at',z9 (n:=pl.length) (fun i ys H'=>zr H H'/\∃ us:List Addr,ys=us.map V.ref/\PtB H' us (mS (pl.take i) (rw.take i))) ⟨fun _ _ e=>e,[],rfl,.nil⟩ ?_ ?_ ?_ ?_⟩
  ·rintro i ys H3 hi ⟨s3,_⟩;obtain⟨o,ho⟩:∃ o,rw[i]? = some o:=⟨rw[i]'#[O],#[M]⟩;exact⟨_,_,.int pl[i],pB o,lY.of (s3 _ _ hc.2),s3.seq wQ.at',by rw [aj,ag hi]; rfl,by rw [aj,ho]; rfl⟩
  ·rintro ys H3 ⟨s3,_⟩;exact⟨_,_,lY.of (s3 _ _ hc.2),s3.seq wQ.at',.inl (by rw [ab])⟩
  ·rintro zS zT zE i xx ys H3 H4 hi ⟨s3,us,rfl,mj⟩ ⟨T,u,v,hT,rfl,rfl,hu,hv⟩;obtain⟨x,rfl,hx⟩:=zaL (hu _ (lY.of (s3 _ _ hc.2)));obtain⟨o,rfl,ho⟩:=zei (hv _ (s3.seq wQ.at'));have v4:=zb (o:=.tup [.int x,pB o]) hT;have s4:=s3.trans v4;have hs:=zeX hx ho;have rm:=mj.length;have hb:=zb4 (pl.take i) (rw.take i);rw [aG] at hb;refine#[S7];refine#[Q9];cases o with
   | none =>
    refine zki ⟨s4,us,rfl,?_⟩;rw [hs,bH];exact mj.same v4
   | some z =>
    refine zpb ⟨_,rfl,_,rfl,by show 2<=sizeLine; lia,fun T2 o7=>⟨by rw [ab]; lia,s4.trans (zb o7),us++[T2],by rw [am]; rfl,?_⟩⟩;rw [hs];exact cb (mj.same (v4.trans (zb o7))) zc
  ·rintro ys H3 D ⟨s3,us,rfl,mj⟩ hD;rw [bC,aH #[O]] at mj;exact q D us _ (s3.free hD) #[P0] zc #[Qi]
noncomputable def T3 (H:Hp):List Addr->List Wt3->Prop:=Paired fun b q=>H b=some (.tup [.int q.1,.int q.2.1,.int q.2.2])
theorem T3.same (s:zr H H') {bs:List Addr} {ts:List Wt3} (h:T3 H bs ts):T3 H' bs ts:=c6 #[NL] h
noncomputable def wpp (pl:List Int) (q:Wt3):Wt3:=(pl.getD q.1.toNat 0,q.2.1,q.2.2)
theorem zqs {x:Int} (x0:0<=x) (x1:x < pl.length):atI #[Rx] x=some (.int (pl.getD x.toNat 0)):=by
 obtain⟨n,rfl⟩:∃ n:Nat,x=n:=⟨x.toNat,#[O]⟩;have hn:n < pl.length:=by lia
 refine zaH ?_;rw [aj,ag hn,bh,aZ,ag hn];rfl
noncomputable def zog (K:ah):Sp:=fun vs H Q _=>∃ (c tt g:Addr) (p k:Int) (pl:List Int) (bs:List Addr) (ts:List Wt3),vs = [.ref c,.ref g]/\zaY H c tt p k pl/\H g=some #[At]/\T3 H bs ts/\ts.length<=60/\(∀ q∈ts,0<=q.1/\q.1 < pl.length) /\
 ∀ (l:Addr) (ds:List Addr) (H':Hp),H l=none->zr H H'->H' l=some #[Oa]->T3 H' ds #[BT]->Q #[Nv] H'
theorem zaN:IJ ["code","guesses","p","k","places"] ["code","guesses"] (zi zaC):=#[S]
theorem zbn (T:Txt K mg base t) (F:Fun K "weighted_points" "weighted_points" zaC t.IP fd):Jk P w K mg base CX0 1 t.IP fd ["code","guesses"] (zog K):=by
 refine F.ok zaN #[re] #[mt]
 ·obtain⟨c,tt,g,p,k,pl,bs,ts,rfl,_⟩:=h;rfl
 ·obtain⟨c,tt,g,p,k,pl,bs,ts,rfl,hc,hg,hT,hn,hq,q⟩:=h;refine zaW ?_; intro zX;refine⟨_,#[zd,#[zbs,#[AC],#[zaE,#[zh,#[zf,2,zaN.nd,#[A]],#[zh,#[zf,3,zaN.nd,#[A]],#[zh,#[zf,4,zaN.nd,#[Oo]],#[zy]]]]]],#[zl,#[zN,#[zal,(IK.of (N':=["number","entry","weight","places"]) (ix:=[none,none,none,some 4]) (zi zaC) _ rfl rfl rfl),#[NZ],#[Q6],#[wv],(fun _ _ _ _=>#[zbH,(@zlj _ _ _ _ _ _ _ _ _ _ _ _ #[zox] #[zey] #[zg] #[AC] #[zw,#[zbd,(K)],T.Ki,cp,#[ya,#[MX]]] (by with_unfolding_all rfl))]),(fun _ _ _ _=>#[zaS,#[za,#[zR,(@znn _ (K) rfl),#[MX],#[AC]],#[PK]]])]]]],?_⟩;refine zln ?_; intro pF;have pO:=aW;have tQ:=hT.length;refine⟨_,rfl,c,_,rfl,lY.of hc.1,rfl,_,_,rfl,_,_,rfl,_,_,rfl,rfl,?_⟩;refine⟨_,rfl,g,rfl,⟨_,lO.of hg⟩,z9 (n:=bs.length) (fun i ys H'=>(∃ ds:List Addr,ys=ds.map V.ref/\T3 H' ds (#[SD].map (wpp pl)))/\zr H H') ⟨⟨[],rfl,.nil⟩,fun _ _ e=>e⟩ ?_ ?_ ?_ ?_⟩
  ·rintro i ys H3 hi ⟨_,s3⟩;exact⟨_,.ref bs[i],lO.of (s3 _ _ hg),by rw [aj,ag hi]; rfl⟩
  ·rintro ys H3 ⟨_,s3⟩;exact⟨_,lO.of (s3 _ _ hg),by rw [ab]; exact af _⟩
  ·rintro zS zT zE i xx ys H3 H4 hi ⟨⟨ds,rfl,u9⟩,s3⟩ ⟨rfl,C1⟩;obtain⟨b,rfl,vG⟩:=zV (C1 _ (lO.of (s3 _ _ hg)));obtain⟨z,hz,hb⟩:=Paired.get hT vG;obtain⟨z0,z1⟩:=hq z (aA hz);have tP:=u9.length;rw [ab,aG] at tP;refine#[QR];refine#[Nk];refine zaO #[wP] (fun h1=>absurd (decide_eq_true z0) h1);refine⟨_,rfl,tt,_,rfl,.inr (lY.of (s3 _ _ hc.2)),_,_,rfl,rfl,_,rfl,?_⟩;refine zaO #[wP] (fun h2=>absurd (decide_eq_true (by rw [ab]; exact z1)) h2);refine⟨_,rfl,_,rfl,tt,_,_,_,rfl,rfl,lY.of (s3 _ _ hc.2),zqs z0 z1,_,rfl,_,rfl,by show 3<=sizeLine; lia,fun T2 o7=>⟨by rw [ab]; lia,⟨ds++[T2],by rw [am]; rfl,?_⟩,s3.trans (zb o7)⟩⟩;rw [take_snoc hz,am];exact cb (u9.same (zb o7)) zc
  ·rintro ys H3 D ⟨⟨ds,rfl,u9⟩,s3⟩ hD;rw [tQ,bC] at u9;exact q D ds _ (s3.free hD) #[P0] zc (u9.same (zb hD))
noncomputable def zpN (K:ah):Sp:=fun vs H Q _=>∃ (a f:Addr) (p:Int) (cs:List Int) (bs:List Addr) (ts:List Wt3),vs = [.int p,.ref a,.ref f]/\H a=some #[At]/\T3 H bs ts/\H f=some (.tup #[Oe])/\ts.length<=60/\0 < p/\p<=97/\(∀ q∈ts,0<=q.1/\q.1 < p) /\
 ∀ H',zr H H'->Q (.int (wsum p cs ts)) H'
theorem zgQ:IJ ["p","points","polynomial"] ["p","points","polynomial"] (zi zbN):=#[S]
theorem zdJ (T:Txt K mg base t) (F:Fun K "weight_in" "weight_in" zbN t.JN fd):Jk P w K mg base CX0 2 t.JN fd ["p","points","polynomial"] (zpN K):=by
 obtain⟨nF,lZ,mf⟩:=T.Jc;have ml:=zb7 (P:=P) (w:=w) (base:=base) T lZ;refine F.ok zgQ #[re] #[mt]
 ·obtain⟨a,f,p,cs,bs,ts,rfl,_⟩:=h;rfl
 ·obtain⟨a,f,p,cs,bs,ts,rfl,ha,hT,hf,hn,p0,p1,hq,q⟩:=h;refine zaW ?_; intro zX;refine⟨_,#[zl,#[zN,#[zw,#[zdR],T.Mv,boot_sum,#[ya,#[zal,(IK.of (N':=["x","y","weight","p","polynomial"]) (ix:=[none,none,none,some 0,some 2]) (zi zbN) _ rfl rfl rfl),#[NZ],#[Q6],#[wv],(fun _ _ _ _=>#[zbH,#[zH,#[zex],#[zo,ml,#[sn],T.Jn,lZ.kp,mf,#[zJ],#[za,#[MX],#[za,#[M5],#[ya,#[AC]]]]],#[AT],(zY _)]]),(fun _ _ _ _=>#[Fa])]]]]],?_⟩;have pO:=aW;have tQ:=hT.length;refine⟨_,rfl,a,rfl,⟨_,lO.of ha⟩,z9 (n:=bs.length) (fun i ys H'=>ys=((#[SD].filter (za3 p cs)).map (·.2.2)).map V.int/\zr H H') ⟨rfl,fun _ _ e=>e⟩ ?_ ?_ ?_ ?_⟩
  ·rintro i ys H3 hi ⟨_,s3⟩;exact⟨_,.ref bs[i],lO.of #[Qo],by rw [aj,ag hi]; rfl⟩
  ·rintro ys H3 ⟨_,s3⟩;exact⟨_,lO.of #[Qo],by rw [ab]; exact af _⟩
  ·rintro zS zT zE i xx ys H3 H4 hi ⟨rfl,s3⟩ ⟨rfl,C1⟩;obtain⟨b,rfl,vG⟩:=zV (C1 _ (lO.of #[Qo]));obtain⟨z,hz,hb⟩:=Paired.get hT vG;obtain⟨z0,z1⟩:=hq z (aA hz);have e1:(ts.take (i+1)).filter (za3 p cs)=#[SD].filter (za3 p cs)++[z].filter (za3 p cs):=by rw [take_snoc hz,bW]
   have AL:=b9 (za3 p cs) #[SD];rw [aG] at AL;refine#[QR];refine⟨_,rfl,_,rfl,_,rfl,p,z.1,f,cs,rfl,.inr (lY.of (s3 _ _ hf)),p0,p1,z0,z1,_,rfl,rfl,_,rfl,?_⟩;have eD:decide (V.int (zp p z.1 cs)=V.int z.2.1)=za3 p cs z:=by
    unfold za3;by_cases h:zp p z.1 cs=z.2.1
    ·rw [h]; simp
    ·rw [decide_eq_false h,decide_eq_false fun e=>h (by injection e)]
   rw [eD,e1];refine zaO (fun h=>⟨_,rfl,?_,?_,s3⟩) (fun h=>⟨?_,s3⟩)
   ·rw [ab,ab]; lia
   ·rw [bb h,am,am]; rfl
   ·rw [bd h,fE,bH]
  ·rintro ys H3 D ⟨rfl,s3⟩ hD;rw [tQ,bC];exact⟨D,_,rfl,lO.of zc,q _ #[P0]⟩
noncomputable def zpO (K:ah):Sp:=fun vs H Q _=>∃ (c tt g f:Addr) (p k:Int) (pl cs:List Int) (bs:List Addr) (ts:List Wt3),vs = [.ref c,.ref g,.ref f]/\zaY H c tt p k pl/\H g=some #[At]/\T3 H bs ts/\H f=some (.tup #[Oe])/\ts.length<=60/\0 < p/\p<=97/\(∀ q∈ts,0<=q.1/\q.1 < pl.length)/\(∀ x∈pl,0<=x/\x < p) /\
 ∀ H',zr H H'->Q (.int (wsum p cs #[BT])) H'
theorem zmJ {p:Int} {ts:List Wt3} (h:∀ q∈ts,0<=q.1/\q.1 < pl.length) (hp:∀ x∈pl,0<=x/\x < p):∀ q∈ts.map (wpp pl),0<=q.1/\q.1 < p:=fun q hq=>by
 obtain⟨z,hz,rfl⟩:=aw.mp hq;obtain⟨z0,z1⟩:=h z hz;have hn:z.1.toNat < pl.length:=by lia
 show 0<=pl.getD z.1.toNat 0/\pl.getD z.1.toNat 0 < p;rw [aZ,ag hn];exact hp _ (cG hn)
theorem zgR:IJ ["code","guesses","polynomial"] ["code","guesses","polynomial"] (zi zb5):=#[S]
theorem zgS (T:Txt K mg base t) (F:Fun K "weight_of" "weight_of" zb5 t.JM fd):Jk P w K mg base CX0 3 t.JM fd ["code","guesses","polynomial"] (zpO K):=by
 obtain⟨pG,mX,mY⟩:=T.Jr;have oE:=zdJ (P:=P) (w:=w) (base:=base) T mX;obtain⟨mJ,lU,lW⟩:=T.IL;have me:=zbn (P:=P) (w:=w) (base:=base) T lU;refine F.ok zgR #[re] #[mt]
 ·obtain⟨c,tt,g,f,p,k,pl,cs,bs,ts,rfl,_⟩:=h;rfl
 ·obtain⟨c,tt,g,f,p,k,pl,cs,bs,ts,rfl,hc,hg,hT,hf,hn,p0,p1,hq,m8,q⟩:=h;refine zaW ?_; intro zX;refine⟨_,#[zl,#[zN,#[zo,oE,#[sn],T.Kh,mX.kp,mY,#[zJ],#[za,#[zR,#[zcv],#[AC],#[zg]],#[za,#[OP],#[Ny]]]]]],?_⟩;refine⟨_,rfl,c,_,_,_,rfl,rfl,lY.of hc.1,rfl,_,rfl,_,rfl,c,tt,g,p,k,pl,bs,ts,rfl,hc,hg,hT,hn,hq,fun l ds H1 hl s1 h1 wR=>?_⟩;exact⟨_,rfl,l,f,p,cs,ds,_,rfl,h1,wR,s1 _ _ hf,by rw [ab]; exact hn,p0,p1,zmJ hq m8,fun H2 s2=>q H2 (s1.trans s2)⟩
noncomputable def zqt (K:ah):Sp:=fun vs H Q _=>∃ (a:Addr) (m:Nat) (bs:List Addr) (ts:List Wt3),vs = [.ref a,.int (m:Int)]/\H a=some #[At]/\T3 H bs ts/\ts.length<=60/\(∀ q∈ts,0<=q.2.2) /\
 ∀ (v:Int) (H':Hp),zgN ((mxs #[Pg]).map (·.2)) m v->zr H H'->Q (.int v) H'
theorem za6:IJ ["points","many","greatest","x","y","weight"] ["points","many"] (zi zbg):=#[S]
theorem zcW (T:Txt K mg base t) (F:Fun K "most_weight" "most_weight" zbg t.Jd fd):Jk P w K mg base CX0 1 t.Jd fd ["points","many"] (zqt K):=by
 refine F.ok za6 #[re] #[mt]
 ·obtain⟨a,m,bs,ts,rfl,_⟩:=h;rfl
 ·obtain⟨a,m,bs,ts,rfl,ha,hT,hn,hw,q⟩:=h;have hu:(A.deeper (envOfC (bD "most_weight") (zi zbg) s.heap.objs.size t.Jd mE)).units+1 < cLine:=by have:=hr.units; lia
  refine zaW ?_; intro zX;refine⟨_,#[zd,#[zm,2,za6.nd,#[A],(@zlQ _ _)],#[zd,#[zaF,bp,#[z8,#[AC]],#[zaE,#[zh,#[zf,3,za6.nd,#[A]],#[zh,#[zf,4,za6.nd,#[A]],#[zh,#[zf,5,za6.nd,#[A]],#[zy]]]]],#[zl,#[zgu,hu,#[Fa],#[MX],#[zw,#[zdP],T.L5,iQ,#[za,#[Pc],#[ya,#[zeO,hu,#[Fa],#[MX],#[zg],⟨rfl,rfl,rfl,rfl⟩]]]]]]],#[zl,#[zN,#[zw,#[zdR],T.Mv,boot_sum,#[ya,#[zbc,zbT,(zkX rfl rfl T.Kx #[Fa]),#[zbS],#[zbt,#[AT]]]]]]]]],?_⟩;refine zgc ?_; intro qB pF;have pO:=aW;have tQ:=hT.length;have vY:∀ q∈ts.map kw,0<=q.2:=fun x hx=>by
   obtain⟨z,hz,rfl⟩:=aw.mp hx;exact hw z hz
  intro D hD;have s0:=zb (o:=.dK []) hD;refine⟨_,rfl,a,rfl,⟨_,lO.of (s0 _ _ ha)⟩,zaQ (K:=K) (a:=a) (xs:=bs.map V.ref) (fun i σ H'=>∃ (e3 e4 e5:Option V),σ = [some #[M8],some (.int (m:Int)),some #[M6],e3,e4,e5]/\zr H H'/\H' D=some (.dK ((mxs (#[Pg].take i)).map zd9)))
   ⟨none,none,none,rfl,s0,zc⟩ (fun i σ H' _ ⟨_,_,_,_,s3,_⟩=>lO.of #[Qo]) ?_ ?_⟩
  ·rintro zD zT i xx σ H1 C1 ⟨e3,e4,e5,rfl,s1,uI⟩;obtain⟨b,rfl,vG⟩:=zV C1;obtain⟨z,hz,hb⟩:=Paired.get hT vG;have BA:=zgM (l:=ts.map kw) i vY;have vC:=BA.ln;rw [aG,ab] at vC;have xI:#[Pg][i]? = some (z.1,z.2.2):=by rw [aj,hz]; rfl
   refine⟨b,_,rfl,lY.of (s1 _ _ hb),rfl,_,_,rfl,_,_,rfl,_,_,rfl,rfl,?_⟩;refine⟨_,rfl,_,rfl,D,rfl,.inl ⟨_,.inl uI⟩,_,rfl,_,.inl ⟨_,bI z.1,.inl uI,rfl,rfl⟩,?_⟩;have hg:(zaU ((mxs (#[Pg].take i)).map zd9) (bI z.1)).getD (.int 0) = .int ((zdG (mxs (#[Pg].take i)) z.1).getD 0):=by
    rw [zmA];cases zdG (mxs (#[Pg].take i)) z.1 <;> rfl
   rw [hg];refine⟨_,_,rfl,_,rfl,_,rfl,D,_,rfl,.inl ⟨_,bI z.1,uI,rfl,by rw [ab]; lia,rfl⟩,?_⟩;refine⟨_,_,_,rfl,fun c o e=>by rw [zn (zu e hD)]; exact s1 _ _ e,?_⟩;rw [zc,zmB,take_snoc xI,ze0];rfl
  ·rintro σ H1 ⟨e3,e4,e5,rfl,s1,uI⟩;have BA:=zoL vY;have vC:=BA.ln;rw [ab] at vC uI;rw [tQ,aH (by rw [ab]; exact af _)] at uI;refine⟨_,rfl,D,_,(mxs #[Pg]).map (·.2),rfl,uI,by rw [aR,aR]; rfl,by rw [ab]; lia,fun l uj hl hp GL=>?_⟩;have s2:=s1.trans (zb (o:=.lst (uj.map V.int)) hl);refine⟨_,rfl,_,rfl,l,_,rfl,lO.of zc,fun l2 oT=>?_⟩;rw [ze3,<- dJ];exact⟨l2,_,rfl,lO.of zc,q _ _ ⟨uj,hp,GL,rfl⟩ (s2.trans (zb oT))⟩
noncomputable def PkA (H:Hp) (p:Int) (k:Nat) (b:Addr) (c:Pk):Prop:=∃ la lv,H b=some (.tup [.int (c.1:Int),.int (wts c.2),.ref la,.ref lv])/\H la=some (.lst ((pkP p k c.2).1.map V.int))/\H lv=some (.lst ((pkP p k c.2).2.map V.int))
theorem PkA.same (s:zr H H') {p:Int} {b:Addr} {c:Pk} (h:PkA H p k b c):PkA H' p k b c:=by
 obtain⟨la,lv,h1,h2,h3⟩:=h;exact⟨la,lv,s _ _ h1,s _ _ h2,s _ _ h3⟩
noncomputable def PkB (H:Hp) (p:Int) (k:Nat):List Addr->List Pk->Prop:=Paired (PkA H p k)
theorem PkB.same (s:zr H H') {p:Int} {bs:List Addr} {cs:List Pk} (h:PkB H p k bs cs):PkB H' p k bs cs:=c6 (fun _ _ z=>PkA.same s z) h
theorem zmK (S:List Wt3) (q:Wt3):wts (S++[q])=wts S+q.2.2:=by rw [zes]; unfold wts; simp
noncomputable def zqu (K:ah):Sp:=fun vs H Q _=>∃ (a r b:Addr) (p T:Int) (k j:Nat) (c:Pk) (bs:List Addr) (ts:List Wt3) (R:List Int),vs = [.int p,.ref a,.ref r,.int T,.ref b]/\H a=some #[At]/\T3 H bs ts/\H r=some #[Ps]/\R.length=ts.length/\PkA H p k b c/\Mf p ts j c/\j < k/\k<=5/\Wp p ts/\p∈zq/\ts.length<=60 /\
 ∀ (l:Addr) (ds:List Addr) (res:List Pk) (H':Hp),H l=none->zr H H'->H' l=some #[Oa]->PkB H' p k ds res->LP ts #[RE] T c res->Q #[Nv] H'
theorem zad:IJ ["p","points","rests","least","pick","start","weight","polynomial","vanishing","found","at","x","y","more","longer"] ["p","points","rests","least","pick"] (zi zbV):=#[S]
theorem zfq (T:Txt K mg base t) (F:Fun K "next_picks" "next_picks" zbV t.JE fd):Jk P w K mg base CX0 3 t.JE fd ["p","points","rests","least","pick"] (zqu K):=by
 obtain⟨nF,lZ,mf⟩:=T.Jc;have ml:=zb7 (P:=P) (w:=w) (base:=base) T lZ;obtain⟨uZ,qN,qO⟩:=T.Lf;have uH:=zjP (P:=P) (w:=w) (base:=base) T qN;obtain⟨nI,l9,mi⟩:=T.IX;have mN:=zcf (P:=P) (w:=w) (base:=base) T l9;refine F.ok zad #[re] #[mt]
 ·obtain⟨a,r,b,p,T',k,j,c,bs,ts,R,rfl,_⟩:=h;rfl
 ·obtain⟨a,r,b,p,T',k,j,c,bs,ts,R,rfl,ha,hT,wQ,EJ,hb,hok,hjk,hk5,hW,hp,hn,q⟩:=h;refine zaW ?_; intro zX;refine⟨_,#[zd,#[zbs,#[M5],#[zaE,#[zh,#[zf,5,zad.nd,#[A]],#[zh,#[zf,6,zad.nd,#[A]],#[zh,#[zf,7,zad.nd,#[A]],#[zh,#[zf,8,zad.nd,#[A]],#[zy]]]]]]],#[zd,#[zm,9,zad.nd,#[A],#[NT]],#[zd,#[zaF,bp,#[zfA,T.IS,#[za,#[Pc],#[ya,#[Ri]]]],#[zf,10,zad.nd,#[A]],#[zd,#[zbo,#[zH,#[zey],#[zj,#[zL],#[On],#[zR,#[zG],#[Fa],#[Rm]]],#[MX],(zY _)],#[zl,(@zlc _ _)],#[zam]],#[zd,#[zbs,#[zR,#[zG],#[AT],#[Rm]],#[zaE,#[zh,#[zf,11,zad.nd,#[A]],#[zh,#[zf,12,zad.nd,#[A]],#[zh,#[zf,13,zad.nd,#[A]],#[zy]]]]]],#[zl,#[zbo,#[zH,#[zhg],#[zo,ml,#[sn],T.Jn,lZ.kp,mf,#[zJ],#[za,#[AC],#[za,#[PV],#[Px]]]],#[zg],(zY _)],#[zd,#[zm,14,zad.nd,#[A],#[zo,uH,#[sn],T.LQ,qN.kp,qO,#[zJ],#[za,#[AC],by exact #[za,#[RY],#[za,#[PV],#[ya,#[zaS,#[za,#[pvx,11],#[ya,#[pvx,12]]]]]]]]]],#[zl,#[zbR,#[zdX,cq,dG,dH,#[zci],#[Qk],#[ya,#[zaS,#[za,#[zj,#[zL],#[Rm],#[zg]],by exact #[za,#[zj,#[zL],#[On],#[pvx,13]],#[za,#[pvx,14],#[ya,#[zo,mN,#[sn],T.Ju,l9.kp,mi,#[zJ],#[za,#[AC],#[za,#[PV],#[Px]]]]]]]]]]]]]],#[zam]]]]]],#[zl,#[zN,#[Qk]]]]]],?_⟩;refine ziC ?_; intro uD qB pF;have pO:=aW;have rp:=zC hp;have tQ:=hT.length;obtain⟨la,lv,rQ,tw,xq⟩:=id hb;have hcle:=hok.le;have oY:=hok.len;have G6:=zmC hp (k:=k) hok.L4 (by rw [ab,hok.len]; lia);have pN:(pkP p k c.2).1.length=k:=G6.lc;have oT:(pkP p k c.2).2.length=j+1:=by have:=G6.lv; rw [ab,hok.len] at this; exact this
  refine⟨_,rfl,b,_,rfl,lY.of rQ,rfl,_,_,rfl,_,_,rfl,_,_,rfl,_,_,rfl,rfl,?_⟩;refine⟨bg _,fun D hD=>?_⟩;have u0:=zb (o:=.lst []) hD;have h0D:lP H D (.lst []) D=some (.lst ([].map V.ref)):=zc;generalize lP H D (.lst [])=H0 at u0 h0D |-;have BH:H D=none:=hD;refine⟨_,rfl,_,rfl,a,_,rfl,.inl (lO.of (u0 _ _ ha)),_,_,rfl,⟨#[O],#[O],by rw [ab]; lia,by rw [ab]; lia⟩,?_⟩;have en:((#[Of].length:Int) - (c.1:Int)).toNat=ts.length - c.1:=by rw [ab]; lia
  rw [en];have fin:∀ (m:Nat) (ds:List Addr) (res:List Pk) (H':Hp),zr H H'->H' D=some #[Oa]->PkB (hide H' D) p k ds res->(∀ d∈res,∃ a q,c.1<=a/\ts[a]? = some q/\q.1∉c.2.map (·.1)/\d=(a+1,c.2++[q]))->(∀ a q,c.1<=a->a < c.1+m->ts[a]? = some q->q.1∉c.2.map (·.1)->(a+1,c.2++[q])∈res)->res.length<=m->m<=ts.length - c.1->(m=ts.length - c.1\/¬ T'<=wts c.2+R.getD (c.1+m) 0)->Q #[M6] H':=by
   intro m ds res H' s' hD' u9 uJ ng oX hm G7;refine q D ds res H' hD s' hD' (u9.same (zcm _ _)) ⟨uJ,fun a x g1 g2 g3 g4=>?_,#[O]⟩;by_cases mh:a < c.1+m
   ·exact ng a x g1 mh g2 g3
   ·rcases G7 with e | e
    ·have:=(av.mp g2).1;lia
    ·exact absurd (g4 (c.1+m) #[O] #[O]) e
  refine zbk (lo:=(c.1:Int)) (n:=ts.length - c.1) (fun i σ H'=>∃ (ds:List Addr) (res:List Pk) (sC wc wd we x6:Option V),σ = [some #[OZ],some #[M8],some (.ref r),some (.int T'),some #[Ql],some (.int (c.1:Int)),some (.int (wts c.2)),some (.ref la),some (.ref lv),some #[M6],sC,wc,wd,we,x6]/\zr H H'/\H' D=some #[Oa]/\PkB (hide H' D) p k ds res/\(∀ d∈res,∃ a q,c.1<=a/\ts[a]? = some q/\q.1∉c.2.map (·.1)/\d=(a+1,c.2++[q]))/\(∀ a q,c.1<=a->a < c.1+i->ts[a]? = some q->q.1∉c.2.map (·.1)->(a+1,c.2++[q])∈res)/\res.length<=i)
   ⟨[],[],none,none,none,none,none,rfl,u0,h0D,.nil,(fun d hd=>by cases hd),(fun a x g1 g2=>by lia),af _⟩ ?_ ?_
  ·rintro zD zT i σ H1 hi ⟨ds,res,sC,wc,wd,we,x6,rfl,s1,uI,u9,uJ,ng,oX⟩;obtain⟨z,hz⟩:∃ z,ts[c.1+i]? = some z:=⟨ts[c.1+i]'#[O],#[M]⟩;obtain⟨bz,hbz⟩:∃ bz,bs[c.1+i]? = some bz:=⟨bs[c.1+i]'#[O],#[M]⟩;obtain⟨z',xI,hbt⟩:=Paired.get hT hbz;rw [hz] at xI;cases xI;obtain⟨w0,w1,w2,w3,w4⟩:=hW.rg z (aA hz);have ei:(c.1:Int)+(i:Int)=((c.1+i:Nat):Int):=by lia
   have G8:atI (R.map V.int) ((c.1:Int)+(i:Int))=some (.int (R.getD (c.1+i) 0)):=by
    rw [ei];refine zaH ?_;rw [aj,ag #[O],aZ,ag #[O]];rfl
   have G9:atI #[Of] ((c.1:Int)+(i:Int))=some (.ref bz):=by
    rw [ei];exact zaH (by rw [aj,hbz]; rfl)
   have G':=G6.rv;have xJ:zp p z.1 (pkP p k c.2).2=0↔z.1∈c.2.map (·.1):=zoa hp hok.L4 #[O] w0 w1;have hpv0:=zbD (x:=z.1) (show 0 < p by lia) (pkP p k c.2).2;have Hq:=zbE (x:=z.1) (show 0 < p by lia) (pkP p k c.2).2;refine⟨_,rfl,_,rfl,_,rfl,r,_,_,_,rfl,rfl,lO.of (s1 _ _ wQ),G8,_,_,rfl,rfl,_,rfl,_,_,rfl,rfl,_,rfl,?_⟩;refine zaO (fun mh=>?_) (fun pf=>?_)
   ·have mh:=of_decide_eq_true mh;exact⟨_,rfl,fin i ds res H1 s1 uI u9 uJ ng oX #[O] (.inr #[O])⟩
   refine⟨_,rfl,_,rfl,a,_,_,_,rfl,rfl,lO.of #[SG],G9,bz,_,rfl,lY.of (s1 _ _ hbt),rfl,_,_,rfl,_,_,rfl,_,_,rfl,rfl,?_⟩;refine⟨_,rfl,_,rfl,_,rfl,p,z.1,lv,(pkP p k c.2).2,rfl,.inl (lO.of (s1 _ _ xq)),#[O],#[O],w0,w1,rfl,_,rfl,?_⟩;have C2:z.1∈c.2.map (·.1)->∀ a q,c.1<=a->a < c.1+(i+1)->ts[a]? = some q->q.1∉c.2.map (·.1)->(a+1,c.2++[q])∈res:=fun hm a x g1 g2 g3 g4=>by
    by_cases e:a < c.1+i
    ·exact ng a x g1 e g3 g4
    ·have e:a=c.1+i:=by lia
     subst e;rw [hz] at g3;cases g3;exact absurd hm g4
   refine zaO (fun m5=>?_) (fun heq=>?_)
   ·have hnz:zp p z.1 (pkP p k c.2).2≠0:=fun e=>by rw [e] at m5; simp at m5
    have hnm:z.1∉c.2.map (·.1):=fun e=>hnz (xJ.mpr e)
    refine⟨_,rfl,_,rfl,_,rfl,_,rfl,_,rfl,by show 2<=sizeLine; lia,fun T2 o7=>?_⟩;have v1:=zb (o:=.tup [.int z.1,.int z.2.1]) o7;refine⟨p,z.1,z.2.1,la,lv,T2,_,_,rfl,(s1.trans v1) _ _ tw,(s1.trans v1) _ _ xq,zc,hp,w0,w1,w2,#[O],#[O],Hq,#[O],#[O],fun l1 H2 pN s2 h2=>?_⟩;have wg:=v1.trans s2;have C3:=wg _ _ uI;refine⟨_,rfl,.inl ⟨rfl,_,lO.of C3⟩,_,rfl,_,_,rfl,rfl,_,rfl,_,rfl,_,_,rfl,rfl,_,rfl,_,rfl,_,rfl,_,rfl,p,z.1,lv,_,rfl,(s1.trans wg) _ _ xq,#[O],#[O],#[O],#[O],fun l2 H3 oT s3 h3=>?_⟩;have v2:=wg.trans s3;have xB:=v2 _ _ uI;have Hr:=s3 _ _ h2;refine⟨by show 4<=sizeLine; lia,fun T3 x8=>?_⟩;have v3:=zb (o:=.tup [.int ((c.1:Int)+(i:Int)+1),.int (wts c.2+z.2.2),.ref l1,.ref l2]) x8;have h4T:lP H3 T3 (.tup [.int ((c.1:Int)+(i:Int)+1),.int (wts c.2+z.2.2),.ref l1,.ref l2]) T3=some (.tup [.int ((c.1:Int)+(i:Int)+1),.int (wts c.2+z.2.2),.ref l1,.ref l2]):=zc;have nT:T3≠D:=fun e=>by rw [e,xB] at x8; cases x8
    have n1:l1≠D:=fun e=>by rw [e,v1 _ _ uI] at pN; cases pN
    have n2:l2≠D:=fun e=>by rw [e,C3] at oT; cases oT
    have h4D:=v3 _ _ xB;have C4:=v3 _ _ Hr;have C5:=v3 _ _ h3;have v4:=v2.trans v3;generalize lP H3 T3 (.tup [.int ((c.1:Int)+(i:Int)+1),.int (wts c.2+z.2.2),.ref l1,.ref l2])=H4 at h4T h4D C4 C5 v4 |-;have tP:=u9.length;refine⟨D,_,_,rfl,rfl,h4D,by rw [ab]; lia,?_⟩;refine⟨ds++[T3],res++[(c.1+i+1,c.2++[z])],_,_,_,_,_,rfl,zah (s1.trans v4) hD,by rw [zc,am]; rfl,?_,fun d hd=>?_,fun a' x g1 g2 g3 g4=>?_,by rw [ap]; exact eA oX⟩
    ·rw [zlG];refine cb (u9.same (zkw v4)) ⟨l1,l2,?_,?_,?_⟩
     ·rw [zmK];show hide H4 D T3=some (.tup [.int ((c.1+i+1:Nat):Int),.int (wts c.2+z.2.2),.ref l1,.ref l2]);rw [show ((c.1+i+1:Nat):Int)=(c.1:Int)+(i:Int)+1 by lia];exact zag h4T nT
     ·rw [zid]; exact zag C4 n1
     ·rw [zid]; exact zag C5 n2
    ·rcases aP.mp hd with hd | hd
     ·exact uJ d hd
     ·exact⟨c.1+i,z,#[O],hz,hnm,by simpa using hd⟩
    ·by_cases e:a' < c.1+i
     ·exact aL _ (ng a' x g1 e g3 g4)
     ·have e:a'=c.1+i:=by lia
      subst e;rw [hz] at g3;cases g3;simp
   ·have hm:z.1∈c.2.map (·.1):=xJ.mp (by
     by_cases e:zp p z.1 (pkP p k c.2).2=0
     ·exact e
     ·exact absurd (by rw [decide_eq_false (fun e'=>e (by injection e'))]; rfl) heq)
    exact⟨ds,res,_,_,_,_,_,rfl,s1,uI,u9,uJ,C2 hm,#[O]⟩
  ·rintro σ H1 ⟨ds,res,sC,wc,wd,we,x6,rfl,s1,uI,u9,uJ,ng,oX⟩;exact⟨_,rfl,fin _ ds res H1 s1 uI u9 uJ ng oX (af _) #[Nq]⟩
theorem ziZ:IJ ["p","vector","times","other"] ["p","vector","times","other"] (zi zcp):=#[S]
theorem zi0 (T:Txt K mg base t) (F:Fun K "without" "without" zcp t.without fd):Jk P w K mg base CX0 1 t.without fd ["p","vector","times","other"] (ziS K):=by
 refine F.ok ziZ #[re] #[mt]
 ·obtain⟨p,tm,a,b,as,bs,rfl,_⟩:=h;rfl
 ·obtain⟨p,tm,a,b,as,bs,rfl,ha,hb,hl,hn,p0,t0,t1,q⟩:=h;refine zaW ?_; intro zX;refine⟨_,#[zl,#[zN,#[zal,(IK.of (N':=["number","less","times","p"]) (ix:=[none,none,some 2,some 0]) (zi zcp) _ rfl rfl rfl),#[wE],#[zeg,T.LU,#[Pz]],#[or],#[ul],#[QC]]]],?_⟩;have pO:=aW;refine⟨_,rfl,_,rfl,a,b,_,_,rfl,lO.of ha,lO.of hb,zfQ (n:=as.length) (f:=fun x y=>(x - tm*y) % p) ha hb (af _) #[O] (.inl (af _)) #[O] ?_ ?_⟩
  ·intro j u w H6 T R B hu hv s6 hT hR;refine gY2 (lY.of zc) ?_;exact#[Qx]
  ·intro D H6 s6 hD;exact q D _ (s6.free hD) (s6.trans (zb hD)) zc
noncomputable def zdn (K:ah):Sp:=fun vs H Q _=>∃ (p:Int) (a:Addr) (ls:List Addr) (vv:List #[GE]) (L:Nat),vs = [.int p,.ref a]/\H a=some #[MS]/\LsA H ls vv/\vv≠[]/\vv.length<=200/\L<=800/\(∀ v∈vv,v.length=L/\∀ c∈v,0<=c/\c < p)/\p∈zq /\
 (∀ H',zr H H'->Indep p L vv->Q .non H')/\(∀ (l:Addr) (c:List Int) (m:Nat) (H':Hp),H l=none->zr H H'->H' l=some (.lst #[NR])->IsP p (m+1) c->m < vv.length->gl c m=1->Dep p L vv c->znY p L m vv->Q #[Nv] H')
theorem zK:IJ ["p","vectors","length","cleared","count","vector","whole","lead","other","leads","factor"] ["p","vectors"] (zi zaw):=#[S]
theorem zdK (T:Txt K mg base t) (F:Fun K "first_relation" "first_relation" zaw t.IU fd):Jk P w K mg base CX0 2 t.IU fd ["p","vectors"] (zdn K):=by
 obtain⟨uK,rT,pU⟩:=T.Kj;have vH:=zi0 (P:=P) (w:=w) (base:=base) T rT;obtain⟨qM,nU,nV⟩:=T.JU;have pT:=ze4 (P:=P) (w:=w) (base:=base) T nU;refine F.ok zK #[re] #[mt]
 ·obtain⟨p,a,ls,vv,L,rfl,_⟩:=h;rfl
 ·obtain⟨p,a,ls,vv,L,rfl,ha,tB,m5,hN,hL,Ez,hp,qn,qs⟩:=h;refine zaW ?_; intro zX;refine⟨_,#[zd,#[zm,2,zK.nd,#[A],#[zw,#[zI],T.Ki,cp,#[ya,#[zR,#[zG],#[AT],#[zg]]]]],#[zd,#[zm,3,zK.nd,#[A],#[NT]],#[zd,#[zaF,bp,#[zds,T.Jo,#[Oy]],#[zaE,#[zh,#[zf,4,zK.nd,#[A]],#[zh,#[zf,5,zK.nd,#[A]],#[zy]]]],#[zd,#[zm,6,zK.nd,#[Oo],#[zj,#[zcx],#[Pc],#[zj,#[zeB],#[Ng],#[Ri]]]],#[zd,#[zbs,#[zg],(@zo0 _ _ _ _ _ _ _ #[On] #[zj,#[zL],#[Fa],#[M5]] set_list (by intro _; rfl))],#[zd,#[zaF,bp,#[z8,#[MX]],#[zaE,#[zh,#[zf,7,zK.nd,#[A]],#[zh,#[zf,8,zK.nd,#[A]],#[zy]]]],#[zl,#[zm,6,zK.nd,#[Oo],#[zo,vH,#[sn],T.Lq,rT.kp,pU,#[zJ],#[za,#[AC],by exact #[za,#[On],#[za,#[zR,#[zG],#[On],#[RY]],#[ya,#[PV]]]]]]]]],#[zd,#[zaK,9,zK.nd,#[A],(IK.of (N':=["at","whole"]) (ix:=[none,some 6]) (zi zaw) _ rfl rfl rfl),#[za9],#[QX],#[wf],(fun _ _ _ _=>#[zbH,#[zH,#[zhg],#[zR,#[Su],#[AT],#[AC]],#[zg],(zY _)]]),#[NN]],#[zd,#[zbo,(@zoW _ _ _ _ (@zlk _ _ _ #[Qk] #[QF])),#[zl,#[zN,#[zbc,zbT,#[On],#[zbt,#[Fa]],#[zbt,#[zj,#[zL],#[zj,#[zL],#[Fa],#[M5]],#[zg]]]]]],#[zam]],#[zd,#[zm,10,zK.nd,#[Oo],#[zo,pT,#[sn],T.KU,nU.kp,nV,#[zJ],#[za,#[AC],#[ya,#[zR,#[zG],#[On],#[zR,#[zG],#[Qk],#[zg]]]]]]],#[zl,#[zbR,#[zdX,cq,dG,dH,#[zci],#[MX],#[ya,#[zaS,#[za,#[zR,#[zG],#[Qk],#[zg]],#[ya,#[zal,(IK.of (N':=["number","factor","p"]) (ix:=[none,some 10,some 0]) (zi zaw) _ rfl rfl rfl),#[za9],#[z8,#[On]],#[wf],#[ul],(fun _ _ _ _=>#[zj,#[zO],#[zj,#[zW],#[AC],#[AT]],#[Fa]])]]]]]]]]]]]]]]],#[zl,#[zN,#[zdN]]]]]],?_⟩;refine ziC ?_; intro uD qB pF;have pO:=aW;have rp:=zC hp;have p0:0 < p:=by lia
  have xZ:=tB.length;have hN0:0 < vv.length:=jU.mpr m5;obtain⟨l0,hl0⟩:∃ l0,ls[0]? = some l0:=⟨ls[0]'#[O],#[M]⟩;obtain⟨v0,hv0,Hs⟩:=Paired.get tB hl0;have Ht:=(Ez v0 (aA hv0)).1;refine⟨_,rfl,a,_,_,.ref l0,rfl,rfl,lO.of ha,zaH (j:=0) (by rw [aj,hl0]; rfl),l0,_,rfl,.inl (lO.of Hs),?_⟩;rw [ab,Ht];refine⟨by show 0<=sizeLine; lia,fun ca hca=>?_⟩;have u1:=zb (o:=.lst []) hca;refine⟨_,rfl,a,_,rfl,lO.of (u1 _ _ ha),zdr (n:=vv.length) (fun i σ H'=>∃ (cs:List Addr) (cl:List (Nat×List Int)) (e4 e5 e6 e7 e8 e9 sC:Option V),σ = [some #[OZ],some #[M8],some (.int (L:Int)),some (.ref ca),e4,e5,e6,e7,e8,e9,sC]/\zr H H'/\H' ca=some #[O9]/\ClA ca H' cs cl/\Ech p L vv.length i vv cl)
   ⟨[],[],none,none,none,none,none,none,none,rfl,u1,zc,.nil,Ech.start p L vv.length vv⟩ ?_ ?_ ?_ ?_⟩
  ·rintro i σ H1 hi ⟨cs,cl,e4,e5,e6,e7,e8,e9,sC,rfl,s1,_⟩;exact⟨_,.ref (ls[i]'#[O]),lO.of #[SG],by rw [aj,ag #[O]]; rfl⟩
  ·rintro σ H1 ⟨cs,cl,e4,e5,e6,e7,e8,e9,sC,rfl,s1,_⟩;exact⟨_,lO.of #[SG],by rw [ab]; lia⟩
  ·rintro zD zT i x σ H1 H2 hi ⟨cs,cl,e4,e5,e6,e7,e8,e9,sC,rfl,s1,sy,oY,E⟩ ⟨T,v,hT,rfl,rfl,hv⟩;obtain⟨lv,rfl,hlv⟩:=zV (hv _ (lO.of #[SG]));obtain⟨vec,C6,hva⟩:=Paired.get tB hlv;obtain⟨yz,hvr⟩:=Ez vec (aA C6);have t2:=zb (o:=.tup [.int (i:Int),.ref lv]) hT;refine#[S7];have s2:=s1.trans t2;have Hu:=t2 _ _ sy;have AM:=oY.same t2;generalize lP H1 T (.tup [.int (i:Int),.ref lv])=H2 at t2 s2 Hu AM |-;refine⟨_,rfl,by show 1<=sizeLine; lia,fun z hz=>⟨_,rfl,a,_,rfl,.inl (lO.of ((s2.trans (zb hz)) _ _ ha)),z,_,[.int 0],rfl,rfl,zc,by rw [ab]; lia,by rw [ab]; lia,by rw [ab]; show 1*_<=sizeLine; lia,fun y hy=>?_⟩⟩;rw [ab,zeJ,xZ,bh];have t3:=(zb (o:=.lst [.int 0]) hz).trans (zb (o:=.lst ((aJ vv.length (0:Int)).map V.int)) hy);have h3y:lP (lP H2 z (.lst [.int 0])) y (.lst ((aJ vv.length (0:Int)).map V.int)) y=some (.lst ((aJ vv.length (0:Int)).map V.int)):=zc;generalize lP (lP H2 z (.lst [.int 0])) y (.lst ((aJ vv.length (0:Int)).map V.int))=H3 at t3 h3y |-;refine⟨lv,y,_,_,rfl,rfl,(s2.trans t3) _ _ hva,h3y,by rw [ab,ab,cB]; lia,fun wl Ab=>?_⟩;rw [<- am];have t4:=zb (o:=.lst ((vec++aJ vv.length (0:Int)).map V.int)) Ab;refine⟨_,rfl,_,rfl,_,rfl,_,_,rfl,rfl,wl,_,_,L+i,rfl,rfl,zc,?_,?_⟩
   ·rw [<- gI];exact zns (by rw [ab,ap,cB]; lia)
   have ew:((vec++aJ vv.length (0:Int)).map V.int).set (L+i) (.int 1)=((vec++aJ vv.length (0:Int)).set (L+i) 1).map V.int:=by rw [List.map_set]
   rw [ew,zm8];have t4:=t3.trans (zb (o:=.lst (((vec++aJ vv.length (0:Int)).set (L+i) 1).map V.int)) Ab);have Hv:lP H3 wl (.lst (((vec++aJ vv.length (0:Int)).set (L+i) 1).map V.int)) wl=some (.lst (((vec++aJ vv.length (0:Int)).set (L+i) 1).map V.int)):=zc;have W0:=zh0 hp (N:=vv.length) hi C6 yz hvr;have hwc:wl≠ca:=fun e=>by
    have:=t3 _ _ Hu;rw [<- e,Ab] at this;cases this
   generalize lP H3 wl (.lst (((vec++aJ vv.length (0:Int)).set (L+i) 1).map V.int))=H4 at t4 Hv |-;generalize (vec++aJ vv.length (0:Int)).set (L+i) 1=w0 at W0 Hv |-;have s4:=s2.trans t4;have EK:=t4 _ _ Hu;have AN:=AM.same t4;have C7:=AN.length;refine⟨_,rfl,ca,rfl,⟨_,lO.of EK⟩,zaQ (K:=K) (a:=ca) (xs:=cs.map V.ref) (fun j σ H'=>∃ (wa:Addr) (w:List Int) (e7 e8:Option V),σ = [some #[OZ],some #[M8],some (.int (L:Int)),some (.ref ca),some (.int (i:Int)),some (.ref lv),some (.ref wa),e7,e8,e9,sC]/\zr H4 H'/\H' wa=some (.lst (w.map V.int))/\wa≠ca/\Wh p L vv.length i vv (cl.take j) w)
    ⟨wl,w0,_,_,rfl,fun _ _ e=>e,Hv,hwc,W0⟩ (fun j σ H' _ ⟨_,_,_,_,_,s5,_⟩=>lO.of (s5 _ _ EK)) ?_ ?_⟩
   ·rintro zD zT j y σ H5 hy ⟨wa,w,e7,e8,rfl,s5,C8,hwa,W⟩;obtain⟨b,rfl,hb⟩:=zV hy;obtain⟨aa,haa,oa,rQ,tw,xq⟩:=Paired.get AN hb;obtain⟨o1,o2,o3,_⟩:=E.one j aa haa;refine⟨b,_,rfl,lY.of (s5 _ _ rQ),rfl,_,_,rfl,_,_,rfl,rfl,?_⟩;have hg:=ziQ p0 W.rg aa.1;refine⟨_,rfl,_,rfl,_,rfl,_,rfl,wa,_,_,.int (gl w aa.1),rfl,rfl,lO.of C8,zaH (by rw [aj,zbO (by rw [W.ln]; lia)]; rfl),_,rfl,p,gl w aa.1,wa,oa,w,aa.2,rfl,C8,s5 _ _ tw,by rw [W.ln,o2],by rw [W.ln]; lia,p0,hg.1,#[O],fun l H6 hl s6 h6l=>?_⟩;refine⟨l,_,_,_,rfl,s5.trans s6,h6l,fun e=>?_,zjG hp E hi haa W⟩;have:=s5 _ _ EK;rw [<- e,hl] at this;cases this
   ·rintro σ H5 ⟨wa,w,e7,e8,rfl,s5,C8,hwa,W⟩;rw [ab,C7,bC] at W;have h5c:=s5 _ _ EK;have Hw:=AN.same s5;have s15:=s4.trans s5;refine#[Oi];rw [bh];refine z9 (n:=L) (fun j ys H'=>H'=H5/\ys=(((aN j).filter fun m=>decide (gl w m≠0)).map fun m:Nat=>(m:Int)).map V.int) ⟨rfl,rfl⟩ (fun j ys H' hj _=>hj) #[KF] ?_ ?_
    ·rintro zS zT zE j xx ys H6 H7 hj ⟨rfl,rfl⟩ ⟨rfl,rfl⟩;have hgj:(w.map V.int)[j]? = some (.int (gl w j)):=by rw [aj,zbO (by rw [W.ln]; lia)]; rfl
     refine⟨_,rfl,_,rfl,wa,_,_,.int (gl w j),rfl,rfl,lO.of C8,by rw [eC]; exact zaH hgj,rfl,_,rfl,?_⟩;have AL:=b9 (fun m=>decide (gl w m≠0)) (aN j);rw [bF] at AL;rw [cQ,bW,am,am];by_cases h0:gl w j=0
     ·refine zaO (fun h=>absurd h (by rw [h0]; simp)) (fun _=>#[QE]);rw [bd (by simpa using h0),fE,fG,fG,bH]
     ·refine zaO (fun _=>⟨_,rfl,zay (by rw [ab,ab]; lia),rfl,?_⟩) (fun h=>absurd (by simpa using h0) h);rw [bb (by simpa using h0),fE,eC];rfl
    ·rintro ys H6 D ⟨rfl,rfl⟩ hD;have t7:=zb (o:=.lst ((((aN L).filter fun m=>decide (gl w m≠0)).map fun m:Nat=>(m:Int)).map V.int)) hD;have x5:lP H6 D (.lst ((((aN L).filter fun m=>decide (gl w m≠0)).map fun m:Nat=>(m:Int)).map V.int)) D=_:=zc;generalize lP H6 D (.lst ((((aN L).filter fun m=>decide (gl w m≠0)).map fun m:Nat=>(m:Int)).map V.int))=H7 at t7 x5 |-;have s7:=s15.trans t7;have EM:=t7 _ _ C8;have uG:=t7 _ _ h5c;have Hx:=Hw.same t7;refine⟨_,rfl,_,.inl ⟨_,lO.of x5,rfl⟩,?_⟩;cases AO:(aN L).filter fun m=>decide (gl w m≠0) with
     | nil =>
      refine zaO #[wP] (fun h=>absurd rfl h);have hz:∀ x,x < L->gl w x=0:=fun x hx=>by
       have:=eK.mp AO x (bJ.mpr hx);simpa using this
      refine⟨_,rfl,_,rfl,_,rfl,_,rfl,_,rfl,_,_,rfl,rfl,_,_,rfl,rfl,_,rfl,wa,_,rfl,lO.of EM,fun l hl=>?_⟩;have ec:zcu (w.map V.int) (some (L:Int)) (some ((L:Int)+(i:Int)+1))=(#[Sw].take (i+1)).map V.int:=by
       rw [show (L:Int)+(i:Int)+1=((L+i+1:Nat):Int) by lia,znS (by rw [ab,W.ln]; lia),<- fq,<- dJ,show L+i+1 - L=i+1 by lia]
      rw [ec];obtain⟨d1,d2,d3⟩:=zmf W hi hz;exact qs l _ i _ (s7.free hl) (s7.trans (zb hl)) zc d1 hi d2 d3 (znZ (dY hi) E)
     | cons ld lds =>
      refine zaO (fun h=>absurd h #[M]) #[wP];have hm:ld∈(aN L).filter fun m=>decide (gl w m≠0):=by rw [AO]; exact aD
      (obtain⟨vw,sg⟩:=bf.mp hm)
      have CB:ld < L:=bJ.mp vw;have EI:gl w ld≠0:=by simpa using sg
      obtain⟨g0,g1⟩:=ziQ p0 W.rg ld;rw [AO] at x5;have C9:atI ((((ld :: lds).map fun m:Nat=>(m:Int))).map V.int) 0=some (.int (ld:Int)):=zaH (j:=0) rfl;refine⟨_,rfl,_,rfl,_,rfl,D,_,_,.int (ld:Int),rfl,rfl,lO.of x5,C9,wa,_,_,.int #[Pw],rfl,rfl,lO.of EM,zaH (by rw [aj,zbO (by rw [W.ln]; lia)]; rfl),p,gl w ld,rfl,hp,g0,g1,?_⟩;refine⟨_,rfl,.inl ⟨rfl,_,lO.of uG⟩,_,rfl,D,_,_,.int (ld:Int),rfl,rfl,lO.of x5,C9,_,rfl,wa,rfl,⟨_,lO.of EM⟩,zcl (fs:=(w.map fun x=>x*inv p #[Pw] % p).map V.int) (lO.of EM) (by rw [ab,ab,ab]) (by rw [ab,W.ln]; lia) ?_ ?_⟩
      ·intro j x y R B hx hy hR;obtain⟨n,rfl,hn⟩:=zaL hx;obtain⟨n',rfl,xC⟩:=zaL hy;rw [aj,hn] at xC;cases xC;have hnr:=W.rg n (aA hn);exact gY ⟨_,rfl,_,rfl,_,_,rfl,rfl,.inl #[wr],_,rfl,_,_,rfl,rfl,p0,hR⟩
      ·intro D2 x9;have t8:=zb (o:=.lst ((w.map fun x=>x*inv p #[Pw] % p).map V.int)) x9;have h8D:lP H7 D2 (.lst ((w.map fun x=>x*inv p #[Pw] % p).map V.int)) D2=some (.lst ((w.map fun x=>x*inv p #[Pw] % p).map V.int)):=zc;have hDc:D2≠ca:=fun e=>by rw [e,uG] at x9; cases x9
       generalize lP H7 D2 (.lst ((w.map fun x=>x*inv p #[Pw] % p).map V.int))=H8 at t8 h8D |-;refine⟨by show 2<=sizeLine; lia,fun tb wK=>?_⟩;have t9:=zb (o:=.tup [.int (ld:Int),.ref D2]) wK;have EN:lP H8 tb (.tup [.int (ld:Int),.ref D2]) tb=some (.tup [.int (ld:Int),.ref D2]):=zc;have EO:=t9 _ _ (t8 _ _ uG);have s9:=(s7.trans t8).trans t9;have C':=(Hx.same t8).same t9;have h9D:=t9 _ _ h8D;generalize lP H8 tb (.tup [.int (ld:Int),.ref D2])=H9 at t9 EN EO s9 C' h9D |-;have BB:=E.ln;refine⟨ca,_,_,rfl,rfl,EO,by rw [ab,C7,BB]; lia,cs++[tb],_,_,_,_,_,_,_,_,rfl,zah s9 hca,by rw [zc,am]; rfl,cb (C'.put EO) ⟨D2,?_,?_,hDc⟩,zh1 hp E hi W CB EI⟩
       ·rw [zn (fun e=>by rw [e,EO] at EN; cases EN)];exact EN
       ·rw [zn hDc];exact h9D
  ·rintro σ H1 ⟨cs,cl,e4,e5,e6,e7,e8,e9,sC,rfl,s1,sy,oY,E⟩;exact qn H1 s1 (zme E)
noncomputable def pwr (p x:Int) (kept n:Nat):List Int:=(aN kept).map fun u=>cf x n u % p
noncomputable def pws (p x:Int) (kept n:Nat):List #[GE]:=(aN n).map (pwr p x kept)
theorem ze6 (p x:Int) (kept n:Nat):pws p x kept (n+1)=pws p x kept n++[pwr p x kept n]:=by
 unfold pws;rw [cQ,am];rfl
theorem zbx (p x:Int) (kept n:Nat):#[Pm].length=kept:=by unfold pwr; rw [ab,bF]
theorem ze7 {p x:Int} {kept n u:Nat} (h:u < kept):gl #[Pm] u=cf x n u % p:=zdh (by unfold pwr; rw [aj,db h]; rfl)
theorem zmL {p x:Int} {kept n:Nat}:(zb3 p (-x) #[Pm]).take kept=pwr p x kept (n+1):=by
 refine zmd (by rw [aG,zck,zbx,zbx]; lia) fun u hu=>?_
 have hu:u < kept:=by rw [aG,zck,zbx] at hu; lia
 rw [ze7 hu];have e1:gl ((zb3 p (-x) #[Pm]).take kept) u=gl (zb3 p (-x) #[Pm]) u:=by
  unfold gl;rw [aZ,aZ,b7 hu]
 rw [e1];unfold zb3;rw [zmc (by rw [bu,zbx]; lia) (by rw [ap,zbx]; simp; lia)];have e2:gl (pwr p x kept n++[0]) u=cf x n u % p:=by
  rw [<- ze7 hu];unfold gl;rw [aZ,aZ,bL (by rw [zbx]; exact hu)]
 rw [e2];show (_ - (-x)*_) % p=_;cases u with
 | zero =>
  show (0 - (-x)*(cf x n 0 % p)) % p=cf x (n+1) 0 % p;rw [zgI,zgI,iL];refine Cg.mod_eq ?_;refine (((Cg.refl p 0).sub ((Cg.refl p (-x)).mul #[NG]))).trans (Cg.of_eq (by grind))
 | succ u =>
  have e3:gl (0 :: pwr p x kept n) (u+1)=cf x n u % p:=by
   rw [<- ze7 (show u < kept by lia)];unfold gl;simp
  rw [e3,znX];refine Cg.mod_eq ?_;refine (#[NG].sub ((Cg.refl p (-x)).mul #[NG])).trans (Cg.of_eq (by grind))
theorem zmM {p x:Int} (hp:1 < p) {kept:Nat} (hk:1<=kept):pwr p x kept 0=1 :: aJ (kept - 1) 0:=by
 refine zmd (by rw [zbx,bu,cB]; lia) fun u hu=>?_
 rw [zbx] at hu;rw [ze7 hu];cases u with
 | zero =>
  rw [zgI,Int.pow_zero];show (1:Int) % p=1;exact cJ #[D] hp
 | succ u =>
  have e:cf x 0 (u+1)=0:=by show (0:Int)*_=0; simp
  rw [e,Int.zero_emod];unfold gl;rw [aZ,cD,fU,if_pos #[O]];rfl
noncomputable def zec (K:ah):Sp:=fun vs H Q _=>∃ (p x:Int) (most kept:Nat),vs = [.int p,.int x,.int (most:Int),.int (kept:Int)]/\5<=p/\p<=97/\0<=x/\x < p/\most<=500/\1<=kept/\kept<=100 /\
 ∀ (l:Addr) (ls:List Addr) (H':Hp),H l=none->zr H H'->H' l=some #[MS]->LsA H' ls (pws p x kept (most+1))->Q #[Nv] H'
theorem zbP:IJ ["p","by","most","kept","powers","power"] ["p","by","most","kept"] (zi zbv):=#[S]
theorem zed (T:Txt K mg base t) (F:Fun K "moved_powers" "moved_powers" zbv t.Jg fd):Jk P w K mg base CX0 2 t.Jg fd ["p","by","most","kept"] (zec K):=by
 obtain⟨nI,l9,mi⟩:=T.IX;have mN:=zcf (P:=P) (w:=w) (base:=base) T l9;refine F.ok zbP #[re] #[mt]
 ·obtain⟨p,x,most,kept,rfl,_⟩:=h;rfl
 ·obtain⟨p,x,most,kept,rfl,p5,Dc,x0,x1,hm,k1,k2,q⟩:=h;refine zaW ?_; intro zX;refine⟨_,#[zd,#[zm,4,zbP.nd,#[A],#[zac,#[ya,#[zj,#[zcx],#[Ng],#[zj,#[zeB],#[Ng],#[zj,#[zaV],#[MX],#[zg]]]]]]],#[zd,#[zaF,bp,#[QX],#[zf,5,zbP.nd,#[A]],#[zl,#[zbR,#[zdX,cq,dG,dH,#[zci],#[M5],#[ya,#[zbc,zbT,#[zo,mN,#[sn],T.Ju,l9.kp,mi,#[zJ],#[za,#[AC],#[za,#[zR,#[zG],#[M5],#[zow,zlh,#[zg]]],#[ya,#[zow,zlh,#[AT]]]]]],#[zbS],#[zbt,#[MX]]]]]]]],#[zl,#[zN,#[M5]]]]],?_⟩;refine zgc ?_; intro qB pF;have pO:=aW;refine⟨by show 1<=sizeLine; lia,fun A1 ER=>?_⟩;have u1:=zb (o:=.lst [V.int 1]) ER;have v1:lP H A1 (.lst [V.int 1]) A1=some (.lst [V.int 1]):=zc;generalize lP H A1 (.lst [V.int 1])=H1 at u1 v1 |-;refine⟨by show 1<=sizeLine; lia,fun A2 Dd=>?_⟩;have u2:=u1.trans (zb (o:=.lst [V.int 0]) Dd);have BD:=(zb (o:=.lst [V.int 0]) Dd) _ _ v1;have v2:lP H1 A2 (.lst [V.int 0]) A2=some (.lst [V.int 0]):=zc;generalize lP H1 A2 (.lst [V.int 0])=H2 at u2 BD v2 |-;have ek:((kept:Int) - 1).toNat=kept - 1:=by lia
  refine⟨_,rfl,_,_,rfl,rfl,A2,_,_,rfl,rfl,v2,#[O],#[O],by rw [ek]; show 1*(kept - 1)<=sizeLine; lia,fun A3 ES=>?_⟩;rw [ek,List.flatten_replicate_singleton];have w3:=zb (o:=.lst #[Ov]) ES;have BE:=w3 _ _ BD;have v3:lP H2 A3 (.lst #[Ov]) A3=some (.lst #[Ov]):=zc;have u3:=u2.trans w3;generalize lP H2 A3 (.lst #[Ov])=H3 at u3 BE v3 |-;refine⟨A1,A3,_,_,rfl,rfl,BE,v3,by rw [cB]; show 1+(kept - 1)<=sizeLine; lia,fun A4 ET=>?_⟩;have ez:[V.int 1]++aJ (kept - 1) (V.int 0)=#[Pn].map V.int:=by rw [zmM #[O] k1,aM,List.map_replicate]; rfl
  rw [ez];have u4:=u3.trans (zb (o:=.lst (#[Pn].map V.int)) ET);have v4:lP H3 A4 (.lst (#[Pn].map V.int)) A4=some (.lst (#[Pn].map V.int)):=zc;generalize lP H3 A4 (.lst (#[Pn].map V.int))=H4 at u4 v4 |-;refine⟨by show 1<=sizeLine; lia,fun PW Hy=>?_⟩;have sw:=zb (o:=.lst [V.ref A4]) Hy;have emt:((most:Int)).toNat=most:=by lia
  refine⟨_,rfl,_,rfl,#[O],#[O],zbk (lo:=0) (n:=((most:Int)).toNat) (fun i σ H'=>∃ (e5:Option V),σ = [some #[OZ],some (.int x),some (.int (most:Int)),some (.int (kept:Int)),some (.ref PW),e5]/\zr H H'/\∃ ls:List Addr,H' PW=some #[MS]/\LsA H' ls (pws p x kept (i+1))) ⟨none,rfl,u4.trans sw,[A4],zc,.cons (sw _ _ v4) .nil⟩ ?_ ?_⟩
  ·rintro zD zT i σ H5 hi ⟨e5,rfl,s5,ls,h5,tB⟩;have xZ:ls.length=i+1:=by rw [bq tB]; unfold pws; rw [ab,bF]
   rw [ze6] at tB;obtain⟨EU,b,rfl⟩:∃ EU b,ls=EU++[b]:=⟨_,_,(List.dropLast_concat_getLast (l:=ls) (fun e=>by rw [e] at xZ; simp at xZ)).symm⟩;obtain⟨hA,hB⟩:=zd1 tB;have nH:atI ((EU++[b]).map V.ref) (-1)=some #[Ql]:=by rw [am]; exact zn5
   refine⟨_,rfl,.inl ⟨rfl,_,lO.of h5⟩,_,rfl,_,rfl,_,rfl,PW,_,_,_,rfl,rfl,lO.of h5,nH,_,rfl,_,rfl,p,-x,b,_,rfl,hB,by rw [zbx]; lia,#[O],#[O],#[O],fun l H6 hl s6 h6=>?_⟩;refine⟨_,rfl,_,rfl,l,_,rfl,lO.of h6,fun z hz=>?_⟩;have ec:zcu ((zb3 p (-x) (pwr p x kept i)).map V.int) none (some (kept:Int))=(pwr p x kept (i+1)).map V.int:=by
    unfold zcu;rw [HT.Kf,HT.Ky,eW,gH,ab,zck,zbx,dE #[O],<- dJ,zmL]
   rw [ec];have sz:=zb (o:=.lst ((pwr p x kept (i+1)).map V.int)) hz;have h6P:=s6 _ _ h5;have h7P:=sz _ _ h6P;have zP:z≠PW:=(zu h6P hz).symm;refine⟨PW,_,_,rfl,rfl,h7P,by rw [ab,xZ]; lia,?_⟩;refine⟨_,rfl,zah ((s5.trans s6).trans sz) (u4.free Hy),(EU++[b])++[z],by rw [zc]; simp,?_⟩;rw [ze6];refine cb (zpI (D:=PW) (fun hm=>?_) (fun c o hc e=>by rw [zn hc]; exact e) (LsA.same (s6.trans sz) (by rw [ze6]; exact tB))) (by rw [zn zP]; exact zc);obtain⟨j,hj⟩:=cV.mp hm;exact LsA.off tB h5 j PW hj rfl
  ·rintro σ H5 ⟨e5,rfl,s5,ls,h5,tB⟩;rw [emt] at tB;exact⟨_,rfl,q PW ls _ (u4.free Hy) s5 h5 tB⟩
noncomputable def tI (t:Tm):Int×Int:=((t.1:Int),(t.2:Int))
theorem zjQ {ns:List Nat} {M:Int} (hM:M∈ns.map fun n:Nat=>(n:Int)) (AQ:∀ a∈ns.map (fun n:Nat=>(n:Int)),a<=M):∃ m:Nat,M=m/\m∈ns/\∀ n∈ns,n<=m:=by
 obtain⟨m,hm,rfl⟩:=aw.mp hM;refine⟨m,rfl,hm,fun n hn=>?_⟩;have:=AQ _ (aw.mpr ⟨n,hn,rfl⟩);lia
theorem zjR {K:ah} {tl:Addr} {bs:List Addr} {ts:List Tm} (pR:H tl=some #[At]) (uL:PtB H bs #[SE]) (lT:ts.length<=200) {tt:TT} {σ0:L2.St} (f:Tm->Int)
  (hs:∀ (T:Addr) (t:Tm) (R:VK) (B:L2.St->Hp->Prop),t∈ts->lY K H T [.int (t.1:Int),.int (t.2:Int)]->R (.int (f t)) H->g (.ref T) σ0 H fun σ2 H2=>tt σ2 H2 fun b H3=>if b=true then te σ2 H3 R else B σ2 H3)
  (hd:∀ D,H D=none->Q #[M6] (lP H D (.lst ((ts.map f).map V.int)))):cGo g tt te σ0 (Itl K tl) Q H:=by
 have tQ:bs.length=ts.length:=by rw [bq uL,ab]
 refine zcl (fs:=(ts.map f).map V.int) (lO.of pR) (by rw [ab,ab,ab,tQ]) (by rw [ab]; lia) #[S3] hd;obtain⟨b,rfl,vG⟩:=zV hx;obtain⟨q,hq,hT⟩:=Paired.get uL vG;rw [aj] at hq;obtain⟨t,ht,rfl⟩:=df.mp hq;rw [aj,aj,ht] at hy;have hy:V.int (f t)=y:=by simpa using hy
 subst hy;exact hs b t R B (aA ht) (lY.of hT) hR
noncomputable def nAt (t:Tm) (x y p:Int) (w m:Nat):List Int:=(aN m).flatMap fun u=>(aN (w - u)).map fun v=>cv t ⟨x,y,u,v⟩ % p
theorem zii (t:Tm) (x y p:Int) (w m:Nat):nAt t x y p w (m+1)=nAt t x y p w m++(aN (w - m)).map fun v=>cv t ⟨x,y,m,v⟩ % p:=by
 unfold nAt;rw [cQ,dP];simp
theorem zoh (t:Tm) (x y p:Int) (w:Nat):nAt t x y p w w=(pco (x,y,w)).map fun c=>cv t c % p:=by
 unfold nAt pco;rw [kU];congr 1;funext u;rw [aR];rfl
theorem zjS (t:Tm) (x y p:Int) (w:Nat):∀ m,(nAt t x y p w m).length<=w*m
 | 0=>by simp [nAt]
 | m+1=>by
  have ih:=zjS t x y p w m;rw [zii,ap,ab,bF,Nat.mul_succ];lia
theorem zmN {l:Addr} {p x:Int} {w n i u:Nat} (h:LsA H ls (pws p x w n)) (hi:i < n) (hu:u < w):∃ b,atI (ls.map V.ref) (i:Int)=some #[Ql]/\H b=some (.lst ((pwr p x w i).map V.int))/\atI ((pwr p x w i).map V.int) (u:Int)=some (.int (cf x i u % p)):=by
 have hl:ls.length=n:=by rw [bq h]; unfold pws; rw [ab,bF]
 have hb:ls[i]? = some (ls[i]'#[O]):=ag #[O];obtain⟨v,hv,hvb⟩:=Paired.get h hb;unfold pws at hv;rw [aj,db hi] at hv;cases hv;refine⟨_,zaH (by rw [aj,hb]; rfl),hvb,zaH ?_⟩;rw [aj,zbO (by rw [zbx]; exact hu),ze7 hu];rfl
noncomputable def zfr (K:ah):Sp:=fun vs H Q _=>∃ (p:Int) (tl pt:Addr) (x y:Int) (w:Nat) (bs:List Addr) (ts:List Tm),vs = [.int p,.ref tl,.ref pt]/\5<=p/\p<=97/\0<=x/\x < p/\0<=y/\y < p/\1<=w/\w<=9/\H tl=some #[At]/\PtB H bs #[SE]/\ts≠[]/\ts.length<=200/\(∀ t∈ts,t.1<=400/\t.2<=400)/\H pt=some (.tup [.int x,.int y,.int (w:Int)]) /\
 ∀ (l:Addr) (ls:List Addr) (H':Hp),H l=none->zr H H'->H' l=some #[MS]->LsA H' ls (ts.map fun t=>(pco (x,y,w)).map fun c=>cv t c % p)->Q #[Nv] H'
theorem zaR:IJ ["p","terms","point","x","y","weight","by_x","by_y"] ["p","terms","point"] (zi zaM):=#[S]
theorem zfs (T:Txt K mg base t) (F:Fun K "numbers_at" "numbers_at" zaM t.JD fd):Jk P w K mg base CX0 3 t.JD fd ["p","terms","point"] (zfr K):=by
 obtain⟨qz,ni,mO⟩:=T.Jl;have oF:=zed (P:=P) (w:=w) (base:=base) T ni;refine F.ok zaR #[re] #[mt]
 ·obtain⟨p,tl,pt,x,y,wt,bs,ts,rfl,_⟩:=h;rfl
 ·obtain⟨p,tl,pt,x,y,wt,bs,ts,rfl,p5,Dc,x0,x1,y0,y1,w1,w9,pR,uL,m5,lT,xW,hp,q⟩:=h;refine zaW ?_; intro zX;refine⟨_,#[zd,#[zbs,#[Fa],#[zaE,#[zh,#[zf,3,zaR.nd,#[A]],#[zh,#[zf,4,zaR.nd,#[A]],#[zh,#[zf,5,zaR.nd,#[Oo]],#[zy]]]]]],#[zd,#[zm,6,zaR.nd,#[Oo],#[zo,oF,#[sn],T.JF,ni.kp,mO,#[zJ],#[za,#[AC],by exact #[za,#[MX],#[za,#[zw,#[zdU],T.L5,iQ,#[ya,#[zal,(IK.of (N':=["i","j"]) (ix:=[none,none]) (zi zaM) _ rfl rfl rfl),#[wE],#[Q6],#[or],#[ul],#[NN]]]],#[Se]]]]]],#[zd,#[zm,7,zaR.nd,#[Oo],#[zo,oF,#[sn],T.JF,ni.kp,mO,#[zJ],#[za,#[AC],by exact #[za,#[M5],#[za,#[zw,#[zdU],T.L5,iQ,#[ya,#[zal,(IK.of (N':=["i","j"]) (ix:=[none,none]) (zi zaM) _ rfl rfl rfl),#[wE],#[Q6],#[or],#[ul],#[RH]]]],#[Se]]]]]],#[zl,#[zN,#[zal,(IK.of (N':=["i","j","weight","by_x","by_y","p"]) (ix:=[none,none,some 5,some 6,some 7,some 0]) (zi zaM) _ rfl rfl rfl),#[wE],#[Q6],(fun _ _ _ _=>#[zat,(K),2,#[zh,#[zf,0,#[Y],#[Oo]],#[zh,#[zf,1,#[Y],#[Oo]],#[zy]]]]),#[ul],(fun _ _ _ _=>(@znJ _ _ _ _ _ _ _ _ _ _ _ _ _ _ _ _ _ _ _ _ _ (IK.of (N':=["u","v","by_x","i","by_y","j","p","weight"]) (ix:=[none,none,some 3,some 0,some 4,some 1,some 5,some 2]) ({ kind:=.function,names:=[(".0",.local),("i",.cell),("j",.cell),("range",.globalImplicit),("by_x",.cell),("by_y",.cell),("p",.cell),("weight",.cell)],isGenerator:=false,isCoroutine:=false }) _ (by with_unfolding_all rfl) rfl rfl) rfl (zcZ (js:=[0]) (i:=0) #[D]) (zcZ (js:=[1]) (i:=1) #[D]) #[D] #[D] #[QX] #[wf] #[ul] (fun _ _ _ _=>#[zai,T.IS,#[ya,#[zj,#[zaV],#[RY],#[AC]]]]) (fun _ _ _ _=>#[zf,1,#[Y],#[A]]) #[ul] (fun _ _ _ _=>#[zj,#[zO],#[zj,#[zW],#[zR,#[Su],#[zR,#[Su],#[Fa],#[MX]],#[AC]],#[zR,#[Su],#[zR,#[Su],#[M5],#[Pc]],#[AT]]],#[On]]) (by intro _; rfl) (by intros; rfl)))]]]]]],?_⟩;refine ziC ?_; intro uD qB pF;have pO:=aW;have tQ:bs.length=ts.length:=by rw [bq uL,ab]
  refine⟨_,rfl,pt,_,rfl,lY.of hp,rfl,_,_,rfl,_,_,rfl,_,_,rfl,rfl,?_⟩;refine⟨_,rfl,_,rfl,_,rfl,tl,rfl,⟨_,lO.of pR⟩,zjR pR uL lT (fun t=>(t.1:Int)) #[Qj] fun D hD=>?_⟩;refine⟨D,ts.map fun t=>(t.1:Int),rfl,lO.of zc,by simpa using m5,fun M hM AQ=>?_⟩;obtain⟨mx,rfl,mx1,mx2⟩:=zjQ (ns:=ts.map (·.1)) (by rw [aR]; exact hM) (by rw [aR]; exact AQ);have mx4:mx<=400:=by obtain⟨t,ht,rfl⟩:=aw.mp mx1; exact (xW t ht).1
  have s0:=zb (o:=.lst ((ts.map fun t:Tm=>(t.1:Int)).map V.int)) hD;generalize lP H D (.lst ((ts.map fun t:Tm=>(t.1:Int)).map V.int))=H0 at s0 |-;refine⟨_,rfl,p,x,mx,wt,rfl,p5,Dc,x0,x1,#[O],w1,#[O],fun l1 ls1 H1 pN s1 h1 g1=>?_⟩;have wj:=s0.trans s1;refine⟨_,rfl,_,rfl,_,rfl,tl,rfl,⟨_,lO.of (wj _ _ pR)⟩,zjR (wj _ _ pR) (uL.same wj) lT (fun t=>(t.2:Int)) #[Qj] fun D2 x9=>?_⟩;refine⟨D2,ts.map fun t=>(t.2:Int),rfl,lO.of zc,by simpa using m5,fun M hM AQ=>?_⟩;obtain⟨my,rfl,my1,xT⟩:=zjQ (ns:=ts.map (·.2)) (by rw [aR]; exact hM) (by rw [aR]; exact AQ);have my4:my<=400:=by obtain⟨t,ht,rfl⟩:=aw.mp my1; exact (xW t ht).2
  have s2:=zb (o:=.lst ((ts.map fun t:Tm=>(t.2:Int)).map V.int)) x9;generalize lP H1 D2 (.lst ((ts.map fun t:Tm=>(t.2:Int)).map V.int))=H2 at s2 |-;refine⟨_,rfl,p,y,my,wt,rfl,p5,Dc,y0,y1,#[O],w1,#[O],fun l2 ls2 H3 oT s3 h3 g3=>?_⟩;have BI:=s2.trans s3;have sA:=wj.trans BI;have h1:=BI _ _ h1;have g1:=g1.same BI;refine⟨_,rfl,tl,rfl,⟨_,lO.of (sA _ _ pR)⟩,z9 (n:=ts.length) (fun m ys H'=>zr H3 H'/\∃ us:List Addr,ys=us.map V.ref/\LsA H' us ((ts.take m).map fun t=>(pco (x,y,wt)).map fun c=>cv t c % p)) ⟨fun _ _ e=>e,[],rfl,.nil⟩ ?_ ?_ ?_ ?_⟩
  ·rintro m ys H4 hm ⟨s4,_⟩;exact⟨_,.ref (bs[m]'#[O]),lO.of ((sA.trans s4) _ _ pR),by rw [aj,ag #[O]]; rfl⟩
  ·rintro ys H4 ⟨s4,_⟩;exact⟨_,lO.of ((sA.trans s4) _ _ pR),by rw [ab]; lia⟩
  ·rintro zS zT zE m z ys H4 H5 hm ⟨s4,us,rfl,mj⟩ ⟨rfl,hx⟩;have sA4:=sA.trans s4;obtain⟨b,rfl,AI⟩:=zV (hx _ (lO.of (sA4 _ _ pR)));obtain⟨q',rk,hT⟩:=Paired.get (uL.same sA4) AI;rw [aj] at rk;obtain⟨t,ht,rfl⟩:=df.mp rk;have EV:=aA ht;have hz:us.length=m:=by rw [bq mj,ab,aG]; lia
   have t1:t.1 < mx+1:=iD (mx2 _ (aw.mpr ⟨t,EV,rfl⟩));have t2:t.2 < my+1:=iD (xT _ (aw.mpr ⟨t,EV,rfl⟩));have h4x:=s4 _ _ h1;have h4y:=s4 _ _ h3;have g4x:=g1.same s4;have g4y:=g3.same s4;refine gY2 (lY.of hT) ?_;have ew:((wt:Int)).toNat=wt:=by lia
   refine#[Oi];rw [ew];refine zfV (n:=wt) (fun u ys H'=>H'=H5/\ys=(nAt t x y p wt u).map V.int) ⟨rfl,rfl⟩ #[MO] #[KF] ?_ ?_
   ·rintro u xx ys H6 H7 hu ⟨rfl,rfl⟩ ⟨rfl,rfl⟩;rw [show ((0:Int)+(u:Int))=(u:Int) from eC _];refine gY ?_;have ewu:((wt:Int) - (u:Int)).toNat=wt - u:=by lia
    refine⟨_,rfl,_,rfl,_,_,rfl,rfl,_,rfl,#[O],#[O],?_⟩;rw [ewu];refine zfV (n:=wt - u) (fun v ys H'=>H'=H7/\ys=(nAt t x y p wt u++(aN v).map fun v=>cv t ⟨x,y,u,v⟩ % p).map V.int) ⟨rfl,#[M]⟩ #[MO] #[KF] ?_ ?_
    ·rintro v yy ys H8 H9 hv ⟨rfl,rfl⟩ ⟨rfl,rfl⟩;rw [show ((0:Int)+(v:Int))=(v:Int) from eC _];obtain⟨bx,ax1,ax2,ax3⟩:=zmN (l:=l1) g4x t1 hu;obtain⟨b2,ay1,ay2,ay3⟩:=zmN (l:=l2) g4y t2 (show v < wt by lia);have r0:=aO (cf x t.1 u) (show p≠0 by lia);have r1:=aK (cf x t.1 u) (show 0 < p by lia);have nl:=zjS t x y p wt u;have nm:wt*u<=9*9:=jt #[O] #[O];refine gY ?_;refine⟨_,rfl,_,rfl,l1,_,_,_,rfl,rfl,lO.of h4x,ax1,_,rfl,bx,_,_,_,rfl,rfl,lO.of ax2,ax3,_,rfl,_,rfl,l2,_,_,_,rfl,rfl,lO.of h4y,ay1,_,rfl,b2,_,_,_,rfl,rfl,lO.of ay2,ay3,_,_,rfl,rfl,.inl #[wr],_,rfl,_,_,rfl,rfl,#[O],?_⟩;refine⟨by rw [ab,ap,ab,bF]; lia,rfl,?_⟩;rw [cQ,am,am,am,am,bt];have:cf x t.1 u % p*(cf y t.2 v % p) % p=cv t ⟨x,y,u,v⟩ % p:=by unfold cv; rw [<- Int.mul_emod]
     show _++(_++[V.int (cf x t.1 u % p*(cf y t.2 v % p) % p)])=_;rw [this];rfl
    ·rintro ys H8 ⟨rfl,rfl⟩;refine#[QE];rw [zii]
   ·rintro ys H6 ⟨rfl,rfl⟩ D3 xi;refine⟨by rw [ab]; lia,s4.trans (zb xi),us++[D3],#[M],?_⟩;rw [take_snoc ht,am];refine cb (mj.same (zb xi)) ?_;rw [zc,zoh]
  ·rintro ys H4 D3 ⟨s4,us,rfl,mj⟩ xi;rw [aH (af _)] at mj;have sf:=sA.trans s4;exact q D3 us _ (sf.free xi) (sf.trans (zb xi)) zc (mj.same (zb xi))
noncomputable def W3 (H:Hp):List Addr->List (Int×Int×Nat)->Prop:=Paired fun b q=>H b=some (.tup [.int q.1,.int q.2.1,.int (q.2.2:Int)])
theorem W3.same (s:zr H H') {bs:List Addr} {lR:List (Int×Int×Nat)} (h:W3 H bs lR):W3 H' bs lR:=c6 #[NL] h
noncomputable def zmO (p:Int) (lR:List (Int×Int×Nat)):Prop:=∀ q∈lR,0<=q.1/\q.1 < p/\0<=q.2.1/\q.2.1 < p/\1<=q.2.2/\q.2.2<=9
theorem zmP {p:Int} {lR:List (Int×Int×Nat)} {q:Int×Int×Nat} {t:Tm}:za1 p (lR++[q]) t=za1 p lR t++(pco q).map fun c=>cv t c % p:=by
 unfold za1 cos;rw [dP,am];simp
theorem zpP {lR:List (Int×Int×Nat)} (i:Nat):(cos #[Qq]).length<=#[Pe].length:=by
 conv=>rhs; rw [<- bT i lR]
 unfold cos;rw [dP,ap];lia
noncomputable def zft (K:ah):Sp:=fun vs H Q _=>∃ (p:Int) (tl pl:Addr) (bs cs:List Addr) (ts:List Tm) (lR:List (Int×Int×Nat)),vs = [.int p,.ref tl,.ref pl]/\5<=p/\p<=97/\H tl=some #[At]/\PtB H bs #[SE]/\ts≠[]/\ts.length<=200/\(∀ t∈ts,t.1<=400/\t.2<=400)/\H pl=some #[O9]/\W3 H cs lR/\zmO p lR/\#[Pe].length<=800/\lR.length<=1000 /\
 ∀ (l:Addr) (ls:List Addr) (H':Hp),H l=none->zr H H'->H' l=some #[MS]->LsA H' ls #[NS]->Q #[Nv] H'
theorem zbF:IJ ["p","terms","points","vectors","point"] ["p","terms","points"] (zi zba):=#[S]
theorem zfu (T:Txt K mg base t) (F:Fun K "vectors_of" "vectors_of" zba t.JB fd):Jk P w K mg base CX0 4 t.JB fd ["p","terms","points"] (zft K):=by
 obtain⟨rC,pH,nZ⟩:=T.Jx;have sE:=zfs (P:=P) (w:=w) (base:=base) T pH;refine F.ok zbF #[re] #[mt]
 ·obtain⟨p,tl,pl,bs,cs,ts,lR,rfl,_⟩:=h;rfl
 ·obtain⟨p,tl,pl,bs,cs,ts,lR,rfl,p5,Dc,pR,uL,m5,lT,xW,m8,yS,hg,hL,hn,q⟩:=h;refine zaW ?_; intro zX;refine⟨_,#[zd,#[zaK,3,zbF.nd,#[A],(IK.of (N':=["term"]) (ix:=[none]) (zi zba) _ rfl rfl rfl),#[za9],#[Q6],#[wf],#[ul],(fun _ _ _ _=>#[NT])],#[zd,#[zaF,bp,#[z8,#[Fa]],#[zf,4,zbF.nd,#[A]],#[zl,#[zaK,3,zbF.nd,#[A],(IK.of (N':=["vector","numbers"]) (ix:=[none,none]) (zi zba) _ rfl rfl rfl),#[wE],#[zeg,T.LU,#[za,#[MX],#[ya,#[zo,sE,#[sn],T.KR,pH.kp,nZ,#[zJ],#[za,#[AC],#[za,#[AT],#[OU]]]]]]],#[or],#[ul],(fun _ _ _ _=>#[zj,#[zcx],#[AC],#[AT]])]]],#[zl,#[zN,#[MX]]]]],?_⟩;refine zgc ?_; intro qB pF;have pO:=aW;have tQ:bs.length=ts.length:=by rw [bq uL,ab]
  have oY:=bq yS;refine⟨_,rfl,tl,rfl,⟨_,lO.of pR⟩,z9 (n:=ts.length) (fun m ys H'=>zr H H'/\∃ us:List Addr,ys=us.map V.ref/\LsA H' us ((ts.take m).map (za1 p []))) ⟨fun _ _ e=>e,[],rfl,.nil⟩ ?_ ?_ ?_ ?_⟩
  ·rintro m ys H4 hm ⟨s4,_⟩;exact⟨_,.ref (bs[m]'#[O]),lO.of (s4 _ _ pR),by rw [aj,ag #[O]]; rfl⟩
  ·rintro ys H4 ⟨s4,_⟩;exact⟨_,lO.of (s4 _ _ pR),by rw [ab]; lia⟩
  ·rintro zS zT zE m z ys H4 H5 hm ⟨s4,us,rfl,mj⟩ ⟨rfl,hx⟩;have hz:us.length=m:=by rw [bq mj,ab,aG]; lia
   refine gY ?_;refine⟨bg _,fun D hD=>⟨by rw [ab]; lia,s4.trans (zb hD),us++[D],#[M],?_⟩⟩;have ht:ts[m]? = some (ts[m]'hm):=ag hm;rw [take_snoc ht,am];exact cb #[Qi] zc
  ·rintro ys H4 V0 ⟨s4,us,rfl,mj⟩ hV;rw [aH (af _)] at mj;have sV:=s4.trans (zb (o:=.lst #[IR]) hV);refine⟨_,rfl,pl,rfl,⟨_,lO.of (sV _ _ m8)⟩,zaQ (K:=K) (a:=pl) (xs:=cs.map V.ref) (fun i σ H'=>∃ (vl:Addr) (ls:List Addr) (e4:Option V),σ = [some #[OZ],some (.ref tl),some (.ref pl),some (.ref vl),e4]/\zr H H'/\H vl=none/\H' vl=some #[MS]/\LsA H' ls (ts.map (za1 p #[Qq]))) ⟨V0,us,none,rfl,sV,s4.free hV,zc,mj.same (zb hV)⟩ ?_ ?_ ?_⟩
   ·rintro i σ H' _ ⟨vl,ls,e4,rfl,s,_⟩;exact lO.of (s _ _ m8)
   ·rintro zD zT i x σ H5 hx ⟨vl,ls,e4,rfl,s5,yz,h5,tB⟩;obtain⟨b,rfl,hb⟩:=zV hx;obtain⟨⟨px,py,pw⟩,hq,Hz⟩:=Paired.get yS hb;obtain⟨g1,g2,g3,g4,g5,g6⟩:=hg _ (aA hq);refine⟨_,rfl,_,rfl,_,rfl,_,rfl,p,tl,b,px,py,pw,bs,ts,rfl,p5,Dc,g1,g2,g3,g4,g5,g6,s5 _ _ pR,uL.same s5,m5,lT,xW,s5 _ _ Hz,fun nl nls H6 hnl s6 h6 g6'=>?_⟩;have EW:=s6 _ _ h5;have HA:=tB.same s6;have l1:ls.length=ts.length:=by rw [bq tB,ab]
    have l2:nls.length=ts.length:=by rw [bq g6',ab]
    refine⟨vl,nl,_,_,rfl,lO.of EW,lO.of h6,z9 (n:=ts.length) (fun m ys H'=>zr H6 H'/\∃ us:List Addr,ys=us.map V.ref/\LsA H' us ((ts.take m).map (za1 p (lR.take (i+1))))) ⟨fun _ _ e=>e,[],rfl,.nil⟩ ?_ ?_ ?_ ?_⟩
    ·rintro m ys H7 hm ⟨s7,_⟩;exact⟨_,_,.ref (ls[m]'#[O]),.ref (nls[m]'#[O]),lO.of (s7 _ _ EW),lO.of (s7 _ _ h6),by rw [aj,ag #[O]]; rfl,by rw [aj,ag #[O]]; rfl⟩
    ·rintro ys H7 ⟨s7,_⟩;exact⟨_,_,lO.of (s7 _ _ EW),lO.of (s7 _ _ h6),by rw [ab,ab]; lia⟩
    ·rintro zS zT zE m z ys H7 H8 hm ⟨s7,us,rfl,mj⟩ ⟨T,u,v,hT,rfl,rfl,hu,hv⟩;obtain⟨b1,rfl,rQ⟩:=zV (hu _ (lO.of (s7 _ _ EW)));obtain⟨b2,rfl,tw⟩:=zV (hv _ (lO.of (s7 _ _ h6)));obtain⟨w1,hw1,HB⟩:=Paired.get HA rQ;obtain⟨w2,hw2,HC⟩:=Paired.get g6' tw;have ht:ts[m]? = some (ts[m]'hm):=ag hm;rw [aj,ht] at hw1 hw2;cases hw1;cases hw2;have hz:us.length=m:=by rw [bq mj,ab,aG]; lia
     refine gY2 (lY.of zc) ?_;have sT:=s7.trans (zb (o:=.tup [.ref b1,.ref b2]) hT);have De:=mj.same (zb (o:=.tup [.ref b1,.ref b2]) hT);generalize lP H7 T (.tup [.ref b1,.ref b2])=H8 at sT De |-;have lv:=zpP (lR:=lR) (i+1);have ev:za1 p (lR.take (i+1)) (ts[m]'hm)=za1 p #[Qq] (ts[m]'hm)++(pco (px,py,pw)).map fun c=>cv (ts[m]'hm) c % p:=by rw [take_snoc hq,zmP]
     have lz:(za1 p #[Qq] (ts[m]'hm)).length+((pco (px,py,pw)).map fun c=>cv (ts[m]'hm) c % p).length=(cos (lR.take (i+1))).length:=by rw [<- ap,<- ev,zjK]
     refine⟨_,rfl,_,rfl,b1,b2,_,_,rfl,rfl,sT _ _ HB,sT _ _ HC,(by simp only [ab] at lz |-; lia),fun D hD=>⟨by rw [ab]; lia,sT.trans (zb hD),us++[D],#[M],?_⟩⟩;rw [take_snoc ht,am];refine cb (De.same (zb hD)) ?_;rw [zc,ev,am]
    ·rintro ys H7 D ⟨s7,us,rfl,mj⟩ hD;rw [aH (af _)] at mj;have s57:=s6.trans s7;exact⟨D,us,_,rfl,(s5.trans s57).trans (zb hD),(s5.trans s57).free hD,zc,mj.same (zb hD)⟩
   ·rintro σ H5 ⟨vl,ls,e4,rfl,s5,yz,h5,tB⟩;rw [ab,oY,aH (af _)] at tB;exact⟨_,rfl,q vl ls _ yz s5 h5 tB⟩
noncomputable def tK (t:Tm):List Key:=[bI (t.1:Int),bI (t.2:Int)]
theorem zmQ {t u:Tm} (h:tK t=tK u):t=u:=by
 unfold tK at h;injection h with h1 h2
 injection h2 with h2 _
 have e1:(t.1:Int)=u.1:=f8 h1;have e2:(t.2:Int)=u.2:=f8 h2;exact lK #[O] #[O]
theorem zmR {ts:List Tm} (h:ts.Nodup):#[OB].Nodup:=by
 rw [bw,bZ];exact kA (fun m5 e=>m5 (zmQ e)) h
theorem zpQ {bs:List Addr} {ts:List Tm} (h:PtB H bs #[SE]):KyA H #[Of] #[OB]:=by
 induction ts generalizing bs with
 | nil=>cases h; exact .nil
 | cons t ts ih =>
  cases h with
  | cons h1 h2=>exact .cons ⟨_,rfl,h1⟩ (ih h2)
noncomputable def zgT (K:ah):Sp:=fun vs H Q _=>∃ (p:Int) (tl pl:Addr) (bs cs:List Addr) (ts:List Tm) (lR:List (Int×Int×Nat)),vs = [.int p,.ref tl,.ref pl]/\p∈zq/\H tl=some #[At]/\PtB H bs #[SE]/\ts.Nodup/\ts.length=#[Pe].length+1/\ts.length<=200/\(∀ t∈ts,t.1<=400/\t.2<=400)/\H pl=some #[O9]/\W3 H cs lR/\zmO p lR/\lR.length<=1000 /\
 ∀ (D:Addr) (c:List Int) (m:Nat) (H':Hp),H D=none->zr H H'->H' D=some (.dT (#[OB].zip #[NR]))->IsP p (m+1) c->m < ts.length->gl c m=1->Dep p #[Pe].length #[NS] c->znY p #[Pe].length m #[NS]->Q #[M6] H'
theorem zdL:IJ ["p","terms","points","relation"] ["p","terms","points"] (zi zbL):=#[S]
theorem zgU (T:Txt K mg base t) (F:Fun K "first_sum" "first_sum" zbL t.Jv fd):Jk P w K mg base CX0 5 t.Jv fd ["p","terms","points"] (zgT K):=by
 obtain⟨pI,nW,mT⟩:=T.IZ;have pV:=zdK (P:=P) (w:=w) (base:=base) T nW;obtain⟨rD,pJ,n4⟩:=T.Jw;have sF:=zfu (P:=P) (w:=w) (base:=base) T pJ;refine F.ok zdL #[re] #[mt]
 ·obtain⟨p,tl,pl,bs,cs,ts,lR,rfl,_⟩:=h;rfl
 ·obtain⟨p,tl,pl,bs,cs,ts,lR,rfl,hp,pR,uL,oz,lT,oT,xW,m8,yS,hg,hn,q⟩:=h;have hu:(A.deeper (envOfC (bD "first_sum") (zi zbL) s.heap.objs.size t.Jv mE)).units+20 < cLine:=by have:=hr.units; lia
  refine zaW ?_; intro zX;refine⟨_,#[zd,#[zm,3,zdL.nd,#[A],#[zo,pV,#[sn],T.J9,nW.kp,mT,#[zJ],#[za,#[AC],#[ya,#[zo,sF,#[sn],T.KQ,pJ.kp,n4,#[zJ],#[za,#[AC],#[PK]]]]]]],#[zl,#[zN,(ziU (fK (jW (show 2<=20 by decide) _) hu) rfl rfl T.MC rfl T.LU #[Pz])]]],?_⟩;refine zln ?_; intro pF;have pO:=aW;have rp:=zC hp;have m5:ts≠[]:=fun e=>by rw [e] at lT; simp at lT
  have hv:∀ v∈ts.map (za1 p lR),v.length=#[Pe].length/\∀ c∈v,0<=c/\c < p:=fun v hv=>by
   obtain⟨t,_,rfl⟩:=aw.mp hv;exact⟨zjK p lR t,zn0 #[O]⟩
  refine⟨_,rfl,_,rfl,_,rfl,_,rfl,p,tl,pl,bs,cs,ts,lR,rfl,#[O],#[O],pR,uL,m5,oT,xW,m8,yS,hg,#[O],hn,fun vl vls H1 yz s1 h1 g1=>?_⟩;refine⟨p,vl,vls,ts.map (za1 p lR),#[Pe].length,rfl,h1,g1,by simpa using m5,by rw [ab]; exact oT,#[O],hv,hp,fun H2 s2 hI=>?_,fun l c m H2 hl s2 h2 hc hm Df hD hI=>?_⟩
  ·have:=zmp hp hv hI;rw [ab] at this;lia
  ·rw [ab] at hm;have wg:=s1.trans s2;exact⟨_,rfl,_,rfl,tl,l,_,_,_,rfl,lO.of (wg _ _ pR),lO.of h2,zpQ (uL.same wg),zmR oz,fun D H3 xi s3 h3=>q D c m H3 (wg.free xi) (wg.trans s3) h3 hc hm Df hD hI⟩
noncomputable def ze8 (K:ah):Sp:=fun vs H Q _=>∃ (k many:Nat),vs = [.int (k:Int),.int (many:Int)]/\2<=k/\k<=100/\many<=300 /\
 ∀ (l:Addr) (us:List Addr) (S:Nat) (H':Hp),H l=none->zr H H'->H' l=some #[R0]->PtB H' us ((#[PX].take many).map tI)->S<=many->many<=#[PX].length->Q #[Nv] H'
theorem zgV (k s:Nat):(tms k s).length=s / (k - 1)+1:=by unfold tms; rw [ab,bF]
theorem zoi {us:List Addr} {q:List (Int×Int)} (h:PtB H us q) (m:Nat):PtB H (us.take m) (q.take m):=by
 induction h generalizing m with
 | nil=>simp; exact .nil
 | cons h1 _ ih =>
  cases m with
  | zero=>exact .nil
  | succ m=>exact .cons h1 (ih m)
theorem zmS {F:Addr} {xs:List V} {o:HO} {us:List Addr} {q:List (Int×Int)} (h:PtB H us q) (hF:H F=some #[Ob]):PtB (lP H F o) us q:=c6 (fun b v z=>by rw [zn (fun e=>by rw [e,hF] at z; cases z)]; exact z) h
theorem zpR {us vs:List Addr} {q r:List (Int×Int)} (h1:PtB H us q) (h2:PtB H vs r):PtB H (us++vs) (q++r):=by
 induction h1 with
 | nil=>exact h2
 | cons a _ ih=>exact .cons a ih
theorem za7:IJ ["k","many","terms","size"] ["k","many"] (zi zbf):=#[S]
theorem ze9 (T:Txt K mg base t) (F:Fun K "first_terms" "first_terms" zbf t.Jq fd):Jk P w K mg base CX0 1 t.Jq fd ["k","many"] (ze8 K):=by
 refine F.ok za7 #[re] #[mt]
 ·obtain⟨k,many,rfl,_⟩:=h;rfl
 ·obtain⟨k,many,rfl,k2,Dg,hm,q⟩:=h;refine zaW ?_; intro zX;refine⟨_,#[zd,#[zm,2,za7.nd,#[A],#[NT]],#[zd,#[zm,3,za7.nd,#[Oo],#[zg]],#[zd,#[zhe,bp,#[zH,#[zey],#[zw,#[zI],T.Ki,cp,#[Ny]],#[AT],(zY _)],#[zd,#[ziv,2,za7.nd,#[A],#[zal,(IK.of (N':=["j","size","k"]) (ix:=[none,some 3,some 0]) (zi zbf) _ rfl rfl rfl),#[za9],#[zai,T.IS,#[ya,#[zj,#[zL],#[zj,#[zct],#[MX],#[zj,#[zaV],#[AC],#[zg]]],#[zg]]]],#[wf],#[ul],(fun _ _ _ _=>#[zaS,#[za,#[zj,#[zaV],#[AT],#[zj,#[zW],#[RL],#[AC]]],#[ya,#[AC]]]])],zmm],#[zl,#[ziv,3,za7.nd,#[Oo],#[zg],znd]]]],#[zl,#[zN,#[zbc,zbT,#[Fa],#[zbS],#[zbt,#[AT]]]]]]]],?_⟩;refine ziC ?_; intro uD qB pF;have pO:=aW;refine⟨bg _,fun TL EX=>?_⟩;refine⟨fun μ σ H'=>∃ (S:Nat) (us:List Addr),μ=many+1 - S/\S<=many/\σ = [some (.int (k:Int)),some (.int (many:Int)),some (.ref TL),some (.int (S:Int))]/\zr H H'/\H' TL=some #[R0]/\PtB H' us (#[PX].map tI),⟨many+1,0,[],rfl,bg _,rfl,zb EX,zc,.nil⟩,?_⟩;rintro μ σ H1 ⟨S,us,rfl,hS,rfl,s1,h1,mj⟩;have rm:us.length=#[PX].length:=by rw [bq mj,ab]
  have hSl:=zfY k S;refine⟨_,rfl,TL,_,rfl,.inl (lO.of h1),_,rfl,_,_,rfl,rfl,_,rfl,?_⟩;rw [ab,rm];refine zaO (fun mh=>?_) (fun pf=>?_)
  ·have mh:=of_decide_eq_true mh;have mh:#[PX].length < many:=by lia
   refine⟨fun σ' H'=>∃ m',m' < many+1 - S/\∃ (S:Nat) (us:List Addr),m'=many+1 - S/\S<=many/\σ' = [some (.int (k:Int)),some (.int (many:Int)),some (.ref TL),some (.int (S:Int))]/\zr H H'/\H' TL=some #[R0]/\PtB H' us (#[PX].map tI),fun _ _ z=>z,?_⟩;have k1:0 < k - 1:=by lia
   have ek:((k:Int) - 1)=((k - 1:Nat):Int):=by lia
   have eN:((S:Int) / ((k:Int) - 1)+1)=((S / (k - 1)+1:Nat):Int):=by
    rw [ek];exact congrArg (· + 1) (iR S (k - 1)).symm
   have hq:S / (k - 1)<=S:=lu _ _;refine⟨_,rfl,_,rfl,_,rfl,_,_,rfl,rfl,_,_,rfl,rfl,#[wr],_,_,rfl,rfl,?_⟩;refine⟨(S:Int) / ((k:Int) - 1)+1,rfl,by rw [eN]; exact bQ #[D] (kg _),by rw [eN]; exact kh (Int.ofNat_le.mpr (show S / (k - 1)+1<=301 from eA (aV hq #[O]))) #[D],?_⟩;rw [eN,bh];refine z9 (n:=S / (k - 1)+1) (fun m ys H'=>zr H1 H'/\∃ vs:List Addr,ys=vs.map V.ref/\PtB H' vs (((tms k S).take m).map tI)) ⟨fun _ _ e=>e,[],rfl,.nil⟩ #[MO] #[KF] ?_ ?_
   ·rintro zS zT zE j x ys H2 H3 hj ⟨s2,vs,rfl,BJ⟩ ⟨rfl,rfl⟩;rw [show ((0:Int)+(j:Int))=(j:Int) from eC _];have uo:(k - 1)*j<=S:=by
     have:=(eY k1).mp (show j<=S / (k - 1) by lia);rw [gr]; exact this
    have yz:vs.length=j:=by rw [bq BJ,ab,aG,zgV]; lia
    have eV:(S:Int) - ((k:Int) - 1)*(j:Int)=((S - (k - 1)*j:Nat):Int):=by
     rw [ek,lw uo,gK]
    refine gY ?_;refine⟨_,rfl,_,rfl,_,_,rfl,rfl,_,rfl,_,_,rfl,rfl,.inl #[wr],_,_,rfl,rfl,_,rfl,by show 2<=sizeLine; lia,fun T hT=>?_⟩;have EV:(tms k S)[j]? = some (S - (k - 1)*j,j):=by unfold tms; rw [aj,db hj]; rfl
    refine⟨by rw [ab]; lia,s2.trans (zb hT),vs++[T],#[M],?_⟩;rw [take_snoc EV,am];refine cb (BJ.same (zb hT)) ?_;rw [zc];show some (HO.tup [V.int ((S:Int) - ((k:Int) - 1)*(j:Int)),V.int (j:Int)])=_;rw [eV];rfl
   ·rintro ys H2 D ⟨s2,vs,rfl,BJ⟩ hD;rw [aH (by rw [zgV]; exact af _)] at BJ;have sD:=s2.trans #[ST];have yz:vs.length=S / (k - 1)+1:=by rw [bq BJ,ab,zgV]
    refine⟨TL,D,_,_,rfl,rfl,sD _ _ h1,zc,by rw [ab,ab]; lia,?_⟩;refine⟨_,rfl,_,_,rfl,rfl,?_⟩;refine⟨many+1 - (S+1),#[O],S+1,us++vs,rfl,#[O],rfl,zah (s1.trans sD) EX,by rw [zc,am],?_⟩;rw [za2,am];have a1:=zmS (o:=.lst #[SV]) (mj.same sD) (sD _ _ h1);have a2:=zmS (o:=.lst #[SV]) (BJ.same #[ST]) (sD _ _ h1);exact zpR a1 a2
  ·have pf:¬ ((#[PX].length:Int) < (many:Int)):=fun h=>pf #[RI]
   refine⟨_,rfl,_,rfl,_,rfl,TL,_,rfl,lO.of h1,fun z hz=>?_⟩;have ec:zcu #[IR] none (some (many:Int))=(us.take many).map V.ref:=by
    unfold zcu;rw [HT.Kf,HT.Ky,eW,gH,ab,dE #[O],dJ]
   rw [ec];refine q z (us.take many) S _ (s1.free hz) (s1.trans (zb hz)) zc ?_ hS #[O];have:=(zoi mj many).same (zb (o:=.lst ((us.take many).map V.ref)) hz);rw [<- dJ] at this;exact this
theorem gY3 {K:ah} {i l:Nat} {T:Addr} {x z:V} {σ:L2.St} {A B:L2.St->Hp->Prop} (hT:lY K H T [x,y,z]) (h:A ((#[MT].set j (some y)).set l (some z)) H) :
  zhd K 3 (zcg (zbb i) (zcg (zbb j) (zcg (zbb l) zit))) (.ref T) σ H (fun σ2 H2=>znl σ2 H2 fun b H3=>if b=true then A σ2 H3 else B σ2 H3):=by
 refine⟨T,_,rfl,hT,rfl,x,_,rfl,y,_,rfl,z,_,rfl,rfl,?_⟩;show (if true=true then A ((#[MT].set j (some y)).set l (some z)) H else B ((#[MT].set j (some y)).set l (some z)) H);rw [if_pos rfl];exact h
theorem zmT (w:Nat):(w:Int)*((w:Int)+1) / 2=(tri w:Int):=by
 unfold tri;rw [show ((w:Int)*((w:Int)+1))=((w*(w+1):Nat):Int) by rw [gK]; rfl];exact (iR _ 2).symm
theorem zij {α:Type} (f:α->Nat):∀ l:List α,(l.map fun q=>(f q:Int)).sum=((l.map f).sum:Int)
 | []=>rfl
 | a :: l=>by
  rw [aM,bR,aM,bR,zij f l];lia
theorem zjT:∀ {ts:List Tm} {c:List Int} {t:Tm},(zaU (#[OB].zip #[NR]) (tK t)).getD (.int 0) = .int (gof ts c t)
 | [],_,_=>rfl
 | _ :: _,[],_=>rfl
 | a :: ts,b :: c,t=>by
  have ih:=zjT (ts:=ts) (c:=c) (t:=t);unfold zaU gof at ih |-;rw [aM,aM,dZ,dZ,bi];by_cases e:t=a
  ·subst e;rw [List.find?_cons_of_pos #[M],beq_self_eq_true];rfl
  ·rw [List.find?_cons_of_neg (by simp; exact fun h=>e (zmQ h).symm),show (t == a)=false by simpa using e];exact ih
theorem zoj (hk:2<=k) (t:Tm):(t.1:Int)+((k:Int) - 1)*(t.2:Int)=(tz k t:Int):=by
 unfold tz;rw [show ((k:Int) - 1)=((k - 1:Nat):Int) by lia,gI,gK]
theorem zk2 {s:Nat} {g:Tm->Int} (h:j < s / (k - 1)+1):(zgL k s g).take (j+1)=(zgL k s g).take j++[(aN (s - (k - 1)*j+1)).map fun i=>g (i,j)]:=take_snoc (zmt h)
noncomputable def zfa (K:ah):Sp:=fun vs H Q _=>∃ (p:Int) (k:Nat) (pl:Addr) (cs:List Addr) (lR:List (Int×Int×Nat)),vs = [.int p,.int (k:Int),.ref pl]/\p∈zq/\2<=k/\k<=100/\H pl=some #[O9]/\W3 H cs lR/\zmO p lR/\#[Pe].length<=199/\lR.length<=1000 /\
 ∀ (z r:Addr) (ls:List Addr) (size:Nat) (g:Tm->Int) (H':Hp),H z=none->zr H H'->H' z=some (.tup [.int (size:Int),.ref r])->H' r=some (.tup (ls.map V.ref))->zbU H' ls (zgL k size g)->Lst p k lR size g->size<=200->Q #[OY] H'
theorem za8:IJ ["p","k","points","asked","found","size","lines"] ["p","k","points"] (zi zav):=#[S]
theorem zcX (T:Txt K mg base t) (F:Fun K "least_curve" "least_curve" zav t.Je fd):Jk P w K mg base CX0 6 t.Je fd ["p","k","points"] (zfa K):=by
 obtain⟨sG,qm,oG⟩:=T.JK;have tR:=zgU (P:=P) (w:=w) (base:=base) T qm;obtain⟨qP,o8,nJ⟩:=T.Js;have rE:=ze9 (P:=P) (w:=w) (base:=base) T o8;refine F.ok za8 #[re] #[mt]
 ·obtain⟨p,k,pl,cs,lR,rfl,_⟩:=h;rfl
 ·obtain⟨p,k,pl,cs,lR,rfl,hp,k2,Dg,m8,yS,hg,hL,hn,q⟩:=h;have hu:(A.deeper (envOfC (bD "least_curve") (zi zav) s.heap.objs.size t.Je mE)).units+20 < cLine:=by have:=hr.units; lia
  refine zaW ?_; intro zX;refine⟨_,#[zd,#[zm,3,za8.nd,#[A],#[zw,#[zdR],T.Mv,boot_sum,#[ya,#[zal,(IK.of (N':=["x","y","weight"]) (ix:=[none,none,none]) (zi zav) _ rfl rfl rfl),#[NZ],#[z8,#[Fa]],#[wv],#[ul],(fun _ _ _ _=>#[zj,#[zct],#[zj,#[zW],#[Fa],#[zj,#[zL],#[Fa],#[zg]]],#[zg]])]]]],#[zd,#[zm,4,za8.nd,#[Oo],#[zo,tR,#[sn],T.K3,qm.kp,oG,#[zJ],#[za,#[AC],#[za,#[zo,rE,#[sn],T.KA,o8.kp,nJ,#[zJ],#[za,#[AT],#[ya,#[zj,#[zL],#[MX],#[zg]]]]],#[Ny]]]]],#[zd,#[zm,5,za8.nd,#[Oo],#[zw,#[zdU],T.L5,iQ,#[ya,#[zal,(IK.of (N':=["i","j","k"]) (ix:=[none,none,some 1]) (zi zav) _ rfl rfl rfl),#[wE],(@zqp _ _ _ _ #[M5]),#[or],#[ul],(fun _ _ _ _=>#[zj,#[zL],#[AC],#[zj,#[zW],#[RL],#[AT]]])]]]],#[zd,#[zaK,6,za8.nd,#[A],(IK.of (N':=["j","size","k","found"]) (ix:=[none,some 5,some 1,some 4]) (zi zav) _ rfl rfl rfl),#[za9],#[zai,T.IS,#[ya,#[zj,#[zL],#[zj,#[zct],#[Pc],#[zj,#[zaV],#[AT],#[zg]]],#[zg]]]],(fun _ _ _ _=>#[zf,0,#[Y],#[Oo]]),#[ul],(fun _ _ _ _=>#[zan,(zeZ (K:=K) rfl),T.Ks,gG,#[ya,#[zal,(IK.of (N':=["i","found","j"]) (ix:=[none,some 3,some 0]) ({ kind:=.function,names:=[(".0",.local),("j",.cell),("tuple",.globalImplicit),("range",.globalImplicit),("found",.cell),("k",.cell),("size",.cell)],isGenerator:=false,isCoroutine:=false }) _ (by with_unfolding_all rfl) rfl rfl),#[za9],#[zai,T.IS,#[ya,#[zj,#[zL],#[zj,#[zaV],#[AT],#[zj,#[zW],#[RL],#[AC]]],#[zg]]]],#[wf],#[ul],(fun _ _ _ _=>#[zeO,(fK (jW (show 1<=20 by decide) _) hu),#[AT],#[zaS,#[za,#[AC],#[Ny]]],#[zg],⟨rfl,rfl,rfl,rfl⟩])]]])],#[zl,#[zN,#[zaS,#[za,#[Pc],#[ya,#[zan,#[zaP],T.Ks,gG,#[Sf]]]]]]]]]]],?_⟩;refine znk ?_; intro yO uD qB pF;have pO:=aW;have rp:=zC hp;have oY:=bq yS;refine⟨_,rfl,pl,rfl,⟨_,lO.of m8⟩,zcl (fs:=(lR.map fun q=>(tri q.2.2:Int)).map V.int) (lO.of m8) (by rw [ab,ab,ab,oY]) (by rw [ab]; lia) #[S3] (fun D0 BH=>?_)⟩
  ·obtain⟨b,rfl,hb⟩:=zV hx;obtain⟨⟨px,py,pw⟩,hq,Hz⟩:=Paired.get yS hb;have hw9:=(hg _ (aA hq)).2.2.2.2.2;rw [aj,aj,hq] at hy;have hy:V.int (tri pw:Int)=y:=by simpa using hy
   subst hy;refine gY3 (lY.of Hz) ?_;have hw9:pw<=9:=hw9;refine⟨_,rfl,_,rfl,_,_,rfl,rfl,_,_,rfl,rfl,.inl #[wr],_,_,rfl,rfl,#[FB],?_⟩;show R (.int ((pw:Int)*((pw:Int)+1) / 2)) _;rw [zmT];exact hR
  refine⟨D0,lR.map fun q=>(tri q.2.2:Int),rfl,lO.of zc,?_⟩;rw [zij,show (lR.map fun q=>tri q.2.2).sum=zcU lR from rfl];have s0:=zb (o:=.lst ((lR.map fun q=>(tri q.2.2:Int)).map V.int)) BH;generalize lP H D0 (.lst ((lR.map fun q=>(tri q.2.2:Int)).map V.int))=H0 at s0 |-;have hcn:=zer lR;refine⟨_,rfl,_,rfl,_,rfl,_,_,rfl,rfl,k,zcU lR+1,rfl,k2,Dg,#[O],fun tl us S H1 pR s1 h1 uL hS1 hS2=>?_⟩;have wj:=s0.trans s1;have HD:∀ t∈#[PX].take #[Q5],tz k t < S:=fun t ht=>(zbp k2).mp (gB ht)
  have tle:∀ t:Tm,t.1<=tz k t/\t.2<=tz k t:=fun t=>⟨by unfold tz; lia,by
   unfold tz;have:1*t.2<=(k - 1)*t.2:=gF _ #[O];lia⟩
  have oz:(#[PX].take #[Q5]).Nodup:=fM (ci _ _) (zbK k2 S);have lT:(#[PX].take #[Q5]).length=zcU lR+1:=by rw [aG]; lia
  refine⟨_,rfl,p,tl,pl,us,cs,#[PX].take #[Q5],lR,rfl,hp,h1,uL,oz,by rw [lT,hcn],#[O],fun t ht=>?_,wj _ _ m8,yS.same wj,hg,hn,fun D c m H2 hD s2 h2 hc hm Df hDp hI=>?_⟩
  ·have:=HD t ht;have:=tle t;lia
  rw [lT] at hm;have EY:=wj.trans s2;have EA:H D=none:=wj.free hD;obtain⟨top,oW⟩:∃ top,((zZ k S).take (zcU lR+1))[m]? = some top:=⟨(#[PX].take #[Q5])[m]'#[O],ag _⟩;have LS:=zpH (p:=p) #[O] k2 (lR:=lR) (S:=S) (ts:=#[PX].take #[Q5]) (by rw [hcn]) hc oW Df hDp hI;have Ew:(#[PX].take #[Q5]).Pairwise fun a b=>tz k a<=tz k b:=eU (ci _ _) (zcD k2 S)
  have Dh:=HD top (aA oW);generalize #[PX].take #[Q5]=ts at *;have AM:c.length=m+1:=hc.1;have Di:(#[OB].zip #[NR]).length=m+1:=by rw [lr,ab,ab]; lia
  refine⟨_,rfl,D,_,rfl,h2,fun o=>?_⟩;have s3:zr H (lP H2 D (.frz o (.dT (#[OB].zip #[NR])))):=zah EY EA;have h3:lP H2 D (.frz o (.dT (#[OB].zip #[NR]))) D=some (.frz o (.dT (#[OB].zip #[NR]))):=zc;generalize lP H2 D (.frz o (.dT (#[OB].zip #[NR])))=H3 at s3 h3 |-;refine z9 (n:=m+1) (fun i ys H'=>H'=H3/\ys=(#[SD].map fun t=>(tz k t:Int)).map V.int) ⟨rfl,rfl⟩ ?_ ?_ ?_ ?_
  ·rintro i ys H' hi ⟨rfl,_⟩;exact⟨h3,#[O]⟩
  ·rintro ys H' ⟨rfl,_⟩;exact⟨h3,#[O]⟩
  ·rintro zS zT zE i x ys H' H4 hi ⟨rfl,rfl⟩ ⟨rfl,a,ky,rfl,Eu,ha⟩;have EZ:ts[i]? = some (ts[i]'#[O]):=ag #[O];have ek:ky=tK (ts[i]'#[O]):=by
    rw [aj] at Eu;obtain⟨q',rk,rfl⟩:=df.mp Eu;have oA:(#[OB].zip #[NR])[i]? = some (q'.1,q'.2):=rk;rw [fC,aj,EZ] at oA;exact (aS oA.1).symm
   subst ek;generalize ts[i]'#[O]=tt at EZ ha;have BC:tz k tt < S:=HD tt (aA EZ);have:=tle tt;refine gY2 (lY.of (xs:=[.int (tt.1:Int),.int (tt.2:Int)]) ha) ?_;refine⟨_,rfl,_,rfl,_,_,rfl,rfl,_,rfl,_,_,rfl,rfl,.inl #[wr],_,_,rfl,rfl,?_⟩;refine⟨by rw [ab,ab,aG]; lia,rfl,?_⟩;show _++[V.int ((tt.1:Int)+((k:Int) - 1)*(tt.2:Int))]=_;rw [zoj k2,take_snoc EZ,am,am];rfl
  rintro ys H' D2 ⟨rfl,rfl⟩ x9;refine⟨D2,#[RQ].map fun t=>(tz k t:Int),rfl,lO.of zc,fun e=>?_,fun M hM AQ=>?_⟩
  ·have:#[RQ].length=0:=by rw [<- ab (f:=fun t=>(tz k t:Int)),e]; rfl
   rw [aG] at this;lia
  have eM:M=(tz k top:Int):=by
   obtain⟨t',ht',rfl⟩:=aw.mp hM;obtain⟨i',nY⟩:=cV.mp ht';have HE:i' < m+1:=by have:=(av.mp nY).1; rw [aG] at this; lia
   rw [b7 HE] at nY;have b1:=zdV Ew nY oW #[O];have b2:=AQ (tz k top:Int) (aw.mpr ⟨top,cV.mpr ⟨m,by rw [b7 #[O]]; exact oW⟩,rfl⟩);lia
  subst eM;have w4:=zb (o:=.lst ((#[RQ].map fun t=>(tz k t:Int)).map V.int)) x9;have s4:=s3.trans w4;have h4:=w4 _ _ h3;generalize lP H' D2 (.lst ((#[RQ].map fun t=>(tz k t:Int)).map V.int))=H4 at s4 h4 |-;have k1:0 < k - 1:=by lia
  have ek1:((k:Int) - 1)=((k - 1:Nat):Int):=by lia
  obtain⟨sz,En⟩:∃ sz,tz k top=sz:=⟨_,rfl⟩;rw [En] at LS Dh |-;have eN:((sz:Int) / ((k:Int) - 1)+1)=((sz / (k - 1)+1:Nat):Int):=by
   rw [ek1];exact congrArg (· + 1) (iR sz (k - 1)).symm
  have E1:sz / (k - 1)<=sz:=lu _ _;have HF:=fun t=>zjT (ts:=ts) (c:=c) (t:=t)
  generalize #[OB].zip #[NR]=kvs at *;generalize gof ts c=g at *;refine⟨_,rfl,_,rfl,_,_,rfl,rfl,_,_,rfl,rfl,#[wr],_,_,rfl,rfl,?_⟩;refine⟨(sz:Int) / ((k:Int) - 1)+1,rfl,by rw [eN]; exact bQ #[D] (kg _),by rw [eN]; exact kh (Int.ofNat_le.mpr (show sz / (k - 1)+1<=301 from eA (aV E1 #[O]))) #[D],?_⟩;rw [eN,bh];refine z9 (n:=sz / (k - 1)+1) (fun j ys H'=>zr H4 H'/\∃ us:List Addr,ys=us.map V.ref/\zbU H' us ((zgL k sz g).take j)) ⟨fun _ _ e=>e,[],rfl,.nil⟩ #[MO] #[KF] ?_ ?_
  ·rintro zS zT zE j x ys H5 H6 hj ⟨s5,us,rfl,mj⟩ ⟨rfl,rfl⟩;rw [show ((0:Int)+(j:Int))=(j:Int) from eC _];have uo:(k - 1)*j<=sz:=by
    have:=(eY k1).mp (show j<=sz / (k - 1) by lia);rw [gr]; exact this
   have rm:us.length=j:=by rw [bq mj,aG,zh8]; lia
   have eV:(sz:Int) - ((k:Int) - 1)*(j:Int)+1=((sz - (k - 1)*j+1:Nat):Int):=by
    rw [ek1,gI,lw uo,gK];rfl
   refine gY ?_;refine⟨_,rfl,_,rfl,_,_,rfl,rfl,_,rfl,_,_,rfl,rfl,.inl #[wr],_,_,rfl,rfl,_,_,rfl,rfl,?_⟩;refine⟨(sz:Int) - ((k:Int) - 1)*(j:Int)+1,rfl,by rw [eV]; lia,by rw [eV]; lia,?_⟩;rw [eV,bh];refine z9 (n:=sz - (k - 1)*j+1) (fun i ys H'=>zr H6 H'/\ys=((aN i).map fun i=>g (i,j)).map V.int) ⟨fun _ _ e=>e,rfl⟩ #[MO] #[KF] ?_ ?_
   ·rintro zS zT zE i x ys H7 H8 hi ⟨s7,rfl⟩ ⟨rfl,rfl⟩;rw [show ((0:Int)+(i:Int))=(i:Int) from eC _];have h7:=(s5.trans s7) _ _ h4;refine gY ?_;refine⟨_,rfl,D,rfl,.inr ⟨kvs,.inr ⟨o,h7⟩⟩,_,rfl,_,rfl,by show 2<=sizeLine; lia,fun T hT=>?_⟩;have wT:=zb (o:=.tup [.int (i:Int),.int (j:Int)]) hT;refine⟨_,.inr ⟨kvs,tK (i,j),T,.inr ⟨o,wT _ _ h7⟩,rfl,zc,rfl⟩,?_⟩;rw [HF];refine⟨by rw [ab,ab,bF]; lia,s7.trans wT,?_⟩;rw [cQ,am,am];rfl
   ·rintro ys H7 D5 ⟨s7,rfl⟩ hD5;refine⟨D5,_,rfl,.inl ⟨lO.of zc,fun l hl=>?_⟩⟩;have w7:=(s7.trans (zb (o:=.lst (((aN (sz - (k - 1)*j+1)).map fun i=>g (i,j)).map V.int)) hD5)).trans (zb (o:=.tup (((aN (sz - (k - 1)*j+1)).map fun i=>g (i,j)).map V.int)) hl);refine⟨by rw [ab]; lia,s5.trans w7,us++[l],#[M],?_⟩;rw [zk2 hj];exact cb (mj.same w7) zc
  ·rintro ys H5 L1 ⟨s5,us,rfl,mj⟩ xm;rw [aH (by rw [zh8]; exact af _)] at mj;have w5:=s5.trans (zb (o:=.lst #[IR]) xm);have HG:=mj.same (zb (o:=.lst #[IR]) xm);refine⟨_,rfl,_,rfl,L1,_,rfl,.inl ⟨lO.of zc,fun r hr=>?_⟩⟩;have w6:=w5.trans (zb (o:=.tup #[IR]) hr);have HH:=HG.same (zb (o:=.tup #[IR]) hr);refine⟨by show 2<=sizeLine; lia,fun z hz=>?_⟩;have sf:=s4.trans w6;have wz:=zb (o:=.tup [.int (sz:Int),.ref r]) hz;exact q z r us sz g _ (sf.free hz) (sf.trans wz) zc (wz _ _ zc) (HH.same wz) LS #[O]
noncomputable def zee (K:ah):Sp:=fun vs H Q _=>∃ (k:Nat),vs = [.int (k:Int)]/\2<=k/\Q .non H
theorem zef:IJ ["k"] ["k"] (zi zbw):=#[S]
theorem zcK (T:Txt K mg base t) (F:Fun K "check_curves" "check_curves" zbw t.Jj fd):Jk P w K mg base CX0 1 t.Jj fd ["k"] (zee K):=by
 refine F.ok zef #[re] #[mt]
 ·obtain⟨k,rfl,_⟩:=h;rfl
 ·obtain⟨k,rfl,h1,q⟩:=h;refine zaW ?_; intro zX;refine⟨_,#[zl,#[zbo,#[zH,#[zey],#[AC],#[zg],(zY _)],#[zdO],#[zam]]],?_⟩;refine#[Nk];exact zaO #[MU] (fun _=>q)
noncomputable def wpt (m:Nat) (l:List (Int×Int)):List (Int×Int×Nat):=l.map fun q=>(q.1,q.2,m)
theorem zfb (m:Nat):∀ l,zcU (wpt m l)=l.length*tri m
 | []=>by simp [zcU,wpt]
 | a :: l=>by
  have ih:=zfb m l;unfold zcU wpt at ih |-
  (simp only [aM,bR,bu])
  rw [ih,kJ];lia
noncomputable def zgW (K:ah):Sp:=fun vs H Q _=>∃ (c tt r:Addr) (p:Int) (k m:Nat) (pl:List Int) (rw:List #[ww]),vs = [.ref c,.ref r,.int (m:Int)]/\zaY H c tt p k pl/\H r=some #[N9]/\rw.length=pl.length/\pl.length<=16/\p∈zq/\pl.Nodup/\(∀ x∈pl,0<=x/\x < p)/\(∀ z,some z∈rw->0<=z/\z < p)/\2<=k/\k<=100/\1<=m/\m<=9/\#[MY].length*tri m<=199 /\
 ∀ (z r:Addr) (ls:List Addr) (size:Nat) (g:Tm->Int) (H':Hp),H z=none->zr H H'->H' z=some (.tup [.int (size:Int),.ref r])->H' r=some (.tup (ls.map V.ref))->zbU H' ls (zgL k size g)->Lst p k (wpt m #[MY]) size g->size<=200->Q #[OY] H'
theorem zbW:IJ ["code","row","m","p","k","places"] ["code","row","m"] (zi zbM):=#[S]
theorem zgX (T:Txt K mg base t) (F:Fun K "curve_for" "curve_for" zbM t.JV fd):Jk P w K mg base CX0 7 t.JV fd ["code","row","m"] (zgW K):=by
 obtain⟨oq,mo,mq⟩:=T.IW;have nj:=zcK (P:=P) (w:=w) (base:=base) T mo;obtain⟨oH,mF,mG⟩:=T.Jb;have nK:=zcX (P:=P) (w:=w) (base:=base) T mF;obtain⟨ou,mv,mB⟩:=T.IV;have nk:=zcJ (P:=P) (w:=w) (base:=base) T mv;refine F.ok zbW #[re] #[mt]
 ·obtain⟨c,tt,r,p,k,m,pl,rw,rfl,_⟩:=h;rfl
 ·obtain⟨c,tt,r,p,k,m,pl,rw,rfl,hc,wM,oX,hn,hp,oz,m8,va,h1,k1,m1,m9,hA,q⟩:=h;refine zaW ?_; intro zX;refine⟨_,#[zd,#[zbs,#[AC],#[zaE,#[zh,#[zf,3,zbW.nd,#[A]],#[zh,#[zf,4,zbW.nd,#[A]],#[zh,#[zf,5,zbW.nd,#[A]],#[zy]]]]]],#[zd,#[zbR,#[zo,nj,#[sn],T.JH,mo.kp,mq,#[zJ],#[OU]]],#[zl,#[zN,#[zo,nK,#[sn],T.JS,mF.kp,mG,#[zJ],#[za,#[MX],#[za,#[M5],#[ya,#[zal,(IK.of (N':=["place","entry","m"]) (ix:=[none,none,some 2]) (zi zbM) _ rfl rfl rfl),#[wE],#[z8,#[zo,nk,#[sn],T.JG,mv.kp,mB,#[zJ],#[Nc]]],#[or],#[ul],(fun _ _ _ _=>#[zaS,#[za,#[AC],#[PK]]])]]]]]]]]],?_⟩;refine zgc ?_; intro qB pF;have pO:=aW;have rp:=zC hp;have hR:LZ K H r pl.length rw:=⟨lO.of wM,oX⟩;have hP:=zep oz m8 va;have hhl:=zb4 pl rw;refine⟨_,rfl,c,_,rfl,lY.of hc.1,rfl,_,_,rfl,_,_,rfl,_,_,rfl,rfl,?_⟩;refine⟨_,rfl,k,rfl,h1,?_⟩;refine⟨_,rfl,_,rfl,_,rfl,_,rfl,c,tt,r,p,k,pl,rw,rfl,hc,hR,#[O],fun l bs H1 pN s1 uF hB=>?_⟩;have tQ:bs.length=#[MY].length:=hB.length;refine⟨l,rfl,⟨_,lO.of uF⟩,z9 (n:=bs.length) (fun i ys H'=>zr H1 H'/\∃ us:List Addr,ys=us.map V.ref/\W3 H' us (wpt m (#[MY].take i))) ⟨fun _ _ e=>e,[],rfl,.nil⟩ ?_ ?_ ?_ ?_⟩
  ·rintro i ys H4 hi ⟨s4,_⟩;exact⟨_,.ref (bs[i]'#[O]),lO.of (s4 _ _ uF),by rw [aj,ag #[O]]; rfl⟩
  ·rintro ys H4 ⟨s4,_⟩;exact⟨_,lO.of (s4 _ _ uF),by rw [ab]; exact af _⟩
  ·rintro zS zT zE i z ys H4 H5 hi ⟨s4,us,rfl,mj⟩ ⟨rfl,hx⟩;obtain⟨b,rfl,AI⟩:=zV (hx _ (lO.of (s4 _ _ uF)));obtain⟨q',rk,hT⟩:=Paired.get (hB.same s4) AI;have hz:us.length=i:=by rw [bq mj]; unfold wpt; rw [ab,aG]; lia
   refine gY2 (lY.of hT) ?_;refine⟨_,rfl,_,rfl,_,rfl,by show 3<=sizeLine; lia,fun T uC=>⟨by rw [ab]; lia,s4.trans (zb uC),us++[T],#[M],?_⟩⟩;rw [take_snoc rk];unfold wpt;rw [am];exact cb (mj.same (zb uC)) zc
  ·rintro ys H4 D ⟨s4,us,rfl,mj⟩ hD;rw [aH #[O]] at mj;have w4:=s4.trans (zb (o:=.lst #[IR]) hD);refine⟨p,k,D,us,wpt m #[MY],rfl,hp,h1,k1,zc,mj.same (zb hD),fun q' rk=>?_,by rw [zer,zfb]; exact hA,by unfold wpt; rw [ab]; lia,fun z r' ls size g H5 hz s5 h5 h6 h7 hL hs=>?_⟩
   ·obtain⟨a,ha,rfl⟩:=aw.mp rk;obtain⟨g1,g2,g3,g4⟩:=hP.rg a ha;exact⟨g1,g2,g3,g4,m1,m9⟩
   ·have yT:=s1.trans w4;exact q z r' ls size g H5 (yT.free hz) (yT.trans s5) h5 h6 h7 hL hs
noncomputable def ptw (pl:List Int) (q:Wt3):Int×Int:=pt (wpp pl q)
theorem zoM {H:Hp} {m:Nat} {pl:List Int}:∀ {bs:List Addr} {ts:List Wt3},T3 H bs #[BT]->(∀ q∈ts,q.2.2=(m:Int))->W3 H bs (wpt m #[SI])
 | [],[],_,_=>.nil
 | [],_ :: _,h,_=>(by cases h)
 | _ :: _,[],h,_=>(by cases h)
 | b :: bs,q :: ts,h,hm=>by
  cases h with
  | cons h1 h2 =>
   refine .cons ?_ (zoM h2 fun x hx=>hm x #[QT]);have e:=hm q aD;have h1:H b=some (.tup [.int (wpp pl q).1,.int q.2.1,.int q.2.2]):=h1;rw [e] at h1;exact h1
noncomputable def zik (K:ah):Sp:=fun vs H Q _=>∃ (c tt g:Addr) (p:Int) (k m:Nat) (pl:List Int) (bs:List Addr) (ts:List Wt3),vs = [.ref c,.ref g]/\zaY H c tt p k pl/\H g=some #[At]/\T3 H bs ts/\(∀ q∈ts,0<=q.1/\q.1 < pl.length/\0<=q.2.1/\q.2.1 < p/\q.2.2=(m:Int))/\p∈zq/\(∀ x∈pl,0<=x/\x < p)/\2<=k/\k<=100/\1<=m/\m<=9/\ts.length*tri m<=199/\ts.length<=60 /\
 ∀ (z r:Addr) (size:Nat) (g':Tm->Int) (H':Hp),H z=none->zr H H'->H' z=some (.tup [.int (size:Int),.ref r])->Lst p k (wpt m #[SI]) size g'->Q #[OY] H'
theorem zb8:IJ ["code","guesses","p","k","places"] ["code","guesses"] (zi zcF):=#[S]
theorem zil (T:Txt K mg base t) (F:Fun K "curve_by" "curve_by" zcF t.Kb fd):Jk P w K mg base CX0 7 t.Kb fd ["code","guesses"] (zik K):=by
 obtain⟨oq,mo,mq⟩:=T.IW;have nj:=zcK (P:=P) (w:=w) (base:=base) T mo;obtain⟨oH,mF,mG⟩:=T.Jb;have nK:=zcX (P:=P) (w:=w) (base:=base) T mF;obtain⟨mJ,lU,lW⟩:=T.IL;have me:=zbn (P:=P) (w:=w) (base:=base) T lU;refine F.ok zb8 #[re] #[mt]
 ·obtain⟨c,tt,g,p,k,m,pl,bs,ts,rfl,_⟩:=h;rfl
 ·obtain⟨c,tt,g,p,k,m,pl,bs,ts,rfl,hc,hg,hT,hq,hp,m8,h1,k1,m1,m9,hA,hn,q⟩:=h;refine zaW ?_; intro zX;refine⟨_,#[zd,#[zbs,#[AC],#[zaE,#[zh,#[zf,2,zb8.nd,#[A]],#[zh,#[zf,3,zb8.nd,#[A]],#[zh,#[zf,4,zb8.nd,#[A]],#[zy]]]]]],#[zd,#[zbR,#[zo,nj,#[sn],T.JH,mo.kp,mq,#[zJ],#[ya,#[MX]]]],#[zl,#[zN,#[zo,nK,#[sn],T.JS,mF.kp,mG,#[zJ],#[za,#[Fa],#[za,#[MX],#[ya,#[OP]]]]]]]]],?_⟩;refine zgc ?_; intro qB pF;have uh:∀ q∈ts,0<=q.1/\q.1 < pl.length:=fun z hz=>⟨(hq z hz).1,(hq z hz).2.1⟩
  refine⟨_,rfl,c,_,rfl,lY.of hc.1,rfl,_,_,rfl,_,_,rfl,_,_,rfl,rfl,?_⟩;refine⟨_,rfl,k,rfl,h1,?_⟩;refine⟨_,rfl,_,rfl,_,rfl,_,rfl,c,tt,g,p,k,pl,bs,ts,rfl,hc,hg,hT,hn,uh,fun l ds H1 hl s1 uF wR=>?_⟩;refine⟨p,k,l,ds,wpt m #[SI],rfl,hp,h1,k1,uF,zoM wR (fun z hz=>(hq z hz).2.2.2.2),fun q' rk=>?_,by rw [zer,zfb,ab]; exact hA,by unfold wpt; rw [ab,ab]; lia,fun z r' ls size g' H5 hz s5 h5 h6 h7 hL hs=>?_⟩
  ·obtain⟨a,ha,rfl⟩:=aw.mp rk;obtain⟨b,hb,rfl⟩:=aw.mp ha;obtain⟨w0,w1⟩:=zmJ uh m8 (wpp pl b) (dO hb);exact⟨w0,w1,(hq b hb).2.2.1,(hq b hb).2.2.2.1,m1,m9⟩
  ·exact q z r' size g' H5 (s1.free hz) (s1.trans s5) h5 hL
abbrev zqv:Pos:=⟨129,33,129,56⟩
abbrev zqw:Str:=(bD "picked_weights"++bD ".<locals>.")++bD "<lambda>"
noncomputable def TbA (t:Adr) (H:Hp):Prop:=TbI t.tab zqv zqw H
theorem TbA.same {t:Adr} (s:zr H H') (h:TbA t H):TbA t H':=by
 obtain⟨ps,h1,h2,h3⟩:=h;exact⟨ps,s _ _ h1,h2,h3.imp id fun ⟨c,z1,z2⟩=>⟨c,z1,s _ _ z2⟩⟩
theorem TbA.at_ {t:Adr} (h:TbA t H):∃ ps,H t.tab=some (.tbl ps):=by
 obtain⟨ps,h1,_⟩:=h;exact⟨ps,h1⟩
theorem zim {α β:Type} {F:α->β->Prop} {as bs:List α} (h:as.Perm bs):∀ {ys:List β},Paired F bs ys->∃ xs:List β,xs.Perm ys/\Paired F as xs:=by
 induction h with
 | nil=>intro ys r; cases r; exact⟨[],.refl _,.nil⟩
 | cons x _ ih =>
  intro ys r;cases r with
  | cons r1 r2 =>
   obtain⟨xs,h1,h2⟩:=ih r2;exact⟨_ :: xs,h1.cons _,.cons r1 h2⟩
 | swap x y l =>
  intro ys r;cases r with
  | cons r1 r2 =>
   cases r2 with
   | cons r3 r4=>exact⟨_ :: _ :: _,.swap _ _ _,.cons r3 (.cons r1 r4)⟩
 | trans _ _ i1 i2 =>
  intro ys r;obtain⟨xs,h1,h2⟩:=i2 r;obtain⟨zs,h3,h4⟩:=i1 h2;exact⟨zs,h3.trans h1,h4⟩
theorem zcY {α β:Type} {F:α->β->Prop}:∀ {as:List α} {bs:List β} (n:Nat),Paired F as bs->Paired F (as.drop n) (bs.drop n)
 | _,_,0,h=>h
 | _,_,_+1,.nil=>.nil
 | _,_,n+1,.cons _ t=>zcY n t
theorem T3.hid {a:Addr} {ps:Array Value} (ha:H a=some (.tbl ps)) {bs:List Addr} {ts:List Wt3} (h:T3 H bs ts):T3 (hide H a) bs ts:=c6 (fun _ _ z=>zag z fun e=>by rw [e,ha] at z; cases z) h
theorem zgY {κ:Type} [DecidableEq κ] (kvs:List (κ×V)) (k:κ) (v:V):zaU #[Nr] k=some v:=by
 rw [zhD]; simp
theorem zi1 {κ:Type} [DecidableEq κ] {kvs:List (κ×V)} {k k':κ} {v:V} (h:k'≠k):zaU #[Nr] k'=zaU kvs k':=by
 rw [zhD]; simp [h]
noncomputable def zqx (t:Adr) (K:ah):Sp:=fun vs H Q _=>∃ (a:Addr) (p T:Int) (k:Nat) (bs:List Addr) (ts:List Wt3),vs = [.int p,.int (k:Int),.ref a,.int T]/\H a=some #[At]/\T3 H bs ts/\Wp p ts/\p∈zq/\1<=k/\k<=5/\ts.length<=30/\ts.length ^ k<=1000000/\TbA t H /\
 ∀ (d:Addr) (kvs:List (List Key×V)) (mM:List #[GE]) (H':Hp),H d=none->zr #[Ry] H'->TbA t H'->H' d=some #[OM]->KeysAre kvs mM->mM.Nodup->mM.length<=1000000->(∀ f∈mM,IsP p k f)->(∀ f,IsP p k f->T<=wsum p f ts->k<=#[Nh].length->f∈mM) ->
  (∀ f∈mM,∃ v,zaU kvs (f.map bI)=some (.int v)/\v<=wsum p f ts)->Q (.ref d) H'
theorem zF:IJ ["p","k","points","least","ordered","rests","picks","step","found","at","weight","polynomial","vanishing","known"] ["p","k","points","least"] (zi zaj):=#[S]
theorem zdM (T:Txt K mg base t) (F:Fun K "picked_weights" "picked_weights" zaj t.IM fd):Jk P w K mg base CX0 4 t.IM fd ["p","k","points","least"] (zqx t K):=by
 obtain⟨oI,mH,mI⟩:=T.Ja;have nL:=zcW (P:=P) (w:=w) (base:=base) T mH;obtain⟨rF,pK,n5⟩:=T.Jy;have sH:=zfq (P:=P) (w:=w) (base:=base) T pK;refine F.okT T.tb zF #[re] (fun cP hKc A outer s H vs Q E hr h=>?_)
 ·obtain⟨a,p,T',k,bs,ts,rfl,_⟩:=h;rfl
 ·obtain⟨a,p,T',k,bs,ts,rfl,ha,hT,hW,hp,k1,k5,hn,Dj,wK,q⟩:=h;have hu:(A.deeper (envOfC (bD "picked_weights") (zi zaj) s.heap.objs.size t.IM (.ref cP))).units+1 < cLine:=by have:=hr.units; lia
  refine zaW ?_; intro zX;refine⟨_,#[zd,#[zm,4,zF.nd,#[Oo],(@zmx _ t.tab cP _ _ _ _ _ _ _ _ _ _ _ _ _ _ rfl hKc T.bm (by exact⟨rfl,rfl,rfl,rfl,#[D],(fun _ _ _ _ _ _ _ _=>rfl),#[QF],#[QF]⟩) rfl hr.depth rfl T.Kx #[Fa] rfl)],#[zd,#[zm,5,zF.nd,#[Oo],#[zal,(IK.of (N':=["at","ordered"]) (ix:=[none,some 4]) (zi zaj) _ rfl rfl rfl),#[za9],#[zai,T.IS,#[ya,#[Rj]]],#[wf],#[ul],(fun _ _ _ _=>#[zo,nL,#[sn],T.JR,mH.kp,mI,#[zJ],#[za,#[zbc,(zhs (K:=K) rfl),#[AT],#[zbt,#[AC]],#[zbS]],#[ya,#[zw,#[zbd,(K)],T.Ki,cp,#[Oy]]]]])]],#[zd,#[zm,6,zF.nd,#[A],#[zac,#[ya,#[zaS,#[zcO,#[za,#[zg],#[za,#[zj,#[zeB],#[Ng],#[AT]],#[ya,#[Ng]]]]]]]]],#[zd,#[zaF,bp,#[zai,T.IS,#[Oy]],#[zf,7,zF.nd,#[A]],#[zl,#[zeT,6,zF.nd,#[A],(IK.of (N':=["pick","longer","p","ordered","rests","least"]) (ix:=[none,none,some 0,some 4,some 5,some 3]) (zi zaj) _ rfl rfl rfl),(zcZ (js:=[0]) (i:=0) #[D]),(zcZ (js:=[1]) (i:=1) #[D]),#[z8,#[On]],#[wf],#[ul],(fun _ _ _ _=>(@zmi _ (K) _ _ _ rfl #[zo,sH,#[sn],T.KS,pK.kp,n5,#[zJ],#[za,#[Fa],by exact #[za,#[MX],by exact #[za,#[M5],#[za,#[Pc],#[ya,#[AC]]]]]]])),(fun _ _ _ _=>#[zf,1,#[Y],#[A]]),#[ul],#[RH],(by intros; rfl)]]],#[zd,#[zm,8,zF.nd,#[A],#[zhI]],#[zd,#[zaF,bp,#[z8,#[On]],#[zaE,#[zh,#[zf,9,zF.nd,#[A]],#[zh,#[zf,10,zF.nd,#[A]],#[zh,#[zf,11,zF.nd,#[A]],#[zh,#[zf,12,zF.nd,#[A]],#[zy]]]]]],#[zd,#[zm,13,zF.nd,#[A],#[zan,#[zaP],T.Ks,gG,#[Px]]],#[zl,#[zgu,hu,#[PV],#[pvx,13],#[zw,#[zdP],T.L5,iQ,#[za,#[Rm],#[ya,#[zeO,hu,#[PV],#[pvx,13],#[zg],⟨rfl,rfl,rfl,rfl⟩]]]]]]]],#[zl,#[zN,#[PV]]]]]]]]],?_⟩;refine zpc ?_; intro GN EC yO uD qB pF;have pO:=aW;have rp:=zC hp;have tQ:=hT.length;obtain⟨ps0,E2⟩:=wK.at_;have GI:a≠t.tab:=fun e=>by rw [e,E2] at ha; cases ha
  refine⟨_,rfl,a,bs,rfl,ha,#[O],(fun b hb=>?_),wK,fun D su H2 yb s2' o7 hD=>?_⟩
  ·obtain⟨i,hi,e⟩:=cK hb;obtain⟨z,_,h2⟩:=Paired.get hT (ag hi);rw [e] at h2;exact⟨_,_,_,h2⟩
  have s2:zr #[Ry] H2:=fun b o e=>by
   by_cases hb:b=t.tab
   ·rw [hb] at e; unfold hide at e; rw [if_pos rfl] at e; cases e
   ·unfold hide at e; rw [if_neg hb] at e; exact s2' b hb o e
  obtain⟨us,mj,hTu⟩:=zim yb (hT.hid E2);have yU:=hW.perm mj;have rm:=mj.length_eq;have HI:=hTu.length;have HJ:TbA t H2:=o7;have u3:=zb (o:=.lst (su.map V.ref)) hD;have xB:lP H2 D #[O6] D=some #[O6]:=zc;have x8:=(T3.same s2 hTu).same u3;have yM:=HJ.same u3;have s3:=s2.trans u3;generalize lP H2 D #[O6]=H3 at u3 xB x8 yM s3 |-;refine⟨_,rfl,D,_,rfl,.inl (lO.of xB),_,rfl,by rw [ab]; lia,by rw [ab]; lia,?_⟩;rw [ab,bh];refine z9 (n:=su.length) (fun i ys H'=>∃ R:List Int,ys=R.map V.int/\R.length=i/\zr H3 H'/\∀ j v,R[j]? = some v->zgN ((mxs ((us.drop j).map kw)).map (·.2)) us.length v) ⟨[],rfl,rfl,fun _ _ e=>e,fun j v e=>by simp at e⟩ #[MO] #[KF] ?_ ?_
  ·rintro zS zT zE i xx ys H4 H5 hi ⟨R,rfl,EJ,s4,hR⟩ ⟨rfl,rfl⟩;refine gY ⟨_,rfl,_,rfl,_,rfl,D,_,rfl,lO.of (s4 _ _ xB),fun z hz=>?_⟩;rw [show (0:Int)+(i:Int)=(i:Int) by lia,zih (by rw [ab]; lia),<- fq];have v5:=zb (o:=.lst ((su.drop i).map V.ref)) hz;refine⟨_,rfl,D,_,rfl,.inl (lO.of ((s4.trans v5) _ _ xB)),z,us.length,su.drop i,us.drop i,?_,zc,zcY i (x8.same (s4.trans v5)),by rw [cn]; lia,(fun x hx=>(yU.rg x (gw hx)).2.2.2.2),fun v H6 hv s6=>?_⟩
   ·rw [ab,HI]; rfl
   refine⟨by rw [ab]; lia,R++[v],by rw [am]; rfl,by rw [ap,EJ]; rfl,s4.trans (v5.trans s6),fun j v' e=>?_⟩;by_cases hj:j < R.length
   ·rw [bL hj] at e;exact hR j v' e
   ·have rB:j=R.length:=by
     have:=(av.mp e).1;rw [ap,cT] at this;lia
    rw [rB,cr (af _),gD] at e;have e:v=v':=by simpa using e
    subst e;rw [rB,EJ];exact hv
  rintro ys H4 rl ⟨R,rfl,EJ,s4,hR⟩ oX;have u5:=zb (o:=.lst (R.map V.int)) oX;have h5r:lP H4 rl #[Ps] rl=some #[Ps]:=zc;have Dk:=s4.trans u5;generalize lP H4 rl #[Ps]=H5 at u5 h5r Dk |-;have hRb:∀ f i,i < us.length->wsum p f (us.drop i)<=#[RE] i:=fun f i hi=>by
   have nY:i < R.length:=by lia
   have hv:=hR i R[i] (ag nY);have h1:=zic (f:=f) (yU.sub (kq i us)) hv (aV (b9 _ _) (by rw [cn]; lia));show _<=R.getD i 0;rw [aZ,ag nY];exact h1
  refine⟨by show 1<=sizeLine; lia,fun z0 xJ=>⟨_,rfl,z0,_,[.int 0],rfl,rfl,zc,#[O],#[O],by show 1*_<=sizeLine; lia,fun z1 qA=>⟨by show 1<=sizeLine; lia,fun z2 rA=>⟨by show 4<=sizeLine; lia,fun z3 Bz=>⟨by show 1<=sizeLine; lia,fun z4 hz4=>?_⟩⟩⟩⟩⟩;rw [zeJ,bh] at rA Bz hz4 |-;have w0:=zb (o:=.lst [.int 0]) xJ;have w1:=zb (o:=.lst ((aJ k 0).map V.int)) qA;have w2:=zb (o:=.lst [.int 1]) rA;have w3:=zb (o:=.tup [.int 0,.int 0,.ref z1,.ref z2]) Bz;have w4:=zb (o:=.lst [.ref z3]) hz4;have ER:=(w2.trans (w3.trans w4)) _ _ zc;have Dd:=(w3.trans w4) _ _ zc;have ES:=w4 _ _ zc;have ET:lP (lP (lP (lP (lP H5 z0 (.lst [.int 0])) z1 (.lst ((aJ k 0).map V.int))) z2 (.lst [.int 1])) z3 (.tup [.int 0,.int 0,.ref z1,.ref z2])) z4 (.lst [.ref z3]) z4=some (.lst ([z3].map V.ref)):=zc;have BK:=w0.trans (w1.trans (w2.trans (w3.trans w4)));generalize lP (lP (lP (lP (lP H5 z0 (.lst [.int 0])) z1 (.lst ((aJ k 0).map V.int))) z2 (.lst [.int 1])) z3 (.tup [.int 0,.int 0,.ref z1,.ref z2])) z4 (.lst [.ref z3])=H6 at ER Dd ES ET BK |-;have h6D:=#[Sl] _ _ xB;have h6r:=BK _ _ h5r;have hT6:=x8.same #[Sl];have hB6:=yM.same #[Sl];have sA6:=s3.trans #[Sl];refine#[Oi];rw [bh];refine zbk (lo:=0) (n:=k) (fun i σ H'=>∃ (c:Addr) (ds:List Addr) (sx:List Pk) (e7:Option V),σ = [some #[OZ],some (.int (k:Int)),some #[M8],some (.int T'),some #[M6],some (.ref rl),some #[PY],e7,none,none,none,none,none,none]/\zr H6 H'/\H' c=some #[Oa]/\PkB H' p k ds sx/\Pks p us k T' i sx)
   ⟨z4,[z3],[(0,[])],none,rfl,fun _ _ e=>e,ET,.cons ⟨z1,z2,ES,ER,Dd⟩ .nil,zkW⟩ ?_ ?_
  ·rintro zD zT i σ H7 hi ⟨c,ds,sx,e7,rfl,s7,uG,wU,hP⟩;have tP:=wU.length;refine⟨_,rfl,c,rfl,⟨_,lO.of uG⟩,zfV (n:=ds.length) (fun i' ys H'=>∃ (es:List Addr) (qv:List (List Pk)),ys=es.map V.ref/\zr H7 H'/\Paired (LP us #[RE] T') (sx.take i') qv/\PkB H' p k es qv.flatten) ⟨[],[],rfl,fun _ _ e=>e,.nil,.nil⟩ ?_ ?_ ?_ ?_⟩
   ·rintro i' ys H8 nY ⟨es,qv,_,s8,_⟩;exact⟨_,.ref ds[i'],lO.of (s8 _ _ uG),by rw [aj,ag nY]; rfl⟩
   ·rintro ys H8 ⟨es,qv,_,s8,_⟩;exact⟨_,lO.of (s8 _ _ uG),by rw [ab]; exact af _⟩
   ·rintro i' y ys H8 H9 nY ⟨es,qv,rfl,s8,AR,uq⟩ ⟨rfl,hy⟩;obtain⟨pb,rfl,HK⟩:=zV (hy _ (lO.of (s8 _ _ uG)));obtain⟨cc,mZ,nH⟩:=Paired.get wU HK;have s79:=s7.trans s8;have Dl:=s7.trans s8;refine gY ⟨_,rfl,_,rfl,_,rfl,_,rfl,_,rfl,D,rl,pb,p,T',k,i,cc,su,us,R,rfl,Dl _ _ h6D,hT6.same Dl,Dl _ _ h6r,#[O],nH.same s8,hP.ok cc (aA mZ),hi,k5,yU,hp,#[O],fun l ds' res BL hl s10 E3 Dm G'=>?_⟩;have HL:=Dm.length;have AL:=zie AR;have BB:=hP.ln;have hnl:=G'.ln;have h1i:(sx.take i').length=i':=by rw [aG]; lia
    rw [h1i] at AL;have hbnd:i'*us.length+us.length<=1000000\/us.length=0:=by
     by_cases h0:us.length=0
     ·exact .inr h0
     ·left;have g1:(i'+1)*us.length<=us.length ^ i*us.length:=gF _ #[O];have g2:us.length ^ i*us.length<=us.length ^ k:=by rw [<- j9]; exact fh #[O] hi
      have g3:us.length ^ k<=1000000:=by rw [rm]; exact Dj
      rw [kJ,Nat.one_mul] at g1;lia
    refine⟨l,rfl,⟨_,lO.of E3⟩,zfV (n:=ds'.length) (fun j ys H'=>∃ yV:List Addr,ys=yV.map V.ref/\zr BL H'/\PkB H' p k yV (qv.flatten++res.take j)) ⟨es,rfl,fun _ _ e=>e,by rw [c7,bH]; exact uq.same s10⟩ ?_ ?_ ?_ ?_⟩
    ·rintro j ys yc hj ⟨yV,_,yd,_⟩;exact⟨_,.ref ds'[j],lO.of (yd _ _ E3),by rw [aj,ag hj]; rfl⟩
    ·rintro ys yc ⟨yV,_,yd,_⟩;exact⟨_,lO.of (yd _ _ E3),by rw [ab]; exact af _⟩
    ·rintro j y ys yc H12 hj ⟨yV,rfl,yd,wV⟩ ⟨rfl,hy⟩;obtain⟨eb,rfl,heb⟩:=zV (hy _ (lO.of (yd _ _ E3)));obtain⟨cj,hcj,HM⟩:=Paired.get Dm heb;have AS:=wV.length;rw [ap,aG] at AS;refine gY ⟨_,rfl,by rw [ab]; lia,yV++[eb],by rw [am]; rfl,yd,?_⟩;rw [take_snoc hcj,<- bt];exact cb wV (HM.same yd)
    ·rintro ys yc ⟨yV,rfl,yd,wV⟩;rw [HL,bC] at wV;refine⟨yV,qv++[res],rfl,s8.trans (s10.trans yd),?_,?_⟩
     ·rw [take_snoc mZ];exact cb AR G'
     ·rw [List.flatten_append];simpa using wV
   ·rintro ys H8 ⟨es,qv,rfl,s8,AR,uq⟩ D2 x9;rw [tP,bC] at AR;have v9:=zb (o:=.lst (es.map V.ref)) x9;exact⟨D2,es,qv.flatten,_,rfl,s7.trans (s8.trans v9),zc,uq.same v9,zmD yU hi hRb hP AR⟩
  ·rintro σ H7 ⟨c,ds,sx,e7,rfl,s7,uG,wU,hP⟩;have tP:=wU.length;have m8:=hP.ln;rw [rm] at m8;intro d hd;have w8:=zb (o:=.dT []) hd;have BM:lP H7 d (.dT []) d=some (.dT []):=zc;have h8c:=w8 _ _ uG;have HN:=wU.same w8;generalize lP H7 d (.dT [])=H8 at w8 BM h8c HN |-;have tf:c≠d:=fun e=>by rw [e,hd] at uG; cases uG
   refine⟨_,rfl,c,rfl,⟨_,lO.of h8c⟩,zaQ (K:=K) (a:=c) (xs:=ds.map V.ref) (fun i σ H'=>∃ (kvs:List (List Key×V)) (mM:List #[GE]) (e9 sC wc wd we:Option V),σ = [some #[OZ],some (.int (k:Int)),some #[M8],some (.int T'),some #[M6],some (.ref rl),some #[PY],e7,some (.ref d),e9,sC,wc,wd,we]/\zr H7 H'/\H' d=some #[OM]/\KeysAre kvs mM/\mM.Nodup/\mM.length<=i/\(∀ x,x∈mM↔∃ cc∈sx.take i,x=(pkP p k cc.2).1)/\∀ f∈mM,∃ v,zaU kvs (f.map bI)=some (.int v)/\v<=wsum p f us)
    ⟨[],[],none,none,none,none,none,rfl,w8,BM,rfl,#[M],af _,fun x=>by simp,fun f hf=>by cases hf⟩ (fun i σ H' _ hq=>by obtain⟨_,_,_,_,_,_,_,_,s3,_⟩:=hq; exact lO.of (s3 _ _ uG)) ?_ ?_⟩
   ·rintro zD zT i y σ H9 hy ⟨kvs,mM,e9,sC,wc,wd,we,rfl,s9,HP,uB,oz,vC,nC,vI⟩;obtain⟨pb,rfl,HK⟩:=zV hy;obtain⟨cc,mZ,nH⟩:=Paired.get wU HK;obtain⟨la,lv,g1,g2,g3⟩:=nH.same s9;have hok:=hP.ok cc (aA mZ);obtain⟨hiP,hwle⟩:=zmE hp yU hok;have hmf:kvs.length=mM.length:=by
     have:=congrArg er uB;rw [ab,ab] at this;exact this
    have xv:i < sx.length:=(av.mp mZ).1;refine⟨pb,_,rfl,lY.of g1,rfl,_,_,rfl,_,_,rfl,_,_,rfl,_,_,rfl,rfl,?_⟩;refine⟨_,rfl,la,_,rfl,.inl ⟨lO.of g2,fun kt hkt=>?_⟩⟩;have v10:=zb (o:=.tup ((pkP p k cc.2).1.map V.int)) hkt;have Dp:lP H9 kt (.tup ((pkP p k cc.2).1.map V.int)) kt=some (.tup ((pkP p k cc.2).1.map V.int)):=zc;have ye:=v10 _ _ HP;generalize lP H9 kt (.tup ((pkP p k cc.2).1.map V.int))=BL at v10 Dp ye |-;have Dq:BL kt=some (.tup (((pkP p k cc.2).1.map bI).map kV)):=by rw [Dp,aR]; rfl
    refine⟨_,rfl,_,rfl,d,rfl,.inr ⟨kvs,.inl ye⟩,_,rfl,_,zfn.t ye Dq,?_⟩;obtain⟨g,hg,hgle⟩:∃ g:Int,(zaU kvs ((pkP p k cc.2).1.map bI)).getD (.int 0) = .int g/\g<=wsum p (pkP p k cc.2).1 us:=by
     by_cases qk:(pkP p k cc.2).1∈mM
     ·obtain⟨v,h1,h2⟩:=vI _ qk;exact⟨v,by rw [h1]; rfl,h2⟩
     ·have Dr:zaU kvs ((pkP p k cc.2).1.map bI)=none:=by
       cases e:zaU kvs ((pkP p k cc.2).1.map bI) with
       | none=>rfl
       | some v =>
        exfalso;unfold zaU at e;rw [df] at e;obtain⟨x,hx,_⟩:=e;have h1:=iG hx;have h2':=List.find?_some hx;have h2:x.1=(pkP p k cc.2).1.map bI:=of_decide_eq_true h2';have h3:x.1∈kvs.map (·.1):=dO h1;rw [uB,h2] at h3;obtain⟨y,Ep,Er⟩:=aw.mp h3;exact qk (zgE Er ▸ Ep)
      refine⟨0,by rw [Dr]; rfl,?_⟩;exact zpL fun x hx=>(yU.rg x (bf.mp hx).1).2.2.2.2
    rw [hg];refine⟨_,_,rfl,_,rfl,_,rfl,d,_,rfl,zkx.t ye Dq #[O],?_⟩;obtain⟨tM,m1,m2,m3,m4⟩:=zh2 uB oz (pkP p k cc.2).1 (.int (if g > wts cc.2 then g else wts cc.2));refine⟨_,tM,_,_,_,_,_,rfl,zah (s9.trans v10) hd,zc,m1,m2,#[O],fun x=>?_,fun f hf=>?_⟩
    ·rw [m4 x,nC x,take_snoc mZ];constructor
     ·rintro (⟨c',h1,h2⟩ | e)
      ·exact⟨c',aL _ h1,h2⟩
      ·exact⟨cc,aI _ (aU.mpr rfl),e⟩
     ·rintro⟨c',h1,h2⟩;rcases aP.mp h1 with h1 | h1
      ·exact .inl ⟨c',h1,h2⟩
      ·rw [aU.mp h1] at h2;exact .inr h2
    ·by_cases HQ:f=(pkP p k cc.2).1
     ·subst HQ;refine⟨_,zgY ..,?_⟩;split <;> assumption
     ·rcases (m4 f).mp hf with h1 | h1
      ·obtain⟨v,h2,h3⟩:=vI f h1;exact⟨v,by rw [zi1 (fun e=>HQ (zgE e))]; exact h2,h3⟩
      ·exact absurd h1 HQ
   ·rintro σ H9 ⟨kvs,mM,e9,sC,wc,wd,we,rfl,s9,HP,uB,oz,vC,nC,vI⟩;rw [ab,tP] at vC nC;rw [bC] at nC;refine⟨_,rfl,q d kvs mM H9 ?_ (sA6.trans (s7.trans s9)) (hB6.same (s7.trans s9)) HP uB oz #[O] (fun f hf=>?_) (fun f hf uC vV=>?_) fun f hf=>?_⟩
    ·by_cases e:d=t.tab
     ·rw [e] at hd;obtain⟨ps,mS⟩:=hB6.at_;rw [s7 _ _ mS] at hd;cases hd
     ·have:=(sA6.trans s7).free hd;unfold hide at this;rw [if_neg e] at this;exact this
    ·obtain⟨cc,h1,rfl⟩:=(nC f).mp hf;exact (zmE hp yU (hP.ok cc h1)).1
    ·obtain⟨cc,h1,h2⟩:=zob hp yU hP hf (by rw [zc7 mj]; exact uC) (by rw [(mj.filter _).length_eq]; exact vV);exact (nC f).mpr ⟨cc,h1,h2.symm⟩
    ·obtain⟨v,h1,h2⟩:=vI f hf;exact⟨v,h1,by rw [<- zc7 mj]; exact h2⟩
theorem zpS {p:Int} {ts:List Wt3} (oz:pl.Nodup) (m8:∀ x∈pl,0<=x/\x < p) (h1:(ts.map pt).Nodup) (h2:∀ q∈ts,0<=q.1/\q.1 < pl.length/\0<=q.2.1/\q.2.1 < p/\0<=q.2.2):Wp p #[BT]:=by
 have hg:∀ q∈ts,∃ hn:q.1.toNat < pl.length,pl.getD q.1.toNat 0=pl[q.1.toNat]:=fun q hq=>by
  obtain⟨z0,z1,_⟩:=h2 q hq;have hn:q.1.toNat < pl.length:=by lia
  exact⟨hn,by rw [aZ,ag hn]; rfl⟩
 refine⟨?_,fun q hq=>?_⟩
 ·rw [aR,bw,bZ];rw [bw,bZ] at h1;refine dF (fun {a b} ha hb n e=>n ?_) h1;obtain⟨na,ea⟩:=hg a ha;obtain⟨nb,eb⟩:=hg b hb;have e1:pl.getD a.1.toNat 0=pl.getD b.1.toNat 0:=congrArg Prod.fst e;have e2:a.2.1=b.2.1:=congrArg kW e;rw [ea,eb] at e1;have e3:=(kK oz).mp e1;have:=(h2 a ha).1;have:=(h2 b hb).1;have e4:a.1=b.1:=by lia
  unfold pt;rw [e4,e2]
 ·obtain⟨z,hz,rfl⟩:=aw.mp hq;obtain⟨nz,ez⟩:=hg z hz;obtain⟨_,_,a,b,c⟩:=h2 z hz;have:=m8 _ (cG nz);rw [<- ez] at this;exact⟨this.1,this.2,a,b,c⟩
structure Gss (p:Int) (pl:List Int) (ts:List Wt3):Prop where
 nd:(ts.map pt).Nodup
 rg:∀ q∈ts,0<=q.1/\q.1 < pl.length/\0<=q.2.1/\q.2.1 < p/\0<=q.2.2
noncomputable def zk3 (t:Adr) (K:ah):Sp:=fun vs H Q _=>∃ (c tt g:Addr) (p T low:Int) (k:Nat) (pl:List Int) (bs:List Addr) (ts:List Wt3),vs = [.ref c,.ref g,.int T]/\zaY H c tt p k pl/\H g=some #[At]/\T3 H bs ts/\Gss p pl ts/\p∈zq/\pl.Nodup/\(∀ x∈pl,0<=x/\x < p)/\1<=k/\k<=5/\ts.length<=30/\ts.length ^ k<=1000000/\TbA t H/\zgN ((mxs (#[BT].map kw)).map (·.2)) (k - 1) low/\low < T /\
 ∀ (l:Addr) (rs:List Addr) (qs:List #[GE]) (H':Hp),H l=none->zr #[Ry] H'->TbA t H'->H' l=some (.lst #[Oc])->zbU H' rs qs->qs.length<=1000000->zdC p k qs->(∀ q,q∈qs↔IsP p k q/\T<=wsum p q #[BT])->Q #[Nv] H'
theorem zcr:IJ ["code","guesses","least","p","k","places","points","found"] ["code","guesses","least"] (zi zda):=#[S]
theorem zmU (T:Txt K mg base t) (F:Fun K "heavy" "heavy" zda t.LA fd):Jk P w K mg base CX0 5 t.LA fd ["code","guesses","least"] (zk3 t K):=by
 obtain⟨mJ,lU,lW⟩:=T.IL;have me:=zbn (P:=P) (w:=w) (base:=base) T lU;obtain⟨oI,mH,mI⟩:=T.Ja;have nL:=zcW (P:=P) (w:=w) (base:=base) T mH;obtain⟨pL,nX,mU⟩:=T.IY;have pW:=zdM (P:=P) (w:=w) (base:=base) T nX;obtain⟨pG,mX,mY⟩:=T.Jr;have oE:=zdJ (P:=P) (w:=w) (base:=base) T mX;refine F.ok zcr #[re] #[mt]
 ·obtain⟨c,tt,g,p,T',low,k,pl,bs,ts,rfl,_⟩:=h;rfl
 ·obtain⟨c,tt,g,p,T',low,k,pl,bs,ts,rfl,hc,hg,hT,hG,hp,oz,m8,k1,k5,hn,Dj,wK,vB,mh,q⟩:=h;have hu:(A.deeper (envOfC (bD "heavy") (zi zda) s.heap.objs.size t.LA mE)).units+1 < cLine:=by have:=hr.units; lia
  refine zaW ?_; intro zX;refine⟨_,#[zd,#[zbs,#[AC],#[zaE,#[zh,#[zf,3,zcr.nd,#[Oo]],#[zh,#[zf,4,zcr.nd,#[A]],#[zh,#[zf,5,zcr.nd,#[A]],#[zy]]]]]],#[zd,#[zm,6,zcr.nd,#[Oo],#[OP]],#[zd,#[zbo,#[zH,#[zox],#[Fa],#[zo,nL,#[sn],T.JR,mH.kp,mI,#[zJ],#[za,#[On],#[ya,#[zw,#[zdP],T.L5,iQ,#[za,#[zj,#[zaV],#[M5],#[zg]],#[ya,#[zg]]]]]]],(zY _)],#[zdO],#[zam]],#[zd,#[zm,7,zcr.nd,#[Oo],#[zo,pW,#[sn],T.J8,nX.kp,mU,#[zJ],#[za,#[MX],by exact #[za,#[M5],#[za,#[On],#[Ny]]]]]],#[zl,#[zN,#[zal,(IK.of (N':=["polynomial","found","least","p","points"]) (ix:=[none,some 7,some 2,some 3,some 6]) (zi zda) _ rfl rfl rfl),#[za9],#[z8,#[zw,#[zdB],T.Kx,jk,#[ya,#[RY]]]],#[wf],(fun _ _ _ _=>#[zbH,(@PW.pt _ _ _ #[zou,#[zH,#[zi6],(@zny _ _ _ _ _ _ hu #[AT] #[AC] (fun _ _=>rfl)),#[Fa],(zY _)],#[zla,#[zH,#[zi6],#[zo,oE,#[sn],T.Kh,mX.kp,mY,#[zJ],#[za,#[MX],#[za,#[M5],#[ya,#[AC]]]]],#[Fa],(zY _)]]])]),#[NN]]]]]]]],?_⟩;refine znk ?_; intro yO uD qB pF;have pO:=aW;have rp:=zC hp;have hW:=zpS oz m8 hG.nd hG.rg;refine⟨_,rfl,c,_,rfl,lY.of hc.1,rfl,_,_,rfl,_,_,rfl,_,_,rfl,rfl,?_⟩;refine⟨_,rfl,_,rfl,c,tt,g,p,k,pl,bs,ts,rfl,hc,hg,hT,#[O],(fun z hz=>⟨(hG.rg z hz).1,(hG.rg z hz).2.1⟩),fun l ds H1 hl s1 h1 wR=>?_⟩;refine⟨_,rfl,_,rfl,_,rfl,_,_,rfl,rfl,_,_,rfl,l,k - 1,ds,_,?_,h1,wR,by rw [ab]; lia,(fun z hz=>(hW.rg z hz).2.2.2.2),fun v H2 hv s2=>?_⟩
  ·have e:(if (0:Int) > (k:Int) - 1 then (0:Int) else (k:Int) - 1)=((k - 1:Nat):Int):=by split <;> lia
   rw [e]; rfl
  have ev:v=low:=hv.one vB (.refl _);subst ev;refine⟨_,_,rfl,rfl,_,rfl,?_⟩;refine zaO #[MU] #[wP];have wg:=s1.trans s2;have rR:=wK.same wg;obtain⟨ps2,Gy⟩:=rR.at_;have E4:=s2 _ _ h1;have o7:=wR.same s2;refine⟨_,rfl,_,rfl,_,rfl,_,rfl,l,p,T',k,ds,_,rfl,E4,o7,hW,hp,k1,k5,by rw [ab]; lia,by rw [ab]; exact Dj,rR,fun d kvs mM H3 hd s3 yM h3d uB HR vC hP ng vI=>?_⟩;have hlT:l≠t.tab:=fun e=>by rw [e,Gy] at E4; cases E4
  have yQ:=s3 _ _ (zag E4 hlT);have x8:=(o7.hid Gy).same s3;refine⟨_,rfl,d,k,p,kvs,mM,rfl,h3d,uB,hP,k1,#[O],fun l2 pC oT nE Ds HS=>?_⟩;have v4:=zb (o:=.lst (pC.map fun q=>V.ref q.1)) oT;have yR:lP H3 l2 (.lst (pC.map fun q=>V.ref q.1)) l2=some (.lst ((pC.map (·.1)).map V.ref)):=by rw [zc,aR]; rfl
  have lT:=nE.length_eq;rw [ab] at lT;have Dt:zbU (lP H3 l2 (.lst (pC.map fun q=>V.ref q.1))) (pC.map (·.1)) (pC.map (·.2)):=zbU.of fun z hz=>v4 _ _ (HS z hz)
  have h4d:=v4 _ _ h3d;have h4p:=v4 _ _ yQ;have hT4:=x8.same v4;have HU:=yM.same v4;have s4:=s3.trans v4;have HV:zdC p k (pC.map (·.2)):=zjD #[O] (fun z hz=>hP z (nE.mem_iff.mp hz)) (nE.nodup_iff.mpr HR) (bZ.mpr Ds);generalize lP H3 l2 (.lst (pC.map fun q=>V.ref q.1))=H4 at v4 yR Dt h4d h4p hT4 HU s4 |-;have wW:∀ z,z∈pC.map (·.2)↔z∈mM:=fun z=>nE.mem_iff
  obtain⟨rs,AR⟩:∃ rs,pC.map (·.1)=rs:=⟨_,rfl⟩;obtain⟨qs,E1⟩:∃ qs,pC.map (·.2)=qs:=⟨_,rfl⟩;rw [AR] at yR Dt;rw [E1] at Dt HV wW;have oX:=Dt.length;have hql:qs.length=mM.length:=by rw [<- E1,ab]; exact lT
  refine⟨l2,rfl,⟨_,lO.of yR⟩,z9 (n:=rs.length) (fun i ys H'=>zr H4 H'/\∃ us:List Addr,ys=us.map V.ref/\us.length<=i/\zbU H' us ((qs.take i).filter fun x=>decide #[Nt])) ⟨fun _ _ e=>e,[],rfl,af _,.nil⟩ ?_ ?_ ?_ ?_⟩
  ·rintro i ys H5 hi ⟨s5,_⟩;exact⟨_,.ref rs[i],lO.of (s5 _ _ yR),by rw [aj,ag hi]; rfl⟩
  ·rintro ys H5 ⟨s5,_⟩;exact⟨_,lO.of (s5 _ _ yR),by rw [ab]; exact af _⟩
  ·rintro zS zT zE i y ys H5 H6 hi ⟨s5,us,rfl,rm,mj⟩ ⟨rfl,hy⟩;obtain⟨rb,rfl,AU⟩:=zV (hy _ (lO.of (s5 _ _ yR)));obtain⟨qq,yW,nH⟩:=Paired.get Dt AU;obtain⟨v',hv1,hv2⟩:=vI qq ((wW qq).mp (aA yW));have hdg:zfn H6 d (.ref rb) (some (.int v')):=by
    have:=zfn.t (k:=qq.map bI) (b:=rb) (s5 _ _ h4d) (by rw [s5 _ _ nH,aR]; rfl);rw [hv1] at this;exact this
   have xp:(qs.take (i+1)).filter #[Re]=(qs.take i).filter #[Re]++[qq].filter #[Re]:=by rw [take_snoc yW,bW]
   have yes:∀ H',zr H6 H'->T'<=wsum p qq #[BT]->#[IR].length < sizeLine/\zr H4 H'/\∃ AV:List Addr,us.map V.ref++[V.ref rb]=AV.map V.ref/\AV.length<=i+1/\zbU H' AV ((qs.take (i+1)).filter fun x=>decide #[Nt]):=fun H' s' h=>by
    refine⟨by rw [ab]; lia,s5.trans s',us++[rb],by rw [am]; rfl,by rw [ap]; exact eA rm,?_⟩;rw [xp,bb (p:=fun x=>decide #[Nt]) #[RI]];exact cb (mj.same s') ((s5.trans s') _ _ nH)
   refine⟨_,rfl,_,rfl,d,_,rfl,hdg,_,rfl,_,_,rfl,rfl,_,rfl,?_⟩;refine zaO (fun h=>?_) (fun h=>?_)
   ·exact⟨_,rfl,yes H6 #[Ot] (bQ (of_decide_eq_true h) hv2)⟩
   refine⟨_,rfl,_,rfl,_,rfl,l,rb,p,qq,ds,_,rfl,s5 _ _ h4p,hT4.same s5,s5 _ _ nH,by rw [ab]; lia,#[O],#[O],(fun z hz=>⟨(hW.rg z hz).1,(hW.rg z hz).2.1⟩),fun H7 s7=>?_⟩;refine#[Nk];refine zaO (fun h=>⟨_,rfl,yes H7 s7 (of_decide_eq_true h)⟩) (fun h=>⟨s5.trans s7,us,rfl,#[O],?_⟩);rw [xp,bd (p:=fun x=>decide #[Nt]) (fun z=>h (decide_eq_true (of_decide_eq_true z))),fE,bH];exact mj.same s7
  ·rintro ys H5 D ⟨s5,us,rfl,rm,mj⟩ hD;rw [oX,bC] at mj;have v6:=zb (o:=.lst #[IR]) hD;have sA:=s4.trans (s5.trans v6);refine q D us _ _ ?_ (fun b o e=>?_) (HU.same (s5.trans v6)) zc (mj.same v6) (aV (b9 _ _) #[O]) (HV.filter _) fun x=>?_
   ·by_cases e:D=t.tab
    ·obtain⟨ps,mS⟩:=HU.at_;rw [e,s5 _ _ mS] at hD;cases hD
    ·have:=(s4.trans s5).free hD;unfold hide at this;rw [if_neg e] at this;exact wg.free this
   ·refine sA b o ?_;unfold hide at e |-;by_cases hb:b=t.tab
    ·rw [if_pos hb] at e; cases e
    ·rw [if_neg hb] at e |-; exact wg _ _ e
   ·rw [bf,decide_eq_true_iff,wW x];constructor
    ·rintro⟨h1,h2⟩;exact⟨hP x h1,h2⟩
    ·rintro⟨h1,h2⟩;refine⟨ng x h1 h2 ?_,h2⟩;by_cases hk:k<=(#[BT].filter (za3 p x)).length
     ·exact hk
     ·have:=zic (f:=x) hW vB #[O];lia
theorem zcG:IJ ["things","many","chosen","step"] ["things","many"] (zi zbX):=#[S]
theorem zi2 (T:Txt K mg base t) (F:Fun K "choices" "choices" zbX t.KJ fd):Jk P w K mg base CX0 1 t.KJ fd ["things","many"] (ziO K):=by
 refine F.ok zcG #[re] #[mt]
 ·obtain⟨a,m,xs,rfl,_⟩:=h;rfl
 ·obtain⟨a,m,xs,rfl,hS,hx,hm,q⟩:=h;refine zaW ?_; intro zX;refine⟨_,#[zd,#[zm,2,zcG.nd,#[A],#[zac,#[ya,#[zaS,#[za,#[zg],#[ya,#[NT]]]]]]],#[zd,#[zaF,bp,#[zai,T.IS,#[Oy]],#[zf,3,zcG.nd,#[A]],#[zl,#[zeT,2,zcG.nd,#[A],(IK.of (N':=["start","picked","at","things"]) (ix:=[none,none,none,some 0]) (zi zbX) _ rfl rfl rfl),(zlq (js:=[0,1]) (zeC (js:=[0,1]) (i:=0) #[D] (zeC (js:=[0,1]) (i:=1) #[D] (zja (js:=[0,1]))))),(zcZ (js:=[2]) (i:=2) #[D]),#[z8,#[Fa]],#[or],#[ul],(fun _ _ _ _=>#[zfA,T.IS,#[za,#[AC],#[ya,#[zw,#[zbd,(K)],T.Ki,cp,#[ya,#[MX]]]]]]),(fun _ _ _ _=>#[zf,2,#[Y],#[A]]),#[ul],(fun _ _ _ _=>#[zaS,#[za,#[zj,#[zL],#[Fa],#[zg]],#[ya,#[zj,#[zcx],#[AT],#[zac,#[ya,#[zR,#[Su],#[MX],#[Fa]]]]]]]]),(by intros; rfl)]]],#[zl,#[zN,#[zal,(IK.of (N':=["start","picked"]) (ix:=[none,none]) (zi zbX) _ rfl rfl rfl),#[wE],#[z8,#[Fa]],#[or],#[ul],#[RH]]]]]],?_⟩;refine zgc ?_; intro qB pF;have pO:=aW;refine⟨bg _,fun L0 hL0=>⟨by show 2<=sizeLine; lia,fun T0 hT0=>⟨by show 1<=sizeLine; lia,fun c hc=>?_⟩⟩⟩;have u0:=zb (o:=.lst []) hL0;have u1:=zb (o:=.tup [.int 0,.ref L0]) hT0;have u2:=zb (o:=.lst [.ref T0]) hc;have Du:zeU (lP (lP (lP H L0 (.lst [])) T0 (.tup [.int 0,.ref L0])) c (.lst [.ref T0])) [T0] (chs xs 0):=.cons ⟨L0,u2 _ _ zc,(u1.trans u2) _ _ zc⟩ .nil;have AE:lP (lP (lP H L0 (.lst [])) T0 (.tup [.int 0,.ref L0])) c (.lst [.ref T0]) c=some (.lst ([T0].map V.ref)):=zc;have s0:=(u0.trans u1).trans u2;generalize lP (lP (lP H L0 (.lst [])) T0 (.tup [.int 0,.ref L0])) c (.lst [.ref T0])=H0 at Du AE s0 |-;refine#[Oi];rw [bh];refine zbk (lo:=0) (n:=m) (fun i σ H'=>∃ (c:Addr) (ts:List Addr) (e3:Option V),σ = [some #[M8],some (.int m),some #[PY],e3]/\zr H H'/\H' c=some (.lst (ts.map V.ref))/\zeU H' ts (chs xs i)) ⟨c,[T0],none,rfl,s0,AE,Du⟩ ?_ ?_
  ·rintro zD zT i σ H1 hi ⟨c,ts,e3,rfl,s1,sy,ud⟩;have oY:=ud.length;have Ck:=zc4 (xs:=xs) (i+1) hx;have AL:((chs xs i).flatMap (nxt xs)).length<=65536:=Ck;refine⟨_,rfl,c,rfl,⟨_,lO.of sy⟩,zfV (n:=ts.length) (fun i' ys H'=>∃ us:List Addr,ys=us.map V.ref/\zr H1 H'/\zeU H' us (((chs xs i).take i').flatMap (nxt xs))) ⟨[],rfl,fun _ _ e=>e,.nil⟩ ?_ ?_ ?_ ?_⟩
   ·rintro i' ys H2 nY ⟨us,_,s2,_⟩;exact⟨_,.ref ts[i'],lO.of (s2 _ _ sy),by rw [aj,ag nY]; rfl⟩
   ·rintro ys H2 ⟨us,_,s2,_⟩;exact⟨_,lO.of (s2 _ _ sy),by rw [ab]; exact af _⟩
   ·rintro i' y ys H2 H3 nY ⟨us,rfl,s2,mj⟩ ⟨rfl,hy⟩;obtain⟨tt,rfl,BC⟩:=zV (hy _ (lO.of (s2 _ _ sy)));obtain⟨cc,mZ,nH⟩:=Paired.get ud BC;obtain⟨L,xm,Ap⟩:=nH.same s2;have hle:=zpC (aA mZ);have m8:=zhT (aA mZ);obtain⟨st,pk⟩:=cc;dsimp only at xm Ap hle m8;refine gY2 (lY.of xm) ?_;refine⟨_,rfl,_,rfl,a,xs,rfl,.inl ((s1.trans s2).seq hS),_,_,rfl,⟨#[O],#[O],#[O],#[O]⟩,?_⟩;have en:((xs.length:Int) - (st:Int)).toNat=xs.length - st:=by lia
    rw [en];refine zfV (n:=xs.length - st) (fun j ys H'=>∃ us:List Addr,ys=us.map V.ref/\zr H3 H'/\zeU H' us (((chs xs i).take i').flatMap (nxt xs)++(nxt xs (st,pk)).take j)) ⟨us,rfl,fun _ _ e=>e,by rw [c7,bH]; exact mj⟩ (fun j ys H' hj _=>hj) #[KF] ?_ ?_
    ·rintro j z ys H4 H5 hj ⟨us,rfl,s4,mj⟩ ⟨rfl,rfl⟩;obtain⟨x,tj⟩:∃ x,xs[st+j]? = some x:=⟨xs[st+j]'#[O],#[M]⟩;have nH:atI xs ((st:Int)+(j:Int))=some x:=by
      have e:((st+j:Nat):Int)=(st:Int)+j:=by lia
      rw [<- e];exact zaH tj
     have hng:=znL (c:=(st,pk)) tj;have rm:=mj.length;have hpart:=zkK (f:=nxt xs) mZ (show j < (nxt xs (st,pk)).length by rw [zgA]; exact hj);have hnl:=zgA xs (st,pk);refine gY ?_;refine⟨_,rfl,_,_,rfl,rfl,_,rfl,_,rfl,_,rfl,a,xs,_,x,rfl,rfl,((s1.trans s2).trans s4).seq hS,nH,by show 1<=sizeLine; lia,fun b hb=>?_⟩;have v1:=zb (o:=.lst [x]) hb;refine⟨L,b,pk,[x],rfl,rfl,(s4.trans v1) _ _ Ap,zc,by show pk.length+1<=sizeLine; lia,fun L2 Dv=>⟨by show 2<=sizeLine; lia,fun T2 o7=>⟨?_,us++[T2],by rw [am]; rfl,?_,?_⟩⟩⟩
     ·rw [ab,rm,ap,aG];lia
     ·exact s4.trans (v1.trans ((zb Dv).trans (zb o7)))
     ·rw [take_snoc hng,<- bt];refine cb (mj.same (v1.trans ((zb Dv).trans (zb o7)))) ⟨L2,?_,(zb o7) _ _ zc⟩;rw [zc];show some (HO.tup [.int ((st:Int)+(j:Int)+1),.ref L2])=some (HO.tup [.int ((st+j+1:Nat):Int),.ref L2]);have e:((st+j+1:Nat):Int)=(st:Int)+j+1:=by lia
      rw [e]
    ·rintro ys H4 ⟨us,rfl,s4,mj⟩;rw [aH (l:=nxt xs (st,pk)) (by rw [zgA]; exact af _)] at mj;exact⟨us,rfl,s2.trans s4,by rw [zkL mZ]; exact mj⟩
   ·rintro ys H2 ⟨us,rfl,s2,mj⟩ D hD;rw [oY,aH (af _)] at mj;exact⟨D,us,_,rfl,s1.trans (s2.trans (zb hD)),zc,mj.same (zb hD)⟩
  ·rintro σ H1 ⟨c,ts,e3,rfl,s1,sy,ud⟩;have oY:=ud.length;have Ck:=zc4 (xs:=xs) m hx;refine⟨_,rfl,c,rfl,⟨_,lO.of sy⟩,z9 (n:=ts.length) (fun i ys H'=>H'=H1/\∃ us:List Addr,ys=us.map V.ref/\zhU H1 us ((#[O0].map (·.2)).take i)) ⟨rfl,[],rfl,.nil⟩ ?_ ?_ ?_ ?_⟩
   ·rintro i ys H2 hi ⟨rfl,_⟩;exact⟨_,.ref ts[i],lO.of sy,by rw [aj,ag hi]; rfl⟩
   ·rintro ys H2 ⟨rfl,_⟩;exact⟨_,lO.of sy,by rw [ab]; exact af _⟩
   ·rintro zS zT zE i y ys H2 H3 hi ⟨rfl,us,rfl,mj⟩ ⟨rfl,hy⟩;obtain⟨tt,rfl,BC⟩:=zV (hy _ (lO.of sy));obtain⟨cc,mZ,L,xm,Ap⟩:=Paired.get ud BC;have rm:=mj.length;refine gY2 (lY.of xm) ⟨_,rfl,?_,rfl,us++[L],by rw [am]; rfl,?_⟩
    ·rw [ab,rm,aG,ab];lia
    ·have HW:(#[O0].map (·.2))[i]? = some cc.2:=by rw [aj,mZ]; rfl
     rw [take_snoc HW];exact cb mj Ap
   ·rintro ys H2 D ⟨rfl,us,rfl,mj⟩ hD;rw [aH (by rw [ab,oY]; exact af _)] at mj;exact q D us _ (s1.free hD) (s1.trans (zb hD)) zc #[Qi]
theorem zet:IJ ["code","row","polynomial","p","k","places"] ["code","row","polynomial"] (zi ze2):=#[S]
theorem zjU (T:Txt K mg base t) (F:Fun K "fits" "fits" ze2 t.fits fd):Jk P w K mg base CX0 2 t.fits fd ["code","row","polynomial"] (znw K):=by
 obtain⟨nF,lZ,mf⟩:=T.Jc;have ml:=zb7 (P:=P) (w:=w) (base:=base) T lZ;refine F.ok zet #[re] #[mt]
 ·obtain⟨c,tt,ra,po,p,k,pl,mR,rw,rfl,_⟩:=h;rfl
 ·obtain⟨c,tt,ra,po,p,k,pl,mR,rw,rfl,hc,wM,oX,CV,p0,p1,m8,hn,q⟩:=h;refine zaW ?_; intro zX;refine⟨_,#[zd,#[zbs,#[AC],#[zaE,#[zh,#[zf,3,zet.nd,#[Oo]],#[zh,#[zf,4,zet.nd,#[A]],#[zh,#[zf,5,zet.nd,#[A]],#[zy]]]]]],#[zl,#[zN,#[zal,(IK.of (N':=["at","place","entry","p","polynomial"]) (ix:=[none,none,none,some 3,some 2]) (zi ze2) _ rfl rfl rfl),#[zaT,#[zt,(@zkk _ _ _ #[wE] #[zaA] ziM)]],(@ziL _ _ _ _ _ _ _ _ _ _ _ rfl T.Jo rfl T.LU #[za,#[Pc],#[Oy]] (by rfl) (by rfl) (by rfl)),(fun _ _ _ _=>#[zat,(K),2,#[zh,#[zf,0,#[Y],#[A]],#[zh,#[zat,(K),2,#[zh,#[zf,1,#[Y],#[A]],#[zh,#[zf,2,#[Y],#[A]],#[zy]]]],#[zy]]]]),(fun _ _ _ _=>#[zbH,#[zH,#[zex],#[Fa],#[zo,ml,#[sn],T.Jn,lZ.kp,mf,#[zJ],#[za,#[MX],#[za,#[M5],#[Oy]]]],(zY _)]]),#[NN]]]]],?_⟩;refine zln ?_; intro pF;refine⟨_,rfl,c,_,rfl,lY.of hc.1,rfl,_,_,rfl,_,_,rfl,_,_,rfl,rfl,?_⟩;refine⟨_,rfl,_,rfl,tt,ra,_,_,rfl,lY.of hc.2,lO.of wM,z9 (n:=pl.length) (fun i ys H'=>ys=(zb0 p pl rw mR i).map V.int/\zr H H') ⟨rfl,fun _ _ e=>e⟩ ?_ ?_ ?_ ?_⟩
  ·rintro i ys H3 hi ⟨_,s3⟩;obtain⟨o,ho⟩:∃ o,rw[i]? = some o:=⟨rw[i]'#[O],#[M]⟩;exact⟨_,_,.int pl[i],pB o,lY.of (s3 _ _ hc.2),lO.of (s3 _ _ wM),by rw [aj,ag hi]; rfl,by rw [aj,ho]; rfl⟩
  ·rintro ys H3 ⟨_,s3⟩;exact⟨_,_,lY.of (s3 _ _ hc.2),lO.of (s3 _ _ wM),by rw [ab]⟩
  ·rintro zS zT zE i xx ys H3 H4 hi ⟨rfl,s3⟩ ⟨T1,T2,u,v,wR,o7,m5,rfl,rfl,hu,hv⟩;obtain⟨x,rfl,hx⟩:=zaL (hu _ (lY.of (s3 _ _ hc.2)));obtain⟨o,rfl,ho⟩:=zei (hv _ (lO.of (s3 _ _ wM)));obtain⟨x0,x1⟩:=m8 x (aA hx);have s4:zr H3 (lP (lP H3 T1 (.tup [.int x,pB o])) T2 (.tup [.int i,.ref T1])):=zah (zb wR) o7;refine⟨T2,_,rfl,lY.of zc,rfl,_,_,rfl,_,_,rfl,T1,_,rfl,lY.of (by rw [zn m5]; exact zc),rfl,_,_,rfl,_,_,rfl,rfl,rfl,?_⟩;refine⟨_,rfl,_,rfl,_,rfl,_,rfl,p,x,po,mR,rfl,.inr (lY.of ((s3.trans s4) _ _ CV)),p0,p1,x0,x1,zlH o _,_,rfl,?_⟩;rw [zfR,zlI hx ho,am];have lT:=zhB p pl rw mR i;refine zaO (fun h1=>⟨_,rfl,zay (by rw [ab]; lia),?_,s3.trans s4⟩) (fun h1=>⟨?_,s3.trans s4⟩)
   ·rw [if_pos h1];rfl
   ·rw [if_neg h1];simp
  ·rintro ys H3 D ⟨rfl,s3⟩ hD;exact q D _ (s3.free hD) #[P0] zc
theorem zoN {p:Int} (hP:Pts p lR):lR.map (md p)=lR:=by
 refine (bY fun q hq=>?_).trans (g8 _);obtain⟨_,_,h1,h2⟩:=hP.rg q hq;show (q.1,q.2 % p)=q;rw [cJ h1 h2]
theorem zaJ:IJ ["code","points","p","k","places","found","picked"] ["code","points"] (zi zbh):=#[S]
theorem zfc (T:Txt K mg base t) (F:Fun K "all_through" "all_through" zbh t.Jf fd):Jk P w K mg base CX0 4 t.Jf fd ["code","points"] (zeY K):=by
 obtain⟨uM,rV,pX⟩:=T.Km;have vJ:=zi2 (P:=P) (w:=w) (base:=base) T rV;obtain⟨uN,rW,pY⟩:=T.Kk;have vK:=ziY (P:=P) (w:=w) (base:=base) T rW;refine F.ok zaJ #[re] #[mt]
 ·obtain⟨c,tt,a,p,k,pl,bs,lR,rfl,_⟩:=h;rfl
 ·obtain⟨c,tt,a,p,k,pl,bs,lR,rfl,hc,hS,hB,hn,hp,hP,k0,k1,q⟩:=h;have hu:(A.deeper (envOfC (bD "all_through") (zi zbh) s.heap.objs.size t.Jf mE)).units+1 < cLine:=by have:=hr.units; lia
  refine zaW ?_; intro zX;refine⟨_,#[zd,#[zbs,#[AC],#[zaE,#[zh,#[zf,2,zaJ.nd,#[A]],#[zh,#[zf,3,zaJ.nd,#[A]],#[zh,#[zf,4,zaJ.nd,#[A]],#[zy]]]]]],#[zd,#[zm,5,zaJ.nd,#[A],#[zhI]],#[zd,#[zaF,bp,#[z8,#[zo,vJ,#[sn],T.Ly,rV.kp,pX,#[zJ],#[Pz]]],#[zf,6,zaJ.nd,#[A]],#[zl,#[zgu,hu,#[Pc],#[zo,vK,#[sn],T.Lr,rW.kp,pY,#[zJ],#[za,#[Fa],#[Sf]]],#[zfx]]]],#[zl,#[zN,#[zw,#[zdB],T.Kx,jk,#[Se]]]]]]],?_⟩;refine ziC ?_; intro uD qB pF;have pO:=aW;have rp:=zC hp;obtain⟨zs,rfl,rfl,hz⟩:=hB.zs;rw [ab] at hn;refine⟨_,rfl,c,_,rfl,lY.of hc.1,rfl,_,_,rfl,_,_,rfl,_,_,rfl,rfl,fun D hD=>?_⟩;have s0:=zb (o:=.dT []) hD;have BH:lP H D (.dT []) D=some (.dT []):=zc;generalize lP H D (.dT [])=H0 at s0 BH |-;refine⟨_,rfl,_,rfl,a,k,_,rfl,s0.seq hS,by rw [ab,ab]; lia,#[O],fun l ls H1 hl s1 uF wU=>?_⟩;have hlD:l≠D:=fun e=>by rw [e,BH] at hl; cases hl
  rw [aR,zfX (V.ref ∘ fun z:Addr×Int×Int=>z.1) zs k] at wU;have m8:=wU.length;rw [ab,ab] at m8;have Ck:=zc4 (xs:=zs) k hn;obtain⟨BN,yf⟩:∃ BN,(chs zs k).map (·.2)=BN:=⟨_,rfl⟩;rw [yf] at wU;have Di:ls.length=BN.length:=by rw [m8,<- yf,ab]
  have Dw:H1 D=some (.dT []):=s1 _ _ BH;have hid:=zcm H1 D;refine⟨l,rfl,⟨_,lO.of uF⟩,zaQ (K:=K) (a:=l) (xs:=ls.map V.ref) (fun i σ H'=>∃ (kvs:List (List Key×V)) (mM:List #[GE]) (e6:Option V),σ = [some #[PY],some #[M8],some #[OZ],some (.int k),some #[QU],some #[M6],e6] /\
   zr (hide H1 D) H'/\H' D=some #[OM]/\KeysAre kvs mM/\mM.Nodup/\mM.length<=i/\∀ x,x∈mM↔∃ zk∈BN.take i,x=thr p (zk.map (·.2)))
   ⟨[],[],none,rfl,hid,Dw,rfl,#[M],af _,fun x=>by simp⟩ (fun i σ H' _ ⟨_,_,_,_,s3,_⟩=>lO.of (s3 _ _ (zag uF hlD))) ?_ ?_⟩
  ·rintro zD zT i y σ H2 hy ⟨kvs,mM,e6,rfl,s2,HX,uB,oz,vC,nC⟩;obtain⟨b,rfl,vG⟩:=zV hy;obtain⟨hi,_⟩:=av.mp vG;obtain⟨vk,Dx,rQ⟩:=Paired.get wU vG;obtain⟨zk,E5,rfl⟩:∃ zk,BN[i]? = some zk/\vk=zk.map (V.ref ∘ fun z:Addr×Int×Int=>z.1):=by
    rw [aj] at Dx;cases e:BN[i]? with
    | none=>rw [e] at Dx; cases Dx
    | some zk=>rw [e] at Dx; exact⟨zk,rfl,(aS Dx).symm⟩
   have hbD:b≠D:=fun e=>by rw [e,Dw] at rQ; cases rQ
   obtain⟨xO,lT⟩:=zgB.mp (by rw [yf]; exact aA E5:zk∈(chs zs k).map (·.2));have E6:Pts p (zk.map (·.2)):=hP.sub (xO.map _);have HY:zoF K H2 b (zk.map (·.2)):=by
    refine⟨zk.map (·.1),?_,by rw [ab,ab],fun j b' q' h1 h2=>?_⟩
    ·have:=s2 _ _ (zag rQ hbD);rw [aR];exact lO.of this
    ·rw [aj] at h1 h2;cases e:zk[j]? with
     | none=>rw [e] at h1; cases h1
     | some z =>
      rw [e] at h1 h2;cases h1;cases h2;have qA:=hz z (xO.subset (aA e));have hzD:z.1≠D:=zu qA hD;exact s2 _ _ (zag ((s0.trans s1) _ _ qA) hzD)
   have hmf:kvs.length=mM.length:=by
    have:=congrArg er uB;rw [ab,ab] at this;exact this
   refine⟨_,rfl,_,rfl,_,rfl,p,b,_,rfl,HY,by rw [ab]; lia,hp,(by rw [zoN E6]; exact E6),(fun q hq=>by have:=E6.rg q hq; lia),fun tl H3 pR s3 h3=>?_⟩;rw [zoN E6] at h3;have xB:=s3 _ _ HX;refine⟨D,_,rfl,zkx.t (k:=(thr p (zk.map (·.2))).map bI) xB (by rw [h3,aR]; rfl) #[O],?_⟩;obtain⟨tM,m1,m2,m3,m4⟩:=zh2 uB oz (thr p (zk.map (·.2))) (.bl true);refine⟨_,tM,_,rfl,?_,zc,m1,m2,#[O],fun x=>?_⟩
   ·refine zah #[Sh] ?_;unfold hide;rw [if_pos rfl]
   ·rw [m4 x,nC x,take_snoc E5];constructor
    ·rintro (⟨HZ,h1,h2⟩ | e)
     ·exact⟨HZ,aL _ h1,h2⟩
     ·exact⟨zk,aI _ (aU.mpr rfl),e⟩
    ·rintro⟨HZ,h1,h2⟩;rcases (aP.mp h1) with h1 | h1
     ·exact .inl ⟨HZ,h1,h2⟩
     ·rw [aU.mp h1] at h2;exact .inr h2
  ·rintro σ H2 ⟨kvs,mM,e6,rfl,s2,HX,uB,oz,vC,nC⟩;rw [ab,Di] at nC vC;rw [bC] at nC;rw [<- Di,m8] at vC;have ng:∀ x,x∈mM↔∃ pk∈(chs (zs.map (·.2)) k).map (·.2),x=thr p pk:=fun x=>by
    rw [nC x,zfX,yf];constructor
    ·rintro⟨zk,h1,h2⟩;exact⟨_,dO h1,h2⟩
    ·rintro⟨pk,h1,h2⟩;obtain⟨zk,h3,rfl⟩:=aw.mp h1;exact⟨zk,h3,h2⟩
   have Dy:∀ x∈mM,IsP p k x:=fun x hx=>by
    obtain⟨pk,h1,rfl⟩:=(ng x).mp hx;exact zjA hp hP h1
   refine⟨_,rfl,D,k,p,kvs,mM,rfl,HX,uB,fun ms hm=>Dy ms hm,k0,#[O],fun r pC wQ nE Dz hH=>?_⟩;have hHs:zr H H2:=fun x u e=>s2 _ _ (zag ((s0.trans s1) _ _ e) (zu e hD))
   have e1:pC.map (fun q=>V.ref q.1)=(pC.map (·.1)).map V.ref:=by rw [aR]; rfl
   rw [e1];refine q r (pC.map (·.1)) (pC.map (·.2)) _ (hHs.free wQ) (hHs.trans (zb wQ)) zc ((zbU.of hH).same (zb wQ)) (by rw [nE.length_eq]; lia) (zjD #[O] (fun x hx=>Dy x (nE.mem_iff.mp hx)) (nE.nodup_iff.mpr oz) ?_) fun x=>?_
   ·rw [bZ];exact Dz
   ·rw [nE.mem_iff];exact ng x
noncomputable def zgZ (K:ah):Sp:=fun vs H Q _=>∃ (c tt r:Addr) (p:Int) (k:Nat) (T:Int) (pl:List Int) (rw:List #[ww]),vs = [.ref c,.ref r,.int T]/\zaY H c tt p k pl/\H r=some #[N9]/\rw.length=pl.length/\pl.length<=16/\p∈zq/\pl.Nodup/\(∀ x∈pl,0<=x/\x < p)/\(∀ z,some z∈rw->0<=z/\z < p)/\1<=k/\k<=100/\(k:Int)<=T /\
 ∀ (l:Addr) (rs:List Addr) (qs:List #[GE]) (H':Hp),H l=none->zr H H'->H' l=some (.lst #[Oc])->zbU H' rs qs->zdC p k qs->(∀ q,q∈qs↔IsP p k q/\T<=(hits p q #[MY]:Int))->Q #[Nv] H'
theorem zb9:IJ ["code","row","t","k","points","first"] ["code","row","t"] (zi zb1):=#[S]
theorem zin (T:Txt K mg base t) (F:Fun K "all_near" "all_near" zb1 t.Kc fd):Jk P w K mg base CX0 5 t.Kc fd ["code","row","t"] (zgZ K):=by
 obtain⟨ou,mv,mB⟩:=T.IV;have nk:=zcJ (P:=P) (w:=w) (base:=base) T mv;obtain⟨vc,pZ,p8⟩:=T.Ld;have sI:=zjU (P:=P) (w:=w) (base:=base) T pZ;obtain⟨qQ,o9,nM⟩:=T.Jt;have rG:=zfc (P:=P) (w:=w) (base:=base) T o9;refine F.ok zb9 #[re] #[mt]
 ·obtain⟨c,tt,r,p,k,T',pl,rw,rfl,_⟩:=h;rfl
 ·obtain⟨c,tt,r,p,k,T',pl,rw,rfl,hc,wM,oX,hn,hp,oz,m8,va,k0,k1,h1,q⟩:=h;refine zaW ?_; intro zX;refine⟨_,#[zd,#[zm,3,zb9.nd,#[A],#[zR,#[zcv],#[AC],#[zg]]],#[zd,#[zbo,#[zH,#[zey],#[Fa],#[MX],(zY _)],#[zdO],#[zam]],#[zd,#[zm,4,zb9.nd,#[A],#[zo,nk,#[sn],T.JG,mv.kp,mB,#[zJ],#[Nc]]],#[zd,#[zbo,#[zH,#[zhh],#[Fa],#[Rj],(zY _)],#[zl,#[zN,#[NT]]],#[zam]],#[zd,#[zm,5,zb9.nd,#[A],#[zbc,zbT,#[M5],#[zbS],#[zbt,#[zj,#[zL],#[zj,#[zaV],#[Rj],#[Fa]],#[MX]]]]],#[zl,#[zN,#[zal,(IK.of (N':=["polynomial","code","row","t"]) (ix:=[none,some 0,some 1,some 2]) (zi zb1) _ rfl rfl rfl),#[za9],#[z8,#[zo,rG,#[sn],T.KD,o9.kp,nM,#[zJ],#[za,#[AC],#[Se]]]],#[wf],(fun _ _ _ _=>#[zbH,#[zH,#[zi6],#[zw,#[zbd,(K)],T.Ki,cp,#[ya,#[zo,sI,#[sn],T.Lx,pZ.kp,p8,#[zJ],#[za,#[AT],#[za,#[Fa],#[ya,#[AC]]]]]]],#[MX],(zY _)]]),#[NN]]]]]]]]],?_⟩;refine zqP ?_; intro EC yO uD qB pF;have pO:=aW;have rp:=zC hp;have hR:LZ K H r pl.length rw:=⟨lO.of wM,oX⟩;have hP:=zep oz m8 va;have hhl:=zb4 pl rw;refine⟨_,rfl,c,_,_,_,rfl,rfl,lY.of hc.1,rfl,?_⟩;refine⟨_,rfl,_,rfl,_,_,rfl,rfl,_,rfl,?_⟩
  ·refine zaO #[MU] #[wP];refine⟨_,rfl,_,rfl,c,tt,r,p,k,pl,rw,rfl,hc,hR,#[O],fun l bs H1 pN s1 uF hB=>?_⟩;have tQ:bs.length=#[MY].length:=hB.length;refine⟨_,rfl,_,rfl,l,_,rfl,.inl (lO.of uF),_,_,rfl,rfl,_,rfl,?_⟩;rw [ab];refine zaO (fun mh=>?_) (fun pf=>?_)
   ·have mh:=of_decide_eq_true mh;refine⟨bg _,fun z hz=>q z [] [] _ (s1.free hz) (s1.trans (zb hz)) zc .nil ⟨#[M],.nil⟩ fun x=>?_⟩;have:=b9 (hit p x) #[MY];constructor
    ·intro h; cases h
    ·rintro⟨_,h⟩;unfold hits at h;lia
   ·have pf:¬ T' > (bs.length:Int):=fun h=>pf #[RI]
    obtain⟨tn,rfl⟩:∃ tn:Nat,T'=tn:=⟨T'.toNat,#[O]⟩;refine⟨_,rfl,_,rfl,l,_,rfl,.inl (lO.of uF),_,rfl,_,_,rfl,rfl,_,rfl,_,_,rfl,rfl,_,rfl,l,_,rfl,lO.of uF,fun z hz=>?_⟩;have Ia:(#[Of].length:Int) - (tn:Int)+(k:Int)=((bs.length - tn+k:Nat):Int):=by rw [ab]; lia
    rw [Ia,ze3,<- dJ];have v1:=zb (o:=.lst ((bs.take (bs.length - tn+k)).map V.ref)) hz;have hzz:lP H1 z (.lst ((bs.take (bs.length - tn+k)).map V.ref)) z=some (.lst ((bs.take (bs.length - tn+k)).map V.ref)):=zc;have s2:=s1.trans v1;have rR:=(hB.same v1).take (bs.length - tn+k);generalize lP H1 z (.lst ((bs.take (bs.length - tn+k)).map V.ref))=H2 at v1 hzz s2 rR |-;have hPt:Pts p (#[MY].take (bs.length - tn+k)):=hP.sub (ci _ _);refine⟨_,rfl,_,rfl,c,tt,z,p,k,pl,_,_,rfl,hc.same s2,lO.of hzz,rR,by rw [aG]; lia,hp,hPt,k0,k1,fun l2 rs qs H3 oT s3 yQ hT hql DA nC=>?_⟩;have hrq:=hT.length;have BI:=s2.trans s3;refine⟨l2,rfl,⟨_,lO.of yQ⟩,z9 (n:=rs.length) (fun i ys H'=>zr H3 H'/\∃ us:List Addr,ys=us.map V.ref/\us.length<=i/\zbU H' us ((qs.take i).filter fun x=>decide ((tn:Int)<=(hits p x #[MY]:Int)))) ⟨fun _ _ e=>e,[],rfl,af _,.nil⟩ ?_ ?_ ?_ ?_⟩
    ·rintro i ys H4 hi ⟨s4,_⟩;exact⟨_,.ref rs[i],lO.of (s4 _ _ yQ),by rw [aj,ag hi]; rfl⟩
    ·rintro ys H4 ⟨s4,_⟩;exact⟨_,lO.of (s4 _ _ yQ),by rw [ab]; exact af _⟩
    ·rintro zS zT zE i y ys H4 H5 hi ⟨s4,us,rfl,rm,mj⟩ ⟨rfl,hy⟩;obtain⟨rb,rfl,AU⟩:=zV (hy _ (lO.of (s4 _ _ yQ)));obtain⟨qq,yW,nH⟩:=Paired.get hT AU;have yT:=BI.trans s4;refine⟨_,rfl,_,rfl,_,rfl,c,tt,r,rb,p,k,pl,qq,rw,rfl,hc.same yT,yT _ _ wM,oX,s4 _ _ nH,#[O],#[O],m8,#[O],fun fl H6 AL s6 h6=>?_⟩;refine⟨fl,_,rfl,.inl (lO.of h6),_,rfl,_,_,rfl,rfl,_,rfl,?_⟩;have ef:((zb0 p pl rw qq pl.length).map V.int).length=hits p qq #[MY]:=by rw [ab]; exact zjB oX
     rw [ef];have xp:(qs.take (i+1)).filter (fun x=>decide ((tn:Int)<=(hits p x #[MY]:Int)))=(qs.take i).filter (fun x=>decide ((tn:Int)<=(hits p x #[MY]:Int)))++[qq].filter (fun x=>decide ((tn:Int)<=(hits p x #[MY]:Int))):=by rw [take_snoc yW,bW]
     refine zaO (fun h=>⟨_,rfl,?_,s4.trans s6,us++[rb],by rw [am]; rfl,by rw [ap]; exact eA rm,?_⟩) (fun h=>⟨s4.trans s6,us,rfl,#[O],?_⟩)
     ·rw [ab]; lia
     ·rw [xp,bb (p:=fun x=>decide ((tn:Int)<=(hits p x #[MY]:Int))) h];exact cb (mj.same s6) ((s4.trans s6) _ _ nH)
     ·rw [xp,bd (p:=fun x=>decide ((tn:Int)<=(hits p x #[MY]:Int))) h,fE,bH];exact mj.same s6
    ·rintro ys H4 D ⟨s4,us,rfl,rm,mj⟩ hD;rw [hrq,bC] at mj;have yT:=BI.trans s4;refine q D us _ _ (yT.free hD) (yT.trans (zb hD)) zc #[Qi] (DA.filter _) fun x=>?_
     rw [bf,nC x,decide_eq_true_iff];constructor
     ·rintro⟨⟨pk,h1,rfl⟩,h2⟩;exact⟨zjA hp hPt h1,h2⟩
     ·rintro⟨Df,h2⟩;exact⟨zeW hp hP Df (t:=tn) #[O] #[O] #[O],h2⟩
end
end My
end
section
namespace PySem
noncomputable def zab (led:Bool):Obj:={ cls:=.type "set",dict:=none,data:=.set #[] 0 (.fresh 0 0 led) }
theorem zk4:isSubtype (.type "tuple") (.type "set")=pure false:=by rw [dQ]; kernel_rfl
theorem zmV:isSubtype (.type "tuple") (.type "frozenset")=pure false:=by rw [dQ]; kernel_rfl
section
variable {prog:Program} {w:World} {A:Around} {E:Value->Shared->Prop} {s:Shared}
abbrev Ku (prog:Program) (w:World) (s:Shared) (ns:List Int) (n:Nat) (h':Heap):Prop :=
 h'.SetOf (intKind prog w) s.heap.objs.size (fun k'=>(ju #[M3] n).any (· == k')) (ju #[M3] n).length/\∀ b o,b < s.heap.objs.size->s.heap.get? b=some o->h'.get? b=some o
theorem zg0 {l:Addr} {items:Array Value} {ns:List Int} {led:Bool} {R:Result->Shared->Prop} (hh:A.handled=none) (hl:s.heap.IsTuple l items) (hi:fk items.toList ns) (hb:items.size+1 < scanBound)
  (h:∀ h' tk,Ku prog w s ns items.size h'->R (.ok #[Rv]) { s with heap:=h',toks:=tk }) :
  wpAny #[pc] A.in1 (Builtin.«set.__init__» ⟨[.ref s.heap.objs.size,.ref l],[]⟩) (fun fin s'=>match fin with | .done f=>R (.ok f) s' | .again c'=>c'.quiet=true/\codeAny #[pc] A c' R s') (fun e s'=>R (.error e) s') { s with heap:=s.heap.push #[P7] }:=by
 have hS:#[EQ].get? s.heap.objs.size=some #[P7]:=aE _ rfl;have mh:l < s.heap.objs.size:=by obtain⟨o,ho,_⟩:=hl; exact aF ho
 have zz:#[EQ].objs.size=s.heap.objs.size+1:=bj ..;have pN:#[EQ].IsTuple l items:=hl.push _;have hT:iq { s with heap:=s.heap.push #[P7] } #[ss] "set":=⟨_,hS,rfl⟩;have q1:=zk4;have q2:=zmV;have q3:(gm "tuple" == gm "dict")=false:=by decide
 obtain⟨ol,yX,oY,nl,tP⟩:=id pN
 (obtain⟨Ib,DB,DC,AW⟩:=ol)
 simp only at oY tP;subst oY tP;unfold Builtin.«set.__init__» noKeywords gX zab;unfold zab at hS hT yX pN zz;generalize Ic:pyIter=PI
 wp_walk
 subst Ic;refine h9 pN (ae (wpAny_runValue ?_));have z0:s.heap.objs.size≠s.heap.objs.size+1:=a8 (gd _);refine fF ((Walks.tuple (show A.in1.in1.handled=none by simp [hh]) #[EQ].objs.size l (by rw [bj]; exact a8 (cA mh)) items).toS) s.heap.objs.size (by
   rw [bj];intro m;rcases (aB.mp m) with e | e
   ·exact z0 e
   ·exact de mh (aU.mp e)) #[M3] (fun i v hv=>ic hi i v (by rw [be]; exact hv)) hb (items.size - 0) 0 _ #[O] (bg _) ⟨⟨_,aE _ rfl,rfl,rfl⟩,pN.push _⟩
  (iS (#[SY].setOf (ai _ hS) (by unfold scanBound; lia)) #[QF] rfl) fun s' hm Ie=>?_
 (obtain⟨h',g',d',By,BZ⟩:=s')
 obtain rfl:g'=s.gens:=hm.gens;obtain rfl:d'=s.drawn:=hm.drawn;obtain rfl:BZ=s.os:=hm.os;refine ao ?_
 (show wpAny _ _ (ret dg) _ _ _)
 refine ao #[RS];refine hm.heap b o ?_ (ai _ (ai _ e));intro m;rcases (aB.mp m) with e | e
 ·exact a8 wy e
 ·have e:=aU.mp e;rw [bj] at e;exact a8 (cA wy) e
theorem zg1 {l:Addr} {items:Array Value} {ns:List Int} {Q:Value->Shared->Prop} (hh:A.handled=none) (hl:s.heap.IsTuple l items) (hi:fk items.toList ns) (hb:items.size+1 < scanBound)
  (h:∀ h' tk,Ku prog w s ns items.size h'->Q #[ss] { s with heap:=h',toks:=tk }):wpAny #[pc] A (call (.type "set") [.ref l]) Q E s:=by
 have ft:=F.called_set
 (obtain⟨c,tl,Ig⟩:=ft.mro)
 have p1:=ft.made;have p2:=ft.sub;have p3:=ft.notType;have p4:=ft.canCreate;have p5:=k6 #[Nv];refine jx (i6 ?_); show wpAny _ _ (callAny (.type "set") _) _ _ _;refine ao ⟨ki _ #[N],gC kB ?_⟩; rw [kj (jv "set" [.ref l] []) rfl]; repeat (any_goals (first | assumption | wp_step))
 refine eP (code_set_new_1 #[Nv] (E:=E) (Q₁:=fun obj s₁=>∃ led:Bool,obj = .ref s.heap.objs.size/\s₁ = { s with heap:=s.heap.push #[P7] }) fun led=>⟨led,rfl,rfl⟩) fun r s₁ hr=>?_
 cases r with
 | error e=>exact hr
 | ok fl =>
  cases fl with
  | ret obj =>
   obtain⟨led,rfl,rfl⟩:=hr;have hS:#[EQ].get? s.heap.objs.size=some #[P7]:=aE _ rfl;have hT:iq { s with heap:=s.heap.push #[P7] } #[ss] "set":=⟨_,hS,rfl⟩;have p6:=ft.init.lookup;have p7:=ft.init.bind #[ss]; repeat (any_goals (first | assumption | wp_step))
   refine eP (jH (R:=wants (fun r s₂=>r = .none/\∃ h' tk,s₂ = { s with heap:=h',toks:=tk }/\Ku prog w s ns items.size h') E) ft.init.plain k7 (check_set_init_1 hT (zg0 (A:=A.in1) (by simp [hh]) hl hi hb fun h' tk fl=>⟨rfl,h',tk,rfl,fl⟩))) fun r₂ s₂ hr₂=>?_
   cases r₂ with
   | error e=>exact hr₂
   | ok fl₂ =>
    cases fl₂ with
    | ret r =>
     obtain⟨rfl,h',tk,rfl,fl⟩:=hr₂; repeat (any_goals (first | assumption | wp_step))
     exact h _ _ fl
    | _=>exact hr₂.elim
  | _=>exact hr.elim
end
end PySem
namespace L2
open PySem PySem.Spec PyProof.Rows PySem.Builtin.Str
theorem zd2 {X:Cx}:zbG X (.builtin "len") (fun xs H Q=>∃ l S n,xs = [.ref l]/\H l=some (.set S n)/\Q (.int (n:Nat)) H):=by
 intro lN s σ H xs us Q I r h;obtain⟨l,S,n,rfl,hH,q⟩:=h;obtain⟨u,rfl,rx⟩:=vals1 r;cases rx;obtain⟨o,es,ep,t,ho,hex,hd,_,_,hb,hf,hn⟩:=I.hok l _ hH;subst hn;exact call_len_set ho hex hd hf (by unfold scanBound at hb; lia) ⟨.int (es.size:Nat),H,I.tok _,⟨_,rfl⟩,q⟩
end L2
end
section
namespace PySem
theorem zk5:isSubtype (.type "list") (.type "set")=pure false:=by rw [dQ]; kernel_rfl
theorem zmW:isSubtype (.type "list") (.type "frozenset")=pure false:=by rw [dQ]; kernel_rfl
section
variable {prog:Program} {w:World} {A:Around} {E:Value->Shared->Prop} {s:Shared}
theorem zg2 {l:Addr} {items:Array Value} {ns:List Int} {led:Bool} {R:Result->Shared->Prop} (hh:A.handled=none) (hl:s.heap.IsList l items) (hi:fk items.toList ns) (hb:items.size+1 < scanBound)
  (h:∀ h' tk,Ku prog w s ns items.size h'->R (.ok #[Rv]) { s with heap:=h',toks:=tk }) :
  wpAny #[pc] A.in1 (Builtin.«set.__init__» ⟨[.ref s.heap.objs.size,.ref l],[]⟩) (fun fin s'=>match fin with | .done f=>R (.ok f) s' | .again c'=>c'.quiet=true/\codeAny #[pc] A c' R s') (fun e s'=>R (.error e) s') { s with heap:=s.heap.push #[P7] }:=by
 have hS:#[EQ].get? s.heap.objs.size=some #[P7]:=aE _ rfl;have mh:l < s.heap.objs.size:=(by obtain⟨o,ho,_⟩:=hl; exact aF ho);have zz:#[EQ].objs.size=s.heap.objs.size+1:=bj ..;have pN:#[EQ].IsList l items:=hl.push _;have hT:iq { s with heap:=s.heap.push #[P7] } #[ss] "set":=⟨_,hS,rfl⟩;have q1:=zk5;have q2:=zmW;have q3:(gm "list" == gm "dict")=false:=by decide
 obtain⟨ol,yX,oY,nl,tP⟩:=id pN
 (obtain⟨Ib,DB,DC,AW⟩:=ol)
 simp only at oY tP;subst oY tP;unfold Builtin.«set.__init__» noKeywords gX zab;unfold zab at hS hT yX pN zz;generalize Ic:pyIter=PI
 wp_walk
 subst Ic;refine fW pN (ae (wpAny_runValue ?_));have z0:s.heap.objs.size≠s.heap.objs.size+1:=a8 (gd _);refine fF ((Walks.list (show A.in1.in1.handled=none by simp [hh]) #[EQ].objs.size l (by rw [bj]; exact a8 (cA mh)) items).toS) s.heap.objs.size (by
   rw [bj];intro m;rcases (aB.mp m) with e | e
   ·exact z0 e
   ·exact de mh (aU.mp e)) #[M3] (fun i v hv=>ic hi i v (by rw [be]; exact hv)) hb (items.size - 0) 0 _ #[O] (bg _) ⟨⟨_,aE _ rfl,rfl,rfl⟩,pN.push _⟩
  (iS (#[SY].setOf (ai _ hS) (by unfold scanBound; lia)) #[QF] rfl) fun s' hm Ie=>?_
 (obtain⟨h',g',d',By,BZ⟩:=s')
 obtain rfl:g'=s.gens:=hm.gens;obtain rfl:d'=s.drawn:=hm.drawn;obtain rfl:BZ=s.os:=hm.os;refine ao ?_
 (show wpAny _ _ (ret dg) _ _ _)
 refine ao #[RS];refine hm.heap b o ?_ (ai _ (ai _ e));intro m;rcases (aB.mp m) with e | e
 ·exact a8 wy e
 ·have e:=aU.mp e;rw [bj] at e;exact a8 (cA wy) e
theorem zg3 {l:Addr} {items:Array Value} {ns:List Int} {Q:Value->Shared->Prop} (hh:A.handled=none) (hl:s.heap.IsList l items) (hi:fk items.toList ns) (hb:items.size+1 < scanBound)
  (h:∀ h' tk,Ku prog w s ns items.size h'->Q #[ss] { s with heap:=h',toks:=tk }):wpAny #[pc] A (call (.type "set") [.ref l]) Q E s:=by
 have ft:=F.called_set
 (obtain⟨c,tl,Ig⟩:=ft.mro)
 have p1:=ft.made;have p2:=ft.sub;have p3:=ft.notType;have p4:=ft.canCreate;have p5:=k6 #[Nv];refine jx (i6 ?_); show wpAny _ _ (callAny (.type "set") _) _ _ _;refine ao ⟨ki _ #[N],gC kB ?_⟩; rw [kj (jv "set" [.ref l] []) rfl]; repeat (any_goals (first | assumption | wp_step))
 refine eP (code_set_new_1 #[Nv] (E:=E) (Q₁:=fun obj s₁=>∃ led:Bool,obj = .ref s.heap.objs.size/\s₁ = { s with heap:=s.heap.push #[P7] }) fun led=>⟨led,rfl,rfl⟩) fun r s₁ hr=>?_
 cases r with
 | error e=>exact hr
 | ok fl =>
  cases fl with
  | ret obj =>
   obtain⟨led,rfl,rfl⟩:=hr;have hS:#[EQ].get? s.heap.objs.size=some #[P7]:=aE _ rfl;have hT:iq { s with heap:=s.heap.push #[P7] } #[ss] "set":=⟨_,hS,rfl⟩;have p6:=ft.init.lookup;have p7:=ft.init.bind #[ss]; repeat (any_goals (first | assumption | wp_step))
   refine eP (jH (R:=wants (fun r s₂=>r = .none/\∃ h' tk,s₂ = { s with heap:=h',toks:=tk }/\Ku prog w s ns items.size h') E) ft.init.plain k7 (check_set_init_1 hT (zg2 (A:=A.in1) (by simp [hh]) hl hi hb fun h' tk fl=>⟨rfl,h',tk,rfl,fl⟩))) fun r₂ s₂ hr₂=>?_
   cases r₂ with
   | error e=>exact hr₂
   | ok fl₂ =>
    cases fl₂ with
    | ret r =>
     obtain⟨rfl,h',tk,rfl,fl⟩:=hr₂; repeat (any_goals (first | assumption | wp_step))
     exact h _ _ fl
    | _=>exact hr₂.elim
  | _=>exact hr.elim
end
end PySem
namespace L2
open PySem PySem.Spec PyProof.Rows PySem.Builtin.Str
noncomputable def zio (ns:List Int):Nat:=(firstMet (fun j=>ns.getD j 0) ns.length).length
theorem zf5 {X:Cx} (hc:X.calm=true):zbG X (.type "set") (fun xs H Q=>∃ (p:Addr) (ns:List Int),xs = [.ref p]/\(lY X.K H p #[xz]\/lO X.K H p #[xz])/\ns.length<=4000/\∀ l S,H l=none->Q #[Nv] (lP H l (.set S (zio ns)))):=by
 intro lN s σ H xs us Q I r h;obtain⟨p,ns,rfl,hq,hn,q⟩:=h;obtain⟨u,rfl,rx⟩:=vals1 r;cases rx;rcases hq with hq | hq
 ·obtain⟨lQ,rv,pl,hz⟩:=I.tuple hq;have hl:=rv.length;rw [ab] at hl;refine zg1 (ns:=ns) #[Na] (show s.heap.IsTuple p lQ.toArray from pl) (by simpa using intsAre_of rv) (by rw [aq]; unfold scanBound; lia) fun h' tk fl=>?_
  obtain⟨f1,f2⟩:=fl;have rA:lQ.toArray.size=ns.length:=by rw [aq]; exact hl.symm
  rw [rA] at f1;have k:∀ b o,s.heap.get? b=some o->h'.get? b=some o:=fun b o e=>f2 b o (aF e) e
  exact#[NO]
 ·obtain⟨lQ,rv,pl,hz⟩:=I.list hq;have hl:=rv.length;rw [ab] at hl;refine zg3 (ns:=ns) #[Na] pl.isList (by simpa using intsAre_of rv) (by rw [aq]; unfold scanBound; lia) fun h' tk fl=>?_
  obtain⟨f1,f2⟩:=fl;have rA:lQ.toArray.size=ns.length:=by rw [aq]; exact hl.symm
  rw [rA] at f1;have k:∀ b o,s.heap.get? b=some o->h'.get? b=some o:=fun b o e=>f2 b o (aF e) e
  exact#[NO]
end L2
end
section
namespace My
open PySem L2 PyProof.Rows
variable {j k:Nat} {lR:List (Int×Int)} {ot rw:List #[ww]} {pl:List Int} {qs:List #[GE]}
theorem zf6 {k a:Nat} {f:Tm->Int} (hk:2<=k) (hf:∀ t,a<=tz k t->f t=0):∀ {b:Nat},a<=b->lsum (zZ k b) f=lsum (zZ k a) f
 | 0,h=>by rw [show a=0 by lia]
 | b+1,h=>by
  by_cases e:a=b+1
  ·rw [e]
  ·have ih:=zf6 hk hf (b:=b) #[O];rw [za2,zh6,ih,zf0 (l:=tms k b) fun t ht=>hf t ?_,Int.add_zero];have h1:t∈zZ k (b+1):=by rw [za2]; exact aI _ ht
   have h2:¬ t∈zZ k b:=fun z=>by
    have nd:=zbK hk (b+1);rw [za2,ck] at nd;exact nd.2.2 t z t ht rfl
   have h3:¬ tz k t < b:=fun z=>h2 ((zbp hk).mpr z)
   lia
theorem zmX {p:Int} {s s':Nat} {lR DD:List (Int×Int×Nat)} {g g':Tm->Int} (hk:2<=k) (h:∀ c∈cos DD,c∈cos lR) (L:Lst p k lR s g) (L':Lst p k DD s' g') (hp:0 < p):s'<=s:=by
 refine iF fun hs=>?_
 obtain⟨t,ht,h0⟩:=L.top;refine h0 ?_;have:=L'.least g (fun c hc=>by
  rw [zf6 (a:=s+1) hk (fun t ht=>by rw [L.out t #[O],fL]) #[O]];exact L.ok c (h c hc)) t #[O]
 exact this.eq (L.rg t).1 (L.rg t).2 (bM _) hp
theorem zjV {A B:List (Int×Int×Nat)} (h:∀ a∈A,a∈B):∀ c∈cos A,c∈cos B:=fun c hc=>by
 obtain⟨a,ha,hc⟩:=dU.mp hc;exact dU.mpr ⟨a,h a ha,hc⟩
theorem zmY {α:Type} (P:α->Int) (R:α->Option Int):∀ l:List α,mS (l.map P) (l.map R)=l.filterMap fun i=>(R i).map fun y=>(P i,y)
 | []=>rfl
 | a :: l=>by
  have ih:=zmY P R l;rw [aM,aM,eE];cases h:R a with
  | none=>simp [mS,ih]
  | some y=>simp [mS,ih]
noncomputable def glO (rw:List #[ww]) (y:Int):Option Int:=(rw[y.toNat]?).getD none
noncomputable def glI (pl:List Int) (y:Int):Int:=gl pl y.toNat
theorem zpT {o:Option Int} (h:rw[j]? = some o):glO rw (j:Int)=o:=by
 unfold glO;rw [bh,h];rfl
theorem zpU {o:Int} (h:pl[j]? = some o):glI pl (j:Int)=o:=by
 unfold glI;rw [bh];exact zdh h
noncomputable def ixs (n:Nat):List Int:=(aN n).map fun (i:Nat)=>(i:Int)
theorem zok (pl:List Int):(ixs pl.length).map (glI pl)=pl:=by
 refine ee fun j=>?_
 unfold ixs;rw [aR,aj];by_cases h:j < pl.length
 ·rw [db h,ag h];exact congrArg some (zpU (ag h))
 ·rw [bX (by simpa using h),bX #[O]];rfl
theorem zol (rw:List #[ww]):(ixs rw.length).map (glO rw)=rw:=by
 refine ee fun j=>?_
 unfold ixs;rw [aR,aj];by_cases h:j < rw.length
 ·rw [db h,ag h];exact congrArg some (zpT (ag h))
 ·rw [bX (by simpa using h),bX #[O]];rfl
theorem zfd {p:Int} (h:zdC p k qs):qs.Nodup:=h.2.imp fun {a b} Bn e=>by rw [e] at Bn; lia
theorem ziq {p:Int} (hp:p∈zq) (hP:Pts p lR) (hl:lR.length<=16) {T:Int} (hT:(k:Int)<=T) (nd:qs.Nodup) (h:∀ q,q∈qs↔IsP p k q/\T<=(hits p q lR:Int)):qs.length<=65536:=by
 have hs:∀ q∈qs,q∈((chs lR k).map (·.2)).map (thr p):=fun q hq=>by
  obtain⟨h1,h2⟩:=(h q).mp hq;obtain⟨pk,hk,e⟩:=zeW hp hP (t:=k) (n:=lR.length) h1 (af _) #[O] #[O];rw [bC] at hk;exact aw.mpr ⟨pk,hk,e.symm⟩
 refine aV (List.Nodup.length_le_of_subset nd hs) ?_;rw [ab,ab];exact zc4 k hl
noncomputable def enY (rw:List #[ww]) (j:Nat):Int:=(rw[j]?.getD none).getD 0
noncomputable def gJ (w:Int) (rw:List #[ww]) (j:Nat):Wt3:=((j:Int),enY rw j,w)
noncomputable def hd' (rw:List #[ww]) (j:Nat):Bool:=(rw[j]?.getD none).isSome
noncomputable def ex' (rw ot:List #[ww]) (j:Nat):Bool:=hd' ot j && decide (rw[j]?.getD none≠ot[j]?.getD none)
noncomputable def gR (w:Int) (rw:List #[ww]) (n:Nat):List Wt3:=((aN n).filter (hd' rw)).map (gJ w rw)
noncomputable def gO (w:Int) (rw ot:List #[ww]) (n:Nat):List Wt3:=((aN n).filter (ex' rw ot)).map (gJ w ot)
noncomputable def fN (p:Int) (pl:List Int) (rw:List #[ww]) (f:List Int) (n:Nat):List Nat:=(aN n).filter (zby p pl rw f)
theorem zg4 {p w:Int} {pl:List Int} {rw:List #[ww]} {f:List Int}:∀ J:List Nat,wsum p f ((J.map (gJ w rw)).map (wpp pl))=w*((J.filter fun j=>decide #[IN]).length:Int)
 | []=>by simp [wsum,wts]
 | j :: J=>by
  have ih:=zg4 (p:=p) (w:=w) (pl:=pl) (rw:=rw) (f:=f) J;have e:za3 p f (wpp pl (gJ w rw j))=decide #[IN]:=by
   unfold za3 wpp gJ;simp only [bh]
  rw [aM,aM];unfold wsum at ih |-;by_cases h:decide #[IN]=true
  ·rw [bb (by rw [e]; exact h),bb (p:=fun j=>decide #[IN]) h,bu];show wts ([wpp pl (gJ w rw j)]++_)=_;rw [zes,ih];have:wts [wpp pl (gJ w rw j)]=w:=by simp [wts,wpp,gJ]
   rw [this];grind
  ·rw [bd (by rw [e]; exact h),bd (p:=fun j=>decide #[IN]) h,ih]
theorem zg5 {p:Int} {f:List Int} (hj:j < pl.length):zby p pl rw f j=(hd' rw j && decide #[IN]):=by
 unfold zby hd' enY;rw [aZ,ag hj];cases rw[j]? with
 | none=>rfl
 | some o =>
  cases o with
  | none=>rfl
  | some y =>
   show decide (y=zp p pl[j] f)=(true && decide (zp p pl[j] f=y));rw [Bool.true_and];exact decide_eq_decide.mpr ⟨lE,lE⟩
theorem zfe {α:Type} (a b:α->Bool) (l:List α):(l.filter a).filter b=l.filter fun x=>a x && b x:=by
 rw [kb];congr 1;funext x;exact Bool.and_comm _ _
theorem zff {α:Type} {a b:α->Bool} {l:List α} (h:∀ x∈l,a x=b x):l.filter a=l.filter b:=kx h
theorem zmZ {p w:Int} {f:List Int} {n:Nat} (hn:n<=pl.length):wsum p f ((gR w rw n).map (wpp pl))=w*(#[Po].length:Int):=by
 unfold gR fN;rw [zg4,zfe,zff (a:=fun x=>hd' rw x && decide (zp p (pl.getD x 0) f=enY rw x)) (b:=zby p pl rw f) fun j hj=>(zg5 (by have:=bJ.mp hj; lia)).symm]
theorem zk6 {p:Int} {f:List Int} (hj:j < pl.length):(ex' rw ot j && decide (zp p (pl.getD j 0) f=enY ot j))=(zby p pl ot f j && !zby p pl rw f j):=by
 rw [zg5 hj,zg5 hj];unfold ex' hd' enY;generalize rw[j]?.getD none=a;generalize ot[j]?.getD none=b;generalize zp p (pl.getD j 0) f=v;cases a with
 | none=>cases b with
  | none=>simp
  | some y=>simp
 | some x=>cases b with
  | none=>simp
  | some y =>
   by_cases h1:v=y
   ·subst h1;by_cases h2:x=v
    ·subst h2; simp
    ·have h3:¬ v=x:=fun e=>h2 e.symm
     simp [h2,h3]
   ·simp [h1]
theorem zpV {p w:Int} {f:List Int} {n:Nat} (hn:n<=pl.length):wsum p f ((gO w rw ot n).map (wpp pl))=w*((#[OD].filter fun j=>!zby p pl rw f j).length:Int):=by
 unfold gO fN;rw [zg4,zfe,zfe,zff fun j hj=>zk6 (by have:=bJ.mp hj; lia)]
theorem zg6 (p:Int) (pl:List Int) (rw:List #[ww]) (f:List Int) (n:Nat):zb0 p pl rw f n=#[Po].map fun (j:Nat)=>(j:Int):=rfl
theorem zpW {l:List Nat} (h:l.Nodup):(l.map fun (j:Nat)=>(j:Int)).Nodup:=by
 rw [bw] at h;rw [bw,bZ];exact h.imp fun {a b} n e=>n #[O]
theorem zoO (p:Int) (pl:List Int) (rw:List #[ww]) (f:List Int) (n:Nat):#[Po].Nodup:=ff.filter _
theorem zm0 (val:Nat->Int):∀ i,(firstMet val i).Nodup
 | 0=>by rw [firstMet_zero]; exact lA
 | i+1=>by
  rw [firstMet_succ];have ih:=zm0 val i;unfold step_dedup;split
  ·exact ih
  ·next h =>
   refine ck.mpr ⟨ih,#[M],fun a ha b hb e=>?_⟩;have hb:=aU.mp hb;subst hb;exact h (cH.mpr ⟨a,ha,by simp [e]⟩)
theorem zm1 (l:List Int):(aN l.length).map (fun j=>l.getD j 0)=l:=by
 apply List.ext_getElem
 ·simp
 ·intro i h1 h2;simp [h2]
theorem zom (ns:List Int) (k:Int):k∈firstMet #[M3] ns.length↔k∈ns:=by
 have h:=firstMet_any #[M3] ns.length k;have e:(aN ns.length).map #[M3]=ns:=zm1 ns;rw [e] at h;constructor
 ·intro hk;have:(firstMet #[M3] ns.length).any (· == k)=true:=cH.mpr ⟨k,hk,#[M]⟩;rw [h] at this;obtain⟨x,hx,Ih⟩:=cH.mp this;rw [<- beq_iff_eq.mp Ih]; exact hx
 ·intro hk;have:ns.any (· == k)=true:=cH.mpr ⟨k,hk,#[M]⟩;rw [<- h] at this;obtain⟨x,hx,Ih⟩:=cH.mp this;rw [<- beq_iff_eq.mp Ih]; exact hx
theorem zir {p:Int} {f:List Int} {n:Nat}:zio #[Ou]=#[Po].length+(#[OD].filter fun j=>!zby p pl rw f j).length:=by
 have h1:(fN p pl rw f n++#[OD].filter fun j=>!zby p pl rw f j).Nodup:=by
  rw [ck];refine⟨zoO ..,(zoO ..).filter _,fun a ha b hb e=>?_⟩;subst e;have h2:=(bf.mp ha).2;have h3:=(bf.mp hb).2;rw [h2] at h3;simp at h3
 have h2:=zpW h1;have h3:(firstMet (fun j=>#[Ou].getD j 0) #[Ou].length).Perm ((fN p pl rw f n++#[OD].filter fun j=>!zby p pl rw f j).map fun (j:Nat)=>(j:Int)):=by
  refine (ip (zm0 _ _) h2).mpr fun x=>?_
  rw [zom,zg6,zg6,<- am,aw,aw];constructor
  ·rintro⟨j,hj,rfl⟩;refine⟨j,?_,rfl⟩;rcases aP.mp hj with hj | hj
   ·exact aL _ hj
   ·by_cases hf:zby p pl rw f j=true
    ·exact aL _ (bf.mpr ⟨(bf.mp hj).1,hf⟩)
    ·exact aI _ (bf.mpr ⟨hj,by simp [hf]⟩)
  ·rintro⟨j,hj,rfl⟩;refine⟨j,?_,rfl⟩;rcases aP.mp hj with hj | hj
   ·exact aL _ hj
   ·exact aI _ (bf.mp hj).1
 have h4:=h3.length_eq;rw [ab] at h4;unfold zio;rw [h4,ap]
theorem zjW {l:List Nat} {f:Nat->Wt3} (h:l.Nodup) (hf:∀ j,(f j).1=(j:Int)):((l.map f).map pt).Nodup:=by
 rw [bw] at h;rw [aR,bw,bZ];refine h.imp fun {a b} n e=>n ?_
 have e0:pt (f a)=pt (f b):=e;have e1:(pt (f a)).1=(pt (f b)).1:=by rw [e0]
 change (f a).1=(f b).1 at e1;rw [hf,hf] at e1;lia
theorem zoP {p w:Int} {n:Nat} (w0:0<=w) (hn:n<=pl.length) (va:∀ z,some z∈rw->0<=z/\z < p) {ts:List Wt3} (h:ts.Perm (gR w rw n)):Gss p pl ts:=by
 refine⟨(h.map pt).nodup_iff.mpr (zjW (ff.filter _) fun _=>rfl),fun q hq=>?_⟩;obtain⟨j,hj,rfl⟩:=aw.mp (h.mem_iff.mp hq);obtain⟨h1,h2⟩:=bf.mp hj;have:=bJ.mp h1;have hy:0<=enY rw j/\enY rw j < p:=by
  unfold hd' at h2;unfold enY;cases e:rw[j]? with
  | none=>rw [e] at h2; cases h2
  | some o=>cases o with
   | none=>rw [e] at h2; cases h2
   | some y=>exact va y (aA e)
 exact⟨by show (0:Int)<=(j:Int); lia,by show (j:Int) < _; lia,hy.1,hy.2,w0⟩
theorem zpX {p w:Int} {n:Nat} (w0:0<=w) (hn:n<=pl.length) (va:∀ z,some z∈rw->0<=z/\z < p) (xH:∀ z,some z∈ot->0<=z/\z < p) {ts:List Wt3} (h:ts.Perm (gR w rw n++gO w rw ot n)):Gss p pl ts:=by
 have h1:=zoP (pl:=pl) w0 hn va (.refl (gR w rw n));have h2:∀ q∈gO w rw ot n,∃ j,q=gJ w ot j/\j < n/\ex' rw ot j=true:=fun q hq=>by
  obtain⟨j,hj,rfl⟩:=aw.mp hq;obtain⟨g1,g2⟩:=bf.mp hj;exact⟨j,rfl,bJ.mp g1,g2⟩
 refine⟨(h.map pt).nodup_iff.mpr ?_,fun q hq=>?_⟩
 ·(rw [am,ck])
  refine⟨h1.nd,zjW (ff.filter _) fun _=>rfl,fun a ha b hb e=>?_⟩;obtain⟨x,hx,rfl⟩:=aw.mp ha;obtain⟨y,hy,rfl⟩:=aw.mp hb;obtain⟨i,hi,rfl⟩:=aw.mp hx;obtain⟨j,rfl,_,h3⟩:=h2 y hy;have h4:=(bf.mp hi).2;have e1:(i:Int)=(j:Int):=congrArg Prod.fst e;have e2:enY rw i=enY ot j:=congrArg kW e;have e1:i=j:=by lia
  subst e1;unfold ex' hd' at h3;unfold hd' at h4;unfold enY at e2
  revert h3 h4 e2
  generalize rw[i]?.getD none=u;generalize ot[i]?.getD none=v;cases u <;> cases v <;> simp <;> lia
 ·rcases aP.mp (h.mem_iff.mp hq) with hq | hq
  ·exact h1.rg q hq
  ·obtain⟨j,rfl,hj,h3⟩:=h2 q hq;have hy:0<=enY ot j/\enY ot j < p:=by
    unfold ex' hd' at h3;unfold enY;cases e:ot[j]? with
    | none=>rw [e] at h3; cases h3
    | some o=>cases o with
     | none=>rw [e] at h3; cases h3
     | some y=>exact xH y (aA e)
   exact⟨by show (0:Int)<=(j:Int); lia,by show (j:Int) < _; lia,hy.1,hy.2,w0⟩
theorem zm2 {L:List (Int×Int)} {w:Int} (w0:0<=w) (h:∀ q∈L,q.2<=w):∀ n,∀ e∈mxs (L.take n),e.2<=w
 | 0=>by simp [mxs]
 | n+1=>by
  have ih:=zm2 w0 h n;by_cases hn:n < L.length
  ·have e:L[n]? = some L[n]:=ag hn;rw [take_snoc e,ze0];have hM:(if (zdG #[QK] L[n].1).getD 0 > L[n].2 then (zdG #[QK] L[n].1).getD 0 else L[n].2)<=w:=by
    have hq:=h _ (cG hn);have hg:(zdG #[QK] L[n].1).getD 0<=w:=by
     unfold zdG;cases q:#[QK].find? fun e=>decide (e.1=L[n].1) with
     | none=>exact w0
     | some x=>exact ih x (iG q)
    split <;> assumption
   intro e' he;unfold mxS zdW at he;split at he
   ·obtain⟨a,h1,rfl⟩:=aw.mp he;by_cases hx:a.1=L[n].1
    ·rw [if_pos hx]; exact hM
    ·rw [if_neg hx]; exact ih a h1
   ·rcases (aP.mp he) with he | he
    ·exact ih _ he
    ·rw [aU.mp he]; exact hM
  ·have e:L.take (n+1)=L.take n:=by rw [aH #[O],aH #[O]]
   rw [e];exact ih
theorem zjX {D:List Int} {w:Int} (w0:0<=w) (h:∀ x∈D,x<=w):∀ m:Nat,(D.take m).sum<=(m:Int)*w
 | 0=>by simp
 | m+1=>by
  have ih:=zjX w0 h m;rw [eL,fB];have:(((m+1:Nat):Int))*w=(m:Int)*w+w:=by rw [gI]; grind
  have t2:((m:Int)+1)*w=(m:Int)*w+w:=by grind
  cases e:D[m]? with
  | none=>simp; lia
  | some x =>
   have:=h x (aA e);simp;lia
theorem zon (vs:List Int) (m:Nat):∃ v,zgN vs m v :=
 ⟨_,vs.mergeSort (fun a b=>decide (b<=a)),List.mergeSort_perm _ _,(List.pairwise_mergeSort (le:=fun a b=>decide (b<=a)) (fun a b c h1 h2=>decide_eq_true (by have:=of_decide_eq_true h1; have:=of_decide_eq_true h2; lia)) (fun a b=>by simp; lia) vs).imp fun {a b} h=>of_decide_eq_true h,rfl⟩
theorem zjY {w:Int} (w0:0<=w) {us:List Wt3} (h:∀ q∈us,q.2.2=w) (m:Nat):∃ low,zgN ((mxs (us.map kw)).map (·.2)) m low/\low<=(m:Int)*w:=by
 obtain⟨low,D,d1,d2,rfl⟩:=zon ((mxs (us.map kw)).map (·.2)) m;refine⟨_,⟨D,d1,d2,rfl⟩,zjX w0 #[Qt] m⟩;obtain⟨e,he,rfl⟩:=aw.mp (d1.mem_iff.mp hx);have:=zm2 (L:=us.map kw) w0 (fun q hq=>by obtain⟨z,hz,rfl⟩:=aw.mp hq; exact Int.le_of_eq (h z hz)) (us.map kw).length;rw [bC] at this;exact this e he
theorem zpY {w a b:Int} (w1:1<=w):(a - 1)*w+1<=w*b↔a<=b:=by
 constructor
 ·intro h;by_cases Bn:a<=b
  ·exact Bn
  ·have h1:b<=a - 1:=by lia
   have h2:=dM h1 (show 0<=w by lia);have h3:w*(a - 1)=(a - 1)*w:=eX _ _;lia
 ·intro h;have h1:a - 1+1<=b:=by lia
  have h2:=dM h1 (show 0<=w by lia);have h3:w*(a - 1+1)=(a - 1)*w+w:=by grind
  lia
theorem zjZ {w a b:Int} (w1:1<=w):a*w<=w*b↔a<=b:=by
 constructor
 ·intro h;by_cases Bn:a<=b
  ·exact Bn
  ·have h1:b+1<=a:=by lia
   have h2:=dM h1 (show 0<=w by lia);have h3:w*(b+1)=w*b+w:=by grind
   have h4:w*a=a*w:=eX _ _;lia
 ·intro h;have h2:=dM h (show 0<=w by lia);have h4:w*a=a*w:=eX _ _;lia
end My
end
section
namespace L2
open PySem PySem.Spec PyProof.Rows
variable {A:Around} {X:Cx} {prog:Program} {s:Shared} {w:World}
theorem zoo {E:Value->Shared->Prop} {l:Addr} {items:Array Value} {n:Nat} {x:Int} {u:Tok} {y:Value} {Q:Value->Shared->Prop} (e:s.heap.get? l=some { cls:=.type "list",dict:=none,data:=.seq items n,slots:=#[] })
  (hf:fo x=true) (hz:items.size<=sizeLine) (h:Q .none { s with heap:=s.heap.update l (dh fun xs=>have k:=if x < 0 then (x+(xs.size:Int)).toNat else min x.toNat xs.size; (xs.extract 0 k).push y++xs.extract k),toks:=s.toks }) :
  wpAny #[pc] A (call (.builtin "list.insert") [.ref l,.int x u,y]) Q E s:=by
 exact eZ fO ⟨_,e,rfl⟩ PySem.F.entry_list_insert (PySem.F.args_list_insert_3 _ _ _) (PySem.AutoSeq1.list_insert_list_int_val_1 l items n x u y (by simp [hf]) hz) ⟨e,h⟩
theorem zpZ {items:List Value} {x:Int} {i:Nat} (y:Value) (hx:x=(i:Int)) (hi:i<=items.length):(have k:=if x < 0 then (x+(items.toArray.size:Int)).toNat else min x.toNat items.toArray.size; (items.toArray.extract 0 k).push y++items.toArray.extract k)=(items.take i++y :: items.drop i).toArray:=by
 have h1:¬ x < 0:=by lia
 have h2:min x.toNat items.toArray.size=i:=by rw [aq]; lia
 dsimp only;rw [if_neg h1,h2];simp;rw [aH (by rw [cn]; exact af _)]
noncomputable def zop:V->List V->Hp->VK->Prop:=fun x vs H Q=>∃ (l:Addr) (xs:List V) (y:V) (z:Int) (i:Nat),x = .ref l/\vs = [.int z,y]/\z=(i:Int)/\H l=some #[Ob]/\i<=xs.length/\xs.length < 1000/\Q .non (lP H l (.lst (xs.take i++y :: xs.drop i)))
theorem zf7:MtM X "list.insert" zop:=by
 intro lN s σ H x vs v us Q I rx rv h;obtain⟨l,xs,y,z0,i,rfl,rfl,xJ,hH,hi,hz,q⟩:=h;cases rx;have pO:=aW;obtain⟨a,b,rfl,ra,rb⟩:∃ a b,us = [a,b]/\RelV (.int z0) a/\RelV y b:=by
  cases rv with
  | cons r1 t=>cases t with
   | cons r2 t2=>cases t2; exact⟨_,_,rfl,r1,r2⟩
 obtain⟨tk,rfl⟩:=ra;obtain⟨z,lQ,n,r,hl,e⟩:=I.LR hH;have lT:=r.length;refine zoo e (by unfold fo; simp; lia) (by rw [aq]; lia) ?_;refine⟨.non,_,I.Mj (its':=lQ.take i++b :: lQ.drop i) hH e (zpZ b xJ #[O]) ((r.take i).append (.cons rb (r.drop i))) ?_,rfl,q⟩;rw [ap,bu,aG,cn]; lia
end L2
end
section
namespace My
open PySem L2 PyProof.Rows
variable {H:Hp} {Q:VK} {k:Nat} {ot rw:List #[ww]} {pl q:List Int}
theorem zj0 (w:Int) (rw:List #[ww]) (i:Nat):gR w rw (i+1)=gR w rw i++(if hd' rw i=true then [gJ w rw i] else []):=by
 unfold gR;rw [cQ,bW,am];by_cases h:hd' rw i=true
 ·rw [if_pos h,bb h]; rfl
 ·rw [if_neg h,bd h]; rfl
theorem zg7 (w:Int) (rw ot:List #[ww]) (i:Nat):gO w rw ot (i+1)=gO w rw ot i++(if ex' rw ot i=true then [gJ w ot i] else []):=by
 unfold gO;rw [cQ,bW,am];by_cases h:ex' rw ot i=true
 ·rw [if_pos h,bb h]; rfl
 ·rw [if_neg h,bd h]; rfl
theorem zm3 (w:Int) (rw:List #[ww]) (n:Nat):(gR w rw n).length<=n:=by
 unfold gR;rw [ab];exact aV (b9 _ _) (by rw [bF]; exact af _)
theorem zm4 (w:Int) (rw ot:List #[ww]) (n:Nat):(gO w rw ot n).length<=n:=by
 unfold gO;rw [ab];exact aV (b9 _ _) (by rw [bF]; exact af _)
theorem zoQ {i:Nat} {y:Int} (w:Int) (h:rw[i]? = some (some y)):gJ w rw i=((i:Int),y,w):=by
 unfold gJ enY;rw [h];rfl
theorem zj1 {i:Nat} {y:Int} (h:rw[i]? = some (some y)):hd' rw i=true:=by unfold hd'; rw [h]; rfl
theorem zj2 {i:Nat} (h:rw[i]? = some none):¬ hd' rw i=true:=by unfold hd'; rw [h]; simp
theorem zqy {w:Int} {n:Nat}:∀ q∈gR w rw n,q.2.2=w:=fun q hq=>by
 obtain⟨j,_,rfl⟩:=aw.mp hq;rfl
theorem zqW {w:Int} {n:Nat}:∀ q∈gO w rw ot n,q.2.2=w:=fun q hq=>by
 obtain⟨j,_,rfl⟩:=aw.mp hq;rfl
theorem zj3 {α β:Type} {f:α->Option β} {p:α->Bool} {g:α->β} (h:∀ a,f a=if p a=true then some (g a) else none):∀ l:List α,l.filterMap f=(l.filter p).map g
 | []=>rfl
 | a :: l=>by
  have ih:=zj3 h l;by_cases hp:p a=true
  ·rw [List.filterMap_cons_some (b:=g a) (by rw [h,if_pos hp]),bb hp,aM,ih]
  ·rw [List.filterMap_cons_none (by rw [h,if_neg hp]),bd hp,ih]
theorem zp0 {w:Int} (hl:rw.length=pl.length):#[Ow].map (ptw pl)=mS pl rw:=by
 have e:mS pl rw=(ixs pl.length).filterMap fun i=>(glO rw i).map fun y=>(glI pl i,y):=by
  rw [<- zmY,zok,<- hl,zol]
 rw [e];unfold ixs gR;rw [j8,aR];refine (zj3 (fun j=>?_) _).symm;show (glO rw (j:Int)).map _=_;unfold glO hd';rw [bh];cases h:(rw[j]?).getD none with
 | none=>rfl
 | some y =>
  show some (glI pl (j:Int),y)=some (ptw pl (gJ w rw j));unfold ptw gJ enY glI gl;rw [h];rfl
theorem zj4 {α:Type} (a b:α->Bool):∀ l:List α,(l.filter a).length<=(l.filter b).length+((l.filter a).filter fun x=>!b x).length
 | []=>by simp
 | x :: l=>by
  have ih:=zj4 a b l;by_cases h1:a x=true
  ·by_cases h2:b x=true
   ·rw [bb h1,bb h2,bd (by simp [h2])];simp only [bu];lia
   ·rw [bb h1,bd h2,bb (by simp [h2])];simp only [bu];lia
  ·rw [bd h1];by_cases h2:b x=true
   ·rw [bb h2];simp only [bu];lia
   ·rw [bd h2];exact ih
theorem zqz {p:Int} {f:List Int} {n:Nat}:#[OD].length<=#[Po].length+(#[OD].filter fun j=>!zby p pl rw f j).length:=zj4 _ _ _
theorem zeu {p:Int} (hl:rw.length=pl.length):(fN p pl rw q pl.length).length=hits p q #[MY]:=by
 rw [<- zjB hl,zg6,ab]
theorem zg8 {p w:Int} {f:List Int} {ts:List Wt3} (h:ts.Perm (gR w rw pl.length++gO w rw ot pl.length)):wsum p f #[BT]=w*(zio (zb0 p pl rw f pl.length++zb0 p pl ot f pl.length):Int):=by
 rw [zc7 (h.map (wpp pl)),am,zia,zmZ (af _),zpV (af _),zir];grind
theorem zoq {p w:Int} {f:List Int} {ts:List Wt3} (hl:rw.length=pl.length) (h:ts.Perm #[Ow]):wsum p f #[BT]=w*(hits p f #[MY]:Int):=by
 rw [zc7 (h.map (wpp pl)),zmZ (af _),zeu hl]
theorem zj5 {α β:Type} {F:α->β->Prop}:∀ {as:List α} {bs:List β} (n:Nat),Paired F as bs->Paired F (as.take n) (bs.take n)
 | _,_,0,h=>by simp only [c7]; exact .nil
 | _,_,n+1,.nil=>by simp only [gc]; exact .nil
 | _,_,n+1,.cons a h=>by simp only [gN]; exact .cons a (zj5 n h)
theorem zm5 {α β:Type} {F:α->β->Prop} {as:List α} {bs:List β} {a:α} {b:β} (n:Nat) (h:Paired F as bs) (x:F a b):Paired F (as.take n++a :: as.drop n) (bs.take n++b :: bs.drop n):=zbe (zj5 n h) (.cons x (zcY n h))
theorem zis {β:Type} (bs:List β) (b:β) (n:Nat):(bs.take n++b :: bs.drop n).Perm (bs++[b]):=by
 refine kY.trans ?_;rw [bT];exact (List.perm_append_singleton _ _).symm
theorem T3.off {l:Addr} {xs:List V} {o:HO} {bs:List Addr} {ts:List Wt3} (hl:H l=some #[Ob]) (h:T3 H bs ts):T3 (lP H l o) bs ts:=c6 (fun b q z=>by rw [zn (fun e=>by rw [e,hl] at z; cases z)]; exact z) h
theorem zfg {K:ah} {a b:Addr} {bs:List Addr} (ha:lO K H a #[Of]) (hb:lO K H b []) (q:Q (.bl (!decide (bs = []))) H):zpi K true #[M8] #[Ql] H Q:=by
 refine⟨a,b,_,[],rfl,rfl,.inl ⟨ha,hb⟩,?_⟩;cases bs with
 | nil=>exact .inr ⟨rfl,fun _=>true,fun j x y h=>by simp at h,q⟩
 | cons c bs=>exact .inl ⟨#[M],fun j x y _ h=>by simp at h,q⟩
theorem zor {w low T:Int} (w1:1<=w) (k1:1<=k) (h:low<=((k - 1:Nat):Int)*w) (hT:(k:Int)<=T):low < (T - 1)*w+1:=by
 have h1:((k - 1:Nat):Int)<=T - 1:=by lia
 have h2:=cS h1 (show 0<=w by lia);lia
theorem zm6 {w low:Int} (w1:1<=w) (k1:1<=k) (h:low<=((k - 1:Nat):Int)*w):low < (k:Int)*w:=by
 have h1:(k:Int)=((k - 1:Nat):Int)+1:=by lia
 have h2:(((k - 1:Nat):Int)+1)*w=((k - 1:Nat):Int)*w+w:=by grind
 rw [h1,h2];lia
end My
end
section
namespace My
open PySem PySem.Spec L2 PyProof.Rows
variable {H:Hp} {X:Cx} {q:List Int}
noncomputable def isAt (H:Hp) (q:List Int) (u:Value):Bool:=@decide (∃ b,u = .ref b/\H b=some (.tup #[PQ])) (iZ _)
theorem zj6 {p:List Int} (h:some (HO.tup (p.map V.int))=some (HO.tup #[PQ])):p=q :=
 (List.map_inj_right fun a b z=>by simpa using z).mp (HO.tup.inj (aS h))
theorem zj7 {q':List Int} {b:Addr} (h:H b=some (.tup #[Rw])):isAt H q #[Ql]=decide (q'=q):=by
 unfold isAt;rw [cL,@decide_eq_true_iff _ (iZ _),decide_eq_true_iff];constructor
 ·rintro⟨b',eb,hb⟩;cases eb;exact zj6 (h.symm.trans hb)
 ·rintro rfl;exact⟨b,rfl,h⟩
theorem zd3 {H:Hp} {q:List Int}:∀ {rs:List Addr} {qs:List #[GE]} {us:List Value},zbU H rs qs->zU #[Oc] us->us.any (isAt H q)=decide (q∈qs)
 | _,_,_,.nil,.nil=>by simp
 | r :: rs,q' :: qs,u :: us,.cons h t,.cons ru tu=>by
  have ih:=zd3 (q:=q) t tu;cases ru;rw [io,ih,zj7 h,cL,li,decide_eq_true_iff,decide_eq_true_iff,decide_eq_true_iff,aB];exact⟨fun z=>z.imp lE id,fun z=>z.imp lE id⟩
theorem zk7 {K:ah} (hK:X.K=K) (hu:X.A.units+20 < cLine):OpR X (compareOp .NotIn) (fun x y H Q=>∃ (a l:Addr) (q:List Int) (rs:List Addr) (qs:List #[GE]),x = .ref a/\y = .ref l/\H a=some (.tup #[PQ])/\lO K H l #[Oc]/\zbU H rs qs/\Q (.bl (!decide (q∈qs))) H):=by
 subst hK;intro lN s σ H x y v u Q I rx ry h;obtain⟨a,l,q,rs,qs,rfl,rfl,ha,hl,hT,hQ⟩:=h;cases rx;cases ry;obtain⟨lQ,r,pl,hz⟩:=I.list hl;refine SeqAt.notIn_listAt (isAt H q) pl.isList (fun w hw=>?_) #[Pq]
 ·have hw:w∈lQ:=by simpa using hw
  obtain⟨j,hj⟩:=cV.mp hw;obtain⟨xQ,rB⟩:=av.mp hj;obtain⟨z,qA,rz⟩:=r.LB (j:=j) xQ;obtain⟨b,rfl,hb⟩:=zV qA;obtain⟨q',rk,hH⟩:=Paired.get hT hb;have wG:lQ.toArray[j]=w:=by simpa using rB
  rw [wG] at rz;cases rz;have hH:H b=some (.tup #[Rw]):=hH;rw [zj7 hH];by_cases e:b=a
  ·subst e;rw [zj6 (hH.symm.trans ha),decide_eq_true rfl];exact (EqD.same (K:=X.K) (H:=H) (d:=8) (a:=b)).at I X.A.in1 #[Ql] #[Ql] rfl rfl (by simp only [dn]; lia)
  ·have e2:=(EqD.La (d:=8) e (lY.of hH) (lY.of ha) zlu).at I X.A.in1 #[Ql] #[M8] rfl rfl (by simp only [dn]; lia);have e4:((aN (min #[Rw].length #[PQ].length)).all (fun j=>decide (q'[j]? = q[j]?)) && #[Rw].length == #[PQ].length)=decide (q'=q):=by
    rw [ab,ab,cL];simp only [fb,fc,bJ,decide_eq_true_eq,beq_iff_eq];constructor
    ·rintro⟨h1,h2⟩;refine ee fun j=>?_
     by_cases hj:j < q'.length
     ·exact h1 j #[O]
     ·rw [bX #[O],bX #[O]]
    ·rintro rfl;exact⟨fun _ _=>rfl,rfl⟩
   rw [<- e4];exact e2
 ·rw [List.any_toArray,zd3 hT r];exact hQ
end My
end
section
namespace My
open PySem L2 PyProof.Rows
variable {H H':Hp} {Q:VK} {an od:Option Addr} {cP:Addr} {cd ct oc pm:Value} {fd:FuncData} {h:Heap} {mg:Str->Option Value} {pl:List Int} {sl:Array #[Qd]} {us:List Value} {w:World} {ys:List V}
section
variable {P:Program} {w:World} {K:ah} {mg:Str->Option Value} {base:Heap} {t:Adr}
theorem zos {a b:Addr} {xs:List V} {ps:Array Value} (hP:H b=some (.tbl ps)) (h:lO K H a xs):lO K (hide H b) a xs:=by
 rcases h with (h | ⟨o,h⟩) | h
 ·exact .inl (.inl (zag h fun e=>by rw [e,hP] at h; cases h))
 ·exact .inl (.inr ⟨o,zag h fun e=>by rw [e,hP] at h; cases h⟩)
 ·exact .inr h
theorem zj8 {t:Adr} {G:Hp} (h0:G t.tab=none) (s:zr G H) (s':zr #[Ry] H'):zr G H':=fun b u e=>s' _ _ (zag (s _ _ e) (zu e h0))
theorem zaY.hid {b c tt:Addr} {p k:Int} {ps:Array Value} (hP:H b=some (.tbl ps)) (h:zaY H c tt p k pl):zaY (hide H b) c tt p k pl:=⟨zag h.1 (fun e=>by have:=h.1; rw [e,hP] at this; cases this),zag h.2 (fun e=>by have:=h.2; rw [e,hP] at this; cases this)⟩
theorem zk8 {a b:Addr} {xs:List V} (ha:lO K H a xs) (hb:lO K H b ys) (hl:xs.length=ys.length) (he:∀ (j:Nat) x y,xs[j]? = some x->ys[j]? = some y->EqD K H 8 x y true) (q:Q (.bl false) H):zpi K true #[M8] #[Ql] H Q:=by
 refine⟨a,b,_,_,rfl,rfl,.inl ⟨ha,hb⟩,.inr ⟨hl,fun _=>true,he,?_⟩⟩;have:#[RA].all (fun _=>true)=true:=by simp
 rw [this];exact q
theorem zj9 (p:Int) (pl:List Int) (rw:List #[ww]) (f:List Int) (n:Nat):(zb0 p pl rw f n).length<=n:=by
 rw [zg6,ab];exact aV (b9 _ _) (by rw [bF]; exact af _)
noncomputable def zm7 (t:Adr) (K:ah):Sp:=fun vs H Q _=>∃ (a:Addr) (ns:List Int),vs = [.ref a]/\lO K H a #[xz]/\ns.length<=63/\TbA t H/\∀ H',Q (.bl true) H'
theorem zau:IJ ["script","at","code","p","k","places","row","other","plan","weight","some","turned","j","guess","t","m","small","more","number","entry","told","one","both"] ["script"] (zi zcq):=#[S]
theorem zp1 (T:Txt K mg base t) (F:Fun K "law" "law" zcq t.law fd):Jk P w K mg base CX0 9 t.law fd ["script"] (zm7 t K):=by
 obtain⟨vL,tS,qR⟩:=T.KH;have wX:=zk0 (P:=P) (w:=w) (base:=base) T tS;obtain⟨wY,sJ,qC⟩:=T.K5;have vd:=zmH (P:=P) (w:=w) (base:=base) T sJ;obtain⟨ph,mC,mK⟩:=T.Jz;have nc:=zdm (P:=P) (w:=w) (base:=base) T mC;obtain⟨wZ,sL,qD⟩:=T.K6;have ve:=zmU (P:=P) (w:=w) (base:=base) T sL;obtain⟨tT,n6,nr⟩:=T.J3;have pj:=zin (P:=P) (w:=w) (base:=base) T n6;obtain⟨tU,qS,pq⟩:=T.J0;have uO:=zil (P:=P) (w:=w) (base:=base) T qS;obtain⟨sM,qo,oJ⟩:=T.JL;have tV:=zgX (P:=P) (w:=w) (base:=base) T qo;obtain⟨vc,pZ,p8⟩:=T.Ld;have sI:=zjU (P:=P) (w:=w) (base:=base) T pZ;obtain⟨sN,qp,oK⟩:=T.JJ;have tW:=zgS (P:=P) (w:=w) (base:=base) T qp;refine F.ok zau #[re] #[mt]
 ·obtain⟨a,ns,rfl,_⟩:=h;rfl
 ·obtain⟨a,ns,rfl,hS,lT,wK,q⟩:=h;have hu:(A.deeper (envOfC (bD "law") (zi zcq) s.heap.objs.size t.law mE)).units+20 < cLine:=by have:=hr.units; lia
  refine zaW ?_; intro zX;refine⟨_,#[zd,#[zaF,bp,#[zai,T.IS,#[ya,#[zg]]],#[zf,1,zau.nd,#[A]],#[zd,#[zm,2,zau.nd,#[A],#[zo,wX,#[sn],T.LK,tS.kp,qR,#[zJ],#[za,#[AC],by exact #[za,#[Nb],#[Ix]]]]],#[zd,#[zbs,#[Fa],#[zaE,#[zh,#[zf,3,zau.nd,#[A]],#[zh,#[zf,4,zau.nd,#[A]],#[zh,#[zf,5,zau.nd,#[A]],#[zy]]]]]],#[zd,#[zm,6,zau.nd,#[A],#[R9]],#[zd,#[zm,7,zau.nd,#[A],#[R9]],#[zd,#[zm,8,zau.nd,#[A],#[zo,nc,#[sn],T.JT,mC.kp,mK,#[zJ],#[za,#[AC],by exact #[za,#[Py],#[Ix]]]]],#[zd,(ziR #[zm,9,zau.nd,#[Oo],#[zj,#[zL],#[zg],#[Db]]]),#[zd,#[zaK,10,zau.nd,#[A],(IK.of (N':=["number","entry","weight"]) (ix:=[none,none,some 9]) (zi zcq) _ rfl rfl rfl),#[wE],#[zds,T.Jo,#[Sf]],#[or],#[RN],(fun _ _ _ _=>#[zaS,#[za,#[AC],#[PK]]])],#[zd,#[zm,11,zau.nd,#[A],#[NT]],#[zd,#[zaF,bp,#[zds,T.Jo,#[ya,#[Rm]]],#[zaE,#[zh,#[zf,12,zau.nd,#[A]],#[zh,#[zf,13,zau.nd,#[A]],#[zy]]]],#[zl,#[zbR,#[zdX,cq,fO,iT,zf7,#[pvx,11],#[za,#[zj,#[zO],#[zR,#[zG],#[PV],#[zj,#[zL],#[zg],#[pvx,12]]],#[zj,#[zL],#[zw,#[zI],T.Ki,cp,#[Px]],#[zg]]],#[ya,#[pvx,13]]]]]]],#[zd,#[zaF,bp,#[z8,#[zbc,zbT,#[zac,#[za,#[M5],#[za,#[zj,#[zL],#[M5],#[zg]],#[ya,#[zj,#[zL],#[M5],#[zg]]]]]],#[zbS],#[zbt,#[zj,#[zW],#[zg],#[zan,(@zke _),T.ML,boot_int,#[ya,(@znf _ _ _ _ _ _ _ _ #[zgk,hu] #[Rm] #[NT] (zY _))]]]]]],#[zf,14,zau.nd,#[A]],#[zl,#[zbo,#[zH,#[zgk,hu],#[zo,ve,#[sn],T.Lw,sL.kp,qD,#[zJ],#[za,#[Fa],#[za,#[zan,#[zcw],T.LM,kf,#[Px]],#[ya,#[zj,#[zL],#[zj,#[zW],#[zj,#[zaV],#[pvx,14],#[zg]],#[Qk]],#[zg]]]]]],#[zo,pj,#[sn],T.JY,n6.kp,nr,#[zJ],#[za,#[Fa],#[za,#[On],#[ya,#[pvx,14]]]]],(zY _)],#[Pp],#[zam]]]],#[zd,(ziR #[zm,15,zau.nd,#[Oo],#[zj,#[zL],#[zg],#[Db]]]),#[zd,#[zaK,16,zau.nd,#[A],(IK.of (N':=["number","entry","unused","m"]) (ix:=[none,none,none,some 15]) (zi zcq) _ rfl rfl rfl),#[NZ],#[z8,#[pvx,11]],#[wv],#[ul],(fun _ _ _ _=>#[zaS,#[za,#[AC],#[Pz]]])],#[zd,(ziR #[zbo,(@PW.pt _ _ _ #[zf9,#[zH,#[zhh],#[M5],#[zg],(zY _)],#[zf9,#[zH,#[zgk,hu],#[Rm],#[NT],(zY _)],#[zf8,#[zH,#[zhg],#[zR,#[zcv],#[zo,uO,#[sn],T.Lh,qS.kp,pq,#[zJ],#[za,#[Fa],#[ya,#[pvx,16]]]],#[zg]],#[zR,#[zcv],#[zo,tV,#[sn],T.K4,qo.kp,oJ,#[zJ],#[za,#[Fa],#[za,#[On],#[ya,#[pvx,15]]]]],#[zg]],(zY _)]]]]),#[Pp],#[zam]]),#[zd,#[zm,17,zau.nd,#[A],#[zan,#[zcw],T.LM,kf,#[Px]]],#[zd,#[zaF,bp,#[zds,T.Jo,#[ya,#[RY]]],#[zaE,#[zh,#[zf,18,zau.nd,#[A]],#[zh,#[zf,19,zau.nd,#[A]],#[zy]]]],#[zl,#[zbo,(@PW.pt _ _ _ #[zf9,#[zH,#[zga],#[pvx,19],#[zdN],(zY _)],#[zf8,#[zH,#[zhg],#[pvx,19],#[zR,#[zG],#[On],#[pvx,18]],(zY _)]]]),#[zl,#[zbR,#[zdX,cq,fO,iT,zf7,#[pvx,17],#[za,#[zj,#[zO],#[zR,#[zG],#[PV],#[zj,#[zL],#[zg],#[pvx,18]]],#[zj,#[zL],#[zw,#[zI],T.Ki,cp,#[ya,#[pvx,17]]],#[zg]]],#[ya,#[zaS,#[za,#[pvx,18],#[za,#[pvx,19],#[ya,#[Qk]]]]]]]]]],#[zam]]]],#[zl,#[zbo,#[zH,#[zgk,hu],#[pvx,17],#[NT],(zY _)],#[zd,#[zm,20,zau.nd,#[A],#[zo,ve,#[sn],T.Lw,sL.kp,qD,#[zJ],#[za,#[Fa],#[za,#[zan,#[zcw],T.LM,kf,#[ya,#[pvx,17]]],#[ya,#[zj,#[zW],#[M5],#[Qk]]]]]]],#[zd,#[zaF,bp,#[z8,#[pvx,20]],#[zf,21,zau.nd,#[A]],#[zd,#[zaK,22,zau.nd,#[A],(IK.of (N':=["number"]) (ix:=[none]) (zi zcq) _ rfl rfl rfl),#[za9],#[z8,#[zj,#[zcx],#[zo,sI,#[sn],T.Lx,pZ.kp,p8,#[zJ],#[za,#[Fa],#[za,#[On],#[ya,#[pvx,21]]]]],#[zo,sI,#[sn],T.Lx,pZ.kp,p8,#[zJ],#[za,#[Fa],#[za,#[RY],#[ya,#[pvx,21]]]]]]],#[wf],#[ul],#[NN]],#[zl,#[zbo,(@PW.pt _ _ _ #[zou,#[zH,#[zhg],#[zo,tW,#[sn],T.K2,qp.kp,oK,#[zJ],#[za,#[Fa],#[za,#[pvx,17],#[ya,#[pvx,21]]]]],#[zj,#[zW],#[Qk],#[Qz]],(zY _)],#[zla,#[zH,#[zey],#[Qz],#[M5],(zY _)]]]),#[Pp],#[zam]]]]],#[zl,#[zaF,bp,#[z8,#[zj,#[zcx],#[zo,pj,#[sn],T.JY,n6.kp,nr,#[zJ],#[za,#[Fa],#[za,#[On],#[OU]]]],#[zo,pj,#[sn],T.JY,n6.kp,nr,#[zJ],#[za,#[Fa],#[za,#[RY],#[OU]]]]]],#[zf,21,zau.nd,#[A]],#[zl,#[zbo,#[zH,(zk7 (K:=K) rfl hu),#[pvx,21],#[pvx,20],(by with_unfolding_all rfl)],#[Pp],#[zam]]]]]]],#[zam]]]]]]]]]]]]]]]]]]],#[Pp]],?_⟩;refine zln ?_; intro pF;have pO:=aW;obtain⟨ps0,E2⟩:=wK.at_;have hG0:hide H t.tab t.tab=none:=by unfold hide; rw [if_pos rfl]
  have DE:=zos (K:=K) E2 hS;have hGH:=zcm H t.tab;generalize hide H t.tab=G at hG0 DE hGH |-;refine⟨2,rfl,#[D],#[D],?_⟩;refine zbk (lo:=0) (n:=2) (fun i σ H'=>∃ e1 e2 e3 e4 e5 e6 e7 e8 e9 sC wc wd we x6 BP x3 xw xy xA yg yh yi:Option V,σ = [some #[M8],e1,e2,e3,e4,e5,e6,e7,e8,e9,sC,wc,wd,we,x6,BP,x3,xw,xy,xA,yg,yh,yi]/\zr G H'/\TbA t H') ⟨none,none,none,none,none,none,none,none,none,none,none,none,none,none,none,none,none,none,none,none,none,none,rfl,hGH,wK⟩ ?_ ?_
  ·rintro zD zT i σ H0 hi ⟨e1,e2,e3,e4,e5,e6,e7,e8,e9,sC,wc,wd,we,x6,BP,x3,xw,xy,xA,yg,yh,yi,rfl,s0,tb0⟩;refine⟨_,rfl,_,rfl,_,_,rfl,rfl,.inl #[FB],a,ns,6*(0+(i:Int)),4,10,rfl,s0.seq DE,lT,#[O],#[O],#[D],#[D],#[D],#[D],fun c tt p kI pl H1 hc1 s1 co sy h1t=>?_⟩;have rp:=zC co.pr;have k1:=co.k1;have kk:=co.kk;have kn:=co.kl;have ln:=co.ln;have p0:0 < p:=by lia
   obtain⟨k,rfl⟩:∃ k:Nat,kI=k:=⟨kI.toNat,#[O]⟩;have Ii:zaY H1 c tt p k pl:=⟨sy,h1t⟩;have wj:=s0.trans s1;refine⟨_,rfl,c,_,rfl,lY.of sy,rfl,_,_,rfl,_,_,rfl,_,_,rfl,rfl,?_⟩;refine⟨_,rfl,_,rfl,_,_,rfl,rfl,.inl #[FB],_,_,rfl,rfl,_,rfl,a,c,tt,ns,6*(0+(i:Int))+1,p,k,pl,rfl,wj.seq DE,lT,#[O],#[O],Ii,#[O],#[O],co.rg,#[O],fun r rw H2 yH s2 oX va h2r=>?_⟩;have EY:=wj.trans s2;refine⟨_,rfl,_,rfl,_,_,rfl,rfl,.inl #[FB],_,_,rfl,rfl,_,rfl,a,c,tt,ns,6*(0+(i:Int))+3,p,k,pl,rfl,EY.seq DE,lT,#[O],#[O],Ii.same s2,#[O],#[O],co.rg,#[O],fun r2 ot H3 hr3 s3 yX xH h3o=>?_⟩;have s03:=EY.trans s3;refine⟨_,rfl,_,rfl,_,_,rfl,rfl,.inl #[FB],_,_,rfl,rfl,a,ns,6*(0+(i:Int))+5,40,27720,rfl,s03.seq DE,lT,#[O],#[O],#[D],#[D],#[D],#[D],fun dl ds H4 tP s4 ok h4=>?_⟩;have hc4:=(Ii.same #[Sh]).same s4;have DF:=(s3.trans s4) _ _ h2r;have h4o:=s4 _ _ h3o;have sG4:=s03.trans s4;have tb4:=tb0.same (s1.trans (s2.trans (s3.trans s4)));obtain⟨d0,hd0,_⟩:=zjM (i:=0) ok #[D] #[D];refine⟨fun σ H'=>∃ w:Int,σ = [some #[M8],some (.int (0+(i:Int))),some #[PY],some #[OZ],some (.int (k:Int)),some #[QU],some (.ref r),some #[Sc],some #[Sd],some (.int w),sC,wc,wd,we,x6,BP,x3,xw,xy,xA,yg,yh,yi]/\H'=H4/\1<=w/\w<=9,?_,?_⟩
   ·exact⟨_,rfl,dl,_,_,_,rfl,rfl,lO.of h4,hd0,_,_,rfl,rfl,(by show (0:Int) < 9; decide),_,_,rfl,rfl,1+d0 % 9,rfl,rfl,#[O],#[O]⟩
   rintro σ' H4' ⟨w,rfl,rfl,w1,w9⟩;have rl:(rw.map pB).length=pl.length:=by rw [ab]; exact oX
   have ol:(ot.map pB).length=pl.length:=by rw [ab]; exact yX
   refine⟨_,rfl,r,_,rfl,lO.of DF,z9 (n:=pl.length) (fun j ys H'=>∃ us:List Addr,ys=us.map V.ref/\zr H4' H'/\T3 H' us (gR w rw j)) ⟨[],rfl,fun _ _ e=>e,.nil⟩ ?_ ?_ ?_ ?_⟩
   ·rintro j ys H' hj ⟨_,_,s',_⟩;exact⟨_,pB (rw[j]'#[O]),lO.of (s' _ _ DF),by rw [aj,ag #[O]]; rfl⟩
   ·rintro ys H' ⟨_,_,s',_⟩;exact⟨_,lO.of (s' _ _ DF),#[O]⟩
   ·rintro zS zT zE j xx ys H' Ij hj ⟨us,rfl,s',h3⟩ ⟨T',v,uC,rfl,rfl,hv⟩;obtain⟨o,rfl,ho⟩:=zei (hv _ (lO.of (s' _ _ DF)));have s5:=zb (o:=.tup [.int (j:Int),pB o]) uC;have Ik:=h3.same s5;have rm:us.length=(gR w rw j).length:=h3.length;have hgl:=zm3 w rw j;refine#[NQ];generalize lP H' T' (.tup [.int (j:Int),pB o])=H5 at s5 Ik |-;refine#[Q9];cases o with
    | none =>
     refine zki ⟨us,rfl,s'.trans s5,?_⟩;rw [zj0,if_neg (zj2 ho),bH];exact Ik
    | some y =>
     refine zpb ⟨_,rfl,_,rfl,_,rfl,by show 3<=sizeLine; lia,fun T2 o7=>⟨by rw [ab]; lia,us++[T2],by rw [am]; rfl,s'.trans (s5.trans (zb o7)),?_⟩⟩;rw [zj0,if_pos (zj1 ho),zoQ w ho];exact zbe (Ik.same (zb o7)) (.cons zc .nil)
   rintro ys H5 SA ⟨sb,rfl,s5,Bp⟩ hSA;have u6:=s5.trans #[Sn];have BQ:lP H5 SA #[O7] SA=some #[O7]:=zc;have yF:=Bp.same #[Sn];generalize lP H5 SA #[O7]=H6 at u6 BQ yF |-;have Il:sb.length=#[Ow].length:=yF.length;have hgl:=zm3 w rw pl.length;refine⟨by show 0<=sizeLine; lia,fun TA hTA=>?_⟩;have u7:=zb (o:=.lst []) hTA;have DG:lP H6 TA (.lst []) TA=some (.lst []):=zc;generalize lP H6 TA (.lst [])=H7 at u7 DG |-;have h6d:=u6 _ _ h4;refine⟨_,rfl,SA,_,rfl,lO.of (u7 _ _ BQ),zdr (n:=sb.length) (fun j σ H'=>∃ (yj yk:Option V) (us:List Addr) (ts:List Wt3),σ = [some #[M8],some (.int (0+(i:Int))),some #[PY],some #[OZ],some (.int (k:Int)),some #[QU],some (.ref r),some #[Sc],some #[Sd],some (.int w),some (.ref SA),some (.ref TA),yj,yk,x6,BP,x3,xw,xy,xA,yg,yh,yi]/\zr H6 H'/\H' TA=some #[R0]/\T3 H' us ts/\ts.Perm (#[Ow].take j))
    ⟨_,_,[],[],rfl,u7,DG,.nil,.nil⟩ ?_ ?_ ?_ ?_⟩
   ·rintro j σ H' hj ⟨_,_,_,_,_,s',_⟩;exact⟨_,.ref (sb[j]'hj),lO.of (s' _ _ BQ),by rw [aj,ag hj]; rfl⟩
   ·rintro σ H' ⟨_,_,_,_,_,s',_⟩;exact⟨_,lO.of (s' _ _ BQ),by rw [ab]; lia⟩
   ·rintro zD zT j xx σ H' Ij hj ⟨yj,yk,us,ts,rfl,s',yr,xj,pD⟩ ⟨T',v,uC,rfl,rfl,hv⟩;obtain⟨b,rfl,hb⟩:=zV (hv _ (lO.of (s' _ _ BQ)));obtain⟨z,hz,Bo⟩:=Paired.get yF hb;have s8:=zb (o:=.tup [.int (j:Int),.ref b]) uC;have uk:=s8 _ _ yr;have AX:=xj.same s8;refine#[NQ];have xa:=s'.trans s8;generalize lP H' T' (.tup [.int (j:Int),.ref b])=H8 at xa uk AX |-;have m8:=pD.length_eq;have rm:us.length=ts.length:=xj.length;rw [aG] at m8;obtain⟨d,hd,_⟩:=zjM (i:=1+(j:Int)) ok #[O] (by show 1+(j:Int) < 40; lia);have lm:(#[IR].length:Int)=(us.length:Int):=by rw [ab]
    have c0:=aO d (show (us.length:Int)+1≠0 by lia);have c1:=aK d (show (0:Int) < (us.length:Int)+1 by lia);refine⟨_,rfl,.inl ⟨rfl,_,lO.of uk⟩,_,rfl,_,rfl,_,_,rfl,rfl,dl,_,_,_,rfl,rfl,lO.of (xa _ _ h6d),hd,_,rfl,TA,_,rfl,.inl (lO.of uk),_,_,rfl,rfl,_,_,rfl,rfl,(by rw [lm]; lia),_,rfl,?_⟩;refine⟨TA,_,_,_,(d % ((us.length:Int)+1)).toNat,rfl,rfl,by rw [lm]; lia,uk,by rw [ab]; lia,by rw [ab]; lia,?_⟩;refine⟨_,_,us.take (d % ((us.length:Int)+1)).toNat++b :: us.drop (d % ((us.length:Int)+1)).toNat,ts.take (d % ((us.length:Int)+1)).toNat++z :: ts.drop (d % ((us.length:Int)+1)).toNat,rfl,zah xa hTA,?_,T3.off uk (zm5 _ AX (xa _ _ Bo)),?_⟩
    ·rw [zc,am,aM,dJ,fq]
    ·rw [take_snoc hz];exact (zis _ _ _).trans (pD.append_right _)
   rintro σ H8 ⟨yj,yk,tu,ts,rfl,s8,uk,yE,yb⟩;rw [Il,bC] at yb;have pR:ts.length=#[Ow].length:=yb.length_eq;have rm:tu.length=ts.length:=yE.length;have BR:=u6.trans s8;have sG8:=sG4.trans BR;have tb8:=tb4.same BR;have G1:=hc4.same BR;have BF:=BR _ _ DF;have Im:=BR _ _ h4o;have BM:=BR _ _ h4;have E7:=s8 _ _ BQ;obtain⟨ps8,AY⟩:=tb8.at_;have yY:=G1.hid AY;have BS:=yE.hid AY;have yl:hide H8 t.tab TA=some #[Nj]:=zag uk (fun e=>by rw [e,AY] at uk; cases uk);have E8:hide H8 t.tab SA=some #[O7]:=zag E7 (fun e=>by rw [e,AY] at E7; cases E7);have AZ:hide H8 t.tab r=some #[N9]:=zag BF (fun e=>by rw [e,AY] at BF; cases BF);have DH:hide H8 t.tab r2=some (.lst (ot.map pB)):=zag Im (fun e=>by rw [e,AY] at Im; cases Im);have DI:hide H8 t.tab dl=some #[QG]:=zag BM (fun e=>by rw [e,AY] at BM; cases BM);have hN:hide H8 t.tab t.tab=none:=by unfold hide; rw [if_pos rfl]
   have DJ:zr G (hide H8 t.tab):=fun b u e=>zag (sG8 _ _ e) (zu e hG0)
   have sX8:=zcm H8 t.tab;obtain⟨X8,hX8⟩:∃ X8,hide H8 t.tab=X8:=⟨_,rfl⟩;rw [hX8] at yY BS yl E8 AZ DH DI hN DJ sX8;clear hX8;have hGs:=zoP (pl:=pl) (p:=p) (by lia:(0:Int)<=w) (af _) va yb;have hk4:k<=4:=by lia
   have Dj:ts.length ^ k<=1000000:=aV (jX (show ts.length<=20 by lia) k) (aV (fh #[D] hk4) #[D]);obtain⟨low,oW,vB⟩:=zjY (w:=w) (us:=ts.map (wpp pl)) #[O] (fun q hq=>by
    obtain⟨z,hz,rfl⟩:=aw.mp hq;exact zqy z (yb.mem_iff.mp hz)) (k - 1)
   refine⟨_,rfl,_,rfl,_,_,rfl,rfl,_,rfl,_,_,rfl,rfl,by show 3<=sizeLine; lia,fun TL EX=>?_⟩;have v9:=zb (o:=.lst [V.int (k:Int),V.int ((k:Int)+1),V.int ((k:Int)+2)]) EX;have h9L:lP H8 TL (.lst [V.int (k:Int),V.int ((k:Int)+1),V.int ((k:Int)+2)]) TL=some (.lst [V.int (k:Int),V.int ((k:Int)+1),V.int ((k:Int)+2)]):=zc;generalize lP H8 TL (.lst [V.int (k:Int),V.int ((k:Int)+1),V.int ((k:Int)+2)])=H9 at v9 h9L |-;refine⟨_,rfl,by show 0<=sizeLine; lia,fun EL DK=>?_⟩;have v10:=zb (o:=.lst []) DK;have DL:lP H9 EL (.lst []) EL=some (.lst []):=zc;generalize lP H9 EL (.lst [])=BL at v10 DL |-;refine zfg (lO.of ((v9.trans v10) _ _ E7)) (lO.of DL) ?_;obtain⟨Ls,Ex,hLk⟩:∃ Ls:List Int,zcu [V.int (k:Int),V.int ((k:Int)+1),V.int ((k:Int)+2)] none (some (3*(if (!decide (sb = []))=true then 1 else 0)))=Ls.map V.int/\∀ x∈Ls,(k:Int)<=x:=by
    by_cases hb:sb = []
    ·exact⟨[],by rw [decide_eq_true hb]; exact ze3 _ 0,fun x hx=>by simp at hx⟩
    ·refine⟨[(k:Int),(k:Int)+1,(k:Int)+2],by rw [decide_eq_false hb]; exact ze3 _ 3,fun x hx=>?_⟩
     (simp only [aB,aY,or_false] at hx)
     lia
   refine .inr ⟨_,rfl,_,_,rfl,rfl,.inl #[FB],_,rfl,TL,_,rfl,lO.of (v10 _ _ h9L),fun l2 oT=>?_⟩;rw [Ex];have v11:=zb (o:=.lst (Ls.map V.int)) oT;have xb:lP BL l2 #[Pa] l2=some #[Pa]:=zc;have A0:=v9.trans (v10.trans v11);generalize lP BL l2 #[Pa]=yc at A0 xb |-;have DM:=tb8.same A0;obtain⟨ps11,Io⟩:=DM.at_;have hlX:hide yc t.tab l2=some #[Pa]:=zag xb (fun e=>by rw [e,Io] at xb; cases xb);have sO:zr X8 (hide yc t.tab):=fun b u e=>zag (A0 _ _ (sX8 _ _ e)) (zu e hN)
   have A8:hide yc t.tab t.tab=none:=by unfold hide; rw [if_pos rfl]
   have sY:=zcm yc t.tab;obtain⟨X,hX⟩:∃ X,hide yc t.tab=X:=⟨_,rfl⟩;rw [hX] at hlX sO A8 sY;clear hX;have yY:=yY.same sO;have BS:=BS.same sO;have yl:=sO _ _ yl;have E8:=sO _ _ E8;have AZ:=sO _ _ AZ;have DH:=sO _ _ DH;have DI:=sO _ _ DI;have DJ:=DJ.trans sO;refine⟨l2,rfl,⟨_,lO.of xb⟩,zaQ (K:=K) (a:=l2) (xs:=Ls.map V.int) (fun j σ H'=>∃ (yZ:Option V),σ = [some #[M8],some (.int (0+(i:Int))),some #[PY],some #[OZ],some (.int (k:Int)),some #[QU],some (.ref r),some #[Sc],some #[Sd],some (.int w),some (.ref SA),some (.ref TA),yj,yk,yZ,BP,x3,xw,xy,xA,yg,yh,yi]/\zr X H'/\TbA t H')
    ⟨_,rfl,sY,DM⟩ (fun j σ H' _ hq=>by obtain⟨_,_,s',_⟩:=hq; exact lO.of (s' _ _ hlX)) ?_ ?_⟩
   ·rintro zD zT j y σ Ha hy ⟨yZ,rfl,sa,Ip⟩;obtain⟨T',rfl,uC⟩:=zaL hy;have hTk:=hLk T' (aA uC);refine⟨_,rfl,_,rfl,TA,_,rfl,.inl (lO.of (sa _ _ yl)),fun hn Cn=>?_⟩;have vb:=zb (o:=.lst (tu.map V.ref)) Cn;have hbn:lP Ha hn #[Nj] hn=some #[Nj]:=zc;generalize lP Ha hn #[Nj]=Hb at vb hbn |-;have Iq:=sa.trans vb;refine⟨_,rfl,_,_,rfl,rfl,_,rfl,_,_,rfl,rfl,.inr #[wr],_,_,rfl,rfl,c,tt,hn,p,(T' - 1)*w+1,low,k,pl,tu,ts,rfl,yY.same Iq,hbn,BS.same Iq,hGs,co.pr,co.nd,co.rg,#[O],#[O],#[O],Dj,Ip.same vb,oW,zor w1 #[O] vB hTk,fun l rs qs Hc hlc sc DN oY hTc _ hRc ym=>?_⟩;have BU:zr X Hc:=zj8 (t:=t) A8 Iq sc;refine⟨_,rfl,_,rfl,_,rfl,c,tt,r,p,k,T',pl,rw,rfl,yY.same BU,BU _ _ AZ,oX,#[O],co.pr,co.nd,co.rg,va,#[O],#[O],hTk,fun l' Gv qs' Hd CB sd Ir hTd hRd hmd=>?_⟩;have eq:qs'=qs:=zjE hRd hRc fun x=>by rw [hmd,ym,zoq oX yb,zpY w1]
    subst eq;have DO:=hTc.same sd;have pN:=DO.length;have hl2':=hTd.length;exact zk8 (lO.of (sd _ _ oY)) (lO.of Ir) (by rw [ab,ab]; lia) (zn4 DO hTd) ⟨_,rfl,zki ⟨_,rfl,BU.trans sd,DN.same sd⟩⟩
   rintro σ Ha ⟨yZ,rfl,sa,Ip⟩;obtain⟨d20,Iu,_⟩:=zjM (i:=20) ok #[D] #[D];refine⟨fun σ H'=>∃ m:Nat,σ = [some #[M8],some (.int (0+(i:Int))),some #[PY],some #[OZ],some (.int (k:Int)),some #[QU],some (.ref r),some #[Sc],some #[Sd],some (.int w),some (.ref SA),some (.ref TA),yj,yk,yZ,some (.int (m:Int)),x3,xw,xy,xA,yg,yh,yi]/\H'=Ha/\1<=m/\m<=2,?_,?_⟩
   ·exact⟨_,rfl,dl,_,_,_,rfl,rfl,lO.of (sa _ _ DI),Iu,_,_,rfl,rfl,(by show (0:Int) < 2; decide),_,_,rfl,rfl,(1+d20 % 2).toNat,by rw [Int.toNat_of_nonneg #[O]]; rfl,rfl,#[O],#[O]⟩
   rintro σ' Ha' ⟨m,rfl,rfl,m1,m2⟩;have hTa:=BS.same sa;refine⟨_,rfl,TA,rfl,⟨_,lO.of (sa _ _ yl)⟩,z9 (n:=tu.length) (fun j ys H'=>∃ us:List Addr,ys=us.map V.ref/\zr Ha' H'/\T3 H' us ((ts.take j).map fun z=>(z.1,z.2.1,(m:Int)))) ⟨[],rfl,fun _ _ e=>e,.nil⟩ ?_ ?_ ?_ ?_⟩
   ·rintro j ys H' hj ⟨_,_,s',_⟩;exact⟨_,.ref (tu[j]'hj),lO.of #[Rb],by rw [aj,ag hj]; rfl⟩
   ·rintro ys H' ⟨_,_,s',_⟩;exact⟨_,lO.of #[Rb],by rw [ab]; lia⟩
   ·rintro zS zT zE j xx ys H' Ij hj ⟨us,rfl,s',h3⟩ ⟨rfl,hv⟩;obtain⟨b,rfl,hb⟩:=zV (hv _ (lO.of #[Rb]));obtain⟨z,hz,Bo⟩:=Paired.get hTa hb;have AS:us.length=((ts.take j).map fun z=>(z.1,z.2.1,(m:Int))).length:=h3.length;rw [ab,aG] at AS;refine gY3 (lY.of (s' _ _ Bo)) ⟨_,rfl,_,rfl,_,rfl,by show 3<=sizeLine; lia,fun T2 o7=>⟨by rw [ab]; lia,us++[T2],by rw [am]; rfl,s'.trans (zb o7),?_⟩⟩;rw [take_snoc hz,am];exact zbe (h3.same (zb o7)) (.cons zc .nil)
   rintro ys Hb SM ⟨sm,rfl,sb1,DP⟩ hSM;rw [rm,bC] at DP;have Iv:=sb1.trans (zb (o:=.lst #[Qb]) hSM);have hbS:lP Hb SM (.lst #[Qb]) SM=some (.lst #[Qb]):=zc;have DP:=DP.same (zb (o:=.lst #[Qb]) hSM);generalize lP Hb SM (.lst #[Qb])=Hc at Iv hbS DP |-;have BU:=sa.trans Iv;have DN:=Ip.same Iv;refine⟨fun σ H'=>σ = [some #[M8],some (.int (0+(i:Int))),some #[PY],some #[OZ],some (.int (k:Int)),some #[QU],some (.ref r),some #[Sc],some #[Sd],some (.int w),some (.ref SA),some (.ref TA),yj,yk,yZ,some (.int (m:Int)),some (.ref SM),xw,xy,xA,yg,yh,yi]/\zr X H'/\TbA t H',?_,?_⟩
   ·refine⟨_,rfl,_,_,rfl,rfl,_,rfl,zaO (fun hk=>?_) (fun _=>zaO #[Qg] fun _=>⟨rfl,BU,DN⟩)⟩;have rf:2<=k:=by
     have:=of_decide_eq_true hk;lia
    refine⟨_,rfl,by show 0<=sizeLine; lia,fun EL DK=>?_⟩;have v1:=zb (o:=.lst []) DK;have h1E:lP Hc EL (.lst []) EL=some (.lst []):=zc;generalize lP Hc EL (.lst [])=Hd at v1 h1E |-;have wm:=BU.trans v1;refine zfg (lO.of (wm _ _ E8)) (lO.of h1E) ⟨_,rfl,zaO #[wP] (fun _=>zaO #[Qg] fun _=>⟨rfl,wm,DN.same v1⟩)⟩;have Ey:tri m<=3:=by
     rcases (show m=1\/m=2 by lia) with rfl | rfl <;> decide
    refine⟨_,rfl,_,rfl,c,tt,SM,p,k,m,pl,sm,_,rfl,yY.same wm,v1 _ _ hbS,DP.same v1,fun q hq=>?_,co.pr,co.rg,rf,#[O],m1,#[O],?_,?_,fun z1 r1 DQ g1 He _ se qA L1=>⟨z1,_,_,_,rfl,rfl,lY.of qA,rfl,?_⟩⟩
    ·obtain⟨z,hz,rfl⟩:=aw.mp hq;obtain⟨a1,a2,a3,a4,_⟩:=hGs.rg z hz;exact⟨a1,a2,a3,a4,rfl⟩
    ·rw [ab];exact aV (jt (show ts.length<=10 by lia) Ey) #[D]
    ·rw [ab];lia
    have Iw:=wm.trans se;refine⟨_,rfl,_,rfl,_,rfl,c,tt,r,p,k,m,pl,rw,rfl,yY.same Iw,Iw _ _ AZ,oX,#[O],co.pr,co.nd,co.rg,va,rf,#[O],m1,#[O],?_,fun z2 r2' ls2 DR g2 Hf _ sf rA _ _ L2 _=>⟨z2,_,_,_,rfl,rfl,lY.of rA,rfl,rfl,?_⟩⟩
    ·exact aV (jt (aV (zb4 pl rw) (show pl.length<=10 by lia)) Ey) #[D]
    have ED:((ts.map fun z=>(z.1,z.2.1,(m:Int))).map (ptw pl)).Perm #[MY]:=by
     rw [<- zp0 (w:=w) oX,aR];exact yb.map (ptw pl)
    have a1:=zmX rf (zjV fun x hx=>(ED.map _).mem_iff.mp hx) L2 L1 p0;have a2:=zmX rf (zjV fun x hx=>(ED.map _).mem_iff.mpr hx) L1 L2 p0;obtain rfl:DQ=DR:=by lia
    refine⟨_,rfl,zaO #[Qg] fun _=>⟨rfl,Iw.trans sf,DN.same (v1.trans (se.trans sf))⟩⟩
   rintro σ' Hd ⟨rfl,wm,tbd⟩;refine⟨_,rfl,TA,_,rfl,.inl (lO.of (wm _ _ yl)),fun MA Iy=>?_⟩;have v1:=zb (o:=.lst (tu.map V.ref)) Iy;have heM:lP Hd MA #[Nj] MA=some #[Nj]:=zc;generalize lP Hd MA #[Nj]=He at v1 heM |-;have E9:=wm _ _ DH;have hdr:=wm _ _ AZ;have Az:=wm _ _ DI;have hXM:X MA=none:=wm.free Iy;refine⟨_,rfl,r2,_,rfl,lO.of (v1 _ _ E9),zdr (n:=pl.length) (fun j σ H'=>∃ (DS DT:Option V) (us:List Addr) (zs:List Wt3),σ = [some #[M8],some (.int (0+(i:Int))),some #[PY],some #[OZ],some (.int (k:Int)),some #[QU],some (.ref r),some #[Sc],some #[Sd],some (.int w),some (.ref SA),some (.ref TA),yj,yk,yZ,some (.int (m:Int)),some (.ref SM),some (.ref MA),DS,DT,yg,yh,yi]/\zr Hd H'/\H' MA=some #[R0]/\T3 H' us zs/\zs.Perm (gR w rw pl.length++gO w rw ot j))
    ⟨_,_,tu,ts,rfl,v1,heM,BS.same (wm.trans v1),by unfold gO; simpa using yb⟩ ?_ ?_ ?_ ?_⟩
   ·rintro j σ H' hj ⟨_,_,_,_,_,s',_⟩;exact⟨_,pB (ot[j]'#[O]),lO.of (s' _ _ E9),by rw [aj,ag #[O]]; rfl⟩
   ·rintro σ H' ⟨_,_,_,_,_,s',_⟩;exact⟨_,lO.of (s' _ _ E9),#[O]⟩
   ·rintro zD zT j xx σ H' Ij hj ⟨DS,DT,us,zs,rfl,s',yr,xj,pD⟩ ⟨T',v,uC,rfl,rfl,hv⟩;obtain⟨o,rfl,ho⟩:=zei (hv _ (lO.of (s' _ _ E9)));have s8:=zb (o:=.tup [.int (j:Int),pB o]) uC;have uk:=s8 _ _ yr;have AX:=xj.same s8;refine#[NQ];have xa:=s'.trans s8;generalize lP H' T' (.tup [.int (j:Int),pB o])=H8 at xa uk AX |-;have m8:=pD.length_eq;have hul3:us.length=zs.length:=xj.length;have wq:=zm4 w rw ot j;rw [ap] at m8;refine#[Q9];cases o with
    | none =>
     refine zki (zki ⟨_,_,us,zs,rfl,xa,uk,AX,?_⟩);rw [zg7,if_neg (fun e=>by unfold ex' at e; rw [fb] at e; exact zj2 ho e.1),bH];exact pD
    | some y =>
     have hrj:j < rw.length:=by lia
     have x4:rw[j]? = some rw[j]:=ag hrj;generalize rw[j]=o' at x4;have uw:zne (V.int y) (pB o')=true:=by cases o' <;> rfl
     have hex:(!decide (V.int y=pB o'))=true↔ex' rw ot j=true:=by
      unfold ex';rw [zj1 ho,x4,ho];cases o' with
      | none=>simp [pB]
      | some x =>
       simp [pB];exact⟨fun h e=>h e.symm,fun h e=>h e.symm⟩
     refine zpb ⟨_,rfl,_,rfl,_,rfl,r,_,_,_,rfl,rfl,lO.of (xa _ _ hdr),zaH (by rw [aj,x4]; rfl),uw,_,rfl,zaO (fun hb=>?_) (fun hb=>?_)⟩
     ·obtain⟨d,hd,_⟩:=zjM (i:=21+(j:Int)) ok #[O] (by show 21+(j:Int) < 40; lia);have lm:(#[IR].length:Int)=(us.length:Int):=by rw [ab]
      have c0:=aO d (show (us.length:Int)+1≠0 by lia);have c1:=aK d (show (0:Int) < (us.length:Int)+1 by lia);refine⟨_,rfl,.inl ⟨rfl,_,lO.of uk⟩,_,rfl,_,rfl,_,_,rfl,rfl,dl,_,_,_,rfl,rfl,lO.of (xa _ _ Az),hd,_,rfl,MA,_,rfl,.inl (lO.of uk),_,_,rfl,rfl,_,_,rfl,rfl,(by rw [lm]; lia),_,rfl,_,rfl,_,rfl,by show 3<=sizeLine; lia,fun T2 o7=>?_⟩;have s9:=zb (o:=.tup [.int (j:Int),.int y,.int w]) o7;have h9T:lP H8 T2 (.tup [.int (j:Int),.int y,.int w]) T2=some (.tup [.int (j:Int),.int y,.int w]):=zc;have h9M:=s9 _ _ uk;have h39:=AX.same s9;have Dl:=xa.trans s9;refine⟨MA,_,_,_,(d % ((us.length:Int)+1)).toNat,rfl,rfl,by rw [lm]; lia,h9M,by rw [ab]; lia,by rw [ab]; lia,?_⟩;refine⟨_,_,us.take (d % ((us.length:Int)+1)).toNat++T2 :: us.drop (d % ((us.length:Int)+1)).toNat,zs.take (d % ((us.length:Int)+1)).toNat++((j:Int),y,w) :: zs.drop (d % ((us.length:Int)+1)).toNat,rfl,zah Dl Iy,?_,T3.off h9M (zm5 _ h39 h9T),?_⟩
      ·rw [zc,am,aM,dJ,fq]
      ·rw [zg7,if_pos (hex.mp hb),zoQ w ho,<- bt];exact (zis _ _ _).trans (pD.append_right _)
     ·refine⟨_,_,us,zs,rfl,xa,uk,AX,?_⟩;rw [zg7,if_neg (fun e=>hb (hex.mpr e)),bH];exact pD
   rintro σ Hf ⟨DS,DT,mu,zs,rfl,sf,hfM,h3f,BV⟩;have sXf:=wm.trans sf;have tbf:=tbd.same sf;refine⟨_,rfl,by show 0<=sizeLine; lia,fun EL DK=>?_⟩;have vg:=zb (o:=.lst []) DK;have hgE:lP Hf EL (.lst []) EL=some (.lst []):=zc;generalize lP Hf EL (.lst [])=Hg at vg hgE |-;have sXg:=sXf.trans vg;have Iz:=tbf.same vg;refine zfg (lO.of (vg _ _ hfM)) (lO.of hgE) ⟨_,rfl,zaO #[wP] (fun _=>⟨_,_,_,_,_,_,_,_,_,_,_,_,_,_,_,_,_,_,_,_,_,_,rfl,DJ.trans sXg,Iz⟩)⟩;have Fb:=vg _ _ hfM;have h3g:=h3f.same vg;obtain⟨psg,hPg⟩:=Iz.at_;have IA:=h3g.hid hPg;have hMY:hide Hg t.tab MA=some #[O8]:=zag Fb (fun e=>by rw [e,hPg] at Fb; cases Fb);have DU:zr X (hide Hg t.tab):=fun b u e=>zag (sXg _ _ e) (zu e A8)
   have hNY:hide Hg t.tab t.tab=none:=by unfold hide; rw [if_pos rfl]
   have sYg:=zcm Hg t.tab;obtain⟨Y,hY⟩:∃ Y,hide Hg t.tab=Y:=⟨_,rfl⟩;rw [hY] at IA hMY DU hNY sYg;clear hY;have BW:=yY.same DU;have hrY:=DU _ _ AZ;have hoY:=DU _ _ DH;have Di:=BV.length_eq;have wq:=zm4 w rw ot pl.length;have vC:mu.length=zs.length:=h3f.length;rw [ap] at Di;have IB:=zpX (pl:=pl) (p:=p) (by lia:(0:Int)<=w) (af _) va xH BV;have E5:zs.length ^ k<=1000000:=aV (jX (show zs.length<=20 by lia) k) (aV (fh #[D] hk4) #[D]);obtain⟨IC,DV,DW⟩:=zjY (w:=w) (us:=zs.map (wpp pl)) #[O] (fun q hq=>by
    obtain⟨z,hz,rfl⟩:=aw.mp hq;rcases aP.mp (BV.mem_iff.mp hz) with h | h
    ·exact zqy z h
    ·exact zqW z h) (k - 1)
   refine⟨_,rfl,_,rfl,MA,_,rfl,.inl (lO.of Fb),fun hn Cn=>?_⟩;have vh:=zb (o:=.lst (mu.map V.ref)) Cn;have hhN:lP Hg hn #[O8] hn=some #[O8]:=zc;generalize lP Hg hn #[O8]=Hh at vh hhN |-;have ID:=sYg.trans vh;refine⟨_,rfl,_,rfl,_,_,rfl,rfl,.inr #[wr],c,tt,hn,p,(k:Int)*w,IC,k,pl,mu,zs,rfl,BW.same ID,hhN,IA.same ID,IB,co.pr,co.nd,co.rg,#[O],#[O],#[O],E5,Iz.same vh,DV,zm6 w1 #[O] DW,fun l rs qs Hi _ si tbi xv IE hqz HV hmi=>?_⟩;have IF:zr Y Hi:=zj8 (t:=t) hNY ID si;have tq:=IE.length;refine⟨_,rfl,l,rfl,⟨_,lO.of xv⟩,zaQ (K:=K) (a:=l) (xs:=rs.map V.ref) (fun j σ H'=>∃ (A9 Fc:Option V),σ = [some #[M8],some (.int (0+(i:Int))),some #[PY],some #[OZ],some (.int (k:Int)),some #[QU],some (.ref r),some #[Sc],some #[Sd],some (.int w),some (.ref SA),some (.ref TA),yj,yk,yZ,some (.int (m:Int)),some (.ref SM),some (.ref MA),DS,DT,some #[Nv],A9,Fc]/\zr Hi H')
    ⟨_,_,rfl,fun _ _ e=>e⟩ (fun j σ H' _ hq=>by obtain⟨_,_,_,s'⟩:=hq; exact lO.of (s' _ _ xv)) ?_ ?_⟩
   ·rintro zD zT j y σ Hj hy ⟨A9,Fc,rfl,sj⟩;obtain⟨rb,rfl,AU⟩:=zV hy;obtain⟨qq,yW,nH⟩:=Paired.get IE AU;obtain⟨_,hqw⟩:=(hmi qq).mp (aA yW);rw [zg8 BV,zjZ w1] at hqw;have y4:=IF.trans sj;refine⟨_,rfl,_,rfl,_,rfl,c,tt,r,rb,p,k,pl,qq,rw,rfl,BW.same y4,y4 _ _ hrY,oX,sj _ _ nH,#[O],#[O],co.rg,#[O],fun fl Hk _ sk hkf=>?_⟩;have DX:=y4.trans sk;refine⟨_,rfl,_,rfl,_,rfl,c,tt,r2,rb,p,k,pl,qq,ot,rfl,BW.same DX,DX _ _ hoY,yX,(sj.trans sk) _ _ nH,#[O],#[O],co.rg,#[O],fun fl2 Hl _ sl CT=>?_⟩;have n1:=zj9 p pl rw qq pl.length;have n2:=zj9 p pl ot qq pl.length;refine⟨fl,fl2,_,_,rfl,rfl,sl _ _ hkf,CT,by rw [ab,ab]; lia,fun cl oY=>?_⟩;rw [<- am];obtain⟨bo,IG⟩:∃ bo,zb0 p pl rw qq pl.length++zb0 p pl ot qq pl.length=bo:=⟨_,rfl⟩;have tQ:bo.length<=20:=by rw [<- IG,ap]; lia
    rw [IG] at hqw |-;have vm:=zb (o:=.lst (bo.map V.int)) oY;have ym:lP Hl cl #[NE] cl=some #[NE]:=zc;generalize lP Hl cl #[NE]=Hm at vm ym |-;refine⟨cl,rfl,⟨_,lO.of ym⟩,zcl (fs:=bo.map V.int) (lO.of ym) rfl (by rw [ab]; lia) (fun j x y R B hx hy hR=>?_) fun BO hBO=>?_⟩
    ·rw [hx] at hy;cases hy;exact⟨_,rfl,hR⟩
    have vn:=zb (o:=.lst (bo.map V.int)) hBO;have El:lP Hm BO #[NE] BO=some #[NE]:=zc;generalize lP Hm BO #[NE]=Hn at vn El |-;have IH:=sk.trans (sl.trans (vm.trans vn));have II:=y4.trans IH;refine⟨_,rfl,_,rfl,_,rfl,c,tt,MA,rb,p,k,pl,qq,mu,zs,rfl,BW.same II,II _ _ hMY,IA.same II,(sj.trans IH) _ _ nH,#[O],#[O],#[O],fun z hz=>⟨(IB.rg z hz).1,(IB.rg z hz).2.1⟩,co.rg,fun Ho so=>?_⟩;rw [zg8 BV,IG];refine⟨_,rfl,_,rfl,BO,bo,rfl,.inr (lO.of (so _ _ El)),#[O],fun s1 S1 Em=>?_⟩;have vp:=zb (o:=.set S1 (zio bo)) Em;refine⟨s1,S1,_,rfl,zc,_,_,rfl,rfl,.inl #[wr],rfl,_,rfl,zaO (fun h=>absurd h #[M]) #[wP]⟩;generalize lP Ho s1 (.set S1 (zio bo))=Hp at vp |-;refine⟨_,rfl,BO,bo,rfl,.inr (lO.of ((so.trans vp) _ _ El)),#[O],fun s2 S2 oB=>⟨s2,S2,_,rfl,zc,_,rfl,_,_,rfl,rfl,_,rfl,zaO #[MU] #[wP]⟩⟩;exact⟨_,_,rfl,sj.trans (IH.trans (so.trans (vp.trans (zb oB))))⟩
   rintro σ Hj ⟨A9,Fc,rfl,sj⟩;have y4:=IF.trans sj;refine⟨_,rfl,_,rfl,_,rfl,c,tt,r,p,k,k,pl,rw,rfl,BW.same y4,y4 _ _ hrY,oX,#[O],co.pr,co.nd,co.rg,va,#[O],#[O],bM _,fun l1 Ba qs1 Hk _ sk hkl wR yL vw=>?_⟩;have DX:=y4.trans sk;refine⟨_,rfl,_,rfl,_,rfl,c,tt,r2,p,k,k,pl,ot,rfl,BW.same DX,DX _ _ hoY,yX,#[O],co.pr,co.nd,co.rg,xH,#[O],#[O],bM _,fun l3 Bb qs2 Hl _ sl xZ o7 vA sg=>?_⟩;have n1:=ziq co.pr (zep co.nd co.rg va) (aV (zb4 pl rw) #[O]) (bM _) (zfd yL) vw;have n2:=ziq co.pr (zep co.nd co.rg xH) (aV (zb4 pl ot) #[O]) (bM _) (zfd vA) sg;have xm:=wR.length;have Ap:=o7.length;have qk:∀ x∈qs1++qs2,x∈qs:=fun x hx=>by
    rw [hmi,zg8 BV,zjZ w1,zir,zeu oX];rcases aP.mp hx with h | h
    ·obtain⟨h1,h2⟩:=(vw x).mp h;exact⟨h1,#[O]⟩
    ·obtain⟨h1,h2⟩:=(sg x).mp h;have h3:=zqz (p:=p) (pl:=pl) (rw:=rw) (ot:=ot) (f:=x) (n:=pl.length);rw [zeu oX,zeu yX] at h3;exact⟨h1,#[O]⟩
   refine⟨l1,l3,_,_,rfl,rfl,sl _ _ hkl,xZ,by rw [ab,ab]; lia,fun cl oY=>?_⟩;rw [<- am];have vm:=zb (o:=.lst ((Ba++Bb).map V.ref)) oY;have ym:lP Hl cl (.lst ((Ba++Bb).map V.ref)) cl=some (.lst ((Ba++Bb).map V.ref)):=zc;have hTm:zbU (lP Hl cl (.lst ((Ba++Bb).map V.ref))) (Ba++Bb) (qs1++qs2):=zbU.same vm (zbe (wR.same sl) o7);generalize lP Hl cl (.lst ((Ba++Bb).map V.ref))=Hm at vm ym hTm |-;have sim:=sj.trans (sk.trans (sl.trans vm));refine⟨cl,rfl,⟨_,lO.of ym⟩,zaQ (K:=K) (a:=cl) (xs:=(Ba++Bb).map V.ref) (fun j σ H'=>∃ (A9:Option V),σ = [some #[M8],some (.int (0+(i:Int))),some #[PY],some #[OZ],some (.int (k:Int)),some #[QU],some (.ref r),some #[Sc],some #[Sd],some (.int w),some (.ref SA),some (.ref TA),yj,yk,yZ,some (.int (m:Int)),some (.ref SM),some (.ref MA),DS,DT,some #[Nv],A9,Fc]/\H'=Hm)
    ⟨_,rfl,rfl⟩ (fun j σ H' _ hq=>by obtain⟨_,_,rfl⟩:=hq; exact lO.of ym) ?_ ?_⟩
   ·rintro zD zT j y σ Hn hy ⟨A9,rfl,rfl⟩;obtain⟨rb,rfl,AU⟩:=zV hy;obtain⟨qq,yW,nH⟩:=Paired.get hTm AU;refine⟨_,rfl,_,rfl,rb,l,qq,rs,qs,rfl,rfl,nH,lO.of (sim _ _ xv),IE.same sim,_,rfl,zaO (fun h=>absurd h (by simp [qk qq (aA yW)])) (fun _=>⟨_,rfl,rfl⟩)⟩
   rintro σ Hn ⟨A9,rfl,rfl⟩;exact⟨_,_,_,_,_,_,_,_,_,_,_,_,_,_,_,_,_,_,_,_,_,_,rfl,(DJ.trans DU).trans (IF.trans sim),tbi.same sim⟩
  ·rintro σ H1 ⟨e1,e2,e3,e4,e5,e6,e7,e8,e9,sC,wc,wd,we,x6,BP,x3,xw,xy,xA,yg,yh,yi,rfl,s1,tb1⟩;exact q _
end
structure Dn (K:ah) (x:Str) (st:Stmt) (f:Addr) (fd:FuncData):Prop where
 a:bU K mainGlobals x=some (some #[Q3])
 f:Fun K x x st f fd
theorem zap {K:ah} {x:Str} {st:Stmt} {f:Addr} {kV dc:Value} (a:bU K mainGlobals x=some (some #[Q3])) (l:K.lookup f=some ⟨oc,od,.func #[OW],sl⟩) (c:fQ K cd x=true) (k:fP K #[Q3]=true):Dn K x st f #[OW]:=⟨a,zlm l c k⟩
theorem el0 {n:Nat} (e:us.length=n+1):∃ a v,us=a :: v/\v.length=n:=by
 cases us with
 | nil=>cases e
 | cons a v=>exact⟨a,v,rfl,Nat.succ.inj e⟩
theorem el1 (e:us.length=1):∃ a,us = [a]:=by
 obtain⟨a,v,rfl,h⟩:=el0 e;exact⟨a,by rw [List.eq_nil_of_length_eq_zero h]⟩
theorem el2 (e:us.length=2):∃ a b,us = [a,b]:=by
 obtain⟨a,v,rfl,h⟩:=el0 e;obtain⟨b,rfl⟩:=el1 h;exact⟨a,b,rfl⟩
theorem el3 (e:us.length=3):∃ a b c,us = [a,b,c]:=by
 obtain⟨a,v,rfl,h⟩:=el0 e;obtain⟨b,c,rfl⟩:=el2 h;exact⟨a,b,c,rfl⟩
theorem el4 (e:us.length=4):∃ a b c d,us = [a,b,c,d]:=by
 obtain⟨a,v,rfl,h⟩:=el0 e;obtain⟨b,c,d,rfl⟩:=el3 h;exact⟨a,b,c,d,rfl⟩
theorem el5 (e:us.length=5):∃ a b c d i,us = [a,b,c,d,i]:=by
 obtain⟨a,v,rfl,h⟩:=el0 e;obtain⟨b,c,d,i,rfl⟩:=el4 h;exact⟨a,b,c,d,i,rfl⟩
noncomputable def zg9 (TP:Addr) (K:ah):Sp:=fun vs H Q _=>∃ (a:Addr) (ns:List Int),vs = [.ref a]/\lO K H a #[xz]/\ns.length<=63/\TbI TP zqv zqw H/\∀ H',Q (.bl true) H'
local macro_rules|`(#[E2])=>`(fun _ _ _ _ _ _ _ h=>by obtain⟨_,_,e⟩:=el2 h;subst e;exact rfl)
local macro_rules|`(#[E3])=>`(fun _ _ _ _ _ _ _ h=>by obtain⟨_,_,_,e⟩:=el3 h;subst e;exact rfl)
local macro_rules|`(#[E4])=>`(fun _ _ _ _ _ _ _ h=>by obtain⟨_,_,_,_,e⟩:=el4 h;subst e;exact rfl)
theorem zp2 {TP:Addr} {l:ja} {K:ah} {fa fl oM tX rX:Addr} (X:K.In h) (G:h.Ns mainGlobals mg) (hfa:mg "law" = some (.ref fa))
  {kV dc:Value} (tY:bU K mainGlobals "SlipError" = some (some (.ref oM))) (xc:bU K mainGlobals "TooFew" = some (some (.ref tX))) (vM:bU K mainGlobals "NoCurve" = some (some (.ref rX))) (uP:∃ f fd,Dn K "value_at" zcE f fd) (vN:∃ f fd,Dn K "inverse" zc8 f fd) (sP:∃ f fd,Dn K "times_root" zbu f fd) (Bc:∃ f fd,Dn K "bent" ze1 f fd) (vO:∃ f fd,Dn K "through" zc9 f fd) (qT:∃ f fd,Dn K "moved_powers" zbv f fd) (sQ:∃ f fd,Dn K "numbers_at" zaM f fd) (sR:∃ f fd,Dn K "vectors_of" zba f fd) (vP:∃ f fd,Dn K "without" zcp f fd) (p9:∃ f fd,Dn K "first_relation" zaw f fd) (tZ:∃ f fd,Dn K "first_sum" zbL f fd) (qU:∃ f fd,Dn K "heard_points" za4 f fd) (Bd:∃ f fd,Dn K "fits" ze2 f fd) (rH:∃ f fd,Dn K "first_terms" zbf f fd) (rJ:∃ f fd,Dn K "least_curve" zav f fd) (qV:∃ f fd,Dn K "check_curves" zbw f fd) (t6:∃ f fd,Dn K "curve_for" zbM f fd) (pM:∃ f fd,Dn K "weighted_points" zaC f fd) (ua:∃ f fd,Dn K "weight_in" zbN f fd) (ub:∃ f fd,Dn K "weight_of" zb5 f fd) (rK:∃ f fd,Dn K "most_weight" zbg f fd) (sS:∃ f fd,Dn K "next_picks" zbV f fd) (qa:∃ f fd,Dn K "picked_weights" zaj f fd/\TabOf K f TP) (yn:∃ f fd,Dn K "heavy" zda f fd) (uQ:∃ f fd,Dn K "curve_by" zcF f fd) (vQ:∃ f fd,Dn K "choices" zbX f fd) (rL:∃ f fd,Dn K "all_through" zbh f fd) (uR:∃ f fd,Dn K "all_near" zb1 f fd) (xf:∃ f fd,Dn K "_law_cell" zdH f fd) (vR:∃ f fd,Dn K "_law_draws" zdb f fd) (xg:∃ f fd,Dn K "_law_code" zcV f fd) (vS:∃ f fd,Dn K "_law_value" zdc f fd) (qW:∃ f fd,Dn K "_law_polynomial" za5 f fd) (yo:∃ f fd,Dn K "_law_row" zdI f fd)   (sb:lI K oM (.type "BaseException")=some true)
  (al:bU K mainGlobals "law" = some (some (.ref fl))) (ll:K.lookup fl=some ⟨oc,od,.func (dz "law" "law" (zb2 zcq) (zbC zcq) (zi zcq) .none kV dc pm an cd ct),sl⟩) (cl:fQ K cd "law" = true) (kl:fP K (.ref fl)=true) (DY:bU K mainGlobals "len" = some none) (yp:bU K mainGlobals "range" = some none) (Be:bU K mainGlobals "list" = some none) (yq:bU K mainGlobals "tuple" = some none) (DZ:bU K mainGlobals "min" = some none) (D4:bU K mainGlobals "max" = some none) (D6:bU K mainGlobals "int" = some none) (D7:bU K mainGlobals "zip" = some none) (uc:bU K mainGlobals "enumerate" = some none) (D8:bU K mainGlobals "sum" = some none) (Bf:bU K mainGlobals "dict" = some none) (D9:bU K mainGlobals "set" = some none) (uS:bU K mainGlobals "reversed" = some none) (xh:bU K mainGlobals "sorted" = some none) (sU:bU K mainGlobals "ValueError" = some none) :
  ∃ fd:FuncData,(∀ (s:Shared) (v:Value),BindsTo s fd ⟨[v],[]⟩ [("script",v)])/\∀ base:Heap,K.In base->base.Ns mainGlobals mg->zfp mg base->Jk l.prog w K mg base CX0 9 fa fd ["script"] (zg9 TP K):=by
 cases hfa.symm.trans (aT X G al);obtain⟨Jc,nF,pv⟩:=uP;have mf:=pv.f.binds (ps:=["p","polynomial","x"]) #[E3]
 obtain⟨JU,qM,qb⟩:=vN;have nV:=qb.f.binds (ps:=["p","number"]) #[E2]
 obtain⟨IX,nI,n8⟩:=sP;have mi:=n8.f.binds (ps:=["p","polynomial","root"]) #[E3]
 obtain⟨Lf,uZ,uT⟩:=Bc;have qO:=uT.f.binds (ps:=["p","polynomial","vanishing","point"]) #[E4]
 obtain⟨Kk,uN,qc⟩:=vO;have pY:=qc.f.binds (ps:=["p","points"]) #[E2]
 obtain⟨Jl,qz,nu⟩:=qT;have mO:=nu.f.binds (ps:=["p","by","most","kept"]) #[E4]
 obtain⟨Jx,rC,n9⟩:=sQ;have nZ:=n9.f.binds (ps:=["p","terms","point"]) #[E3]
 obtain⟨Jw,rD,og⟩:=sR;have n4:=og.f.binds (ps:=["p","terms","points"]) #[E3]
 obtain⟨Kj,uK,qd⟩:=vP;have pU:=qd.f.binds (ps:=["p","vector","times","other"]) #[E4]
 obtain⟨IZ,pI,mV⟩:=p9;have mT:=mV.f.binds (ps:=["p","vectors"]) #[E2]
 obtain⟨JK,sG,oO⟩:=tZ;have oG:=oO.f.binds (ps:=["p","terms","points"]) #[E3]
 obtain⟨IV,ou,nv⟩:=qU;have mB:=nv.f.binds (ps:=["code","row"]) #[E2]
 obtain⟨Ld,vc,uU⟩:=Bd;have p8:=uU.f.binds (ps:=["code","row","polynomial"]) #[E3]
 obtain⟨Js,qP,nN⟩:=rH;have nJ:=nN.f.binds (ps:=["k","many"]) #[E2]
 obtain⟨Jb,oH,nO⟩:=rJ;have mG:=nO.f.binds (ps:=["p","k","points"]) #[E3]
 obtain⟨IW,oq,nA⟩:=qV;have mq:=nA.f.binds (ps:=["k"]) fun _ _ _ _ _ _ _ h=>by obtain⟨_,rfl⟩:=el1 h; exact rfl
 obtain⟨JL,sM,oQ⟩:=t6;have oJ:=oQ.f.binds (ps:=["code","row","m"]) #[E3]
 obtain⟨IL,mJ,mP⟩:=pM;have lW:=mP.f.binds (ps:=["code","guesses"]) #[E2]
 obtain⟨Jr,pG,oR⟩:=ua;have mY:=oR.f.binds (ps:=["p","points","polynomial"]) #[E3]
 obtain⟨JJ,sN,oS⟩:=ub;have oK:=oS.f.binds (ps:=["code","guesses","polynomial"]) #[E3]
 obtain⟨Ja,oI,nP⟩:=rK;have mI:=nP.f.binds (ps:=["points","many"]) #[E2]
 obtain⟨Jy,rF,oh⟩:=sS;have n5:=oh.f.binds (ps:=["p","points","rests","least","pick"]) fun _ _ _ _ _ _ _ h=>by obtain⟨_,_,_,_,_,rfl⟩:=el5 h; exact rfl
 obtain⟨IY,pL,mW,tb⟩:=qa;have mU:=mW.f.binds (ps:=["p","k","points","least"]) #[E4]
 obtain⟨K6,wZ,sW⟩:=yn;have qD:=sW.f.binds (ps:=["code","guesses","least"]) #[E3]
 obtain⟨J0,tU,pz⟩:=uQ;have pq:=pz.f.binds (ps:=["code","guesses"]) #[E2]
 obtain⟨Km,uM,qe⟩:=vQ;have pX:=qe.f.binds (ps:=["things","many"]) #[E2]
 obtain⟨Jt,qQ,nQ⟩:=rL;have nM:=nQ.f.binds (ps:=["code","points"]) #[E2]
 obtain⟨J3,tT,pA⟩:=uR;have nr:=pA.f.binds (ps:=["code","row","t"]) #[E3]
 obtain⟨KI,vE,qX⟩:=xf;have qK:=qX.f.binds (ps:=["script","k"]) #[E2]
 obtain⟨Jz,ph,qf⟩:=vR;have mK:=qf.f.binds (ps:=["script","k","many","base"]) #[E4]
 obtain⟨KH,vL,qY⟩:=xg;have qR:=qY.f.binds (ps:=["script","at","most_k","most_n"]) #[E4]
 obtain⟨Kl,uE,qg⟩:=vS;have pS:=qg.f.binds (ps:=["p","polynomial","x"]) #[E3]
 obtain⟨Jm,qw,nB⟩:=qW;have nh:=nB.f.binds (ps:=["draws","p","k"]) #[E3]
 obtain⟨K5,wY,sZ⟩:=yo;have qC:=sZ.f.binds (ps:=["script","at","code"]) #[E3]
 let t:Adr:=⟨TP,oM,tX,rX,Jc,JU,IX,Lf,Kk,Jl,Jx,Jw,Kj,IZ,JK,IV,Ld,Js,Jb,IW,JL,IL,Jr,JJ,Ja,Jy,IY,K6,J0,Km,Jt,J3,KI,Jz,KH,Kl,Jm,K5,fa⟩
 have T:∀ base:Heap,zfp mg base->Txt K mg base t:=fun base hB=>⟨hB,tb,bN X G DY,bN X G yp,bN X G Be,bN X G yq,bN X G DZ,bN X G D4,bN X G D6,bN X G D7,bN X G uc,bN X G D8,bN X G Bf,bN X G D9,bN X G uS,bN X G xh,bN X G sU,aT X G tY,aT X G xc,aT X G vM,sb,aT X G pv.a,aT X G qb.a,aT X G n8.a,aT X G uT.a,aT X G qc.a,aT X G nu.a,aT X G n9.a,aT X G og.a,aT X G qd.a,aT X G mV.a,aT X G oO.a,aT X G nv.a,aT X G uU.a,aT X G nN.a,aT X G nO.a,aT X G nA.a,aT X G oQ.a,aT X G mP.a,aT X G oR.a,aT X G oS.a,aT X G nP.a,aT X G oh.a,aT X G mW.a,aT X G sW.a,aT X G pz.a,aT X G qe.a,aT X G nQ.a,aT X G pA.a,aT X G qX.a,aT X G qf.a,aT X G qY.a,aT X G qg.a,aT X G nB.a,aT X G sZ.a,⟨_,pv.f,mf⟩,⟨_,qb.f,nV⟩,⟨_,n8.f,mi⟩,⟨_,uT.f,qO⟩,⟨_,qc.f,pY⟩,⟨_,nu.f,mO⟩,⟨_,n9.f,nZ⟩,⟨_,og.f,n4⟩,⟨_,qd.f,pU⟩,⟨_,mV.f,mT⟩,⟨_,oO.f,oG⟩,⟨_,nv.f,mB⟩,⟨_,uU.f,p8⟩,⟨_,nN.f,nJ⟩,⟨_,nO.f,mG⟩,⟨_,nA.f,mq⟩,⟨_,oQ.f,oJ⟩,⟨_,mP.f,lW⟩,⟨_,oR.f,mY⟩,⟨_,oS.f,oK⟩,⟨_,nP.f,mI⟩,⟨_,oh.f,n5⟩,⟨_,mW.f,mU⟩,⟨_,sW.f,qD⟩,⟨_,pz.f,pq⟩,⟨_,qe.f,pX⟩,⟨_,nQ.f,nM⟩,⟨_,pA.f,nr⟩,⟨_,qX.f,qK⟩,⟨_,qf.f,mK⟩,⟨_,qY.f,qR⟩,⟨_,qg.f,pS⟩,⟨_,nB.f,nh⟩,⟨_,sZ.f,qC⟩⟩
 have FL:=zlm (st:=zcq) ll cl kl;exact⟨dz "law" "law" (zb2 zcq) (zbC zcq) (zi zcq) .none kV dc pm an cd ct,fun s v=>.of_eq rfl,fun base _ _ hB=>zp1 (t:=t) (T base hB) FL⟩
theorem walk {TP:Addr} {l:ja} {q:Program} {loose:List Str} {XP:#[RJ]->Heap->Prop} {YP:World->Heap->Prop} {d:DefRec} {K:Params->ah} (hn:l.most=some 63) (B2:d.params.defaults = []) (hY:∀ (w:World) (h:Heap),YP w h->#[Nn].In h/\h.get? TP=some (PySem.W.tabObj #[])) (CL:∀ w:World,#[Nn].lookup TP=none) (GJ:∀ w:World,PySem.W.codeHdIn #[Nn] cP TP=true)
  (F:∀ (w:World) (mg:Str->Option Value) (fa:Addr) (h:Heap),#[Nn].In h->h.Ns mainGlobals mg->mg d.name=some (.ref fa)->∃ fd:FuncData,(∀ (s:Shared) (u:Value),BindsTo s fd ⟨[u],[]⟩ [("script",u)])/\∀ base:Heap,#[Nn].In base->base.Ns mainGlobals mg->zfp mg base->Jk l.prog w #[Nn] mg base CX0 9 fa fd ["script"] (zg9 TP #[Nn])):lH q loose XP YP l.row.toRowW d [] #[RF] :=
 L2.zmy (n:=63) (k:=9) (x:="script") (CX:=fun _=>CX0) (sp:=fun w=>zg9 TP #[Nn]) hn #[D] B2 ⟨rfl,#[D],#[D]⟩ hY CL GJ F (fun _ _ a ns hl hT hS=>⟨a,ns,rfl,hS,hl,⟨#[],hT,trivial,.inl rfl⟩,fun _=>rfl⟩) fun _ _ _ _ _ z=>z
end My
namespace PySem.W.Fast
def tw14226678656497035088:=0
def tw13972129803934964682:=0
def tw10691682260800626997:=0
def tw16705068305664957278:=0
def tw16601281792866852069:=0
def tw9164561444250353474:=0
def tw17701249510486639754:=0
def tw11379022596619114938:=0
def tw5747094875754236556:=0
def tw1514380807672106300:=0
def tw2027315973537488953:=0
def tw11903163459542604833:=0
def tw14835737875138640783:=0
def tw17382970260567909452:=0
def tw17020375146400812455:=0
def tw5594095551468895097:=0
def tw2269125602106061039:=0
def tw14974068138712251478:=0
def tw10588499725519086901:=0
def tw16545434300676295063:=0
def tw9662974768398307176:=0
def tw1689454363504388658:=0
def tw8906332154271253723:=0
def tw11225347027775025962:=0
def tw10669271070806564012:=0
def tw10350732536909296970:=0
def tw5757771960467297324:=0
def tw1467036465070055325:=0
def tw15479864654812244933:=0
def tw9757806096607630207:=0
def tw10510885899534232688:=0
def tw6637643180566490381:=0
def tw9259881796505595310:=0
def tw4494433086301387037:=0
def tw17355120774248654103:=0
def tw4417799276274334338:=0
def tw6185494573422748889:=0
def tw4968613936953321522:=0
def tw5704782559341710652:=0
def tw12091879419505027698:=0
def tw7703863358165740174:=0
def tw9204833014568151356:=0
def tw2443086943079387583:=0
def tw16936364528565112465:=0
def tw6759113923223925833:=0
def tw11002042351484277818:=0
def tw15499940100600284787:=0
def tw5698944067179412177:=0
def tw16763266098415098895:=0
def tw18349816698686398210:=0
def tw17410794579512625704:=0
def tw14273966673428499046:=0
def tw3257313651122689091:=0
def tw5203988720809356183:=0
def tw11008127671198225491:=0
def tw6461833511145083323:=0
def tw3211619707316894943:=0
def tw12617647328489540760:=0
def tw11917333481135199492:=0
def tw3810186494881902026:=0
def tw8351235925157227761:=0
def tw13486447039781727129:=0
def tw11862915807271446670:=0
def tw2891497684325982483:=0
def tw1477425435368606758:=0
def tw15846593723661365204:=0
def tw3793941354134411928:=0
def tw920463581568879166:=0
def tw564491816778517971:=0
def tw12251393542780790425:=0
def tw5216453524418437927:=0
def tw15385069490611551486:=0
def tw10570792895101767411:=0
def tw13654975637192858951:=0
def tw17120237877050089218:=0
def tw746651432884358514:=0
def tw10148247142320963293:=0
def tw16654187903773778846:=0
def tw15121317488828910589:=0
def tw12515522943641128886:=0
def tw17624918330096086035:=0
def tw512750448198740388:=0
def tw1502176901148161592:=0
def tw9883630701097354452:=0
def tw7644395432758831210:=0
def tw986352876398102499:=0
def tw14139124069135643374:=0
def tw17238822255349690233:=0
def tw16965579763726992828:=0
def tw9331983537482172108:=0
def tw12944238566419141020:=0
def tw6508817229268304056:=0
def tw4668881650984949536:=0
def tw17371617949069385881:=0
def tw15674579565560813957:=0
def tw18437594911764887936:=0
def tw14647919050470668747:=0
def tw4150680177447014269:=0
def tw17266032336137936797:=0
def tw15406380311501948940:=0
def tw4396384539988214812:=0
def tw1721075053382886342:=0
def tw116354096800264158:=0
def tw11473326448594585873:=0
def tw536753135811175552:=0
def tw5320867547505458125:=0
def tw12180438586114727738:=0
def tw9071477690056025925:=0
def tw3031077783837865731:=0
def tw7835183347693129136:=0
def tw2691664962908676750:=0
def tw12180176130634074962:=0
def tw8427199260307234175:=0
def tw10027174402470738629:=0
def tw15041108186987539181:=0
def tw14891454214803944084:=0
def tw15551657234122468538:=0
def tw15322118644284272865:=0
def tw3833788327040869483:=0
def tw13948869329259696997:=0
end PySem.W.Fast
open PySem PySem.W
open PyProof.Rows
set_option maxHeartbeats 0 in
theorem PySem.Challenge.cw_slipcurve_k37_whole_guesses_as_rows_holds : PySem.Challenge.rw_slipcurve_k37_whole_guesses_as_rows.Holds := by
 w_on; o_law; k_head; (case hw=>w_witness2)
 k_fill
 refine My.walk (TP:=181) (cP:=?cP) (l:=PySem.Challenge.rw_slipcurve_k37_whole_guesses_as_rows) rfl rfl (fun w h Y=>⟨PySem.W.km_in_of Y,PySem.W.km_tabs_of Y 181 #[D]⟩) (fun w=>?KT) (fun w=>?KC) ?F;rotate_left
 case KC=>first | (show PySem.W.codeHdIn _ 183 181=true; with_unfolding_all rfl)
 case KT=>with_unfolding_all rfl
 case F =>
  intro w mg fa h KX G hmg;refine' My.zp2 KX G hmg ?K8 ?LO ?LG ⟨_,_,My.zap ?da_value_at ?dl_value_at ?dc_value_at ?dk_value_at⟩ ⟨_,_,My.zap ?da_inverse ?dl_inverse ?dc_inverse ?dk_inverse⟩ ⟨_,_,My.zap ?da_times_root ?dl_times_root ?dc_times_root ?dk_times_root⟩ ⟨_,_,My.zap ?da_bent ?dl_bent ?dc_bent ?dk_bent⟩ ⟨_,_,My.zap ?da_through ?dl_through ?dc_through ?dk_through⟩ ⟨_,_,My.zap ?da_moved_powers ?dl_moved_powers ?dc_moved_powers ?dk_moved_powers⟩ ⟨_,_,My.zap ?da_numbers_at ?dl_numbers_at ?dc_numbers_at ?dk_numbers_at⟩ ⟨_,_,My.zap ?da_vectors_of ?dl_vectors_of ?dc_vectors_of ?dk_vectors_of⟩ ⟨_,_,My.zap ?da_without ?dl_without ?dc_without ?dk_without⟩ ⟨_,_,My.zap ?da_first_relation ?dl_first_relation ?dc_first_relation ?dk_first_relation⟩ ⟨_,_,My.zap ?da_first_sum ?dl_first_sum ?dc_first_sum ?dk_first_sum⟩ ⟨_,_,My.zap ?da_heard_points ?dl_heard_points ?dc_heard_points ?dk_heard_points⟩ ⟨_,_,My.zap ?da_fits ?dl_fits ?dc_fits ?dk_fits⟩ ⟨_,_,My.zap ?da_first_terms ?dl_first_terms ?dc_first_terms ?dk_first_terms⟩ ⟨_,_,My.zap ?da_least_curve ?dl_least_curve ?dc_least_curve ?dk_least_curve⟩ ⟨_,_,My.zap ?da_check_curves ?dl_check_curves ?dc_check_curves ?dk_check_curves⟩ ⟨_,_,My.zap ?da_curve_for ?dl_curve_for ?dc_curve_for ?dk_curve_for⟩ ⟨_,_,My.zap ?da_weighted_points ?dl_weighted_points ?dc_weighted_points ?dk_weighted_points⟩ ⟨_,_,My.zap ?da_weight_in ?dl_weight_in ?dc_weight_in ?dk_weight_in⟩ ⟨_,_,My.zap ?da_weight_of ?dl_weight_of ?dc_weight_of ?dk_weight_of⟩ ⟨_,_,My.zap ?da_most_weight ?dl_most_weight ?dc_most_weight ?dk_most_weight⟩ ⟨_,_,My.zap ?da_next_picks ?dl_next_picks ?dc_next_picks ?dk_next_picks⟩ ⟨_,_,My.zap ?da_picked_weights ?dl_picked_weights ?dc_picked_weights ?dk_picked_weights,L2.zpK ?dl_picked_weights rfl ?tc⟩ ⟨_,_,My.zap ?da_heavy ?dl_heavy ?dc_heavy ?dk_heavy⟩ ⟨_,_,My.zap ?da_curve_by ?dl_curve_by ?dc_curve_by ?dk_curve_by⟩ ⟨_,_,My.zap ?da_choices ?dl_choices ?dc_choices ?dk_choices⟩ ⟨_,_,My.zap ?da_all_through ?dl_all_through ?dc_all_through ?dk_all_through⟩ ⟨_,_,My.zap ?da_all_near ?dl_all_near ?dc_all_near ?dk_all_near⟩ ⟨_,_,My.zap ?da_l_cell ?dl_l_cell ?dc_l_cell ?dk_l_cell⟩ ⟨_,_,My.zap ?da_l_draws ?dl_l_draws ?dc_l_draws ?dk_l_draws⟩ ⟨_,_,My.zap ?da_l_code ?dl_l_code ?dc_l_code ?dk_l_code⟩ ⟨_,_,My.zap ?da_l_value ?dl_l_value ?dc_l_value ?dk_l_value⟩ ⟨_,_,My.zap ?da_l_polynomial ?dl_l_polynomial ?dc_l_polynomial ?dk_l_polynomial⟩ ⟨_,_,My.zap ?da_l_row ?dl_l_row ?dc_l_row ?dk_l_row⟩ ?sb ?al ?ll ?cl ?kl ?Mt ?LW ?L6 ?LV ?Mr ?Ms ?Mu ?Mo ?KZ ?Mp ?L7 ?Mq ?Lg ?LJ ?KN
  (case K8=>k_is)
  (case LO=>k_is)
  (case LG=>k_is)
  (case da_value_at=>k_is)
  (case dl_value_at=>k_is)
  (case dc_value_at=>k_is)
  (case dk_value_at=>k_is)
  (case da_inverse=>k_is)
  (case dl_inverse=>k_is)
  (case dc_inverse=>k_is)
  (case dk_inverse=>k_is)
  (case da_times_root=>k_is)
  (case dl_times_root=>k_is)
  (case dc_times_root=>k_is)
  (case dk_times_root=>k_is)
  (case da_bent=>k_is)
  (case dl_bent=>k_is)
  (case dc_bent=>k_is)
  (case dk_bent=>k_is)
  (case da_through=>k_is)
  (case dl_through=>k_is)
  (case dc_through=>k_is)
  (case dk_through=>k_is)
  (case da_moved_powers=>k_is)
  (case dl_moved_powers=>k_is)
  (case dc_moved_powers=>k_is)
  (case dk_moved_powers=>k_is)
  (case da_numbers_at=>k_is)
  (case dl_numbers_at=>k_is)
  (case dc_numbers_at=>k_is)
  (case dk_numbers_at=>k_is)
  (case da_vectors_of=>k_is)
  (case dl_vectors_of=>k_is)
  (case dc_vectors_of=>k_is)
  (case dk_vectors_of=>k_is)
  (case da_without=>k_is)
  (case dl_without=>k_is)
  (case dc_without=>k_is)
  (case dk_without=>k_is)
  (case da_first_relation=>k_is)
  (case dl_first_relation=>k_is)
  (case dc_first_relation=>k_is)
  (case dk_first_relation=>k_is)
  (case da_first_sum=>k_is)
  (case dl_first_sum=>k_is)
  (case dc_first_sum=>k_is)
  (case dk_first_sum=>k_is)
  (case da_heard_points=>k_is)
  (case dl_heard_points=>k_is)
  (case dc_heard_points=>k_is)
  (case dk_heard_points=>k_is)
  (case da_fits=>k_is)
  (case dl_fits=>k_is)
  (case dc_fits=>k_is)
  (case dk_fits=>k_is)
  (case da_first_terms=>k_is)
  (case dl_first_terms=>k_is)
  (case dc_first_terms=>k_is)
  (case dk_first_terms=>k_is)
  (case da_least_curve=>k_is)
  (case dl_least_curve=>k_is)
  (case dc_least_curve=>k_is)
  (case dk_least_curve=>k_is)
  (case da_check_curves=>k_is)
  (case dl_check_curves=>k_is)
  (case dc_check_curves=>k_is)
  (case dk_check_curves=>k_is)
  (case da_curve_for=>k_is)
  (case dl_curve_for=>k_is)
  (case dc_curve_for=>k_is)
  (case dk_curve_for=>k_is)
  (case da_weighted_points=>k_is)
  (case dl_weighted_points=>k_is)
  (case dc_weighted_points=>k_is)
  (case dk_weighted_points=>k_is)
  (case da_weight_in=>k_is)
  (case dl_weight_in=>k_is)
  (case dc_weight_in=>k_is)
  (case dk_weight_in=>k_is)
  (case da_weight_of=>k_is)
  (case dl_weight_of=>k_is)
  (case dc_weight_of=>k_is)
  (case dk_weight_of=>k_is)
  (case da_most_weight=>k_is)
  (case dl_most_weight=>k_is)
  (case dc_most_weight=>k_is)
  (case dk_most_weight=>k_is)
  (case da_next_picks=>k_is)
  (case dl_next_picks=>k_is)
  (case dc_next_picks=>k_is)
  (case dk_next_picks=>k_is)
  (case da_picked_weights=>k_is)
  (case dl_picked_weights=>k_is)
  (case dc_picked_weights=>k_is)
  (case dk_picked_weights=>k_is)
  (case da_heavy=>k_is)
  (case dl_heavy=>k_is)
  (case dc_heavy=>k_is)
  (case dk_heavy=>k_is)
  (case da_curve_by=>k_is)
  (case dl_curve_by=>k_is)
  (case dc_curve_by=>k_is)
  (case dk_curve_by=>k_is)
  (case da_choices=>k_is)
  (case dl_choices=>k_is)
  (case dc_choices=>k_is)
  (case dk_choices=>k_is)
  (case da_all_through=>k_is)
  (case dl_all_through=>k_is)
  (case dc_all_through=>k_is)
  (case dk_all_through=>k_is)
  (case da_all_near=>k_is)
  (case dl_all_near=>k_is)
  (case dc_all_near=>k_is)
  (case dk_all_near=>k_is)
  (case da_l_cell=>k_is)
  (case dl_l_cell=>k_is)
  (case dc_l_cell=>k_is)
  (case dk_l_cell=>k_is)
  (case da_l_draws=>k_is)
  (case dl_l_draws=>k_is)
  (case dc_l_draws=>k_is)
  (case dk_l_draws=>k_is)
  (case da_l_code=>k_is)
  (case dl_l_code=>k_is)
  (case dc_l_code=>k_is)
  (case dk_l_code=>k_is)
  (case da_l_value=>k_is)
  (case dl_l_value=>k_is)
  (case dc_l_value=>k_is)
  (case dk_l_value=>k_is)
  (case da_l_polynomial=>k_is)
  (case dl_l_polynomial=>k_is)
  (case dc_l_polynomial=>k_is)
  (case dk_l_polynomial=>k_is)
  (case da_l_row=>k_is)
  (case dl_l_row=>k_is)
  (case dc_l_row=>k_is)
  (case dk_l_row=>k_is)
  (case sb=>k_is)
  (case al=>k_is)
  (case ll=>k_is)
  (case cl=>k_is)
  (case kl=>k_is)
  (case Mt=>k_is)
  (case LW=>k_is)
  (case L6=>k_is)
  (case LV=>k_is)
  (case Mr=>k_is)
  (case Ms=>k_is)
  (case Mu=>k_is)
  (case Mo=>k_is)
  (case KZ=>k_is)
  (case Mp=>k_is)
  (case L7=>k_is)
  (case Mq=>k_is)
  (case Lg=>k_is)
  (case LJ=>k_is)
  (case KN=>k_is)
  (case tc=>with_unfolding_all rfl)
#print axioms PySem.Challenge.cw_slipcurve_k37_whole_guesses_as_rows_holds
end