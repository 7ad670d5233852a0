import PyProof.Rows.All
import Wide.All
import OpenK.AllK
import Wide.FinOn
import PyProof.EqAt
import PyProof.EqKinds
import PyProof.TupleCall
import Lean
import PySem.Challenge.RW_twinriddles_k73_all_puttings
set_option Elab.async false
set_option linter.all false
set_option maxRecDepth 100000
set_option maxHeartbeats 8000000
set_option compiler.extract_closed false
set_option backward.eqns.nonrecursive false
noncomputable section
open List renaming length->X0
namespace RfL
theorem r{a:α}:a=a:=rfl
end RfL
open RfL renaming r->I,r->XV
open Option renaming some->Y,some->Wp,none->J,none->WF
open Bool renaming true->C,true->WP,false->U,false->W1
open And renaming intro->dV
open Array renaming length_toList->mf,getElem?_toList->nK,getElem?_eq_getElem->qJ,getElem?_eq_some_iff->Mh,getD_eq_getD_getElem?->vh,getElem?_setIfInBounds->DA,forIn_toList->Dx,append_assoc->Hn,getElem?_eq_none->GK,getElem?_replicate->MA,mem_toList_iff->XQ,getElem?_eq_none_iff->XO,toList_eq_nil_iff->XN,toList_append->Mq,toList_push->fq,replicate->fZ,size_zip->rd,size_map->ro,toList->t8,ext->Ch
open Bool renaming false_ne_true->kR,false_eq_true->kX,and_eq_true->ma,not_true->sO,or_eq_true->xM,eq_iff_iff->Ds,false_and->eL,not_false->gk,and_false->gm,and_assoc->gn,true_and->gJ,eq_false_iff->na,noConfusion->n5
open False renaming elim->aW
open ForInStep renaming yield->bD
open Function renaming comp_def->uR,comp->cz
open Int renaming toNat_natCast->ye,mul_one->Hm,emod_lt_of_pos->GO,emod_nonneg->GN,natCast_inj->sx,neg_neg->B4
open LawfulBEq renaming eq_of_beq->sU
open LawfulMonad renaming bind_assoc->vB,pure_bind->x0
open Lean renaming Syntax->b4,Name->fX,mkIdent->v5
open List renaming map_cons->kc,mem_cons_self->la,mem_cons_of_mem->jU,getElem?_eq_getElem->jT,length_map->ke,mem_cons->nS,size_toArray->kH,map_map->kG,getElem?_map->kQ,getElem?_eq_some_iff->uj,all_eq_true->mh,mem_append->qX,nodup_nil->mZ,mem_of_getElem?->nL,length_cons->nJ,length_append->nR,map_append->nQ,getElem?_set_self->oH,getElem?_set_ne->oG,map_nil->oW,mem_map->wa,pairwise_append->ui,getD_eq_getElem?_getD->oU,append_assoc->pM,map_congr_left->pL,mem_range->uY,lookup_cons->qi,mem_filter->Fc,mem_append_right->qW,getElem?_append_right->qR,pairwise_cons->Fb,pairwise_map->rJ,append_nil->sA,getElem?_append_left->sv,getElem?_of_mem->sj,not_mem_nil->sf,nil_append->se,filterMap_cons->sV,map_id->sN,length_take->uX,length_filter_le->uQ,nodup_cons->BF,getElem?_replicate->wk,mem_map_of_mem->rK,length_set->tD,all_cons->tx,any_cons->tw,exists_cons_of_length_pos->tj,zip_cons_cons->sY,mem_flatMap->wo,mem_singleton->Kp,range'_succ->vt,take_append_drop->vq,getElem?_cons_zero->vg,take_sublist->yf,length_singleton->yc,getElem?_zip_eq_some->E8,ext_getElem->xY,pairwise_reverse->Hq,mem_of_mem_take->xS,foldl_cons->xR,find?_cons->xF,mem_filterMap->M4,getElem?_set->Aa,drop_eq_getElem_cons->zZ,drop_eq_nil_of_le->zY,ext_getElem?->zW,reverse_perm->zT,eq_nil_of_length_eq_zero->zS,length_pos_iff->Ud,getElem?_cons_succ->zP,length_eq_zero_iff->Uc,length_nil->zO,replicate_zero->zM,nodup_append->zL,filter_cons_of_pos->zK,filter_cons_of_neg->zJ,mem_append_left->DZ,getElem_inj->DY,eq_nil_or_concat->DI,pairwise_iff_getElem->QZ,getElem_of_mem->DH,mem_of_mem_drop->DG,take_succ->DF,getElem_mem->Dw,length_eraseIdx->Dv,of_mem_zip->Hh,getElem?_zipIdx->G8,foldl_append->G7,perm_middle->Q7,concat_eq_append->GX,drop_sublist->GW,mem_erase_of_ne->GL,pairwise_lt_range->Q6,any_eq_true->Q5,filter_eq_self->XD,filter_map->GB,filter_congr->GA,flatMap_cons->Gz,getElem?_take_of_lt->MY,length_replicate->MX,mem_of_find?_eq_some->MQ,length_reverse->MH,pairwise_singleton->MF,perm_append_comm->Ub,filterMap_append->MD,perm_append_singleton->MC,perm_cons_erase->Mp,range'_eq_map_range->Mn,dropLast_concat_getLast->Mm,replicate->ai,range->ap,range'->bp,map->cV,length->c3,replicate_succ->du,mem_reverse->dM,isEmpty_nil->dO,take_of_length_le->ek,range_succ_eq_map->el,all_map->en,forIn_cons->ey,getElem?_drop->fe,any_map->fH,take_take->gg,Nodup->gi,getElem?_eq_none->g8,zip_nil_right->kv,map_singleton->kA,filter_append->kS,filterMap_map->lf,length_range->m7,any_eq_false->m8,zipIdx_cons->nw,take_length->nF,map_fst_zip->nP,length_drop->n4,find?_some->rc,map_take->t7,map_id'->vw,foldl->B2
open List.Pairwise renaming nil->c4,sublist->xl,of_map->xp,map->xt,imp_of_mem->xz
open List.Perm renaming refl->vo,trans->hW,swap->ig,cons->ik,of_eq->Q2,eq_of_pairwise->R1,append_left->Sc
open List.cons renaming inj->sZ
open Nat renaming le_refl->jZ,ne_of_lt->kx,le_trans->lN,zero_le->mq,lt_of_lt_of_le->ot,lt_irrefl->ql,ne_of_gt->qk,pow_succ->uS,le_of_lt->wm,lt_succ_of_lt->we,mul_assoc->rL,not_lt->M6,mul_add->vn,add_assoc->xQ,mul_comm->xK,mul_one->xJ,mod_lt->xH,pow_le_pow_right->xG,le_succ->Ac,lt_trans->Ab,lt_of_le_of_lt->zN,lt_succ_self->DQ,zero_add->DE,mul_left_comm->DC,lt_asymm->G9,add_sub_cancel_left->GY,one_mul->GR,mul_zero->GQ,min_eq_left->ez,add_mul->f3,sub_add_cancel->mN,lt_or_eq_of_le->m4,add_sub_cancel->m6,le_succ_of_le->nt,le_of_not_lt->q9,two_pow_pos->sa,mul_add_mod->sm,div_add_mod->ss,lt_or_ge->wS,le_of_eq->wT,add_zero->w4,add_mod->B1
open Ne renaming symm->oX
open Option renaming bind_some->kF,isSome_iff_exists->Ko,isSome_map->GD,map_eq_some_iff->dL,isSome_some->hU,getD_none->kl,map_none->mL,bind->t5,map->vv
open Option.some renaming inj->kT
open Or renaming inr->bh,inl->bo
open Prod.mk renaming inj->uW
open PyProof.Rows renaming SortSt->sL,listUpdate_at->vp,slot_tuple_getitem->BG,get?_update_seq->xN,callWith_type1->Ad,seqEpoch_at->zQ,boot_range->DV,listItems_at->GV,entry_tuple_getitem->MW,subscriptTail_builtinR->MV,envOfC->aZ,seqObj->bj,IntsAre->d7,AllBare->ef,Keyed->eS,arrOf->fW,failedOf->gf,subscriptTail->ib,IsTup->ka,SortKind->q7,args_tuple_getitem->t0,wpAny_notIn_heap->wP,lt_int->At,le_int->AC,gt_int->AT,ge_int->acO,entry_list_sort->A2,callWith_builtin1->adn,slot_list_sort->Gc,slicePart_none->Go,oneType'->G0,keyLt'->G1,tupleItemsOf_->L3,reverseSlice'->Ms,tuples'->PP,plain_sorted->P1,entry_sorted->P2,call_abs_int->Q1,kind_sorted->V0
open PyProof.Rows.F renaming plain_set_update_loop->GF,entry_set_update_loop->Mw
open PySem renaming Shared->iL,Program->jh,Around->je,World->jc,SetTable->mW,Value->iQ,Comprehension->pJ,FuncData->mG,Heap->jb,Addr->iG,wpAny_bind->iI,wpAny_pure->iX,sizeLine_eq->ku,wpAny_holding->md,wpAny_mono->oq,wpAny_newObj_type->oF,wpAny_field->pN,wpAny_call_entry->qj,mem_of_lookup->qV,codeAny_builtin->qL,codeAny_mono->sy,wpAny_rule->sQ,wpAny_setState_of->sP,wpAny_setField_rec->uT,wpAny_typeOf->wj,wpAny_of_eq->wg,wpAny_seqItems->rN,wpAny_attempt->rM,wpAny_truthy_bool->tK,wpAny_Call_Name_kw->tJ,wpAny_callSpecial?_slot->tH,plainId_quiet->tu,wpAny_standAt->vD,wpAny_passesOwn->vC,wpAny_setField->vz,wpAny_specialOf->vf,wpAny_pyIter_list->yh,wpAny_call->yg,call_meets->yd,wpAny_askSetting->ya,codeAny_of_tree->xZ,wpAny_isInstance->xX,wpAny_forIn_list->xP,tupleKind_room_in1->xD,wpAny_execs_nil->Ae,codeAny_call_builtin->zV,wpAny_onRaise->zU,wpAny_load->DX,concat_meets->DT,wpAny_newTuple->DM,wpAny_letGo->DL,isSubtype_stop->DJ,wpAny_newList->DD,wpAny_isSame_ref_self->Dz,wpAny_pyHash_int->Ho,wpAny_pyIter_tuple->Hl,noFill_tuple_add->Hg,seq_tuple_add->Hf,seqIndex_of->Hb,seqIndex_neg->Ha,wpAny_runValue->G6,wpAny_handled->G5,wpAny_throw->G4,wpAny_point->G2,wpAny_collect_seq->GS,typeLookup_type->GJ,builtinLookup_eq_fast->GI,isSubtype_type->GH,wpAny_pyIter_slot->GG,wpAny_typeNameOfWhole_keyiter->GC,wpAny_storeName_local->M3,wpAny_comprehension_free->MR,weight_type_call_type->MK,wpAny_updateSeq_pair->MI,richCompare_meets_room->ME,wpAny_setEntries_of->My,wpAny_notOrdered_dict->Mt,wpAny_isOneOf_keyiter->Mr,starEach->aa,wpAny->ag,model->ah,mainGlobals->aj,compareOp->aw,Str->ax,bootBuiltins->aB,foldedSetIterable->aG,backTo->aK,cLine->aV,eval->aX,Builtin->ba,assignEach->bb,Stmt->bc,Pos->br,cellsFrom->bw,Arguments->bB,binaryOp->bL,swapsWith->bQ,clausesOf->bS,sysModules->bX,holding->b5,codeAny->ca,rawInt->ce,IsPair->cg,pyNext->cp,assign->cu,tupleKind->cA,CmpOp->cC,pyIter->c7,checkBuiltinCall->dc,standAt->dv,behindInMarks->dy,sliceBounds->dz,keywordEach->dA,NameKind->dE,Env->dI,Sem->dP,ofAClassStatement->d0,getItem->d1,IsPart->ew,codeAmong->eD,GenState->eF,IsEnum->eM,letOwnedTupleGo->eQ,IsZip->eR,Obj->eZ,bindArgs->fj,backToKw->fk,PassesOwn->fv,swapsWithSole->fO,swappedStores->fP,valueAt->f4,collect->f5,callerA->f6,Model->f8,BindsTo->gc,pickOrder->gr,hashByValue->gy,atKey->gC,typeLookup->gL,newFunctionEnv->gM,firstArgMember->gO,entryFor->gP,builtinsNs->gS,argsOk->gU,scanBound->il,noteFrame->io,list_append->iB,field->jp,compStart->jt,bindL->j1,bindC->j2,TriplesOk->j3,IsEnumOut->j7,DictEntry->j8,setItem->ll,setAdd->lm,relabel->lw,preSum->l3,newExc->l6,intKind->l7,Result->ms,ItemsOf->mA,unsupported->n6,subscripted->n7,setField->oC,contains->o3,compTurn->o6,ZipApart->o8,Moved->o9,wpAny_Name->sB,typeOf->sK,setsByText->s8,isInstance->te,getattributeRaised->tf,defaultsOf->tp,closureFor->tv,Tok->tz,wpAny_storeSet_of->t9,wpAny_sequenceKey->ul,wpAny_pyIter_enum->ut,wpAny_dictEntries->uu,table->u3,spliced->u4,slot_list_getitem->u5,searchCouldBeSeen->u8,newList->u9,Meets->vr,Keyword->vu,wpAny_pyIter_zip->v6,wpAny_execs_cons->v7,seqIndex?->v8,eqIsQuiet->wf,call->wl,beq_builtin_none->wn,wpAny_updateSeq->x6,wpAny_stack_any->x8,wpAny_loadPart'->x9,wpAny_dictEpoch->y4,theWindowsPlace->y6,pushCells_keeps->y7,getAttrByItsOwn->y8,Fin->zn,wpAny_tryCatch->CK,wpAny_notIn_of->C2,wpAny_Expr_any->Db,wants->Do,slotArgs->Ev,raiseNew->EQ,getAttr?->Fa,entryFor_alias->Fk,cellOf->FM,callType_codes->F0,boundAndCalled->F2,wpAny_notedAt->Ix,wpAny_in_heap->IN,sub_enumerate->IR,setSearchFrom->IX,rangeSize_one->I0,intBits_le_64->I8,evalPart_none->J4,comprehension->KE,checkTypeCall->K2,call_list_seq->K3,unaryOp->MB,setAddHashed->M0,release->M2,name_of_addr->No,leaving->NE,dictSet->NL,call_range_2->Op,callType_new->OO,IsRange->Ps,wpAny_in_of->Sr,wpAny_alloc->SI,setContains->SS,interactive->Tk,Walks->Tl,IsRangeIter->VP
open PySem.Around renaming under_plainId->uV,frames_deeper->MZ,under_plain->hL
open PySem.Builtin.Dict renaming updateFrom->fN,showsAll->fY,selfAndRest->z0,pairItems->z7,dictSlotNone->z8,addKeywords->z9
open PySem.Builtin.Frozenset renaming addrOf->eO,withSetAsKey->pc,updateFrom->pp,slot0->pw,sizeOf->px,oneOther->pC,newClass->qs
open PySem.Builtin.List renaming listTooLong->c6,listExtendWith->eX,listSameRef->fy,listLengthHint->zx
open PySem.Builtin.Range renaming rangeSize->fw,small->wL
open PySem.Builtin.Slice renaming slicePlaces->bT,sliceAdjust->cJ,sliceApplied->eW,slicePartIndex->ww,sliceFields->wE
open PySem.Builtin.SmallTypes renaming nextOf->aT,fitsIndex->bn,ownedTupleHandOut->bq,ownedTupleIsFree->bu
open PySem.Builtin.SmallTypes.calledThroughType renaming match_1->bY
open PySem.Builtin.Tuple renaming tupleHashOf->bg,tupleExact->bi,tupleItemsOf->cH,tupleIsExact->eU,tupleCompareSizes->wv
open PySem.Calls renaming spliced_nil->Hk,spliced_cons->Hj,Name_function_global->M1,evalArgs_plain->MU
open PySem.Code renaming quiet_builtin->G3
open PySem.Data renaming cell->fS,fields->hJ,seq->Ls
open PySem.F renaming called_set->M5,slot_tuple_hash->IH,slot_enumerate_next->DK,plainAttrs_list->Dt,slot_tuple_add->He,entry_tuple_add->Hd,args_tuple_add_2->Hc,called_tuple->Q8,slot_set_contains->Mj,slot_dict_keyiterator_next->Mi,slot_list_getattribute->Q4,entry_list_append->MT,args_list_append_2->MS,entry_object_init->MP,args_object_init_2->MO,slot_tuple_iterator_next->MN,entry_enumerate_next->MM,args_enumerate_next_1->ML,entry_enumerate_new->MJ,slot_set_iter->Mz,plain_list_iadd->Mx,plain_set_new->Mv,slot_dict_iter->Mu,attr_TypeError->XM
open PySem.Heap renaming get?_push_of_some->jW,lt_size->kh,get?_push_size->kE,size_push->qO,get?_update_self->tE,get?_update_other->DS,get?_update_ne->GU,SameBut->aE,ExtBut->eJ
open PySem.Heap.SameBut renaming update->si,refl->DR
open PySem.Moved renaming trans->Du,refl->wr
open PySem.NameKind renaming free->aL,cell->cy
open PySem.Obj renaming data_mapFields->uU,isFreed_of_fields->DO,cls_mapFields->DN,mapSeq->aQ,mapFields->gK,putSet->mu
open PySem.Paired renaming length->Af
open PySem.SetTable renaming below->am,runEnd->aH,insertAt->aJ,bits->aP,turns->bW,leap->cw,Probe->c5,sizeAbove->eG,grown->fQ,layClean->g7,fresh->j5,slot->mi,laid->mj,fits->mm,fill->mo,put->nf,tooFull->TD,sameMemory->TW,relaid->T2,has->Uf,gaveWay->UF,advance->UV
open PySem.SetTable.layClean renaming free->bH
open PySem.SetTable.probe renaming go->d6
open PySem.Shared renaming TypeIs->dH
open PySem.Str renaming ofString->bC
open PySem.Value renaming none->au,ref->bR,type->b3,builtin->cb,bool->cF,int->gH,notImplemented->gZ,str->me,isStrOf->r0,isInt->vl
open PySem.W renaming Frag->ji,mg_none_of->oS,kia_one->rP,kia_tup->rO,cellsFrom_some->DU,nsIn->aU,fnOf->bG,keepIn->bP,kitOne->dg,codeIn->dn,kitAny->et,methodObj->eT,kitx_tuple->gV,kitx_none->g9,kitx_list->hD,kitx_dict->hG,kitx_bool->hH,kitx_str->hX,kitx_set->hZ,kitx_int->ia,mg_of->nb
open PySem.Walks renaming list->DP
open StateT renaming run_pure->GZ
open Sum renaming inl->cK,inr->fI
open True renaming intro->bv
open PySem PySem.Spec PyProof.Rows
section
abbrev jB:=iQ->Shared->Prop
abbrev jF:=List<|iG×eZ
abbrev jg:=List<|List Int
abbrev iO:=List Int
abbrev jP:=List iQ
abbrev lI:=ax->Option iQ
abbrev jQ:=List Nat
abbrev sJ:=Array<|Int×iQ
abbrev nB:=Array iQ
abbrev jr:=List ax
abbrev kD:=List Expr
abbrev sM:=Bool->Shared->Prop
abbrev Ci:=Option iQ->Shared->Prop
abbrev yJ:=iQ->iQ->dP iQ
abbrev wc:=Array<|Option Nat
abbrev yI:=Array<|Option iQ
abbrev kW:=List<|ax×iG
abbrev pK:=List pJ
abbrev Cg:=Array eS
abbrev ki:=Nat->Prop
abbrev kP:=List iG
abbrev jI:=Scope
abbrev iR:=Expr
end
section
open PySem.SeqAt
theorem iZ:type_of% @if_pos:=@if_pos
theorem jo:type_of% @if_neg:=@if_neg
theorem lT:type_of% @decide_eq_false:=@decide_eq_false
theorem mB:type_of% @if_false:=@if_false
theorem ng:type_of% @if_true:=@if_true
def oo:=@congrArg
theorem oV:type_of% @decide_eq_true:=@decide_eq_true
theorem wd:type_of% @decide_eq_true_eq:=@decide_eq_true_eq
theorem Gx:type_of% @beq_iff_eq:=@beq_iff_eq
theorem BH:type_of% @beq_eq_false_iff_ne:=@beq_eq_false_iff_ne
theorem yb:type_of% @bne_self_eq_false:=@bne_self_eq_false
def Dy:=@of_decide_eq_true
def Dr:=@forall_congr'
end
namespace TT
noncomputable def L7(mask:Nat)(p:c5):SetTable.Probe:=
 if p.more>0 then {p with j:=p.j+1,more:=p.more-1}else
 {p with j:=(cw mask p.i p.perturb).1,more:=aH mask (cw mask p.i p.perturb).1-(cw mask p.i p.perturb).1,i:=(cw mask p.i p.perturb).1,perturb:=(cw mask p.i p.perturb).2}
noncomputable def A8(mask:Nat)(h:Int):SetTable.Probe:={j:=aP h%(mask+1),more:=aH mask (aP h%(mask+1))-aP h%(mask+1),i:=aP h%(mask+1),perturb:=aP h,dummy:=J}
def pr(mask:Nat)(h:Int):Nat->c5
 |0=>A8 mask h
 |n+1=>L7 mask<|pr mask h n
structure BM(hs:iO)(t:mW):Prop where
 pow:∃k,3<=k/\k<=11/\t.mask+1=2^k
 dum:t.dummies= #[]
 len:t.place.size=X0 hs
 room:5*(X0 hs)<3*t.mask
 ris:t.place.toList.Pairwise (· < ·)
 bd:∀j∈t.place.toList,j<=t.mask
 road:∀(i:Nat)(h:Int)(j:Nat),hs[i]?=Wp h->t.place[i]?=Wp j->∃n,(pr t.mask h n).j=j/\∀m,m<n->(pr t.mask h m).j∈t.place.toList
end TT
namespace L2
abbrev Key:=Sum Int ax
noncomputable def AS:Key->iQ->Bool
 |.inl k,v=>vl k v
 |.inr x,v=>r0 x v
noncomputable def ab7(w:jc):Key->Int
 |.inl k=>hashInt k
 |.inr x=>hashStr w x
def lr:∀{k:Key}{v:iQ},AS k v=C->(∃i t,k=cK i/\v=gH i t)\/(∃x t,k=fI x/\v=me x t)
 |.inl i,v,h=>by obtain⟨t,e⟩:=Value.isInt_shape (k:=i) (v:=v) h;exact .inl ⟨i,t,rfl,e⟩
 |.inr x,v,h=>by obtain⟨t,e⟩:=Value.isStrOf_shape (x:=x) (v:=v) h;exact .inr ⟨x,t,rfl,e⟩
def afW(i:Int)(t:tz):AS (.inl i) (.int i t)=C:=by simp[AS,vl]
def afV(x:ax)(t:tz):AS (.inr x) (.str x t)=C:=by simp[AS,r0]
def Pl(a b:Int):decide ((cK a:Key)=cK b)=(a==b):=by
 by_cases e:a=b
 .subst e;simp
 have h: ¬(cK a:Key)=cK b:=λq=>e<|Sum.inl.inj q;rw[lT h];exact(BH.mpr e).symm
def WI(a b:ax):decide ((fI a:Key)=fI b)=decide (a=b):=by
 by_cases e:a=b
 .subst e;simp
 have h: ¬(fI a:Key)=fI b:=λq=>e<|Sum.inr.inj q;rw[lT h,lT e]
def Pk(a:Int)(b:ax):decide ((cK a:Key)=fI b)=U:=lT (λq=>nomatch q)
def Pj(a:ax)(b:Int):decide ((fI a:Key)=cK b)=U:=lT (λq=>nomatch q)
def lq(d:jh)(w:jc):PySem.KeyKind d w Key where
 is:=AS
 hash:=ab7 w
 inj:=λv a b g f=>by
  rcases lr g with⟨i,t,rfl,rfl⟩|⟨x,t,rfl,rfl⟩
  .rcases lr f with⟨j,u,rfl,e⟩|⟨y,u,rfl,e⟩
   .injection e with c _;rw[c]
   exact nomatch e
  rcases lr f with⟨j,u,rfl,e⟩|⟨y,u,rfl,e⟩
  .exact nomatch e
  injection e with c _;rw[c]
 byValue:=λk v h=>by rcases lr h with⟨i,t,rfl,rfl⟩|⟨x,t,rfl,rfl⟩<;>rfl
 pyHash:=λhv h=>by
  rcases lr hv with⟨i,t,rfl,rfl⟩|⟨x,t,rfl,rfl⟩
  .exact Ho h
  exact wpAny_pyHash_str h
 eqBool:=λl hv h=>by
  rcases lr l with⟨i,t,rfl,rfl⟩|⟨x,t,rfl,rfl⟩
  .rcases lr hv with⟨j,u,rfl,rfl⟩|⟨y,u,rfl,rfl⟩
   .rw[Pl]at h;exact wpAny_eqBool_int h
   rw[Pk]at h;exact SeqAt.EqAt.int_str i t y u _ _ _ _ h
  rcases lr hv with⟨j,u,rfl,rfl⟩|⟨y,u,rfl,rfl⟩
  .rw[Pj]at h;exact SeqAt.EqAt.str_int x t j u _ _ _ _ h
  rw[WI]at h;exact wpAny_eqBool_str h
 «strs»:=λk x t v h=>by
  rcases lr h with⟨i,u,rfl,e⟩|⟨y,u,rfl,e⟩
  .exact nomatch e
  injection e with c _
  subst c;cases v<;>rfl
def ad1(a:jh)(w:jc)(i:Int)(t:tz):(lq a w).is (.inl i) (.int i t)=C:=afW i t
def ad0(a:jh)(w:jc)(x:ax)(t:tz):(lq a w).is (.inr x) (.str x t)=C:=afV x t
inductive V where
 |A7|bl(b:Bool)|int(i:Int)|str(x:ax)|byt(b:Array UInt8)|flt(b:UInt64)|ref(a:iG)|ty(n:String)
 deriving DecidableEq
def RelV:V->iQ->Prop
 |.A7,u=>u=au
 |.bl b,u=>u=cF b
 |.int i,u=>∃t,u=gH i t
 |.str x,u=>∃t,u=me x t
 |.byt b,u=>∃t,u=Value.bytes b t
 |.flt b,u=>∃t,u=Value.float b t
 |.ref a,u=>u=bR a
 |.ty n,u=>u=b3 n
abbrev Vals:List V->List iQ->Prop:=Paired RelV
def Vals.length{xs:List V}{us:jP}(r:Vals xs us):(X0 xs)=(X0 us):=Af r
def Vals.get{xs:List V}{a:jP}{i:Nat}{x:V}(h:Vals xs a)(e:xs[i]?=Y x):∃u,a[i]?=Y u/\RelV x u:=by
 induction h generalizing i with
 |nil=>simp at e
 |cons r t b=>
  cases i with
  |zero=>simp at e;subst e;exact⟨_,rfl,r⟩
  |succ i=>simpa using b (by simpa using e)
theorem Vals.set{x:V}{u:iQ}(r:RelV x u):∀{xs:List V}{us:jP}(i:Nat),Vals xs us->Vals (xs.set i x) (us.set i u)
 |_,_,_,.nil=>.nil
 |_,_,0,.cons _ t=>.cons r t
 |_,_,i+1,.cons q t=>.cons q (Vals.set r i t)
def Vals.append{c d:List V}{a b:jP}(h:Vals c a)(s:Vals d b):Vals (c++d) (a++b):=by
 induction h with
 |nil=>exact s
 |cons r t e=>exact .cons r e
theorem Vals.take:∀{xs:List V}{a:jP}(n:Nat),Vals xs a->Vals (xs.take n) (a.take n)
 |_,_,0,_=>.nil
 |_,_,_+1,.nil=>.nil
 |_,_,n+1,.cons r t=>.cons r (Vals.take n t)
theorem Vals.drop:∀{b:List V}{a:jP}(n:Nat),Vals b a->Vals (b.drop n) (a.drop n)
 |_,_,0,r=>r
 |_,_,_+1,.nil=>.nil
 |_,_,n+1,.cons _ t=>Vals.drop n t
def HJ:Option V->Option iQ->Prop
 |some v,Y u=>RelV v u
 |none,J=>True
 |_,_=>False
def KV{a:Type}:List (a×V)->List (a×iQ)->Prop:=Paired λ(p:a×V) (q:a×iQ)=>p.1=q.1/\RelV p.2 q.2
noncomputable def kV:Key->V
 |.inl i=>.int i
 |.inr x=>.str x
inductive HO where
 |lst(xs:List V)
 |tup(xs:List V)
 |dK(kvs:List (Key×V))|dT(kvs:List (List Key×V))
 |set (S:Int->Bool) (n:Nat)
 |A8 (zs:List (Int×V))
 |ins (C dx:iG) (fs:List (ax×V))
 |own (x:iG)
 |xd (fs:List (ax×V))
 |met (f x:iG)
 |rng (lo hi:Int)
 |BZ (o:eZ) (u:HO)
 |tbl (ps:nB)
 |ext (φ:jb->Prop)
abbrev Hp:=iG->Option HO
noncomputable def upd(T:Hp)(a:iG)(o:HO):Hp:=λb=>if b=a then Y o else T b
def jv{T:Hp}{a:iG}{o:HO}:upd T a o a=Y o:=by unfold upd;rw[iZ I]
def jx{T:Hp}{a b:iG}{o:HO}(h:b≠a):upd T a o b=T b:=by unfold upd;rw[jo h]
def IY{T:Hp}{a:iG}{o u:HO}:upd (upd T a o) a u=upd T a u:=by funext b;unfold upd;split<;>rfl
def Ux{T:Hp}{a b:iG}{o u:HO}(h:T a=Y o)(c:T b=Y u)(d:o≠u):a≠b:=by intro e;subst e;rw[h]at c;exact d<|kT c
def lD{T:Hp}{a b:iG}{o:HO}(h:T a=Y o)(c:T b=J):a≠b:=by intro e;subst e;rw[h]at c;cases c
section
variable(P:jh)(w:jc)
def HI(h:jb)(a:iG)(items:nB):Prop:= ∃o,h.get? a=Y o/\o.cls=.type "tuple"/\(∃n,o.data=.seq items n)/\o.dict=J
theorem HI.tup{h:jb}{a:iG}{items:nB}(x:HI h a items):ka h a items:=let⟨o,e,c,d,_⟩:=x;⟨o,e,c,d⟩
theorem HI.new(h:jb)(items:nB):HI (h.push {cls:=.type "tuple",data:=.seq items}) h.objs.size items:=⟨_,kE _ rfl,rfl,⟨_,rfl⟩,rfl⟩
def A5(N:Hp)(h:jb)(a:iG):HO->Prop
 |.lst g=>X0 g<=sizeLine/\∃(b:jP)(n:Nat),Vals g b/\h.get? a=Y {cls:=.type "list",data:=.seq b.toArray n}
 |.tup g=>X0 g<=sizeLine/\∃b:List iQ,Vals g b/\HI h a b.toArray
 |.dK d=>X0 d<=sizeLine/\(a==bX)=U/\∃k,KV d k/\h.DictOf (lq P w) a k
 |.dT d=>X0 d<=sizeLine/\(a==bX)=U/\∃g:List (List Key×iG×iQ),
   Paired (λ(p:List Key×V) (q:List Key×iG×iQ)=>p.1=q.1/\N q.2.1=Y (.tup<|p.1.map kV)/\RelV p.2 q.2.2) d g/\
   ∃o j Q,h.get? a=Y o/\o.ExactDict/\o.data=.dict j Q/\j.toList=g.map (entryOfKey<|cA<|lq P w)/\(g.map (·.1)).Nodup
 |.set S n=>h.SetOf (l7 P w) a S n
 |.A8 E=>∃(j:sJ)(n:Nat)(t:mW),h.get? a=Y {cls:=.type "set",data:=.set j n t}/\Paired (λ(z:Int×V) (e:Int×iQ)=>z.1=e.1/\RelV z.2 e.2) E j.toList/\
   TT.BM (E.map (·.1)) t/\t.plain=C/\t.led=!w.params.followText "set-order"
 |.ins T l fs=>N l=Y (.own a)/\(X0 fs)<=1000/\l≠a/\h.get? a=Y (PySem.W.instObj T l)/\
   ∃i,h.Ns1 l i/\(∀f,HJ (fs.lookup f)<|i f)/\PySem.Within i (fs.map (·.1))
 |.own _=>∃o,h.get? a=Y o
 |.xd fs=>∃i,h.Ns1 a i/\∀f,HJ (fs.lookup f)<|i f
 |.rng lo L=>∃t u v,h.get? a=Y {cls:=.type "range",data:=.fields #[.int lo t,.int L u,.int 1 v]}
 |.BZ o u=>h.get? a=Y o/\A5 N h a u
 |.tbl O=>∃q t r,O[0]?=Y (.str q t)/\h.get? a=Y {cls:=.none,data:=.fields r}/\j3 r.toList/\∀m y,eD m r.toList=Y y->∃c B u k t,y=.ref c/\N c=Y (.BZ B u)/\B.data=.fields k/\k[1]?=Y (.str q t)
 |.met f x=>h.get? a=Y (eT (.ref f)<|.ref x)
 |.ext s=>s h/\(∃o,h.get? a=Y o)/\∀h1 A:jb,s h1->(∀o,h1.get? a=Y o->A.get? a=Y o)->s A
def EV(T:Hp)(h:jb):Prop:= ∀a o,T a=Y o->A5 P w T h a o
end
section
variable {P:jh}{w:jc}{H g:Hp}{h h':jb}{a:iG}{o:HO}
def A5.lt(x:A5 P w H h a o):a<h.objs.size:=by
 cases o with
 |lst c=>obtain⟨_,_,_,_,e⟩:=x;exact kh e
 |tup c=>obtain⟨_,_,_,p⟩:=x;exact p.tup.lt
 |dK b=>obtain⟨_,_,_,_,o,_,_,e,_⟩:=x;exact kh e
 |dT b=>obtain⟨_,_,_,_,o,_,_,e,_⟩:=x;exact kh e
 |set S n=>obtain⟨o,_,_,_,e,_⟩:=x;exact kh e
 |A8 l=>obtain⟨_,_,_,e,_⟩:=x;exact kh e
 |ins T d fs=>obtain⟨_,_,_,e,_⟩:=x;exact kh e
 |own y=>obtain⟨_,e⟩:=x;exact kh e
 |xd fs=>obtain⟨_,⟨_,_,_,e,_⟩,_⟩:=x;exact kh e
 |rng lo i=>obtain⟨_,_,_,e⟩:=x;exact kh e
 |BZ j u=>obtain⟨e,_⟩:=x;exact kh e
 |tbl k=>obtain⟨_,_,_,_,e,_⟩:=x;exact kh e
 |met f y=>exact kh (show h.get? a=Y _ from x)
 |ext m=>obtain⟨_,⟨_,e⟩,_⟩:=x;exact kh e
def Paired.NC{e i:Type}{F G:e->i->Prop}{c:List e}{d:List i}(h:Paired F c d)(f:∀a b,F a b->G a b):Paired G c d:=by
 induction h with
 |nil=>exact .nil
 |cons r t j=>exact .cons (f _ _ r) j
def A5.BC(x:A5 P w H h a o)(k:∀b u,(b=a\/H b=Wp (.own a))->h.get? b=Wp u->h'.get? b=Wp u)
  (N:∀b,H b=Wp (.own a)->g b=Wp (.own a))(U:∀b A,H b=Wp (.tup A)->g b=Wp (.tup A))(Y:∀b i u,H b=Wp (.BZ i u)->g b=Wp (.BZ i u):=by exact λ_ _ _ q=>q):A5 P w g h' a o:=by
 induction o with
 |lst A=>obtain⟨z,s,n,r,e⟩:=x;exact⟨z,s,n,r,k _ _ (.inl XV) e⟩
 |tup A=>obtain⟨z,s,r,i,e,c⟩:=x;exact⟨z,s,r,i,k _ _ (.inl XV) e,c⟩
 |dK B=>obtain⟨z,y,O,r,i,j,l,e,c⟩:=x;exact⟨z,y,O,r,i,j,l,k _ _ (.inl XV) e,c⟩
 |dT B=>obtain⟨z,y,A,r,i,j,l,e,c⟩:=x;exact⟨z,y,A,Paired.NC r λp q z=>⟨z.1,U _ _ z.2.1,z.2.2⟩,i,j,l,k _ _ (.inl XV) e,c⟩
 |set S n=>obtain⟨i,j,l,t,e,c⟩:=x;exact⟨i,j,l,t,k _ _ (.inl XV) e,c⟩
 |A8 zs=>obtain⟨j,n,t,e,c⟩:=x;exact⟨j,n,t,k _ _ (.inl XV) e,c⟩
 |ins C' dx fs=>obtain⟨d,z,ne,e,E,⟨I,j,l,G,c⟩,r⟩:=x;exact⟨N _ d,z,ne,k _ _ (.inl XV) e,E,⟨I,j,l,k _ _ (.inr d) G,c⟩,r⟩
 |own y=>obtain⟨i,e⟩:=x;exact⟨i,k _ _ (.inl XV) e⟩
 |xd fs=>obtain⟨E,⟨I,j,l,e,c⟩,r⟩:=x;exact⟨E,⟨I,j,l,k _ _ (.inl XV) e,c⟩,r⟩
 |rng lo hi=>obtain⟨t,u,v,e⟩:=x;exact⟨t,u,v,k _ _ (.inl XV) e⟩
 |BZ i u ih=>obtain⟨e,q⟩:=x;exact⟨k _ _ (.inl XV) e,ih q⟩
 |tbl ps=>obtain⟨q,t,D,T,e,F,m⟩:=x;exact⟨q,t,D,T,k _ _ (.inl XV) e,F,λL Q z=>let⟨c,i,u,O,t,h1,J',M⟩:=m L Q z;⟨c,i,u,O,t,h1,Y _ _ _ J',M⟩⟩
 |met f y=>have e:h.get? a=Wp (eT (.ref f)<|.ref y):=x;show h'.get? a=Wp (eT (.ref f)<|.ref y);exact k a _ (.inl XV) e
 |ext φ=>obtain⟨p,⟨o,e⟩,st⟩:=x;exact⟨st _ _ p λo q=>k _ _ (.inl XV) q,⟨o,k _ _ (.inl XV) e⟩,st⟩
def EV.lt(x:EV P w H h)(e:H a=Y o):a<h.objs.size:=(x a o e).lt
def EV.fresh(x:EV P w H h)(e:h.objs.size<=a):H a=J:=by
 cases q:H a with
 |none=>rfl
 |some u=>exact absurd (ot (x.lt q) e)<|ql _
def EV.kept(x:EV P w H h)(k:∀b u,h.get? b=Y u->h'.get? b=Y u):EV P w H h':=λa o e=>(x a o e).BC (λb u _ q=>k b u q) (λ_ q=>q) λ_ _ q=>q
def EV.laid(x:EV P w H h)(k:∀b u,h.get? b=Y u->h'.get? b=Y u)(i:h.objs.size<=a)(new:A5 P w (upd H a o) h' a o):EV P w (upd H a o) h':=λb u e=>by
 have d:=x.fresh i;by_cases f:b=a
 .subst f;rw[jv]at e;cases e;exact new
 rw[jx f]at e;exact(x b u e).BC (λc v _ q=>k c v q) (λc q=>by rw[jx<|lD q d];exact q) (λc xs q=>by rw[jx<|lD q d];exact q) λc _ _ q=>by rw[jx<|lD q d];exact q
end
def Rd(T:Hp)(a:iG)(u:HO):Prop:=T a=Y u\/∃o,T a=Y (.BZ o u)
def Rd.ok{P:jh}{w:jc}{T:Hp}{h:jb}{a:iG}{u:HO}(r:Rd T a u)(x:EV P w T h):A5 P w T h a u:=by
 rcases r with r|⟨o,r⟩
 .exact x a u r
 obtain⟨_,q⟩:=x a _ r;exact q
def Nl:Option HO->Prop
 |some (.lst _)=>True
 |some (.dK _)=>True
 |some (.dT _)=>True
 |some (.set _ _)=>True
 |some (.A8 _)=>True
 |some (.ins _ _ _)=>True
 |some (.ext _)=>True
 |_=>False
section
variable {P:jh}{w:jc}{H:Hp}{h a:jb}{x e:iG}{d:HO}
def EV.write(ok:EV P w H h)(g:Nl (H x))(o:e=x\/H e=Y (.own x))(k:∀b u,b≠e->h.get? b=Y u->a.get? b=Y u)(s:∃u,a.get? e=Y u)
  (new:A5 P w (upd H x d) a x d):EV P w (upd H x d) a:=λb u q=>by
 have f:∀c y,H c=Y (.own y)->c≠x:=λc y r z=>by subst z;rw[r]at g;exact g
 have i:∀c n,H c=Y (.tup n)->c≠x:=λc n r z=>by subst z;rw[r]at g;exact g
 by_cases l:b=x
 .subst l;rw[jv]at q;cases q;exact new
 rw[jx l]at q;by_cases j:b=e
 .have p:H b=Y (.own x):=by
   rcases o with z|z
   .exact absurd (j.trans z) l
   rw[j];exact z
  rw[q]at p;cases p;obtain⟨v,hv⟩:=s;exact⟨v,by rw[j];exact hv⟩
 refine(ok b u q).BC (λc v m r=>k c v ?_ r) (λc r=>by rw[jx<|f c b r];exact r) (λc n r=>by rw[jx<|i c n r];exact r) λc _ _ r=>by rw[jx λz=>by subst z;rw[r]at g;exact g];exact r
 rcases m with rfl|m
 .exact j
 rintro rfl;rcases o with z|z
 .exact f c b m z
 rw[m]at z;cases z;exact l I
end
structure Un(fs ex:kP)(H H':Hp)(h h':jb):Prop where
 keep:∀b o,h.get? b=Wp o->H b=WF->b∉fs->b∉ex->h'.get? b=Wp o
 slot:∀b o,h.get? b=Wp o->H b=WF->b∈fs->b∉ex->∃sl,h'.get? b=Wp {o with slots:=sl}
 free:∀b o,h.get? b=Wp o->H b=WF->b∉ex->H' b=WF
 there:∀b o,h.get? b=Wp o->b∉ex->∃o',h'.get? b=Wp o'
 tups:∀b xs,H b=Wp (.tup xs)->H' b=Wp (.tup xs)
 frzs:∀b o u,H b=Wp (.BZ o u)->H' b=Wp (.BZ o u)
 tbls:∀b ps,H b=Wp (.tbl ps)->∃more,H' b=Wp (.tbl<|ps++more)
section
variable {fs f ex c:kP}{H d i:Hp}{h h1 g h':jb}{a x e:iG}{o:HO}
def Un.any(u:Un fs ex H d h h1){b:iG}{j:eZ}(q:h.get? b=Y j)(n:H b=J)(l:b∉ex):∃m,h1.get? b=Y {j with slots:=m}:=by
 by_cases k:b∈fs
 .exact u.slot b j q n k l
 exact⟨j.slots,u.keep b j q n k l⟩
def Un.kept(k:∀b u,h.get? b=Y u->h'.get? b=Y u):Un fs ex H H h h':=
 ⟨λb j q _ _ _=>k b j q,λb j q _ _ _=>⟨j.slots,k b j q⟩,λ_ _ _ n _=>n,λb j q _=>⟨j,k b j q⟩,λ_ _ q=>q,λ_ _ _ q=>q,λ_ l q=>⟨#[],by rw[q];simp⟩⟩
def Un.refl:Un fs ex H H h h:=Un.kept λ_ _ q=>q
def Un.laid(k:∀b u,h.get? b=Y u->h'.get? b=Y u)(r:h.objs.size<=a)(j:H a=J):Un fs ex H (upd H a o) h h' where
 keep:=λb u q _ _ _=>k b u q
 slot:=λb u q _ _ _=>⟨u.slots,k b u q⟩
 free:=λb u q n _=>by rw[jx<|kx<|ot (kh q) r];exact n
 there:=λb u q _=>⟨u,k b u q⟩
 tups:=λb xs q=>by rw[jx<|lD q j];exact q
 frzs:=λb u xs q=>by rw[jx<|lD q j];exact q
 tbls:=λb s q=>⟨#[],by rw[jx<|lD q j,q];simp⟩
def Un.write(j:Nl (H x))(v:e=x\/H e=Y (.own x))(k:∀b u,b≠e->h.get? b=Y u->h'.get? b=Y u)(t:∃u,h'.get? e=Y u):Un fs ex H (upd H x o) h h':=by
 have s:∀b,H b=J->b≠x:=λb n z=>by subst z;rw[n]at j;exact j
 have p:∀b,H b=J->b≠e:=λb n z=>by
  subst z;rcases v with r|r
  .exact s b n r
  rw[n]at r;cases r
 have l:∀b u,H b=Y u->¬Nl (Y u)->b≠x:=λb u q w z=>by subst z;rw[q]at j;exact w j
 refine⟨λb u q n _ _=>k b u (p b n) q,λb u q n _ _=>⟨u.slots,k b u (p b n) q⟩,λb u q n _=>by rw[jx<|s b n];exact n,λb u q _=>?_,
  λb y q=>by rw[jx<|l b _ q λz=>z];exact q,λb u y q=>by rw[jx<|l b _ q λz=>z];exact q,λb A q=>⟨#[],by rw[jx<|l b _ q λz=>z,q];simp⟩⟩
 by_cases m:b=e
 .subst m;exact t
 exact⟨u,k b u m q⟩
end
noncomputable def OA(h:jb)(T:Hp):List Addr:=(ap h.objs.size).filter λa=>(T a).isSome
def BW(h:jb)(T:Hp):Heap:=PySem.W.hideAll h<|OA h T
def afs(h:jb)(T:Hp):(BW h T).objs.size=h.objs.size:=PySem.W.hideAll_size _ _
def PH{h:jb}{T:Hp}{b:iG}{o:eZ}(e:h.get? b=Y o)(n:T b=J):(BW h T).get? b=Y o:=
 PySem.W.hideAll_get _ e λa=>by have q:(T b).isSome=C:=(Fc.mp a).2;rw[n]at q;simp at q
def Sy{h:jb}{T:Hp}{b:iG}{o:eZ}(e:(BW h T).get? b=Y o):h.get? b=Y o/\T b=J:=by
 have a:h.get? b=Y o:=PySem.W.of_hideAll (OA h T) e;refine⟨a,?_⟩
 cases q:T b with
 |none=>rfl
 |some x=>have c:b∈OA h T:=Fc.mpr ⟨uY.mpr<|kh a,by simp[q]⟩;have z:(BW h T).get? b=J:=PySem.W.hideAll_none (OA h T) c;rw[z]at e;cases e
structure Mod(K:ji)(mg:lI)(base:jb):Prop where
 kin:K.In base
 glob:base.Ns aj mg
 blt:∃mb,base.Ns gS mb/\∀x:ax,x≠"__name__"->mb x=aB x
 nolimit:base.NoLimit
structure Cx where
 prog:jh
 w:jc
 K:ji
 mg:ax->Option iQ
 base:jb
 A:je
 N:List ax
 s₀:Shared
 H₀:Hp
 env:dI
 outer:List dI
 stack:List dI
 ex:List iG
 fn:ax->Bool
 calm:Bool
 pn:List (iG×eZ)
 xe:iQ->Shared->Prop
noncomputable def Eg(l:List dI):List Addr:=l.filterMap (·.frame)
abbrev Cx.fs(X:Cx):List Addr:=Eg X.outer
def Lv(a:jI)(x:ax):Prop:=a.names.lookup x=Y .local\/a.names.lookup x=Y .cell\/a.names.lookup x=Y .free
def Loc(a:jI)(x:ax):Prop:=a.names.lookup x=Y .local\/a.names.lookup x=Y .cell
def acv(a:dI)(h:jb)(m:lI)(x:ax)(u:iQ):Prop:=
 (a.kindOf x=Y .local/\m x=Y u)\/((a.kindOf x=Y .cell\/a.kindOf x=Y .free)/\∃c,a.cells.lookup x=Y c/\h.IsCell c (Y u))
structure Cx.Ok(X:Cx):Prop where
 mod:Mod X.K X.mg X.base
 kind:X.env.scope.kind=.function
 glob:X.env.globals=aj
 blt:X.env.builtins=gS
 above:X.s₀.heap.objs.size<=X.env.locals
 inj:∀x y c,X.env.cells.lookup x=Wp c->X.env.cells.lookup y=Wp c->x=y
 has:∀x,(X.env.kindOf x=Wp .cell\/X.env.kindOf x=Wp .free)->∃c,X.env.cells.lookup x=Wp c
 cab:∀x c,X.fn x=WP->X.env.cells.lookup x=Wp c->X.s₀.heap.objs.size<=c
 hd:X.calm=WP->X.A.handled=WF
 frames:X.A.frames=Wp X.stack
 stk:X.stack=X.outer\/(X.stack=X.env::X.outer/\X.env.frame=Wp X.env.locals)
 exf:∀b∈X.ex,b≠X.env.locals/\∀x c,X.env.cells.lookup x=Wp c->c≠b
 bs:∀b o,X.base.get? b=Wp o->X.s₀.heap.get? b=Wp o/\X.H₀ b=WF
 bsz:X.base.objs.size<=X.s₀.heap.objs.size
 noex:∀b o,X.base.get? b=Wp o->b∉X.ex
 exfs:∀b∈X.ex,b∉X.fs
 Ed:X.s₀.heap.FunFrames X.base X.outer
 frf:∀b∈X.fs,X.H₀ b=WF
structure Inv(X:Cx)(pins:jF)(σ:List (Option V))(H:Hp)(s:iL):Prop where
 ok:X.Ok
 os:s.os=X.s₀.os
 bare:ef s.gens
 base:Un X.fs X.ex X.H₀ H X.s₀.heap s.heap
 loc:∃m,s.heap.Ns X.env.locals m/\∀(i:Nat)(x:ax)(v:V),X.N[i]?=Wp x->σ[i]?=Wp (Wp v)->Lv X.env.scope x->∃u,RelV v u/\acv X.env s.heap m x u
 cell:∀x c,X.env.cells.lookup x=Wp c->∃v,s.heap.IsCell c v
 free:H X.env.locals=WF
 freeC:∀x c,X.env.cells.lookup x=Wp c->H c=WF
 pin:∀p∈X.pn++pins,s.heap.get? p.1=Wp p.2/\H p.1=WF/\p.1≠X.env.locals/\p.1∉X.fs/\∀v,p.2.data≠ .cell v
 hok:EV X.prog X.w H s.heap
 len:(X0 σ)=X.N.length
section
variable {X:Cx}{f:jF}{g:List (Option V)}{H B:Hp}{s:iL}{h':jb}
def Cx.Ok.nofr(ok:X.Ok){b:iG}{o:eZ}(e:X.base.get? b=Y o):b∉X.fs:=λa=>by have:=(ok.Ed.mem a).1;rw[e]at this;cases this
def Inv.bs(T:Inv X f g H s):∀b o,X.base.get? b=Y o->s.heap.get? b=Y o/\H b=J:=λb o e=>⟨T.base.keep b o (T.ok.bs b o e).1 (T.ok.bs b o e).2 (T.ok.nofr e)<|T.ok.noex b o e,T.base.free b o (T.ok.bs b o e).1 (T.ok.bs b o e).2<|T.ok.noex b o e⟩
def Inv.bk(T:Inv X f g H s):∀b o,X.base.get? b=Y o->s.heap.get? b=Y o:=λb o e=>(T.bs b o e).1
def Inv.mod(T:Inv X f g H s):Mod X.K X.mg X.base:=T.ok.mod
def Inv.Eo(T:Inv X f g H s):X.K.In s.heap:=T.ok.mod.kin.keeps T.bk
def Inv.lt(T:Inv X f g H s):X.env.locals<s.heap.objs.size:=let⟨_,a,_⟩:=T.loc;a.lt
def Inv.sz(T:Inv X f g H s):X.s₀.heap.objs.size<=s.heap.objs.size:=lN T.ok.above<|wm T.lt
def Inv.N7(T:Inv X f g H s){a:iG}(h:s.heap.objs.size<=a):a∉X.fs:=λb=>by obtain⟨_,o,c,_⟩:=T.ok.Ed.mem b;exact absurd (ot (kh c)<|lN T.sz h)<|ql _
def Inv.L0(T:Inv X f g H s):∀x c,X.env.cells.lookup x=Y c->c≠X.env.locals:=λx c e z=>by obtain⟨v,o,a,hd⟩:=T.cell x c e;obtain⟨m,⟨j,i,h,d,b,_⟩,_⟩:=T.loc;rw[z,d]at a;cases a;rw[b]at hd;cases hd
def Inv.Ed(T:Inv X f g H s):s.heap.FunFrames X.base X.outer:=by
 have all:∀(l:List dI),(∀b∈Eg l,b∈X.fs)->X.s₀.heap.FunFrames X.base l->s.heap.FunFrames X.base l:=by
  intro l
  induction l with
  |nil=>intro _ _;trivial
  |cons i r p=>intro h j;obtain⟨hk,⟨L,o,d,k,m,hd⟩,n⟩:=j;have a:L∈X.fs:=h L (by unfold Eg;rw[sV,d];exact la);obtain⟨q,e⟩:=T.base.slot L o m (T.ok.frf L a) a λz=>T.ok.exfs L z a;exact⟨hk,⟨L,_,d,k,e,hd⟩,p (λb c=>h b<|by unfold Eg;rw[sV,d];exact jU _ c) n⟩
 exact all X.outer (λ_ c=>c) T.ok.Ed
def Inv.stack(T:Inv X f g H s):s.heap.FunFrames X.base X.stack:=by
 rcases T.ok.stk with e|⟨e,hf⟩
 .rw[e];exact T.Ed
 rw[e];obtain⟨m,a,_⟩:=T.loc;refine .cons (by rw[T.ok.kind];decide) hf a ?_ T.Ed;exact Heap.get?_none_of_le<|lN T.ok.bsz T.ok.above
def Inv.Gq(T:Inv X f g H s):∀b∈Eg X.stack,b∈X.env.locals::X.fs:=λb a=>by
 rcases T.ok.stk with e|⟨e,hf⟩
 .rw[e]at a;exact jU _ a
 rw[e]at a;unfold Eg at a;rw[sV,hf]at a;exact a
def Inv.Fm(T:Inv X f g H s):∀b∈Eg X.stack,H b=J:=λb a=>by
 rcases nS.mp (T.Gq b a)with e|a
 .rw[e];exact T.free
 obtain⟨_,o,c,_⟩:=T.ok.Ed.mem a;exact T.base.free b o c (T.ok.frf b a) λz=>T.ok.exfs b z a
def Inv.step{g':Array eF}{t':Nat}{d':Drawn}{ch:kP}(I:Inv X f g H s)
  (E:∀b∈ch,(b∈X.ex\/X.s₀.heap.objs.size<=b)/\b≠X.env.locals/\(∀x c,X.env.cells.lookup x=Y c->c≠b)/\∀p∈X.pn++f,p.1≠b)
  (keep:∀b o,b≠X.env.locals->b∉X.fs->b∉ch->s.heap.get? b=Y o->H b=WF->h'.get? b=Y o)
  (slot:∀b o,b≠X.env.locals->b∈X.fs->b∉ch->s.heap.get? b=Y o->H b=WF->∃Y',h'.get? b=Y {o with slots:=Y'})(free:∀b o,b∉ch->s.heap.get? b=Y o->H b=WF->B b=WF)
  (there:∀b o,b∉ch->s.heap.get? b=Y o->∃T,h'.get? b=Y T)
  (J:∀b t,H b=Y (.tup t)->B b=Y (.tup t))(O:∀b o u,H b=Y (.BZ o u)->B b=Y (.BZ o u))(G:∀b N,H b=Y (.tbl N)->∃more,B b=Y (.tbl<|N++more))
  (ns:∀m,s.heap.Ns X.env.locals m->h'.Ns X.env.locals m)(U:EV X.prog X.w B h')(hg:ef g'):
  Inv X f g B {s with heap:=h',gens:=g',drawn:=d',toks:=t'}:=by
 have Q:∀b o,X.s₀.heap.get? b=Y o->b≠X.env.locals:=λb o e=>kx<|ot (kh e) I.ok.above
 have M:∀b o,X.s₀.heap.get? b=Y o->b∉X.ex->b∉ch:=λb o e a y=>by
  rcases(E b y).1 with z|z
  .exact a z
  exact absurd (ot (kh e) z) (ql _)
 have h:∀x c,X.env.cells.lookup x=Y c->∀v,s.heap.IsCell c v->h'.IsCell c v:=λx c e v a'=>by
  obtain⟨o,A,hd⟩:=a'
  have C:c∉ch:=λz=>(E c z).2.2.1 x c e XV;by_cases D:c∈X.fs
  .obtain⟨Y',q⟩:=slot c o (I.L0 x c e) D C A<|I.freeC x c e;exact⟨_,q,hd⟩
  exact⟨o,keep c o (I.L0 x c e) D C A<|I.freeC x c e,hd⟩
 refine⟨I.ok,I.os,hg,⟨λb o e n y a=>?_,λb o e n y a=>?_,λb o e n a=>?_,λb o e a=>?_,λb t e=>J b t<|I.base.tups b t e,λb o t e=>O b o t<|I.base.frzs b o t e,λb N e=>?_⟩,?_,λx c e=>?_,?_,λx c e=>?_,λp F=>?_,U,I.len⟩
 .exact keep b o (Q b o e) y (M b o e a) (I.base.keep b o e n y a) (I.base.free b o e n a)
 .obtain⟨Y',j⟩:=I.base.slot b o e n y a;obtain⟨R,L⟩:=slot b _ (Q b o e) y (M b o e a) j (I.base.free b o e n a);exact⟨R,L⟩
 .obtain⟨T,j⟩:=I.base.there b o e a;exact free b T (M b o e a) j<|I.base.free b o e n a
 .obtain⟨T,j⟩:=I.base.there b o e a;exact there b T (M b o e a) j
 .obtain⟨W,j⟩:=I.base.tbls b N e;obtain⟨Z,L⟩:=G b _ j;exact⟨W++Z,by rw[L,Hn]⟩
 .obtain⟨m,V,S⟩:=I.loc;refine⟨m,ns m V,λi x v j L P=>?_⟩;obtain⟨u,r,l⟩:=S i x v j L P;refine⟨u,r,?_⟩;rcases l with l|⟨k,c,e,z⟩
  .exact .inl l
  exact .inr ⟨k,c,e,h x c e _ z⟩
 .obtain⟨v,z⟩:=I.cell x c e;exact⟨v,h x c e v z⟩
 .obtain⟨m,⟨o,_,_,A,_⟩,_⟩:=I.loc;exact free _ o (λz=>(E _ z).2.1 XV) A I.free
 .obtain⟨v,o,A,hd⟩:=I.cell x c e;exact free c o (λz=>(E c z).2.2.1 x c e XV) A<|I.freeC x c e
 obtain⟨e,n,ne,K,d⟩:=I.pin p F;have C:p.1∉ch:=λz=>(E p.1 z).2.2.2 p F XV;exact⟨keep p.1 p.2 ne K C e n,free p.1 p.2 C e n,ne,K,d⟩
def Inv.un{t':Nat}(T:Inv X f g H s)(u:Un X.fs [] H B s.heap h')(d:EV X.prog X.w B h'):Inv X f g B {s with heap:=h',toks:=t'}:=by
 obtain⟨m,⟨o,t,q,i,r⟩,_⟩:=id T.loc;obtain⟨y,k⟩:=u.any i T.free (by simp)
 exact T.step (g':=s.gens) (d':=s.drawn) (ch:=[]) (λ_ z=>nomatch z) (λb o _ c _ e n=>u.keep b o e n c<|by simp) (λb o _ c _ e n=>u.slot b o e n c<|by simp) (λb o _ e n=>u.free b o e n<|by simp) (λb o _ e=>u.there b o e<|by simp) u.tups u.frzs u.tbls (λv l=>by obtain⟨x,a,j,h,p⟩:=l;rw[i]at h;cases h;exact⟨_,a,j,k,p⟩) d T.bare
def Inv.call{g':Array eF}{t':Nat}{d':Drawn}{ch:kP}(N:Inv X f g H s)(u:Un (Eg X.stack) ch H B s.heap h')(i:EV X.prog X.w B h')(v:ef g')
  (k:∀b∈ch,(b∈X.ex\/X.s₀.heap.objs.size<=b)/\b≠X.env.locals/\(∀x c,X.env.cells.lookup x=Y c->c≠b)/\∀p∈X.pn++f,p.1≠b):
  Inv X f g B {s with heap:=h',gens:=g',drawn:=d',toks:=t'}:=by
 obtain⟨m,⟨o,E,T,l,r⟩,_⟩:=id N.loc;obtain⟨Q,h⟩:=u.any l N.free λz=>(k _ z).2.1 I
 exact N.step (ch:=ch) k (λb o h t a e n=>u.keep b o e n (λz=>(nS.mp<|N.Gq b z).elim h t) a) (λb o _ _ a e n=>u.any e n a) (λb o a e n=>u.free b o e n a) (λb o a e=>u.there b o e a) u.tups u.frzs u.tbls (λL y=>by obtain⟨O,d,q,j,A⟩:=y;rw[l]at j;cases j;exact⟨_,d,q,h,A⟩) i v
def Inv.turned{t':Nat}{it:iG}(Q:Inv X f g H s)(k:∀b o,b≠it->s.heap.get? b=Y o->h'.get? b=Y o)(A:H it=J)(h:it≠X.env.locals)
  (h1:it∈X.ex\/X.s₀.heap.objs.size<=it)(l:∀x c,X.env.cells.lookup x=Y c->c≠it)(t:∀p∈X.pn++f,p.1≠it):Inv X f g H {s with heap:=h',toks:=t'}:=by
 have d:∀b u,H b=Y u->b≠it:=λb u e z=>by rw[z,A]at e;cases e
 refine Q.step (g':=s.gens) (d':=s.drawn) (ch:=[it]) (λb w=>?_) (λb o _ _ a e _=>k b o (λz=>a<|by simp[z]) e) (λb o _ _ a e _=>⟨o.slots,k b o (λz=>a<|by simp[z]) e⟩) (λ_ _ _ _ n=>n)
  (λb o a e=>⟨o,k b o (λz=>a<|by simp[z]) e⟩) (λ_ _ e=>e) (λ_ _ _ e=>e) (λb E e=>⟨#[],by rw[e];simp⟩) (λm y=>?_) (λb u e=>?_) Q.bare
 .have e:b=it:=by simpa using w
  subst e;exact⟨h1,h,l,t⟩
 .obtain⟨o,j,i,T,r⟩:=y;exact⟨o,j,i,k _ o (oX h) T,r⟩
 refine(Q.hok b u e).BC (λc v a q=>k c v ?_ q) (λ_ q=>q) λ_ _ q=>q;rcases a with z|z
 .rw[z];exact d b u e
 exact d c _ z
def Inv.tok(T:Inv X f g H s)(t:Nat):Inv X f g H {s with toks:=t}:=T.un (h':=s.heap) (t':=t) Un.refl T.hok
def Inv.kept{t':Nat}(T:Inv X f g H s)(k:∀b u,s.heap.get? b=Y u->h'.get? b=Y u):Inv X f g H {s with heap:=h',toks:=t'}:=T.un (Un.kept k)<|T.hok.kept k
def Inv.laid{a:iG}{o:HO}{t':Nat}(T:Inv X f g H s)(k:∀b u,s.heap.get? b=Y u->h'.get? b=Y u)(c:s.heap.objs.size<=a)(new:A5 X.prog X.w (upd H a o) h' a o):
  Inv X f g (upd H a o) {s with heap:=h',toks:=t'}:=T.un (Un.laid k c<|T.hok.fresh c)<|T.hok.laid k c new
def Inv.write{x e:iG}{o:HO}{h:Nat}(T:Inv X f g H s)(d:Nl (H x))(c:e=x\/H e=Y (.own x))(k:∀b u,b≠e->s.heap.get? b=Y u->h'.get? b=Y u)(a:∃u,h'.get? e=Y u)
  (new:A5 X.prog X.w (upd H x o) h' x o):Inv X f g (upd H x o) {s with heap:=h',toks:=h}:=T.un (Un.write d c k a)<|T.hok.write d c k a new
def Inv.HR{a:jF}(T:Inv X f g H s)(h:∀p∈a,s.heap.get? p.1=Y p.2/\H p.1=J/\p.1≠X.env.locals/\p.1∉X.fs/\∀v,p.2.data≠ .cell v):Inv X a g H s:=
 ⟨T.ok,T.os,T.bare,T.base,T.loc,T.cell,T.free,T.freeC,λp b=>(qX.mp b).elim (λz=>T.pin p<|DZ _ z)<|h p,T.hok,T.len⟩
def AM{N:jr}(e:N.Nodup){i j:Nat}{x:ax}(a:N[i]?=Y x)(b:N[j]?=Y x):i=j:=by obtain⟨h1,c⟩:=uj.mp a;obtain⟨h,d⟩:=uj.mp b;exact(DY e).mp (c.trans d.symm)
def afk{M:f8}{A:je}{E:jB}{i:Nat}{x:ax}{v:V}{u:iQ}{Q:Unit->Shared->Prop}(I:Inv X f g H s)(hN:X.N.Nodup)(U:X.N[i]?=Wp x)(O:Loc X.env.scope x)(r:RelV v u)
  (h:∀s',Inv X f (g.set i<|Wp v) H s'->(∃a,aE a s.heap s'.heap/\(a=X.env.locals\/X.env.cells.lookup x=Wp a))->Q () s')(hf:X.fn x=WP\/X.env.scope.names.lookup x=Wp .local:=by first|exact .inl rfl|exact .inr rfl|assumption):ag M A (storeName X.env x u) Q E s:=by
 obtain⟨m,R,hl⟩:=id I.loc;have bK:(X.env.scope.kind== .class||(X.env.scope.kind== .module&&X.env.locals !=X.env.globals))=W1:=by rw[I.ok.kind];rfl
 have fG:i<(X0 g):=by rw[I.len];exact(uj.mp U).1
 have L0:=I.L0
 have C:∀{a:iG}{h':jb},(∃o,s.heap.get? a=Wp o/\H a=WF)->aE a s.heap h'->EV X.prog X.w H h':=λ{a h'} ha l b ob e=>by
  obtain⟨_,_,i9⟩:=ha;refine(I.hok b ob e).BC (λc F L q=>(l.2 c ?_).trans q) (λ_ q=>q) λ_ _ q=>q;rintro rfl;rcases L with rfl|L
  .rw[i9]at e;cases e
  rw[i9]at L;cases L
 rcases O with hk|hk
 .refine M3 hk R (λh' cI l=>?_) bK;obtain⟨oL,_,_,fx,_⟩:=id R;refine h _ ⟨I.ok,I.os,I.bare,⟨λb o e n G O=>?_,λb o e n G O=>?_,I.base.free,λb o e O=>?_,I.base.tups,I.base.frzs,I.base.tbls⟩,⟨_,cI,λj y v' t T P=>?_⟩,λy c e=>?_,I.free,I.freeC,λp S=>?_,C ⟨oL,fx,I.free⟩ l,by simpa using I.len⟩ ⟨_,l,.inl XV⟩
  .exact(l.2 b<|kx<|ot (kh e) I.ok.above).trans (I.base.keep b o e n G O)
  .obtain⟨sl,t⟩:=I.base.slot b o e n G O;exact⟨sl,(l.2 b<|kx<|ot (kh e) I.ok.above).trans t⟩
  .obtain⟨Z,t⟩:=I.base.there b o e O;exact⟨Z,(l.2 b<|kx<|ot (kh e) I.ok.above).trans t⟩
  .by_cases J:j=i
   .subst J;rw[U]at t;cases t;rw[oH fG]at T;cases T;exact⟨u,r,.inl ⟨hk,by simp⟩⟩
   rw[oG<|oX J]at T;obtain⟨u',r',q⟩:=hl j y v' t T P;refine⟨u',r',?_⟩;rcases q with⟨k,e⟩|⟨k,c,e,z⟩
   .refine .inl ⟨k,?_⟩;have:y≠x:=λe=>J<|AM hN t<|e▸U;simp[this,e]
   exact .inr ⟨k,c,e,z.sameBut l<|L0 y c e⟩
  .obtain⟨F,z⟩:=I.cell y c e;exact⟨F,z.sameBut l<|L0 y c e⟩
  obtain⟨e,n,ne,W,d⟩:=I.pin p S;exact⟨(l.2 p.1 ne).trans e,n,ne,W,d⟩
 have K:X.fn x=WP:=by
  rcases hf with z|z
  .exact z
  rw[z]at hk;cases hk
 obtain⟨c,L⟩:=I.ok.has x<|.inl hk;obtain⟨F,z⟩:=I.cell x c L;refine wpAny_storeName_cell I.ok.kind hk L z λh' af l=>?_;obtain⟨oc,dX,Y⟩:=id z;refine h {s with heap:=h'} ⟨I.ok,I.os,I.bare,⟨λb o e n G O=>?_,λb o e n G O=>?_,I.base.free,λb o e O=>?_,I.base.tups,I.base.frzs,I.base.tbls⟩,⟨m,R.sameBut l<|oX<|L0 x c L,λj y v' t T P=>?_⟩,λy D e=>?_,I.free,I.freeC,λp S=>?_,C ⟨oc,dX,I.freeC x c L⟩ l,by simpa using I.len⟩ ⟨c,l,.inr L⟩
 .exact(l.2 b<|kx<|ot (kh e)<|I.ok.cab x c K L).trans (I.base.keep b o e n G O)
 .obtain⟨sl,t⟩:=I.base.slot b o e n G O;exact⟨sl,(l.2 b<|kx<|ot (kh e)<|I.ok.cab x c K L).trans t⟩
 .obtain⟨Z,t⟩:=I.base.there b o e O;exact⟨Z,(l.2 b<|kx<|ot (kh e)<|I.ok.cab x c K L).trans t⟩
 .by_cases J:j=i
  .subst J;rw[U]at t;cases t;rw[oH fG]at T;cases T;exact⟨u,r,.inr ⟨.inl hk,c,L,af⟩⟩
  rw[oG<|oX J]at T;obtain⟨u',r',q⟩:=hl j y v' t T P;refine⟨u',r',?_⟩;rcases q with q|⟨k,D,e,z'⟩
  .exact .inl q
  refine .inr ⟨k,D,e,z'.sameBut l ?_⟩;rintro rfl;exact J<|AM hN t<|I.ok.inj _ _ _ e L▸U
 .by_cases fJ:D=c
  .subst fJ;exact⟨_,af⟩
  obtain⟨w2,z2⟩:=I.cell y D e;exact⟨w2,z2.sameBut l fJ⟩
 obtain⟨e,n,ne,W,d⟩:=I.pin p S;refine⟨(l.2 p.1 ?_).trans e,n,ne,W,d⟩;intro q;rw[q,dX]at e;have q':oc=p.2:=kT e;exact d F (by rw[<-q'];exact Y)
def An{M:f8}{A:je}{E:jB}{i:Nat}{x:ax}{v:V}{u:iQ}{Q:Unit->Shared->Prop}(T:Inv X f g H s)(c:X.N.Nodup)(e:X.N[i]?=Y x)(j:Loc X.env.scope x)(r:RelV v u)
  (h:∀a,Inv X f (g.set i<|Y v) H a->Q () a)(d:X.fn x=C\/X.env.scope.names.lookup x=Y .local:=by first|exact .inl rfl|exact .inr rfl|assumption):ag M A (storeName X.env x u) Q E s:=
 afk T c e j r (λa b _=>h a b) d
def Inv.LH{s':iL}{ch:kP}(T:Inv X f g H s)(i:s'.os=s.os)(u:Un (Eg X.stack) ch H B s.heap s'.heap)(a:EV X.prog X.w B s'.heap)(h:ef s'.gens)
  (d:∀b∈ch,(b∈X.ex\/X.s₀.heap.objs.size<=b)/\b≠X.env.locals/\(∀x c,X.env.cells.lookup x=Y c->c≠b)/\∀p∈X.pn++f,p.1≠b):Inv X f g B s':=by
 obtain⟨h',g',d',t',j⟩:=s';have e:j=s.os:=i;subst e;exact T.call (g':=g') (t':=t') (d':=d') u a h d
end
abbrev XK:=iQ->Option iG->Hp->Prop
abbrev St:=List<|Option V
abbrev VK:=V->Hp->Prop
abbrev TE:=St->Hp->VK->Prop
abbrev TT:=St->Hp->(Bool->Hp->Prop)->Prop
abbrev TA:=St->Hp->(List V->Hp->Prop)->Prop
structure Ends where
 nx:St->Hp->Prop
 rt:VK
 bk:St->Hp->Prop:=λ_ _=>False
 ct:St->Hp->Prop:=λ_ _=>False
abbrev TS:=Ends->St->Hp->Prop
inductive EP(X:Cx)(pins:jF)(σ:St)(Q:VK)(u:iQ)(s':iL):Prop where
 |mk (v:V) (H':Hp) (_:Inv X pins σ H' s') (_:RelV v u) (_:Q v H')
inductive TP(X:Cx)(pins:jF)(σ:St)(Q:Bool->Hp->Prop)(b:Bool)(s':iL):Prop where
 |mk (H':Hp) (_:Inv X pins σ H' s') (_:Q b H')
inductive AP(X:Cx)(pins:jF)(σ:St)(Q:List V->Hp->Prop)(us:jP)(s':iL):Prop where
 |mk (vs:List V) (H':Hp) (_:Inv X pins σ H' s') (_:Vals vs us) (_:Q vs H')
def SP(X:Cx)(b:jF)(D:Ends)(f:Flow)(d:iL):Prop:=
 match f with
 |.next=>∃a c,Inv X b a c d/\D.nx a c
 |.brk=>∃a c,Inv X b a c d/\D.bk a c
 |.cont=>∃a c,Inv X b a c d/\D.ct a c
 |.ret u=>∃v a c,Inv X b a c d/\RelV v u/\D.rt v c
def PE(X:Cx)(e:iR)(t:TE):Prop:=
 ∀(a:jF)(s:iL)(b:St)(T:Hp)(Q:VK),Inv X a b T s->t b T Q->ag (ah X.prog X.w) X.A (aX e X.env) (EP X a b Q) X.xe s
def PT(X:Cx)(e:iR)(t:TT):Prop:=
 ∀(a:jF)(s:iL)(b:St)(T:Hp)(Q:Bool->Hp->Prop),Inv X a b T s->t b T Q->ag (ah X.prog X.w) X.A (isTrue e X.env<|aX e X.env) (TP X a b Q) X.xe s
def PW(X:Cx)(e:iR)(t:TT):Prop:=
 ∀(b:dP iQ)(a:jF)(s:iL)(c:St)(T:Hp)(Q:Bool->Hp->Prop),Inv X a c T s->t c T Q->ag (ah X.prog X.w) X.A (isTrue e X.env b) (TP X a c Q) X.xe s
def PW.pt{X:Cx}{e:iR}{t:TT}(h:PW X e t):PT X e t:=h _
def PA(X:Cx)(d:kD)(t:TA):Prop:=
 ∀(b:br)(a:jF)(s:iL)(c:St)(T:Hp)(Q:List V->Hp->Prop),Inv X a c T s->t c T Q->ag (ah X.prog X.w) X.A (u4<|aK b<|aa d X.env) (AP X a c Q) X.xe s
def PS(X:Cx)(st:bc)(t:TS):Prop:=
 ∀(a:jF)(s:iL)(b:St)(T:Hp)(D:Ends),Inv X a b T s->t D b T->ag (ah X.prog X.w) X.A (exec st X.env) (SP X a D) X.xe s
def HF(X:Cx)(st:List bc)(t:TS):Prop:=
 ∀(a:jF)(s:iL)(b:St)(T:Hp)(D:Ends),Inv X a b T s->t D b T->ag (ah X.prog X.w) X.A (execs st X.env) (SP X a D) X.xe s
def B6{c:Type}{t:dP c}{Q b:c->Shared->Prop}{M:f8}{A:je}{E:jB}{s:iL}(h:ag M A t Q E s)(d:∀a s,Q a s->b a s):ag M A t b E s:=oq h d λ_ _ x=>x
section
variable {X:Cx}
def abc(i:Nat):TE:=λa T Q=>∃v,a[i]?=Y (Y v)/\Q v T
noncomputable def tC(v:V):TE:=λ_ T Q=>Q v T
def AB{i:Nat}{x:ax}{f:br}(g:X.N[i]?=Y x)(hv:Lv X.env.scope x)(hd:(x==("__debug__":ax))=U:=by decide)(n:(x==("__classdict__":ax))=U:=by decide):PE X (.Name x f) (abc i):=by
 intro a s o O Q T h;obtain⟨v,e,h⟩:=h;obtain⟨m,k,j⟩:=T.loc;obtain⟨u,r,l⟩:=j i x v g e hv;have fin:EP X a o Q u s:=⟨v,O,T,r,h⟩
 rcases l with⟨hk,hm⟩|⟨hk,c,b,d⟩
 .exact sB (wpAny_loadName_local T.ok.kind hk k hm fin) hd
 rcases hk with hk|hk
 .exact sB (wpAny_loadName_cell T.ok.kind hk b d fin) hd
 exact sB (wpAny_loadName_free T.ok.kind hk b d fin n) hd
def Oo{i j f}:PE X (.Constant (.int i) j f) (tC<|.int i):=λ_ _ _ Q _ T h=>wpAny_Constant_int ⟨.int i,Q,T.tok _,⟨_,rfl⟩,h⟩
def Zw{b j f}:PE X (.Constant (.bool b) j f) (tC<|.bl b):=λ_ _ _ Q _ T h=>Constant_bool ⟨.bl b,Q,T,rfl,h⟩
def Wd{j f}:PE X (.Constant .none j f) (tC .A7):=λ_ _ _ Q _ T h=>Constant_none ⟨.A7,Q,T,rfl,h⟩
def Wa{x j f}:PE X (.Constant (.str x) j f) (tC<|.str x):=λ_ _ _ Q _ T h=>Calls.Constant_str ⟨.str x,Q,T.tok _,⟨_,rfl⟩,h⟩
def Gl(X:Cx)(x:ax):Prop:=X.env.kindOf x=Y .globalImplicit
def wM{E:jB}{a:jF}{s:iL}{d:St}{O:Hp}{x:ax}{u:iQ}{f:br}{Q:jB}(T:Inv X a d O s)(b:Gl X x)(c:X.mg x=Y u)(h:Q u s)
  (hd:(x==("__debug__":ax))=U:=by decide):ag (ah X.prog X.w) X.A (aX (.Name x f) X.env) Q E s:=
 M1 T.ok.kind b (Calls.loadGlobal_global (by rw[T.ok.glob];exact T.mod.glob.keeps T.bk) c h) hd
def qy{E:jB}{a:jF}{s:iL}{g:St}{O:Hp}{x:ax}{u:iQ}{f:br}{Q:jB}(T:Inv X a g O s)(c:Gl X x)(d:X.mg x=J)(hv:aB x=Y u)(h:Q u s)
  (e:x≠"__name__":=by decide)(hd:(x==("__debug__":ax))=U:=by decide):ag (ah X.prog X.w) X.A (aX (.Name x f) X.env) Q E s:=by
 obtain⟨i,h1,b⟩:=T.mod.blt;exact M1 T.ok.kind c (Calls.loadGlobal_builtin (by rw[T.ok.glob];exact T.mod.glob.keeps T.bk) d (by rw[T.ok.blt];exact h1.keeps T.bk) ((b x e).trans hv) h) hd
def Jv{x:ax}{v:V}{u:iQ}{f:br}(a:Gl X x)(b:X.mg x=Y u)(r:RelV v u)(hd:(x==("__debug__":ax))=U:=by decide):PE X (.Name x f) (tC v):=
 λ_ _ _ Q _ T h=>wM T a b ⟨v,Q,T,r,h⟩ hd
def zr{x:ax}{v:V}{u:iQ}{f:br}(a:Gl X x)(b:X.mg x=J)(hv:aB x=Y u)(r:RelV v u)(c:x≠"__name__":=by decide)(hd:(x==("__debug__":ax))=U:=by decide):PE X (.Name x f) (tC v):=
 λ_ _ _ Q _ T h=>qy T a b hv ⟨v,Q,T,r,h⟩ c hd
variable {a b:iR}{n tb:TE}{f:br}
def agG(b:iR){c:cC}(h:c≠ .In)(g:c≠ .NotIn):dy c b=U:=by
 have d:(c==cC.In)=U:=by cases c<;>first|rfl|exact absurd I h
 have e:(c==CmpOp.NotIn)=U:=by cases c<;>first|rfl|exact absurd I g
 cases b with
 |Set _ k _=>show(k==0&&(c== .In||c== .NotIn)&&_)=U;rw[d,e];simp
 |_=>rfl
noncomputable def tB(t:TE):TT:=λe T Q=>t e T λx d=>∃c,x=.bl c/\Q c d
def VX{e:iR}{t:TE}(h:PE X e t)(j:∀c,isTrue e X.env c=(do let v <-c;dv e.pos;b5 [v] (truthy v)):=by intro _;rfl):PT X e (tB t):=by intro g s o O Q T k;refine isTrue_plain (B6 (h g s o O _ T k) ?_)<|j _;rintro v s1 ⟨x,H1,i,m,l⟩;obtain⟨d,rfl,q⟩:=l;cases m;exact tK ⟨H1,i,q⟩
variable {tA o:TT}{g:kD}
noncomputable def abn(t u:TT):TT:=λe T Q=>t e T λc d=>if c=C then u e d Q else Q U d
noncomputable def tOr(t u:TT):TT:=λe T Q=>t e T λc d=>if c=C then Q C d else u e d Q
noncomputable def LZ(t:TT):TT:=λe T Q=>t e T λc d=>Q (!c) d
def RO(i:PT X a tA):PW X (.BoolOp .And [a] f) tA:=by
 intro wh d s j O Q T h;refine isTrue_and<|B6 (i d s j O Q T h) λc s1 e=>?_
 cases c
 .exact e
 exact isTrue_and_nil e
def VS(i:PT X a tA):PW X (.BoolOp .Or [a] f) tA:=by
 intro wh d s j O Q T h;refine isTrue_or<|B6 (i d s j O Q T h) λc s1 e=>?_
 cases c
 .exact isTrue_or_nil e
 exact e
def VT(k:PT X a tA)(l:PW X (.BoolOp .And (b::g) f) o):PW X (.BoolOp .And (a::b::g) f) (abn tA o):=by
 intro wh d s j O Q T h;refine isTrue_and<|B6 (k d s j O _ T h) ?_;rintro c s1 ⟨H1,e,i⟩
 cases c
 .exact⟨H1,e,i⟩
 exact l wh d s1 j H1 Q e i
def Zt(k:PT X a tA)(l:PW X (.BoolOp .Or (b::g) f) o):PW X (.BoolOp .Or (a::b::g) f) (tOr tA o):=by
 intro wh d s j O Q T h;refine isTrue_or<|B6 (k d s j O _ T h) ?_;rintro c s1 ⟨H1,e,i⟩
 cases c
 .exact l wh d s1 j H1 Q e i
 exact⟨H1,e,i⟩
def VY(j:PT X a tA):PT X (.UnaryOp .Not a f) (LZ tA):=by intro d s l O Q T h;exact isTrue_not (B6 (j d s l O (λc e=>Q (!c) e) T h) λc s1 N=>by obtain⟨e,i,k⟩:=N;exact ⟨e,i,k⟩)
def Y8(n tb:TE):TE:=λe T Q=>n e T λx d=>∃c,x=.bl c/\if c=C then tb e d Q else Q (.bl U) d
def YZ(n:TE):TE:=λe T Q=>n e T λx d=>∃c,x=.bl c/\Q (.bl (!c)) d
def Wb{op}{t:TE}(h:PE X a t):PE X (.BoolOp op [a] f) t:=λc s e O Q T d=>BoolOp_one<|h c s e O Q T d
def Wf(k:PE X a n)(l:PE X (.BoolOp .And (b::g) f) tb):PE X (.BoolOp .And (a::b::g) f) (Y8 n tb):=by
 intro d s j O Q T h;refine BoolOp_and<|B6 (k d s j O _ T h) ?_;rintro v s1 ⟨x,H1,i,m,e⟩;obtain⟨c,rfl,e⟩:=e;cases m;refine tK ?_
 cases c
 .exact⟨.bl U,H1,i,rfl,e⟩
 exact l d s1 j H1 Q i e
def Wc(j:PE X a n):PE X (.UnaryOp .Not a f) (YZ n):=by intro d s l O Q T h;refine UnaryOp_<|B6 (j d s l O _ T h) ?_;rintro v s1 ⟨x,H1,i,k,e⟩;obtain⟨c,rfl,e⟩:=e;cases k;exact not_of<|tK ⟨.bl (!c),H1,i,rfl,e⟩
noncomputable def tIf(t:TT)(n tb:TE):TE:=λd T Q=>t d T λc e=>if c=C then n d e Q else tb d e Q
def Oq{c:iR}(p:PT X c tA)(l:PE X a n)(m:PE X b tb):PE X (.IfExp c a b f) (tIf tA n tb):=by
 intro e s i O Q T h;refine wpAny_IfExp<|B6 (p e s i O _ T h) ?_;rintro d s1 ⟨H1,j,k⟩
 cases d
 .exact m e s1 i H1 Q j k
 exact l e s1 i H1 Q j k
end
def Ej(K:ji)(T:Hp)(a:iG)(xs:List V):Prop:=
 Rd T a (.lst xs)\/
  ∃(o:eZ)(b:nB)(n:Nat),K.lookup a=Y o/\o.cls=.type "list"/\o.dict=J/\o.data=.seq b n/\b.size<=sizeLine/\Vals xs b.toList
def HE(K:ji)(T:Hp)(a:iG)(c:List V):Prop:=
 Rd T a (.tup c)\/
  ∃(o:eZ)(b:nB)(n:Nat),K.lookup a=Y o/\o.cls=.type "tuple"/\o.data=.seq b n/\b.size<=sizeLine/\Vals c b.toList
noncomputable def acq:iQ->Option V
 |.none=>Y .A7
 |.bool b=>Y<|.bl b
 |.int i _=>Y<|.int i
 |.str x _=>Y<|.str x
 |.bytes b _=>Y<|.byt b
 |.float b _=>Y<|.flt b
 |.ref a=>Y<|.ref a
 |.type n=>Y<|.ty n
 |_=>J
def RelV.abs{x:V}{u:iQ}(r:RelV x u):acq u=Y x:=by
 cases x with
 |A7=>cases r;rfl
 |bl _=>cases r;rfl
 |int _=>obtain⟨t,rfl⟩:=r;rfl
 |str _=>obtain⟨t,rfl⟩:=r;rfl
 |byt _=>obtain⟨t,rfl⟩:=r;rfl
 |flt _=>obtain⟨t,rfl⟩:=r;rfl
 |ref _=>cases r;rfl
 |ty _=>cases r;rfl
def RelV.inj{x y:V}{u:iQ}(r:RelV x u)(q:RelV y u):x=y:=kT<|r.abs.symm.trans q.abs
def Vals.inj{b a:List V}{us:jP}(h:Vals b us)(q:Vals a us):b=a:=by
 induction h generalizing a with
 |nil=>cases q;rfl
 |cons r t c=>obtain _|⟨d,e⟩:=q;rw[r.inj d,c e]
section
variable {X:Cx}{pins:jF}{σ:St}{H:Hp}{s:iL}{a:iG}{xs ys:List V}
def Ej.of{K:ji}(h:H a=Y (.lst xs)):Ej K H a xs:=.inl (.inl h)
inductive SqI(P:Array iQ->Prop)(xs:List V):Prop where
 |mk (its:jP) (_:Vals xs its) (_:P its.toArray) (_:(X0 xs)<=sizeLine)
def Inv.list(T:Inv X pins σ H s)(h:Ej X.K H a xs):SqI (PlainL s.heap a) xs:=by
 rcases h with h|⟨o,b,n,hk,c,hd,d,f,r⟩
 .obtain⟨z,b,n,r,e⟩:=h.ok T.hok;exact⟨b,r,⟨_,n,e,rfl,rfl,rfl⟩,z⟩
 refine⟨b.toList,r,⟨o,n,T.Eo a o hk,c,hd,by simpa using d⟩,?_⟩;have e:=r.length;simp only[mf]at e
 lia
def Inv.tuple(T:Inv X pins σ H s)(h:HE X.K H a xs):SqI (ka s.heap a) xs:=by
 rcases h with h|⟨o,b,n,hk,c,d,f,r⟩
 .obtain⟨z,b,r,p⟩:=h.ok T.hok;exact⟨b,r,p.tup,z⟩
 refine⟨b.toList,r,⟨o,T.Eo a o hk,c,n,by simpa using d⟩,?_⟩;have e:=r.length;simp only[mf]at e
 lia
def Inv.Ek(T:Inv X pins σ H s)(h:Ej X.K H a xs)(j:Ej X.K H a ys):xs=ys:=by
 obtain⟨c,r,⟨o,n,e,_,_,d⟩,_⟩:=T.list h;obtain⟨b,k,⟨m,l,g,_,_,f⟩,_⟩:=T.list j;rw[e]at g;cases g;rw[d]at f;injection f with i _
 have:c=b:=by simpa using oo t8 i
 subst this;exact r.inj k
def Inv.EO(T:Inv X pins σ H s)(h:HE X.K H a xs)(j:HE X.K H a ys):xs=ys:=by
 obtain⟨c,r,⟨o,e,_,n,d⟩,_⟩:=T.tuple h;obtain⟨b,k,⟨m,g,_,l,f⟩,_⟩:=T.tuple j;rw[e]at g;cases g;rw[d]at f;injection f with i _
 have:c=b:=by simpa using oo t8 i
 subst this;exact r.inj k
end
noncomputable abbrev Cx.Gi(X:Cx)(E:jB):Cx:={X with xe:=E}
noncomputable abbrev Cx.IE(X:Cx):Cx:=X.Gi λ_ _=>False
def Cx.Ok.Gi{X:Cx}(ok:X.Ok)(E:jB):(X.Gi E).Ok:=
 ⟨ok.mod,ok.kind,ok.glob,ok.blt,ok.above,ok.inj,ok.has,ok.cab,ok.hd,ok.frames,ok.stk,ok.exf,ok.bs,ok.bsz,ok.noex,ok.exfs,ok.Ed,ok.frf⟩
def Cx.Ok.D4{X:Cx}{E:jB}(ok:(X.Gi E).Ok):X.Ok:=
 ⟨ok.mod,ok.kind,ok.glob,ok.blt,ok.above,ok.inj,ok.has,ok.cab,ok.hd,ok.frames,ok.stk,ok.exf,ok.bs,ok.bsz,ok.noex,ok.exfs,ok.Ed,ok.frf⟩
section
variable {X:Cx}{a:jF}{b:St}{H:Hp}{s:iL}{E:jB}
def Inv.Gi(T:Inv X a b H s)(E:jB):Inv (X.Gi E) a b H s:=⟨T.ok.Gi E,T.os,T.bare,T.base,T.loc,T.cell,T.free,T.freeC,T.pin,T.hok,T.len⟩
def Inv.D4(T:Inv (X.Gi E) a b H s):Inv X a b H s:=⟨T.ok.D4,T.os,T.bare,T.base,T.loc,T.cell,T.free,T.freeC,T.pin,T.hok,T.len⟩
def SP.D4{D:Ends}{f:Flow}{e:iL}(h:SP (X.Gi E) a D f e):SP X a D f e:=by
 cases f with
 |next=>obtain⟨c,d,T,q⟩:=h;exact⟨c,d,T.D4,q⟩
 |brk=>obtain⟨c,d,T,q⟩:=h;exact⟨c,d,T.D4,q⟩
 |cont=>obtain⟨c,d,T,q⟩:=h;exact⟨c,d,T.D4,q⟩
 |ret u=>obtain⟨v,c,d,T,r,q⟩:=h;exact⟨v,c,d,T.D4,r,q⟩
def HF.IE{st:List bc}{t:TS}(h:HF X.IE st t):HF X st t:=λa s b H D T c=>oq (h a s b H D (T.Gi _) c) (λ_ _ q=>q.D4) λ_ _ z=>aW z
end
section
variable {X:Cx}{st:bc}{j:List bc}{t u:TS}{e:iR}{i:TE}{g:br}
noncomputable def Y0:TS:=λD a T=>D.nx a T
noncomputable def abf(t u:TS):TS:=λD a T=>t {D with nx:=u D} a T
def Jr:HF X [] Y0:=λ_ _ a Q _ T h=>Ae ⟨a,Q,T,h⟩
def tM(h1:PS X st t)(k:HF X j u):HF X (st::j) (abf t u):=by
 intro a s l Q D T h;refine v7<|B6 (h1 a s l Q {D with nx:=u D} T h) λf s1 q=>?_
 cases f with
 |next=>obtain⟨b,c,d,q⟩:=q;exact k a s1 b c D d q
 |ret v=>exact q
 |brk=>exact q
 |cont=>exact q
def Inv.quiet{a:jF}{b:St}{Q:Hp}{s:iL}(T:Inv X a b Q s):Tk X.env=U:=by simp[Tk,T.ok.kind]
noncomputable def Y2(i:TE):TS:=λD a T=>i a T λ_ b=>D.nx a b
def Js(f:PE X e i)(k:bQ e J g.line X.env=pure U:=by rfl):PS X (.Expr e g) (Y2 i):=by intro a s b Q D T h;exact Db (B6 (f a s b Q _ T h) λv s1 O=>by obtain⟨x,c,d,m,l⟩:=O;exact ⟨b,c,d,l⟩) T.quiet k
noncomputable def abg(i:TE):TS:=λD a T=>i a T D.rt
def N4(f:PE X e i):PS X (.Return (Y e) g) (abg i):=by intro a s b Q D T h;exact wpAny_Return_some (B6 (f a s b Q _ T h) λv s1 O=>by obtain⟨x,c,d,l,k⟩:=O;exact ⟨x,b,c,d,l,k⟩)
noncomputable def abj(c:TT)(t u:TS):TS:=λD a T=>c a T λb d=>if b=C then t D a d else u D a d
def Ut{c:iR}{a b:List bc}{n:TT}(q:PT X c n)(o:HF X a t)(p:HF X b u):PS X (.If c a b g) (abj n t u):=by
 intro f s k Q D T h;refine wpAny_If<|B6 (q f s k Q _ T h) ?_;rintro d s1 ⟨H1,l,m⟩
 cases d
 .exact p f s1 k H1 D l m
 exact o f s1 k H1 D l m
end
abbrev TG:=V->St->Hp->(St->Hp->Prop)->Prop
abbrev LO:=List V->St->Hp->(St->Hp->Prop)->Prop
def PG(X:Cx)(a:iR)(t:TG):Prop:=
 ∀(b:jF)(s:iL)(e:St)(T:Hp)(v:V)(u:iQ)(Q:St->Hp->Prop),Inv X b e T s->RelV v u->t v e T Q->
  ag (ah X.prog X.w) X.A (cu a X.env u) (λ_ f=>∃c d,Inv X b c d f/\Q c d) X.xe s
def KI(X:Cx)(h:kD)(t:LO):Prop:=
 ∀(a:jF)(s:iL)(f:St)(T:Hp)(e:List V)(d:jP)(Q:St->Hp->Prop),Inv X a f T s->Vals e d->t e f T Q->
  ag (ah X.prog X.w) X.A (assignInOrder ((bb h X.env).map (·.2)) d) (λ_ g=>∃b c,Inv X a b c g/\Q b c) X.xe s
abbrev T9:=V->V->V->Hp->(Hp->Prop)->Prop
def XB(X:Cx)(t:T9):Prop:=
 ∀(a:jF)(s:iL)(e:St)(T:Hp)(o i v:V)(d c u:iQ)(Q:Hp->Prop),Inv X a e T s->RelV o d->RelV i c->RelV v u->t o i v T Q->
  ag (ah X.prog X.w) X.A (ll d c u) (λ_ f=>∃b,Inv X a e b f/\Q b) X.xe s
section
variable {X:Cx}{d:br}
noncomputable def Ga(i:Nat):TG:=λv a T Q=>Q (a.set i<|Y v) T
def Jt{i:Nat}{x:ax}(c:X.N.Nodup)(f:X.N[i]?=Y x)(g:Loc X.env.scope x)(e:X.fn x=C\/X.env.scope.names.lookup x=Y .local:=by first|exact .inl rfl|exact .inr rfl|assumption):PG X (.Name x d) (Ga i):=by intro a s k O v u Q T r h;exact wpAny_assign_Name<|An T c f g r (λj b=>⟨_,O,b,h⟩) e
noncomputable def acf:LO:=λa b T Q=>a=[]/\Q b T
def Z5(t:TG)(u:LO):LO:=λc e T Q=>∃v r,c=v::r/\t v e T λa b=>u r a b Q
def R5:KI X [] acf:=by intro a s b O f c Q T r h;obtain⟨e,h⟩:=h;subst e;cases r;exact assignInOrder_nil ⟨b,O,T,h⟩
def Oh{e:iR}{b:kD}{t:TG}{u:LO}(h1:PG X e t)(i:KI X b u)
  (j:(bb (e::b) X.env).map (·.2)=cu e X.env::(bb b X.env).map (·.2):=by rfl):KI X (e::b) (Z5 t u):=by
 intro a s m O p n Q T r h;obtain⟨v,o,g,h⟩:=h;subst g
 cases r with
 |cons r l=>rw[j];refine assignInOrder_cons<|B6 (h1 a s m O _ _ _ T r h) ?_;rintro _ s1 ⟨c,H1,f,k⟩;exact i a s1 c H1 _ _ Q f l k
def ace(K:ji)(n:Nat)(t:LO):TG:=λv c T Q=>∃a b,v=.ref a/\HE K T a b/\(X0 b)=n/\t b c T Q
def V9{f:kD}{k:Nat}{t:LO}{n:Nat}(q:X.calm=C)(h:KI X f t)
  (x:(bb f X.env).length=n:=by rfl)(T:(bb f X.env).findIdx? (·.1)=J:=by rfl):PG X (.Tuple f k d) (ace X.K n t):=by
 intro c s j N v u Q O r g;obtain⟨a,E,m,y,w,g⟩:=g;subst m;cases r;obtain⟨B,i,z,L⟩:=O.tuple y;refine assign_Tuple_tuple (O.ok.hd q) z (by simp[x,<-w,i.length]) T λp A=>?_;have l:Inv X c j N {s with heap:=p}:=O.kept (t':=s.toks) λb o e=>A b o (kx<|kh e) e;exact h c _ j N E _ Q l (by simpa using i) g
noncomputable def F1(to f:TE)(t:T9):TG:=λv a T Q=>to a T λo b=>f a b λi c=>t o i v c λe=>Q a e
def Oi{o i:iR}{to f:TE}{t:T9}(q:PE X o to)(p:PE X i f)(w:XB X t)
  (n:∀v,cu (.Subscript o i d) X.env v=(do
   let b <-b5 [v] (aX o X.env)
   let c <-b5 [v,b] (aX i X.env)
   dv d
   b5 [v,b,c] (ll b c v)
   M2 [v,b,c] []):=by intro _;rfl):PG X (.Subscript o i d) (F1 to f t):=by
 intro a s e N v u Q O r h;rw[n];refine iI<|md<|B6 (q a s e N _ O h) ?_;rintro b s1 ⟨x,H1,k,T,z⟩;refine iI<|md<|B6 (p a s1 e H1 _ k z) ?_;rintro c s2 ⟨y,g,l,E,A⟩;refine iI<|vD<|iI<|md<|B6 (w a s2 e g x y v b c u _ l T E r A) ?_;rintro _ s3 ⟨j,m,B⟩;exact wpAny_release ⟨e,j,m,B⟩
noncomputable def Vq(c:TE)(g:TG):TS:=λD a T=>c a T λx b=>g x a b D.nx
def HG{b e:iR}{c:TE}{g:TG}(j:PE X e c)(k:PG X b g)(l:fO [b] e d.line X.env=pure U:=by rfl)(m:fP [b] e X.env=pure J:=by rfl)
  (h1:(bb [b] X.env).map (·.2)=[cu b X.env]:=by rfl):PS X (.Assign [b] e d) (Vq c g):=by
 intro a s f Q D T h;refine wpAny_Assign_stores (B6 (j a s f Q _ T h) ?_) l m;rintro v s1 ⟨x,H1,i,o,n⟩;rw[h1];exact B6 (k a s1 f H1 x v _ i o n) λ_ p q=>q
def N3{i:Nat}{x:ax}{e:iR}{c:TE}{a:br}(j:X.N.Nodup)(m:X.N[i]?=Y x)(o:Loc X.env.scope x)(k:PE X e c)(n:bQ e (Y<|.Name x a) d.line X.env=pure U:=by rfl)(l:X.fn x=C\/X.env.scope.names.lookup x=Y .local:=by first|exact .inl rfl|exact .inr rfl|assumption):
  PS X (.Assign [.Name x a] e d) (Vq c<|Ga i):=by
 intro b s r Q D T h;refine wpAny_Assign_Name (B6 (k b s r Q _ T h) ?_) n;rintro v s1 ⟨y,H1,f,q,p⟩;exact An f j m o q (λt g=>⟨_,H1,g,p⟩) l
def Vn(c:TT)(i:TS):TS:=λD a T=>∃W:Nat->St->Hp->Prop,(∃m,W m a T)/\∀m a T,W m a T->
 c a T λb g=>if b=C then ∃N:St->Hp->Prop,(∀e f,N e f->∃h,h<m/\W h e f)/\i {D with nx:=N,ct:=N,bk:=D.nx} a g else D.nx a g
def agb{c:iR}{i:List bc}{E:TT}{C:TS}(B:fv (ah X.prog X.w) X.A X.env X.xe)(Q:PT X c E)(O:HF X i C):PS X (.While c i [] d) (Vn E C):=by
 intro a s U H D I h;obtain⟨W,⟨T,J⟩,turn⟩:=h;refine wpAny_While<|codeAny_whileLoop (λn G=>∃k u,Inv X a k u G/\W n k u) ?_ T ⟨U,H,I,J⟩;rintro n s1 ⟨g,H1,L,M⟩;refine vC B<|B6 (Q a s1 g H1 _ L (turn n g H1 M)) ?_;rintro b s2 ⟨x,y,l⟩
 cases b with
 |true=>
  obtain⟨N,z,l⟩:=l;rw[iZ XV];refine vC B<|B6 (O a s2 g x _ y l) λf Y m=>?_
  cases f with
  |next=>obtain⟨e,j,o,r⟩:=m;obtain⟨q,p,t⟩:=z e j r;exact⟨q,p,e,j,o,t⟩
  |cont=>obtain⟨e,j,o,r⟩:=m;obtain⟨q,p,t⟩:=z e j r;exact⟨q,p,e,j,o,t⟩
  |brk=>exact m
  |ret v=>exact m
 |false=>rw[jo kR];exact Ae ⟨g,x,y,l⟩
end
structure It where
 go:Nat->Hp->Prop
 yld:Nat->Hp->V->Hp->Prop
 stop:Nat->Hp->Prop
def uh(X:Cx)(a:jF)(T:Hp)(b:iG):Prop:=
 T b=J/\b≠X.env.locals/\b∉X.fs/\(b∈X.ex\/X.s₀.heap.objs.size<=b)/\(∀x c,X.env.cells.lookup x=Y c->c≠b)/\∀p∈X.pn++a,p.1≠b
def Inv.K9{X:Cx}{a:jF}{i:St}{Q f:Hp}{s:iL}{b:iG}(T:Inv X a i Q s)(d:s.heap.objs.size<=b)(g:f b=J):uh X a f b:=by
 refine⟨g,qk<|ot T.lt d,T.N7 d,.inr<|lN T.sz d,λx c e z=>?_,λp h z=>?_⟩
 .obtain⟨v,q⟩:=T.cell x c e;exact absurd (ot q.lt<|by rw[z];exact d)<|ql _
 exact absurd (ot (kh (T.pin p h).1)<|by rw[z];exact d) (ql _)
structure Turn(P:jh)(w:jc)(K:ji)(tg:iR)(J:It)(fp:kP)(it:iG)(tn:Nat->jb->Prop):Prop where
 mem:it∈fp
 obj:∀i h,tn i h->∀b∈fp,∃o,h.get? b=Wp o/\∀v,o.data≠ .cell v
 keep:∀i h h',tn i h->(∀b∈fp,∀o,h.get? b=Wp o->h'.get? b=Wp o)->tn i h'
 item:∀(X:Cx),X.prog=P->X.w=w->X.K=K->X.calm=WP->∀(i:Nat)(pins:jF)(s:iL)(σ:St)(H:Hp)(E:jB),Inv X pins σ H s->(∀b∈fp,uh X pins H b)->tn i s.heap->J.go i H->
  ag (ah P w) X.A (cp<|.ref it) (λr s1=>∃u,r=Wp u/\
   ag (ah P w) X.A (eQ tg (.ref it) u) (λ_ s2=>∃x H',Inv X pins σ H' s2/\RelV x u/\J.yld i H x H'/\tn (i+1) s2.heap/\∀b∈fp,H' b=WF) E s1) E s
 done:∀(X:Cx),X.prog=P->X.w=w->X.K=K->X.calm=WP->∀(i:Nat)(pins:jF)(s:iL)(σ:St)(H:Hp)(E:jB),Inv X pins σ H s->(∀b∈fp,uh X pins H b)->tn i s.heap->J.stop i H->
  ag (ah P w) X.A (cp<|.ref it) (λr s1=>r=WF/\Inv X pins σ H s1) E s
 self:∀(A:je)(i:Nat)(s:iL)(Q:jB)(E:jB),tn i s.heap->Q (.ref it) s->ag (ah P w) A (c7<|.ref it) Q E s
abbrev TI:=St->Hp->(It->Hp->Prop)->Prop
inductive PIE(X:Cx)(pins:jF)(σ:St)(tg:iR)(R:It->Hp->Prop)(dQ:iQ)(s2:iL):Prop where
 |mk (it:iG) (fp:kP) (tn:Nat->jb->Prop) (J:It) (H':Hp) (_:dQ=.ref it) (_:Inv X pins σ H' s2) (_:Turn X.prog X.w X.K tg J fp it tn) (_:tn 0 s2.heap) (_:∀b∈fp,uh X pins H' b) (_:R J H')
def PI(X:Cx)(tg iter:iR)(c:TI):Prop:=
 ∀(a:jF)(s:iL)(b:St)(T:Hp)(R:It->Hp->Prop),Inv X a b T s->c b T R->
  ag (ah X.prog X.w) X.A (aX iter X.env) (λv s1=>ag (ah X.prog X.w) X.A (c7 v) (PIE X a b tg R) X.xe s1) X.xe s
def PK{M:f8}{A:je}{E:jB}{s:iL}{b:iR}{it:iG}{u:iQ}{o:eZ}{n:String}{c:nB}{Q:Unit->Shared->Prop}(f:s.heap.get? it=Y o)(d:o.cls=.type n)(hd:o.data=.fields c)
  (e:["enumerate","zip","dict_itemiterator","dict_reverseitemiterator","odict_iterator","itertools.zip_longest","itertools.pairwise"].contains n=U)(a:Q () s):ag M A (eQ b (.ref it) u) Q E s:=by
 unfold eQ
 cases b<;>first
  |exact iX a
  |(cases u<;>first
    |exact iX a
    |(
      refine iI<|DX f ?_;rw[d,hd];show ag M A (if(["enumerate","zip","dict_itemiterator","dict_reverseitemiterator","odict_iterator","itertools.zip_longest","itertools.pairwise"].contains n&&c[0]?==Y (ce _))=C then _ else _) Q E s;rw[jo (by intro h;rw[e,eL]at h;cases h)];exact iX a))
noncomputable def Itl(K:ji)(a:iG):It:=
 ⟨λi T=>∃b x,Ej K T a b/\b[i]?=Y x,λi T x c=>c=T/\∀b,Ej K T a b->b[i]?=Y x,λi T=>∃b,Ej K T a b/\(X0 b)<=i⟩
noncomputable def Itt(K:ji)(a:iG):It:=
 ⟨λi T=>∃b x,HE K T a b/\b[i]?=Y x,λi T x c=>c=T/\∀b,HE K T a b->b[i]?=Y x,λi T=>∃b,HE K T a b/\(X0 b)<=i⟩
noncomputable def Nq(lo:Int)(n:Nat):It:=⟨λi _=>i<n,λi T x a=>a=T/\x=.int (lo+i),λi _=>n<=i⟩
def afi{P:jh}{w:jc}{K:ji}{tg:iR}(a it:iG):Turn P w K tg (Itl K a) [it] it (λi h=>h.IsListIter it a i) where
 mem:=by simp
 obj:=λi h st b g=>by
  have e:b=it:=by simpa using g
  subst e;obtain⟨o,e,c,d⟩:=st;exact⟨o,e,λv z=>by rw[d]at z;cases z⟩
 keep:=λi h j st k=>st.at λo e=>k it (by simp) o e
 item:=by intro X y B t T i f s G H E I l st A;subst y B t;obtain⟨S,x,m,C⟩:=A;obtain⟨L,O,p,D⟩:=I.list m;obtain⟨u,U,F⟩:=O.get C;obtain⟨f0,f1,N,n,q,r⟩:=l it (by simp);refine wpAny_pyNext_list_item st p.isList (x:=u) (by simpa using U) λj Q R=>?_;have J:Inv X f G H {s with heap:=j}:=I.turned (t':=s.toks) (λb o g e=>(R.2 b g).trans e) f0 f1 n q r;obtain⟨o,e,c,d⟩:=id Q;exact⟨u,rfl,PK (s:={s with heap:=j}) e c d (by decide) ⟨x,H,J,F,⟨rfl,λW Y=>by rw[I.Ek Y m];exact C⟩,Q,λb g=>(l b g).1⟩⟩
 done:=by intro X y B t T i f s G H E I l st A;subst y B t;obtain⟨S,m,C⟩:=A;obtain⟨L,O,p,D⟩:=I.list m;obtain⟨f0,f1,N,n,q,r⟩:=l it (by simp);have V:=O.length;exact wpAny_pyNext_list_end (I.ok.hd T) st p.isList (by simp;lia) λj M=>⟨rfl,I.turned (t':=s.toks) (λb o g e=>M b o g e) f0 f1 n q r⟩
 self:=λ_ _ _ _ _ st h=>wpAny_pyIter_listiter st h
def aet{P:jh}{w:jc}{K:ji}{tg:iR}(a it:iG):Turn P w K tg (Itt K a) [it] it (λi h=>h.IsTupleIter it a i) where
 mem:=by simp
 obj:=λi h st b g=>by
  have e:b=it:=by simpa using g
  subst e;obtain⟨o,e,c,d⟩:=st;exact⟨o,e,λv z=>by rw[d]at z;cases z⟩
 keep:=λi h l st k=>st.at λo e=>k it (by simp) o e
 item:=by intro X A C y T i f s G H E I m st B;subst A C y;obtain⟨S,x,n,L⟩:=B;obtain⟨j,O,p,D⟩:=I.tuple n;obtain⟨u,U,F⟩:=O.get L;obtain⟨f0,f1,N,q,r,t⟩:=m it (by simp);refine wpAny_pyNext_tuple_item st (show s.heap.IsTuple a j.toArray from p) (x:=u) (by simpa using U) λl Q R=>?_;have J:Inv X f G H {s with heap:=l}:=I.turned (t':=s.toks) (λb o g e=>(R.2 b g).trans e) f0 f1 q r t;obtain⟨o,e,c,d⟩:=id Q;exact⟨u,rfl,PK (s:={s with heap:=l}) e c d (by decide) ⟨x,H,J,F,⟨rfl,λW Y=>by rw[I.EO Y n];exact L⟩,Q,λb g=>(m b g).1⟩⟩
 done:=by intro X A C y T i f s G H E I m st B;subst A C y;obtain⟨S,n,L⟩:=B;obtain⟨j,O,p,D⟩:=I.tuple n;obtain⟨f0,f1,N,q,r,t⟩:=m it (by simp);have V:=O.length;exact wpAny_pyNext_tuple_end (I.ok.hd T) st (show s.heap.IsTuple a j.toArray from p) (by simp;lia) λl M=>⟨rfl,I.turned (t':=s.toks) (λb o g e=>M b o g e) f0 f1 q r t⟩
 self:=λ_ _ _ _ _ st h=>wpAny_pyIter_tupleiter st h
def aeu{P:jh}{w:jc}{K:ji}{Q:iR}(it:iG)(lo:Int)(n:Nat):Turn P w K Q (Nq lo n) [it] it (λi h=>VP h it (lo+(i:Nat)*1) ((n:Int)-(i:Nat)) 1) where
 mem:=by simp
 obj:=λi h st b c=>by
  have e:b=it:=by simpa using c
  subst e
  exact⟨_,st,λv z=>by have T:hJ _=fS v:=z;cases T⟩
 keep:=λi h d st k=>k it (by simp) _ st
 item:=by intro X p u m q i a s A G E M f st r;subst p u m;obtain⟨f0,f1,L,g,j,l⟩:=f it (by simp);have W:=Walks.range (prog:=X.prog) (w:=X.w) (M.ok.hd q) it lo 1 n;refine W.item i s _ _ r st λv d y hv x O=>?_;obtain⟨t,rfl⟩:=hv;have B:Inv X a A G {s with heap:=d,toks:=y}:=M.turned (λb o c e=>O b o (by simpa using c) e) f0 f1 g j l;refine⟨_,rfl,PK (s:={s with heap:=d,toks:=y}) (n:="range_iterator") x I I (by decide) ⟨.int<|lo+i,G,B,⟨t,?_⟩,⟨rfl,rfl⟩,x,λb c=>(f b c).1⟩⟩;rw[Hm]
 done:=by intro X p u m q i a s A G E M f st r;subst p u m;obtain⟨f0,f1,L,g,j,l⟩:=f it (by simp);exact wpAny_pyNext_range_end (M.ok.hd q) st (by have:n<=i:=r;lia) λd N=>⟨rfl,M.turned (t':=s.toks) (λb o c e=>N b o c e) f0 f1 g j l⟩
 self:=λ_ _ _ _ _ st h=>wpAny_pyIter_rangeiter st h
section
variable {X:Cx}{tg:iR}
def Z2(K:ji)(c:TE):TI:=λe T R=>c e T λx b=>∃a,x=.ref a/\(∃d,Ej K b a d)/\R (Itl K a) b
def acd(K:ji)(c:TE):TI:=λe T R=>c e T λx b=>∃a,x=.ref a/\(∃d,HE K b a d)/\R (Itt K a) b
def R0{l:iR}{f:TE}(i:PE X l f):PI X tg l (Z2 X.K f):=by
 intro c s r Q R T h;refine B6 (i c s r Q _ T h) ?_;rintro v s1 ⟨x,H1,d,n,m⟩;obtain⟨a,e,⟨w,j⟩,q⟩:=m;subst e;cases n;obtain⟨k,u,p,t⟩:=d.list j;refine yh p.isList ?_;refine⟨s1.heap.objs.size,[s1.heap.objs.size],_,_,H1,rfl,d.kept (t':=s1.toks) λb o e=>jW _ e,afi a _,⟨_,kE _ rfl,rfl,rfl⟩,λb g=>?_,q⟩;have e:b=s1.heap.objs.size:=by simpa using g
 subst e;exact d.K9 (jZ _)<|d.hok.fresh<|jZ _
def V8{l:iR}{g:TE}(j:PE X l g):PI X tg l (acd X.K g):=by
 intro c s r Q R T h;refine B6 (j c s r Q _ T h) ?_;rintro v s1 ⟨x,H1,d,n,m⟩;obtain⟨a,e,⟨w,k⟩,q⟩:=m;subst e;cases n;obtain⟨f,u,p,t⟩:=d.tuple k;refine Hl (show s1.heap.IsTuple a f.toArray from p) ?_;refine⟨s1.heap.objs.size,[s1.heap.objs.size],_,_,H1,rfl,d.kept (t':=s1.toks) λb o e=>jW _ e,aet a _,⟨_,kE _ rfl,rfl,rfl⟩,λb i=>?_,q⟩;have e:b=s1.heap.objs.size:=by simpa using i
 subst e;exact d.K9 (jZ _)<|d.hok.fresh<|jZ _
def FE{c:jF}{g:St}{Q:Hp}{s:iL}{R:It->Hp->Prop}{E:jB}{lo a:Int}{t u v:tz}{f:Nat}(T:Inv X c g Q s)(h1: -(2^62)<=lo)(j:lo<2^62)(k: -(2^62)<=a)(l:a<2^62)
  (q:R (Nq lo (a-lo).toNat) Q):ag (ah X.prog X.w) X.A (c7<|.ref s.heap.objs.size) (PIE X c g tg R) E {s with heap:=s.heap.push {cls:=.type "range",data:=.fields #[.int lo t,.int a u,.int 1 v]},toks:=f}:=by
 refine wpAny_pyIter_range (IsRange.new ..) (small_one h1 j k l) ?_;have d:Inv X c g Q {s with heap:=s.heap.push {cls:=.type "range",data:=.fields #[.int lo t,.int a u,.int 1 v]},toks:=f}:=T.kept λb o e=>jW _ e
 refine⟨(s.heap.push {cls:=.type "range",data:=.fields #[.int lo t,.int a u,.int 1 v]}).objs.size,[(s.heap.push {cls:=.type "range",data:=.fields #[.int lo t,.int a u,.int 1 v]}).objs.size],_,_,Q,rfl,
  d.kept (t':=f) λb o e=>jW _ e,aeu _ lo (a-lo).toNat,?_,λb m=>?_,q⟩
 .have h:lo+((0:Nat):Int)*1=lo:=by simp
  have i:(((a-lo).toNat:Nat):Int)-((0:Nat):Int)=fw lo a 1:=by rw[I0];split<;>lia
  show VP _ _ (lo+((0:Nat):Int)*1) ((((a-lo).toNat:Nat):Int)-((0:Nat):Int)) 1;rw[h,i];exact kE _ rfl
 have e:b=(s.heap.push {cls:=.type "range",data:=.fields #[.int lo t,.int a u,.int 1 v]}).objs.size:=by simpa using m
 subst e;exact d.K9 (jZ _)<|d.hok.fresh<|jZ _
def Z1(b:TA):TI:=λd T R=>b d T λc a=>∃j:Int,c=[.int j]/\ -(2^62)<=j/\j<2^62/\R (Nq 0 j.toNat) a
def Z0(b:TA):TI:=λd T R=>b d T λc a=>∃i j:Int,c=[.int i,.int j]/\(-(2^62)<=i/\i<2^62/\ -(2^62)<=j/\j<2^62)/\R (Nq i (j-i).toNat) a
def aeR{a:iR}{f:TA}{p c:br}(k:Gl X "range")(l:X.mg "range"=J)(i:PA X [a] f)(m:aa [a] X.env=[(U,aX a X.env)]:=by rfl):PI X tg (.Call (.Name "range" p) [a] [] c) (Z1 f):=by
 intro b s v Q R T h;refine Call_<|qy T k l DV<|Ad (B6 (i c b s v Q _ T h) ?_) m I;rintro us s1 ⟨w,H1,g,o,d⟩;obtain⟨j,e,d,n,q⟩:=d;subst e
 cases o with
 |cons r u=>
  cases u;obtain⟨t,rfl⟩:=r;exact call_range_1<|FE g (by lia) (by lia) d n (by simpa using q)
def afd{a b:iR}{l:TA}{p d:br}(o:Gl X "range")(u:X.mg "range"=J)(n:PA X [a,b] l)(v:aa [a,b] X.env=[(U,aX a X.env),(U,aX b X.env)]:=by rfl)(k:aa [b] X.env=[(U,aX b X.env)]:=by rfl):
  PI X tg (.Call (.Name "range" p) [a,b] [] d) (Z0 l):=by
 intro c s B N R Q h;refine Call_<|qy Q o u DV<|Ad (B6 (n d c s B N _ Q h) λL s1 M=>?_) (by rw[v,k]) (by rw[k];rfl);obtain⟨O,T,m,A,f⟩:=M;obtain⟨i,j,e,⟨f,w,x,y⟩,q⟩:=f;subst e
 cases A with
 |cons r g=>
  cases g with
  |cons z g=>
   cases g;obtain⟨t,rfl⟩:=r;obtain⟨E,rfl⟩:=z;exact Op<|FE m f w x y q
def abk(k:TI)(g:TG)(j:TS):TS:=λD a Q=>k a Q λT f=>∃W:Nat->Nat->St->Hp->Prop,(∃m,W 0 m a f)/\∀i m a Q,W i m a Q->
 (T.stop i Q/\D.nx a Q)\/(T.go i Q/\∃N:St->Hp->Prop,(∀c b,N c b->∃e,e<m/\W (i+1) e c b)/\∀x b,T.yld i Q x b->g x a b λd h=>j {D with nx:=N,ct:=N,bk:=D.nx} d h)
noncomputable def Az(a:kP)(h:jb):List (iG×eZ):=a.filterMap λb=>(h.get? b).map λo=>(b,o)
def rR{a:kP}{h:jb}{b:iG}{o:eZ}(c:b∈a)(e:h.get? b=Y o):(b,o)∈Az a h:=M4.mpr ⟨b,c,by rw[e];rfl⟩
def afM{a:kP}{h:jb}{p:iG×eZ}(f:p∈Az a h):p.1∈a/\h.get? p.1=Y p.2:=by
 obtain⟨b,d,e⟩:=M4.mp f
 cases q:h.get? b with
 |none=>rw[q]at e;cases e
 |some o=>rw[q]at e;have c:(b,o)=p:=kT e;subst c;exact⟨d,q⟩
def Inv.pinned{a:jF}{h:St}{Q:Hp}{s:iL}{c:kP}(T:Inv X a h Q s)(j:∀b∈c,uh X a Q b)(k:∀b∈c,∃o,s.heap.get? b=Y o/\∀v,o.data≠ .cell v):Inv X (a++Az c s.heap) h Q s:=
 T.HR λp l=>(qX.mp l).elim (λz=>T.pin p<|qW _ z) λz=>by obtain⟨g,e⟩:=afM z;obtain⟨f0,f1,i,_⟩:=j p.1 g;obtain⟨o,f,d⟩:=k p.1 g;rw[e]at f;cases f;exact⟨e,f0,f1,i,d⟩
def Inv.EL{a d:jF}{b:St}{Q:Hp}{s:iL}(T:Inv X (a++d) b Q s):Inv X a b Q s:=T.HR λp c=>T.pin p<|qW _ (DZ _ c)
def V3{iter:iR}{y:List bc}{wi:TI}{g:TG}{tb:TS}{Q:br}(C:fv (ah X.prog X.w) X.A X.env X.xe)(hc:X.calm=WP)(hi:PI X tg iter wi)(hg:PG X tg g)(l:HF X y tb)
  (hs:∀x,aG iter X.env x=pure x:=by intro _;rfl):PS X (.For tg iter y [] Q) (abk wi g tb):=by
 intro a s Z H D I h;refine wpAny_For (B6 (hi a s Z H _ I h) λv s1 h1=>B6 h1 λdQ s2 h2=>?_) hs;obtain⟨it,B,V,J,H2,e,I2,T,aA,P,W,⟨m0,w0⟩,turn⟩:=h2;subst e;have M:∀{t:Hp},(∀b∈B,t b=WF)->∀b∈B,uh X a t b:=λhn b l=>⟨hn b l,(P b l).2⟩
 refine codeAny_forLoop_any (λn R=>∃i p t,Inv X a p t R/\V i R.heap/\(∀b∈B,t b=WF)/\W i n p t) ?_ m0 ⟨0,Z,H2,I2,aA,λb l=>(P b l).1,w0⟩;rintro n S ⟨i,q,L,Y,K,F,w3⟩;rcases turn i n q L w3 with⟨stop,qn⟩|⟨go,N,hN,step⟩
 .refine vC C (B6 (T.done X XV XV XV hc i a S q L X.xe Y (M F) K stop) ?_);rintro r s4 ⟨O,I4⟩;subst O;exact Ae ⟨q,L,I4,qn⟩
 refine vC C (B6 (T.item X XV XV XV hc i a S q L X.xe Y (M F) K go) ?_);rintro r s4 ⟨u,O,h4⟩;subst O;refine vC C<|B6 h4 ?_;rintro _ s5 ⟨x,U',I5,r5,y5,cc,ip⟩;have iF:=I5.pinned (M ip)<|T.obj _ _ cc;refine vC C<|B6 (hg _ s5 q U' x u _ iF r5 (step x U' y5)) ?_;rintro _ s6 ⟨σ6,H6,I6,q6⟩;refine vC C (B6 (l _ s6 σ6 H6 _ I6 q6) λf G z=>?_)
 have again:∀{c:St}{j:Hp},Inv X (a++Az B s5.heap) c j G->N c j->∃m,m<n/\∃i p t,Inv X a p t G/\V i G.heap/\(∀b∈B,t b=WF)/\W i m p t:=λ{c j} k E=>by obtain⟨m',hm,w7⟩:=hN c j E;refine⟨m',hm,i+1,c,j,k.EL,T.keep _ _ _ cc λb l o e=>(k.pin (b,o)<|qW _ (qW _ (rR l e))).1,λb l=>?_,w7⟩;obtain⟨o,e,d⟩:=T.obj _ _ cc b l;exact(k.pin (b,o)<|qW _ (qW _ (rR l e))).2.1
 cases f with
 |next=>obtain⟨c,j,k,E⟩:=z;exact again k E
 |cont=>obtain⟨c,j,k,E⟩:=z;exact again k E
 |brk=>obtain⟨c,j,k,z⟩:=z;exact⟨c,j,k.EL,z⟩
 |ret v=>obtain⟨x7,c,j,k,r7,z⟩:=z;exact⟨x7,c,j,k.EL,r7,z⟩
end
abbrev R2:=V->V->Hp->VK->Prop
def BP(X:Cx)(f:yJ)(r:R2):Prop:=
 ∀(a:jF)(s:iL)(b:St)(T:Hp)(x y:V)(v u:iQ)(Q:VK),Inv X a b T s->RelV x v->RelV y u->r x y T Q->
  ag (ah X.prog X.w) X.A (f v u) (EP X a b Q) X.xe s
def OU(X:Cx)(f:iQ->dP iQ)(r:V->Hp->VK->Prop):Prop:=
 ∀(a:jF)(s:iL)(b:St)(T:Hp)(x:V)(v:iQ)(Q:VK),Inv X a b T s->RelV x v->r x T Q->
  ag (ah X.prog X.w) X.A (f v) (EP X a b Q) X.xe s
def kI(X:Cx)(f:iQ)(r:List V->Hp->VK->Prop):Prop:=
 ∀(a:jF)(s:iL)(c:St)(T:Hp)(xs:List V)(b:jP)(Q:VK),Inv X a c T s->Vals xs b->r xs T Q->
  ag (ah X.prog X.w) X.A (call f b) (EP X a c Q) X.xe s
noncomputable def LY(r:R2)(d e:TE):TE:=λa T Q=>d a T λx b=>e a b λy c=>r x y c Q
def tUn(r:V->Hp->VK->Prop)(b:TE):TE:=λc T Q=>b c T λx a=>r x a Q
def rI(T:Int->Int->Prop)(g:Int->Int->V):R2:=λx y O Q=>∃i j,x=.int i/\y=.int j/\T i j/\Q (g i j) O
def KN(g:Int->Int->V):R2:=λx y T Q=>∃i j,x=.int i/\y=.int j/\Q (g i j) T
def rU(g:Int->V):V->Hp->VK->Prop:=λx T Q=>∃i,x=.int i/\Q (g i) T
section
variable {X:Cx}{a b c:iR}{ta tb tc:TE}{pos:br}
def Xw(o:PE X a ta)(p:PE X b tb){d:jF}{s:iL}{g:St}{O:Hp}{R:V->V->Hp->Prop}(T:Inv X d g O s)
  (h:ta g O λx l=>tb g l λy e=>R x y e){Q:jB}{f:yJ}
  (q:∀v u k x y e,Inv X d g e k->RelV x v->RelV y u->R x y e->ag (ah X.prog X.w) X.A (f v u) Q X.xe k):
  ag (ah X.prog X.w) X.A (aX a X.env) (λv i=>ag (ah X.prog X.w) X.A (aX b X.env) (λu j=>ag (ah X.prog X.w) X.A (f v u) Q X.xe j) X.xe i) X.xe s:=by
 refine B6 (o d s g O _ T h) ?_;rintro v s1 ⟨x,l,m,z,r⟩;refine B6 (p d s1 g l _ m r) ?_;rintro u k ⟨y,e,n,B,t⟩;exact q v u k x y e n z B t
def Zv{e:Operator}{r:R2}(k:BP X (bL e) r)(i:PE X a ta)(j:PE X b tb):PE X (.BinOp a e b pos) (LY r ta tb):=by intro d s o O Q T h;exact wpAny_BinOp<|Xw i j T h λv u n x y f g l m q=>k d n o f x y v u Q g l m q
def Zu{e:UnaryOp}{r:V->Hp->VK->Prop}(k:OU X (MB e) r)(j:PE X a ta):PE X (.UnaryOp e a pos) (tUn r ta):=by intro d s f O Q T h;exact UnaryOp_ (B6 (j d s f O _ T h) λv s1 N=>by obtain⟨x,g,i,m,l⟩:=N;exact k d s1 f g x v Q i m l)
def OJ{f:yJ}{T:Int->Int->Prop}{g:Int->Int->Int}
  (rule:∀(i j:Int)(t u:tz)(s:iL)(Q:jB)(E:jB),T i j->Q (.int (g i j) s.toks) {s with toks:=s.toks+1}->ag (ah X.prog X.w) X.A (f (.int i t)<|.int j u) Q E s):
  BP X f (rI T λi j=>.int (g i j)):=by
 intro d s n N x y v u Q O k l h;obtain⟨i,j,rfl,rfl,e,q⟩:=h;obtain⟨t,rfl⟩:=k;obtain⟨m,rfl⟩:=l;exact rule i j t m s _ _ e ⟨.int<|g i j,N,O.tok _,⟨_,rfl⟩,q⟩
def ZG{f:yJ}{g:Int->Int->Int}
  (rule:∀(i j:Int)(t u:tz)(s:iL)(Q:jB)(E:jB),Q (.int (g i j) s.toks) {s with toks:=s.toks+1}->ag (ah X.prog X.w) X.A (f (.int i t)<|.int j u) Q E s):
  BP X f (KN λi j=>.int (g i j)):=by
 intro d s m O x y v u Q T e k h;obtain⟨i,j,rfl,rfl,q⟩:=h;obtain⟨t,rfl⟩:=e;obtain⟨l,rfl⟩:=k;exact rule i j t l s _ _ ⟨.int<|g i j,O,T.tok _,⟨_,rfl⟩,q⟩
def Su{f:yJ}{g:Int->Int->Bool}
  (rule:∀(i j:Int)(t u:tz)(s:iL)(Q:jB)(E:jB),Q (.bool<|g i j) s->ag (ah X.prog X.w) X.A (f (.int i t)<|.int j u) Q E s):
  BP X f (KN λi j=>.bl (g i j)):=by
 intro d s m O x y v u Q T e k h;obtain⟨i,j,rfl,rfl,q⟩:=h;obtain⟨t,rfl⟩:=e;obtain⟨l,rfl⟩:=k;exact rule i j t l s _ _ ⟨.bl<|g i j,O,T,rfl,q⟩
def Mf(i j:Int):Prop:=0<j/\j<1073741824
def E7(i j:Int):Prop:=0<=j/\j<=1000000/\i.natAbs<2^64
def EK(i j:Int):Prop:=(-(2^64)<i/\i<2^64)\/(-(2^64)<j/\j<2^64)
def EK.ok{i j:Int}(h:EK i j):IntMulOk i j:=by
 rcases h with⟨h1,d⟩|⟨h1,d⟩
 .exact .of_left (I8 h1 d)
 exact .of_right (I8 h1 d)
def Ws:BP X (bL .Add) (KN λi j=>.int (i+j)):=ZG λ_ _ _ _ _ _ _ q=>add_int q
def Wl:BP X (bL .Sub) (KN λi j=>.int (i-j)):=ZG λ_ _ _ _ _ _ _ q=>sub_int q
def Wo:BP X (bL .Mult) (rI EK λi j=>.int (i*j)):=OJ λ_ _ _ _ _ _ _ d q=>mul_int q d.ok
def So:BP X (bL .FloorDiv) (rI Mf λi j=>.int (i / j)):=OJ λi j _ _ _ _ _ d q=>by have h1:(0:Int)<j:=d.1;have e:j<1073741824:=d.2;exact floordiv_int (by lia) (by rw[Int.fdiv_eq_ediv_of_nonneg i<|by lia];exact q)<|.inl<|PyProof.noPylong_small (by lia)
def Wq:BP X (bL .Mod) (rI (λ_ j=>0<j) λi j=>.int (i%j)):=OJ λi j _ _ _ _ _ d q=>by have h1:(0:Int)<j:=d;exact mod_int' (by lia) (by rw[Int.fmod_eq_emod_of_nonneg i<|by lia];exact q)
def Wm:BP X (bL .Pow) (rI E7 λi j=>.int (i^j.toNat)):=OJ λ_ _ _ _ _ _ _ d q=>pow_int_small d.1 d.2.1 d.2.2 q
def unI{f:iQ->dP iQ}{g:Int->Int}
  (rule:∀(i:Int)(t:tz)(s:iL)(Q:jB)(E:jB),Q (.int (g i) s.toks) {s with toks:=s.toks+1}->ag (ah X.prog X.w) X.A (f<|.int i t) Q E s):
  OU X f (rU λi=>.int (g i)):=by
 intro d s j O x v Q T e h;obtain⟨i,rfl,q⟩:=h;obtain⟨t,rfl⟩:=e;exact rule i t s _ _ ⟨.int<|g i,O,T.tok _,⟨_,rfl⟩,q⟩
def Vk:OU X (MB .USub) (rU λi=>.int (-i)):=unI λ_ _ _ _ _ q=>neg_int q
def EH{d:jF}{g:St}{O:Hp}{s:iL}{Q:VK}{k f:Bool}(T:Inv X d g O s)(q:Q (.bl k) O)(e:k=f):EP X d g Q (.bool f) s:=by subst e;exact⟨.bl k,O,T,rfl,q⟩
def ZC:BP X (aw .Lt) (KN λi j=>.bl (decide<|i<j)):=Su λ_ _ _ _ _ _ _ q=>lt_int q
def ZD:BP X (aw .LtE) (KN λi j=>.bl (decide<|i<=j)):=Su λ_ _ _ _ _ _ _ q=>le_int q
def ZE:BP X (aw .Gt) (KN λi j=>.bl (decide<|j<i)):=Su λ_ _ _ _ _ _ _ q=>gt_int q
def ZF:BP X (aw .GtE) (KN λi j=>.bl (decide<|j<=i)):=Su λ_ _ _ _ _ _ _ q=>ge_int q
def OD:BP X (aw .Is) (λx y O Q=>y=.A7/\Q (.bl<|decide<|x=.A7) O):=by
 intro d s g O x y v u Q T e f h;obtain⟨rfl,q⟩:=h;cases f;refine is_none_gen<|EH T q ?_
 cases x<;>first
  |(cases e;rfl)
  |(obtain⟨t,rfl⟩:=e;rfl)
def JB:BP X (aw .IsNot) (λx y O Q=>y=.A7/\Q (.bl (!decide (x=.A7))) O):=by
 intro d s g O x y v u Q T e f h;obtain⟨rfl,q⟩:=h;cases f;refine isnot_none_gen<|EH T q ?_
 cases x<;>first
  |(cases e;rfl)
  |(obtain⟨t,rfl⟩:=e;rfl)
def OM(b:iR){d:cC}(h:d≠ .In:=by decide)(e:d≠ .NotIn:=by decide):dy d b=U:=agG b h e
def R6{e:cC}{r:R2}(l:BP X (aw e) r)(i:PE X a ta)(j:PE X b tb)(k:dy e b=U):PE X (.Compare a [e] [b] pos) (LY r ta tb):=by intro d s p O Q T h;exact wpAny_Compare1 (Xw i j T h λv u o x y f g m n q=>l d o p f x y v u Q g m n q) k
def YX(t:TE):TT:=λe T Q=>t e T λx d=>∃k,x=.bl k/\Q k d
def RS{g:cC}{r:R2}(A:BP X (aw g) r)(q:PE X a ta)(t:PE X b tb)(w:dy g b=U):PT X (.Compare a [g] [b] pos) (YX<|LY r ta tb):=by intro d s i H Q I h;refine wpAny_isTrue_Compare1 (B6 (q d s i H _ I h) λv s1 f=>?_) w;obtain⟨x,j,n,L,B⟩:=f;refine B6 (t d s1 i j _ n B) λu G f=>?_;obtain⟨y,l,o,O,M⟩:=f;refine B6 (A d G i l x y v u _ o L O M) λc N f=>?_;obtain⟨z,m,p,T,k,e,E⟩:=f;subst e;cases T;exact tK ⟨m,p,E⟩
def Nw(r i:R2)(ta tb tc:TE):TE:=λd T Q=>ta d T λx f=>tb d f λy g=>r x y g λz e=>∃k,z=.bl k/\
 (if k=C then tc d e λj h=>i y j h Q else Q (.bl U) e)
def Ou{j l:cC}{r p:R2}(M:BP X (aw j) r)(L:BP X (aw l) p)(O:PE X a ta)(T:PE X b tb)(G:PE X c tc)
  (J:lastMarks [j,l] [b,c]=W1:=by with_unfolding_all rfl):PE X (.Compare a [j,l] [b,c] pos) (Nw r p ta tb tc):=by
 intro f s i H Q I h;refine Compare_chain (B6 (O f s i H _ I h) λv s1 g=>?_) J;obtain⟨x,t,B,D,N⟩:=g;refine chain_link<|B6 (T f s1 i t _ B N) λu K g=>?_;obtain⟨y,w,C,q,U⟩:=g;refine B6 (M f K i w x y v u _ C D q U) λd P g=>?_;obtain⟨z,m,n,F,k,e,o⟩:=g;subst e;cases F;refine tK ?_
 cases k
 .exact ite_ff ⟨.bl W1,m,n,rfl,o⟩
 exact ite_tt<|chain_last (B6 (G f P i m _ n o) λw' s4 a'=>by obtain⟨z',A,E,r4,Y'⟩:=a';exact L f s4 i A y z' u w' Q E q r4 Y')
def Es:(sizeLine:Nat)<2^63:=by rw[ku];decide
def ael:BP X (bL .Add) (λx y O Q=>∃i j,x=.str i/\y=.str j/\i.length+j.length<=sizeLine/\Q (.str<|i++j) O):=by intro d s l O x y v u Q T f g h;obtain⟨i,j,rfl,rfl,e,q⟩:=h;obtain⟨t,rfl⟩:=f;obtain⟨t',rfl⟩:=g;exact add_str (λt' k=>⟨.str<|i++j,O,T.tok _,⟨_,rfl⟩,q⟩) e
inductive Vl1(x:V)(us:jP):Prop where
 |mk (u:iQ) (_:us=[u]) (_:RelV x u)
inductive Vl2(x y:V)(us:jP):Prop where
 |mk (u w:iQ) (_:us=[u,w]) (_:RelV x u) (_:RelV y w)
def qm{x:V}{d:jP}(r:Vals [x] d):Vl1 x d:=by
 cases r with
 |cons e f=>cases f;exact⟨_,rfl,e⟩
def wx{x y:V}{d:jP}(r:Vals [x,y] d):Vl2 x y d:=by
 cases r with
 |cons e f=>
  cases f with
  |cons g h=>cases h;exact⟨_,_,rfl,e,g⟩
def Qs:kI X (.builtin "abs") (λe O Q=>∃i,e=[.int i]/\Q (.int (if i<0 then -i else i)) O):=by intro d s j O e g Q T r h;obtain⟨i,rfl,q⟩:=h;obtain⟨u,rfl,t,rfl⟩:=qm r;exact Q1 λu f=>⟨.int (if i<0 then -i else i),O,T.tok _,⟨_,rfl⟩,q⟩
def afl(g:X.calm=C):kI X (.builtin "max") (λf O Q=>∃i j,f=[.int i,.int j]/\Q (.int (if j>i then j else i)) O):=by
 intro e s v O f o Q T r h;obtain⟨i,j,rfl,q⟩:=h;obtain⟨u,p,rfl,⟨t,rfl⟩,⟨m,rfl⟩⟩:=wx r;refine max_two_ints (T.ok.hd g) λl n k=>⟨_,O,T.kept k,?_,q⟩
 by_cases d:j>i
 .rw[iZ d,iZ d];exact⟨_,rfl⟩
 rw[jo d,jo d];exact⟨_,rfl⟩
def afI(g:X.calm=C):kI X (.builtin "min") (λf O Q=>∃i j,f=[.int i,.int j]/\Q (.int (if j<i then j else i)) O):=by
 intro e s v O f o Q T r h;obtain⟨i,j,rfl,q⟩:=h;obtain⟨u,p,rfl,⟨t,rfl⟩,⟨m,rfl⟩⟩:=wx r;refine min_two_ints (T.ok.hd g) λl n k=>⟨_,O,T.kept k,?_,q⟩
 by_cases d:j<i
 .rw[iZ d,iZ d];exact⟨_,rfl⟩
 rw[jo d,jo d];exact⟨_,rfl⟩
def De:kI X (.type "int") (λd O Q=>(∃i,d=[.int i]/\Q (.int i) O)\/∃k,d=[.bl k]/\Q (.int (if k then 1 else 0)) O):=by
 intro e s j O d g Q T r h;rcases h with⟨i,rfl,q⟩|⟨k,rfl,q⟩
 .obtain⟨u,rfl,t,rfl⟩:=qm r;exact call_int_int ⟨.int i,O,T,⟨_,rfl⟩,q⟩
 obtain⟨u,rfl,f⟩:=qm r;cases f;exact call_int_bool ⟨.int (if k then 1 else 0),O,T.tok _,⟨_,rfl⟩,q⟩
end
section
variable {a:jh}{w:jc}{A:je}{E:jB}{s:iL}{K:ji}{x d C f:iG}{c:lI}{b:ax}{v:iQ}
end
def HJ.some_of{v:V}{o:Option iQ}(r:HJ (Y v) o):∃u,o=Y u/\RelV v u:=by
 cases o with
 |none=>exact(show False from r).elim
 |some u=>exact⟨u,rfl,r⟩
section
variable {P:jh}{w:jc}{H e:Hp}{h c:jb}{a C d:iG}{fs b:List (ax×V)}
end
section
variable {X:Cx}{b:jF}{c:St}{H:Hp}{s:iL}{a C d:iG}{fs:List (ax×V)}{f:ax}{v:V}{A:je}{E:jB}
end
section
variable {X:Cx}{o e a:iR}{f:ax}{c b h:br}{g d:TE}
end
section
variable {X:Cx}{a:jF}{d:St}{H:Hp}{s:iL}{A:je}{E:jB}{Q:jB}{c:iQ}{b:Bool}
end
structure B7(k:Nat)(A:je):Prop where
 hd:A.handled=WF
 dp:A.depth+3*k+5<recursionLimit
 un:A.units+16*k+200<aV
 gd:A.guards=Wp []:=by rfl
def B7.mono{j k:Nat}{A:je}(r:B7 k A)(h:j<=k):B7 j A:=⟨r.hd,by have:=r.dp;lia,by have:=r.un;lia,r.gd⟩
def B7.deeper{k:Nat}{A:je}(r:B7 (k+1) A)(a:dI):B7 k (A.deeper a):=
 ⟨r.hd,by have:=r.dp;show A.depth+1+3*k+5<_;lia,by have:=r.un;show A.units+3+16*k+200<_;lia,r.gd⟩
def B7.depth{k:Nat}{A:je}(r:B7 k A):A.depth<recursionLimit:=by have:=r.dp;lia
noncomputable def abh:TA:=λ_ T Q=>Q [] T
noncomputable def Y3(d:TE)(e:TA):TA:=λa T Q=>d a T λx b=>e a b λf c=>Q (x::f) c
section
variable {X:Cx}{e:iR}{c:kD}{d:TE}{t:TA}{a:br}
def oM:PA X [] abh:=λ_ _ _ _ O Q T h=>Hk ⟨[],O,T,.nil,h⟩
def lP(k:PE X e d)(l:PA X c t)(m:aa (e::c) X.env=(U,aX e X.env)::aa c X.env:=by rfl):PA X (e::c) (Y3 d t):=by intro a b s f O Q T h;rw[m];show ag _ _ (u4 ((U,aX e X.env)::aK a (aa c X.env))) _ _ s;refine Hj<|B6 (k b s f O _ T h) ?_;rintro u s1 ⟨x,H1,i,p,n⟩;exact B6 (l a b s1 f H1 _ i n) λw v ⟨r,g,j,q,o⟩=>⟨x::r,g,j,.cons p q,o⟩
def abe(t:TA):TE:=λg T Q=>t g T λf b=>X0 f<=sizeLine/\∀p,b p=J->Q (.ref p) (upd b p<|.tup f)
def abi(t:TA):TE:=λg T Q=>t g T λf b=>X0 f<=sizeLine/\∀p,b p=J->Q (.ref p) (upd b p<|.lst f)
def Oj{x1}(h:PA X c t):PE X (.Tuple c x1 a) (abe t):=by intro f s n O Q T k;refine wpAny_Tuple_spliced<|B6 (h a f s n O _ T k) λl s1 ⟨m,g,i,r,z,q⟩=>⟨by rw[<-r.length];exact z,?_⟩;have j:g s1.heap.objs.size=J:=i.hok.fresh<|jZ _;refine⟨.ref s1.heap.objs.size,upd g s1.heap.objs.size<|.tup m,i.laid (t':=s1.toks) (λb u e=>jW _ e) (jZ _) ?_,rfl,q _ j⟩;exact⟨z,l,r,HI.new _ _⟩
def We(h:PA X c t):PE X (.List c a) (abi t):=by intro f s n O Q T k;refine wpAny_List_spliced<|B6 (h a f s n O _ T k) λl s1 ⟨m,g,i,r,z,q⟩=>⟨by rw[<-r.length];exact z,?_⟩;have j:g s1.heap.objs.size=J:=i.hok.fresh<|jZ _;refine⟨.ref s1.heap.objs.size,upd g s1.heap.objs.size<|.lst m,i.laid (t':=s1.toks) (λb u e=>jW _ e) (jZ _) ?_,rfl,q _ j⟩;exact⟨z,l,0,r,kE _ rfl⟩
end
abbrev Sp:=List V->Hp->VK->XK->Prop
abbrev Iu:=List dI->Hp->Shared->XK->iQ->Shared->Prop
structure Ir(P:jh)(w:jc)(K:ji)(mg:lI)(base:jb)(A:je)(outer:List dI)(s:iL)(H:Hp):Prop where
 frames:A.frames=Wp outer
 mod:Mod K mg base
 bs:∀b o,base.get? b=Wp o->s.heap.get? b=Wp o/\H b=WF
 bsz:base.objs.size<=s.heap.objs.size
 Ed:s.heap.FunFrames base outer
 frf:∀b∈Eg outer,H b=WF
 hok:EV P w H s.heap
 bare:ef s.gens
inductive CE(outer:List dI)(P:jh)(w:jc)(H:Hp)(s:iL)(Q:VK)(u:iQ)(s':iL):Prop where
 |mk (v:V) (H':Hp) (_:s'.os=s.os) (_:ef s'.gens) (_:Un (Eg outer) [] H H' s.heap s'.heap) (_:EV P w H' s'.heap) (_:RelV v u) (_:Q v H')
def CR(CX:Iu)(a:List dI)(P:jh)(w:jc)(T:Hp)(s:iL)(Q:VK)(E:XK)(r:ms)(b:iL):Prop:=
 match r with
 |.ok (.ret u)=>CE a P w T s Q u b
 |.ok _=>False
 |.error e=>CX a T s E e b
structure Bn(P:jh)(w:jc)(K:ji)(mg:lI)(base:jb)(CX:Iu)(k:Nat)(f:iG)(fd:mG)(ps:jr)(sp:Sp):Prop where
 len:∀vs H Q E,sp vs H Q E->X0 vs=X0 ps
 run:∀(A:je)(outer:List dI)(s:iL)(H:Hp)(args:Args)(us:jP)(vs:List V)(Q:VK)(E:XK),B7 k A->Ir P w K mg base A outer s H->gc s fd args (ps.zip us)->Vals vs us->sp vs H Q E->
  ca (ah P w) A (.call (.ref f) args) (CR CX outer P w H s Q E) s
def Bn.mono{P:jh}{w:jc}{K:ji}{d:lI}{base:jb}{CX:Iu}{j k:Nat}{f:iG}{c:mG}{e:jr}{g:Sp}(F:Bn P w K d base CX j f c e g)(h:j<=k):
  Bn P w K d base CX k f c e g:=⟨F.len,λA a s T b us vs Q E i=>F.run A a s T b us vs Q E<|i.mono h⟩
section
variable {X:Cx}{a:jF}{c:St}{H:Hp}{s e:iL}
def Inv.Lf(T:Inv X a c H s):Ir X.prog X.w X.K X.mg X.base X.A X.stack s H:=
 ⟨T.ok.frames,T.ok.mod,T.bs,lN T.ok.bsz T.sz,T.stack,T.Fm,T.hok,T.bare⟩
def Inv.after{Q:VK}{u:iQ}(T:Inv X a c H s)(h:CE X.stack X.prog X.w H s Q u e):EP X a c Q u e:=by obtain⟨v,j,os,f,un,i,r,q⟩:=h;obtain⟨l,g,d,t,k⟩:=e;obtain rfl:k=s.os:=os;exact⟨v,j,T.call (h':=l) (g':=g) (d':=d) (t':=t) (ch:=[]) un i f λb z=>absurd z<|by simp,r,q⟩
end
noncomputable def Y4(c:Sp)(b:List V)(E:XK)(t:TA):TE:=λe T Q=>t e T λd a=>c (d++b) a Q E
def Binds(K:ji)(c:mG)(b:jr)(a:jP):Prop:=
 ∀(s:iL)(us:jP),K.In s.heap->(us++a).length=X0 b->gc s c ⟨us,[]⟩ (b.zip<|us++a)
def Binds.all{K:ji}{c:mG}{b:jr}(h:∀a:List iQ,X0 a=X0 b->fj c ⟨a,[]⟩=pure (b.zip a)):Binds K c b []:=λs a _ d=>by rw[sA]at d ⊢;exact .of_eq<|h a d
def E6(c:Iu)(X:Cx)(E:XK):Prop:= ∀(a:jF)(d:St)(T:Hp)(s:iL)(e:iQ)(b:iL),Inv X a d T s->c X.stack T s E e b->X.xe e b
section
variable {X:Cx}{l:Iu}{k:Nat}{f C:iG}{j:mG}{d:jr}{i:Sp}{c:List V}{b:jP}{E:XK}{x m:ax}{p a n:br}{e o:iR}{g:kD}{v:TE}{t:TA}
def Vy{q:jF}{L:St}{H:Hp}{s:iL}{Q:VK}{y:jP}{B:List V}(F:Bn X.prog X.w X.K X.mg X.base l k f j d i)(M:B7 k X.A)(G:Binds X.K j d b)(hd:Vals c b)(N:E6 l X E)
  (I:Inv X q L H s)(r:Vals B y)(h:i (B++c) H Q E):ag (ah X.prog X.w) X.A (call (.ref f) y) (EP X q L Q) X.xe s:=by
 have O:Vals (B++c) (y++b):=r.append hd;have J:(y++b).length=d.length:=by rw[<-O.length];exact F.len _ _ _ _ h
 refine yg<|sy (F.run X.A X.stack s H ⟨y,[]⟩ (y++b) (B++c) Q E M I.Lf (G s y I.Eo J) O h) λr U z=>?_
 cases r with
 |error e=>exact N q L H s e U I z
 |ok T=>
  cases T with
  |ret u=>exact I.after z
  |next=>exact aW z
  |brk=>exact aW z
  |cont=>exact aW z
def Jx(F:Bn X.prog X.w X.K X.mg X.base l k f j d i)(M:B7 k X.A)(G:Gl X x)(J:X.mg x=Y (.ref f))(hk:bP X.K (.ref f)=WP)(O:Binds X.K j d b)(hd:Vals c b)(N:E6 l X E)
  (L:PA X (e::g) t)(B:(x==("__debug__":ax))=W1:=by decide)(T:aa (e::g) X.env=(W1,aX e X.env)::aa g X.env:=by rfl)(z:(aK a<|aa g X.env).any (·.1)=W1:=by rfl):
  PE X (.Call (.Name x p) (e::g) [] a) (Y4 i c E t):=by
 intro u s U H Q I h;refine tJ<|wM I G J ?_ B;refine PySem.W.callWith_K (h₀:=X.base) I.ok.mod.kin hk (B6 (L a u s U H _ I h) λus s1 ⟨vs,Y',y,r,q⟩=>⟨y.Eo,?_⟩) T z;exact Vy F M O hd N y r q
end
section
variable {X:Cx}{w:Iu}{k:Nat}{f C:iG}{s:mG}{l q:jr}{j:Sp}{E:XK}{x m:ax}{p c b a:br}{e o:iR}{u:kD}{v:List vu}{h i:TE}{t d:TA}{n:Option ax}
variable {g:List iQ->List iQ->List iQ}{r:List V->List V->List V}
end
structure AJ(N P:jr)(sc:jI):Prop where
 kind:sc.kind=.function
 co:sc.isCoroutine=W1
 gen:sc.isGenerator=W1
 nd:N.Nodup
 pre:N.take P.length=P
 par:∀x∈P,sc.names.lookup x=Wp .local\/sc.names.lookup x=Wp .cell
 nofree:∀y∈sc.names,y.2≠ .free
theorem Dh{kindOf:ax->Option dE}{x:ax}:∀{binds:List (ax×iQ)}{m:lI},(∀v,(x,v)∉binds)->j1 kindOf binds m x=m x
 |[],_,_=>rfl
 |(n,v)::r,m,h=>by
  unfold j1;rw[Dh λw a=>h w<|jU _ a];split
  .have:x≠n:=by rintro rfl;exact h v la
   simp[this]
  rfl
theorem Dj{kindOf:ax->Option dE}{x:ax}:∀{binds:List (ax×iQ)}{m:lI},(∀v,(x,v)∉binds)->j2 kindOf binds m x=m x
 |[],_,_=>rfl
 |(n,v)::r,m,h=>by
  unfold j2;rw[Dj λw a=>h w<|jU _ a];split
  .rfl
  have:x≠n:=by rintro rfl;exact h v la
  simp[this]
theorem Di{kindOf:ax->Option dE}{x:ax}{v:iQ}:∀{P:jr}{a:jP}{i:Nat}{m:lI},P.Nodup->P[i]?=Y x->a[i]?=Y v->kindOf x=Y .local->
  j1 kindOf (P.zip a) m x=Y v
 |[],_,_,_,_,h,_,_=>by simp at h
 |_::_,[],_,_,_,_,h,_=>by simp at h
 |p::P,w::a,0,m,c,h1,b,hk=>by simp at h1 b;subst h1;subst b;show j1 kindOf ((p,w)::P.zip a) m p=_;unfold j1;rw[Dh λv hv=>(BF.mp c).1 (Hh hv).1,iZ hk];simp
 |p::P,w::a,i+1,m,c,h1,b,hk=>by show j1 kindOf ((p,w)::P.zip a) m x=_;unfold j1;exact Di (i:=i) (BF.mp c).2 (by simpa using h1) (by simpa using b) hk
theorem Dk{kindOf:ax->Option dE}{x:ax}{v:iQ}:∀{P:jr}{a:jP}{i:Nat}{m:lI},P.Nodup->P[i]?=Y x->a[i]?=Y v->kindOf x≠Y .local->
  j2 kindOf (P.zip a) m x=Y v
 |[],_,_,_,_,h,_,_=>by simp at h
 |_::_,[],_,_,_,_,h,_=>by simp at h
 |p::P,w::a,0,m,c,h1,b,hk=>by simp at h1 b;subst h1;subst b;show j2 kindOf ((p,w)::P.zip a) m p=_;unfold j2;rw[Dj λv hv=>(BF.mp c).1 (Hh hv).1,jo hk];simp
 |p::P,w::a,i+1,m,c,h1,b,hk=>by show j2 kindOf ((p,w)::P.zip a) m x=_;unfold j2;exact Dk (i:=i) (BF.mp c).2 (by simpa using h1) (by simpa using b) hk
noncomputable def oZ(N:jr)(vs:List V):St:=vs.map Y++ai (X0 N-X0 vs) J
noncomputable def sd(CX:Iu)(P:jh)(w:jc)(K:ji)(c:lI)(base:jb)(N:jr)(qual:ax)(scope:jI)(f:iG)(cd:iQ)(A:je)(a:List dI)(s:iL)(T:Hp)(E:XK):Cx where
 prog:=P
 w:=w
 K:=K
 mg:=c
 base:=base
 A:=A.deeper<|aZ qual scope s.heap.objs.size f cd
 N:=N
 s₀:=s
 H₀:=T
 env:=aZ qual scope s.heap.objs.size f cd
 outer:=a
 stack:=aZ qual scope s.heap.objs.size f cd::a
 ex:=[]
 calm:=C
 fn:=λ_=>C
 pn:=[]
 xe:=λe h=>ag (ah P w) (A.deeper<|aZ qual scope s.heap.objs.size f cd) (NE (aZ qual scope s.heap.objs.size f cd) e) (λ_ b=>CX a T s E e b) (λg b=>CX a T s E g b) h
def Gp{a:jI}{n:Nat}{x:ax}(h:a.names.lookup x=Y .cell):∃c,(bw n a.names []).lookup x=Y c:=by have q:=DU a.names n []<|.inl h;exact Ko.mp q
def af1{Q:Iu}{P:jh}{w:jc}{K:ji}{L:lI}{base:jb}{N m:jr}{qual:ax}{scope:jI}{f:iG}{cd:iQ}{A:je}{d:List dI}{s s1:iL}{H:Hp}{E:XK}{O:jP}{o:List V}
  (S:AJ N m scope)(hd:A.handled=WF)(j:Ir P w K L base A d s H)(Y:(X0 o)=X0 m)(r:Vals o O)
  (x:InCallC s s.heap.objs.size (j1 (aZ qual scope s.heap.objs.size f cd).kindOf (m.zip O) λ_=>WF) (bw (s.heap.objs.size+1) scope.names []) (j2 (aZ qual scope s.heap.objs.size f cd).kindOf (m.zip O) λ_=>WF) s1):
  Inv (sd Q P w K L base N qual scope f cd A d s H E) [] (oZ N o) H s1:=by
 have M:(X0 m)<=(X0 N):=by have:=oo c3 S.pre;rw[uX]at this;lia
 obtain⟨h1,D,rfl,hk⟩:=x.done;have I:∀b:iG,b∉(sd Q P w K L base N qual scope f cd A d s H E).ex:=λb z=>absurd (show b∈([]:List iG)from z) (by simp)
 refine⟨⟨j.mod,S.kind,rfl,rfl,jZ _,λy z c h1 g=>?_,λy l=>?_,λy c _ h=>?_,λ_=>hd,MZ j.frames,.inr ⟨rfl,rfl⟩,λb z=>absurd z<|I b,j.bs,j.bsz,λb _ _=>I b,λb z=>absurd z<|I b,j.Ed,j.frf⟩,
  rfl,j.bare,Un.kept hk,⟨_,x.toInCall.ns,λi y v h1 g U=>?_⟩,λy c h=>⟨_,x.cell y c h⟩,j.hok.fresh<|jZ _,λy c h=>?_,λp t=>absurd (show p∈([]:List (iG×eZ))from t)<|by simp,j.hok.kept hk,?_⟩
 .exact No x.apart (qV h1) (qV g)
 .have l:scope.names.lookup y=Wp .cell\/scope.names.lookup y=Wp .free:=l;rcases l with l|l
  .exact Gp l
  exact absurd XV (S.nofree _ (qV l))
 .exact wm (x.above y c<|qV h)
 .have C:i<(X0 o):=by
   unfold oZ at g;by_cases C:i<X0 o
   .exact C
   rw[qR<|by simpa using C]at g;rw[wk]at g;split at g<;>cases g
  have G:o[i]?=Wp v:=by
   unfold oZ at g;rw[sv<|by simpa using C,kQ]at g
   cases e:o[i]? with
   |none=>rw[e]at g;cases g
   |some a=>rw[e]at g;cases g;rfl
  obtain⟨u,T,J⟩:=r.get G
  have t:m[i]?=Wp y:=by rw[<-S.pre,MY<|by lia];exact h1
  have B:m.Nodup:=by rw[<-S.pre];exact S.nd.sublist<|yf _ _
  refine⟨u,J,?_⟩;rcases S.par y (nL t)with k|k
  .exact .inl ⟨k,Di B t T k⟩
  obtain⟨c,e⟩:=Gp (n:=s.heap.objs.size+1) k;refine .inr ⟨.inl k,c,e,?_⟩;have q:=x.cell y c e;rw[Dk B t T (by show scope.names.lookup y≠_;rw[k];decide)]at q;exact q
 .exact j.hok.fresh (wm<|x.above y c<|qV h)
 unfold oZ;show _=X0 N;rw[nR,ke,MX]
 lia
def UG{CX:Iu}{P:jh}{w:jc}{K:ji}{C:lI}{base:jb}{k:Nat}{f:iG}{j qual:ax}{c:bB}{d:List bc}{scope:jI}{Y kV z pm l ct oc:iQ}{an od:Option iG}
  {o7:yI}{N L:jr}{A:je}{a:List dI}{s:iL}{H:Hp}{i:Args}{us:jP}{vs:List V}{Q:VK}{E:XK}(lk:K.lookup f=Wp ⟨oc,od,.func<|bG j qual c d scope Y kV z pm an l ct,o7⟩)(m5:dn K l qual=WP)(S:AJ N L scope)
  (O:B7 (k+1) A)(B:Ir P w K C base A a s H)(hb:gc s (bG j qual c d scope Y kV z pm an l ct) i (L.zip us))(r:Vals vs us)(hl:(X0 vs)=X0 L)
  (j6:B7 k (A.deeper<|aZ qual scope s.heap.objs.size f l)->∃t,HF (sd CX P w K C base N qual scope f l A a s H E) d t/\t {nx:=λ_ h=>Q .A7 h,rt:=Q} (oZ N vs) H):
  ca (ah P w) A (.call (.ref f) i) (CR CX a P w H s Q E) s:=by
 have U:K.In s.heap:=B.mod.kin.keeps λb o e=>(B.bs b o e).1;have T:s.heap.NoLimit:=B.mod.nolimit.keeps λb o e=>(B.bs b o e).1
 have m:∀y∈L.zip us,scope.names.lookup y.1=Wp .local\/(scope.names.lookup y.1=Wp .cell/\((bw (s.heap.objs.size+1) scope.names []).lookup y.1).isSome=WP):=λ⟨n,v⟩ hy=>by
  rcases S.par n (Hh hy).1 with q|q
  .exact .inl q
  exact .inr ⟨q,DU _ _ _ (.inl q)⟩
 refine codeAny_call_function O.depth (U _ _ lk) XV S.co S.gen XV (PySem.W.codeRec_of U m5)<|hb _ _ _ _ ?_;refine wpAny_newFunctionEnv_cells S.kind m λD R s1 x=>?_;subst R;refine⟨T.keeps x.toInCall.keep,codeAny_func ?_⟩;obtain⟨t,Z,X⟩:=j6<|O.deeper _;have I:Inv (sd CX P w K C base N qual scope f l A a s H E) [] (oZ N vs) H s1:=af1 S O.hd B hl r x;refine oq (Z [] s1 (oZ N vs) H _ I X) (λF M p=>?_) λe M p=>p
 have fin:∀{g:St}{h:Hp}{v:V}{u:iQ},Inv (sd CX P w K C base N qual scope f l A a s H E) [] g h M->RelV v u->Q v h->CE a P w H s Q u M:=
  λ{g h v u} J G q=>⟨v,h,J.os,J.bare,J.base,J.hok,G,q⟩
 cases F with
 |ret u=>obtain⟨v,g,h,J,G,q⟩:=p;exact fin J G q
 |next=>obtain⟨g,h,J,q⟩:=p;exact fin (v:=V.A7) (u:=au) J XV q
 |brk=>obtain⟨_,_,_,q⟩:=p;exact aW q
 |cont=>obtain⟨_,_,_,q⟩:=p;exact aW q
def P7{l:Iu}{P:jh}{w:jc}{K:ji}{o:lI}{base:jb}{k:Nat}{f:iG}{d qual:ax}{b:bB}{c:List bc}{scope:jI}{n kV h p g ct O:iQ}{an L:Option iG}
  {T:yI}{N i:jr}{j:Sp}(lk:K.lookup f=Y ⟨O,L,.func<|bG d qual b c scope n kV h p an g ct,T⟩)(B:dn K g qual=C)(S:AJ N i scope)
  (len:∀e M Q E,j e M Q E->X0 e=X0 i)
  (z:∀(A:je)(a:List dI)(s:iL)(M:Hp)(e:List V)(Q:VK)(E:XK),B7 k (A.deeper<|aZ qual scope s.heap.objs.size f g)->j e M Q E->
   ∃t,HF (sd l P w K o base N qual scope f g A a s M E) c t/\t {nx:=λ_ u=>Q .A7 u,rt:=Q} (oZ N e) M):
  Bn P w K o base l (k+1) f (bG d qual b c scope n kV h p an g ct) i j:=
 ⟨len,λA a s M _ _ e Q E y v x r m=>UG lk B S y v x r (len _ _ _ _ m) λq=>z A a s M e Q E q m⟩
section
variable {X:Cx}{x:ax}{p a:br}{e:iR}{b:kD}{t:TA}{id T:String}{r:List V->Hp->VK->Prop}
def N0(r:List V->Hp->VK->Prop)(t:TA):TE:=λf O Q=>t f O λd c=>r d c Q
def tN(l:kI X (.builtin id) r)(n:Gl X x)(o:X.mg x=J)(hv:aB x=Y (.builtin id))(k:PA X (e::b) t)(q:x≠"__name__":=by decide)(j:(x==("__debug__":ax))=U:=by decide)
  (m:aa (e::b) X.env=(U,aX e X.env)::aa b X.env:=by rfl)(i:(aK a<|aa b X.env).any (·.1)=U:=by rfl):PE X (.Call (.Name x p) (e::b) [] a) (N0 r t):=by
 intro c s d N Q O h;refine tJ<|qy O n o hv ?_ q j;exact adn (B6 (k a c s d N _ O h) λw s1 M=>by obtain⟨y,f,g,v,u⟩:=M;exact l c s1 d f y w Q g v u) m i
def rm(l:kI X (.type T) r)(n:Gl X x)(o:X.mg x=J)(hv:aB x=Y (.type T))(k:PA X (e::b) t)(q:x≠"__name__":=by decide)(j:(x==("__debug__":ax))=U:=by decide)
  (m:aa (e::b) X.env=(U,aX e X.env)::aa b X.env:=by rfl)(i:(aK a<|aa b X.env).any (·.1)=U:=by rfl):PE X (.Call (.Name x p) (e::b) [] a) (N0 r t):=by
 intro c s d N Q O h;refine tJ<|qy O n o hv ?_ q j;exact Ad (B6 (k a c s d N _ O h) λw s1 M=>by obtain⟨y,f,g,v,u⟩:=M;exact l c s1 d f y w Q g v u) m i
end
end L2
namespace HT
section
open PySem.SeqAt
open PySem.AutoSeq1 (wpAny_loadPart')
open PySem.MeetsSeq PySem.MeetsSeq2 PySem.MeetsSeq3
end
section
variable {a:jh}{w:jc}{A:je}{E:jB}{s:iL}
def aar{t b:iG}{d c:jP}{Q:jB}(y:ka s.heap t d.toArray)(x:ka s.heap b c.toArray)(hv:d≠[])
  (h1:c=[]->Q (.ref t) s)(v:c≠[]->Q (.ref s.heap.objs.size) {s with heap:=s.heap.push {cls:=.type "tuple",data:=.seq (d++c).toArray}})
  (l:(X0 d)+X0 c<=sizeLine):ag (ah a w) A (bL .Add (.ref t)<|.ref b) Q E s:=by
 obtain⟨⟨k,dd,f,r⟩,h,p,n,hd⟩:=id y;obtain⟨⟨z,m,data2,u⟩,j,o,q,g⟩:=id x;simp only at p hd o g;subst p hd o g;have e:d.toArray++c.toArray=(d++c).toArray:=by simp
 by_cases i:c=[]
 .exact DT ⟨_,h,rfl⟩ ⟨_,j,rfl⟩ Hg Hf He Hd (Hc _ _)
   (tuple_addW1 t b d.toArray c.toArray n q dd m r u (by simpa using hv)<|by simp[i]) ⟨h,j,h1 i⟩
 refine DT ⟨_,h,rfl⟩ ⟨_,j,rfl⟩ Hg Hf He Hd (Hc _ _)
  (tuple_addW2 t b d.toArray c.toArray n q dd m r u (by simpa using hv) (by simpa using i)<|by rw[kH,kH];exact l) ⟨h,j,?_⟩
 rw[e];exact v i
noncomputable def BL(n d:Nat):Option Int->Nat
 |none=>d
 |some v=>if v<0 then(v+(n:Int)).toNat else min v.toNat n
theorem XE(n d:Nat):BL n d J=d:=rfl
def Zh(n d k:Nat):BL n d (Y (k:Int))=min k n:=by show(if(k:Int)<0 then((k:Int)+(n:Int)).toNat else min (k:Int).toNat n)=min k n;rw[jo<|by lia,ye]
def Vx(n d:Nat)(hd:d<=n)(o:Option Int):BL n d o<=n:=by
 cases o with
 |none=>exact hd
 |some v=>
  show(if v<0 then(v+(n:Int)).toNat else min v.toNat n)<=n;by_cases hv:v<0
  .rw[iZ hv];lia
  rw[jo hv];exact Nat.min_le_right _ _
def Kb(v:Int)(n d:Nat):(if v<0 then max (v+(n:Int)) 0 else min v (n:Int))=((BL n d (Y v):Nat):Int):=by
 show(if v<0 then max (v+(n:Int)) 0 else min v (n:Int))=(((if v<0 then(v+(n:Int)).toNat else min v.toNat n):Nat):Int)
 by_cases hv:v<0
 .simp only[iZ hv];lia
 simp only[jo hv];lia
def aeC(lo b:Option Int)(n:Nat):cJ lo b 1 (n:Int)=(((BL n 0 lo:Nat):Int),((BL n n b:Nat):Int)):=by
 have h1: ¬((1:Int)<0):=by lia
 unfold cJ;simp only[h1,mB];refine Prod.ext ?_ ?_
 .cases lo with
  |none=>rfl
  |some v=>exact Kb v n 0
 cases b with
 |none=>rfl
 |some v=>exact Kb v n n
def aeg(i j:Nat):bT (i:Int) (j:Int) 1=j-i:=by
 unfold bT;have h1:(1:Int)>0:=by lia
 simp only[h1,ng,Int.ediv_one];split<;>lia
def Aq{v:iQ}{o:Option Int}{Q:Option Int->Shared->Prop}(p:ew v o)(h:Q o s):ag (ah a w) A (ww v) Q E s:=by
 cases p with
 |none=>exact Go h
 |int i t=>exact slicePart_int h
def rk{g:iG}{e f:iQ}{lo b:Option Int}{n:Nat}{Q:Int×Int×Nat->Shared->Prop}(i:s.heap.IsSliceOf g e f .none)(j:ew e lo)(k:ew f b)
  (h:Q (((BL n 0 lo:Nat):Int),1,BL n n b-BL n 0 lo) s):ag (ah a w) A (eW (.ref g)<|pure (n:Int)) Q E s:=by
 obtain⟨os,c,l,d⟩:=id i;unfold eW wE;refine iI<|iI<|pN c d (x:=e) I<|iI<|pN c d (x:=f) I<|iI<|pN c d (x:=.none) I<|iX ?_;refine iI<|Go ?_;show ag _ _ (if((1:Int)==0)=C then _ else _) _ _ s;rw[jo<|by decide];refine iI<|Aq j<|iI<|Aq k<|iI<|iX ?_;show ag _ _ (match cJ lo b 1 (n:Int)with|(lo,b)=>pure (lo,(1:Int),bT lo b 1)) _ _ s;rw[aeC lo b n];show ag _ _ (pure (((BL n 0 lo:Nat):Int),(1:Int),bT ((BL n 0 lo:Nat):Int) ((BL n n b:Nat):Int) 1)) _ _ s;rw[aeg];exact iX h
def Od(b:nB)(i k:Nat):((ap k).filterMap λ(m:Nat)=>b[((i:Int)+(m:Int)*1).toNat]?).toArray=((b.toList.drop i).take k).toArray:=by
 have e:(λ(m:Nat)=>b[((i:Int)+(m:Int)*1).toNat]?)=λm=>b[i+m]?:=by
  funext m;have:((i:Int)+(m:Int)*1).toNat=i+m:=by lia
  rw[this]
 rw[e];have:=pick_run b i k;rw[lf]at this;have c:((λx=>b[x]?)∘λx=>i+x)=λm=>b[i+m]?:=rfl;rw[c]at this;rw[this]
def aec{t e:iG}{items:nB}{g i:iQ}{lo b:Option Int}{Q:jB}(c:ka s.heap t items)(f:s.heap.IsSliceOf e g i .none)(r:ew g lo)(u:ew i b)
  (p: ¬(BL items.size 0 lo=0/\BL items.size items.size b=items.size))
  (h:Q (.ref s.heap.objs.size) {s with heap:=s.heap.push {cls:=.type "tuple",data:=.seq ((items.toList.drop<|BL items.size 0 lo).take<|BL items.size items.size b-BL items.size 0 lo).toArray}})
  (o:items.size<=sizeLine):ag (ah a w) A (d1 (.ref t)<|.ref e) Q E s:=by
 have d:sizeOk (.seq ((items.toList.drop<|BL items.size 0 lo).take<|BL items.size items.size b-BL items.size 0 lo).toArray):=by show((items.toList.drop<|BL items.size 0 lo).take<|BL items.size items.size b-BL items.size 0 lo).toArray.size<=sizeLine;rw[kH,uX,n4,mf];omega
 have x:BL items.size items.size b<=items.size:=Vx _ _ (jZ _) b;obtain⟨os,k,l,v⟩:=id f;have n:s.TypeIs (.ref e) "slice":=⟨os,k,l⟩
 unfold d1
 try with_reducible refine md ?_
 first|refine iI (iX ?_)|skip
 refine iI<|ul c.typeIs (by decide) ?_
 refine iI (tH (name:=bC "__getitem__") c.typeIs BG
  (qj BG c.typeIs MW ?_<|t0 _ _))
 show ag _ _ (cH (.ref t)>>=_) _ _ s;refine iI<|L3 c ?_;refine iI<|wj n ?_;rw[iZ<|by decide];refine iI<|rk f r u ?_
 have j: ¬((((BL items.size 0 lo:Nat):Int)==0&&(1:Int)==1&&(BL items.size items.size b-BL items.size 0 lo)==items.size)=C):=by intro q;rw[ma,ma]at q;have y:((BL items.size 0 lo:Nat):Int)=0:=sU q.1.1;have z:BL items.size items.size b-BL items.size 0 lo=items.size:=sU q.2;exact p ⟨by omega,by omega⟩
 show ag _ _ (if(((BL items.size 0 lo:Nat):Int)==0&&(1:Int)==1&&(BL items.size items.size b-BL items.size 0 lo)==items.size)=C then _ else _) _ _ s;rw[jo j,Od]
 first
  |exact iI (m:=bi _)<|oF (iX ⟨_,rfl,iX h⟩) d
  |exact iI (m:=bi _)<|oF (iI<|iX<|iX ⟨_,rfl,iX h⟩) d
  |exact iI<|iI (m:=bi _)<|oF (iX<|iX ⟨_,rfl,iX h⟩) d
  |exact iI<|iI (m:=bi _)<|oF (iX ⟨_,rfl,iX h⟩) d
end
end HT
namespace L2
abbrev TO:=St->Hp->(Option Int->Hp->Prop)->Prop
def PO(X:Cx)(e:Option Expr)(t:TO):Prop:=
 ∀(a:jF)(s:iL)(b:St)(T:Hp)(Q:Option Int->Hp->Prop),Inv X a b T s->t b T Q->
  ag (ah X.prog X.w) X.A (evalPart e X.env) (λu d=>∃o c,Inv X a b c d/\ew u o/\Q o c) X.xe s
noncomputable def Rr:TO:=λ_ T Q=>Q J T
def YY(t:TE):TO:=λb T Q=>t b T λx a=>∃i,x=.int i/\Q (Y i) a
section
variable {X:Cx}{e:iR}{d:TE}{lo c:Option Expr}{f g:TO}{k j:br}
def RX:PO X J Rr:=by intro a s b O Q T h;rw[J4];exact iX ⟨J,O,T,.none,h⟩
def RW(h:PE X e d):PO X (Y e) (YY d):=by intro a s o O Q T l;rw[evalPart_some];refine B6 (h a s o O _ T l) ?_;rintro u s1 ⟨x,H1,b,n,m⟩;obtain⟨i,rfl,q⟩:=m;obtain⟨t,rfl⟩:=n;exact⟨Y i,H1,b,.int i t,q⟩
def OV(X:Cx)(r:V->Option Int->Option Int->Hp->VK->Prop):Prop:=
 ∀(a:jF)(s:iL)(l:St)(O:Hp)(x:V)(v h i:iQ)(lo c:Option Int)(b:iG)(Q:VK),Inv X a l O s->RelV x v->s.heap.IsSliceOf b h i .none->ew h lo->ew i c->r x lo c O Q->
  ∃T id,gL (.type T) "__getitem__"=pure (Y<|.builtin id)/\s.TypeIs v T/\ag (ah X.prog X.w) X.A (d1 v<|.ref b) (EP X a l Q) X.xe s
def tSl(r:V->Option Int->Option Int->Hp->VK->Prop)(d:TE)(f g:TO):TE:=λa T Q=>d a T λx b=>f a b λl h=>g a h λu i=>r x l u i Q
def Om{r:V->Option Int->Option Int->Hp->VK->Prop}(G:OV X r)(E:PE X e d)(O:PO X lo f)(M:PO X c g):PE X (.Subscript e (.Slice lo c WF j) k) (tSl r d f g):=by intro a s i H Q I h;refine Subscript_<|B6 (E a s i H _ I h) ?_;rintro v s1 ⟨x,H1,t,r1,U'⟩;refine wpAny_Slice<|B6 (O a s1 i H1 _ t U') λm s2 ⟨l,p,y,N,Y'⟩=>B6 (M a s2 i p _ y Y') ?_;rintro n s3 ⟨u,o,z,pu,q3⟩;rw[J4];refine iX ?_;have B:Inv X a i o {s3 with heap:=s3.heap.push {cls:=.type "slice",data:=.fields #[m,n,.none]}}:=z.kept (t':=s3.toks) λb D q=>jW _ q;obtain⟨T,id,C,J,L⟩:=G a {s3 with heap:=s3.heap.push {cls:=.type "slice",data:=.fields #[m,n,.none]}} i o x v m n l u s3.heap.objs.size Q B r1 (Heap.IsSliceOf.new ..) N pu q3;show ag (ah X.prog X.w) X.A (ib e (.Slice lo c WF j) v<|.ref s3.heap.objs.size) (EP X a i Q) X.xe {s3 with heap:=s3.heap.push {cls:=.type "slice",data:=.fields #[m,n,.none]}};exact tail_any (ops:=[.ref s3.heap.objs.size,v]) J C L (by with_unfolding_all rfl)
noncomputable def Gk(a:List V)(lo c:Option Int):List V:=(a.drop<|HT.BL (X0 a) 0 lo).take<|HT.BL (X0 a) (X0 a) c-HT.BL (X0 a) 0 lo
def yU(a:List V)(lo c:Option Int):(Gk a lo c).length<=(X0 a):=by
 unfold Gk;rw[uX,n4]
 lia
def abX(K:ji):V->Option Int->Option Int->Hp->VK->Prop:=λx lo c T Q=>∃a b,x=.ref a/\HE K T a b/\
 ¬(HT.BL (X0 b) 0 lo=0/\HT.BL (X0 b) (X0 b) c=X0 b)/\∀p,T p=J->Q (.ref p) (upd T p<|.tup<|Gk b lo c)
def Vt:OV X (abX X.K):=by
 intro t s T G x v L O lo c E Q M B u z A h;obtain⟨a,l,rfl,y,w,q⟩:=h;cases B;obtain⟨m,r,n,p⟩:=M.tuple y;have i:m.toArray.size=(X0 l):=by rw[kH];exact r.length.symm
 refine⟨"tuple",_,BG.lookup,n.typeIs,?_⟩;refine HT.aec n u z A (by rw[i];exact w) ?_ (by rw[i];exact p);rw[i];refine⟨.ref s.heap.objs.size,_,M.laid (t':=s.toks) (o:=.tup (Gk l lo c)) (λb N q=>jW _ q) (jZ _) ?_,rfl,q _ (M.hok.fresh<|jZ _)⟩;exact⟨lN (yU l lo c) p,_,(r.drop<|HT.BL (X0 l) 0 lo).take<|HT.BL (X0 l) (X0 l) c-HT.BL (X0 l) 0 lo,HI.new _ _⟩
def Zr(K:ji):R2:=λx y T Q=>∃a b i h,x=.ref a/\y=.ref b/\HE K T a i/\HE K T b h/\i≠[]/\(X0 i)+X0 h<=sizeLine/\
 (h=[]->Q (.ref a) T)/\(h≠[]->∀p,T p=J->Q (.ref p) (upd T p<|.tup<|i++h))
def Vals.HX{b:List V}{a:jP}(r:Vals b a):a=[]↔b=[]:=by
 cases r with
 |nil=>simp
 |cons _ _=>simp
def Sq:BP X (bL .Add) (Zr X.K):=by intro n s N H x y v u Q I L O h;obtain⟨a,b,T,G,rfl,rfl,p,r,t,m,C,E⟩:=h;cases L;cases O;obtain⟨A,l,B,_⟩:=I.tuple p;obtain⟨J,i,j,_⟩:=I.tuple r;refine HT.aar B j (λz=>t<|l.HX.mp z) (λz=>⟨.ref a,H,I,rfl,C<|i.HX.mp z⟩) (λz=>?_) (by rw[<-l.length,<-i.length];exact m);refine⟨.ref s.heap.objs.size,_,I.laid (t':=s.toks) (o:=.tup (T++G)) (λb M q=>jW _ q) (jZ _) ?_,rfl,E (λw=>z<|i.HX.mpr w) _ (I.hok.fresh<|jZ _)⟩;exact⟨by rw[nR];exact m,_,l.append i,HI.new _ _⟩
end
noncomputable def FU(n:Nat)(i:Int):Option Nat:=if 0<=i then(if i<n then Y i.toNat else J)else if -(n:Int)<=i then Y (i+n).toNat else J
def Hv{b:Type}(a:List b)(i:Int):Option b:=(FU (X0 a) i).bind λj=>a[j]?
def Ey{n:Nat}{i:Int}{j:Nat}(h:FU n i=Y j):v8 i n=Y j/\j<n/\ -(n:Int)<=i/\i<n:=by
 unfold FU at h;by_cases a:0<=i
 .rw[iZ a]at h;by_cases h1:i<n
  .rw[iZ h1]at h;have e:i.toNat=j:=kT h;exact⟨by rw[Hb a h1,e],by lia,by lia,h1⟩
  rw[jo h1]at h;cases h
 rw[jo a]at h;by_cases h1: -(n:Int)<=i
 .rw[iZ h1]at h;have e:(i+n).toNat=j:=kT h;exact⟨by rw[Ha (by lia) h1,e],by lia,h1,by lia⟩
 rw[jo h1]at h;cases h
def Kk{b:Type}{a:List b}{i:Int}{v:b}(h:Hv a i=Y v):∃j,v8 i (X0 a)=Y j/\a[j]?=Y v/\j<X0 a/\ -((X0 a):Int)<=i/\i<(X0 a):=by
 unfold Hv at h
 cases e:FU (X0 a) i with
 |none=>rw[e]at h;cases h
 |some j=>rw[e]at h;obtain⟨h1,c,d,f⟩:=Ey e;exact⟨j,h1,h,c,d,f⟩
def E5(b:iR):Prop:= ∀o i,n7 b U o i=operate [o,i] (d1 o i)
def Nn(X:Cx)(r:R2):Prop:=
 ∀(c a:iR)(b:jF)(s:iL)(d:St)(T:Hp)(x y:V)(v u:iQ)(Q:VK),Inv X b d T s->RelV x v->RelV y u->r x y T Q->
  n7 a U v u=operate [v,u] (d1 v u)->ag (ah X.prog X.w) X.A (ib c a v u) (EP X b d Q) X.xe s
def MtR(X:Cx)(id:String)(r:V->List V->Hp->VK->Prop):Prop:=
 ∀(a:jF)(s:iL)(d:St)(T:Hp)(x:V)(c:List V)(v:iQ)(b:jP)(Q:VK),Inv X a d T s->RelV x v->Vals c b->r x c T Q->
  ag (ah X.prog X.w) X.A (call (.builtin id) (v::b)) (EP X a d Q) X.xe s
section
variable {X:Cx}{a b:iR}{C tb:TE}{B:br}
def Uv{r:R2}(i:Nn X r)(f:PE X a C)(g:PE X b tb)(j:E5 b):PE X (.Subscript a b B) (LY r C tb):=by intro c s n O Q T h;exact Subscript_<|Xw f g T h λv u m x y d e k l q=>i a b c m n d x y v u Q e k l q<|j _ _
def ab0(K:ji):R2:=λx y T Q=>∃p c i v,x=.ref p/\y=.int i/\Ej K T p c/\Hv c i=Y v/\Q v T
def abZ(K:ji):R2:=λx y T Q=>∃p c i v,x=.ref p/\y=.int i/\HE K T p c/\Hv c i=Y v/\Q v T
def S6:Nn X (ab0 X.K):=by
 intro k g c s o H x y v u Q I M N h n;obtain⟨p,P,i,z,rfl,rfl,G,O,q⟩:=h;cases M;obtain⟨t,rfl⟩:=N;obtain⟨e,r,f,F⟩:=I.list G;obtain⟨j,h1,A,Y,E,L⟩:=Kk O;obtain⟨w,l,J⟩:=r.get A;have T:=r.length;have D:=Es;have fin:EP X c o Q w s:=⟨z,H,I,J,q⟩
 by_cases m:0<=i
 .have d:i.toNat=j:=by rw[Hb m L]at h1;exact kT h1
  exact item_listR f.isList m (by lia) (by rw[d];simpa using l) fin n
 have d:(i+(e.toArray.size:Int)).toNat=j:=by rw[Ha (by lia) E]at h1;rw[kH,<-T];exact kT h1
 exact MV (x:=w) f.isList.typeIs u5.lookup
  (wpAny_getItem_list_neg (Q:=λr U=>r=w/\EP X c o Q r U) f.isList (by lia) (by rw[kH]<;>lia) (by lia) (by rw[d];simpa using l) ⟨rfl,fin⟩) n
def WL:Nn X (abZ X.K):=by
 intro e d c s g H x y v u Q I O T h A;obtain⟨p,D,i,z,rfl,rfl,o,m,q⟩:=h;cases O;obtain⟨t,rfl⟩:=T;obtain⟨E,r,f,Y⟩:=I.tuple o;obtain⟨j,h1,l,J,M,N⟩:=Kk m;obtain⟨w,k,L⟩:=r.get l;have n:=r.length;have U:=Es;have fin:EP X c g Q w s:=⟨z,H,I,L,q⟩
 exact MV (x:=w) f.typeIs BG.lookup
  (getItem_tuple (j:=j) (Q:=λr G=>r=w/\EP X c g Q r G) f (by lia) (by lia) (by rw[kH,<-n];exact h1) (by simpa using k) ⟨rfl,fin⟩) A
def aeq(c:jP)(n j:Nat)(u:iQ):aQ (·.setIfInBounds j u) {cls:=.type "list",data:=.seq c.toArray n}={cls:=.type "list",data:=.seq (c.set j u).toArray n}:=by simp[aQ]
def Inv.lst{d:jF}{f:St}{Q:Hp}{s:iL}{p:iG}{xs:List V}(T:Inv X d f Q s)(h:Q p=Y (.lst xs)):
  ∃(c:jP)(n:Nat),Vals xs c/\s.heap.get? p=Y {cls:=.type "list",data:=.seq c.toArray n}/\(X0 xs)<=sizeLine:=by
 obtain⟨z,c,n,r,e⟩:=T.hok p _ h;exact⟨c,n,r,e,z⟩
def Inv.Ld{d:jF}{l:St}{Q:Hp}{s:iL}{p:iG}{w j:List V}{g c:jP}{n i:Nat}{f:eZ->eZ}(T:Inv X d l Q s)(h:Q p=Y (.lst w))
  (o:s.heap.get? p=Y {cls:=.type "list",data:=.seq g.toArray n})(k:f {cls:=.type "list",data:=.seq g.toArray n}={cls:=.type "list",data:=.seq c.toArray i})(r:Vals j c)(v:(X0 j)<=sizeLine)(t:Nat):
  Inv X d l (upd Q p<|.lst j) {s with heap:=s.heap.update p f,toks:=t}:=by
 have e:(s.heap.update p f).get? p=Y {cls:=.type "list",data:=.seq c.toArray i}:=by rw[tE f o<|by rw[k]<;>rfl,k]
 refine T.write (x:=p) (e:=p) (by rw[h];trivial) (.inl I) (λb u m q=>(DS _ _ (oX m)).trans q) ⟨_,e⟩ ?_;exact⟨v,c,i,r,e⟩
def Zo:V->V->V->Hp->(Hp->Prop)->Prop:=λo i v T Q=>∃p c k j,o=.ref p/\i=.int k/\T p=Y (.lst c)/\FU (X0 c) k=Y j/\Q (upd T p<|.lst<|c.set j v)
def agi:XB X Zo:=by
 intro d s T H o i v N M u Q I E A L h;obtain⟨p,O,k,j,rfl,rfl,x,y,q⟩:=h;cases E;obtain⟨t,rfl⟩:=A;obtain⟨c,n,r,f,z⟩:=I.lst x;obtain⟨h1,G,m,w⟩:=Ey y;have e:=r.length;have J:=Es
 have g:Inv X d T (upd H p<|.lst<|O.set j v) {s with heap:=s.heap.update p (aQ (·.setIfInBounds j u))}:=
  I.Ld x f (aeq c n j u) (r.set L j) (by rw[tD];exact z) s.toks
 by_cases l:0<=k
 .have hk:k.toNat=j:=by rw[Hb l w]at h1;exact kT h1
  exact PySem.W.ki_setAt f l (by lia) (by rw[kH,<-e];exact w) (by rw[hk];exact⟨_,g,q⟩)
 have hk:(k+(c.toArray.size:Int)).toNat=j:=by rw[Ha (by lia) m]at h1;rw[kH,<-e];exact kT h1
 exact PySem.W.ki_setBack f (by lia) (by rw[kH,<-e];exact m) (by lia) (by rw[hk];exact⟨_,g,q⟩)
def ady(lo c:Option Int)(n:Nat):(dz lo c J n).1=((HT.BL n 0 lo:Nat):Int)/\(dz lo c J n).2.1=((HT.BL n n c:Nat):Int)/\(dz lo c J n).2.2=1:=by
 refine⟨?_,?_,rfl⟩
 .cases lo with
  |none=>simp[dz,HT.BL]
  |some i=>
   simp only[dz,HT.BL,kl,show(1:Int)>0 by decide,ng];by_cases h:i<0
   .simp only[h,ng]<;>lia
   simp only[h,mB]<;>lia
 cases c with
 |none=>simp[dz,HT.BL]
 |some i=>
  simp only[dz,HT.BL,kl,show(1:Int)>0 by decide,ng];by_cases h:i<0
  .simp only[h,ng]<;>lia
  simp only[h,mB]<;>lia
def ac6(c:jP)(lo d:Option Int):slicePick c.toArray lo d J=((c.drop<|HT.BL (X0 c) 0 lo).take<|HT.BL (X0 c) (X0 c) d-HT.BL (X0 c) 0 lo).toArray:=by obtain⟨h1,e,f⟩:=ady lo d c.toArray.size;unfold slicePick;rw[h1,e,f];simp only[sliceRange_one,pick_run,kH]<;>rfl
def abY(K:ji):V->Option Int->Option Int->Hp->VK->Prop:=λx lo d T Q=>∃a c,x=.ref a/\Ej K T a c/\∀p,T p=J->Q (.ref p) (upd T p<|.lst<|Gk c lo d)
def Rt:OV X (abY X.K):=by intro g s z O x v w y lo e u Q T p i m n h;obtain⟨a,c,rfl,j,q⟩:=h;cases p;obtain⟨l,r,f,k⟩:=T.list j;have d:=r.length;refine⟨"list",_,u5.lookup,f.isList.typeIs,?_⟩;refine wpAny_getItem_list_slice f.isList i m n .none (by simp) ?_ (by rw[kH]<;>lia);rw[ac6,<-d];refine⟨.ref s.heap.objs.size,_,T.laid (t':=s.toks) (o:=.lst (Gk c lo e)) (λb t q=>jW _ q) (jZ _) ?_,rfl,q _ (T.hok.fresh<|jZ _)⟩;exact⟨lN (yU c lo e) k,_,0,(r.drop<|HT.BL c.length 0 lo).take<|HT.BL c.length c.length e-HT.BL c.length 0 lo,kE _ rfl⟩
def xq:kI X (.builtin "len") (λk O Q=>∃p d,k=[.ref p]/\(Ej X.K O p d\/HE X.K O p d)/\Q (.int d.length) O):=by
 intro j s t O k o Q T r h;obtain⟨p,d,rfl,e,q⟩:=h;obtain⟨u,rfl,m⟩:=qm r;cases m;have n:=Es;rcases e with e|e
 .obtain⟨f,i,g,l⟩:=T.list e;have c:=i.length;exact Calls.call_len_list g.isList (by simp only[kH]<;>lia) ⟨.int d.length,O,T.tok _,⟨s.toks+1,by rw[kH,c]⟩,q⟩
 obtain⟨f,i,g,l⟩:=T.tuple e;have c:=i.length;exact len_tuple g (by simp only[kH]<;>lia) ⟨.int d.length,O,T.tok _,⟨s.toks+1,by rw[kH,c]⟩,q⟩
def xo:kI X (.type "list") (λE M Q=>∃p i,E=[.ref p]/\(Ej X.K M p i\/HE X.K M p i)/\∀l,M l=J->Q (.ref l) (upd M l<|.lst i)):=by
 intro v s O M E T Q N r h;obtain⟨p,i,rfl,k,q⟩:=h;obtain⟨u,rfl,L⟩:=qm r;cases L
 have fin:∀(c:jP),Vals i c->i.length<=sizeLine->∀(d:jb)(f:Nat),(∀b A,s.heap.get? b=Y A->d.get? b=Y A)->
   d.get? s.heap.objs.size=Y {cls:=.type "list",dict:=J,data:=.seq c.toArray f,slots:= #[]}->EP X v O Q (.ref s.heap.objs.size) {s with heap:=d}:=λc g m d f t e=>
  ⟨.ref s.heap.objs.size,_,N.laid (t':=s.toks) t (jZ _) (show A5 X.prog X.w _ d _ (.lst i)from⟨m,c,f,g,e⟩),rfl,q _ (N.hok.fresh<|jZ _)⟩
 rcases k with k|k
 .obtain⟨c,g,z,m⟩:=N.list k;have j:=g.length;obtain⟨o,y,x,n,hd⟩:=z.isList;exact K3 p (.inl I) y x hd (λd f t e=>fin c g m d f t e) (by simp only[kH]<;>omega)
 obtain⟨c,g,z,m⟩:=N.tuple k;have j:=g.length;obtain⟨o,y,x,n,hd⟩:=z;exact K3 p (.inr I) y x hd (λd f t e=>fin c g m d f t e) (by simp only[kH]<;>omega)
def vd:kI X (.type "tuple") (λv O Q=>∃p f,v=[.ref p]/\((Ej X.K O p f/\∀l,O l=J->Q (.ref l) (upd O l<|.tup f))\/(HE X.K O p f/\Q (.ref p) O))):=by
 intro c s x O v E Q T r h;obtain⟨p,f,rfl,h⟩:=h;obtain⟨u,rfl,A⟩:=qm r;cases A;rcases h with⟨i,q⟩|⟨i,q⟩
 .obtain⟨d,k,j,t⟩:=T.list i;have n:=k.length;refine call_tuple_list j.isList (λg z=>?_) (by simp only[kH]<;>lia);have m:Inv X c x O {s with heap:=g}:=T.kept (t':=s.toks) z
  have y:Inv X c x (upd O g.objs.size<|.tup f) {s with heap:=g.push {cls:=.type "tuple",data:=.seq d.toArray}}:=
   m.laid (t':=s.toks) (λb o e=>jW _ e) (jZ _) (show A5 X.prog X.w _ _ _ (.tup f)from⟨t,d,k,HI.new _ _⟩)
  exact⟨.ref g.objs.size,_,y,rfl,q _ (m.hok.fresh<|jZ _)⟩
 obtain⟨d,k,j,t⟩:=T.tuple i;exact call_tuple_same j ⟨.ref p,O,T,rfl,q⟩
def tyV(K:ji)(T:String)(x:V)(Q:Hp):Prop:=match x with
 |.str _=>T="str"
 |.int _=>T="int"
 |.ref p=>(T="list"/\∃d,Ej K Q p d)\/(T="tuple"/\∃o,K.lookup p=Y o/\o.cls=.type "tuple"/\o.dict=J)\/
   (T="dict"/\((∃c,Q p=Y (.dK c))\/∃c,Q p=Y (.dT c)))\/(T="set"/\∃S n,Q p=Y (.set S n))
 |_=>False
def Vl{d:jF}{q:St}{O:Hp}{s:iL}{T:String}{x:V}{v:iQ}(Q:Inv X d q O s)(r:RelV x v)(ty:tyV X.K T x O):
  s.TypeIs v T/\∀a,v=.ref a->∃h,s.heap.get? a=Y h/\h.dict=J:=by
 cases x with
 |str z=>obtain⟨t,rfl⟩:=r;cases(show T="str" from ty);exact⟨typeIs_str s z t,λ_ e=>nomatch e⟩
 |int i=>obtain⟨t,rfl⟩:=r;cases(show T="int" from ty);exact⟨typeIs_int s i t,λ_ e=>nomatch e⟩
 |ref p=>
  cases r;rcases ty with⟨rfl,u,l⟩|⟨rfl,o,hk,k,hd⟩|⟨rfl,hk⟩|⟨rfl,S,n,hk⟩
  .obtain⟨m,_,j,_⟩:=Q.list l;refine⟨j.isList.typeIs,λa e=>?_⟩;cases e;obtain⟨o,n,e,c,hd,_⟩:=j;exact⟨o,e,hd⟩
  .refine⟨⟨o,Q.Eo p o hk,k⟩,λa e=>?_⟩;cases e;exact⟨o,Q.Eo _ o hk,hd⟩
  .have z:∃o,s.heap.get? p=Y o/\o.ExactDict:=by
    rcases hk with⟨g,hk⟩|⟨g,hk⟩
    .obtain⟨_,_,_,_,o,_,_,e,ex,_⟩:=Q.hok p _ hk;exact⟨o,e,ex⟩
    obtain⟨_,_,_,_,o,_,_,e,ex,_⟩:=Q.hok p _ hk;exact⟨o,e,ex⟩
   obtain⟨o,e,ex⟩:=z;refine⟨⟨o,e,ex.1⟩,λa f=>?_⟩;cases f;exact⟨o,e,ex.2.1⟩
  obtain⟨o,_,_,_,e,ex,_⟩:=Q.hok p _ hk;refine⟨⟨o,e,ex.1⟩,λa f=>?_⟩;cases f;exact⟨o,e,ex.2.1⟩
 |_=>exact aW ty
def tBM(K:ji)(T:String)(r:V->List V->Hp->VK->Prop)(to:TE)(t:TA):TE:=λd O Q=>to d O λx c=>tyV K T x c/\t d c λf e=>r x f e Q
variable {o e:iR}{g:kD}{to:TE}{t:TA}{d:ax}{m A:br}{T id:String}{r:V->List V->Hp->VK->Prop}
abbrev Ly(X:Cx)(p:br)(g:kD):Prop:=((aK p<|aa g X.env).all (λx=>!x.1)&&(fk p<|dA [] X.env).all (λx=>x.1.isSome)&&decide (X0 g+([]:List vu).length+(if([]:List vu).isEmpty then 0 else 1)<30))=WP
abbrev Ma(X:Cx)(o:iR)(d:ax):Prop:=attributeBase o d X.env (aX o X.env)=aX o X.env
def Jy(J:PlainAttrs T)(slot:Slot T d id)(f:sK (.builtin id)=pure (.type "method_descriptor"))(y:MtR X id r)(z:PE X o to)(w:PA X (e::g) t)
  (O:Ma X o d:=by rfl)
  (G:Ly X A (e::g):=by rfl)
  (L:(m.endLine==A.line)=WP:=by rfl)(E:aa (e::g) X.env=(U,aX e X.env)::aa g X.env:=by rfl)(q:(aK A<|aa g X.env).any (·.1)=U:=by rfl):
  PE X (.Call (.Attribute o d m) (e::g) [] A) (tBM X.K T r to t):=by
 intro c s i H Q I h;refine wpAny_Call_method_late O G L XV<|B6 (z c s i H _ I h) ?_;rintro v s1 ⟨x,H1,j,l,ty,M⟩;obtain⟨h1,u⟩:=Vl j l ty;refine⟨T,id,J,slot,f,h1,u,?_⟩;have k:=w A c s1 i H1 _ j M;rw[E]at k ⊢;refine Calls.callWith_builtin (by show(U||(aK A<|aa g X.env).any (·.1))=U;rw[q]<;>rfl)<|MU ?_;exact B6 k λus Y' ⟨vs,n,p,U',N⟩=>y c Y' i n x vs v us Q p l U' N
end
def Oc(X:Cx)(id:String)(r:V->List V->Hp->VK->Prop):Prop:=
 ∀(a:jF)(s:iL)(d:St)(T:Hp)(x:V)(c:List V)(v:iQ)(b:jP)(Q:VK),Inv X a d T s->RelV x v->Vals c b->r x c T Q->
  ag (ah X.prog X.w) X.A (call (.builtin id) (v::b)) (EP X a d Q) X.xe s
def Vals.one{x:V}{a:jP}:Vals [x] a->Vl1 x a:=qm
theorem Vals.eraseIdx:∀{b:List V}{a:jP}(i:Nat),Vals b a->Vals (b.eraseIdx i) (a.eraseIdx i)
 |_,_,_,.nil=>.nil
 |_,_,0,.cons _ t=>t
 |_,_,i+1,.cons r t=>.cons r (Vals.eraseIdx i t)
theorem CH{a:Type}:∀(l:List a)(i:Nat),(l.eraseIdx i).length<=X0 l
 |[],_=>jZ _
 |_::_,0=>Ac _
 |_::r,i+1=>Nat.succ_le_succ<|CH r i
section
variable {X:Cx}{pins:jF}{σ:St}{H:Hp}{s:iL}{l b:iG}{xs ys zs:List V}
def Inv.L5{a its':jP}{n:Nat}{f:Array iQ->Array iQ}{j:Nat}(T:Inv X pins σ H s)(c:H l=Y (.lst xs))
  (e:s.heap.get? l=Y {cls:=.type "list",data:=.seq a.toArray n})(g:f a.toArray=its'.toArray)(hv:Vals ys its')(i:(X0 ys)<=sizeLine):
  Inv X pins σ (upd H l<|.lst ys) {s with heap:=s.heap.update l<|aQ f,toks:=j}:=by
 have q:=PySem.IsL.update e f;rw[g]at q;refine T.write (x:=l) (e:=l) (by rw[c];exact trivial) (.inl I) (λk u d h=>(DS s.heap (aQ f)<|oX d).trans h) ⟨_,q⟩ ?_;exact⟨i,its',_,hv,q⟩
def Inv.NH{a:jP}{t':Nat}(T:Inv X pins σ H s)(hv:Vals ys a)(c:(X0 ys)<=sizeLine):
  Inv X pins σ (upd H s.heap.objs.size<|.lst ys) {s with heap:=s.heap.push {cls:=.type "list",data:=.seq a.toArray},toks:=t'}:=
 T.laid (λ_ _ q=>jW _ q) (jZ _) ⟨c,a,0,hv,kE _ rfl⟩
def Inv.fresh(T:Inv X pins σ H s):H s.heap.objs.size=J:=T.hok.fresh<|jZ _
inductive LsM(h:jb)(l:iG)(xs:List V):Prop where
 |mk (_:(X0 xs)<=sizeLine) (its:jP) (n:Nat) (_:Vals xs its) (_:(X0 xs)=X0 its) (_:h.get? l=Wp {cls:=.type "list",data:=.seq its.toArray n})
def Inv.K6(T:Inv X pins σ H s)(c:H l=Y (.lst xs)):LsM s.heap l xs:=by obtain⟨z,a,n,r,e⟩:=T.hok l _ c;exact⟨z,a,n,r,r.length,e⟩
def agF{n:Nat}(h:n<=sizeLine):c6 n=U:=by unfold c6;exact lT (by lia)
end
section
variable {X:Cx}
def RG:V->List V->Hp->VK->Prop:=λx b T Q=>∃l a y,x=.ref l/\b=[y]/\T l=Y (.lst a)/\(X0 a)<sizeLine/\Q .A7 (upd T l<|.lst<|a++[y])
def afQ:Oc X "list.append" RG:=by
 intro c s p O x m v k Q T g f h;obtain⟨l,o,y,rfl,rfl,b,j,q⟩:=h;cases g;obtain⟨u,rfl,d⟩:=f.one;obtain⟨z,a,n,r,i,e⟩:=T.K6 b;refine yd F.slot_list_append ⟨_,e,rfl⟩ MT (MS _ _) (iB l a.toArray n u<|by rw[kH];lia) ⟨e,?_⟩;refine⟨.A7,_,T.L5 (its':=a++[u]) b e (by simp) (r.append<|.cons d .nil) ?_,rfl,q⟩;rw[nR,yc]
 lia
def RF:V->List V->Hp->VK->Prop:=λx d T Q=>∃l b a c,x=.ref l/\d=[.ref b]/\T l=Y (.lst a)/\T b=Y (.lst c)/\(X0 a)+X0 c<=sizeLine/\Q .A7 (upd T l<|.lst<|a++c)
def afP:Oc X "list.extend" RF:=by
 intro i s G H x E v B Q M w t h;obtain⟨l,b,L,T,rfl,rfl,g,k,A,q⟩:=h;cases w;obtain⟨u,rfl,p⟩:=t.one;cases p;obtain⟨z,a,n,r,y,e⟩:=M.K6 g;obtain⟨O,d,m,o,N,j⟩:=M.K6 k;have f:a.toArray.size+d.toArray.size<=sizeLine:=by rw[kH,kH];lia
 have c: ¬(!a.toArray.isEmpty&&c6 (a.toArray.size+d.toArray.size))=C:=by rw[agF f,gm];exact kR
 refine yd F.slot_list_extend ⟨_,e,rfl⟩ F.entry_list_extend (F.args_list_extend_2 _ _)
  (AutoSeq1.list_extend_list_list_0 l a.toArray n b d.toArray m c (by rw[kH];lia)<|by lia) ⟨e,j,?_⟩
 refine⟨.A7,_,M.L5 (its':=a++d) g e (by simp) (r.append o) ?_,rfl,q⟩;rw[nR]
 lia
def VI:V->List V->Hp->VK->Prop:=λx b T Q=>∃l a i k y,x=.ref l/\b=[.int i]/\T l=Y (.lst a)/\ -(2^63)<=i/\i<2^63/\v8 i (X0 a)=Y k/\a[k]?=Y y/\Q y (upd T l<|.lst<|a.eraseIdx k)
def agI:Oc X "list.pop" VI:=by
 intro c s L N x E v T Q O A p h;obtain⟨l,B,i,k,y,rfl,rfl,b,h1,d,hk,j,q⟩:=h;cases A;obtain⟨u,rfl,o⟩:=p.one;obtain⟨t,rfl⟩:=o;obtain⟨z,a,n,r,f,e⟩:=O.K6 b;obtain⟨w,g,m⟩:=r.get j
 refine yd F.slot_list_pop ⟨_,e,rfl⟩ F.entry_list_pop (F.args_list_pop_2 _ _)
  (MeetsSeq.list_pop_at l a.toArray n i t k w (fitsIndex_both h1 d) (by rw[kH,<-f];exact hk) (by rw[<-nK];exact g)<|by rw[kH];lia) ⟨e,?_⟩
 refine⟨y,_,O.L5 (its':=a.eraseIdx k) b e ?_ (r.eraseIdx k) ?_,m,q⟩
 .show a.toArray.eraseIdxIfInBounds k=(a.eraseIdx k).toArray;rw[List.eraseIdxIfInBounds_toArray]
 have:=CH B k
 lia
end
section
variable {a:jh}{w:jc}{A:je}{E:jB}{s:iL}
end
section
variable {X:Cx}
end
end L2
namespace Att
open PySem.W PySem.Calls
def zg{P:Params}{h:jb}:∀(c:iO)(d:jP),WellAll P h d (c.map WData.int)->d7 d c:=by
 intro c
 induction c with
 |nil=>intro d w;rw[oW]at w;cases w;exact .nil
 |cons n c e=>
  intro d w;rw[kc]at w
  cases w with
  |cons a b=>
   cases a;exact .cons _ _ (e _ b)
def ae3{l:OpenLaw}{n:Nat}(v:l.most=Y n){P:Params}{h:jb}{b:List WData}{e:jP}
  (m:l.row.toRowW.claim.pre b=C)(s:WellAll P h e b):
  ∃a k c,e=[bR a]/\b=[WData.list<|c.map WData.int]/\h.get? a=Y {cls:=.type "list",data:=.seq k.toArray}/\d7 k c/\(X0 c)<=n:=by
 have p:WShape.hasAll [] b [.list .int]=C:=(pre_splitW m).1;have j:l.pre.holds [] {args:=b}=C:=(pre_splitW m).2;obtain⟨d,r,rfl,h1,t⟩:=hasAllW_cons p;obtain rfl:=hasAllW_nil t;obtain⟨A,rfl,u⟩:=hasW_list h1;obtain⟨c,rfl⟩:=items_int u
 have f:(X0 c)<=n:=by
  unfold OpenLaw.pre at j
  have g:(WTm.not<|.lt (.lit<|.int (n:Int))<|.len<|.arg 0).holds [] {args:=[.list<|c.map .int]}=C:=by have g:=(holds_andW j).1;rw[v]at g;exact g
  have i:=condW_of g<|w_not<|w_lt w_lit<|w_len_list<|w_arg I;rw[ke]at i;refine q9 λq=>?_;have x:(n:Int)<(((X0 c):Nat):Int):=by omega
  first
   |(rw[oV x]at i;exact absurd i<|by decide)
   |(simp at i;omega)
 cases s with
 |cons y z=>
  cases z
  cases y with
  |list w o=>exact⟨_,_,c,rfl,rfl,w,zg c _ o,f⟩
def afb(l:OpenLaw)(a:List WData):l.row.toRowW.claim.post a (.bool C) a=C:=
 postW_of (r:=l.row.toRowW) (X:=C==C)
  (show WShape.has [] (.bool C) .bool=C by first|rfl|decide|simp[WShape.has,WShape.arms,WShape.armsAll])
  (show(WTm.eq .res<|.lit<|.bool C).value [] {args:=a,res:=Y<|.bool C,after:=a}=Y (.bool<|C==C)from w_eq_bool (w_res I) w_lit) rfl
def TZ{l:OpenLaw}{n:Nat}{q:jh}{c:jr}{x:(ax->Option iQ)->jb->Prop}{y:jc->jb->Prop}{d:DefRec}
  (U:l.most=Wp n)(H:d.params.defaults=[])
  (call:∀(w:jc)(e b:iL)(m u:lI)(j:iG)(o:eZ)(v cd g:iQ)(a:iG)(i:jP)(p:iO),
   Ground q c [] x w e m u b.heap->y w b.heap->
   b.heap.get? j=Wp o->o.data=.func (docDef d.name d.params d.body d.scope v cd g)->b.heap.CodeRec cd d.name->m d.name=Wp (.ref j)->
   b.heap.get? a=Wp {cls:=.type "list",data:=.seq i.toArray}->d7 i p->X0 p<=n->b.gens= #[]->
   ca (ah l.prog w) f6 (.call (.ref j) ⟨[.ref a],[]⟩) (λr s=>r=.ok (.ret<|.bool WP)/\OldK b.heap s.heap/\s.os=b.os/\ef s.gens) b):
  WalkO q c x y l.row.toRowW d [] (λf i=>wl f i):=by
 intro w e b m u G Y j o v cd g I kV D hd P A t J z C as R B K L M;obtain rfl:I=.none:=Dflts.none A H;obtain rfl:kV=.none:=Dflts.noKw A;obtain⟨a,i,p,rfl,rfl,E,h,k⟩:=ae3 U R L;refine enter_call<|sy (call w e b m u j o v cd g a i p G Y D (fd_plain hd) P t E h k J) λr s F=>?_;obtain⟨rfl,O,Q,T⟩:=F;exact⟨.inl ⟨.bool WP,.bool WP,[],rfl,λ_=>rfl,.bool WP,afb l _,λ_=>⟨c4,λ_ N=>(nomatch N)⟩⟩,O,Q,T⟩
section
variable {a:jh}{w:jc}{A:je}{E:jB}{s:iL}{K:Frag}
end
end Att
namespace L2
def afg{b:jP}{a:iO}(h:d7 b a):Vals (a.map V.int) b:=by
 induction h with
 |nil=>exact .nil
 |cons n t h c=>exact .cons ⟨t,rfl⟩ c
noncomputable def qv(s:bc):Arguments:=match s with
 |.FunctionDef _ a _ _ _ _ _ _ _ _=>a
 |_=>{posonlyargs:=[],args:=[],vararg:=J,kwonlyargs:=[],kw_defaults:=[],kwarg:=J,defaults:=[]}
noncomputable def mn(s:bc):List Stmt:=match s with
 |.FunctionDef _ _ b _ _ _ _ _ _ _=>b
 |_=>[]
noncomputable def iT(s:bc):Scope:=match s with
 |.FunctionDef _ _ _ _ _ _ a _ _ _=>a
 |_=>{kind:=.function,names:=[],isGenerator:=U,isCoroutine:=U}
abbrev Fx:Iu:=λ_ _ _ _ _ _=>False
abbrev E0:XK:=λ_ _ _=>False
def Zy{X:Cx}:E6 Fx X E0:=λ_ _ _ _ _ _ _ h=>h.elim
structure Ii(K:ji)(x qual:ax)(st:bc)(f:iG)(fd:mG):Prop where
 ex:∃(oc:iQ)(od:Option iG)(kV doc pm:iQ)(an:Option iG)(b7 ct:iQ)(o7:yI),
  fd=bG x qual (qv st) (mn st) (iT st) .none kV doc pm an b7 ct/\K.lookup f=Wp ⟨oc,od,.func fd,o7⟩/\dn K b7 qual=WP
 kp:bP K (.ref f)=WP
section
variable {P:jh}{w:jc}{K:ji}{a:lI}{base:jb}
def Ii.ok{x qual:ax}{st:bc}{f:iG}{g:mG}{N d:jr}{k:Nat}{e:Sp}(F:Ii K x qual st f g)(S:AJ N d (iT st))(len:∀vs T Q E,e vs T Q E->X0 vs=X0 d)
  (n:∀(c:iQ)(A:je)(b:List dI)(s:iL)(T:Hp)(vs:List V)(Q:VK)(E:XK),B7 k (A.deeper<|aZ qual (iT st) s.heap.objs.size f c)->e vs T Q E->
   ∃t,HF (sd Fx P w K a base N qual (iT st) f c A b s T E).IE (mn st) t/\t {nx:=λ_ i=>Q .A7 i,rt:=Q} (oZ N vs) T):Bn P w K a base Fx (k+1) f g d e:=by
 obtain⟨r,u,kV,l,v,an,c,ct,p,rfl,lk,o⟩:=F.ex;refine P7 lk o S len λA b s T vs Q E m j=>?_;obtain⟨t,h,q⟩:=n c A b s T vs Q E m j;exact⟨t,h.IE,q⟩
def Ii.binds{x qual:ax}{st:bc}{f:iG}{i:mG}{e:jr}(F:Ii K x qual st f i)
  (h:∀(kV b d:iQ)(an:Option iG)(c ct:iQ)(g:jP),X0 g=X0 e->fj (bG x qual (qv st) (mn st) (iT st) .none kV b d an c ct) ⟨g,[]⟩=pure (e.zip g)):Binds K i e []:=by
 obtain⟨l,m,kV,b,d,an,c,ct,k,rfl,lk,j⟩:=F.ex;exact .all<|h kV b d an c ct
def PY{x qual:ax}{st:bc}{f:iG}{h:iQ}{i an:Option iG}{g:yI}{kV b e d ct:iQ}(l:K.lookup f=Y ⟨h,i,.func<|bG x qual (qv st) (mn st) (iT st) .none kV b e an d ct,g⟩)
  (c:dn K d qual=C)(k:bP K (.ref f)=C):Ii K x qual st f (bG x qual (qv st) (mn st) (iT st) .none kV b e an d ct):=⟨⟨h,i,kV,b,e,an,d,ct,g,rfl,l,c⟩,k⟩
end
section
variable {X:Cx}
end
def WN{A B:Prop}(h:B):if U=C then A else B:=by rw[jo kR];exact h
def WM{A B:Prop}(h:A):if C=C then A else B:=by rw[iZ I];exact h
theorem vZ(b:dI):∀(l:List (ax×dE))(i:kW),(∀x∈l,x.2=.free->∃c,b.cells.lookup x.1=Y c)->(∀x c,i.lookup x=Y c->b.cells.lookup x=Y c)->
  ∃g,(forIn l i λx r=>if x.2==aL then do let a <-FM b x.1;pure (bD ((x.1,a)::r))else pure (bD r))=(pure g:dP (List<|ax×iG))/\
   (∀x c,g.lookup x=Y c->b.cells.lookup x=Y c)/\(∀x,(x,aL)∈l->∃c,g.lookup x=Y c)/\∀x c,i.lookup x=Y c->∃c,g.lookup x=Y c
 |[],i,_,o=>⟨i,rfl,o,λx h=>by simp at h,λx c h=>⟨c,h⟩⟩
 |(n,k)::l,i,h,o=>by
  by_cases hk:k=.free
  .subst hk;obtain⟨c,e⟩:=h (n,.free) la I;have s:b.cells.lookup n=Y c:=e
   obtain⟨g,h1,p,q,m⟩:=vZ b l ((n,c)::i) (λx f=>h x<|jU _ f) (λx d f=>by
    rw[qi]at f
    cases j:x==n with
    |true=>rw[j]at f;have:=sU j;subst this;cases f;exact s
    |false=>rw[j]at f;exact o x d f)
   refine⟨g,?_,p,λx f=>?_,λx d f=>?_⟩
   .rw[ey];have:FM b n=pure c:=by unfold FM;rw[s]
    simp -iota only[this,x0,ng];exact h1
   .rcases nS.mp f with z|z
    .cases z;exact m n c (by simp)
    exact q x z
   cases j:x==n
   .exact m x d (by rw[qi,j];exact f)
   have:=sU j;subst this;exact m x c (by simp)
  obtain⟨g,h1,p,q,m⟩:=vZ b l i (λx f=>h x<|jU _ f) o;have j:(k==aL)=U:=by simpa using hk
  refine⟨g,?_,p,λx f=>?_,m⟩
  .rw[ey];simp -iota only[j,mB,x0];exact h1
  rcases nS.mp f with z|z
  .cases z;exact absurd I hk
  exact q x z
def vY(b:dI)(scope:jI)(h:∀x∈scope.names,x.2=.free->∃c,b.cells.lookup x.1=Y c):
  ∃d,tv scope b=pure d/\(∀x c,d.lookup x=Y c->b.cells.lookup x=Y c)/\∀x,(x,aL)∈scope.names->∃c,d.lookup x=Y c:=by
 obtain⟨d,h1,e,f,_⟩:=vZ b scope.names [] h (λx c g=>by simp at g);refine⟨d,?_,e,f⟩;unfold tv;have:(forIn scope.names ([]:List (ax×iG)) λx r=>if x.2==aL then do let a <-FM b x.1;pure (bD ((x.1,a)::r))else pure (bD r))=(pure d:dP (List<|ax×iG)):=h1
 first
  |exact(oo (· >>=λr=>pure r) this).trans (x0 _ _)
  |(simp -iota;exact this)
  |exact this
theorem nA:∀(names:List (ax×dE))(n:Nat)(a:kW),bw n names a=bw n names []++a
 |[],_,_=>rfl
 |(x,k)::r,n,a=>by
  unfold bw;split
  .rw[nA r (n+1) ((x,n)::a),nA r (n+1) [(x,n)],pM];rfl
  exact nA r n a
theorem qC{x:ax}{c:iG}:∀(names:List (ax×dE))(n:Nat),(x,c)∈bw n names []->(x,cy)∈names
 |[],_,h=>by simp[bw]at h
 |(y,k)::r,n,h=>by
  unfold bw at h;split at h
  .rename_i hk;rw[nA]at h;rcases qX.mp h with z|z
   .exact jU _ (qC r _ z)
   cases Kp.mp z;rw[sU hk];exact la
  exact jU _ (qC r _ h)
structure Nu(cells:kW)(scope:jI)(C:iG)(h:jb)(cl:kW):Prop where
 one:∀x c,cl.lookup x=Wp c->(cells.lookup x=Wp c/\scope.names.lookup x≠Wp .cell)\/(C<c/\scope.names.lookup x=Wp .cell/\h.IsCell c WF)
 all:∀x,(x,aL)∈scope.names\/(x,cy)∈scope.names->∃c,cl.lookup x=Wp c
 inj:∀x y c,C<c->cl.lookup x=Wp c->cl.lookup y=Wp c->(∀z d,cells.lookup z=Wp d->d<C)->x=y
 ex:∀x c,cl.lookup x=Wp c->cells.lookup x=Wp c\/C<c
def SD{M:f8}{A:je}{E:jB}{s:iL}{scope:jI}{globals:iG}{a:dI}{g:kW}{qual:ax}{Q:dI->Shared->Prop}(v:∀y∈scope.names,y.2=.cell->scope.names.lookup y.1=Y .cell)
  (n:∀x c,g.lookup x=Y c->a.cells.lookup x=Y c)(L:∀x,(x,aL)∈scope.names->∃c,g.lookup x=Y c)
  (T:∀l t,l.Ns s.heap.objs.size (λ_=>J)->(∀b o,s.heap.get? b=Y o->l.get? b=Y o)->Nu a.cells scope s.heap.objs.size l t->
   Q {scope,locals:=s.heap.objs.size,globals,cells:=t,qual,func:=J,code:=a.code,frame:=a.frame,builtins:=a.builtins} {s with heap:=l}):
  ag M A (gM scope globals g [] qual J .none<|Y a) Q E s:=by
 simp -iota only[gM,hU,ng];refine iI<|SI ?_;refine iI<|wpAny_layCells _ (λw k j=>by cases p:k==cy<;>simp[p]) _ _ _ _ ?_;have ok:=cellsFrom_ok scope.names (s.heap.push {cls:=.type "dict",data:=.dict #[]}) (s.heap.objs.size+1) [] ⟨λ_ _ N=>(nomatch N),c4⟩ (by rw[qO];exact jZ _);rw[qO]at ok;rw[show({s with heap:=s.heap.push {cls:=.type "dict",data:=.dict #[]}}:Shared).heap.objs.size=s.heap.objs.size+1 from qO ..];simp -iota;have i:∀x,(bw (s.heap.objs.size+1) scope.names g).lookup x=((bw (s.heap.objs.size+1) scope.names []).lookup x).or (g.lookup x):=λx=>by rw[nA,List.lookup_append]
 have f:∀x c,(bw (s.heap.objs.size+1) scope.names g).lookup x=Y c->(g.lookup x=Y c/\(bw (s.heap.objs.size+1) scope.names []).lookup x=J)\/(x,c)∈bw (s.heap.objs.size+1) scope.names []:=λx c h=>by
  rw[i]at h
  cases q:(bw (s.heap.objs.size+1) scope.names []).lookup x with
  |none=>rw[q]at h;exact .inl ⟨h,rfl⟩
  |some d=>rw[q]at h;cases h;exact .inr<|qV q
 have lo:∀{x:ax}{c:iG},(x,c)∈bw (s.heap.objs.size+1) scope.names []->s.heap.objs.size<c:=λ{x c} h=>(ok.empty x c h).2;refine iI<|iX<|iX<|T _ _ ((Heap.Ns.new s.heap<|.type "dict").keeps<|y7 _ _) (λb o e=>y7 _ _ b o (jW _ e)) ⟨λx c h=>?_,λx h=>?_,λx y c m h1 B u=>?_,λx c h=>?_⟩
 .rcases f x c h with⟨z,O⟩|z
  .refine .inl ⟨n x c z,λe=>?_⟩;have:=DU scope.names (s.heap.objs.size+1) []<|.inl e;rw[O]at this;cases this
  exact .inr ⟨lo z,v _ (qC _ _ z) rfl,(ok.empty x c z).1⟩
 .rcases h with h|h
  .obtain⟨c,m⟩:=L x h;rw[i,m];cases(bw (s.heap.objs.size+1) scope.names []).lookup x<;>exact⟨_,rfl⟩
  have:=DU scope.names (s.heap.objs.size+1) g<|.inl<|v _ h rfl;exact Ko.mp this
 .rcases f x c h1 with⟨z,_⟩|z
  .exact absurd (u x c<|n x c z) (G9 m)
  rcases f y c B with⟨r,_⟩|r
  .exact absurd (u y c<|n y c r) (G9 m)
  exact No ok.apart z r
 rcases f x c h with⟨z,_⟩|z
 .exact .inl (n x c z)
 exact .inr (lo z)
noncomputable def Cx.comp(X:Cx)(d:jr)(scope:jI)(e:kW)(T:iG)(f:iL)(c:Hp)(fp:kP)(a:jF):Cx:=
 {X with N:=d,s₀:=f,H₀:=c,env:=compEnvC scope e T X.env,outer:=X.stack,stack:=X.stack,ex:=fp,fn:=λx=>scope.names.lookup x==Y .cell,pn:=X.pn++a,xe:=λ_ _=>False}
abbrev TB:=St->Hp->(St->Hp->Prop)->Prop
def PB(X:Cx)(code:dP Unit)(t:TB):Prop:=
 ∀(a:jF)(s:iL)(d:St)(T:Hp)(N:St->Hp->Prop),Inv X a d T s->t d T N->
  ag (ah X.prog X.w) X.A code (λ_ e=>∃b c,Inv X a b c e/\N b c) X.xe s
def KR(X:Cx)(b:kD)(t:TT):Prop:=
 ∀(a:jF)(s:iL)(d:St)(T:Hp)(Q:Bool->Hp->Prop),Inv X a d T s->t d T Q->
  ag (ah X.prog X.w) X.A (forIn b C λc r=>if r=C then do let ok <-isTrue c X.env (aX c X.env);pure (bD ok)else pure (bD r)) (TP X a d Q) X.xe s
noncomputable def YW:TT:=λ_ T Q=>Q C T
section
variable {X:Cx}
def RZ:KR X [] YW:=λa s b O Q T h=>wpAny_tests_nil ⟨O,T,h⟩
def RY{c:iR}{t:TT}(h:PT X c t):KR X [c] t:=λa s d O Q T b=>wpAny_tests_one<|h a s d O Q T b
noncomputable def jX(e:iR)(depth:Nat)(acc:iQ)(a:dI):dP Unit:=
 match(bS e)[depth+1]? with
 |some c=>do
  let x <-aX c.iter a
  dv c.iter.pos
  let x <-aG c.iter a x
  let _ <-runOwn (.compStart e (depth+1) (<-b5 [x] (c7 x)) acc a) a
 |none=>match e with
  |.ListComp b _ _ _=>do let _ <-call (.builtin "list.append") [acc,<-aX b a]
  |.SetComp b _ _ _=>do let v <-aX b a;dv b.pos;let _ <-call (.builtin "set.add") [acc,v]
  |_=>n6 "no"
def Ja(T:It)(g:TG)(n:TT)(l:TB):TB:=λd Q N=>∃W:Nat->Nat->St->Hp->Prop,(∃m,W 0 m d Q)/\∀i m d Q,W i m d Q->
 (T.stop i Q/\N d Q)\/(T.go i Q/\∀x f,T.yld i Q x f->g x d f λa j=>n a j λb h=>if b=C then l a h λe k=>∃c,c<m/\W (i+1) c e k else ∃c,c<m/\W (i+1) c a h)
def adE(e:iR)(depth:Nat)(it f:iQ)(b:dI)(g:pJ)(o:(∃d a i p,e=.ListComp d a i p)\/(∃d a i p,e=.SetComp d a i p))
  (j:(bS e)[depth]?=Y g)(n:g.is_async=0)(k:∀h,(bS e)[depth+1]?=Y h->h.is_async=0):
  o6 e depth it f b=(do
   dv g.iter.pos
   match <-cp it with
   |none=>pure<|.done .next
   |some v=>
    eQ g.target it v
    cu g.target b v
    let ok <-forIn g.ifs C λc r=>if r=C then do let ok <-isTrue c b (aX c b);pure (bD ok)else pure (bD r)
    if ok=C then jX e depth f b
    again (.compLoop e depth it f b)):=by
 rcases o with⟨d,a,i,p,rfl⟩|⟨d,a,i,p,rfl⟩
 .have l:a[depth]?=Y g:=j;unfold o6 jX;simp only[clausesOf.eq_def]at j k ⊢;rw[l];simp only[n]
  cases m:a[depth+1]? with
  |none=>rfl
  |some h=>
   have:=k h m;simp only[this,yb,kX,mB]
   congr 1;funext _;congr 1;funext r
   cases r with
   |none=>rfl
   |some v=>
    dsimp only
    congr 1;funext _;congr 1;funext _;congr 1;funext ok
    cases ok
    .rfl
    simp only[vB];rfl
 have l:a[depth]?=Y g:=j;unfold o6 jX;simp only[clausesOf.eq_def]at j k ⊢;rw[l];simp only[n]
 cases m:a[depth+1]? with
 |none=>rfl
 |some h=>
  have:=k h m;simp only[this,yb,kX,mB]
  congr 1;funext _;congr 1;funext r
  cases r with
  |none=>rfl
  |some v=>
   dsimp only
   congr 1;funext _;congr 1;funext _;congr 1;funext ok
   cases ok
   .rfl
   simp only[vB];rfl
def Qj
  (d:(∃b a c p,e=.ListComp b a c p)\/(∃b a c p,e=.SetComp b a c p))
  (h:ag (ah prog w) A ((o6 e depth it acc env).onRaise (λx=>do io x env;theTreesLotGoes x)) Q E s):
  ag (ah prog w) (A.under<|.compLoop e depth it acc env) ((ah prog w).den<|.compLoop e depth it acc env) Q E s:=by
 rcases d with⟨b,a,c,p,rfl⟩|⟨b,a,c,p,rfl⟩
 .exact h
 exact h
def JI{e:iR}{depth:Nat}{acc:iQ}{c:pJ}{g:TG}{ti:TT}{tb:TB}{J:It}{y:kP}{it:iG}{tn:Nat->jb->Prop}(aI:X.xe=λ_ _=>False)(hc:X.calm=C)
  (hl:(∃B k sc p,e=.ListComp B k sc p)\/(∃B k sc p,e=.SetComp B k sc p))(hg:(bS e)[depth]?=Y c)(ha:c.is_async=0)(j4:∀g',(bS e)[depth+1]?=Y g'->g'.is_async=0)
  (T:Turn X.prog X.w X.K c.target J y it tn)(pg:PG X c.target g)(bx:KR X c.ifs ti)(pb:PB X (jX e depth acc X.env) tb)
  {a:jF}{s:iL}{σ:St}{H:Hp}{N:St->Hp->Prop}(I:Inv X a σ H s)(f2:∀b∈y,uh X a H b)(st:tn 0 s.heap)(h:Ja J g ti tb σ H N):
  ca (ah X.prog X.w) X.A (.compLoop e depth (.ref it) acc X.env) (λr Y'=>r=.ok .next/\∃f j,Inv X a f j Y'/\(∀b∈y,j b=WF)/\N f j) s:=by
 obtain⟨W,⟨m0,w0⟩,turn⟩:=h;have R:∀{j:Hp},(∀b∈y,j b=WF)->∀b∈y,uh X a j b:=λhn b v=>⟨hn b v,(f2 b v).2⟩
 have D:∀{α:Type}{t:dP α}{Q:α->Shared->Prop}{E:jB}{s:iL},ag (ah X.prog X.w) X.A t Q X.xe s->ag (ah X.prog X.w) X.A t Q E s:=λh=>oq h (λ_ _ x=>x) λ_ _ z=>by rw[aI]at z;exact z.elim
 refine codeAny_loop XV (λn Y'=>∃i f j,Inv X a f j Y'/\tn i Y'.heap/\(∀b∈y,j b=WF)/\W i n f j) (λn Z hI=>?_) m0 ⟨0,σ,H,I,st,λb v=>(f2 b v).1,w0⟩;refine Qj hl ?_;refine wpAny_noted ?_;rw[adE e depth (.ref it) acc X.env c hl hg ha j4];obtain⟨i,l,G,S,V,F,w3⟩:=hI;refine iI<|vD ?_;rcases turn i n l G w3 with⟨stop,qn⟩|⟨go,step⟩
 .refine iI (B6 (T.done X XV XV XV hc i a Z l G _ S (R F) V stop) ?_);rintro r s4 ⟨P,I4⟩;subst P;exact iX ⟨rfl,l,G,I4,F,qn⟩
 refine iI (B6 (T.item X XV XV XV hc i a Z l G _ S (R F) V go) ?_);rintro r s4 ⟨u,P,h4⟩;subst P;refine iI<|B6 h4 ?_;rintro _ s5 ⟨x,H5,I5,r5,y5,cc,ip⟩;have iF:=I5.pinned (R ip)<|T.obj _ _ cc;refine iI<|B6 (D<|pg _ s5 l H5 x u _ iF r5 (step x H5 y5)) ?_;rintro _ s6 ⟨σ6,H6,I6,q6⟩;refine iI<|B6 (D<|bx _ s6 σ6 H6 _ I6 q6) ?_;rintro ok s7 ⟨H7,I7,U'⟩
 have again:∀{O:iL}{q:St}{C':Hp},Inv X (a++Az y s5.heap) q C' O->(∃M,M<n/\W (i+1) M q C')->∃m,m<n/\∃i f j,Inv X a f j O/\tn i O.heap/\(∀b∈y,j b=WF)/\W i m f j:=λ{O q C'} L a'=>by
  obtain⟨M,hm,w8⟩:=a'
  refine⟨M,hm,i+1,q,C',L.EL,T.keep _ _ _ cc λb v o e=>(L.pin (b,o)<|qW _ (qW _ (rR v e))).1,λb v=>?_,w8⟩;obtain⟨o,e,d⟩:=T.obj _ _ cc b v;exact(L.pin (b,o)<|qW _ (qW _ (rR v e))).2.1
 cases ok with
 |false=>rw[jo kR]at U';exact iX ⟨rfl,again I7 U'⟩
 |true=>rw[iZ XV]at U';simp -iota;refine iI<|B6 (D<|pb _ s7 σ6 H7 _ I7 U') ?_;rintro _ O ⟨q,C',L,q8⟩;exact iX ⟨rfl,again L q8⟩
def Y1(d:iG)(e:TE):TB:=λc T N=>e c T λy b=>∃a,b d=Y (.lst a)/\(X0 a)<sizeLine/\N c (upd b d<|.lst<|a++[y])
def R8{b:iR}{a:pK}{i:jI}{p:br}{depth:Nat}{d:iG}{j:TE}(o:a[depth+1]?=J)(m:PE X b j):PB X (jX (.ListComp b a i p) depth (.ref d) X.env) (Y1 d j):=by
 intro f s k Q N T h
 have l:jX (.ListComp b a i p) depth (.ref d) X.env=(do let _ <-call (.builtin "list.append") [.ref d,<-aX b X.env]):=by unfold jX;simp -iota only[clausesOf.eq_def];rw[o]
 rw[l];refine iI<|B6 (m f s k Q _ T h) ?_;rintro u s1 ⟨y,H1,g,t,x,hd,w,q⟩;obtain⟨z,c,n,r,v,e⟩:=g.K6 hd;refine iI<|yd F.slot_list_append ⟨_,e,rfl⟩ MT (MS _ _) (iB d c.toArray n u<|by rw[kH];lia) ⟨e,?_⟩;refine iX ⟨k,_,g.L5 (its':=c++[u]) hd e (by simp) (r.append<|.cons t .nil) ?_,q⟩;rw[nR,yc]
 lia
def Fu{b:jh}{w:jc}{A:je}{e:iR}{depth:Nat}{it acc:iQ}{d:dI}{R:ms->Shared->Prop}{s:iL}{c:pJ}
  (q:(∃g a i p,e=.ListComp g a i p)\/(∃g a i p,e=.SetComp g a i p))(o:(bS e)[depth]?=Y c)(n:c.is_async=0)
  (l:ca (ah b w) A (.compLoop e depth it acc d) R s)
  (j:∀(Q:jB)(E:jB),Q it s->ag (ah b w) A (c7 it) Q E s):
  ca (ah b w) A (.compStart e depth it acc d) R s:=by
 have h:ag (ah b w) A (jt e depth it acc d) (λfin k=>match fin with|.done f=>R (.ok f) k|.again m=>m.quiet=C/\ca (ah b w) A m R k) (notedBy (ah b w) A d λx k=>R (.error x) k) s:=by
  unfold jt;rw[o];simp only[Option.elim,n,kX,mB];refine iI<|ya<|wpAny_ite ?_;split
  .first
    |exact iI<|iX<|iX<|dV I l
    |exact iX<|dV I l
  exact iI (sQ<|iI<|vD<|iI<|j _ _ (iX<|dV I l))
 rcases q with⟨g,a,i,p,rfl⟩|⟨g,a,i,p,rfl⟩
 .refine xZ ?_;show ag _ A ((jt (.ListComp g a i p) depth it acc d).onRaise (λx=>do io x d;dv y6)) _ _ s;exact Ix h
 refine xZ ?_;show ag _ A ((jt (.SetComp g a i p) depth it acc d).onRaise (λx=>do io x d;dv y6)) _ _ s;exact Ix h
noncomputable def agy(e:TI)(g:TG)(d:TT)(c:TB):TB:=λa Q N=>e a Q λT b=>Ja T g d c a b N
def Wg{e:iR}{depth:Nat}{b:iQ}{c:pJ}{w:TI}{g:TG}{u:TT}{t:TB}(C:X.xe=λ_ _=>False)(U:X.calm=WP)
  (o:(∃d a j p,e=.ListComp d a j p)\/(∃d a j p,e=.SetComp d a j p))(i:(bS e)[depth+1]?=Wp c)(n:c.is_async=0)(j4:∀m,(bS e)[depth+1+1]?=Wp m->m.is_async=0)
  (hs:∀x,aG c.iter X.env x=pure x)(pi:PI X c.target c.iter w)(pg:PG X c.target g)(L:KR X c.ifs u)(pb:PB X (jX e (depth+1) b X.env) t):
  PB X (jX e depth b X.env) (agy w g u t):=by
 intro f s P H N I h
 have O:jX e depth b X.env=(do
  let x <-aX c.iter X.env
  dv c.iter.pos
  let x <-aG c.iter X.env x
  let _ <-runOwn (.compStart e (depth+1) (<-b5 [x] (c7 x)) b X.env) X.env):=by
  unfold jX;rw[i]
 rw[O];refine iI<|B6 (pi f s P H _ I h) λv s1 h1=>iI<|vD<|iI<|wg (hs v)<|iI<|md<|B6 h1 λS K M=>?_;obtain⟨it,V,Z,J,R,rfl,z,T,l,G,F⟩:=M;refine iI<|wpAny_runOwn ?_;refine Fu o i n ?_ λQ E Y=>T.self X.A 0 K Q E l Y;refine sy (JI C U o i n j4 T pg L pb z G l F) λr W D=>?_;obtain⟨rfl,k,y,B,_,q⟩:=D;exact iX ⟨k,y,B,q⟩
end
theorem pe{a:dI}:∀{names:List (ax×dE)}{x:ax},names.lookup x=Y .free->
  (names.map λ(n,k)=>if(k==aL&&a.scope.kind== .function&&a.kindOf n==Y .cell)then(n,cy)else(n,k)).lookup x=Y .cell\/
  (names.map λ(n,k)=>if(k==aL&&a.scope.kind== .function&&a.kindOf n==Y .cell)then(n,cy)else(n,k)).lookup x=Y .free
 |[],_,h=>by simp at h
 |(n,k)::r,x,h=>by
  have d:= @pe a r x;rw[kc]
  cases b:x==n with
  |true=>
   simp only[qi,b]at h;cases h;by_cases c:(aL==aL&&a.scope.kind== .function&&a.kindOf n==Y .cell)=C
   .left;simp only[c,ng,qi,b]
   right;simp only[c,mB,qi,b,kX]
  |false=>
   simp only[qi,b]at h;by_cases c:(k==aL&&a.scope.kind== .function&&a.kindOf n==Y .cell)=C
   .simp only[c,ng,qi,b];exact d h
   simp only[c,mB,qi,b,kX];exact d h
theorem lQ{a:dI}:∀{names:List (ax×dE)}{x:ax}{f:dE},
  (names.map λ(n,k)=>if(k==aL&&a.scope.kind== .function&&a.kindOf n==Y .cell)then(n,cy)else(n,k)).lookup x=Y f->∃k,(x,k)∈names/\(k=f\/k=.free)
 |[],_,_,h=>by simp at h
 |(n,k)::r,x,f,h=>by
  rw[kc]at h
  cases d:x==n
  .by_cases b:(k==aL&&a.scope.kind== .function&&a.kindOf n==Y .cell)=C
   .simp only[b,ng,qi,d]at h;obtain⟨g,h1,c⟩:=lQ h;exact⟨g,jU _ h1,c⟩
   simp only[b,mB,qi,d,kX]at h;obtain⟨g,h1,c⟩:=lQ h;exact⟨g,jU _ h1,c⟩
  have e:=sU d;subst e;by_cases b:(k==aL&&a.scope.kind== .function&&a.kindOf x==Y .cell)=C
  .refine⟨k,la,.inr ?_⟩
   have h1:(k==aL)=C:=by
    cases hk:(k==aL)with
    |true=>rfl
    |false=>rw[hk]at b;simp at b
   exact sU h1
  simp only[b,mB,qi,kX]at h;exact⟨k,la,.inl<|by simpa using h⟩
structure Cc(X:Cx)(N':jr)(scope:jI)(pre:St->St):Prop where
 cell:∀y∈scope.names,y.2=.cell->scope.names.lookup y.1=Wp .cell
 kind:scope.kind=.function
 names:∀y∈scope.names,y.2=.local->scope.names.lookup y.1=Wp .local
 free:∀y∈scope.names,y.2=.free->X.env.scope.names.lookup y.1=Wp .cell\/X.env.scope.names.lookup y.1=Wp .free
 len:∀σ:St,(pre σ).length=X0 N'
 pre:∀(σ:St)(i:Nat)(v:V)(x:ax),(pre σ)[i]?=Wp (Wp v)->N'[i]?=Wp x->scope.names.lookup x=Wp .free/\∃j:Nat,X.N[j]?=Wp x/\σ[j]?=Wp (Wp v)
section
variable {X:Cx}
def TK{L:jr}{scope:jI}{pre:St->St}(S:Cc X L scope pre){d:jF}{f:iL}{H:St}{t:Hp}{C:kP}{Q:kW}{E:jb}{t':Nat}(I:Inv X d H t f)
  (B:Nu X.env.cells scope f.heap.objs.size E Q)
  (A:∀b∈C,uh X d t b)(T:∀b∈C,b<f.heap.objs.size)
  (N:E.Ns f.heap.objs.size (λ_=>WF))(hk:∀b o,f.heap.get? b=Wp o->E.get? b=Wp o):
  Inv (X.comp L scope Q f.heap.objs.size f t C d) [] (pre H) t {f with heap:=E,toks:=t'}:=by
 have F:∀b∈Eg X.stack,t b=WF:=I.Fm;have w:∀b,b≠X.env.locals->b∉X.fs->b∉Eg X.stack:=λb h1 a z=>(nS.mp<|I.Gq b z).elim h1 a;have old:∀x c,X.env.cells.lookup x=Wp c->c<f.heap.objs.size:=λx c e=>(I.cell x c e).elim λ_ z=>z.lt
 refine⟨⟨I.ok.mod,?_,I.ok.glob,I.ok.blt,jZ _,λx y c h1 a=>?_,λx h=>?_,λx c q e=>?_,I.ok.hd,I.ok.frames,.inl XV,λb g=>?_,
  I.bs,lN I.ok.bsz I.sz,λb o e g=>?_,λb g=>w b (A b g).2.1 (A b g).2.2.1,I.stack,F⟩,rfl,I.bare,Un.kept hk,⟨_,N,λi x v h1 a G=>?_⟩,λx c h=>?_,I.hok.fresh<|jZ _,λx c h=>?_,λp V=>?_,I.hok.kept hk,S.len H⟩
 .show(lw scope X.env).kind=.function;simp[lw,S.kind]
 .rcases B.ex x c h1 with z|z
  .rcases B.ex y c a with s|s
   .exact I.ok.inj x y c z s
   exact absurd (old x c z) (G9 s)
  exact B.inj x y c z h1 a old
 ·
  have M:(lw scope X.env).names.lookup x=Wp .cell\/(lw scope X.env).names.lookup x=Wp .free:=h;refine B.all x ?_;rcases M with z|z
  .obtain⟨k,h1,a⟩:=lQ z;rcases a with a|a<;>subst a
   .exact .inr h1
   exact .inl h1
  obtain⟨k,h1,a⟩:=lQ z;rcases a with a|a<;>(subst a;exact .inl h1)
 .rcases B.one x c e with⟨_,z⟩|⟨z,_⟩
  .exact absurd (sU q) z
  exact wm z
 .refine⟨kx<|T b g,λx c h=>?_⟩;rcases B.ex x c h with z|z
  .exact(A b g).2.2.2.2.1 x c z
  exact qk (Ab (T b g) z)
 ·
  have Z:b∈C:=g;rcases(A b Z).2.2.2.1 with z|z
  .exact I.ok.noex b o e z
  exact absurd (ot (kh e)<|lN I.ok.bsz z) (ql _)
 .obtain⟨q,j,P,hv⟩:=S.pre H i v x a h1;obtain⟨m,hn,R⟩:=I.loc;have J:=S.free (x,.free) (qV q) XV;obtain⟨u,r,l⟩:=R j x v P hv (by rcases J with z|z;exact .inr<|.inl z;exact .inr<|.inr z);refine⟨u,r,.inr ⟨pe q,?_⟩⟩;rcases l with⟨ei,_⟩|⟨_,c,K,W⟩
  .have U:X.env.scope.names.lookup x=Wp .local:=ei;rcases J with z|z<;>(have s:X.env.scope.names.lookup x=_:=z;rw[U]at s;cases s)
  obtain⟨D,O⟩:=B.all x<|.inl<|qV q;rcases B.one x D O with⟨this,_⟩|⟨_,z,_⟩
  .rw[K]at this;cases this;exact⟨c,O,W.keeps hk⟩
  rw[q]at z;cases z
 .rcases B.one x c h with⟨z,_⟩|⟨_,_,z⟩
  .obtain⟨v,hv⟩:=I.cell x c z;exact⟨v,hv.keeps hk⟩
  exact⟨_,z⟩
 .rcases B.ex x c h with z|z
  .exact I.freeC x c z
  exact I.hok.fresh (wm z)
 have Y:p∈X.pn++d:=by simpa[Cx.comp]using V
 obtain⟨e,n,h1,a,G⟩:=I.pin p Y;exact⟨hk _ _ e,n,kx<|kh e,w _ h1 a,G⟩
def Gm{q:jr}{scope:jI}{a:jF}{f g:iL}{n k:St}{i l:Hp}{j:kP}{r:kW}{m:jb}(Q:Inv X a n i f)(h:∀b∈j,uh X a i b)
  (T:Inv (X.comp q scope r f.heap.objs.size f i j a) [] k l g)(u:aE f.heap.objs.size g.heap m):Inv X a n l {g with heap:=m}:=by
 have K:=Q.LH (s':=g) (ch:=j) T.os T.base T.hok T.bare λb d=>⟨(h b d).2.2.2.1,(h b d).2.1,(h b d).2.2.2.2.1,(h b d).2.2.2.2.2⟩
 have s:X.env.locals<f.heap.objs.size:=Q.lt;refine K.turned (it:=f.heap.objs.size) (t':=g.toks) (λb o d e=>by rw[u.2 b d];exact e) T.free (qk s) (.inr Q.sz) (λx c w z=>?_) λp t z=>?_
 .obtain⟨v,o,e,_⟩:=Q.cell x c w;exact absurd (kh e) (by rw[z];exact ql _)
 obtain⟨e,_⟩:=Q.pin p t;exact absurd (kh e) (by rw[z];exact ql _)
def Fs(o:HO)(T:It)(g:TG)(c:TT)(b:iG->TB)(pre:St->St)(e:St)(O:Hp)(Q:VK):Prop:=
 ∀d,O d=J->Ja T g c (b d) (pre e) (upd O d o) λ_ a=>Q (.ref d) a
def abm(T:It)(g:TG)(b:TT)(a:iG->TB)(pre:St->St)(c:St)(O:Hp)(Q:VK):Prop:=Fs (.lst []) T g b a pre c O Q
def C8{e:iR}{o:HO}{l:eZ}{c:pJ}{s:pK}{scope:jI}{y:jr}{pre:St->St}{g:TG}{ti:TT}{tb:iG->TB}{U:kW}{J:It}{i:kP}{it:iG}{tn:Nat->jb->Prop}
  (hl:(∃Y' k sc p,e=.ListComp Y' k sc p)\/∃Y' k sc p,e=.SetComp Y' k sc p)(hg:bS e=c::s)
  (S:Cc X y scope pre)(hc:X.calm=WP)(ha:c.is_async=0)(j4:∀O,s[0]?=Y O->O.is_async=0)
  (s9:∀(t:kW)(C:iG)(u:iL)(v:Hp)(i:kP)(a:jF),let L:=X.comp y scope t C u v i a
   PG L c.target g/\KR L c.ifs ti/\∀d,PB L (jX e 0 (.ref d) L.env)<|tb d)
  (i5:∀x c,U.lookup x=Y c->X.env.cells.lookup x=Y c)(i7:∀x,(x,aL)∈scope.names->∃c,U.lookup x=Y c)
  {a:jF}{f:iL}{G:St}{m:Hp}{Q:VK}{E:jB}{RR:iQ->iG->ms->Shared->Prop}(I2:Inv X a G m f)(T:Turn X.prog X.w X.K c.target J i it tn)(aA:tn 0 f.heap)(f2:∀b∈i,uh X a m b)
  (N:Inv X a G (upd m f.heap.objs.size o) {f with heap:=f.heap.push l})
  (h:Fs o J g ti tb pre G m Q)
  (hRR:∀(d:iG)(t:kW)(u:iL)(v M:Hp)(σ':St)(s4:iL),Inv X a G v u->(∀b∈i,uh X a v b)->Inv (X.comp y scope t u.heap.objs.size u v i a) [] σ' M s4->Q (.ref d) M->RR (.ref d) u.heap.objs.size (.ok .next) s4):
  ag (ah X.prog X.w) X.A (gM scope X.env.globals U [] X.env.qual WF .none<|Y X.env) (λn I'=>
   ca (ah X.prog X.w) X.A (.compStart e 0 (.ref it) (.ref f.heap.objs.size) {n with scope:=lw scope X.env}) (RR (.ref f.heap.objs.size) n.locals) I') E {f with heap:=f.heap.push l}:=by
 have V:∀b∈i,b<f.heap.objs.size:=λb j=>by obtain⟨o,e,_⟩:=T.obj _ _ aA b j;exact kh e
 have D:∀b∈i,uh X a (upd m f.heap.objs.size o) b:=λb j=>⟨by rw[jx<|kx<|V b j];exact(f2 b j).1,(f2 b j).2⟩
 refine SD S.cell i5 i7 λh1 t aq R B=>?_;have hk:∀b o,(f.heap.push l).get? b=Y o->h1.get? b=Y o:=R;have P:∀b∈i,b<(f.heap.push l).objs.size:=λb j=>by rw[qO];exact we<|V b j
 have J0:=TK (t':=f.toks) S N B D P aq hk;obtain⟨pg,bx,pb⟩:=s9 t (f.heap.push l).objs.size {f with heap:=f.heap.push l} (upd m f.heap.objs.size o) i a;have H:tn 0 h1:=T.keep _ _ _ aA λb j o e=>hk b o<|jW _ e;have hw:=h f.heap.objs.size<|I2.hok.fresh<|jZ _
 have F:∀b∈i,uh (X.comp y scope t (f.heap.push l).objs.size {f with heap:=f.heap.push l} (upd m f.heap.objs.size o) i a) []
   (upd m f.heap.objs.size o) b:=λb j=>by
  obtain⟨z1,z2,z3,z4,z5,z6⟩:=D b j;refine⟨z1,kx<|P b j,λz=>(nS.mp<|N.Gq b z).elim z2 z3,.inl j,λx c hx=>(B.ex x c hx).elim (z5 x c) λz=>qk<|Ab (P b j) z,λp hp=>z6 p<|by simpa[Cx.comp]using hp⟩
 have W:(bS e)[0]?=Y c:=by rw[hg];rfl
 refine Fu hl W ha ?_ λQ' E' hq=>T.self X.A 0 _ Q' E' H hq
 refine sy (JI (X:=X.comp y scope t (f.heap.push l).objs.size {f with heap:=f.heap.push l} (upd m f.heap.objs.size o) i a)
  (depth:=0) (acc:=.ref f.heap.objs.size) rfl hc hl W ha (λO Z=>j4 O<|by rw[hg]at Z;exact Z) T pg bx (pb _) J0 F H hw) λr s4 hr=>?_
 obtain⟨rfl,σ4,M,I4,_,q⟩:=hr;exact hRR _ _ _ _ _ _ _ N D I4 q
def Uj(e:TI)(g:TG)(d:TT)(c:iG->TB)(pre:St->St):TE:=λa O Q=>e a O λT b=>abm T g d c pre a b Q
def Jw{o:HO}{e:iR}{new:dP iQ}{fp:br}{c:pJ}{i:pK}{scope:jI}{O:jr}{pre:St->St}{Y:TI}{g:TG}{ti:TT}{tb:iG->TB}
  (S:Cc X O scope pre)(hc:X.calm=WP)(ha:c.is_async=0)(j4:∀M,i[0]?=Wp M->M.is_async=0)
  (hs:∀x,aG c.iter X.env x=pure x)(pi:PI X c.target c.iter Y)
  (s9:∀(G:kW)(C:iG)(U:iL)(z:Hp)(fp:kP)(a:jF),let l:=X.comp O scope G C U z fp a
   PG l c.target g/\KR l c.ifs ti/\∀d,PB l (jX e 0 (.ref d) l.env)<|tb d)
  (mk:∀(j:iL)(Q E:jB),(∀n,(∀H',A5 X.prog X.w H' (j.heap.push n) j.heap.objs.size o)->Q (.ref j.heap.objs.size) {j with heap:=j.heap.push n})->ag (ah X.prog X.w) X.A new Q E j)
  (hl:(∃t f y p,e=.ListComp t f y p)\/∃t f y p,e=.SetComp t f y p)(N:bS e=c::i:=by rfl)(hev:aX e X.env=KE e scope X.env fp new (c.is_async !=0) (aX c.iter X.env)):
  PE X e (λk H' Q=>Y k H' λJ' H1=>Fs o J' g ti tb pre k H1 Q):=by
 intro a s k H' Q I h;obtain⟨tg,V,u,P⟩:=c;obtain rfl:P=0:=ha;obtain⟨G,l5,i5,i7⟩:=vY X.env scope λx hx hf=>I.ok.has x.1<|S.free x hx hf;rw[hev];refine MR (use:=J) (g:=⟨tg,V,u,0⟩) (gs:=i) N hs l5 S.kind S.names<|B6 (pi a s k H' _ I h) λv s1 h1=>B6 h1 λdQ j h2=>?_;obtain⟨it,fp,tn,J',H2,rfl,B,T,K,W,hw⟩:=h2;refine mk _ _ _ λn hS=>?_;refine C8 (RR:=λr C=>compPost (ah X.prog X.w) X.A X.xe J (EP X a k Q) r C) hl N S hc XV j4 s9 i5 i7 B T K W (B.laid (t':=j.toks) (λb n q=>jW _ q) (jZ _)<|hS _) hw λd R U z D σ' s4 F Z L q=>?_;obtain⟨m,hn,_⟩:=id L.loc;exact⟨m,hn,λh' t6=>⟨.ref d,D,Gm F Z L t6,rfl,q⟩⟩
def agd{j:iR}{c:pJ}{f:pK}{scope:jI}{k d9 l:br}{N':jr}{pre:St->St}{wi:TI}{g:TG}{ti:TT}{tb:iG->TB}{y:ax}{i:Nat}
  (bA:bQ (.ListComp j (c::f) scope k) (Wp<|.Name y l) d9.line X.env=pure WP)
  (S:Cc X N' scope pre)(hc:X.calm=WP)(ha:c.is_async=0)(j4:∀g',f[0]?=Wp g'->g'.is_async=0)
  (hs:∀x,aG c.iter X.env x=pure x)(pi:PI X c.target c.iter wi)(fV:PG X (.Name y l) (Ga i))
  (s9:∀(cl:kW)(C:iG)(n:iL)(H3:Hp)(fp:kP)(a:jF),let B:=X.comp N' scope cl C n H3 fp a
   PG B c.target g/\KR B c.ifs ti/\∀d,PB B (jX (.ListComp j (c::f) scope k) 0 (.ref d) B.env)<|tb d):
  PS X (.Assign [.Name y l] (.ListComp j (c::f) scope k) d9) (Vq (Uj wi g ti tb pre)<|Ga i):=by
 intro a s L H D I h;obtain⟨Z,N,u,az⟩:=c;obtain rfl:az=0:=ha;obtain⟨cl,l5,i5,i7⟩:=vY X.env scope λx F hf=>I.ok.has x.1<|S.free x F hf;rw[exec_Assign_Name_used _ _ _ _ bA];refine iI<|vD<|iI ?_;show ag _ X.A (do let _ <-KE (.ListComp j (⟨Z,N,u,0⟩::f) scope k) scope X.env _ (u9 []) W1 (aX N X.env) (Wp<|cu (.Name y l) X.env)) _ _ s
 refine iI (oq (MR (use:=Wp<|cu (.Name y l) X.env) (g:=⟨Z,N,u,0⟩) (gs:=f) (Q:=λ_ E=>SP X a D .next E) XV hs l5 S.kind S.names
  (B6 (pi a s L H _ I h) λv s1 h1=>B6 h1 λdQ s2 h2=>?_)) (λ_ E hq=>iX<|iX hq) λ_ _ e=>e)
 obtain⟨it,fp,tn,J,H2,rfl,R,T,aA,f2,hw⟩:=h2;refine oF<|C8 (RR:=λM C=>compPost (ah X.prog X.w) X.A X.xe (Wp<|cu (.Name y l) X.env) (λ_ E=>SP X a D .next E) M C) (.inl ⟨_,_,_,_,rfl⟩) XV S hc XV j4 s9 i5 i7 R T aA f2 (R.NH (t':=s2.toks) .nil<|by simp) hw λd cl' n H3 O σ' P r ff G q=>?_;obtain⟨m,hn,_⟩:=id G.loc;obtain⟨K,es,ep,ho,hd,hr⟩:=id hn;have V:Inv X a L O P:=Gm r ff G (DR ..);have t:n.heap.objs.size≠X.env.locals:=qk r.lt;have U:n.heap.objs.size∉X.fs:=λz=>r.N7 (jZ _) z
 have IP:Inv X (a++[(n.heap.objs.size,K)]) L O P:=V.HR λp Y=>by
  rcases qX.mp Y with z|z
  .exact V.pin p (qW _ z)
  rcases Kp.mp z with rfl
  exact⟨ho,G.free,t,U,λv z=>by rw[hd]at z;cases z⟩
 show ag _ X.A (cu (.Name y l) X.env<|.ref d) _ _ _;refine B6 (fV _ P L O (.ref d) (.ref d) _ IP rfl q) ?_;rintro _ s5 ⟨σ5,H5,I5,q5⟩;have W:=I5.pin (n.heap.objs.size,K) (by simp);refine⟨m,⟨K,es,ep,W.1,hd,hr⟩,λh' t6=>⟨σ5,H5,?_,q5⟩⟩;refine I5.EL.turned (it:=n.heap.objs.size) (t':=s5.toks) (λb o hb e=>by rw[t6.2 b hb];exact e) W.2.1 t (.inr r.sz) (λx c F z=>?_) λp Y z=>?_
 .obtain⟨v,o,e,_⟩:=r.cell x c F;exact absurd (kh e) (by rw[z];exact ql _)
 obtain⟨e,_⟩:=r.pin p Y;exact absurd (kh e) (by rw[z];exact ql _)
end
end L2
namespace PX
open L2
inductive OK where
 |dct|set|fn(i:Nat)|exc(c:Nat)
 deriving DecidableEq
inductive D where
 |A7|bl(b:Bool)|int(i:Int)|str(x:ax)|tup(l:List D)|lst(l:List D)|AF(k:OK)(ks vs:List D)
mutual
noncomputable def D.hash:D->Int
 |.int i=>hashInt i
 |.tup l=>reduceHash<|bg<|D.El l
 |_=>0
noncomputable def D.El:List D->List Int
 |[]=>[]
 |d::l=>D.hash d::D.El l
end
noncomputable def lM:Key->D
 |.inl i=>.int i
 |.inr x=>.str x
def acw(K:ji)(o:eZ)(T:Nat):Prop:=o.cls=.ref T/\(∀a:iG,PySem.W.KitX K (.ref a) (.ref T) λh=>h.get? a=Y o)/\∀n∈["int","bool","str","tuple","list","dict"],dg K (.ref T) (.type n)=Y U
def Bs(K:ji)(h:Option HO)(k:OK)(a c:List D)(b:List V):Prop:=
 match k with
 |.dct=>(∃kvs:List (Key×V),h=Y (.dK kvs)/\a=kvs.map (λp=>lM p.1)/\b=kvs.map (·.2))\/
   (∃kvs:List (List Key×V),h=Y (.dT kvs)/\a=kvs.map (λp=>.tup (p.1.map lM))/\b=kvs.map (·.2))
 |.set=>a=[]/\∃d:List (Int×V),h=Y (.A8 d)/\d.Perm ((D.El c).zip b)
 |.exc T=>(a=[]/\c=[]/\b=[])/\∃o,h=Y (.BZ o<|.own 0)/\acw K o T
 |_=>False
def Bs.ex{K h k a vs us}(x:Bs K h k a vs us):∃o,h=Y o:=by
 cases k with
 |dct=>rcases x with⟨_,e,_⟩|⟨_,e,_⟩<;>exact⟨_,e⟩
 |set=>obtain⟨_,_,e,_⟩:=x;exact⟨_,e⟩
 |exc T=>obtain⟨_,_,e,_⟩:=x;exact⟨_,e⟩
 |_=>exact x.elim
def Bs.keep{K k a b us}(x:Bs K h k a b us)(c:∀o,h=Y o->h'=Y o):Bs K h' k a b us:=by obtain⟨o,e⟩:=x.ex;rw[c o e,<-e];exact x
abbrev AA:=iG->Prop
def ae4(K:ji)(a:iG)(c:List V):Prop:= ∃(o:eZ)(b:nB)(n:Nat),K.lookup a=Y o/\o.cls=.type "list"/\o.dict=J/\o.data=.seq b n/\b.size<=sizeLine/\Vals c b.toList
def H9(K:ji)(T:Hp)(O:AA)(a:iG)(b:List V):Prop:=T a=Y (.tup b)/\¬O a
def HC(K:ji)(T:Hp)(O:AA)(a:iG)(b:List V):Prop:=(Rd T a (.lst b)/\¬O a)\/ae4 K a b
def H9.sq{K T O a xs}(h:H9 K T O a xs):HE K T a xs:=.inl (.inl h.1)
def HC.sq{K T O a xs}(h:HC K T O a xs):Ej K T a xs:=h.elim (λz=>.inl z.1) .inr
def Rd.mono{a u}(h:Rd T a u)(k:∀o,T a=Y o->b a=Y o):Rd b a u:=by
 rcases h with h|⟨o,h⟩
 .exact .inl (k _ h)
 exact .inr ⟨o,k _ h⟩
def H9.mono{K T c}{a xs}(h:H9 K T O a xs)(k:∀b o,T b=Y o->¬O b->c b=Y o)(e:∀b,T b≠J->d b->O b):H9 K c d a xs:=
 ⟨k a _ h.1 h.2,λz=>h.2<|e a (by rw[h.1];simp) z⟩
def HC.mono{K T c}{a xs}(h:HC K T O a xs)(k:∀b o,T b=Y o->¬O b->c b=Y o)(f:∀b,T b≠J->d b->O b):HC K c d a xs:=by
 rcases h with⟨r,n⟩|h
 .refine .inl ⟨Rd.mono r λo e=>k a o e n,λz=>n<|f a ?_ z⟩;rcases r with r|⟨_,r⟩<;>(rw[r];simp)
 exact .inr h
inductive L8(S:iG->List V->Prop)(R:List V->Prop)(v:V):Prop where
 |mk (a:iG) (xs:List V) (_:v=.ref a) (_:S a xs) (_:R xs)
inductive MmI{α β:Type}(l:List α)(f:α->β)(b:β):Prop where
 |mk (a:α) (_:a∈l) (_:f a=b)
def jd{c d:Type}{l:List c}{f:c->d}{b:d}(h:b∈l.map f):MmI l f b:=let⟨a,x,y⟩:=wa.mp h;⟨a,x,y⟩
mutual
def Rep(K:ji)(T:Hp)(O:AA):D->V->Prop
 |.A7,v=>v=.A7
 |.bl b,v=>v=.bl b
 |.int i,v=>v=.int i
 |.str x,v=>v=.str x
 |.tup l,v=>L8 (H9 K T O) (YP K T O l) v
 |.lst l,v=>L8 (HC K T O) (YP K T O l) v
 |.AF k c vs,v=>L8 (λa us=>¬O a/\Bs K (T a) k c vs us) (YP K T O vs) v
def YP(K:ji)(T:Hp)(O:AA):List D->List V->Prop
 |[],vs=>vs=[]
 |d::l,vs=>∃v r,vs=v::r/\Rep K T O d v/\YP K T O l r
end
mutual
theorem Rep.mono{K T g}{O i:AA}(k:∀b o,T b=Y o->¬O b->g b=Y o)(c:∀b,T b≠J->i b->O b):∀{d:D}{v:V},Rep K T O d v->Rep K g i d v
 |.A7,_,h=>h
 |.bl _,_,h=>h
 |.int _,_,h=>h
 |.str _,_,h=>h
 |.tup l,_,h=>by rw[Rep]at h ⊢;obtain⟨a,f,e,s,r⟩:=h;exact⟨a,f,e,s.mono k c,YP.mono k c r⟩
 |.lst l,_,h=>by rw[Rep]at h ⊢;obtain⟨a,f,e,s,r⟩:=h;exact⟨a,f,e,s.mono k c,YP.mono k c r⟩
 |.AF j m vs,_,h=>by rw[Rep]at h ⊢;obtain⟨a,us,e,s,r⟩:=h;exact⟨a,us,e,⟨λz=>s.1<|c a (by obtain⟨o,q⟩:=s.2.ex;rw[q];simp) z,s.2.keep λo q=>k a o q s.1⟩,YP.mono k c r⟩
theorem YP.mono{K T a}{O c:AA}(k:∀b o,T b=Y o->¬O b->a b=Y o)(f:∀b,T b≠J->c b->O b):∀{l:List D}{vs:List V},YP K T O l vs->YP K a c l vs
 |[],_,h=>h
 |d::l,_,h=>by rw[YP]at h ⊢;obtain⟨v,r,e,h1,g⟩:=h;exact⟨v,r,e,Rep.mono k f h1,YP.mono k f g⟩
end
def Rep.mkInt{K T O i}:Rep K T O (.int i) (.int i):=by rw[Rep]
def Rep.Ht{K T O i}:Rep K T O (.bl i) (.bl i):=by rw[Rep]
def Rep.Gu{K T O}:Rep K T O .A7 .A7:=by rw[Rep]
def Rep.mkStr{K T O i}:Rep K T O (.str i) (.str i):=by rw[Rep]
def Rep.int{K T O i v}(h:Rep K T O (.int i) v):v=.int i:=by rwa [Rep]at h
def Rep.bl{K T O i v}(h:Rep K T O (.bl i) v):v=.bl i:=by rwa [Rep]at h
def Rep.A7{K T O v}(h:Rep K T O .A7 v):v=.A7:=by rwa [Rep]at h
def Rep.str{K T O i v}(h:Rep K T O (.str i) v):v=.str i:=by rwa [Rep]at h
def Rep.tup{K T O l v}(h:Rep K T O (.tup l) v):L8 (H9 K T O) (YP K T O l) v:=by rwa [Rep]at h
def Rep.lst{K T O l v}(h:Rep K T O (.lst l) v):L8 (HC K T O) (YP K T O l) v:=by rwa [Rep]at h
def Rep.AF{K T O k ks vs v}(h:Rep K T O (.AF k ks vs) v):L8 (λa us=>¬O a/\Bs K (T a) k ks vs us) (YP K T O vs) v:=by rwa [Rep]at h
def Rep.LF{K T O k b vs a us}(n: ¬O a)(h:Bs K (T a) k b vs us)(r:YP K T O vs us):Rep K T O (.AF k b vs) (.ref a):=by rw[Rep];exact⟨a,us,rfl,⟨n,h⟩,r⟩
def Rep.Iy{K T O l a xs}(h:H9 K T O a xs)(r:YP K T O l xs):Rep K T O (.tup l) (.ref a):=by rw[Rep];exact⟨a,xs,rfl,h,r⟩
def Rep.NB{K T O l a xs}(h:HC K T O a xs)(r:YP K T O l xs):Rep K T O (.lst l) (.ref a):=by rw[Rep];exact⟨a,xs,rfl,h,r⟩
theorem YP.length{K T O}:∀{l:List D}{vs:List V},YP K T O l vs->X0 vs=X0 l
 |[],vs,h=>by rw[YP]at h;rw[h];rfl
 |d::l,vs,h=>by rw[YP]at h;obtain⟨v,r,rfl,_,a⟩:=h;simp[YP.length a]
inductive GtI(vs:List V)(i:Nat)(P:V->Prop):Prop where
 |mk (v:V) (_:vs[i]?=Wp v) (_:P v)
theorem YP.get{K T O}:∀{l:List D}{a:List V}{i:Nat}{d:D},YP K T O l a->l[i]?=Y d->GtI a i (Rep K T O d)
 |[],_,_,_,_,e=>by simp at e
 |d::l,a,0,b,h,e=>by rw[YP]at h;obtain⟨v,r,rfl,h1,_⟩:=h;simp at e;subst e;exact⟨v,rfl,h1⟩
 |d::l,a,i+1,b,h,e=>by rw[YP]at h;obtain⟨v,r,rfl,_,c⟩:=h;obtain⟨w,f,g⟩:=YP.get (i:=i) c (by simpa using e);exact⟨w,by simpa using f,g⟩
def YP.append{K T O}:∀{l m:List D}{a c:List V},YP K T O l a->YP K T O m c->YP K T O (l++m) (a++c):=by
 intro g
 induction g with
 |nil=>intro _ a _ h b;rw[YP]at h;subst h;exact b
 |cons d l f=>intro _ a _ h b;rw[YP]at h;obtain⟨v,r,rfl,h1,e⟩:=h;show YP K T O (d::(l++_)) _;rw[YP];exact⟨v,_,rfl,h1,f e b⟩
def YP.one{K T O}{d:D}{v:V}(h:Rep K T O d v):YP K T O [d] [v]:=by rw[YP];exact⟨v,[],rfl,h,by rw[YP]⟩
def YP.nil{K T O}:YP K T O [] []:=by rw[YP]
def YP.cons{K T O}{l vs}(h:Rep K T O d v)(h':YP K T O l vs):YP K T O (d::l) (v::vs):=by rw[YP];exact⟨v,vs,rfl,h,h'⟩
theorem YP.take{K T O}:∀{l:List D}{a:List V}(n:Nat),YP K T O l a->YP K T O (l.take n) (a.take n)
 |_,_,0,_=>by simp[YP]
 |[],a,n+1,h=>by rw[YP]at h;subst h;simp[YP]
 |d::l,a,n+1,h=>by rw[YP]at h;obtain⟨v,r,rfl,h1,b⟩:=h;exact YP.cons h1<|YP.take n b
theorem YP.drop{K T O}:∀{l:List D}{a:List V}(n:Nat),YP K T O l a->YP K T O (l.drop n) (a.drop n)
 |_,_,0,h=>h
 |[],a,n+1,h=>by rw[YP]at h;subst h;simp[YP]
 |d::l,a,n+1,h=>by rw[YP]at h;obtain⟨v,r,rfl,h1,b⟩:=h;exact YP.drop n b
theorem YP.set{K T O}{d:D}{v:V}(hv:Rep K T O d v):∀{l:List D}{vs:List V}(i:Nat),YP K T O l vs->YP K T O (l.set i d) (vs.set i v)
 |[],vs,i,h=>by rw[YP]at h;subst h;simp[YP]
 |e::l,vs,0,h=>by rw[YP]at h;obtain⟨w,r,rfl,h1,a⟩:=h;exact YP.cons hv a
 |e::l,vs,i+1,h=>by rw[YP]at h;obtain⟨w,r,rfl,h1,a⟩:=h;exact YP.cons h1<|YP.set hv i a
abbrev Sl:=Option<|D×Bool
abbrev Dn:=List Sl
def A1(b:L2.St)(δ:Dn)(a:iG):Prop:= ∃(i:Nat)(d:D),δ[i]?=Y (Y (d,C))/\b[i]?=Y (Y<|V.ref a)
def Ba(K:ji)(T:Hp)(O:AA):D->iG->Prop
 |.lst l,a=>∃d,T a=Y (.lst d)/\YP K T O l d
 |.AF k e c,a=>∃b,Bs K (T a) k e c b/\YP K T O c b
 |_,_=>False
def Ba.mono{K T c}(h:Ba K T O d a)(k:∀b o,T b=Y o->¬O b->c b=Y o)(f:∀b,T b≠J->i b->O b)(g:∀o,T a=Y o->c a=Y o):Ba K c i d a:=by
 cases d with
 |lst l=>obtain⟨j,e,r⟩:=h;exact⟨j,g _ e,YP.mono k f r⟩
 |AF m n vs=>obtain⟨us,e,r⟩:=h;exact⟨us,e.keep g,YP.mono k f r⟩
 |_=>exact h
def Ba.rep{K T}(h:Ba K T O d a)(g: ¬c a)(f:∀b,T b≠J->c b->O b):Rep K T c d (.ref a):=by
 cases d with
 |lst l=>obtain⟨i,e,r⟩:=h;rw[Rep];exact⟨a,i,rfl,.inl ⟨.inl e,g⟩,YP.mono (λb o e _=>e) f r⟩
 |AF j k n=>obtain⟨m,e,r⟩:=h;exact Rep.LF g e<|YP.mono (λb o e _=>e) f r
 |_=>exact h.elim
def Ow:Option HO->Prop
 |none=>False
 |some (.tup _)=>False
 |_=>True
def Ow.ne{o:Option HO}(h:Ow o):o≠J:=λe=>by rw[e]at h;exact h
def Ow.up{o a:Option HO}(h:Ow o)(k:∀x,o=Y x->a=Y x):Ow a:=by
 cases o with
 |none=>exact h.elim
 |some x=>rw[k x I];exact h
def NA{o:Option HO}(h:o=J): ¬Ow o:=λz=>z.ne h
def Ba.ow{K Q}{O:AA}{d:D}{a:iG}(h:Ba K Q O d a):Ow (Q a):=by
 cases d with
 |lst l=>obtain⟨g,e,_⟩:=h;rw[e];trivial
 |AF k b f=>
  obtain⟨c,e,_⟩:=h
  cases k with
  |dct=>rcases e with⟨_,e,_⟩|⟨_,e,_⟩<;>(rw[e];trivial)
  |set=>obtain⟨_,_,e,_⟩:=e;rw[e];trivial
  |exc T=>obtain⟨_,_,e,_⟩:=e;rw[e];trivial
  |_=>exact e.elim
 |_=>exact h.elim
inductive AtV(σ:L2.St)(i:Nat)(P:V->Prop):Prop where
 |mk (v:V) (_:σ[i]?=Wp (Wp v)) (_:P v)
inductive AtA(σ:L2.St)(i:Nat)(P:iG->Prop):Prop where
 |mk (a:iG) (_:σ[i]?=Wp (Wp<|V.ref a)) (_:P a)
structure ER(K:ji)(H:Hp)(T:AA)(σ:L2.St)(δ:Dn):Prop where
 len:(X0 σ)=X0 δ
 val:∀(i:Nat)(d:D),δ[i]?=Wp (Wp (d,W1))->AtV σ i (Rep K H (λa=>A1 σ δ a\/T a) d)
 own:∀(i:Nat)(d:D),δ[i]?=Wp (Wp (d,WP))->AtA σ i (Ba K H (λa=>A1 σ δ a\/T a) d)
 inj:∀(i j:Nat)(d e:D)(a:iG),δ[i]?=Wp (Wp (d,WP))->δ[j]?=Wp (Wp (e,WP))->σ[i]?=Wp (Wp<|V.ref a)->σ[j]?=Wp (Wp<|V.ref a)->i=j
 nT:∀a,A1 σ δ a->¬T a
 dom:∀a,T a->Ow (H a)
def ER.Iw{K Q T σ e}(E:ER K Q T σ e)(h:A1 σ e a):Ow (Q a):=by obtain⟨i,d,h1,f⟩:=h;obtain⟨b,c,g⟩:=E.own i d h1;rw[f]at c;cases c;exact g.ow
def ER.HS{K Q T σ δ}(E:ER K Q T σ δ)(h:A1 σ δ a):Q a≠J:=(E.Iw h).ne
def ER.mono{K Q c σ δ}(E:ER K Q T σ δ)(k:∀b o,Q b=Y o->¬T b->c b=Y o)(g:∀b,Q b≠J->T' b->T b)(hd:∀a,T' a->Ow (c a)):ER K c T' σ δ where
 len:=E.len
 val:=λi d h=>by obtain⟨v,h1,f⟩:=E.val i d h;exact⟨v,h1,Rep.mono (λb o e n=>k b o e λz=>n<|.inr z) (λb j z=>z.elim .inl λz=>.inr (g b j z)) f⟩
 own:=λi d h=>by obtain⟨a,h1,f⟩:=E.own i d h;exact⟨a,h1,f.mono (λb o e n=>k b o e λz=>n<|.inr z) (λb j z=>z.elim .inl λz=>.inr (g b j z)) λo e=>k a o e<|E.nT a ⟨i,d,h,h1⟩⟩
 inj:=E.inj
 nT:=λa h z=>E.nT a h<|g a (E.HS h) z
 dom:=hd
def A1.set(h:A1 σ (δ.set i<|Y (d,U)) a):A1 σ δ a:=by
 obtain⟨j,e,h1,b⟩:=h;rw[Aa]at h1;split at h1
 .split at h1<;>simp at h1
 exact⟨j,e,h1,b⟩
def ER.freeze{K Q T σ m}(E:ER K Q T σ m){i:Nat}{d:D}{b:Bool}(h:m[i]?=Y (Y (d,b))):ER K Q T σ (m.set i<|Y (d,U))/\AtV σ i (Rep K Q (λa=>A1 σ (m.set i<|Y (d,U)) a\/T a) d):=by
 have o:i<(X0 m):=(uj.mp h).1
 have p:AtV σ i (Rep K Q (λa=>A1 σ (m.set i<|Y (d,U)) a\/T a) d):=by
  cases b
  .obtain⟨v,h1,l⟩:=E.val i d h;exact⟨v,h1,Rep.mono (λ_ _ e _=>e) (λb _ z=>z.elim (λz=>.inl z.set) .inr) l⟩
  obtain⟨a,h1,l⟩:=E.own i d h;refine⟨.ref a,h1,l.rep (λz=>?_) λb _ z=>z.elim (λz=>.inl z.set) .inr⟩;rcases z with⟨j,e,n,q⟩|z
  .rw[Aa]at n;split at n
   .first
     |(split at n<;>simp at n)
     |simp at n
   rename_i r;exact r<|E.inj i j d e a h n h1 q
  exact E.nT a ⟨i,d,h,h1⟩ z
 refine⟨⟨by rw[tD];exact E.len,λj e c=>?_,λj e c=>?_,λj k e f a c hk h1 l=>?_,λa z=>E.nT a z.set,E.dom⟩,p⟩
 .by_cases g:i=j
  .subst g;rw[oH o]at c;cases c;exact p
  rw[oG g]at c;obtain⟨v,h1,l⟩:=E.val j e c;exact⟨v,h1,Rep.mono (λ_ _ e _=>e) (λb _ z=>z.elim (λz=>.inl z.set) .inr) l⟩
 .by_cases g:i=j
  .subst g;rw[oH o]at c;cases c
  rw[oG g]at c;obtain⟨a,h1,l⟩:=E.own j e c;exact⟨a,h1,l.mono (λ_ _ e _=>e) (λb _ z=>z.elim (λz=>.inl z.set) .inr) λ_ e=>e⟩
 have g1:m[j]?=Y (Y (e,C)):=by
  by_cases g:i=j
  .subst g;rw[oH o]at c;cases c
  rwa [oG g]at c
 have g2:m[k]?=Y (Y (f,C)):=by
  by_cases g:i=k
  .subst g;rw[oH o]at hk;cases hk
  rwa [oG g]at hk
 exact E.inj j k e f a g1 g2 h1 l
def AK(b:L2.St)(δ:Dn)(i:Nat)(a:iG):Prop:= ∃d:D,δ[i]?=Y (Y (d,C))/\b[i]?=Y (Y<|V.ref a)
structure BJ(σ:L2.St)(δ:Dn)(H:Hp)(δ':Dn)(H':Hp):Prop where
 kp:∀a o,H a=Wp o->¬A1 σ δ a->H' a=Wp o
 owi:∀i a,AK σ δ' i a->AK σ δ i a
 dm:∀a,H a≠WF->H' a≠WF
def BJ.ow{σ c T b f}(k:BJ σ c T b f)(a:iG)(h:A1 σ b a):A1 σ c a:=by obtain⟨i,d,h1,g⟩:=h;obtain⟨e,j,l⟩:=k.owi i a ⟨d,h1,g⟩;exact⟨i,e,j,l⟩
def BJ.refl{σ a T}:BJ σ a T a T:=⟨λ_ _ e _=>e,λ_ _ z=>z,λ_ z=>z⟩
def BJ.trans{σ δ δ1 δ2 T H1 b}(x:BJ σ δ T δ1 H1)(y:BJ σ δ1 H1 δ2 b):BJ σ δ T δ2 b:=
 ⟨λa o e n=>y.kp a o (x.kp a o e n) λz=>n<|x.ow a z,λi a z=>x.owi i a<|y.owi i a z,λa z=>y.dm a<|x.dm a z⟩
def BJ.ext{σ δ T H1}(k:∀a o,T a=Y o->H1 a=Y o):BJ σ δ T δ H1:=⟨λa o e _=>k a o e,λ_ _ z=>z,λa z=>by
 cases h:T a with
 |none=>exact absurd h z
 |some o=>rw[k a o h];simp⟩
def AK.set(h:AK σ (δ.set i<|Y (d,U)) j a):AK σ δ j a:=by
 obtain⟨e,h1,b⟩:=h;rw[Aa]at h1;split at h1
 .split at h1<;>simp at h1
 exact⟨e,h1,b⟩
def BJ.set{σ δ T i d}:BJ σ δ T (δ.set i<|Y (d,U)) T:=⟨λ_ _ e _=>e,λ_ _ z=>z.set,λ_ z=>z⟩
def B8(K:ji)(T:AA)(e:L2.St)(f:Dn)(Q:Hp)(r:D×Bool)(b:Dn)(v:V)(c:Hp):Prop:=
 BJ e f Q b c/\
 match r with
 |(d,U)=>ER K c T e b/\Rep K c (λa=>A1 e b a\/T a) d v
 |(d,C)=>∃p,v=.ref p/\Q p=J/\ER K c (λa=>T a\/a=p) e b/\Ba K c (λa=>A1 e b a\/T a\/a=p) d p
abbrev F:=Dn->Option ((D×Bool)×Dn)
inductive tF(K:ji)(f:F)(σ:L2.St)(H:Hp)(Q:VK):Prop where
 |mk (δ:Dn) (T:AA) (r:D×Bool) (δ':Dn) (_:ER K H T σ δ) (_:f δ=Wp (r,δ')) (_:∀v H',B8 K T σ δ H r δ' v H'->Q v H')
def PX(X:Cx)(e:iR)(f:F):Prop:=PE X e<|tF X.K f
noncomputable def LN(T:AA)(r:D×Bool)(v:V):AA:=λa=>T a\/(r.2=C/\v=.ref a)
section
variable {K:ji}{T:AA}{c:L2.St}{δ δ1 δ2:Dn}{H f g:Hp}{x y:D×Bool}{v u:V}
def B8.er(E:ER K H T c δ)(P:B8 K T c δ H x δ1 v f):ER K f (LN T x v) c δ1:=by
 obtain⟨d,b⟩:=x
 cases b
 .refine P.2.1.mono (λ_ _ e _=>e) (λb _ z=>z.elim id λz=>absurd z.1<|by simp) λa z=>?_;rcases z with z|z
  .exact P.2.1.dom a z
  exact absurd z.1 (by simp)
 obtain⟨p,rfl,i,h,j⟩:=P.2;refine h.mono (λ_ _ e _=>e) (λb _ z=>z.elim .inl λz=>.inr (by have:=z.2;cases this;rfl)) λa z=>?_;rcases z with z|z
 .exact h.dom a (.inl z)
 have:=z.2;cases this;exact h.dom _ (.inr I)
def B8.rep(E:ER K H T c δ)(P:B8 K T c δ H x δ1 v f):ER K f T c δ1/\Rep K f (λa=>A1 c δ1 a\/T a) x.1 v:=by
 obtain⟨d,b⟩:=x
 cases b
 .exact P.2
 obtain⟨p,rfl,i,h,j⟩:=P.2;refine⟨h.mono (λ_ _ e _=>e) (λb _ z=>.inl z) λa z=>h.dom a<|.inl z,j.rep (λz=>?_) λb _ z=>z.elim .inl λz=>.inr (.inl z)⟩;rcases z with z|z
 .exact h.nT p z (.inr I)
 exact(E.dom p z).ne i
def B8.val(k:BJ c δ H δ2 g)(E:ER K g T c δ2)(r:Rep K g (λa=>A1 c δ2 a\/T a) d w):B8 K T c δ H (d,U) δ2 w g:=⟨k,E,r⟩
end
def jn{e f:Type}{a c:e}{b d:f}(h:Y (a,b)=Y (c,d)):a=c/\b=d:=by cases h;exact⟨rfl,rfl⟩
noncomputable def fC(d:D):F:=λδ=>Y ((d,U),δ)
noncomputable def jS(i:Nat):F:=λδ=>match δ[i]? with
 |some (Y (d,_))=>Y ((d,U),δ.set i<|Y (d,U))
 |_=>J
section
variable {X:Cx}{a b c:iR}{d:br}{m l g:F}
def PX.imp(h:PE X e t)(k:∀j O Q,tF X.K f j O Q->t j O Q):PX X e f:=λi s j O Q T n=>h i s j O Q T<|k j O Q n
def Us{i j}:PX X (.Constant (.bool i) j d) (fC<|.bl i):=PX.imp Zw λo O Q h=>by obtain⟨n,T,r,f,E,e,k⟩:=h;cases e;exact k _ _ (B8.val .refl E (by first|exact Rep.mkInt|exact Rep.Ht|exact Rep.Gu|exact Rep.mkStr))
end
inductive BN where
 |val(r:D×Bool)|slot(i:Nat)
noncomputable def res(δ:Dn):BN->Option D
 |.val r=>Y r.1
 |.slot i=>match δ[i]? with
  |some (Y (d,_))=>Y d
  |_=>J
def kb(K:ji)(T:Hp)(O:AA)(d:D)(v:V):Prop:=Rep K T O d v\/∃a,v=.ref a/\Ba K T O d a
abbrev FO:=Dn->Option (BN×Dn)
def Em(K:ji)(T:AA)(b:L2.St)(d:Dn)(Q:Hp)(o:BN)(a:Dn)(v:V)(c:Hp):Prop:=
 match o with
 |.val r=>B8 K T b d Q r a v c
 |.slot i=>BJ b d Q a c/\ER K c T b a/\b[i]?=Y (Y v)
def EZ(T:AA)(o:BN)(v:V):AA:=match o with
 |.val r=>LN T r v
 |.slot _=>T
inductive tO(K:ji)(f:FO)(σ:L2.St)(H:Hp)(Q:VK):Prop where
 |mk (δ:Dn) (T:AA) (o:BN) (δ':Dn) (_:ER K H T σ δ) (_:f δ=Wp (o,δ')) (_:∀v H',Em K T σ δ H o δ' v H'->Q v H')
def PO(X:Cx)(e:iR)(f:FO):Prop:=PE X e<|tO X.K f
noncomputable def iY(f:F):FO:=λδ=>(f δ).bind λp=>Y (.val p.1,p.2)
noncomputable def iJ(i:Nat):FO:=λδ=>match δ[i]? with
 |some (Y _)=>Y (.slot i,δ)
 |_=>J
def PE.imp'(h:PE X e t)(k:∀b O Q,d b O Q->t b O Q):PE X e d:=λa s b O Q T c=>h a s b O Q T<|k b O Q c
section
variable {X:Cx}{a:br}
def PX.po(h:PX X e f):PO X e (iY f):=PE.imp' h λj O Q g=>by
 obtain⟨c,T,o,i,E,e,k⟩:=g;unfold iY at e
 cases h1:f c with
 |none=>rw[h1]at e;cases e
 |some p=>obtain⟨r,b⟩:=p;rw[h1]at e;obtain⟨rfl,rfl⟩:=jn e;exact⟨c,T,r,b,E,h1,λv d P=>k v d P⟩
end
structure Ops(K:ji)(T:AA)(σ:L2.St)(δ:Dn)(H:Hp)(os:List BN)(vs:List V)(δ':Dn)(H':Hp)(T':AA):Prop where
 len:os.length=X0 vs
 keep:BJ σ δ H δ' H'
 er:ER K H' T' σ δ'
 tt:∀a,T a->T' a
 val:∀(j:Nat)(d:D)(v:V),os[j]?=Wp (.val (d,W1))->vs[j]?=Wp v->Rep K H' (λa=>A1 σ δ' a\/T a) d v
 tmp:∀(j:Nat)(d:D)(v:V),os[j]?=Wp (.val (d,WP))->vs[j]?=Wp v->∃p,v=.ref p/\T' p/\H p=WF/\Ba K H' (λa=>A1 σ δ' a\/T a) d p
 slt:∀(j i:Nat)(v:V),os[j]?=Wp (.slot i)->vs[j]?=Wp v->σ[i]?=Wp (Wp v)
section
variable {K:ji}{T T':AA}{b:L2.St}{δ a c:Dn}{H H' e:Hp}{os:List BN}{vs:List V}{o:BN}{v:V}
def Ops.nil(E:ER K H T b δ):Ops K T b δ H [] [] δ H T:=⟨rfl,.refl,E,λ_ z=>z,λj d v h=>by simp at h,λj d v h=>by simp at h,λj i v h=>by simp at h⟩
def Em.keep(P:Em K T b δ H o a v H'):BJ b δ H a H':=by
 cases o with
 |val r=>exact P.1
 |slot i=>exact P.1
def Em.er(E:ER K H T b δ)(P:Em K T b δ H o a v H'):ER K H' (EZ T o v) b a:=by
 cases o with
 |val r=>exact B8.er E P
 |slot i=>exact P.2.1
end
def Gen(K:ji)(T:Hp)(O:AA)(z:D×Bool)(Q:VK):Prop:=
 match z with
 |(d,U)=>∀w b,(∀a o,T a=Y o->b a=Y o)->Rep K b O d w->Q w b
 |(d,C)=>∀p b,T p=J->(∀a o,T a=Y o->b a=Y o)->Ba K b (λa=>O a\/a=p) d p->Q (.ref p) b
section
variable {K:ji}{T m:AA}{f:L2.St}{δ δ1 c δ2:Dn}{H s H' h:Hp}{os:List BN}{vs:List V}{o:BN}{v:V}{z:D×Bool}{Q:VK}
def Ops.cons(E:ER K H T f δ)(P:Em K T f δ H o δ1 v s)(B:Ops K (EZ T o v) f δ1 s os vs δ2 h m):Ops K T f δ H (o::os) (v::vs) δ2 h m:=by
 have A:=P.er E;have x:=B.keep.kp;have y:=B.keep.ow
 have t:∀a,T a->EZ T o v a:=λa z=>by
  cases o with
  |val r=>exact .inl z
  |slot i=>exact z
 refine⟨by simp[B.len],P.keep.trans B.keep,B.er,λa z=>B.tt a<|t a z,λj d w h1 g=>?_,λj d w h1 g=>?_,λj i w h1 g=>?_⟩
 .cases j with
  |zero=>simp at h1 g;subst h1;subst g;have q:B8 K T f δ H (d,U) δ1 v s:=P;exact Rep.mono (λb k e n=>x b k e λz=>n<|.inl z) (λb _ z=>z.elim (λz=>bo<|y b z) bh) (q.rep E).2
  |succ j=>exact Rep.mono (λ_ _ e _=>e) (λb _ z=>z.elim bo λz=>bh<|t b z)<|B.val j d w (by simpa using h1) (by simpa using g)
 .cases j with
  |zero=>simp at h1 g;subst h1;subst g;have q:B8 K T f δ H (d,C) δ1 v s:=P;obtain⟨p,rfl,u,N,ok⟩:=q.2;have l:EZ T (.val (d,C)) (V.ref p) p:=.inr ⟨rfl,rfl⟩;refine⟨p,rfl,B.tt p l,u,ok.mono (λb k e n=>x b k e λz=>n<|.inl z) (λb _ z=>z.elim (λz=>bo<|y b z) λz=>bh<|bo z) λk e=>x p k e λz=>A.nT p z l⟩
  |succ j=>
   obtain⟨p,rfl,l,u,ok⟩:=B.tmp j d w (by simpa using h1) (by simpa using g);refine⟨p,rfl,l,?_,ok.mono (λ_ _ e _=>e) (λb _ z=>z.elim bo λz=>bh<|t b z) λ_ e=>e⟩
   cases O:H p with
   |none=>rfl
   |some k=>exact absurd u<|P.keep.dm p (by rw[O];simp)
 cases j with
 |zero=>simp at h1 g;subst h1;subst g;exact P.2.2
 |succ j=>exact B.slt j i w (by simpa using h1) (by simpa using g)
def Ops.view(B:Ops K T f δ H os vs c H' m){j:Nat}{d:D}(h1:os[j]?=Y o)(n:vs[j]?=Y v)(g:res c o=Y d):kb K H' (λa=>A1 f c a\/T a) d v:=by
 cases o with
 |val r=>
  obtain⟨e,b⟩:=r;have hd:e=d:=kT g;subst hd
  cases b
  .exact .inl<|B.val j e v h1 n
  obtain⟨p,rfl,_,_,ok⟩:=B.tmp j e v h1 n;exact .inr ⟨p,rfl,ok⟩
 |slot i=>
  have u:=B.slt j i v h1 n;unfold res at g;dsimp only at g
  cases l:c[i]? with
  |none=>rw[l]at g;cases g
  |some q=>
   cases q with
   |none=>rw[l]at g;cases g
   |some p=>
    obtain⟨e,b⟩:=p;rw[l]at g;have hd:e=d:=kT g;subst hd
    cases b
    .obtain⟨w,k,t⟩:=B.er.val i e l;rw[u]at k;cases k;exact .inl<|Rep.mono (λ_ _ e _=>e) (λb _ z=>z.elim bo λz=>bh<|B.tt b z) t
    obtain⟨a,k,t⟩:=B.er.own i e l;rw[u]at k;cases k;exact .inr ⟨a,rfl,t.mono (λ_ _ e _=>e) (λb _ z=>z.elim bo λz=>bh<|B.tt b z) λ_ e=>e⟩
def Ops.done(B:Ops K T f δ H os vs c H' m)(k:∀v h,B8 K T f δ H z c v h->Q v h):Gen K H' (λa=>A1 f c a\/T a) z Q:=by
 obtain⟨d,b⟩:=z;have i:∀{h:Hp},(∀a o,H' a=Y o->h a=Y o)->∀a,T a->Ow (h a):=λ{h} g a z=>(B.er.dom a<|B.tt a z).up<|g a
 cases b
 .intro w h g r;exact k w h ⟨B.keep.trans<|.ext g,B.er.mono (λb o e _=>g b o e) (λb _ z=>B.tt b z)<|i g,r⟩
 intro p h l g ok
 have j:H p=J:=by
  cases n:H p with
  |none=>rfl
  |some t=>exact absurd l<|B.keep.dm p (by rw[n];simp)
 refine k (.ref p) h ⟨B.keep.trans<|.ext g,p,rfl,j,B.er.mono (λb o e _=>g b o e) (λb q z=>z.elim (B.tt b) λz=>absurd (z▸l) q) λa z=>?_,ok.mono (λ_ _ e _=>e) (λb _ z=>?_) λ_ e=>e⟩
 .rcases z with z|z
  .exact i g a z
  subst z;exact ok.ow
 rcases z with z|z|z
 .exact bo (bo z)
 .exact bo (bh z)
 exact bh z
def Gen.int(g:Gen K H O (.int i,U) Q):Q (.int i) H:=g _ H (λ_ _ e=>e) Rep.mkInt
def Gen.bl(g:Gen K H O (.bl i,U) Q):Q (.bl i) H:=g _ H (λ_ _ e=>e) Rep.Ht
def lO{H:Hp}{p:iG}{o:HO}(b:H p=J):∀a u,H a=Y u->upd H p o a=Y u:=λa u e=>by rw[jx (by intro z;subst z;rw[e]at b;cases b)];exact e
def Gen.lst{O:AA}{l:List D}{xs:List V}{p:iG}(g:Gen K H O (.lst l,C) Q)(a:H p=J)(r:YP K H O l xs):Q (.ref p) (upd H p<|.lst xs):=
 g p _ a (lO a) ⟨xs,jv,YP.mono (λb o e _=>lO a b o e) (λb d z=>z.elim id λz=>absurd (z▸a) d) r⟩
def Gen.tup(g:Gen K H O (.tup l,U) Q)(a:H p=J)(np: ¬O p)(r:YP K H O l xs):Q (.ref p) (upd H p<|.tup xs):=
 g _ _ (lO a) (Rep.Iy ⟨jv,np⟩<|YP.mono (λb o e _=>lO a b o e) (λb d z=>z) r)
def Ops.np(B:Ops K T f δ H os vs c H' m)(a: ¬Ow (H' p)): ¬(A1 f c p\/T p):=λz=>a<|z.elim (λz=>B.er.Iw z) λz=>B.er.dom p<|B.tt p z
end
def lX(g:D->Option (D×Bool))(a:FO):F:=λb=>(a b).bind λp=>(res p.2 p.1).bind λx=>(g x).bind λz=>Y (z,p.2)
def jf(g:D->D->Option (D×Bool))(a fb:FO):F:=λδ=>(a δ).bind λp=>(fb p.2).bind λq=>(res q.2 p.1).bind λx=>(res q.2 q.1).bind λy=>(g x y).bind λz=>Y (z,q.2)
noncomputable def kM:List FO->Dn->Option (List BN×Dn)
 |[],δ=>Y ([],δ)
 |f::fs,δ=>(f δ).bind λp=>(kM fs p.2).bind λq=>Y (p.1::q.1,q.2)
def vJ(a:Dn):List BN->Option (List D)
 |[]=>Y []
 |o::os=>(res a o).bind λd=>(vJ a os).bind λl=>Y (d::l)
def jl(g:List D->Option (D×Bool))(fs:List FO):F:=λδ=>(kM fs δ).bind λp=>(vJ p.2 p.1).bind λds=>(g ds).bind λz=>Y (z,p.2)
inductive tA(K:ji)(fs:List FO)(σ:L2.St)(H:Hp)(Q:List V->Hp->Prop):Prop where
 |mk (δ:Dn) (T:AA) (os:List BN) (δ':Dn) (_:ER K H T σ δ) (_:kM fs δ=Wp (os,δ')) (_:∀vs H' T',Ops K T σ δ H os vs δ' H' T'->Q vs H')
section
variable {X:Cx}{e a b:iR}{es:kD}{fa fb:FO}{fs:List FO}{pos:br}
inductive BndS{α β:Type}(x:Option α)(f:α->Option β)(b:β):Prop where
 |mk (a:α) (_:x=Wp a) (_:f a=Wp b)
inductive BndP{α β γ:Type}(x:Option (α×γ))(f:α×γ->Option β)(b:β):Prop where
 |mk (a:α) (c:γ) (_:x=Wp (a,c)) (_:f (a,c)=Wp b)
def iW{c d g:Type}{x:Option (c×g)}{f:c×g->Option d}{b:d}(h:x.bind f=Y b):BndP x f b:=by
 cases x with
 |none=>cases h
 |some a=>exact⟨a.1,a.2,rfl,h⟩
def iM{c d:Type}{x:Option c}{f:c->Option d}{b:d}(h:x.bind f=Y b):BndS x f b:=by
 cases x with
 |none=>cases h
 |some a=>exact⟨a,rfl,h⟩
def acu(K:ji)(r:V->Hp->VK->Prop)(g:D->Option (D×Bool)):Prop:=
 ∀x z v T (O:AA) (Q:VK),(∀p,¬Ow (T p)->¬O p)->kb K T O x v->g x=Y z->Gen K T O z Q->r v T Q
def XA(K:ji)(r:R2)(g:D->D->Option (D×Bool)):Prop:=
 ∀x y z v u T (O:AA) (Q:VK),(∀p,¬Ow (T p)->¬O p)->kb K T O x v->kb K T O y u->g x y=Y z->Gen K T O z Q->r v u T Q
def acs(K:ji)(r:List V->Hp->VK->Prop)(g:List D->Option (D×Bool)):Prop:=
 ∀ds z c T (O:AA) (Q:VK),(∀p,¬Ow (T p)->¬O p)->X0 ds=X0 c->(∀(j:Nat) d v,ds[j]?=Y d->c[j]?=Y v->kb K T O d v)->g ds=Y z->Gen K T O z Q->r c T Q
def VO{r:V->Hp->VK->Prop}{g:D->Option (D×Bool)}(h:PE X e (tUn r<|tO X.K fa))(n:acu X.K r g):PX X e (lX g fa):=PX.imp h λw O Q q=>by obtain⟨s,T,u,t,E,e,k⟩:=q;obtain⟨o,c,h1,e⟩:=iW e;obtain⟨x,i,e⟩:=iM e;obtain⟨z,l,e⟩:=iM e;obtain⟨rfl,rfl⟩:=jn e;refine⟨s,T,o,c,E,h1,λv f d=>?_⟩;have B:=Ops.cons E d<|Ops.nil<|d.er E;exact n x z v f _ Q (λp m=>B.np m) (B.view (j:=0) I I i) l (B.done k)
def VN{r:R2}{g:D->D->Option (D×Bool)}(h:PE X e (LY r (tO X.K fa)<|tO X.K fb))(w:XA X.K r g):PX X e (jf g fa fb):=PX.imp h λN H Q A=>by obtain⟨I,T,G,L,E,e,k⟩:=A;obtain⟨o,c,h1,e⟩:=iW e;obtain⟨M,f,m,e⟩:=iW e;obtain⟨x,n,e⟩:=iM e;obtain⟨y,q,e⟩:=iM e;obtain⟨z,s,e⟩:=iM e;obtain⟨rfl,rfl⟩:=jn e;refine⟨I,T,o,c,E,h1,λv O d=>⟨c,EZ T o v,M,f,d.er E,m,λu l i=>?_⟩⟩;have B:=Ops.cons E d<|Ops.cons (d.er E) i<|Ops.nil<|i.er<|d.er E;exact w x y z v u l _ Q (λp t=>B.np t) (B.view (j:=0) XV XV n) (B.view (j:=1) XV XV q) s (B.done k)
def wD:PA X [] (tA X.K []):=λpos c s f N Q O h=>by obtain⟨g,T,os,d,E,e,k⟩:=h;obtain⟨rfl,rfl⟩:=jn e;exact oM pos c s f N Q O<|k [] N T<|Ops.nil E
def rn(n:PO X e fa)(p:PA X es (tA X.K fs))(q:aa (e::es) X.env=(U,aX e X.env)::aa es X.env):PA X (e::es) (tA X.K (fa::fs)):=λpos c s u N Q O h=>by obtain⟨r,T,os,t,E,e,k⟩:=h;unfold kM at e;obtain⟨o,d,h1,e⟩:=iW e;obtain⟨f,g,m,e⟩:=iW e;obtain⟨rfl,rfl⟩:=jn e;exact lP n p q pos c s u N Q O ⟨r,T,o,d,E,h1,λv w i=>⟨d,EZ T o v,f,g,i.er E,m,λx j l B=>k _ j l (Ops.cons E i B)⟩⟩
def pQ{g:Dn}:∀{os:List BN}{c:List D},vJ g os=Y c->X0 c=os.length/\∀(j:Nat) d,c[j]?=Y d->∃o,os[j]?=Y o/\res g o=Y d:=by
 intro p
 induction p with
 |nil=>intro c h;cases h;exact⟨rfl,λj d h=>by simp at h⟩
 |cons o os n=>
  intro c h;unfold vJ at h;obtain⟨d,h1,h⟩:=iM h;obtain⟨l,i,h⟩:=iM h;cases h;obtain⟨k,m⟩:=n i;refine⟨by simp[k],λj e f=>?_⟩
  cases j with
  |zero=>simp at f;subst f;exact⟨o,rfl,h1⟩
  |succ j=>obtain⟨q,r,s⟩:=m j e (by simpa using f);exact⟨q,by simpa using r,s⟩
def RN{r:List V->Hp->VK->Prop}{g:List D->Option (D×Bool)}(h:PE X e (N0 r<|tA X.K fs))(w:acs X.K r g):PX X e (jl g fs):=PX.imp h λO G Q x=>by obtain⟨A,T,L,N,E,e,k⟩:=x;obtain⟨os,f,h1,e⟩:=iW e;obtain⟨l,m,e⟩:=iM e;obtain⟨z,n,e⟩:=iM e;obtain⟨rfl,rfl⟩:=jn e;obtain⟨q,s⟩:=pQ m;refine⟨A,T,os,f,E,h1,λy i M B=>?_⟩;refine w l z y i _ Q (λp u=>B.np u) (q.trans B.len) (λj d v hd hv=>?_) n (B.done k);obtain⟨o,t,c⟩:=s j d hd;exact B.view t hv c
end
open PySem.SeqAt
mutual
noncomputable def D.AI:D->D->Bool
 |.A7,e=>match e with|.A7=>C|_=>U
 |.bl a,e=>match e with|.bl b=>a==b|.int b=>(if a then 1 else 0)==b|_=>U
 |.int a,e=>match e with|.bl b=>a==(if b then 1 else 0)|.int b=>a==b|_=>U
 |.str a,e=>match e with|.str b=>a==b|_=>U
 |.tup l,e=>match e with|.tup m=>D.Bc l m|_=>U
 |.lst l,e=>match e with|.lst m=>D.Bc l m|_=>U
 |.AF _ _ _,e=>match e with|.AF _ _ _=>C|_=>U
noncomputable def D.Bc:List D->List D->Bool
 |[],m=>m.isEmpty
 |a::l,m=>match m with|b::m=>D.AI a b&&D.Bc l m|[]=>U
end
mutual
noncomputable def D.dep:D->Nat
 |.tup l=>D.BI l+1
 |.lst l=>D.BI l+1
 |.AF _ _ _=>20000
 |_=>0
noncomputable def D.BI:List D->Nat
 |[]=>0
 |d::l=>max (D.dep d)<|D.BI l
end
mutual
theorem D.Ca:∀d:D,D.AI d d=C
 |.A7=>rfl
 |.bl a=>by simp[D.AI]
 |.int a=>by simp[D.AI]
 |.str a=>by simp[D.AI]
 |.tup l=>D.F4 l
 |.lst l=>D.F4 l
 |.AF _ _ _=>rfl
theorem D.F4:∀l:List D,D.Bc l l=C
 |[]=>rfl
 |d::l=>by show(D.AI d d&&D.Bc l l)=C;rw[D.Ca d,D.F4 l];rfl
end
theorem D.ES{d:D}:∀{l:List D}{j:Nat},l[j]?=Y d->d.dep<=D.BI l
 |[],j,h=>by simp at h
 |e::l,0,h=>by simp at h;subst h;rw[D.BI];exact Nat.le_max_left _ _
 |e::l,j+1,h=>by rw[D.BI];exact lN (D.ES<|by simpa using h)<|Nat.le_max_right _ _
def yT(l m:List D)(j:Nat):Bool:=match l[j]?,m[j]? with
 |some d,Y e=>D.AI d e
 |_,_=>C
theorem yE:∀l m:List D,((ap<|min (X0 l)<|X0 m).all (yT l m)&&(X0 l)==X0 m)=D.Bc l m
 |[],[]=>rfl
 |[],e::m=>rfl
 |d::l,[]=>rfl
 |d::l,e::m=>by
  show _=(D.AI d e&&D.Bc l m)
  rw[<-yE l m];simp only[nJ,Nat.succ_min_succ,el,tx,en];have a:yT (d::l) (e::m) 0=D.AI d e:=rfl;have h1:(λx=>yT (d::l) (e::m)<|Nat.succ x)=yT l m:=by funext x;simp[yT]
  rw[a];simp only[gn]
  congr 2
  simp
section
variable {X:Cx}{pins:jF}{σ:L2.St}{H:Hp}{s:iL}
def lV(h:kb X.K H O (.tup l) v):L8 (HE X.K H) (YP X.K H O l) v:=by
 rcases h with h|⟨a,rfl,h⟩
 .obtain⟨a,xs,e,q,r⟩:=h.tup;exact⟨a,xs,e,q.sq,r⟩
 exact h.elim
def lh(h:kb X.K H O (.lst l) v):L8 (Ej X.K H) (YP X.K H O l) v:=by
 rcases h with h|⟨a,rfl,h⟩
 .obtain⟨a,xs,e,q,r⟩:=h.lst;exact⟨a,xs,e,q.sq,r⟩
 obtain⟨xs,e,r⟩:=h;exact⟨a,xs,rfl,.inl<|.inl e,r⟩
def YP.views{O:AA}{l:List D}{xs:List V}(r:YP X.K H O l xs){j:Nat}{d:D}{v:V}(h1:l[j]?=Y d)(b:xs[j]?=Y v):Rep X.K H O d v:=by obtain⟨w,a,c⟩:=r.get h1;rw[b]at a;cases a;exact c
def OB(Q:Inv X pins σ H s)(h:Bs X.K (H a) k l i us):∃o,s.heap.get? a=Y o/\(o.cls=.type "dict"\/o.cls=.type "set"\/∃T,o.cls=.ref T):=by
 cases k with
 |dct=>
  rcases h with⟨b,e,_⟩|⟨b,e,_⟩
  .obtain⟨_,_,i,_,o,d,g,h1,c,_⟩:=(show A5 X.prog X.w H s.heap a (.dK b)from Q.hok a _ e)
   exact⟨o,h1,.inl c.1⟩
  obtain⟨_,_,m,_,o,d,g,h1,c,_⟩:=(show A5 X.prog X.w H s.heap a (.dT b)from Q.hok a _ e)
  exact⟨o,h1,.inl c.1⟩
 |set=>
  obtain⟨_,j,e,_⟩:=h;obtain⟨d,n,t,h1,_⟩:=(show A5 X.prog X.w H s.heap a (.A8 j)from Q.hok a _ e)
  exact⟨_,h1,.inr<|.inl I⟩
 |exc T=>
  obtain⟨_,o,e,h1,_⟩:=h;obtain⟨f,_⟩:=(show A5 X.prog X.w H s.heap a (.BZ o<|.own 0)from Q.hok a _ e)
  exact⟨o,f,.inr<|.inr ⟨T,h1⟩⟩
 |_=>exact h.elim
def Fv(T:Inv X pins σ H s)(h1:HE X.K H a xs)(f:Ej X.K H a k):False:=by obtain⟨g,_,⟨o,e,c,_⟩,_⟩:=T.tuple h1;obtain⟨h,_,⟨j,i,d,b,_⟩,_⟩:=T.list f;rw[e]at d;cases d;rw[c]at b;exact absurd b (by simp)
def R9(Q:Inv X pins σ H s)(h1:HE X.K H a xs)(f:Bs X.K (H a) k h j us):False:=by obtain⟨g,_,⟨o,e,c,_⟩,_⟩:=Q.tuple h1;obtain⟨i,d,b⟩:=OB Q f;rw[e]at d;cases d;rw[c]at b;rcases b with b|b|⟨T,b⟩<;>exact absurd b (by simp)
def Sa(Q:Inv X pins σ H s)(h1:Ej X.K H a xs)(f:Bs X.K (H a) k h j us):False:=by obtain⟨g,_,⟨o,n,e,c,_⟩,_⟩:=Q.list h1;obtain⟨i,d,b⟩:=OB Q f;rw[e]at d;cases d;rw[c]at b;rcases b with b|b|⟨T,b⟩<;>exact absurd b (by simp)
mutual
theorem Rep.inj(T:Inv X pins σ H s):∀{d e:D}{v:V},d.dep<20000->Rep X.K H O d v->Rep X.K H u e v->d=e
 |.A7,e,v,i,h,c=>by
  have:=h.A7;subst this
  cases e with
  |A7=>rfl
  |bl b=>have:=c.bl;cases this
  |int b=>have:=c.int;cases this
  |str b=>have:=c.str;cases this
  |tup m=>obtain⟨a,f,z,_⟩:=c.tup;cases z
  |lst m=>obtain⟨a,f,z,_⟩:=c.lst;cases z
  |AF m n o=>obtain⟨a,f,z,_⟩:=c.AF;cases z
 |.bl b,e,v,i,h,c=>by
  have:=h.bl;subst this
  cases e with
  |A7=>have:=c.A7;cases this
  |bl b=>have:=c.bl;cases this;rfl
  |int b=>have:=c.int;cases this
  |str b=>have:=c.str;cases this
  |tup m=>obtain⟨a,f,z,_⟩:=c.tup;cases z
  |lst m=>obtain⟨a,f,z,_⟩:=c.lst;cases z
  |AF m n o=>obtain⟨a,f,z,_⟩:=c.AF;cases z
 |.int b,e,v,i,h,c=>by
  have:=h.int;subst this
  cases e with
  |A7=>have:=c.A7;cases this
  |bl b=>have:=c.bl;cases this
  |int b=>have:=c.int;cases this;rfl
  |str b=>have:=c.str;cases this
  |tup m=>obtain⟨a,f,z,_⟩:=c.tup;cases z
  |lst m=>obtain⟨a,f,z,_⟩:=c.lst;cases z
  |AF m n o=>obtain⟨a,f,z,_⟩:=c.AF;cases z
 |.str b,e,v,i,h,c=>by
  have:=h.str;subst this
  cases e with
  |A7=>have:=c.A7;cases this
  |bl b=>have:=c.bl;cases this
  |int b=>have:=c.int;cases this
  |str b=>have:=c.str;cases this;rfl
  |tup m=>obtain⟨a,f,z,_⟩:=c.tup;cases z
  |lst m=>obtain⟨a,f,z,_⟩:=c.lst;cases z
  |AF m n o=>obtain⟨a,f,z,_⟩:=c.AF;cases z
 |.tup l,e,v,i,h,c=>by
  rw[D.dep]at i;obtain⟨a,f,rfl,q,r⟩:=h.tup
  cases e with
  |A7=>have:=c.A7;cases this
  |bl b=>have:=c.bl;cases this
  |int b=>have:=c.int;cases this
  |str b=>have:=c.str;cases this
  |tup m=>obtain⟨k,p,z,g,j⟩:=c.tup;cases z;have:=T.EO q.sq g.sq;subst this;rw[YP.inj T (by lia) r j]
  |lst m=>obtain⟨k,p,z,g,j⟩:=c.lst;cases z;exact(Fv T q.sq g.sq).elim
  |AF m n o=>obtain⟨k,t,z,g,j⟩:=c.AF;cases z;exact(R9 T q.sq g.2).elim
 |.lst l,e,v,i,h,c=>by
  rw[D.dep]at i;obtain⟨a,f,rfl,q,r⟩:=h.lst
  cases e with
  |A7=>have:=c.A7;cases this
  |bl b=>have:=c.bl;cases this
  |int b=>have:=c.int;cases this
  |str b=>have:=c.str;cases this
  |tup m=>obtain⟨k,p,z,g,j⟩:=c.tup;cases z;exact(Fv T g.sq q.sq).elim
  |lst m=>obtain⟨k,p,z,g,j⟩:=c.lst;cases z;have:=T.Ek q.sq g.sq;subst this;rw[YP.inj T (by lia) r j]
  |AF m n o=>obtain⟨k,t,z,g,j⟩:=c.AF;cases z;exact(Sa T q.sq g.2).elim
 |.AF _ _ _,e,v,i,h,c=>by rw[D.dep]at i;lia
theorem YP.inj(T:Inv X pins σ H s){O b:AA}:∀{l m:List D}{vs:List V},D.BI l<20000->YP X.K H O l vs->YP X.K H b m vs->l=m
 |[],m,vs,_,h,a=>by
  rw[YP]at h;subst h
  cases m with
  |nil=>rfl
  |cons e m=>rw[YP]at a;obtain⟨_,_,z,_⟩:=a;cases z
 |d::l,m,vs,i,h,a=>by
  rw[D.BI]at i;rw[YP]at h;obtain⟨v,r,rfl,h1,c⟩:=h
  cases m with
  |nil=>rw[YP]at a;cases a
  |cons e m=>rw[YP]at a;obtain⟨k,j,z,f,g⟩:=a;cases z;rw[Rep.inj T (by lia) h1 f,YP.inj T (by lia) c g]
end
def wY(h:kb X.K H O d v)(hd:d.dep=0)(c:∀l,d≠ .tup l)(b:∀l,d≠ .lst l):Rep X.K H O d v:=by
 rcases h with h|⟨a,rfl,h⟩
 .exact h
 cases d with
 |lst l=>exact absurd I<|b l
 |AF _ _ _=>rw[D.dep]at hd;lia
 |_=>exact h.elim
inductive Sh(X:Cx)(H:Hp)(s:iL)(O:AA):D->V->iQ->Prop
 |A7:Sh X H s O .A7 .A7 .none
 |bl (b:Bool):Sh X H s O (.bl b) (.bl b) (.bool b)
 |int (i:Int) (t:tz):Sh X H s O (.int i) (.int i) (.int i t)
 |str (x:ax) (t:tz):Sh X H s O (.str x) (.str x) (.str x t)
 |tup {l:List D} {p:iG} {xs:List V} {its:jP} (q:HE X.K H p xs) (r:YP X.K H O l xs) (v:Vals xs its) (pl:ka s.heap p its.toArray):Sh X H s O (.tup l) (.ref p) (.ref p)
 |lst {l:List D} {p:iG} {xs:List V} {its:jP} (q:Ej X.K H p xs) (r:YP X.K H O l xs) (v:Vals xs its) (pl:s.heap.IsList p its.toArray):Sh X H s O (.lst l) (.ref p) (.ref p)
def zp(T:Inv X pins σ H s)(h:kb X.K H O d v)(b:RelV v a)(i:d.dep<20000):Sh X H s O d v a:=by
 cases d with
 |AF m k n=>rw[D.dep]at i;omega
 |tup l=>obtain⟨p,j,rfl,q,r⟩:=lV h;cases b;obtain⟨e,g,f,_⟩:=T.tuple q;exact .tup q r g f
 |lst l=>obtain⟨p,j,rfl,q,r⟩:=lh h;cases b;obtain⟨e,g,f,_⟩:=T.list q;exact .lst q r g f.isList
 |A7=>have:=(wY h I (by simp)<|by simp).A7;subst this;cases b;exact .A7
 |bl c=>have:=(wY h I (by simp)<|by simp).bl;subst this;cases b;exact .bl c
 |int c=>have:=(wY h I (by simp)<|by simp).int;subst this;obtain⟨t,rfl⟩:=b;exact .int c t
 |str c=>have:=(wY h I (by simp)<|by simp).str;subst this;obtain⟨t,rfl⟩:=b;exact .str c t
def TH{A:je}{y x:iQ}{k:Bool}(h:RcAt A s y x k)(f:y=x->k=C)(e:∀b t,y≠ .float b t):EqAt A s y x k:=λa w E Q c=>by
 unfold eqBool;refine md ?_;refine wpAny_ite_split (λd=>?_) λ_=>?_
 .rw[f<|sU d]at c;exact iI<|sQ<|iX c
 cases y with
 |float b t=>exact absurd I<|e b t
 |_=>exact iI<|h a w E _ (tK c)
def Qh(I:Inv X pins σ H s){A:je}{n:Nat}(M:∀(d e:D)(v u:V)(a b:iQ)(O Q:AA)(A:je),kb X.K H O d v->kb X.K H Q e u->RelV v a->RelV u b->d.dep+1<=n->e.dep<20000->A.units+n<aV+1->EqAt A s a b (D.AI d e))(hA:A.units+n<aV):∀(l m:List D)(g h:List V)(c f:jP)(i k:AA),D.BI l+1<=n->D.BI m<20000->YP X.K H i l g->YP X.K H k m h->Vals g c->Vals h f->
   ∀j (h1:j<c.toArray.size) (r:j<f.toArray.size),EqAt A.in1 s c.toArray[j] f.toArray[j] (yT l m j):=λl m g h c f i k Z hm y z B C j h1 r=>by
 have P:=B.length;have R:=C.length;have S:=y.length;have W:=z.length;simp at h1 r;have t:g[j]?=Wp g[j]:=jT (by omega);have x:h[j]?=Wp h[j]:=jT (by omega);have p:l[j]?=Wp l[j]:=jT (by omega);have o:m[j]?=Wp m[j]:=jT (by omega);obtain⟨w,E,U⟩:=B.get t;obtain⟨N,L,Y⟩:=C.get x
 have G:c.toArray[j]=w:=by have:c[j]?=Wp c[j]:=jT (by omega);rw[this]at E;simpa using E
 have J:f.toArray[j]=N:=by have:f[j]?=Wp f[j]:=jT (by omega);rw[this]at L;simpa using L
 rw[G,J];have T:yT l m j=D.AI l[j] m[j]:=by unfold yT;rw[p,o]
 rw[T];have F:=D.ES p;have q:=D.ES o;exact M _ _ _ _ _ _ i k A.in1 (.inl<|y.views p t) (.inl<|z.views o x) U Y (by omega) (by omega) (by show A.units+1+n<aV+1;omega)
def NU{d e:D}{v u:V}{a b:iQ}{O T:AA}{A:je}(I:Inv X pins σ H s){n:Nat}(ih:∀(d e:D)(v u:V)(a b:iQ)(O T:AA)(A:je),kb X.K H O d v->kb X.K H T e u->RelV v a->RelV u b->d.dep+1<=n->e.dep<20000->A.units+n<aV+1->EqAt A s a b (D.AI d e))(hd:kb X.K H O d v)(he:kb X.K H T e u)(ra:RelV v a)(rb:RelV u b)(Q:d.dep<=n)(M:e.dep<20000)(hA:A.units+n<aV):RcAt A s a b (D.AI d e)/\RcNeAt A s a b (!D.AI d e):=by
 have f:A.units<cLine:=by lia
 have items:=Qh I ih hA;have W:aV=9900:=rfl;have h1:=zp I hd ra (by lia);have E:=zp I he rb M
 cases h1 with
 |A7=>
  cases E with
  |A7=>exact⟨RcAt.none_none,RcNeAt.none_none⟩
  |bl c=>exact⟨RcAt.none_bool c,RcNeAt.none_bool c⟩
  |int c i=>exact⟨RcAt.none_int c i,RcNeAt.none_int c i⟩
  |str c i=>exact⟨RcAt.none_str c i,RcNeAt.none_str c i⟩
  |tup B t x h=>exact⟨RcAt.none_tuple h f,RcNeAt.none_tuple h f⟩
  |lst B t x h=>exact⟨RcAt.none_list h f,RcNeAt.none_list h f⟩
 |bl g=>
  cases E with
  |A7=>exact⟨RcAt.bool_none g,RcNeAt.bool_none g⟩
  |bl c=>exact⟨RcAt.bool_bool g c,RcNeAt.bool_bool g c⟩
  |int c i=>exact⟨RcAt.bool_int g c i,RcNeAt.bool_int g c i⟩
  |str c i=>exact⟨RcAt.bool_str g c i,RcNeAt.bool_str g c i⟩
  |tup B t x h=>exact⟨RcAt.bool_tuple g h f,RcNeAt.bool_tuple g h f⟩
  |lst B t x h=>exact⟨RcAt.bool_list g h f,RcNeAt.bool_list g h f⟩
 |int g k=>
  cases E with
  |A7=>exact⟨RcAt.int_none g k,RcNeAt.int_none g k⟩
  |bl c=>exact⟨RcAt.int_bool g k c,RcNeAt.int_bool g k c⟩
  |int c i=>exact⟨RcAt.int_int g k c i,RcNeAt.int_int g k c i⟩
  |str c i=>exact⟨RcAt.int_str g k c i,RcNeAt.int_str g k c i⟩
  |tup B t x h=>exact⟨RcAt.int_tuple g k h f,RcNeAt.int_tuple g k h f⟩
  |lst B t x h=>exact⟨RcAt.int_list g k h f,RcNeAt.int_list g k h f⟩
 |str g k=>
  cases E with
  |A7=>exact⟨RcAt.str_none g k,RcNeAt.str_none g k⟩
  |bl c=>exact⟨RcAt.str_bool g k c,RcNeAt.str_bool g k c⟩
  |int c i=>exact⟨RcAt.str_int g k c i,RcNeAt.str_int g k c i⟩
  |str c i=>exact⟨RcAt.str_str g k c i,RcNeAt.str_str g k c i⟩
  |tup B t x h=>exact⟨RcAt.str_tuple g k h f,RcNeAt.str_tuple g k h f⟩
  |lst B t x h=>exact⟨RcAt.str_list g k h f,RcNeAt.str_list g k h f⟩
 | @tup l p N o q r L j=>
  cases E with
  |A7=>exact⟨RcAt.tuple_none j f,RcNeAt.tuple_none j f⟩
  |bl c=>exact⟨RcAt.tuple_bool c j f,RcNeAt.tuple_bool c j f⟩
  |int c i=>exact⟨RcAt.tuple_int c i j f,RcNeAt.tuple_int c i j f⟩
  |str c i=>exact⟨RcAt.tuple_str c i j f,RcNeAt.tuple_str c i j f⟩
  | @tup m p2 U' C' B t x h=>
   have G:D.BI l+1<=n:=by rw[D.dep]at Q;exact Q
   have J:D.BI m<20000:=by rw[D.dep]at M;lia
   have F:=L.length;have P:=x.length;have R:=r.length;have S:=t.length;have w:=items l m N U' o C' _ _ G J r t L x;have z:=dV (RcAt.tuples j h f w)<|RcNeAt.tuples j h f w;simp only[kH]at z;rw[show o.length=l.length by lia,show C'.length=m.length by lia,yE]at z;exact z
  |lst B t x h=>exact⟨RcAt.tuple_list j h f,RcNeAt.tuple_list j h f⟩
 | @lst l p N o q r L j=>
  cases E with
  |A7=>exact⟨RcAt.list_none j f,RcNeAt.list_none j f⟩
  |bl c=>exact⟨RcAt.list_bool c j f,RcNeAt.list_bool c j f⟩
  |int c i=>exact⟨RcAt.list_int c i j f,RcNeAt.list_int c i j f⟩
  |str c i=>exact⟨RcAt.list_str c i j f,RcNeAt.list_str c i j f⟩
  |tup B t x h=>exact⟨RcAt.list_tuple j h f,RcNeAt.list_tuple j h f⟩
  | @lst m p2 U' C' B t x h=>
   have G:D.BI l+1<=n:=by rw[D.dep]at Q;exact Q
   have J:D.BI m<20000:=by rw[D.dep]at M;lia
   have F:=L.length;have P:=x.length;have R:=r.length;have S:=t.length;have Y:=yE l m;by_cases y:l.length=m.length
   .have w:=items l m N U' o C' _ _ G J r t L x;have q:o.toArray.size=C'.toArray.size:=by simp;lia
    have z:=dV (RcAt.lists j h q f w)<|RcNeAt.lists j h q f w;simp at z;rw[show o.length=min l.length m.length by lia]at z;show _/\RcNeAt _ _ _ _ (!D.Bc l m);rw[show D.AI (.lst l) (.lst m)=D.Bc l m from XV,<-Y,y];rw[y]at z;simpa using z
   have q:(o.toArray.size !=C'.toArray.size)=C:=by simp;lia
   have z:=dV (RcAt.lists_lengths j h q f)<|RcNeAt.lists_lengths j h q f;rw[show D.AI (.lst l) (.lst m)=D.Bc l m from XV,<-Y];rw[show(l.length==m.length)=U by simpa using y];simpa using z
def CZ(I:Inv X pins σ H s)(n:Nat)
  (T:∀(d e:D)(v u:V)(a b:iQ)(O k:AA)(A:je),kb X.K H O d v->kb X.K H k e u->RelV v a->RelV u b->d.dep+1<=n->e.dep<20000->A.units+n<aV+1->EqAt A s a b (D.AI d e)):
  ∀(d e:D)(v u:V)(a b:iQ)(O k:AA)(A:je),kb X.K H O d v->kb X.K H k e u->RelV v a->RelV u b->d.dep<=n->e.dep<20000->A.units+n<aV->EqAt A s a b (D.AI d e):=by
 intro d e v u a b O k A hd y C E m B Q;have N:aV=9900:=rfl;have h1:=zp I hd C (by lia);have l:=zp I y E B;refine TH (NU I T hd y C E m B Q).1 (λL=>?_) λb t z=>by subst z;cases h1
 subst L
 have no:∀{p:iG}{i j:nB},ka s.heap p i->s.heap.IsList p j->False:=λ⟨o,a,b,_⟩ ⟨M,c,d,_⟩=>by rw[a]at c;cases c;rw[b]at d;exact absurd d (by decide)
 cases h1 with
 |tup q r G w=>
  cases l with
  |tup g h x f=>have:=I.EO q g;subst this;rw[YP.inj I (by rw[D.dep]at m;lia) r h,D.Ca]
  |lst g h x f=>exact(no w f).elim
 |lst q r G w=>
  cases l with
  |tup g h x f=>exact(no f w).elim
  |lst g h x f=>have:=I.Ek q g;subst this;rw[YP.inj I (by rw[D.dep]at m;lia) r h,D.Ca]
 |_=>cases l;exact D.Ca _
def Bl(T:Inv X pins σ H s):∀(n:Nat)(d e:D)(v u:V)(a b:iQ)(O c:AA)(A:je),kb X.K H O d v->kb X.K H c e u->RelV v a->RelV u b->d.dep<=n->e.dep<20000->A.units+n<aV->EqAt A s a b (D.AI d e):=by
 intro n
 induction n with
 |zero=>intro d e v u a b O c A hd f i j g h k;exact CZ T 0 (λd e v u a b O c A hd f i j g h k=>absurd g<|by lia) d e v u a b O c A hd f i j g h k
 |succ n l=>intro d e v u a b O c A hd f i j g h k;exact CZ T (n+1) (λd e v u a b O c A hd f i j g h k=>l d e v u a b O c A hd f i j (by lia) h<|by lia) d e v u a b O c A hd f i j g h k
end
section
variable {X:Cx}{c:jF}{f:L2.St}{H:Hp}{s:iL}
def Up(T:Inv X c f H s)(hd:kb X.K H O d v)(i:kb X.K H g e u)(l:RelV v a)(m:RelV u b)(j:d.dep<=n)(k:e.dep<20000)(h:A.units+n<aV):RcAt A s a b (D.AI d e)/\RcNeAt A s a b (!D.AI d e):=
 NU T (λd e v u a b O g A x1 x2 x3 x4 x5 o x7=>Bl T (n-1) d e v u a b O g A x1 x2 x3 x4 (by lia) o<|by lia) hd i l m j k h
def Wr(j:X.A.units+60<aV):BP X (aw .Eq) (λx y H Q=>∃O d e,kb X.K H O d x/\kb X.K H O e y/\(d.dep<=50/\e.dep<=50)/\Q (.bl<|D.AI d e) H):=by intro c s f H x y v u Q T g i h;obtain⟨O,d,e,h1,a,b,q⟩:=h;exact(Up (A:=X.A) T h1 a g i b.1 (by lia)<|by lia).1 _ _ _ _ ⟨.bl _,H,T,rfl,q⟩
def Wn(j:X.A.units+60<aV):BP X (aw .NotEq) (λx y H Q=>∃O d e,kb X.K H O d x/\kb X.K H O e y/\(d.dep<=50/\e.dep<=50)/\Q (.bl (!D.AI d e)) H):=by intro c s f H x y v u Q T g i h;obtain⟨O,d,e,h1,a,b,q⟩:=h;exact(Up (A:=X.A) T h1 a g i b.1 (by lia)<|by lia).2 _ _ _ _ ⟨.bl _,H,T,rfl,q⟩
end
def jm{e:Type}{c:Prop}[Decidable c]{a b:e}(h:(if c then Y a else J)=Y b):c/\a=b:=by
 split at h
 .rename_i d;exact⟨d,kT h⟩
 cases h
section
variable {X:Cx}{c:jF}{f:L2.St}{H:Hp}{s:iL}
def ZX(I:Inv X c f H s){A:je}{l:List D}{n:List V}{a:jP}{O B:AA}{b:D}{Q:V}{x:iQ}(r:YP X.K H O l n)(v:Vals n a)(U:kb X.K H B b Q)(rx:RelV Q x)(hn:D.BI l<=50)(Y:b.dep<=50)(hA:A.units+60<aV):
  ∃e:iQ->Bool,(∀y∈a,EqAt A.in1 s y x<|e y)/\a.map e=l.map λd=>D.AI d b:=by
 let e:iQ->Bool:=λy=>match(a.zip l).find? (λp=>p.1==y)with
  |some p=>D.AI p.2 b
  |none=>W1
 have S:=v.length;have W:=r.length
 have key:∀(j:Nat)(h:j<a.length)(g:j<l.length),e a[j]=D.AI l[j] b:=λj h g=>by
  show(match(a.zip l).find? (λp=>p.1==a[j])with|some p=>D.AI p.2 b|none=>W1)=_
  cases q:(a.zip l).find? (λp=>p.1==a[j])with
  |none=>
   have:=List.find?_eq_none.mp q (a[j],l[j]) (by
    have:(a.zip l)[j]?=Wp (a[j],l[j]):=by simp[E8,jT g]
    exact nL this)
   simp at this
  |some p=>
   have N:=rc q;have M:=MQ q;obtain⟨i,L⟩:=sj M;obtain⟨P,p2⟩:=p;rw[E8]at L;have J:P=a[j]:=sU N;obtain⟨h1,k⟩:=L;have C:i<n.length:=by have:=(uj.mp h1).1;lia
   obtain⟨w,m,u⟩:=v.get<|jT C;have o:j<n.length:=by lia
   obtain⟨w',T,R⟩:=v.get<|jT o;rw[h1]at m;cases m;rw[jT h]at T;cases T;subst J;have hv:=u.inj R;have a1:=r.views k<|jT C;have G:=r.views (jT g)<|jT o;rw[hv]at a1;have Z:=D.ES k;have:=Rep.inj I (by lia) a1 G;exact oo (λz=>D.AI z b) this
 refine⟨e,λy F=>?_,?_⟩
 .obtain⟨j,h⟩:=sj F;have t:=(uj.mp h).1;have o:=(uj.mp h).2;have g:j<l.length:=by lia
  have E:j<n.length:=by lia
  obtain⟨w,m,u⟩:=v.get<|jT E;rw[h]at m;cases m;have hk:=key j t g;rw[o]at hk;rw[hk];have hd:=D.ES<|jT g;exact Bl I 50 _ _ _ _ _ _ O B A.in1 (.inl<|r.views (jT g)<|jT E) U u rx (by lia) (by lia) (by show A.units+1+50<aV;lia)
 apply xY
 .simp;lia
 intro j h1 k;simp at h1 k;simp;exact key j h1 k
def PD(T:Inv X c f H s){A:je}{l:List D}{j:List V}{a:jP}{O k:AA}{b:D}{i:V}{x:iQ}(r:YP X.K H O l j)(v:Vals j a)(t:kb X.K H k b i)(u:RelV i x)(p:D.BI l<=50)(g:b.dep<=50)(o:A.units+60<aV):
  ∃e:iQ->Bool,(∀y∈a,EqAt A.in1 s y x<|e y)/\a.any e=l.any λd=>D.AI d b:=by
 obtain⟨e,h,q⟩:=ZX T r v t u p g o;have m:a.any e=(a.map e).any id:=by rw[fH];rfl
 have n:(l.any λd=>D.AI d b)=(l.map λd=>D.AI d b).any id:=by rw[fH];rfl
 exact⟨e,h,by rw[m,n,q]⟩
def inD(x:D):D->Option Bool
 |.tup l=>if D.BI l<=50/\x.dep<=50 then Y (l.any λd=>D.AI d x)else J
 |.lst l=>if D.BI l<=50/\x.dep<=50 then Y (l.any λd=>D.AI d x)else J
 |_=>J
def zu(n:Bool)(E:X.A.units+60<aV):BP X (aw (if n then .NotIn else .In)) (λx y H Q=>∃O d e b,kb X.K H O d x/\kb X.K H O e y/\inD d e=Y b/\Q (.bl (if n then !b else b)) H):=by
 intro c s f H x y v u Q M L T h;obtain⟨O,d,e,b,h1,N,m,q⟩:=h
 cases e with
 |tup l=>
  obtain⟨i,rfl⟩:=jm m;obtain⟨a,G,rfl,t,r⟩:=lV N;cases T;obtain⟨g,B,j,_⟩:=M.tuple t;obtain⟨e,p,o⟩:=PD (A:=X.A) M r B h1 L i.1 i.2 E;have k:∀w∈g.toArray,EqAt X.A.in1 s w v (e w):=λw z=>p w (by simpa using z);rw[<-o,show g.any e=g.toArray.any e by simp]at q;cases n
  .exact in_tupleAt e j k ⟨.bl _,H,M,rfl,q⟩
  exact notIn_tupleAt e j k ⟨.bl _,H,M,rfl,q⟩
 |lst l=>
  obtain⟨i,rfl⟩:=jm m;obtain⟨a,G,rfl,t,r⟩:=lh N;cases T;obtain⟨g,B,j,_⟩:=M.list t;obtain⟨e,p,o⟩:=PD (A:=X.A) M r B h1 L i.1 i.2 E;have k:∀w∈g.toArray,EqAt X.A.in1 s w v (e w):=λw z=>p w (by simpa using z);rw[<-o,show g.any e=g.toArray.any e by simp]at q;cases n
  .exact in_listAt e j.isList k ⟨.bl _,H,M,rfl,q⟩
  exact notIn_listAt e j.isList k ⟨.bl _,H,M,rfl,q⟩
 |_=>cases m
end
inductive rD1(K:ji)(g:D->Option (D×Bool))(x:V)(H:Hp)(Q:VK):Prop where
 |mk (O:AA) (d:D) (z:D×Bool) (_:∀p,¬Ow (H p)->¬O p) (_:kb K H O d x) (_:g d=Wp z) (_:Gen K H O z Q)
inductive rD(K:ji)(g:D->D->Option (D×Bool))(x y:V)(H:Hp)(Q:VK):Prop where
 |mk (O:AA) (d e:D) (z:D×Bool) (_:∀p,¬Ow (H p)->¬O p) (_:kb K H O d x) (_:kb K H O e y) (_:g d e=Wp z) (_:Gen K H O z Q)
inductive Fp(K:ji)(g:List D->Option (D×Bool))(vs:List V)(H:Hp)(Q:VK):Prop where
 |mk (O:AA) (ds:List D) (z:D×Bool) (_:∀p,¬Ow (H p)->¬O p) (_:(X0 ds)=X0 vs) (_:∀(j:Nat) d v,ds[j]?=Wp d->vs[j]?=Wp v->kb K H O d v) (_:g ds=Wp z) (_:Gen K H O z Q)
section
variable {X:Cx}{e a b:iR}{fa fb:FO}{fs:List FO}{pos:br}
def px1(h:PE X e (tUn (rD1 X.K g)<|tO X.K fa)):PX X e (lX g fa):=VO h λx z v T O Q np d c G=>⟨O,x,z,np,d,c,G⟩
def OI(h:PE X e (LY (rD X.K g) (tO X.K fa)<|tO X.K fb)):PX X e (jf g fa fb):=VN h λx y z v u T O Q np d f c G=>⟨O,x,y,z,np,d,f,c,G⟩
def pxn(h:PE X e (N0 (Fp X.K g)<|tA X.K fs)):PX X e (jl g fs):=RN h λc z i T O Q np f hv d G=>⟨O,c,z,np,f,hv,d,G⟩
def jH{K T}{O:AA}{i:Int}{v:V}(h:kb K T O (.int i) v):v=.int i:=h.elim (λh=>h.int) λ⟨_,_,h⟩=>h.elim
def D3{K T}(h:kb K T O (.bl i) v):v=.bl i:=h.elim (λh=>h.bl) λ⟨_,_,h⟩=>h.elim
def wu{K T}(h:kb K T O (.str i) v):v=.str i:=h.elim (λh=>h.str) λ⟨_,_,h⟩=>h.elim
def Fl{K T}(h:kb K T O .A7 v):v=.A7:=h.elim (λh=>h.A7) λ⟨_,_,h⟩=>h.elim
def Gen.str{K T}(g:Gen K T O (.str i,U) Q):Q (.str i) T:=g _ T (λ_ _ e=>e) Rep.mkStr
noncomputable def gI(f:Int->Int->Option D):D->D->Option (D×Bool)
 |.int i,.int j=>(f i j).map λz=>(z,U)
 |_,_=>J
def zD{f:Int->Int->Option D}{d e:D}{z:D×Bool}(h:gI f d e=Y z):∃i j y,d=.int i/\e=.int j/\f i j=Y y/\z=(y,U):=by
 cases d with
 |int i=>
  cases e with
  |int j=>
   cases c:f i j with
   |none=>simp only[gI,c]at h;cases h
   |some y=>simp only[gI,c]at h;cases h;exact⟨i,j,y,rfl,rfl,c,rfl⟩
  |_=>cases h
 |_=>cases h
def zt{f:yJ}{T:Int->Int->Prop}[∀i j,Decidable<|T i j]{g:Int->Int->Int}(o:BP X f (rI T λi j=>.int (g i j))):BP X f (rD X.K (gI λi j=>if T i j then Y (.int<|g i j)else J)):=by intro c s r M x y v u Q N p q h;obtain⟨O,d,e,z,np,h1,k,n,G⟩:=h;obtain⟨i,j,w,rfl,rfl,m,rfl⟩:=zD n;obtain⟨l,rfl⟩:=jm m;exact o c s r M x y v u Q N p q ⟨i,j,jH h1,jH k,l,G.int⟩
def agB{f:yJ}{g:Int->Int->Int}(n:BP X f (KN λi j=>.int (g i j))):BP X f (rD X.K<|gI λi j=>Y<|.int<|g i j):=by intro c s q N x y v u Q T o p h;obtain⟨O,d,e,z,np,h1,k,m,G⟩:=h;obtain⟨i,j,w,rfl,rfl,l,rfl⟩:=zD m;cases l;exact n c s q N x y v u Q T o p ⟨i,j,jH h1,jH k,G.int⟩
instance(i j:Int):Decidable (EK i j):=by unfold EK;exact inferInstance
instance(i j:Int):Decidable (Mf i j):=by unfold Mf;exact inferInstance
instance(i j:Int):Decidable (E7 i j):=by unfold E7;exact inferInstance
def F1:=gI λi j=>Y<|.int<|i-j
def sH:=gI λi j=>if EK i j then Y (.int<|i*j)else J
def PU:=gI λi j=>if Mf i j then Y (.int<|i / j)else J
def A0:=gI λi j=>if 0<j then Y (.int<|i%j)else J
def PL:=gI λi j=>if E7 i j then Y (.int<|i^j.toNat)else J
def Sd:BP X (bL .Sub) (rD X.K F1):=agB Wl
def Sg:BP X (bL .Mult) (rD X.K sH):=zt Wo
def Sm:BP X (bL .FloorDiv) (rD X.K PU):=zt So
def Si:BP X (bL .Mod) (rD X.K A0):=zt Wq
def Se:BP X (bL .Pow) (rD X.K PL):=zt Wm
noncomputable def nq:D->D->Option (D×Bool)
 |.int i,.int j=>Y (.int<|i+j,U)
 |.str i,.str j=>if i.length+j.length<=sizeLine then Y (.str<|i++j,U)else J
 |.tup l,.tup m=>if l.length+m.length<=sizeLine then Y (.tup<|l++m,U)else J
 |.lst l,.lst m=>if l.length+m.length<=sizeLine then Y (.lst<|l++m,C)else J
 |_,_=>J
def Sn:BP X (bL .Add) (rD X.K nq):=by
 intro g s σ H x y v u Q I L T h;obtain⟨O,d,e,z,np,h1,J,k,G⟩:=h
 cases d with
 |int i=>
  cases e with
  |int j=>cases k;exact Ws g s σ H x y v u Q I L T ⟨i,j,jH h1,jH J,G.int⟩
  |_=>cases k
 |str i=>
  cases e with
  |str j=>obtain⟨V,rfl⟩:=jm k;exact ael g s σ H x y v u Q I L T ⟨i,j,wu h1,wu J,V,G.str⟩
  |_=>cases k
 |tup l=>
  cases e with
  |tup m=>
   obtain⟨V,rfl⟩:=jm k;have k1:Rep X.K H O (.tup l) x:=h1.elim id λ⟨_,_,z⟩=>z.elim;have k2:Rep X.K H O (.tup m) y:=J.elim id λ⟨_,_,z⟩=>z.elim;obtain⟨M,xs,rfl,N,B⟩:=k1.tup;obtain⟨A,ys,rfl,U,C⟩:=k2.tup;have l1:=B.length;have l2:=C.length;by_cases hx:xs=[]
   .subst hx;have:l=[]:=by simpa using l1.symm
    subst this;cases L;cases T;obtain⟨f,Y,S,_⟩:=I.tuple N.sq;obtain⟨o,v2,R,_⟩:=I.tuple U.sq;have e1:f=[]:=by have:=Y.length;simpa using this.symm
    subst e1;obtain⟨⟨P,dd,q,Z⟩,r,w,n,hd⟩:=id S;obtain⟨⟨cY,D,data2,u7⟩,E,t,W,c⟩:=id R;simp only at w hd t c;subst w hd t c
    refine DT ⟨_,r,rfl⟩ ⟨_,E,rfl⟩ Hg Hf He Hd (Hc _ _)
     (tuple_addW0 M A #[] o.toArray n W dd D Z u7 (by simp)) ⟨r,E,⟨.ref A,H,I,rfl,?_⟩⟩
    exact G _ H (λ_ _ e=>e) (by simpa using k2)
   refine Sq g s σ H _ _ v u Q I L T ⟨M,A,xs,ys,rfl,rfl,N.sq,U.sq,hx,by lia,λhy=>?_,λhy p hp=>?_⟩
   .subst hy;have:m=[]:=by simpa using l2.symm
    subst this;exact G _ H (λ_ _ e=>e) (by simpa using k1)
   exact G.tup hp (np p<|NA hp) (B.append C)
  |_=>cases k
 |lst l=>
  cases e with
  |lst m=>
   obtain⟨V,rfl⟩:=jm k;obtain⟨M,xs,rfl,N,B⟩:=lh h1;obtain⟨A,ys,rfl,U,C⟩:=lh J;have l1:=B.length;have l2:=C.length;cases L;cases T;obtain⟨f,Y,S,_⟩:=I.list N;obtain⟨o,v2,R,_⟩:=I.list U;have e1:=Y.length;have e2:=v2.length;obtain⟨⟨P,dd,q,Z⟩,r,w,n,hd⟩:=id S.isList;obtain⟨⟨cY,D,data2,u7⟩,E,t,W,c⟩:=id R.isList;simp only at w hd t c;subst w hd t c
   refine DT ⟨_,r,rfl⟩ ⟨_,E,rfl⟩ noFill_list_add seq_list_add PySem.F.slot_list_add PySem.F.entry_list_add (PySem.F.args_list_add_2 _ _)
    (list_addW M A f.toArray o.toArray n W dd D Z u7<|by simp;lia) ⟨r,E,?_⟩
   rw[show f.toArray++o.toArray=(f++o).toArray by simp];exact⟨.ref _,_,I.NH (t':=s.toks) (Y.append v2)<|by rw[nR];lia,rfl,G.lst I.fresh<|B.append C⟩
  |_=>cases k
 |_=>cases k
def Gv(d e:D):Option (D×Bool):=if d.dep<=50/\e.dep<=50 then Y (.bl<|D.AI d e,U)else J
def HH(d e:D):Option (D×Bool):=if d.dep<=50/\e.dep<=50 then Y (.bl (!D.AI d e),U)else J
def Lp(d e:D):Option (D×Bool):=(inD d e).map λb=>(.bl b,U)
def oO(d e:D):Option (D×Bool):=(inD d e).map λb=>(.bl (!b),U)
def Wk(j:X.A.units+60<aV):BP X (aw .Eq) (rD X.K Gv):=by intro c s m N x y v u Q T k l h;obtain⟨O,d,e,z,np,h1,f,i,G⟩:=h;obtain⟨g,rfl⟩:=jm i;exact Wr j c s m N x y v u Q T k l ⟨O,d,e,h1,f,g,G.bl⟩
def Wh(j:X.A.units+60<aV):BP X (aw .NotEq) (rD X.K HH):=by intro c s m N x y v u Q T k l h;obtain⟨O,d,e,z,np,h1,f,i,G⟩:=h;obtain⟨g,rfl⟩:=jm i;exact Wn j c s m N x y v u Q T k l ⟨O,d,e,h1,f,g,G.bl⟩
inductive BndM{α β:Type}(x:Option α)(f:α->β)(b:β):Prop where
 |mk (a:α) (_:x=Wp a) (_:f a=b)
def jw{c d:Type}{x:Option c}{f:c->d}{b:d}(h:x.map f=Y b):BndM x f b:=by
 cases x with
 |none=>cases h
 |some a=>exact⟨a,rfl,kT h⟩
def Wj(j:X.A.units+60<aV):BP X (aw .In) (rD X.K Lp):=by intro c s m N x y v u Q T k l h;obtain⟨O,d,e,z,np,h1,f,i,G⟩:=h;obtain⟨b,g,rfl⟩:=jw i;exact zu U j c s m N x y v u Q T k l ⟨O,d,e,b,h1,f,g,G.bl⟩
def aeV(j:X.A.units+60<aV):BP X (aw .NotIn) (rD X.K oO):=by intro c s m N x y v u Q T k l h;obtain⟨O,d,e,z,np,h1,f,i,G⟩:=h;obtain⟨b,g,rfl⟩:=jw i;exact zu C j c s m N x y v u Q T k l ⟨O,d,e,b,h1,f,g,G.bl⟩
noncomputable def yz:D->Option (D×Bool)
 |.int i=>Y (.int (-i),U)
 |_=>J
def Rm:OU X (MB .USub) (rD1 X.K yz):=by
 intro c s j N x v Q T g h;obtain⟨O,d,z,np,h1,f,G⟩:=h
 cases d with
 |int i=>cases f;exact Vk c s j N x v Q T g ⟨i,jH h1,G.int⟩
 |_=>cases f
def BY:D->D->Option (D×Bool)
 |.tup l,.int i=>(Hv l i).map λd=>(d,U)
 |.lst l,.int i=>(Hv l i).map λd=>(d,U)
 |_,_=>J
def Kj{K T}{O:AA}{l:List D}{c:List V}{i:Int}{d:D}(r:YP K T O l c)(h:Hv l i=Y d):∃v,Hv c i=Y v/\Rep K T O d v:=by unfold Hv at h ⊢;rw[r.length];obtain⟨j,h1,f⟩:=iM h;rw[h1];obtain⟨v,g,k⟩:=r.get f;exact⟨v,g,k⟩
def UB:Nn X (rD X.K BY):=by
 intro f c g s E M x y v u Q N B T h A;obtain⟨O,d,e,z,np,h1,t,j,G⟩:=h
 cases d with
 |tup l=>
  cases e with
  |int i=>obtain⟨w,m,rfl⟩:=jw j;obtain⟨p,o,rfl,q,r⟩:=lV h1;obtain⟨n,hv,k⟩:=Kj r m;exact WL f c g s E M _ _ v u Q N B T ⟨p,o,i,n,rfl,jH t,q,hv,G _ M (λ_ _ e=>e) k⟩ A
  |_=>cases j
 |lst l=>
  cases e with
  |int i=>obtain⟨w,m,rfl⟩:=jw j;obtain⟨p,o,rfl,q,r⟩:=lh h1;obtain⟨n,hv,k⟩:=Kj r m;exact S6 f c g s E M _ _ v u Q N B T ⟨p,o,i,n,rfl,jH t,q,hv,G _ M (λ_ _ e=>e) k⟩ A
  |_=>cases j
 |_=>cases j
end
noncomputable def qw:List BN->Option (List D)
 |[]=>Y []
 |.val r::os=>(qw os).map (r.1:: ·)
 |.slot _::_=>J
def nO(fs:List F):F:=λδ=>(kM (fs.map iY) δ).bind λp=>(qw p.1).bind λds=>if (X0 ds)<=sizeLine then Y ((.tup ds,U),p.2)else J
def oP(fs:List F):F:=λδ=>(kM (fs.map iY) δ).bind λp=>(qw p.1).bind λa=>if (X0 a)<=sizeLine then Y ((.lst a,C),p.2)else J
section
variable {K:ji}{T n:AA}{g:L2.St}{m e:Dn}{H f:Hp}{os:List BN}{c:List V}
def Ops.rep(E:ER K H T g m)(B:Ops K T g m H os c e f n){j:Nat}{r:D×Bool}{v:V}(h1:os[j]?=Y (.val r))(h:c[j]?=Y v):Rep K f (λa=>A1 g e a\/T a) r.1 v:=by
 obtain⟨d,b⟩:=r
 cases b
 .exact B.val j d v h1 h
 obtain⟨p,rfl,k,i,ok⟩:=B.tmp j d v h1 h;refine ok.rep (λz=>?_) λb _ z=>z;rcases z with z|z
 .exact B.er.nT p z k
 exact(E.dom p z).ne i
theorem vH{O:AA}:∀{os:List BN}{c:List V}{d:List D},qw os=Y d->os.length=X0 c->(∀(j:Nat)(r:D×Bool)(v:V),os[j]?=Y (.val r)->c[j]?=Y v->Rep K f O r.1 v)->YP K f O d c
 |[],c,d,h,o,_=>by
  cases h;have:c=[]:=by simpa using o.symm
  subst this;exact YP.nil
 |.slot i::os,c,d,h,_,_=>by cases h
 |.val r::os,c,d,h,o,k=>by
  obtain⟨l,h1,rfl⟩:=jw h
  cases c with
  |nil=>simp at o
  |cons v c=>exact YP.cons (k 0 r v I I)<|vH h1 (by simpa using o) λj p q a b=>k (j+1) p q (by simpa using a) (by simpa using b)
end
section
variable {X:Cx}{e a b:iR}{m:kD}{n fb:FO}{fs:List F}{c:br}
def VJ{x1}(h:PA X m (tA X.K<|fs.map iY)):PX X (.Tuple m x1 c) (nO fs):=PX.imp (Oj h) λy O Q l=>by obtain⟨o,T,w,q,E,e,k⟩:=l;obtain⟨os,d,h1,e⟩:=iW e;obtain⟨u,g,e⟩:=iM e;obtain⟨i,e⟩:=jm e;obtain⟨rfl,rfl⟩:=uW e;refine⟨o,T,os,d,E,h1,λx s t B=>?_⟩;have r:=vH g B.len λj r v a b=>B.rep E a b;exact⟨by rw[r.length];exact i,λp f=>(B.done k).tup f (B.np<|NA f) r⟩
def VQ(h:PA X m (tA X.K<|fs.map iY)):PX X (.List m c) (oP fs):=PX.imp (We h) λy O Q l=>by obtain⟨o,T,w,q,E,e,k⟩:=l;obtain⟨os,d,h1,e⟩:=iW e;obtain⟨u,f,e⟩:=iM e;obtain⟨g,e⟩:=jm e;obtain⟨rfl,rfl⟩:=uW e;refine⟨o,T,os,d,E,h1,λx s t B=>?_⟩;have r:=vH f B.len λj r v a b=>B.rep E a b;exact⟨by rw[r.length];exact g,λp i=>(B.done k).lst i r⟩
def JD{g:List D}{f:List V}{d:D}(h:(X0 g)=X0 f)(hd:g=[d]):∃v,f=[v]:=by
 subst hd
 cases f with
 |nil=>simp at h
 |cons v r=>
  cases r with
  |nil=>exact⟨v,rfl⟩
  |cons _ _=>simp at h
noncomputable def g1(g:D->Option (D×Bool)):List D->Option (D×Bool)
 |[d]=>g d
 |_=>J
noncomputable def g2(g:D->D->Option (D×Bool)):List D->Option (D×Bool)
 |[d,e]=>g d e
 |_=>J
def oR{f:iQ}{g:D->Option (D×Bool)}(h:∀(i:jF)(s:iL)(j:L2.St)(N:Hp)(x:V)(u:iQ)(Q:VK)(O:AA)(d:D)(z:D×Bool),Inv X i j N s->RelV x u->(∀p,¬Ow (N p)->¬O p)->kb X.K N O d x->g d=Y z->Gen X.K N O z Q->
  ag (ah X.prog X.w) X.A (call f [u]) (EP X i j Q) X.xe s):kI X f (Fp X.K<|g1 g):=by
 intro i s j N xs y Q T r q;obtain⟨O,l,z,np,o,hv,k,G⟩:=q
 match l,k with
 |[d],k=>obtain⟨v,rfl⟩:=JD o I;obtain⟨u,rfl,t⟩:=qm r;exact h i s j N v u Q O d z T t np (hv 0 d v I I) k G
def Qr{f:iQ}{g:D->D->Option (D×Bool)}(h:∀(i:jF)(s:iL)(k:L2.St)(N:Hp)(x y:V)(j:jP)(Q:VK)(O:AA)(d e:D)(z:D×Bool),Inv X i k N s->Vals [x,y] j->(∀p,¬Ow (N p)->¬O p)->kb X.K N O d x->kb X.K N O e y->g d e=Y z->Gen X.K N O z Q->
  ag (ah X.prog X.w) X.A (call f j) (EP X i k Q) X.xe s):kI X f (Fp X.K<|g2 g):=by
 intro i s k N u j Q T r t;obtain⟨O,o,z,np,q,hv,l,G⟩:=t;rcases o with _|⟨d,_|⟨e,_|⟨_,_⟩⟩⟩<;>try cases l
 rcases u with _|⟨x,_|⟨y,_|⟨_,_⟩⟩⟩<;>try cases q
 exact h i s k N x y j Q O d e z T r np (hv 0 d x I I) (hv 1 e y I I) l G
noncomputable def A4:D->Option (D×Bool)
 |.tup l=>Y (.int<|X0 l,U)
 |.lst l=>Y (.int<|X0 l,U)
 |_=>J
def afn:kI X (.builtin "len") (Fp X.K<|g1 A4):=oR λf s j N x u Q O d z T i np hd g G=>by
 cases d with
 |tup l=>
  cases g;obtain⟨p,h,rfl,q,r⟩:=lV hd;refine xq f s j N [_] [u] Q T (.cons i .nil) ⟨p,h,rfl,.inr q,?_⟩;rw[r.length];exact G.int
 |lst l=>
  cases g;obtain⟨p,h,rfl,q,r⟩:=lh hd;refine xq f s j N [_] [u] Q T (.cons i .nil) ⟨p,h,rfl,.inl q,?_⟩;rw[r.length];exact G.int
 |_=>cases g
noncomputable def BX:D->Option (D×Bool)
 |.int i=>Y (.int (if i<0 then -i else i),U)
 |_=>J
def afr:kI X (.builtin "abs") (Fp X.K<|g1 BX):=oR λf s j N x u Q O d z T h np hd g G=>by
 cases d with
 |int i=>cases g;exact Qs f s j N [x] [u] Q T (.cons h .nil) ⟨i,by rw[jH hd],G.int⟩
 |_=>cases g
noncomputable def LD:D->Option (D×Bool)
 |.int i=>Y (.int i,U)
 |.bl b=>Y (.int (if b then 1 else 0),U)
 |_=>J
def afo:kI X (.type "int") (Fp X.K<|g1 LD):=oR λf s j N x u Q O d z T h np hd g G=>by
 cases d with
 |int i=>cases g;exact De f s j N [x] [u] Q T (.cons h .nil)<|.inl ⟨i,by rw[jH hd],G.int⟩
 |bl i=>
  cases g;refine De f s j N [x] [u] Q T (.cons h .nil)<|.inr ⟨i,by rw[D3 hd],?_⟩;have:=G.int;cases i<;>exact this
 |_=>cases g
noncomputable def oN:D->Option (D×Bool)
 |.tup l=>Y (.tup l,U)
 |.lst l=>Y (.tup l,U)
 |_=>J
def ad8:kI X (.type "tuple") (Fp X.K<|g1 oN):=oR λf s o N x u Q O d z T k np hd g G=>by
 cases d with
 |tup l=>
  cases g;have j:Rep X.K N O (.tup l) x:=hd.elim id λ⟨_,_,z⟩=>z.elim;obtain⟨p,h,rfl,q,r⟩:=j.tup;exact vd f s o N [_] [u] Q T (.cons k .nil) ⟨p,h,rfl,.inr ⟨q.sq,G _ N (λ_ _ e=>e) j⟩⟩
 |lst l=>
  cases g;obtain⟨p,h,rfl,q,r⟩:=lh hd;exact vd f s o N [_] [u] Q T (.cons k .nil) ⟨p,h,rfl,.inl ⟨q,λt i=>G.tup i (np t<|NA i) r⟩⟩
 |_=>cases g
noncomputable def CP:D->Option (D×Bool)
 |.tup l=>Y (.lst l,C)
 |.lst l=>Y (.lst l,C)
 |_=>J
def aeN:kI X (.type "list") (Fp X.K<|g1 CP):=oR λf s k N x u Q O d z T j np hd g G=>by
 cases d with
 |tup l=>
  cases g;obtain⟨p,i,rfl,q,r⟩:=lV hd;exact xo f s k N [_] [u] Q T (.cons j .nil) ⟨p,i,rfl,.inr q,λt h=>G.lst h r⟩
 |lst l=>
  cases g;obtain⟨p,i,rfl,q,r⟩:=lh hd;exact xo f s k N [_] [u] Q T (.cons j .nil) ⟨p,i,rfl,.inl q,λt h=>G.lst h r⟩
 |_=>cases g
end
abbrev FT:=Dn->Option (Bool×Dn)
inductive tT(K:ji)(f:FT)(σ:L2.St)(H:Hp)(Q:Bool->Hp->Prop):Prop where
 |mk (δ:Dn) (T:AA) (b:Bool) (δ':Dn) (_:ER K H T σ δ) (_:f δ=Wp (b,δ')) (_:∀H',BJ σ δ H δ' H'->ER K H' T σ δ'->Q b H')
def OX(X:Cx)(e:iR)(f:FT):Prop:=PT X e<|tT X.K f
def PWX(X:Cx)(e:iR)(f:FT):Prop:=PW X e<|tT X.K f
noncomputable def LM:(D×Bool)×Dn->Option (Bool×Dn)
 |((.bl b,_),a)=>Y (b,a)
 |_=>J
def fT(f:F):FT:=λδ=>(f δ).bind LM
def Bx(h:LM p=Y q):∃o,p=((.bl q.1,o),q.2):=by
 obtain⟨⟨d,o⟩,a⟩:=p
 cases d with
 |bl b=>cases h;exact⟨o,rfl⟩
 |_=>cases h
def Ui{K:ji}{f:F}{a:L2.St}{O:Hp}{Q:Bool->Hp->Prop}(h:tT K (fT f) a O Q):tF K f a O λx i=>∃c,x=.bl c/\Q c i:=by obtain⟨l,T,b,m,E,e,k⟩:=h;obtain⟨p,h1,j⟩:=iM e;obtain⟨o,rfl⟩:=Bx j;refine⟨l,T,_,_,E,h1,λv g P=>?_⟩;obtain⟨d,r⟩:=P.rep E;exact⟨b,r.bl,k g P.1 d⟩
section
variable {X:Cx}{e a b c:iR}{w:kD}{i fb:FO}{f g:F}{n m:FT}{l:br}
def PT.imp'(h:PT X e t)(k:∀j O Q,p j O Q->t j O Q):PT X e p:=λd s j O Q T o=>h d s j O Q T<|k j O Q o
def PW.imp'(h:PW X e t)(k:∀j O Q,p j O Q->t j O Q):PW X e p:=λwh d s j O Q T o=>h wh d s j O Q T<|k j O Q o
def Sv{r:R2}{g:D->D->Option (D×Bool)}(J:XA X.K r g){t:L2.St}{H:Hp}{Q:VK}(M:tF X.K (jf g i fb) t H Q):LY r (tO X.K i) (tO X.K fb) t H Q:=by obtain⟨U,T,P,Y,E,e,k⟩:=M;obtain⟨o,d,h1,e⟩:=iW e;obtain⟨N,q,C,e⟩:=iW e;obtain⟨x,I,e⟩:=iM e;obtain⟨y,L,e⟩:=iM e;obtain⟨z,O,e⟩:=iM e;obtain⟨rfl,rfl⟩:=jn e;refine⟨U,T,o,d,E,h1,λv F h=>⟨d,EZ T o v,N,q,h.er E,C,λu A s=>?_⟩⟩;have B:=Ops.cons E h<|Ops.cons (h.er E) s<|Ops.nil<|s.er<|h.er E;exact J x y z v u A _ Q (λp G=>B.np G) (B.view (j:=0) XV XV I) (B.view (j:=1) XV XV L) O (B.done k)
def Zq{K:ji}{g:D->D->Option (D×Bool)}:XA K (rD K g) g:=λx y z v u T O Q np h j d G=>⟨O,x,y,z,np,h,j,d,G⟩
noncomputable def yS(f g:FT):FT:=λd=>(f d).bind λp=>if p.1=C then g p.2 else Y (U,p.2)
noncomputable def Qc(f g:FT):FT:=λd=>(f d).bind λp=>if p.1=C then Y (C,p.2)else g p.2
noncomputable def rA(f:FT):FT:=λδ=>(f δ).bind λp=>Y (!p.1,p.2)
def zk(f g:F):F:=λd=>(f d).bind λp=>(LM p).bind λq=>if q.1=C then g q.2 else Y ((.bl U,U),q.2)
def Xd(f:F):F:=λd=>(f d).bind λp=>(LM p).bind λq=>Y ((.bl (!q.1),U),q.2)
def B8.pre{K:ji}{T:AA}{h:L2.St}{δ δ1 δ2:Dn}{Q j q:Hp}{r:D×Bool}{v:V}(k:BJ h δ Q δ1 j)(P:B8 K T h δ1 j r δ2 v q):B8 K T h δ Q r δ2 v q:=by
 refine⟨k.trans P.1,?_⟩;obtain⟨d,o⟩:=r
 cases o
 .exact P.2
 obtain⟨p,h1,s,t⟩:=P.2;refine⟨p,h1,?_,t⟩
 cases u:Q p with
 |none=>rfl
 |some x=>exact absurd s<|k.dm p (by rw[u];simp)
noncomputable def Ky(t:FT)(f g:F):F:=λd=>(t d).bind λp=>if p.1=C then f p.2 else g p.2
end
inductive Out where
 |nx(δ:Dn)|rt(r:D×Bool)(δ:Dn)|bk(δ:Dn)|ct(δ:Dn)
abbrev FS:=Dn->Option Out
structure SK(A:ki)(σ:L2.St)(δ:Dn)(H:Hp)(σ':L2.St)(δ':Dn)(H':Hp):Prop where
 kp:∀a o,H a=Wp o->¬A1 σ δ a->H' a=Wp o
 owi:∀i a,AK σ' δ' i a->AK σ δ i a\/H a=WF\/(A i/\∃j,A j/\AK σ δ j a)
 dm:∀a,H a≠WF->H' a≠WF
 as:∀i,¬A i->σ'[i]?=σ[i]?
structure LL where
 p:Nat->Prop
 st:Option L2.St
structure FI(A:ki)(L:LL)(H0:Hp)(σ:L2.St)(δ:Dn)(H:Hp):Prop where
 ow:∀i a,AK σ δ i a->L.p i\/H0 a=WF
 dm:∀a,H0 a≠WF->H a≠WF
 al:∀j,A j->¬L.p j
 gh:∀z,L.st=Wp z->∀i,¬A i->σ[i]?=z[i]?
def RV(K:ji)(T:AA)(f:Hp)(r:D×Bool)(c:L2.St)(b:Dn)(v:V)(e:Hp):Prop:=
 match r with
 |(d,U)=>ER K e T c b/\Rep K e (λa=>A1 c b a\/T a) d v
 |(d,C)=>∃p,v=.ref p/\f p=J/\ER K e (λa=>T a\/a=p) c b/\Ba K e (λa=>A1 c b a\/T a\/a=p) d p
section
variable {A:ki}{c b m:L2.St}{δ δ1 δ2:Dn}{H l g q:Hp}{L:LL}{K:ji}{T:AA}
def SK.refl:SK A c δ H c δ H:=⟨λ_ _ e _=>e,λ_ _ z=>.inl z,λ_ z=>z,λ_ _=>rfl⟩
def SK.ow(k:SK A c δ H b δ1 g)(a:iG)(h:A1 b δ1 a):A1 c δ a\/H a=J:=by
 obtain⟨i,d,h1,o⟩:=h;rcases k.owi i a ⟨d,h1,o⟩with⟨e,f,n⟩|z|⟨_,j,_,e,f,n⟩
 .exact .inl ⟨i,e,f,n⟩
 .exact .inr z
 exact .inl ⟨j,e,f,n⟩
def SK.trans(x:SK A c δ H b δ1 g)(y:SK A b δ1 g m δ2 q):SK A c δ H m δ2 q where
 kp:=λa o e n=>y.kp a o (x.kp a o e n) λz=>(x.ow a z).elim n λz=>by rw[z]at e;cases e
 owi:=λi a z=>(y.owi i a z).elim (x.owi i a) λz=>z.elim (λz=>.inr (.inl (by
  cases h:H a with
  |none=>rfl
  |some o=>exact absurd z<|x.dm a<|by rw[h];simp))) λ⟨d,j,f,z⟩=>(x.owi j a z).elim (λz=>.inr (.inr ⟨d,j,f,z⟩)) λz=>z.elim (λz=>.inr (.inl z)) λ⟨_,k,ak,z⟩=>.inr (.inr ⟨d,k,ak,z⟩)
 dm:=λa z=>y.dm a<|x.dm a z
 as:=λi h=>(y.as i h).trans<|x.as i h
def BJ.sk(k:BJ c δ H δ1 g):SK A c δ H c δ1 g:=⟨k.kp,λi a z=>.inl (k.owi i a z),k.dm,λ_ _=>rfl⟩
def FI.step(f:FI A L l c δ H)(k:SK A c δ H b δ1 g):FI A L l b δ1 g where
 ow:=λi a z=>(k.owi i a z).elim (f.ow i a) λz=>.inr (z.elim (λz=>by
  cases h:l a with
  |none=>rfl
  |some o=>exact absurd z<|f.dm a<|by rw[h];simp) λQ=>by obtain⟨_,j,d,z⟩:=Q;exact (f.ow j a z).resolve_left<|f.al j d)
 dm:=λa z=>k.dm a<|f.dm a z
 al:=f.al
 gh:=λz e i n=>(k.as i n).trans<|f.gh z e i n
def FI.fresh(f:FI A L l c δ H)(a:H p=J):l p=J:=by
 cases h:l p with
 |none=>rfl
 |some o=>exact absurd a<|f.dm p (by rw[h];simp)
end
def XC(K:ji)(A:ki)(f:Hp)(D:Ends)(e:L2.St)(d:Dn)(Q:Hp)(T:AA)(out:Out):Prop:=
 match out with
 |.nx b=>∀a c,SK A e d Q a b c->ER K c T a b->D.nx a c
 |.bk b=>∀a c,SK A e d Q a b c->ER K c T a b->D.bk a c
 |.ct b=>∀a c,SK A e d Q a b c->ER K c T a b->D.ct a c
 |.rt r b=>∀v a c,SK A e d Q a b c->RV K T f r a b v c->D.rt v c
inductive tS(K:ji)(A:ki)(L:LL)(H0:Hp)(f:FS)(D:Ends)(σ:L2.St)(H:Hp):Prop where
 |mk (δ:Dn) (T:AA) (out:Out) (_:ER K H T σ δ) (_:FI A L H0 σ δ H) (_:f δ=Wp out) (_:XC K A H0 D σ δ H T out)
def Lw(X:Cx)(A:ki)(L:LL)(a:Hp)(st:bc)(f:FS):Prop:=PS X st<|tS X.K A L a f
def IG(X:Cx)(A:ki)(L:LL)(a:Hp)(st:List bc)(f:FS):Prop:=HF X st<|tS X.K A L a f
noncomputable def jk:FS:=λδ=>Y<|.nx δ
noncomputable def iP(f g:FS):FS:=λδ=>(f δ).bind λo=>match o with
 |.nx δ1=>g δ1
 |o=>Y o
noncomputable def nj(f:F):FS:=λa=>(f a).bind λp=>Y<|.nx p.2
noncomputable def kN(f:F):FS:=λδ=>(f δ).bind λp=>Y<|.rt p.1 p.2
noncomputable def qp(i:Nat):FS:=λa=>match a[i]? with
 |some (Y (d,C))=>Y<|.rt (d,C)<|a.set i J
 |some (Y (d,U))=>Y<|.rt (d,U) a
 |_=>J
noncomputable def EF(t:FT)(f g:FS):FS:=λδ=>(t δ).bind λp=>if p.1=C then f p.2 else g p.2
noncomputable def kj(i:Nat)(f:F):FS:=λa=>(f a).bind λp=>if i<(X0 p.2)then Y (.nx<|p.2.set i<|Y p.1)else J
section
variable {X:Cx}{A:ki}{L:LL}{d:Hp}{st:bc}{Ij:List bc}{f g:FS}{l:F}{j:FT}{e c:iR}{i:br}
def PS.imp'(h:PS X st t)(k:∀D b Q,n D b Q->t D b Q):PS X st n:=λa s b Q D T m=>h a s b Q D T<|k D b Q m
def HF.imp'(h:HF X Ij t)(k:∀D b Q,n D b Q->t D b Q):HF X Ij n:=λa s b Q D T m=>h a s b Q D T<|k D b Q m
def VZ(O:OX X c j)(N:IG X A L d a f)(M:IG X A L d b g):Lw X A L d (.If c a b i) (EF j f g):=PS.imp' (Ut O N M) λD u H G=>by
 obtain⟨x,T,out,E,B,e,k⟩:=G;obtain⟨c,n,h1,e⟩:=iW e;refine⟨x,T,c,n,E,h1,λw z y=>?_⟩;have t:SK A u x H u n w:=z.sk
 have fin:∀(h:FS),h n=Y out->tS X.K A L d h D u w:=λh Q=>by
  refine⟨n,T,out,y,B.step t,Q,?_⟩
  cases out with
  |nx q=>exact λm o p s=>k m o (t.trans p) s
  |bk q=>exact λm o p s=>k m o (t.trans p) s
  |ct q=>exact λm o p s=>k m o (t.trans p) s
  |rt r q=>exact λv m o p R2=>k v m o (t.trans p) R2
 cases c with
 |true=>rw[iZ I]at e;exact(show(if C=C then tS X.K A L d f D u w else _)from by rw[iZ I];exact fin f e)
 |false=>rw[jo kR]at e;exact(show(if U=C then _ else tS X.K A L d g D u w)from by rw[jo kR];exact fin g e)
end
def nX{b:Type}{l:List b}{i j:Nat}{x y:b}(h:(l.set i x)[j]?=Y y):(i=j/\i<X0 l/\y=x)\/(i≠j/\l[j]?=Y y):=by
 rw[Aa]at h;split at h
 .rename_i a;split at h
  .rename_i c;exact .inl ⟨a,c,(kT h).symm⟩
  cases h
 rename_i a;exact .inr ⟨a,h⟩
section
variable {K:ji}{T:AA}{f:L2.St}{l c:Dn}{H g:Hp}{x:D×Bool}{v:V}{i:Nat}
def AK.store{j:Nat}{a:iG}(h:AK (f.set i<|Y v) (l.set i<|Y x) j a):(i≠j/\AK f l j a)\/(i=j/\x.2=C/\v=.ref a):=by
 obtain⟨d,h1,m⟩:=h;rcases nX h1 with⟨e,_,q⟩|⟨ne,q⟩
 .rcases nX m with⟨_,_,k⟩|⟨b,_⟩
  .right;cases q;exact⟨e,rfl,(kT k).symm⟩
  exact absurd e b
 rcases nX m with⟨n,_,_⟩|⟨_,k⟩
 .exact absurd n ne
 exact .inl ⟨ne,d,q,k⟩
def A1.store(h:A1 (f.set i<|Y v) (l.set i<|Y x) a):A1 f l a\/(x.2=C/\v=.ref a):=by
 obtain⟨j,d,h1,k⟩:=h;rcases AK.store ⟨d,h1,k⟩with⟨_,e,b,m⟩|⟨_,b⟩
 .exact .inl ⟨j,e,b,m⟩
 exact .inr b
def ER.store(h:ER K g (LN T x v) f c)(E:i<X0 c)(u:match x with|(d,U)=>Rep K g (λa=>A1 f c a\/T a) d v|(d,C)=>∃p,v=.ref p/\¬T p/\Ba K g (λa=>A1 f c a\/T a\/a=p) d p):
  ER K g T (f.set i<|Y v) (c.set i<|Y x):=by
 have r:i<(X0 f):=by rw[h.len];exact E
 have sub:∀b,g b≠J->(A1 (f.set i<|Y v) (c.set i<|Y x) b\/T b)->(A1 f c b\/LN T x v b):=λb _ z=>by
  rcases z with z|z
  .rcases z.store with z|z
   .exact .inl z
   exact .inr (.inr z)
  exact .inr (.inl z)
 refine⟨by rw[tD,tD];exact h.len,λj d o=>?_,λj d o=>?_,λj k d e a o hk h1 n=>?_,λa z=>?_,λa z=>h.dom a<|.inl z⟩
 .rcases nX o with⟨rfl,_,q⟩|⟨ne,q⟩
  .have q:=kT q;subst q
   exact⟨v,oH r,Rep.mono (λ_ _ e _=>e) (λb Q z=>by
    rcases z with z|z
    .rcases z.store with z|z
     .exact .inl z
     exact absurd z.1 (by simp)
    exact .inr z) u⟩
  obtain⟨w,h1,n⟩:=h.val j d q;exact⟨w,by rw[oG ne];exact h1,Rep.mono (λ_ _ e _=>e) sub n⟩
 .rcases nX o with⟨rfl,_,q⟩|⟨ne,q⟩
  .have q:=kT q;subst q;obtain⟨p,rfl,np,ok⟩:=u;refine⟨p,oH r,ok.mono (λ_ _ e _=>e) (λb Q z=>?_) λ_ e=>e⟩;rcases z with z|z
   .rcases z.store with z|z
    .exact .inl z
    have:=z.2;cases this;exact .inr<|.inr I
   exact .inr (.inl z)
  obtain⟨a,h1,n⟩:=h.own j d q;exact⟨a,by rw[oG ne];exact h1,n.mono (λ_ _ e _=>e) sub λ_ e=>e⟩
 .rcases AK.store ⟨d,o,h1⟩with⟨L,y,g1,g2⟩|⟨B,g1,g2⟩
  .rcases AK.store ⟨e,hk,n⟩with⟨O,s,g3,m⟩|⟨A,g3,m⟩
   .exact h.inj j k y s a g1 g3 g2 m
   exact absurd (bh ⟨g3,m⟩) (h.nT a ⟨j,y,g1,g2⟩)
  rcases AK.store ⟨e,hk,n⟩with⟨O,s,g3,m⟩|⟨A,g3,m⟩
  .exact absurd (bh ⟨g1,g2⟩) (h.nT a ⟨k,s,g3,m⟩)
  exact B.symm.trans A
 rcases z.store with z|z
 .exact λt=>h.nT a z<|.inl t
 obtain⟨d,b⟩:=x
 cases b
 .exact absurd z.1 (by simp)
 obtain⟨p,rfl,np,_⟩:=u;have:=z.2;cases this;exact np
def SK.store(k:BJ f l H c g)(b:A i)(h:x.2=C->∀p,v=.ref p->H p=J):SK A f l H (f.set i<|Y v) (c.set i<|Y x) g where
 kp:=k.kp
 owi:=λj a z=>by
  rcases z.store with⟨_,z⟩|⟨_,m,n⟩
  .exact .inl (k.owi j a z)
  exact .inr (.inl<|h m a n)
 dm:=k.dm
 as:=λj d=>oG λ(e:i=j)=>d (by subst e;exact b)
end
section
variable {X:Cx}{A:ki}{L:LL}{g:Hp}{f:F}{e c:iR}{b a:br}
def Ao{K:ji}{T:AA}{k:L2.St}{n j:Dn}{Q l:Hp}{r:D×Bool}{v:V}{i:Nat}(E:ER K Q T k n)(P:B8 K T k n Q r j v l)(u:i<X0 j)(t:A i):
  SK A k n Q (k.set i<|Y v) (j.set i<|Y r) l/\ER K l T (k.set i<|Y v) (j.set i<|Y r):=by
 have w:r.2=C->∀p,v=.ref p->Q p=J:=λh p hv=>by
  obtain⟨d,o⟩:=r
  cases o
  .cases h
  obtain⟨q,h1,m,_⟩:=P.2;rw[hv]at h1;cases h1;exact m
 refine⟨SK.store P.1 t w,ER.store (P.er E) u ?_⟩;obtain⟨d,o⟩:=r
 cases o
 .exact P.2.2
 obtain⟨p,rfl,m,x,s⟩:=P.2;exact⟨p,rfl,λz=>(E.dom p z).ne m,s⟩
end
abbrev Tg:=D->Dn->Option Dn
inductive tG(K:ji)(A:ki)(tg:Tg)(v:V)(σ:L2.St)(hp:Hp)(Q:L2.St->Hp->Prop):Prop where
 |mk (δ:Dn) (T:AA) (d:D) (δ':Dn) (_:ER K hp T σ δ) (_:Rep K hp (λa=>A1 σ δ a\/T a) d v) (_:tg d δ=Wp δ') (_:∀σ',SK A σ δ hp σ' δ' hp->ER K hp T σ' δ'->Q σ' hp)
def LQ(X:Cx)(A:ki)(e:iR)(a:Tg):Prop:=PG X e<|tG X.K A a
noncomputable def iK(i:Nat):Tg:=λd δ=>if i<(X0 δ)then Y (δ.set i<|Y (d,U))else J
noncomputable def I9:List Tg->List D->Dn->Option Dn
 |[],[],a=>Y a
 |t::b,d::ds,a=>(t d a).bind<|I9 b ds
 |_,_,_=>J
def Am(a:List Tg):Tg
 |.tup ds,δ=>I9 a ds δ
 |_,_=>J
inductive OC(K:ji)(A:ki)(ts:List Tg)(vs:List V)(σ:L2.St)(hp:Hp)(Q:L2.St->Hp->Prop):Prop where
 |mk (δ:Dn) (T:AA) (ds:List D) (δ':Dn) (_:ER K hp T σ δ) (_:YP K hp (λa=>A1 σ δ a\/T a) ds vs) (_:I9 ts ds δ=Wp δ') (_:∀σ',SK A σ δ hp σ' δ' hp->ER K hp T σ' δ'->Q σ' hp)
section
variable {X:Cx}{A:ki}{g:br}{e:iR}{f:kD}{t:Tg}{c:List Tg}
def PG.imp'{t d:TG}(h:PG X e t)(k:∀v b O Q,d v b O Q->t v b O Q):PG X e d:=λa s b O v u Q T r i=>h a s b O v u Q T r<|k v b O Q i
def KI.imp'{t d:LO}(h:KI X f t)(k:∀v b O Q,d v b O Q->t v b O Q):KI X f d:=λa s b O v u Q T r i=>h a s b O v u Q T r<|k v b O Q i
def Og:KI X [] (OC X.K A []):=KI.imp' R5 λv h O Q b=>by
 obtain⟨i,T,a,d,E,r,e,k⟩:=b
 cases a with
 |nil=>
  cases e;rw[YP]at r;exact⟨r,k h .refl E⟩
 |cons _ _=>cases e
def Cw(h1:LQ X A e t)(p:KI X f (OC X.K A c))(u:(bb (e::f) X.env).map (·.2)=cu e X.env::(bb f X.env).map (·.2)):KI X (e::f) (OC X.K A (t::c)):=KI.imp' (Oh h1 p u) λv O G Q w=>by
 obtain⟨M,T,h,i,E,r,e,k⟩:=w
 cases h with
 |nil=>cases e
 |cons d h=>rw[YP]at r;obtain⟨B,N,rfl,x,y⟩:=r;obtain⟨a,q,e⟩:=iM e;refine⟨B,N,rfl,M,T,d,a,E,x,q,λL l m=>⟨a,T,h,i,m,?_,e,λj o n=>k j (l.trans o) n⟩⟩;exact YP.mono (λ_ _ e _=>e) (λb s z=>z.elim (λz=>(l.ow b z).elim bo λz=>absurd z s) bh) y
def R3{k:Nat}(o:X.calm=C)(h:KI X f (OC X.K A c)){n:Nat}(s:(bb f X.env).length=n)(p:c.length=n)(x:(bb f X.env).findIdx? (·.1)=J):LQ X A (.Tuple f k g) (Am c):=PG.imp' (V9 o h s x) λv z O Q u=>by
 obtain⟨i,T,d,j,E,r,e,k⟩:=u
 cases d with
 |tup b=>
  obtain⟨a,y,rfl,q,m⟩:=r.tup;refine⟨a,y,rfl,q.sq,?_,i,T,b,j,E,m,e,k⟩
  have:∀(c:List Tg)(b:List D)(i:Dn),I9 c b i=Y j->b.length=c.length:=by
   intro c
   induction c with
   |nil=>intro b i h;cases b with|nil=>rfl|cons _ _=>cases h
   |cons t c w=>
    intro b i h
    cases b with
    |nil=>cases h
    |cons d b=>obtain⟨l,_,h⟩:=iM h;simp[w b l h]
  rw[m.length,this c b i e,p]
 |_=>cases e
end
abbrev SB:=Nat->Prop
def LR(B:SB)(T:AA)(c:L2.St)(b:Dn):AA:=λa=>(∃i,¬B i/\AK c b i a)\/T a
def LR.own(h:LR B T σ δ a):A1 σ δ a\/T a:=h.imp (λQ=>by obtain⟨i,_,d,h1,b⟩:=Q;exact ⟨i,d,h1,b⟩) id
structure KJ(K:ji)(J:It)(ds:List D)(P O:AA)(H1:Hp):Prop where
 go:∀(i:Nat) d Hi,ds[i]?=Wp d->(∀a o,H1 a=Wp o->¬P a->Hi a=Wp o)->J.go i Hi/\∀x H',J.yld i Hi x H'->(∀a o,Hi a=Wp o->H' a=Wp o)/\
  ∀O':AA,(∀b,H1 b≠WF->O' b->O b)->(∀b,Hi b=WF->¬O' b)->Rep K H' O' d x
 stop:∀(i:Nat) Hi,X0 ds<=i->(∀a o,H1 a=Wp o->¬P a->Hi a=Wp o)->J.stop i Hi
abbrev Cb:=Dn->Option (List D×Dn)
def tI(K:ji)(B:SB)(g:Cb):TI:=λc O R=>∃e T f b,ER K O T c e/\g e=Y (f,b)/\∀Q d,BJ c e O b d->ER K d T c b->KJ K Q f (LR B T c b) (λa=>A1 c b a\/T a) d->R Q d
def L9(X:Cx)(B:SB)(tg iter:iR)(a:Cb):Prop:=PI X tg iter<|tI X.K B a
noncomputable def Ar:D->Option (List D)
 |.tup l=>Y l
 |.lst l=>Y l
 |_=>J
def AW(f:FO):Cb:=λa=>(f a).bind λp=>(res p.2 p.1).bind λd=>(Ar d).bind λl=>Y (l,p.2)
noncomputable def jJ(f:F):Cb:=λδ=>(f δ).bind λp=>match p.1.1 with
 |.lst l=>Y (l,p.2)
 |.tup l=>Y (l,p.2)
 |_=>J
noncomputable def jq(lo:Int)(n:Nat):List D:=(ap n).map λ(k:Nat)=>.int (lo+k)
def uN(f:FO):Cb:=λδ=>(kM [f] δ).bind λp=>match vJ p.2 p.1 with
 |some [.int j]=>if -(2^62)<=j/\j<2^62 then Y (jq 0 j.toNat,p.2)else J
 |_=>J
def NZ(B:SB)(f:FO):Prop:= ∀b i a,f b=Y (.slot i,a)->B i
def Ru:NZ B (iY f):=λb i a h=>by obtain⟨p,_,h⟩:=iM h;cases h
def Ea(h:B i):NZ B (iJ i):=λb j a e=>by
 unfold iJ at e;split at e<;>cases e
 exact h
noncomputable def NO:D->Bool
 |.lst _=>C
 |_=>U
def HP(b:Bool)(K:ji)(T:Hp)(P:AA)(a:iG)(c:List V):Prop:=if b=C then HC K T P a c else H9 K T P a c
def HP.mono{K T c}{P P':AA}(q:HP b K T P a xs)(k:∀b o,T b=Y o->¬P b->c b=Y o)(d:∀b,P' b->P b):HP b K c P' a xs:=by
 cases b
 .exact H9.mono (K:=K) q k λb _=>d b
 exact HC.mono q k λb _=>d b
def HP.l{K T}(q:HP C K T P a xs):Ej K T a xs:=HC.sq q
def HP.t{K T}(q:HP U K T P a xs):HE K T a xs:=H9.sq (K:=K) q
def Ct{K T}(h:Ar d=Y l)(r:Rep K T O d v):∃a b,v=.ref a/\HP (NO d) K T O a b/\YP K T O l b:=by
 cases d with
 |tup m=>cases h;obtain⟨a,b,rfl,q,c⟩:=r.tup;exact⟨a,b,rfl,q,c⟩
 |lst m=>cases h;obtain⟨a,b,rfl,q,c⟩:=r.lst;exact⟨a,b,rfl,q,c⟩
 |_=>cases h
def Ops.seq{K:ji}{T N:AA}{h:L2.St}{A c:Dn}{G n:Hp}{os:List BN}{y:List V}(E:ER K G T h A)(W:Ops K T h A G os y c n N){j:Nat}(h1:os[j]?=Y o)(x:y[j]?=Y v)(s:res c o=Y d)(t:Ar d=Y l)(L:∀i,o=.slot i->B i):
  ∃a g,v=.ref a/\HP (NO d) K n (LR B T h c) a g/\YP K n (λa=>A1 h c a\/T a) l g:=by
 have fin:Rep K n (λa=>A1 h c a\/T a) d v->∃a g,v=.ref a/\HP (NO d) K n (LR B T h c) a g/\YP K n (λa=>A1 h c a\/T a) l g:=λr=>by obtain⟨a,g,rfl,q,u⟩:=Ct t r;exact⟨a,g,rfl,q.mono (λ_ _ e _=>e) λa z=>z.own,u⟩
 cases o with
 |val r=>cases s;exact fin<|W.rep E h1 x
 |slot i=>
  have hk:=W.slt j i _ h1 x
  have hd:∃f,c[i]?=Y (Y (d,f)):=by
   unfold res at s;dsimp only at s;split at s<;>cases s
   exact⟨_,by assumption⟩
  obtain⟨f,hd⟩:=hd
  cases f
  .obtain⟨w,p,M⟩:=W.er.val i _ hd;rw[hk]at p;cases p;exact fin<|Rep.mono (λ_ _ e _=>e) (λb _ z=>z.imp id<|W.tt b) M
  obtain⟨a,p,ok⟩:=W.er.own i _ hd;rw[hk]at p;cases p
  cases d with
  |lst m=>
   cases t;obtain⟨g,e,u⟩:=ok;exact⟨a,g,rfl,.inl ⟨.inl e,λz=>z.elim (λa'=>by obtain⟨k,O,Q,g1,g2⟩:=a';exact O<|W.er.inj i k _ _ a hd g1 hk g2▸L i I) λz=>W.er.nT a ⟨i,_,hd,hk⟩<|W.tt a z⟩,YP.mono (λ_ _ e _=>e) (λb _ z=>z.imp id<|W.tt b) u⟩
  |tup m=>exact ok.elim
  |_=>cases t
section
variable {X:Cx}{B:SB}{tg e:iR}{f:F}{c:FO}{g p:br}
def PI.imp'(h:PI X tg e t)(k:∀b Q R,i b Q R->t b Q R):PI X tg e i:=λa s b Q R T d=>h a s b Q R T<|k b Q R d
def PI.or(h:PI X tg e t)(d:PI X tg e j):PI X tg e (λb Q R=>t b Q R\/j b Q R):=λa s b Q R T i=>i.elim (h a s b Q R T)<|d a s b Q R T
def ItS(b:Bool)(K:ji)(a:iG):It:=if b=C then Itl K a else Itt K a
def Pw{K:ji}{P O:AA}{m:Hp}{a:iG}{k:List V}{l:List D}(q:HP b K m P a k)(r:YP K m O l k)(v:∀a,P a->O a):KJ K (ItS b K a) l P O m:=by
 cases b<;>(
  refine⟨λi d Hi hd j=>?_,λi Hi w j=>?_⟩
  .have h:=HP.mono q j λ_ z=>z
   first|replace h:=h.l|replace h:=h.t
   obtain⟨x,u,A⟩:=r.get hd;refine⟨⟨k,x,h,u⟩,λy T s=>?_⟩;obtain⟨rfl,s⟩:=s;have:=s k h;rw[u]at this;cases this;exact⟨λ_ _ e=>e,λE h1 Q=>Rep.mono (λb o e n=>j b o e λz=>n<|v b z) h1 A⟩
  exact⟨k,by first|exact(HP.mono q j λ_ z=>z).l|exact(HP.mono q j λ_ z=>z).t,by rw[r.length];exact w⟩)
def AX{K:ji}{P O:AA}{b:Hp}(lo:Int)(n:Nat):KJ K (Nq lo n) (jq lo n) P O b:=by
 refine⟨λi d Hi hd j=>?_,λi Hi a j=>?_⟩
 .unfold jq at hd;rw[kQ]at hd;obtain⟨k,h1,h⟩:=jw hd;have a:i<n:=by have:=(uj.mp h1).1;simpa using this
  have hk:k=i:=by rw[List.getElem?_range a]at h1;exact(kT h1).symm
  subst hk;refine⟨a,λy m l=>?_⟩;obtain⟨rfl,rfl⟩:=l;refine⟨λ_ _ e=>e,λo _ _=>?_⟩;rw[<-h];exact Rep.mkInt
 unfold jq at a;have:n<=i:=by simpa using a
 exact this
def FG(h:PO X e c)(N:NZ B c):L9 X B tg e (AW c):=PI.imp' (PI.or (R0 (tg:=tg) h)<|V8 h) λy H R L=>by
 obtain⟨w,T,G,Q,E,e,k⟩:=L;obtain⟨o,u,h1,e⟩:=iW e;obtain⟨d,A,e⟩:=iM e;obtain⟨l,x,e⟩:=iM e;obtain⟨rfl,rfl⟩:=jn e
 have key:∀v n,Em X.K T y w H o u v n->∃a s,v=.ref a/\HP (NO d) X.K n (LR B T y u) a s/\R (ItS (NO d) X.K a) n:=λv n P=>by have W:=Ops.cons E P<|Ops.nil<|P.er E;obtain⟨a,s,rfl,q,O⟩:=W.seq E (j:=0) I I A x λi M=>N _ _ _ (M▸h1);exact⟨a,s,rfl,q,k _ n W.keep (W.er.mono (λ_ _ e _=>e) (λb _ z=>W.tt b z) λa z=>W.er.dom a<|W.tt a z) (Pw q O λa z=>z.own)⟩
 cases d with
 |lst m=>exact .inl ⟨w,T,_,_,E,h1,λv n P=>let⟨a,s,e,q,r⟩:=key v n P;⟨a,e,⟨s,q.l⟩,r⟩⟩
 |tup m=>exact .inr ⟨w,T,_,_,E,h1,λv n P=>let⟨a,s,e,q,r⟩:=key v n P;⟨a,e,⟨s,q.t⟩,r⟩⟩
 |_=>cases x
end
noncomputable def lF(b:Tg)(a:FS):List D->FS
 |[],δ=>Y<|.nx δ
 |d::ds,δ=>(b d δ).bind λδ1=>(a δ1).bind λo=>match o with
  |.nx δ2=>lF b a ds δ2
  |.ct δ2=>lF b a ds δ2
  |.bk δ2=>Y<|.nx δ2
  |.rt r δ2=>Y<|.rt r δ2
def mE(a:Cb)(tg:Tg)(fb:FS):FS:=λδ=>(a δ).bind λp=>lF tg fb p.1 p.2
section
variable {X:Cx}{A:ki}{L:LL}{l:Hp}{g iter:iR}{c:List bc}{j:Cb}{t:Tg}{f:FS}{h:br}
def RT(hp:fv (ah X.prog X.w) X.A X.env X.xe)(hc:X.calm=C)(hi:L9 X (λ_=>False) g iter j)(hg:LQ X A g t)(G:IG X A L l c f)(hs:∀x,aG iter X.env x=pure x):
  Lw X A L l (.For g iter c [] h) (mE j t f):=PS.imp' (V3 hp hc hi hg G hs) λD M H hw=>by
 obtain⟨δ,T,out,E,iu,e,k⟩:=hw;obtain⟨u,q,h1,e⟩:=iW e;refine⟨δ,T,u,q,E,h1,λJ Y K1 E1 ok=>?_⟩;have S:SK A M δ H M q Y:=K1.sk;refine⟨λi m s C'=>m=X0 u-i/\i<=X0 u/\∃p,SK A M q Y s p C'/\ER X.K C' T s p/\lF t f (u.drop i) p=Wp out,⟨X0 u,by simp,mq _,q,.refl,E1,by simpa using e⟩,?_⟩;rintro i m O H2 ⟨rfl,hle,I',S2,N,e2⟩;have Z:∀a o,Y a=Wp o->¬LR (λ_=>False) T M q a->H2 a=Wp o:=λa o ea n=>S2.kp a o ea λ⟨i,d,z⟩=>n<|.inl ⟨i,id,d,z⟩;by_cases W:i<X0 u
 .refine .inr ?_;have hd:u[i]?=Wp u[i]:=jT W;obtain⟨go,yl⟩:=ok.go i _ H2 hd Z;rw[zZ W]at e2;obtain⟨R,h3,e3⟩:=iM e2;obtain⟨o,h4,V⟩:=iM e3;refine⟨go,λs C'=>∃p,SK A M q Y s p C'/\ER X.K C' T s p/\lF t f (u.drop<|i+1) p=Wp out,λs C' ⟨p,q1,q2,q3⟩=>⟨X0 u-(i+1),by omega,rfl,W,p,q1,q2,q3⟩,λx C' hy=>?_⟩;obtain⟨ext,rep⟩:=yl x C' hy;have eI:ER X.K C' T O I':=N.mono (λb ob eb _=>ext b ob eb) (λ_ _ z=>z) λa z=>(N.dom a z).up<|ext a;have iw:SK A M q Y O I' C':=S2.trans (BJ.ext ext).sk;have rx:=rep (λa=>A1 O I' a\/T a) (λb G z=>z.elim (λz=>(S2.ow b z).elim bo λz=>absurd z G) bh) λb G z=>z.elim (λz=>N.HS z G) λz=>(N.dom b z).ne G;refine⟨I',T,u[i],R,eI,rx,h3,λσ3 S3 E3=>?_⟩;have P:=iw.trans S3;refine⟨R,T,o,E3,(iu.step S).step P,h4,?_⟩
  cases o with
  |nx y=>exact λB F Q U=>⟨y,P.trans Q,U,V⟩
  |ct y=>exact λB F Q U=>⟨y,P.trans Q,U,V⟩
  |bk y=>cases V;exact λB F Q U=>k B F (S.trans<|P.trans Q) U
  |rt r y=>cases V;exact λv B F Q R4=>k v B F (S.trans<|P.trans Q) R4
 refine .inl ⟨ok.stop i H2 (by omega) Z,?_⟩;rw[zY<|by omega]at e2;cases e2;exact k O H2 (S.trans S2) N
end
noncomputable def pX(c:FT)(b:FS):Nat->FS
 |0,_=>J
 |n+1,d=>(c d).bind λp=>if p.1=C then(b p.2).bind λo=>(match o with
   |.nx a=>pX c b n a
   |.ct a=>pX c b n a
   |.bk a=>Y<|.nx a
   |.rt r a=>Y<|.rt r a)else Y (.nx p.2)
def zf(f g:FO):Cb:=λδ=>(kM [f,g] δ).bind λp=>match vJ p.2 p.1 with
 |some [.int i,.int j]=>if -(2^62)<=i/\i<2^62/\ -(2^62)<=j/\j<2^62 then Y (jq i (j-i).toNat,p.2)else J
 |_=>J
section
variable {X:Cx}{A:ki}{L:LL}{s:Hp}{B:SB}{t e c a b:iR}{d:List bc}{f:FT}{g:FS}{x u:FO}{l p:br}
def ae9{n:Nat}(hp:fv (ah X.prog X.w) X.A X.env X.xe)(hc:OX X c f)(hb:IG X A L s d g):Lw X A L s (.While c d [] l) (pX f g n):=PS.imp' (agb hp hc hb) λD F H hw=>by
 obtain⟨U,T,out,E,iu,e,k⟩:=hw;refine⟨λm i I=>∃h,SK A F U H i h I/\ER X.K I T i h/\pX f g m h=Y out,⟨n,U,.refl,E,e⟩,?_⟩;rintro m J' H2 ⟨Y',S2,E2,e2⟩
 cases m with
 |zero=>cases e2
 |succ m=>
  obtain⟨S,C,Z,M⟩:=iW e2;refine⟨Y',T,S,C,E2,Z,λR V P=>?_⟩;have O:SK A F U H J' C R:=S2.trans V.sk
  cases S with
  |false=>rw[jo kR]at M;cases M;exact WN<|k J' R O P
  |true=>
   rw[iZ XV]at M;obtain⟨o,h4,N⟩:=iM M;refine WM ⟨λi I=>∃h,SK A F U H i h I/\ER X.K I T i h/\pX f g m h=Y out,λi I q=>⟨m,DQ _,q⟩,C,T,o,P,iu.step O,h4,?_⟩
   cases o with
   |nx j=>exact λy G z Q=>⟨j,O.trans z,Q,N⟩
   |ct j=>exact λy G z Q=>⟨j,O.trans z,Q,N⟩
   |bk j=>cases N;exact λy G z Q=>k y G (O.trans z) Q
   |rt r j=>cases N;exact λv y G z W=>k v y G (O.trans z) W
def um{K:ji}{T v:AA}{E:L2.St}{Q m:Dn}{O r:Hp}{os:List BN}{k:List V}{n:List D}(B:Ops K T E Q O os k m r v)(h:vJ m os=Y n){j:Nat}{i:Int}(hd:n[j]?=Y (.int i)):k[j]?=Y (.int i):=by
 obtain⟨h1,w⟩:=pQ h;obtain⟨o,q,y⟩:=w j _ hd;have z:j<(X0 k):=by have:=(uj.mp q).1;have:=B.len;lia
 have hv:k[j]?=Y k[j]:=jT z;have:=jH<|B.view q hv y;rw[hv,this]
end
abbrev AL:=List (D×Bool)->Option ((D×Bool)×Dn)
def Iv(K:ji)(e:AL):Sp:=λd O Q _=>∃T a r b,ER K O T (d.map Y) (a.map Y)/\e a=Y (r,b)/\∀v c,B8 K T (d.map Y) (a.map Y) O r b v c->Q v c
noncomputable def jy(args:List (D×Bool))(δ:Dn):Dn:=args.zipIdx.map λp=>if p.1.2=C then(δ[p.2]?).join else Y p.1
def AG(n np:Nat)(asg:jQ)(f:FS):AL:=λargs=>
 if (X0 args)=np/\np<=n/\(args.zipIdx.all λp=>!(p.1.2&&asg.contains p.2))=C then
  match f (args.map Y++ai (n-np) J)with
  |some (.rt r δ)=>Y (r,jy args δ)
  |some (.nx δ)=>Y ((.A7,U),jy args δ)
  |_=>J
 else J
def agA(a:List (D×Bool))(b:Dn)(i:Nat):(jy a b)[i]?=a[i]?.map λx=>if x.2=C then(b[i]?).join else Y x:=by
 unfold jy;rw[kQ,G8]
 cases a[i]? with
 |none=>rfl
 |some x=>simp
def rq(h:x.join=Y p):x=Y (Y p):=by
 cases x with
 |none=>cases h
 |some y=>exact oo Y h
section
variable {K:ji}{T:AA}{A:ki}{k:List V}{f:List (D×Bool)}{H q:Hp}{m:Nat}{l:L2.St}{g:Dn}{r:D×Bool}{v:V}
def E9{b:Type}{a:List b}{m i:Nat}{y:b}:(a.map Y++ai m J)[i]?=Y (Y y)↔a[i]?=Y y:=by
 by_cases h:i<X0 a
 .rw[sv<|by simpa using h,kQ];cases a[i]?<;>simp
 rw[qR<|by simpa using h];constructor
 .intro e;rw[wk]at e;split at e<;>cases e
 intro e;exact absurd (uj.mp e).1 h
def uB{b:Type}{a:List b}{i:Nat}{y:b}:(a.map Y)[i]?=Y (Y y)↔a[i]?=Y y:=by rw[kQ];cases a[i]?<;>simp
def Mk{i:Nat}{a:iG}:AK (k.map Y++ai m J) (f.map Y++ai m J) i a↔AK (k.map Y) (f.map Y) i a:=by unfold AK;simp only[E9,uB]
def FH:A1 σ b a↔ ∃i,AK σ b i a:=Iff.rfl
def Ox:A1 (k.map Y++ai m J) (f.map Y++ai m J) a↔A1 (k.map Y) (f.map Y) a:=by rw[FH,FH];exact exists_congr λi=>Mk
def ER.pad(E:ER K H T (k.map Y) (f.map Y)):ER K H T (k.map Y++ai m J) (f.map Y++ai m J):=by
 have len:(X0 k)=(X0 f):=by simpa using E.len
 refine⟨by simp[len],λi d h=>?_,λi d h=>?_,λi j d e a h1 o p s=>?_,λa z=>E.nT a<|Ox.mp z,E.dom⟩
 .obtain⟨w,c,n⟩:=E.val i d<|uB.mpr<|E9.mp h;exact⟨w,E9.mpr<|uB.mp c,Rep.mono (λ_ _ e _=>e) (λb _ z=>z.imp Ox.mp id) n⟩
 .obtain⟨w,c,n⟩:=E.own i d<|uB.mpr<|E9.mp h;exact⟨w,E9.mpr<|uB.mp c,n.mono (λ_ _ e _=>e) (λb _ z=>z.imp Ox.mp id) λ_ e=>e⟩
 exact E.inj i j d e a (uB.mpr<|E9.mp h1) (uB.mpr<|E9.mp o) (uB.mpr<|E9.mp p) (uB.mpr<|E9.mp s)
def Jz{J:AA}(E:ER K H T (k.map Wp) (f.map Wp))(S:SK A (k.map Wp++ai m WF) (f.map Wp++ai m WF) H l g q)(hA:∀(i:Nat) d,f[i]?=Wp (d,WP)->¬A i)
  (Q:ER K q J l g)(hT:∀b,H b≠WF->J b->T b):ER K q J (k.map Wp) (jy f g)/\(∀b,A1 (k.map Wp) (jy f g) b->A1 l g b)/\BJ (k.map Wp) (f.map Wp) H (jy f g) q:=by
 have len:(X0 k)=(X0 f):=by simpa using E.len
 have s:∀(i:Nat) d w,f[i]?=Wp (d,WP)->k[i]?=Wp w->l[i]?=Wp (Wp w):=λi d w h1 p=>by rw[S.as i<|hA i d h1];exact E9.mpr p
 have t:∀(i:Nat) d b,(jy f g)[i]?=Wp (Wp (d,b))->(∃e,f[i]?=Wp (e,WP)/\g[i]?=Wp (Wp (d,b)))\/(b=W1/\f[i]?=Wp (d,W1)):=λi d b h=>by
  rw[agA]at h;obtain⟨⟨e,c⟩,h1,p⟩:=jw h
  cases c
  .right;have:Wp (e,W1)=Wp (d,b):=by simpa using p
   cases this;exact⟨rfl,h1⟩
  left;exact⟨e,h1,rq<|by simpa using p⟩
 have B:∀i a,AK (k.map Wp) (jy f g) i a->AK l g i a/\AK (k.map Wp) (f.map Wp) i a:=λi a a'=>by
  obtain⟨d,h1,p⟩:=a'
  rcases t i d WP h1 with⟨e,u,x⟩|⟨z,_⟩
  .exact⟨⟨d,x,s i e _ u (uB.mp p)⟩,⟨e,uB.mpr u,p⟩⟩
  cases z
 have G:∀b,A1 (k.map Wp) (jy f g) b->A1 l g b:=λb a'=>by
  obtain⟨i,d,h1,p⟩:=a'
  obtain⟨⟨e,I,L⟩,_⟩:=B i b ⟨d,h1,p⟩;exact⟨i,e,I,L⟩
 have C:∀b,A1 (k.map Wp) (jy f g) b->A1 (k.map Wp) (f.map Wp) b:=λb a'=>by
  obtain⟨i,d,h1,p⟩:=a'
  obtain⟨_,⟨e,I,L⟩⟩:=B i b ⟨d,h1,p⟩;exact⟨i,e,I,L⟩
 have U:∀a o,H a=Wp o->¬A1 (k.map Wp) (f.map Wp) a->q a=Wp o:=λa o e n=>S.kp a o e λz=>n<|Ox.mp z;refine⟨⟨?_,λi d h=>?_,λi d h=>?_,λi j d e a h1 p u x=>?_,λa z=>Q.nT a<|G a z,Q.dom⟩,G,⟨U,λi a z=>(B i a z).2,S.dm⟩⟩
 .simp[jy,len]
 .have M:i<(X0 k):=by
   have:=(uj.mp h).1;simp[jy]at this
   lia
  have hv:k[i]?=Wp k[i]:=jT M;rcases t i d W1 h with⟨e,u,x⟩|⟨_,u⟩
  .obtain⟨w,y,O⟩:=Q.val i d x;rw[s i e _ u hv]at y;cases y;exact⟨_,uB.mpr hv,Rep.mono (λ_ _ e _=>e) (λb _ z=>z.imp (G b) id) O⟩
  obtain⟨w,y,O⟩:=E.val i d<|uB.mpr u;exact⟨w,y,Rep.mono (λb o e n=>U b o e λz=>n<|.inl z) (λb F z=>z.imp (C b)<|hT b F) O⟩
 .have M:i<(X0 k):=by
   have:=(uj.mp h).1;simp[jy]at this
   lia
  have hv:k[i]?=Wp k[i]:=jT M;rcases t i d WP h with⟨e,u,x⟩|⟨z,_⟩
  .obtain⟨w,y,O⟩:=Q.own i d x;rw[s i e _ u hv]at y;have N:k[i]=V.ref w:=by simpa using y
   exact⟨w,by rw[<-N];exact uB.mpr hv,O.mono (λ_ _ e _=>e) (λb _ z=>z.imp (G b) id) λ_ e=>e⟩
  cases z
 obtain⟨_,⟨Y,I,L⟩⟩:=B i a ⟨d,h1,u⟩;obtain⟨_,⟨D,P,R⟩⟩:=B j a ⟨e,p,x⟩;exact E.inj i j Y D a I P L R
def rE(E:ER K H T (k.map Y) (f.map Y))(S:SK A (k.map Y++ai m J) (f.map Y++ai m J) H l g q)(j:∀(i:Nat) d,f[i]?=Y (d,C)->¬A i)
  (R:RV K T H r l g v q):B8 K T (k.map Y) (f.map Y) H r (jy f g) v q:=by
 obtain⟨d,b⟩:=r
 cases b
 .obtain⟨a,s⟩:=R;obtain⟨c,ow,h⟩:=Jz E S j a λ_ _ z=>z;exact⟨h,c,Rep.mono (λ_ _ e _=>e) (λb _ z=>z.imp (ow b) id) s⟩
 obtain⟨p,rfl,n,a,ok⟩:=R;obtain⟨c,ow,h⟩:=Jz E S j a (λb o z=>z.elim id λz=>by subst z;exact absurd n o);exact⟨h,p,rfl,n,c,ok.mono (λ_ _ e _=>e) (λb _ z=>z.imp (ow b) id) λ_ e=>e⟩
end
section
variable {P:jh}{w:jc}{K:ji}{g:lI}{base:jb}{N:jr}{m:Nat}{b:jQ}{fs:FS}{c:List V}{H:Hp}{Q:VK}{E:XK}
def Jb(h:Iv K (AG (X0 N) m b fs) c H Q E):(X0 c)=m:=by
 obtain⟨T,a,r,d,E0,e,_⟩:=h;unfold AG at e;split at e
 .rename_i f;have:=E0.len;simp at this;rw[this];exact f.1
 cases e
def Nz(h:Iv K (AG (X0 N) m b fs) c H Q E):∃L:LL,(∀i,L.p i->i<m)/\tS K (λi=>i∈b) L H fs {nx:=λ_ l=>Q .A7 l,rt:=Q} (L2.oZ N c) H:=by
 obtain⟨T,f,r,x,E0,e,u⟩:=h;unfold AG at e;split at e
 .rename_i I;obtain⟨h1,Y,C⟩:=I;have n:(X0 c)=(X0 f):=by simpa using E0.len
  refine⟨⟨λi=>∃d,f[i]?=Wp (d,WP),WF⟩,λi ⟨d,hd⟩=>by have:=(uj.mp hd).1;lia,?_⟩;have M:L2.oZ N c=c.map Wp++ai (X0 N-m) WF:=by unfold L2.oZ;rw[n,h1]
  have q:∀(i:Nat) d,f[i]?=Wp (d,WP)->¬(i∈b):=λi d hd G=>by
   have J:(f.zipIdx)[i]?=Wp ((d,WP),i):=by rw[G8,hd];simp
   have:=mh.mp C _ (nL J);simp at this;exact this G
  rw[M]
  have B:FI (λi=>i∈b) ⟨λi=>∃d,f[i]?=Wp (d,WP),WF⟩ H (c.map Wp++ai (X0 N-m) WF) (f.map Wp++ai (X0 N-m) WF) H:=⟨λi a z=>by obtain⟨d,U,_⟩:=Mk.mp z;exact .inl ⟨d,uB.mp U⟩,λ_ z=>z,λj O ⟨d,hd⟩=>q j d hd O,λ_ h=>nomatch h⟩
  cases s:fs (f.map Wp++ai (X0 N-m) WF)with
  |none=>rw[s]at e;cases e
  |some out=>
   rw[s]at e;refine⟨_,T,out,E0.pad,B,s,?_⟩
   cases out with
   |rt r1 k=>obtain⟨rfl,rfl⟩:=jn e;exact λv t l o A=>u v l<|rE E0 o q A
   |nx k=>obtain⟨rfl,rfl⟩:=jn e;exact λt l o y=>u .A7 l<|rE (r:=(.A7,W1)) E0 o q ⟨y,Rep.Gu⟩
   |bk k=>cases e
   |ct k=>cases e
 cases e
def WY{x qual:ax}{st:bc}{f:iG}{j:mG}{e:jr}{k:Nat}(F:Ii K x qual st f j)(S:AJ N e (iT st))
  (o:∀(d:iQ)(A:je)(a:List dI)(s:iL)(H:Hp)(E:XK)(L:LL),(∀i,L.p i->i<X0 e)->B7 k (A.deeper<|aZ qual (iT st) s.heap.objs.size f d)->
   IG (sd Fx P w K g base N qual (iT st) f d A a s H E).IE (λi=>i∈b) L H (mn st) fs):Bn P w K g base Fx (k+1) f j e (Iv K<|AG (X0 N) (X0 e) b fs):=
 F.ok S (λc H Q E h=>Jb h) λd A a s H c Q E n h=>let⟨L,h1,l⟩:=Nz h;⟨_,o d A a s H E L h1 n,l⟩
end
noncomputable def By(a:Dn):BN->Option (D×Bool)
 |.val r=>Y (r.1,U)
 |.slot i=>(a[i]?).join
def kz(δ:Dn):List BN->Option (List<|D×Bool)
 |[]=>Y []
 |o::os=>(By δ o).bind λa=>(kz δ os).bind λl=>Y (a::l)
@[simp] def ZO(o:BN)(a:D×Bool):List Nat:=match o with
 |.slot i=>if a.2=C then[i]else[]
 |.val _=>[]
noncomputable def ju:List BN->List (D×Bool)->List Nat
 |[],_=>[]
 |_::_,[]=>[]
 |o::os,a::as=>ZO o a++ju os as
@[simp] def wb1(o:BN)(a:D×Bool)(x:Sl)(b:Dn):Dn:=match o with
 |.slot i=>if a.2=C then b.set i x else b
 |.val _=>b
noncomputable def wb:List BN->List (D×Bool)->Dn->Dn->Dn
 |[],_,_,δ=>δ
 |_::_,[],_,δ=>δ
 |_::_,_::_,[],δ=>δ
 |o::os,a::as,x::outs,δ=>wb os as outs<|wb1 o a x δ
def ja(ev:AL)(fs:List FO):F:=λδ=>(kM fs δ).bind λp=>(kz p.2 p.1).bind λargs=>if(ju p.1 args).Nodup then(ev args).bind λq=>Y (q.1,wb p.1 args q.2 p.2)else J
def qf{δ:Dn}:∀{os:List BN}{as:List (D×Bool)},kz δ os=Y as->X0 as=os.length/\∀(j:Nat) a,as[j]?=Y a->∃o,os[j]?=Y o/\By δ o=Y a:=by
 intro k
 induction k with
 |nil=>intro as h;cases h;exact⟨rfl,λj d h=>by simp at h⟩
 |cons o os i=>
  intro as h;unfold kz at h;obtain⟨d,h1,h⟩:=iM h;obtain⟨l,c,h⟩:=iM h;cases h;obtain⟨f,g⟩:=i c;refine⟨by simp[f],λj e b=>?_⟩
  cases j with
  |zero=>simp at b;subst b;exact⟨o,rfl,h1⟩
  |succ j=>obtain⟨m,n,p⟩:=g j e (by simpa using b);exact⟨m,by simpa using n,p⟩
theorem uz:∀{os:List BN}{as:List (D×Bool)}{j i:Nat}{d:D},os[j]?=Y (.slot i)->as[j]?=Y (d,C)->i∈ju os as
 |[],_,_,_,_,h,_=>by simp at h
 |_::_,[],_,_,_,_,h=>by simp at h
 |o::os,(e,b)::as,0,i,d,h1,a=>by simp at h1 a;obtain⟨rfl,rfl⟩:=a;subst h1;simp[ju]
 |o::os,(e,b)::as,j+1,i,d,h1,a=>by
  have c:=uz (os:=os) (as:=as) (j:=j) (i:=i) (d:=d) (by simpa using h1) (by simpa using a)
  cases o with
  |val r=>simpa[ju]using c
  |slot k=>
   cases b
   .simpa[ju]using c
   simp[ju,c]
theorem CF:∀{os:List BN}{as:List (D×Bool)}{i:Nat},i∈ju os as->∃(j:Nat)(d:D),os[j]?=Y (.slot i)/\as[j]?=Y (d,C)
 |[],_,_,h=>by simp[ju]at h
 |o::_,[],_,h=>by cases o<;>simp[ju]at h
 |o::os,(e,b)::as,i,h=>by
  have a:i∈ju os as->∃(j:Nat)(d:D),(o::os)[j]?=Y (.slot i)/\((e,b)::as)[j]?=Y (d,C):=λh=>by obtain⟨j,d,h1,c⟩:=CF h;exact⟨j+1,d,by simpa using h1,by simpa using c⟩
  cases o with
  |val r=>exact a (by simpa[ju]using h)
  |slot k=>
   cases b
   .exact a (by simpa[ju]using h)
   simp[ju]at h;rcases h with rfl|h
   .exact⟨0,e,rfl,rfl⟩
   exact a h
theorem CG:∀{os:List BN}{as:List (D×Bool)}{j k i:Nat}{d e:D},(ju os as).Nodup->os[j]?=Y (.slot i)->as[j]?=Y (d,C)->os[k]?=Y (.slot i)->as[k]?=Y (e,C)->j=k
 |[],_,_,_,_,_,_,_,h,_,_,_=>by simp at h
 |_::_,[],_,_,_,_,_,_,_,h,_,_=>by simp at h
 |o::os,(n,b)::as,j,k,i,d,e,a,h1,c,f,g=>by
  cases j with
  |zero=>
   cases k with
   |zero=>rfl
   |succ k=>simp at h1 c;obtain⟨rfl,rfl⟩:=c;subst h1;have:=uz (os:=os) (as:=as) (j:=k) (by simpa using f) (by simpa using g);simp[ju]at a;exact absurd this a.1
  |succ j=>
   cases k with
   |zero=>simp at f g;obtain⟨rfl,rfl⟩:=g;subst f;have:=uz (os:=os) (as:=as) (j:=j) (by simpa using h1) (by simpa using c);simp[ju]at a;exact absurd this a.1
   |succ k=>
    have l:(ju os as).Nodup:=by
     cases o with
     |val r=>simpa[ju]using a
     |slot m=>
      cases b
      .simpa[ju]using a
      simp[ju]at a;exact a.2
    have:=CG (os:=os) (as:=as) (j:=j) (k:=k) l (by simpa using h1) (by simpa using c) (by simpa using f) (by simpa using g)
    lia
theorem Ai:∀{os:List BN}{as:List (D×Bool)}{a δ:Dn}{i:Nat},i∉ju os as->(wb os as a δ)[i]?=δ[i]?
 |[],_,_,_,_,_=>by simp[wb]
 |o::_,[],_,_,_,_=>by cases o<;>simp[wb]
 |o::os,(e,b)::as,[],_,_,_=>by cases o<;>cases b<;>simp[wb]
 |o::os,(e,b)::as,x::a,δ,i,h=>by
  cases o with
  |val r=>simp only[wb];exact Ai (by simpa[ju]using h)
  |slot k=>
   cases b with
   |true=>simp[ju]at h;rw[wb,Ai h.2];exact oG<|oX h.1
   |false=>simp only[wb];exact Ai (by simpa[ju]using h)
theorem Aj:∀{os:List BN}{as:List (D×Bool)}{a δ:Dn},(wb os as a δ).length=X0 δ
 |[],_,_,_=>by simp[wb]
 |o::_,[],_,_=>by cases o<;>simp[wb]
 |o::os,(e,b)::as,[],_=>by cases o<;>cases b<;>simp[wb]
 |o::os,(e,b)::as,x::a,δ=>by
  cases o with
  |val r=>simp only[wb];exact Aj
  |slot k=>
   cases b with
   |true=>simp only[wb];rw[Aj];exact tD
   |false=>simp only[wb];exact Aj
theorem IT:∀{os:List BN}{as:List (D×Bool)}{a δ:Dn}{i j:Nat}{d:D}{x:Sl},(ju os as).Nodup->os[j]?=Y (.slot i)->as[j]?=Y (d,C)->a[j]?=Y x->i<X0 δ->(wb os as a δ)[i]?=Y x
 |[],_,_,_,_,_,_,_,_,h,_,_,_=>by simp at h
 |o::_,[],_,_,_,_,_,_,_,_,h,_,_=>by simp at h
 |o::os,(e,b)::as,[],_,_,_,_,_,_,_,_,h,_=>by simp at h
 |o::os,(e,b)::as,y::a,δ,i,0,d,x,c,h1,f,g,l=>by simp at h1 f g;obtain⟨rfl,rfl⟩:=f;subst h1;subst g;simp[ju]at c;rw[wb,Ai c.1];exact oH l
 |o::os,(e,b)::as,y::a,δ,i,j+1,d,x,c,h1,f,g,l=>by
  have n:(ju os as).Nodup:=by
   cases o with
   |val r=>simpa[ju]using c
   |slot m=>
    cases b
    .simpa[ju]using c
    simp[ju]at c;exact c.2
  cases o with
  |val r=>simp only[wb];exact IT n (by simpa using h1) (by simpa using f) (by simpa using g) l
  |slot k=>
   cases b with
   |true=>simp only[wb];exact IT n (by simpa using h1) (by simpa using f) (by simpa using g) (by show i<(δ.set k y).length;rw[tD];exact l)
   |false=>simp only[wb];exact IT n (by simpa using h1) (by simpa using f) (by simpa using g) l
section
variable {K:ji}{T u:AA}{l:L2.St}{δ f:Dn}{H m s:Hp}{os:List BN}{vs:List V}{c:List (D×Bool)}{g:Dn}{r:D×Bool}{v:V}
noncomputable def Tc(T:AA)(l:L2.St)(f:Dn)(vs:List V)(c:List (D×Bool)):AA:=λa=>T a\/(A1 l f a/\¬A1 (vs.map Y) (c.map Y) a)
def wK(B:Ops K T l δ H os vs f m u)(p:kz f os=Y c){j:Nat}{d:D}(h:c[j]?=Y (d,C)):∃(i:Nat)(a:iG),os[j]?=Y (.slot i)/\f[i]?=Y (Y (d,C))/\vs[j]?=Y (.ref a)/\l[i]?=Y (Y<|.ref a):=by
 obtain⟨w,q⟩:=qf p;obtain⟨o,h1,b⟩:=q j _ h
 cases o with
 |val r=>cases b
 |slot i=>
  have e:f[i]?=Y (Y (d,C)):=rq b;have t:j<(X0 vs):=by have:=(uj.mp h1).1;have:=B.len;lia
  have hv:vs[j]?=Y vs[j]:=jT t;have k:=B.slt j i _ h1 hv;obtain⟨a,n,_⟩:=B.er.own i d e;rw[k]at n;have:vs[j]=V.ref a:=by simpa using n
  exact⟨i,a,h1,e,by rw[hv,this],by rw[k,this]⟩
def FY(B:Ops K T l δ H os vs f m u)(n:kz f os=Y c){j:Nat}{a:iG}(h:AK (vs.map Y) (c.map Y) j a):∃(i:Nat)(d:D),os[j]?=Y (.slot i)/\c[j]?=Y (d,C)/\AK l f i a:=by obtain⟨d,h1,k⟩:=h;have e:=uB.mp h1;obtain⟨i,b,o,p,q,t⟩:=wK B n e;have:=uB.mp k;rw[q]at this;cases this;exact⟨i,d,o,e,d,p,t⟩
def JQ(B:Ops K T l δ H os vs f m u)(k:kz f os=Y c)(h:A1 (vs.map Y) (c.map Y) a):A1 l f a:=by obtain⟨j,d,h1,b⟩:=h;obtain⟨i,_,_,_,e,n,o⟩:=FY B k ⟨d,h1,b⟩;exact⟨i,e,n,o⟩
def zG(E:ER K H T l δ)(B:Ops K T l δ H os vs f m u)(n:kz f os=Wp c)(nd:(ju os c).Nodup):ER K m (Tc T l f vs c) (vs.map Wp) (c.map Wp):=by
 obtain⟨F,Y⟩:=qf n
 have sub:∀b,(A1 (vs.map Wp) (c.map Wp) b\/Tc T l f vs c b)->A1 l f b\/T b:=λb z=>by
  rcases z with z|z|z
  .exact .inl (JQ B n z)
  .exact .inr z
  exact .inl z.1
 refine⟨by simp[F,B.len],λj d h=>?_,λj d h=>?_,λj k d e a h1 p x y=>?_,λa z t=>?_,λa z=>?_⟩
 .have h:=uB.mp h;obtain⟨o,h1,p⟩:=Y j _ h;have D:j<(X0 vs):=by have:=(uj.mp h1).1;have:=B.len;lia
  have hv:vs[j]?=Wp vs[j]:=jT D;refine⟨_,uB.mpr hv,?_⟩
  cases o with
  |val q=>
   have:q.1=d:=by cases p;rfl
   subst this;exact Rep.mono (λ_ _ e _=>e) (λb _ z=>sub b z)<|B.rep E h1 hv
  |slot i=>
   have x:f[i]?=Wp (Wp (d,W1)):=rq p;have y:=B.slt j i _ h1 hv;obtain⟨w,Q,R⟩:=B.er.val i d x;rw[y]at Q;have:vs[j]=w:=by simpa using Q
   rw[this];exact Rep.mono (λ_ _ e _=>e) (λb _ z=>(sub b z).imp id<|B.tt b) R
 .obtain⟨i,a,O,A,C,I⟩:=wK B n<|uB.mp h;obtain⟨b,L,U⟩:=B.er.own i d A;rw[I]at L;cases L;exact⟨a,uB.mpr C,U.mono (λ_ _ e _=>e) (λb _ z=>(sub b z).imp id<|B.tt b) λ_ e=>e⟩
 .obtain⟨i,S,O,A,G,C,I⟩:=FY B n ⟨d,h1,x⟩;obtain⟨P,V,g1,g2,J,M,N⟩:=FY B n ⟨e,p,y⟩;have:=B.er.inj i P G J a C M I N;subst this;exact CG nd O A g1 g2
 .rcases t with t|t
  .exact B.er.nT a (JQ B n z) (B.tt a t)
  exact t.2 z
 rcases z with z|z
 .exact B.er.dom a (B.tt a z)
 exact B.er.Iw z.1
def Kd{T' Td:AA}(E:ER K H T l δ)(B:Ops K T l δ H os vs f m u)(N:kz f os=Wp c)(nd:(ju os c).Nodup)(kC:BJ (vs.map Wp) (c.map Wp) m g s)
  (Y:ER K s Td (vs.map Wp) g)(t1:∀b,Tc T l f vs c b->Td b)(t2:∀b,T' b->Td b)(t3:∀b,m b≠WF->T' b->T b):
  ER K s T' l (wb os c g f)/\(∀b,A1 l (wb os c g f) b->A1 (vs.map Wp) g b\/Tc T l f vs c b)/\BJ l f m (wb os c g f) s:=by
 obtain⟨hl,hg⟩:=qf N;have ol:(X0 g)=(X0 c):=by have:=Y.len;have:=B.len;simp at*;lia
 have R:∀(i:Nat)(x:Sl),(wb os c g f)[i]?=Wp x->(i∉ju os c/\f[i]?=Wp x)\/∃(j:Nat)(d:D),os[j]?=Wp (.slot i)/\c[j]?=Wp (d,C)/\g[j]?=Wp x:=λi x h=>by
  by_cases A:i∈ju os c
  .right;obtain⟨j,d,h1,p⟩:=CF A;have hj:j<(X0 g):=by have:=(uj.mp p).1;lia
   have Z:g[j]?=Wp g[j]:=jT hj;have hi:i<(X0 f):=by have:=(uj.mp h).1;rwa [Aj]at this
   have:=IT (δ:=f) nd h1 p Z hi;rw[h]at this;cases this;exact⟨j,d,h1,p,Z⟩
  left;rw[Ai A]at h;exact⟨A,h⟩
 have I:∀{i:Nat}{a:iG},i∉ju os c->AK l f i a->¬A1 (vs.map Wp) (c.map Wp) a:=λ{i a} A ⟨e,q,C'⟩ ⟨j,d,h1,p⟩=>by obtain⟨P,d2,g1,g2,S,G,g4⟩:=FY B N ⟨d,h1,p⟩;have:=B.er.inj i P e S a q G C' g4;subst this;exact A<|uz g1 g2
 have U:∀i a,AK l (wb os c g f) i a->AK l f i a/\(A1 (vs.map Wp) g a\/Tc T l f vs c a):=λi a a'=>by
  obtain⟨d,h1,p⟩:=a'
  rcases R i _ h1 with⟨A,y⟩|⟨j,e,g1,g2,G⟩
  .exact⟨⟨d,y,p⟩,.inr<|.inr ⟨⟨i,d,y,p⟩,I A ⟨d,y,p⟩⟩⟩
  obtain⟨P,b,q,C',J,L⟩:=wK B N g2;rw[g1]at q;cases q;rw[p]at L;cases L;exact⟨⟨e,C',p⟩,.inl ⟨j,d,G,uB.mpr J⟩⟩
 have X:∀b,A1 l (wb os c g f) b->A1 (vs.map Wp) g b\/Tc T l f vs c b:=λb ⟨i,d,h1,p⟩=>(U i b ⟨d,h1,p⟩).2
 have F:∀b,A1 l (wb os c g f) b->A1 l f b:=λb a'=>by
  obtain⟨i,d,h1,p⟩:=a'
  obtain⟨⟨e,q,C'⟩,_⟩:=U i b ⟨d,h1,p⟩;exact⟨i,e,q,C'⟩
 have W:∀a o,m a=Wp o->¬A1 l f a->s a=Wp o:=λa o e n=>kC.kp a o e λz=>n<|JQ B N z
 have O:∀b,(A1 l (wb os c g f) b\/T' b)->A1 (vs.map Wp) g b\/Td b:=λb z=>by
  rcases z with z|z
  .exact(X b z).imp id (t1 b)
  exact .inr (t2 b z)
 refine⟨⟨by rw[Aj];exact B.er.len,λi d h=>?_,λi d h=>?_,λi k d e a h1 p y h4=>?_,λa z t=>?_,λa z=>Y.dom a<|t2 a z⟩,X,⟨W,λi a z=>(U i a z).1,kC.dm⟩⟩
 .rcases R i _ h with⟨A,y⟩|⟨j,e,g1,g2,G⟩
  .obtain⟨w,Q,M⟩:=B.er.val i d y;exact⟨w,Q,Rep.mono (λb o e n=>W b o e λz=>n<|.inl z) (λb V z=>z.imp (F b) λz=>B.tt b<|t3 b V z) M⟩
  obtain⟨P,b,q,C',J,L⟩:=wK B N g2;rw[g1]at q;cases q;obtain⟨w,Q,M⟩:=Y.val j d G;have:=uB.mp Q;rw[J]at this;cases this;exact⟨_,L,Rep.mono (λ_ _ e _=>e) (λb _ z=>O b z) M⟩
 .rcases R i _ h with⟨A,y⟩|⟨j,e,g1,g2,G⟩
  .obtain⟨a,Q,M⟩:=B.er.own i d y;exact⟨a,Q,M.mono (λb o e n=>W b o e λz=>n<|.inl z) (λb V z=>z.imp (F b) λz=>B.tt b<|t3 b V z) λo e=>kC.kp a o e<|I A ⟨d,y,Q⟩⟩
  obtain⟨P,b,q,C',J,L⟩:=wK B N g2;rw[g1]at q;cases q;obtain⟨a,Q,M⟩:=Y.own j d G;have:=uB.mp Q;rw[J]at this;cases this;exact⟨_,L,M.mono (λ_ _ e _=>e) (λb _ z=>O b z) λ_ e=>e⟩
 .obtain⟨⟨e1,q,C'⟩,_⟩:=U i a ⟨d,h1,y⟩;obtain⟨⟨S,J,L⟩,_⟩:=U k a ⟨e,p,h4⟩;exact B.er.inj i k e1 S a q J C' L
 exact B.er.nT a (F a z) (B.tt a<|t3 a (B.er.HS<|F a z) t)
def xm(E:ER K H T l δ)(B:Ops K T l δ H os vs f m u)(k:kz f os=Y c)(o:(ju os c).Nodup)(P:B8 K (Tc T l f vs c) (vs.map Y) (c.map Y) m r g v s):
  B8 K T l δ H r (wb os c g f) v s:=by
 obtain⟨d,b⟩:=r
 cases b
 .obtain⟨kC,h,w⟩:=P;obtain⟨i,ow,j⟩:=Kd (T':=T) E B k o kC h (λ_ z=>z) (λ_ z=>.inl z) λ_ _ z=>z;refine⟨B.keep.trans j,i,Rep.mono (λ_ _ e _=>e) (λb _ z=>?_) w⟩;rcases z with z|z
  .exact ow b z
  exact .inr (.inl z)
 obtain⟨kC,p,rfl,n,h,ok⟩:=P;obtain⟨i,ow,j⟩:=Kd (T':=λa=>T a\/a=p) E B k o kC h (λ_ z=>.inl z) (λb z=>z.elim (λz=>.inl (.inl z)) .inr) (λb t z=>z.elim id λz=>by subst z;exact absurd n t);refine⟨B.keep.trans j,p,rfl,?_,i,ok.mono (λ_ _ e _=>e) (λb _ z=>?_) λ_ e=>e⟩
 .cases q:H p with
  |none=>rfl
  |some x=>exact absurd n<|B.keep.dm p (by rw[q];simp)
 rcases z with z|z|z
 .exact(ow b z).imp id .inl
 .exact .inr (.inl<|.inl z)
 exact .inr (.inr z)
end
section
variable {X:Cx}{e:iR}{b:kD}{fs:List FO}{a p:br}{k:Nat}{f:iG}{g:mG}{d:jr}{c:AL}{x:ax}
def RI(F:Bn X.prog X.w X.K X.mg X.base Fx k f g d (Iv X.K c))(O:B7 k X.A)(I:Gl X x)(L:X.mg x=Wp (.ref f))(hk:bP X.K (.ref f)=WP)(z:Binds X.K g d [])
  (y:PA X (e::b) (tA X.K fs))(t:(x==("__debug__":ax))=W1)(C:aa (e::b) X.env=(W1,aX e X.env)::aa b X.env)(s:(aK a<|aa b X.env).any (·.1)=W1):
  PX X (.Call (.Name x p) (e::b) [] a) (ja c fs):=PX.imp (Jx F O I L hk z (.nil) Zy y t C s) λN H Q G=>by
 obtain⟨J,T,Y,M,E,e,k⟩:=G;obtain⟨os,j,h1,e⟩:=iW e;obtain⟨h,l,e⟩:=iM e;dsimp only at e;split at e
 .rename_i m;obtain⟨r,i,u,e⟩:=iW e;obtain⟨rfl,rfl⟩:=jn e;refine⟨J,T,os,j,E,h1,λn q U B=>?_⟩;show Iv X.K c (n++[]) q Q E0;rw[sA];exact⟨Tc T N j n h,h,r,i,zG E B l m,u,λv o P=>k v o<|xm E B l m P⟩
 cases e
end
structure KH(A:ki)(d:iG)(σ:L2.St)(δ:Dn)(H:Hp)(σ':L2.St)(δ':Dn)(H':Hp):Prop where
 kp:∀a o,H a=Wp o->¬A1 σ δ a->a≠d->H' a=Wp o
 owi:∀i a,AK σ' δ' i a->AK σ δ i a\/H a=WF\/(A i/\∃j,A j/\AK σ δ j a)
 dm:∀a,H a≠WF->H' a≠WF
 as:∀i,¬A i->σ'[i]?=σ[i]?
section
variable {A:ki}{d:iG}{c b f:L2.St}{δ δ1 δ2:Dn}{H g l:Hp}
def SK.La(k:SK A c δ H b δ1 g):KH A d c δ H b δ1 g:=⟨λa o e n _=>k.kp a o e n,k.owi,k.dm,k.as⟩
def KH.ow(k:KH A d c δ H b δ1 g)(a:iG)(h:A1 b δ1 a):A1 c δ a\/H a=J:=by
 obtain⟨i,e,h1,o⟩:=h;rcases k.owi i a ⟨e,h1,o⟩with⟨e,m,n⟩|z|⟨_,j,_,e,m,n⟩
 .exact .inl ⟨i,e,m,n⟩
 .exact .inr z
 exact .inl ⟨j,e,m,n⟩
def KH.trans(x:KH A d c δ H b δ1 g)(y:KH A d b δ1 g f δ2 l):KH A d c δ H f δ2 l where
 kp:=λa o e n p=>y.kp a o (x.kp a o e n p) (λz=>(x.ow a z).elim n λz=>by rw[z]at e;cases e) p
 owi:=λi a z=>(y.owi i a z).elim (x.owi i a) λz=>z.elim (λz=>.inr (.inl (by
  cases h:H a with
  |none=>rfl
  |some o=>exact absurd z<|x.dm a<|by rw[h];simp))) λ⟨m,j,q,z⟩=>(x.owi j a z).elim (λz=>.inr (.inr ⟨m,j,q,z⟩)) λz=>z.elim (λz=>.inr (.inl z)) λ⟨_,k,ak,z⟩=>.inr (.inr ⟨m,k,ak,z⟩)
 dm:=λa z=>y.dm a<|x.dm a z
 as:=λi h=>(y.as i h).trans<|x.as i h
end
noncomputable def wC(p:(Int->Bool)×Nat)(d:D):(Int->Bool)×Nat:=match d with
 |.int k=>(λa=>p.1 a||decide (a=k),if p.1 k then p.2 else p.2+1)
 |_=>p
def ou(l:List D):(Int->Bool)×Nat:=l.foldl wC (λ_=>U,0)
def Cr(l:List D)(k:Int):ou (l++[.int k])=((λa=>(ou l).1 a||decide (a=k)),if(ou l).1 k then(ou l).2 else(ou l).2+1):=by unfold ou;rw[G7];rfl
def Rz:∀(l:List D)(p:(Int->Bool)×Nat),(l.foldl wC p).2<=p.2+(X0 l):=by
 intro b
 induction b with
 |nil=>intro p;exact jZ _
 |cons d l a=>
  intro p;have:=a<|wC p d
  have h:(wC p d).2<=p.2+1:=by
   unfold wC;split
   .dsimp only;split<;>lia
   lia
  simp
  lia
def AtD(S:Option Bool)(K:ji)(T:Hp)(O:AA)(d:iG)(a:List D):Prop:=match S with
 |some U=>∃c,T d=Y (.lst c)/\YP K T O a c
 |some C=>T d=Y (.set (ou a).1 (ou a).2)
 |none=>∃b,Bs K (T d) .set [] a b/\YP K T O a b
structure BS(S:Option Bool)(K:ji)(d:iG)(T:AA)(σ:L2.St)(δ:Dn)(acc:List D)(H:Hp):Prop where
 er:ER K H T σ δ
 td:T d
 at':AtD S K H (λa=>A1 σ δ a\/T a) d acc
abbrev FB:=List D->Dn->Option (List D×Dn)
inductive IC(S:Option Bool)(K:ji)(A:ki)(d:iG)(f:FB)(σ:L2.St)(H:Hp)(N:L2.St->Hp->Prop):Prop where
 |mk (δ:Dn) (T:AA) (acc i4:List D) (δ':Dn) (_:BS S K d T σ δ acc H) (_:f acc δ=Wp (i4,δ')) (_:∀σ' H',KH A d σ δ H σ' δ' H'->BS S K d T σ' δ' i4 H'->N σ' H')
noncomputable def jN(f:F):FB:=λa δ=>(f δ).bind λp=>if (X0 a)<sizeLine then Y (a++[p.1.1],p.2)else J
noncomputable def kr(c:Tg)(ti:FT)(b:FB):List D->FB
 |[],acc,a=>Y (acc,a)
 |x::xs,acc,a=>(c x a).bind λδ1=>(ti δ1).bind λp=>(if p.1=C then b acc p.2 else Y (acc,p.2)).bind λq=>kr c ti b xs q.1 q.2
def Ce(c:Cb)(d:Tg)(ti:FT)(b:FB):FB:=λa e=>(c e).bind λp=>kr d ti b p.1 a p.2
section
variable {K:ji}{A:ki}{d:iG}{T:AA}{f r:L2.St}{j s:Dn}{p:List D}{H q:Hp}
def BS.step(b:BS S K d T f j p H)(k:SK A f j H r s q)(t:ER K q T r s):BS S K d T r s p q:=by
 refine⟨t,b.td,?_⟩;have h:=b.at'
 have m:∀{l:List D}{i:List V},YP K H (λa=>A1 f j a\/T a) l i->YP K q (λa=>A1 r s a\/T a) l i:=λg=>by
  refine YP.mono (λb o e n=>k.kp b o e λz=>n<|.inl z) (λc u z=>?_) g;rcases z with z|z
  .exact(k.ow c z).elim bo λz=>absurd z u
  exact .inr z
 rcases S with _|_|_
 .obtain⟨v,h1,g⟩:=h;exact⟨v,h1.keep λo e=>k.kp d o e λz=>b.er.nT d z b.td,m g⟩
 .obtain⟨i,h1,g⟩:=h;exact⟨i,k.kp d _ h1 λz=>b.er.nT d z b.td,m g⟩
 exact k.kp d _ h λz=>b.er.nT d z b.td
def JJ(hg:∀v f H Q,tG K A tg v f H Q->g v f H Q)(hi:∀f H Q,tT K ft f H Q->ti f H Q)(hb:∀f H N,IC S K A d fb f H N->tb f H N)
  (b:BS S K d T f j p H)(P O:AA)(ok:KJ K J' ds P O q)(s1:∀a o,q a=Y o->¬P a->H a=Y o)(s0:∀a,q a≠J->A1 f j a\/a=d->P a)(s2:∀a,q a≠J->(A1 f j a\/T a)->O a)(s3:∀a,q a≠J->H a≠J)(e:kr tg ft fb ds p j=Y (i4,B))
  (k:∀E t,KH A d f j H E B t->BS S K d T E B i4 t->N E t):Ja J' g ti tb f H N:=by
 refine⟨λi m l w=>m=X0 ds-i/\i<=X0 ds/\∃h G,KH A d f j H l h w/\BS S K d T l h G w/\kr tg ft fb (ds.drop i) G h=Y (i4,B),⟨X0 ds,by simp,mq _,j,p,SK.refl.La,b,by simpa using e⟩,?_⟩;rintro i m l w ⟨rfl,hle,h,G,Y',I',e2⟩
 have hO:∀a,q a≠J->(A1 l h a\/T a)->O a:=λa W z=>by
  rcases z with z|z
  .exact(Y'.ow a z).elim (λz=>s2 a W<|.inl z) λz=>absurd z<|s3 a W
  exact s2 a W (.inr z)
 have aF:∀a o,q a=Y o->¬P a->w a=Y o:=λa o V n=>Y'.kp a o (s1 a o V n) (λz=>n<|s0 a (by rw[V];simp)<|.inl z) λz=>n<|s0 a (by rw[V];simp)<|.inr z;by_cases D:i<X0 ds
 .refine .inr ?_;have hd:ds[i]?=Y ds[i]:=jT D;obtain⟨go,yl⟩:=ok.go i _ w hd aF;rw[zZ D]at e2;obtain⟨C,h3,e3⟩:=iM e2;obtain⟨c,u,h4,e4⟩:=iW e3;obtain⟨y,M,F,e5⟩:=iW e4;refine⟨go,λx t hy=>?_⟩;obtain⟨ext,rep⟩:=yl x t hy;have eI:ER K t T l h:=I'.er.mono (λb ob eb _=>ext b ob eb) (λ_ _ z=>z) λa z=>(I'.er.dom a z).up<|ext a;have SX:SK A l h w l h t:=(BJ.ext ext).sk;have R:=I'.step SX eI;have iw:KH A d f j H l h t:=Y'.trans SX.La;have rx:=rep (λa=>A1 l h a\/T a) hO λb hb z=>z.elim (λz=>I'.er.HS z hb) λz=>(I'.er.dom b z).ne hb;refine hg _ _ _ _ ⟨h,T,ds[i],C,eI,rx,h3,λU S3 Z=>?_⟩;have B3:=R.step S3 Z;have cZ:=iw.trans S3.La;refine hi _ _ _ ⟨C,T,c,u,Z,h4,λH4 K4 E4=>?_⟩;have S4:SK A U C t U u H4:=K4.sk;have X:=B3.step S4 E4;have L:=cZ.trans S4.La
  cases c with
  |false=>rw[jo kR]at F;obtain⟨rfl,rfl⟩:=jn F;exact WN ⟨X0 ds-(i+1),by lia,rfl,D,u,G,L,X,e5⟩
  |true=>rw[iZ I]at F;exact WM<|hb _ _ _ ⟨u,T,G,y,M,X,F,λσ5 H5 S5 B5=>⟨X0 ds-(i+1),by lia,rfl,D,M,y,L.trans S5,B5,e5⟩⟩
 refine .inl ⟨ok.stop i w (by lia) aF,?_⟩;rw[zY<|by lia]at e2;obtain⟨rfl,rfl⟩:=jn e2;exact k l w Y' I'
end
section
variable {X:Cx}{A:ki}{d:iG}{b:iR}{f:F}
def PB.imp'{code:dP Unit}{t e:TB}(h:PB X code t)(k:∀c Q N,e c Q N->t c Q N):PB X code e:=λa s c Q N T g=>h a s c Q N T<|k c Q N g
def R7{S:Option Bool}{e:iR}{depth:Nat}{c:pJ}{r:Cb}{u:Tg}{s:FT}{q:FB}(Q:X.xe=λ_ _=>False)(hc:X.calm=WP)
  (hl:(∃b g l p,e=.ListComp b g l p)\/(∃b g l p,e=.SetComp b g l p))(hg:(bS e)[depth+1]?=Wp c)(Y:c.is_async=0)(j4:∀t,(bS e)[depth+1+1]?=Wp t->t.is_async=0)
  (hs:∀x,aG c.iter X.env x=pure x)(pi:L9 X (λ_=>False) c.target c.iter r)(pg:LQ X A c.target u)(M:KR X c.ifs (tT X.K s))(pb:PB X (jX e (depth+1) (.ref d) X.env) (IC S X.K A d q)):
  PB X (jX e depth (.ref d) X.env) (IC S X.K A d<|Ce r u s q):=PB.imp' (Wg Q hc hl hg Y j4 hs pi pg M pb) λw H N D=>by
 obtain⟨v,T,G,P,F,B,e,k⟩:=D;obtain⟨U,j,h1,e⟩:=iW e;refine⟨v,T,U,j,B.er,h1,λJ I L C ok=>?_⟩;have n:SK A w v H w j I:=L.sk;exact JJ (λ_ _ _ _ h=>h) (λ_ _ _ h=>h) (λ_ _ _ h=>h) (B.step n C) _ _ ok (λa o e _=>e) (λa _ z=>z.elim (λa'=>by obtain⟨i,x,z⟩:=a';exact .inl ⟨i,id,x,z⟩) λz=>.inr (z▸B.td)) (λa _ z=>z) (λa z=>z) e λm E O y=>k m E (n.La.trans O) y
end
def jD(caps:jQ)(k:Nat)(fi:Cb)(b:Tg)(ti:FT)(a:FB):F:=λδ=>(fi δ).bind λp=>(kz p.2<|caps.map .slot).bind λargs=>if(ju (caps.map .slot) args).Nodup then(kr b ti a p.1 []<|args.map Y++ai k J).bind λq=>Y ((.lst q.1,C),wb (caps.map .slot) args (jy args q.2) p.2)else J
noncomputable def yZ(a:jQ)(k:Nat)(b:L2.St):L2.St:=(a.map λj=>(b[j]?).join)++ai k J
def o0(S:Option Bool):HO:=match S with
 |some U=>.lst []
 |some C=>.set (λ_=>U) 0
 |none=>.A8 []
noncomputable def qS(S:Option Bool)(Q:VK):VK:=match S with
 |some U|none=>Q
 |some C=>λx b=>∃S n,∃a,x=.ref a/\b a=Y (.set S n)/\Q (.int n) b
def rS(S:Option Bool)(a:List D):D×Bool:=match S with
 |some U=>(.lst a,C)
 |none=>(.AF .set [] a,C)
 |some C=>(.int (ou a).2,U)
def Qd(S:Option Bool)(b:jQ)(k:Nat)(d:Cb)(e:Tg)(f:FT)(c:FB):F:=λg=>(d g).bind λp=>(kz p.2<|b.map .slot).bind λa=>if(ju (b.map .slot) a).Nodup then(kr e f c p.1 []<|a.map Y++ai k J).bind λq=>Y (rS S q.1,wb (b.map .slot) a (jy a q.2) p.2)else J
def Dc{S:Option Bool}{K:ji}{f:jQ}{k:Nat}{fi:Cb}{tg:Tg}{ti:FT}{fb:FB}{p:L2.St}{H:Hp}{Q:VK}(h:tF K (Qd S f k fi tg ti fb) p H Q):
  tI K (λi=>i∉f) fi p H λJ' q=>Fs (o0 S) J' (tG K (λi=>X0 f<=i) tg) (tT K ti) (λd=>IC S K (λi=>X0 f<=i) d fb) (yZ f k) p q (qS S Q):=by
 obtain⟨δ,T,rr,δr,E,e,kq⟩:=h;obtain⟨ds,s,h1,e⟩:=iW e;obtain⟨g,t,e⟩:=iM e;dsimp only at e t;split at e
 case isFalse=>cases e
 rename_i Y;obtain⟨m,δ',h2,e⟩:=iW e;obtain⟨rfl,rfl⟩:=jn e;refine⟨δ,T,ds,s,E,h1,λJ' q D A ok d hd=>?_⟩;obtain⟨hl,hg⟩:=qf t;have aM:(X0 g)=(X0 f):=by simpa using hl
 let C:List V:=f.map λj=>((p[j]?).join).getD .A7
 have there:∀(i j:Nat),f[i]?=Wp j->∃v,p[j]?=Wp (Wp v):=λi j l=>by
  have hi:i<(X0 g):=by have:=(uj.mp l).1;lia
  obtain⟨o,u,q2⟩:=hg i _ (jT hi);rw[kQ,l]at u;cases u;have O:=rq q2;generalize g[i]=y at O;obtain⟨x,b⟩:=y
  cases b
  .obtain⟨v,h,_⟩:=A.val j x O;exact⟨v,h⟩
  obtain⟨a,h,_⟩:=A.own j x O;exact⟨_,h⟩
 have gq:∀(i j:Nat),f[i]?=Wp j->∃v,C[i]?=Wp v/\p[j]?=Wp (Wp v):=λi j l=>by obtain⟨v,hv⟩:=there i j l;refine⟨v,?_,hv⟩;show(f.map λj=>((p[j]?).join).getD .A7)[i]?=Wp v;rw[kQ,l];simp[hv]
 have y9:yZ f k p=C.map Wp++ai k J:=by
  unfold yZ
  congr 1
  apply zW;intro i;show _=((f.map λj=>((p[j]?).join).getD .A7).map Wp)[i]?;rw[kQ,kQ,kQ]
  cases l:f[i]? with
  |none=>rfl
  |some j=>obtain⟨v,hv⟩:=there i j l;simp[hv]
 have I:Ops K T p s q (f.map BN.slot) C s q T:=by
  refine⟨by simp[C],.refl,A,λ_ z=>z,λj x v l=>?_,λj x v l=>?_,λj i v l hv=>?_⟩
  .rw[kQ]at l;obtain⟨_,_,z⟩:=jw l;cases z
  .rw[kQ]at l;obtain⟨_,_,z⟩:=jw l;cases z
  rw[kQ]at l;obtain⟨c,X,z⟩:=jw l;cases z;obtain⟨v',u,q2⟩:=gq j i X;rw[hv]at u;cases u;exact q2
 have L:=zG A I t Y
 have R:∀(i:Nat) x,g[i]?=Wp (x,WP)->¬(X0 f<=i):=λi x B=>by
  have:=(uj.mp B).1
  lia
 rw[y9];have B:=lO (o:=o0 S) hd
 have nz:∀a,q a≠J->upd q d (o0 S) a≠J:=λa z=>by
  cases U:q a with
  |none=>exact absurd U z
  |some o=>rw[B a o U];simp
 have b0:BS S K d (λa=>Tc T p s C g a\/a=d) (C.map Wp++ai k J) (g.map Wp++ai k J) [] (upd q d<|o0 S):=by
  refine⟨(L.pad).mono (λb o eb _=>B b o eb) (λb hb z=>z.elim id λz=>by subst z;exact absurd hd hb) λa z=>?_,.inr XV,?_⟩
  .rcases z with z|z
   .exact(L.dom a z).up (B a)
   subst z;rw[jv];rcases S with _|_|_<;>trivial
  rcases S with _|_|_
  .exact⟨[],⟨rfl,[],jv,.nil⟩,YP.nil⟩
  .exact⟨[],jv,YP.nil⟩
  exact jv
 refine JJ (λ_ _ _ _ h=>h) (λ_ _ _ h=>h) (λ_ _ _ h=>h) b0 _ _ ok (λa o N _=>B a o N) (λa W z=>?_) (λa W z=>?_) nz h2 λσ' G M w=>?_
 .rcases z with z|z
  .obtain⟨j,x,g1,g2⟩:=Ox.mp z;obtain⟨i,_,u,_,O⟩:=FY I t ⟨x,g1,g2⟩;refine .inl ⟨i,λn=>n ?_,O⟩;rw[kQ]at u;obtain⟨c,X,e⟩:=jw u;cases e;exact nL X
  subst z;exact absurd hd W
 .rcases z with z|z|z
  .exact .inl (JQ I t<|Ox.mp z)
  .rcases z with z|z
   .exact .inr z
   exact .inl z.1
  subst z;exact absurd hd W
 have F:SK (λi=>X0 f<=i) (C.map Wp++ai k J) (g.map Wp++ai k J) q σ' δ' G:=
  ⟨λa o N n=>M.kp a o (B a o N) n (by intro z;subst z;rw[N]at hd;cases hd),λi a z=>(M.owi i a z).imp id λz=>z.imp (λz=>by
   cases U:q a with
   |none=>rfl
   |some o=>exact absurd z<|nz a<|by rw[U];simp) id,λa z=>M.dm a<|nz a z,M.as⟩
 rcases S with _|_|_
 .obtain⟨us,Z,ry⟩:=w.at';have P:=rE (r:=(.AF .set [] m,WP)) (v:=.ref d) L F R ⟨d,rfl,hd,w.er,us,Z,YP.mono (λ_ _ e _=>e) (λb _ z=>z) ry⟩;exact kq (.ref d) G<|(xm A I t Y P).pre D
 .obtain⟨ys,Z,ry⟩:=w.at';have P:=rE (r:=(.lst m,WP)) (v:=.ref d) L F R ⟨d,rfl,hd,w.er,ys,Z,YP.mono (λ_ _ e _=>e) (λb _ z=>z) ry⟩;exact kq (.ref d) G<|(xm A I t Y P).pre D
 have P:=rE (r:=(.int (ou m).2,W1)) (v:=.int (ou m).2) L F R ⟨w.er.mono (λ_ _ e _=>e) (λb _ z=>.inl z) λa z=>w.er.dom a<|.inl z,Rep.mkInt⟩;exact⟨_,_,d,rfl,w.at',kq (.int (ou m).2) G<|(xm A I t Y P).pre D⟩
def Gn{K:ji}{a:jQ}{k:Nat}{c:Cb}{e:Tg}{ti:FT}{b:FB}{f:L2.St}{T:Hp}{Q:VK}(h:tF K (jD a k c e ti b) f T Q):
  Uj (tI K (λi=>i∉a) c) (tG K (λi=>X0 a<=i) e) (tT K ti) (λd=>IC U K (λi=>X0 a<=i) d b) (yZ a k) f T Q:=Dc (S:=U) h
section
variable {X:Cx}{elt:iR}{c:pJ}{rest:pK}{scope:jI}{pos d9 py:br}{N':jr}{caps:jQ}{k:Nat}{fi:Cb}{tg:Tg}{ti:FT}{fb:FB}{A:ki}{L:LL}{H0:Hp}
structure Ei(X:Cx)(N':jr)(scope:jI)(caps:jQ)(k:Nat):Prop where
 cell:∀y∈scope.names,y.2=.cell->scope.names.lookup y.1=Wp .cell
 kind:scope.kind=.function
 names:∀y∈scope.names,y.2=.local->scope.names.lookup y.1=Wp .local
 free:∀y∈scope.names,y.2=.free->X.env.scope.names.lookup y.1=Wp .cell\/X.env.scope.names.lookup y.1=Wp .free
 len:(X0 caps)+k=X0 N'
 caps:∀(i j:Nat)(x:ax),caps[i]?=Wp j->N'[i]?=Wp x->X.N[j]?=Wp x/\scope.names.lookup x=Wp .free
def Ei.N5(T:Ei X N' scope caps k):Cc X N' scope (yZ caps k):=by
 refine⟨T.cell,T.kind,T.names,T.free,λd=>by simp[yZ,T.len],λd i v x h1 f=>?_⟩;unfold yZ at h1;by_cases b:i<X0 caps
 .rw[sv<|by simpa using b,kQ,jT b]at h1;obtain⟨g,h⟩:=T.caps i caps[i] x (jT b) f;refine⟨h,caps[i],g,?_⟩;have a:(d[caps[i]]?).join=Y v:=by simpa using h1
  cases e:d[caps[i]]? with
  |none=>rw[e]at a;cases a
  |some y=>rw[e]at a;exact oo Y a
 rw[qR<|by simpa using b,wk]at h1;split at h1<;>cases h1
def RM(T:Ei X N' scope caps k)(m:X.calm=C)(l:c.is_async=0)(p:∀e,rest[0]?=Y e->e.is_async=0)
  (n:∀x,aG c.iter X.env x=pure x)(q:L9 X (λi=>i∉caps) c.target c.iter fi)
  (s:∀(j:kW)(T:iG)(r:iL)(f:Hp)(fp:kP)(a:jF),let b:=X.comp N' scope j T r f fp a
   LQ b (λi=>X0 caps<=i) c.target tg/\KR b c.ifs (tT X.K ti)/\∀d,PB b (jX (.ListComp elt (c::rest) scope pos) 0 (.ref d) b.env)<|IC U X.K (λi=>X0 caps<=i) d fb):
  PX X (.ListComp elt (c::rest) scope pos) (jD caps k fi tg ti fb):=PX.imp (Jw (o:=.lst []) (fp:=c.iter.pos) (new:=u9 []) (g:=tG X.K (λi=>X0 caps<=i) tg) (ti:=tT X.K ti) (tb:=λd=>IC U X.K (λi=>X0 caps<=i) d fb) T.N5 m l p n q s (λ_ _ _ k=>oF<|k _ λ_=>⟨mq _,[],0,.nil,kE _ rfl⟩) (.inl ⟨_,_,_,_,rfl⟩) (hev:=by cases c;rfl)) λt O Q h=>Gn h
def aga{y:ax}{i:Nat}(m:bQ (.ListComp elt (c::rest) scope pos) (Y<|.Name y py) d9.line X.env=pure WP)
  (C:Ei X N' scope caps k)(w:X.calm=WP)(u:c.is_async=0)(O:∀h,rest[0]?=Y h->h.is_async=0)
  (B:∀x,aG c.iter X.env x=pure x)(Q:L9 X (λi=>i∉caps) c.target c.iter fi)(o:PG X (.Name y py) (Ga i))(t:A i)
  (J:∀(n:kW)(C:iG)(G:iL)(l:Hp)(p:kP)(a:jF),let b:=X.comp N' scope n C G l p a
   LQ b (λi=>X0 caps<=i) c.target tg/\KR b c.ifs (tT X.K ti)/\∀d,PB b (jX (.ListComp elt (c::rest) scope pos) 0 (.ref d) b.env)<|IC U X.K (λi=>X0 caps<=i) d fb):
  Lw X A L H0 (.Assign [.Name y py] (.ListComp elt (c::rest) scope pos) d9) (kj i<|jD caps k fi tg ti fb):=PS.imp' (agd (g:=tG X.K (λi=>X0 caps<=i) tg) (ti:=tT X.K ti) (tb:=λd=>IC U X.K (λi=>X0 caps<=i) d fb) m C.N5 w u O B Q o J) λD N H I=>by
 obtain⟨M,T,out,E,fi,e,k⟩:=I;obtain⟨r,f,s,e⟩:=iW e;obtain⟨z,rfl⟩:=jm e;refine Gn ⟨M,T,r,f,E,s,λv j P=>?_⟩;obtain⟨h1,q⟩:=Ao (A:=A) E P z t;exact k _ j h1 q
end
section
variable {K:ji}{T:AA}{d:L2.St}{c:Dn}{H:Hp}{i:Nat}{l m:List D}{a:iG}{g:List V}
def AK.EW{j:Nat}{b:iG}(hd:c[i]?=Y (Y (k,C)))(h:AK d (c.set i<|Y (d',C)) j b):AK d c j b:=by
 obtain⟨e,h1,f⟩:=h;rcases nX h1 with⟨rfl,_,_⟩|⟨_,q⟩
 .exact⟨_,hd,f⟩
 exact⟨e,q,f⟩
def ER.EW(E:ER K H T d c)(hd:c[i]?=Wp (Wp (U',WP)))(t:d[i]?=Wp (Wp<|.ref a))(r:Ba K (upd H a o) (λb=>A1 d c b\/T b) d' a):
  ER K (upd H a o) T d (c.set i<|Wp (d',WP))/\BJ d c H (c.set i<|Wp (d',WP)) (upd H a o):=by
 have Y:i<(X0 c):=(uj.mp hd).1;have v:A1 d c a:=⟨i,_,hd,t⟩
 have B:∀b,A1 d (c.set i<|Wp (d',WP)) b->A1 d c b:=λb a'=>by
  obtain⟨j,e,h1,s⟩:=a'
  obtain⟨O,x,y⟩:=AK.EW hd ⟨e,h1,s⟩;exact⟨j,O,x,y⟩
 have I:∀b u,H b=Wp u->¬(A1 d c b\/T b)->upd H a o b=Wp u:=λb u e n=>by rw[jx<|by intro z;subst z;exact n<|.inl v];exact e
 have L:∀b,H b≠WF->upd H a o b≠WF:=λb z=>by
  by_cases C:b=a
  .subst C;rw[jv];simp
  rw[jx C];exact z
 have sub:∀b,(A1 d (c.set i<|Wp (d',WP)) b\/T b)->A1 d c b\/T b:=λb z=>z.imp (B b) id;refine⟨⟨by rw[tD];exact E.len,λj e h=>?_,λj e h=>?_,λj k e f b h hk h1 s=>?_,λb z=>E.nT b<|B b z,λb z=>by have ne:b≠a:=λe=>E.nT a v<|e▸z;rw[jx ne];exact E.dom b z⟩,⟨λb u e n=>by rw[jx<|by intro z;subst z;exact n v];exact e,λj b z=>AK.EW hd z,L⟩⟩
 .rcases nX h with⟨_,_,q⟩|⟨_,q⟩
  .cases q
  obtain⟨w,p,A⟩:=E.val j e q;exact⟨w,p,Rep.mono I (λb _ z=>sub b z) A⟩
 .rcases nX h with⟨rfl,_,q⟩|⟨ne,q⟩
  .cases q;exact⟨a,t,r.mono (λ_ _ e _=>e) (λb _ z=>sub b z) λ_ e=>e⟩
  obtain⟨b,p,A⟩:=E.own j e q;refine⟨b,p,A.mono I (λb _ z=>sub b z) λu J=>?_⟩;rw[jx]
  .exact J
  intro z;subst z;exact ne<|E.inj i j _ _ _ hd q t p
 obtain⟨Q,x,y⟩:=AK.EW hd ⟨e,h,h1⟩;obtain⟨G,M,N⟩:=AK.EW hd ⟨f,hk,s⟩;exact E.inj j k Q G b x M y N
def ER.write(E:ER K H T d c)(hd:c[i]?=Y (Y (.lst l,C)))(f:d[i]?=Y (Y<|.ref a))(r:YP K H (λb=>A1 d c b\/T b) m g):
  ER K (upd H a<|.lst g) T d (c.set i<|Y (.lst m,C))/\BJ d c H (c.set i<|Y (.lst m,C)) (upd H a<|.lst g):=
 E.EW hd f ⟨g,jv,YP.mono (λb o e n=>by rw[jx<|by intro z;subst z;exact n<|.inl ⟨i,_,hd,f⟩];exact e) (λ_ _ z=>z) r⟩
end
noncomputable def lK(i:Nat)(f:F):F:=λa=>match a[i]? with
 |some (Y (.lst _,C))=>(f a).bind λp=>match p.2[i]? with
  |some (Y (.lst l,C))=>if (X0 l)<sizeLine then Y ((.A7,U),p.2.set i<|Y (.lst<|l++[p.1.1],C))else J
  |_=>J
 |_=>J
def Bi(i:Nat)(f:FO):F:=λa=>match a[i]? with
 |some (Y (.lst _,C))=>(f a).bind λp=>match res p.2 p.1,p.2[i]? with
  |some (.int k),Y (Y (.lst l,C))=>if -(2^63)<=k/\k<2^63 then(FU (X0 l) k).bind λj=>(l[j]?).bind λd=>Y ((d,U),p.2.set i<|Y (.lst<|l.eraseIdx j,C))else J
  |_,_=>J
 |_=>J
def qx(i:Nat)(f:F)(g:FO):FS:=λa=>(f a).bind λp=>match p.2[i]? with
 |some (Y _)=>(g p.2).bind λq=>match res q.2 q.1,q.2[i]? with
  |some (.int k),Y (Y (.lst l,C))=>(FU (X0 l) k).bind λj=>Y<|.nx<|q.2.set i<|Y (.lst<|l.set j p.1.1,C)
  |_,_=>J
 |_=>J
section
variable {X:Cx}{e c:iR}{f:F}{g:FO}{b m a k:br}{i:Nat}{x:ax}{A:ki}{L:LL}{n:Hp}
theorem YP.erase{K T}{O:AA}:∀{l:List D}{o:List V}(j:Nat),YP K T O l o->YP K T O (l.eraseIdx j) (o.eraseIdx j)
 |[],o,j,h=>by rw[YP]at h;subst h;simp[YP]
 |d::l,o,0,h=>by rw[YP]at h;obtain⟨v,r,rfl,h1,p⟩:=h;exact p
 |d::l,o,j+1,h=>by rw[YP]at h;obtain⟨v,r,rfl,h1,p⟩:=h;exact YP.cons h1<|YP.erase j p
end
noncomputable def Vw(b:Tg)(f:F):FS:=λc=>(f c).bind λp=>(b p.1.1 p.2).bind λa=>Y<|.nx a
section
variable {X:Cx}{A:ki}{L:LL}{m:Hp}{a b h e:iR}{fs:List F}{f:F}{t:Tg}{c l k pt d:br}{x y:ax}{i j:Nat}{kt k2}
def Jn{id:String}{p:br}{n:kD}{o:List FO}{g:List D->Option (D×Bool)}{z:ax}(u:kI X (.builtin id) (Fp X.K g))(w:Gl X z)(B:X.mg z=J)(hv:aB z=Y (.builtin id))(s:PA X (e::n) (tA X.K o))(T:z≠"__name__")(r:(z==("__debug__":ax))=U)
  (v:aa (e::n) X.env=(U,aX e X.env)::aa n X.env)(q:(aK c<|aa n X.env).any (·.1)=U):PX X (.Call (.Name z p) (e::n) [] c) (jl g o):=pxn<|tN u w B hv s T r v q
def Jl{id:String}{p:br}{n:kD}{o:List FO}{g:List D->Option (D×Bool)}{z:ax}(u:kI X (.type id) (Fp X.K g))(w:Gl X z)(B:X.mg z=J)(hv:aB z=Y (.type id))(s:PA X (e::n) (tA X.K o))(T:z≠"__name__")(r:(z==("__debug__":ax))=U)
  (v:aa (e::n) X.env=(U,aX e X.env)::aa n X.env)(q:(aK c<|aa n X.env).any (·.1)=U):PX X (.Call (.Name z p) (e::n) [] c) (jl g o):=pxn<|rm u w B hv s T r v q
end
def Xq:aB "len"=Y (.builtin "len"):=by decide+kernel
def Xr:aB "abs"=Y (.builtin "abs"):=by decide+kernel
noncomputable def uG(N:jr)(c scope:jI)(b:jr)(a:jQ)(k:Nat):Bool:=
 (scope.names.all λy=>y.2 != .cell||scope.names.lookup y.1==Y .cell)&&decide (scope.kind=.function)&&(scope.names.all λy=>y.2 != .local||scope.names.lookup y.1==Y .local)&&
 (scope.names.all λy=>y.2 != .free||(c.names.lookup y.1==Y .cell||c.names.lookup y.1==Y .free))&&decide (X0 a+k=X0 b)&&
 ((a.zip b).all λp=>N[p.1]?==Y p.2&&scope.names.lookup p.2==Y .free)
def EN(n:X.N=N)(q:X.env.scope=sc)(h:uG N sc scope c a k=C):Ei X c scope a k:=by
 subst n;subst q;unfold uG at h;simp only[ma,mh,wd]at h;obtain⟨⟨⟨⟨⟨h1,d⟩,f⟩,g⟩,l⟩,m⟩:=h;refine⟨λy b e=>?_,d,λy b e=>?_,λy b e=>?_,l,λi j x o r=>?_⟩
 .have:=h1 y b;rw[e]at this;simpa using this
 .have:=f y b;rw[e]at this;simpa using this
 .have:=g y b;rw[e]at this;simpa using this
 have p:(j,x)∈a.zip c:=by
  have:(a.zip c)[i]?=Y (j,x):=by rw[E8];exact⟨o,r⟩
  exact nL this
 have:=m _ p;simpa using this
noncomputable def jK:FT:=λδ=>Y (C,δ)
inductive Ty where
 |int|bool|str|tuple|list|dict
noncomputable def Ty.n:Ty->String
 |.int=>"int"|.bool=>"bool"|.str=>"str"|.tuple=>"tuple"|.list=>"list"|.dict=>"dict"
noncomputable def Hu:D->Ty->Bool
 |.bl _,.bool=>C
 |.bl _,.int=>C
 |.int _,.int=>C
 |.str _,.str=>C
 |.tup _,.tuple=>C
 |.lst _,.list=>C
 |.AF .dct _ _,.dict=>C
 |_,_=>U
noncomputable def tyD:D->String
 |.A7=>"NoneType"|.bl _=>"bool"|.int _=>"int"|.str _=>"str"|.tup _=>"tuple"|.lst _=>"list"|.AF .dct _ _=>"dict"|.AF .set _ _=>"set"|.AF _ _ _=>"NoneType"
section
variable {X:Cx}{b:jF}{c:L2.St}{H:Hp}{s:iL}
def Ew(K:ji)(d:D)(t:Ty):dg K (.type<|tyD d) (.type t.n)=Y (Hu d t):=by
 cases d with
 |AF k _ _=>cases k<;>cases t<;>with_unfolding_all rfl
 |_=>cases t<;>with_unfolding_all rfl
def AE(Q:Inv X b c H s)(h:Bs X.K (H a) k l i us)(hk:k=.dct\/k=.set:=by first|exact .inl rfl|exact .inr I):s.TypeIs (.ref a) (tyD<|.AF k l i):=by
 cases k with
 |dct=>
  rcases h with⟨d,e,_⟩|⟨d,e,_⟩
  .obtain⟨_,_,i,_,o,g,j,h1,f,_⟩:=(show A5 X.prog X.w H s.heap a (.dK d)from Q.hok a _ e)
   exact⟨o,h1,f.1⟩
  obtain⟨_,_,p,_,o,g,j,h1,f,_⟩:=(show A5 X.prog X.w H s.heap a (.dT d)from Q.hok a _ e)
  exact⟨o,h1,f.1⟩
 |set=>
  obtain⟨_,m,e,_⟩:=h;obtain⟨g,n,t,h1,_⟩:=(show A5 X.prog X.w H s.heap a (.A8 m)from Q.hok a _ e)
  exact⟨_,h1,rfl⟩
 |exc T=>rcases hk with z|z<;>cases z
 |_=>exact h.elim
def nh{K H}(h:kb K H O (.AF k g f) v):L8 (λa d=>Bs K (H a) k g f d) (YP K H O f) v:=by
 rcases h with h|⟨a,rfl,h⟩
 .obtain⟨a,d,e,q,r⟩:=h.AF;exact⟨a,d,e,q.2,r⟩
 obtain⟨d,e,r⟩:=h;exact⟨a,d,rfl,e,r⟩
end
theorem mQ(K:ji)(d:D):∀a:List Ty,et K (.type<|tyD d) (a.map λt=>b3 t.n)=Y (a.any<|Hu d)
 |[]=>rfl
 |t::a=>by
  rw[kc,et,Ew,tw]
  cases Hu d t
  .simpa using mQ K d a
  rfl
def UK{K:ji}{T:Nat}(h:∀n∈["int","bool","str","tuple","list","dict"],dg K (.ref T) (.type n)=Y U)(t:Ty){ks vs:List D}:dg K (.ref T) (.type t.n)=Y (Hu (.AF (.exc T) ks vs) t):=by
 cases t<;>exact h _ (by simp[Ty.n])
theorem J2{K:ji}{T:Nat}(h:∀n∈["int","bool","str","tuple","list","dict"],dg K (.ref T) (.type n)=Y U){ks vs:List D}:∀a:List Ty,et K (.ref T) (a.map λt=>b3 t.n)=Y (a.any<|Hu<|.AF (.exc T) ks vs)
 |[]=>rfl
 |t::a=>by
  rw[kc,et,UK h t (ks:=ks) (vs:=vs),tw]
  cases Hu (.AF (.exc T) ks vs) t
  .simpa using J2 h a
  rfl
section
variable {X:Cx}{c:jF}{f:L2.St}{H:Hp}{s:iL}
def ab9(N:Inv X c f H s)(hd:kb X.K H O d x)(g:RelV x u)(h:∀m,Q (.bool<|Hu d t) {s with toks:=m}):
  ag (ah X.prog X.w) A (call (.builtin "isinstance") [u,.type t.n]) Q E s:=by
 cases d with
 |A7=>have:=Fl hd;subst this;cases g;exact rP g9 N.Eo bv (Ew X.K .A7 t) (λz=>nomatch z) h
 |bl b=>have:=D3 hd;subst this;cases g;exact rP hH N.Eo bv (Ew X.K (.bl b) t) (λz=>nomatch z) h
 |int b=>have:=jH hd;subst this;obtain⟨m,rfl⟩:=g;exact rP ia N.Eo bv (Ew X.K (.int b) t) (λz=>nomatch z) h
 |str b=>have:=wu hd;subst this;obtain⟨m,rfl⟩:=g;exact rP hX N.Eo bv (Ew X.K (.str b) t) (λz=>nomatch z) h
 |tup l=>obtain⟨a,y,rfl,q,_⟩:=lV hd;cases g;obtain⟨j,_,⟨o,h1,i,_⟩,_⟩:=N.tuple q;exact rP gV N.Eo ⟨o,h1,i⟩ (Ew X.K (.tup l) t) (λz=>nomatch z) h
 |lst l=>obtain⟨a,y,rfl,q,_⟩:=lh hd;cases g;obtain⟨j,_,⟨o,n,h1,i,_⟩,_⟩:=N.list q;exact rP hD N.Eo ⟨o,h1,i⟩ (Ew X.K (.lst l) t) (λz=>nomatch z) h
 |AF k p r=>
  obtain⟨a,B,rfl,q,_⟩:=nh hd;cases g
  cases k with
  |dct=>exact rP hG N.Eo (AE N q) (Ew X.K (.AF .dct p r) t) (λz=>nomatch z) h
  |set=>exact rP hZ N.Eo (AE N q) (Ew X.K (.AF .set p r) t) (λz=>nomatch z) h
  |exc T=>obtain⟨_,o,e,h1,i,v⟩:=q;exact rP (i a) N.Eo (show A5 X.prog X.w H s.heap a (.BZ o<|.own 0)from N.hok a _ e).1 (UK v t) (λz=>nomatch z) h
  |_=>exact q.elim
def ab8{A:je}{E:jB}{Q:jB}(M:Inv X c f H s){O:AA}{d:D}{x:V}{u:iQ}{ts:List Ty}{p:iG}{dd:Option iG}{n:Nat}{L:yI}(hd:kb X.K H O d x)(i:RelV x u)
  (g:s.heap.get? p=Y ⟨.type "tuple",dd,.seq (ts.map λt=>b3 t.n).toArray n,L⟩)(h:∀r,Q (.bool<|ts.any<|Hu d) {s with toks:=r}):ag (ah X.prog X.w) A (call (.builtin "isinstance") [u,.ref p]) Q E s:=by
 cases d with
 |A7=>have:=Fl hd;subst this;cases i;exact rO g9 M.Eo bv g (mQ X.K .A7 ts) (λz=>nomatch z) h
 |bl b=>have:=D3 hd;subst this;cases i;exact rO hH M.Eo bv g (mQ X.K (.bl b) ts) (λz=>nomatch z) h
 |int b=>have:=jH hd;subst this;obtain⟨r,rfl⟩:=i;exact rO ia M.Eo bv g (mQ X.K (.int b) ts) (λz=>nomatch z) h
 |str b=>have:=wu hd;subst this;obtain⟨r,rfl⟩:=i;exact rO hX M.Eo bv g (mQ X.K (.str b) ts) (λz=>nomatch z) h
 |tup l=>obtain⟨a,T,rfl,q,_⟩:=lV hd;cases i;obtain⟨m,_,⟨o,h1,j,_⟩,_⟩:=M.tuple q;exact rO gV M.Eo ⟨o,h1,j⟩ g (mQ X.K (.tup l) ts) (λz=>nomatch z) h
 |lst l=>obtain⟨a,T,rfl,q,_⟩:=lh hd;cases i;obtain⟨m,_,⟨o,n,h1,j,_⟩,_⟩:=M.list q;exact rO hD M.Eo ⟨o,h1,j⟩ g (mQ X.K (.lst l) ts) (λz=>nomatch z) h
 |AF k v y=>
  obtain⟨a,G,rfl,q,_⟩:=nh hd;cases i
  cases k with
  |dct=>exact rO hG M.Eo (AE M q) g (mQ X.K (.AF .dct v y) ts) (λz=>nomatch z) h
  |set=>exact rO hZ M.Eo (AE M q) g (mQ X.K (.AF .set v y) ts) (λz=>nomatch z) h
  |exc N=>obtain⟨_,o,e,h1,j,B⟩:=q;exact rO (j a) M.Eo (show A5 X.prog X.w H s.heap a (.BZ o<|.own 0)from M.hok a _ e).1 g (J2 B ts) (λz=>nomatch z) h
  |_=>exact q.elim
end
def wQ(ts:List Ty)(d:D):Option (D×Bool):=Y (.bl<|ts.any<|Hu d,U)
section
variable {X:Cx}{e:iR}{g:FO}{f p c:br}{z:ax}
def VR{t:Ty}(G:PO X e g)(M:Gl X "isinstance")(N:X.mg "isinstance"=WF)(m:Gl X z)(y:X.mg z=WF)(hz:aB z=Wp (.type t.n))(U:z≠"__name__")(A:(z==("__debug__":ax))=W1)(hv:aB "isinstance"=Wp (.builtin "isinstance"))
  (s1:aa [e,.Name z c] X.env=(W1,aX e X.env)::aa [.Name z c] X.env)(s2:aa [.Name z c] X.env=(W1,aX (.Name z c) X.env)::aa [] X.env)(w:(aK f<|aa [.Name z c] X.env).any (·.1)=W1):
  PX X (.Call (.Name "isinstance" p) [e,.Name z c] [] f) (lX (wQ [t]) g):=by
 have J:kI X (.builtin "isinstance") (λl H Q=>∃(O:AA)(d:D)(x:V),l=[x,.ty t.n]/\kb X.K H O d x/\Q (.bl<|Hu d t) H):=by intro i s W H l us Q I r h;obtain⟨O,d,x,rfl,hd,q⟩:=h;obtain⟨u,w',rfl,P,F⟩:=wx r;cases F;exact ab9 I hd P λtk=>⟨.bl _,H,I.tok _,rfl,q⟩
 refine PX.imp (tN J M N hv (lP G (lP (zr (v:=.ty t.n) m y hz XV U A) oM s2) s1) (by decide) (by decide) s1 w) λW H Q Y=>?_;obtain⟨R,T,rr,S,E,e,k⟩:=Y;obtain⟨o,a,h1,e⟩:=iW e;obtain⟨x,C,e⟩:=iM e;obtain⟨zz,L,e⟩:=iM e;cases L;obtain⟨rfl,rfl⟩:=jn e;refine⟨R,T,o,a,E,h1,λv Z b=>?_⟩;have B:=Ops.cons E b<|Ops.nil<|b.er E;refine⟨_,x,v,rfl,B.view (j:=0) XV XV C,?_⟩;have:=(B.done k).bl;simpa using this
def RK{t m:Ty}{z i:ax}{l y:br}{w}(ha:PO X e g)(hg:Gl X "isinstance")(hm:X.mg "isinstance"=WF)(aO:Gl X z)(ee:X.mg z=WF)(hz:aB z=Wp (.type t.n))(hn:z≠"__name__")(f9:(z==("__debug__":ax))=W1)
  (cO:Gl X i)(A:X.mg i=WF)(fg:aB i=Wp (.type m.n))(cI:i≠"__name__")(cS:(i==("__debug__":ax))=W1)(hv:aB "isinstance"=Wp (.builtin "isinstance"))
  (s1:aa [e,.Tuple [.Name z c,.Name i l] w y] X.env=(W1,aX e X.env)::aa [.Tuple [.Name z c,.Name i l] w y] X.env)(s2:aa [.Tuple [.Name z c,.Name i l] w y] X.env=(W1,aX (.Tuple [.Name z c,.Name i l] w y) X.env)::aa [] X.env)
  (s3:aa [.Name z c,.Name i l] X.env=(W1,aX (.Name z c) X.env)::aa [.Name i l] X.env)(s4:aa [.Name i l] X.env=(W1,aX (.Name i l) X.env)::aa [] X.env)
  (d8:(aK f<|aa [.Tuple [.Name z c,.Name i l] w y] X.env).any (·.1)=W1):
  PX X (.Call (.Name "isinstance" p) [e,.Tuple [.Name z c,.Name i l] w y] [] f) (lX (wQ [t,m]) g):=by
 have S:kI X (.builtin "isinstance") (λF H Q=>∃(O:AA)(d:D)(x:V)(q:iG),F=[x,.ref q]/\H q=Wp (.tup [.ty t.n,.ty m.n])/\kb X.K H O d x/\Q (.bl<|[t,m].any<|Hu d) H):=by intro Y s P H F us Q I r h;obtain⟨O,d,x,q,rfl,N,hd,k⟩:=h;obtain⟨u,w',rfl,ru,m9⟩:=wx r;cases m9;obtain⟨_,Z,v1,o,h1,G,⟨n,J⟩,_⟩:=I.hok q _ N;obtain⟨u1,u2,rfl,r1,r2⟩:=wx v1;cases r1;cases r2;obtain⟨R,dd,dt,sl⟩:=o;simp only at G J;subst G;subst J;exact ab8 (ts:=[t,m]) I hd ru h1 λtk=>⟨.bl _,H,I.tok _,rfl,k⟩
 refine PX.imp (tN S hg hm hv (lP ha (lP (Oj<|lP (zr (v:=.ty t.n) aO ee hz XV hn f9) (lP (zr (v:=.ty m.n) cO A fg XV cI cS) oM s4) s3) oM s2) s1) (by decide) (by decide) s1 d8) λP H Q W=>?_;obtain⟨δ,T,rr,δ',E,e,k⟩:=W;obtain⟨o,L,h1,e⟩:=iW e;obtain⟨x,G,e⟩:=iM e;obtain⟨zz,J,e⟩:=iM e;cases J;obtain⟨rfl,rfl⟩:=jn e;refine⟨δ,T,o,L,E,h1,λv H1 U=>⟨by show 2<=sizeLine;decide,λq N=>?_⟩⟩;have B:=Ops.cons E U<|Ops.nil<|U.er E;have M:=lO (o:=.tup [.ty t.n,.ty m.n]) N;have C:=B.view (j:=0) XV XV G;refine⟨λa=>A1 P L a\/T a,x,v,q,rfl,jv,?_,?_⟩
 .rcases C with C|⟨a,rfl,C⟩
  .exact .inl (Rep.mono (λb o e _=>M b o e) (λ_ _ z=>z) C)
  exact .inr ⟨a,rfl,C.mono (λb o e _=>M b o e) (λ_ _ z=>z) λo e=>M a o e⟩
 exact(B.done k) _ _ M Rep.Ht
end
noncomputable def pB:List D->Option (List Bool)
 |[]=>Y []
 |.bl b::l=>(pB l).map (b:: ·)
 |_::_=>J
def vQ:D->Option (D×Bool)
 |.lst l=>(pB l).map λbs=>(.bl<|bs.all id,U)
 |_=>J
def Gd:D->Option (D×Bool)
 |.lst l=>(pB l).map λbs=>(.bl<|bs.any id,U)
 |_=>J
theorem yW{K T}{O:AA}:∀{l:List D}{bs:List Bool}{e:List V}{d:jP},pB l=Y bs->YP K T O l e->Vals e d->LSm.BoolsAre d bs
 |[],bs,e,d,h,r,v=>by
  cases h;rw[YP]at r;subst r;cases v;exact .nil
 |.bl b::l,bs,e,d,h,r,v=>by
  obtain⟨f,h1,rfl⟩:=jw h;rw[YP]at r;obtain⟨x,j,rfl,g,i⟩:=r;have:=g.bl;subst this
  cases v with
  |cons a c=>cases a;exact .cons b<|yW h1 i c
 |.A7::l,_,_,_,h,_,_=>by cases h
 |.int _::l,_,_,_,h,_,_=>by cases h
 |.str _::l,_,_,_,h,_,_=>by cases h
 |.tup _::l,_,_,_,h,_,_=>by cases h
 |.lst _::l,_,_,_,h,_,_=>by cases h
 |.AF _ _ _::l,_,_,_,h,_,_=>by cases h
section
variable {X:Cx}
def adU{h a:jb}{o:eZ}(hk:∀b x,b∉[h.objs.size]->(h.push o).get? b=Y x->a.get? b=Y x)(b:iG)(x:eZ)(e:h.get? b=Y x):a.get? b=Y x:=
 hk b x (λz=>by have:=Kp.mp z;subst this;exact absurd (kh e)<|ql _) (jW _ e)
def Kc(q:Bool)(B:X.calm=C):kI X (.builtin (if q then "all" else "any")) (Fp X.K<|g1 (if q then vQ else Gd)):=oR λm s N H x u Q O d z I M np hd j G=>by
 cases d with
 |lst l=>
  cases q<;>(
   obtain⟨bs,y,rfl⟩:=jw j;obtain⟨p,T,rfl,q,r⟩:=lh hd;cases M;obtain⟨a,v,c,_⟩:=I.list q;have are:=yW y r v;have k:X.A.in1.handled=J:=I.ok.hd B;have f:p<s.heap.objs.size:=by obtain⟨_,e,_⟩:=c.isList;exact kh e
   first|refine call_all_walk (yh c.isList ⟨s.heap.objs.size,[s.heap.objs.size,p],[s.heap.objs.size],a.toArray.size,_,_,λi=>(bs[i]?).getD C,rfl,DP k _ p (kx f) a.toArray,⟨⟨_,kE _ rfl,rfl,rfl⟩,c.isList.push _⟩,λi w E o n h g=>?_,λt L hk=>?_⟩)|refine call_any_walk<|yh c.isList ⟨s.heap.objs.size,[s.heap.objs.size,p],[s.heap.objs.size],a.toArray.size,_,_,λi=>(bs[i]?).getD U,rfl,DP k _ p (kx f) a.toArray,⟨⟨_,kE _ rfl,rfl,rfl⟩,c.isList.push _⟩,λi w E o n h g=>?_,λt L hk=>?_⟩
   .obtain⟨b,e,rfl⟩:=are.get i w (by simpa using h);dsimp only at g;rw[e]at g;exact tK g
   rw[kH,are.length];(first|rw[LSm.range_all]|rw[LSm.range_any])
   exact⟨.bl _,H,I.kept<|adU hk,rfl,G.bl⟩)
 |_=>cases q<;>cases j
def afq(a:X.calm=C):kI X (.builtin "all") (Fp X.K<|g1 vQ):=Kc C a
def afp(a:X.calm=C):kI X (.builtin "any") (Fp X.K<|g1 Gd):=Kc U a
def PQ:=gI λi j=>Y<|.int (if j>i then j else i)
def PN:=gI λi j=>Y<|.int (if j<i then j else i)
def aeM(c:X.calm=C):kI X (.builtin "max") (Fp X.K<|g2 PQ):=Qr λa s k N x y h Q O d e z T r np h1 b g G=>by obtain⟨i,j,w,rfl,rfl,f,rfl⟩:=zD g;cases f;exact afl c a s k N [x,y] h Q T r ⟨i,j,by rw[jH h1,jH b],G.int⟩
def aeL(c:X.calm=C):kI X (.builtin "min") (Fp X.K<|g2 PN):=Qr λa s k N x y h Q O d e z T r np h1 b g G=>by obtain⟨i,j,w,rfl,rfl,f,rfl⟩:=zD g;cases f;exact afI c a s k N [x,y] h Q T r ⟨i,j,by rw[jH h1,jH b],G.int⟩
def Av{lo:Int}{n:Nat}{a:nB}(h:mA (λi v=>∃t,v=.int (lo+(i:Int)*1) t) a n):Vals ((ap n).map λ(k:Nat)=>V.int<|lo+k) a.toList:=by
 have key:∀(l:jP)(m:Nat),(∀(j:Nat) v,l[j]?=Y v->∃t,v=.int (lo+((m+j:Nat):Int)) t)->Vals ((bp m<|X0 l).map λ(k:Nat)=>V.int<|lo+k) l:=by
  intro l
  induction l with
  |nil=>intro m _;exact .nil
  |cons v l d=>intro m hv;obtain⟨t,e⟩:=hv 0 v I;refine .cons ⟨t,by simpa using e⟩<|d (m+1) λj w c=>?_;obtain⟨f,b⟩:=hv (j+1) w (by simpa using c);exact⟨f,by rw[b];congr 2;first|done|lia⟩
 have:=key a.toList 0 λj v hv=>by obtain⟨t,e⟩:=h.2 j v (by simpa using hv);exact⟨t,by rw[e];congr 1⟩
 rw[mf,h.1,<-List.range_eq_range']at this;exact this
def aef{K T}(lo:Int)(n:Nat):YP K T O (jq lo n) ((ap n).map λ(k:Nat)=>V.int<|lo+k):=by
 unfold jq
 induction(ap n)with
 |nil=>exact YP.nil
 |cons k l a=>exact YP.cons Rep.mkInt a
end
def Eh(lo a:Int):Prop:= -(2^62)<=lo/\lo<2^62/\ -(2^62)<=a/\a<2^62/\(a-lo).toNat<=2^24
instance(lo hi:Int):Decidable (Eh lo hi):=by unfold Eh;infer_instance
noncomputable def Kw(lo a:Int):List V:=(ap (a-lo).toNat).map λ(k:Nat)=>V.int<|lo+k
def Eh.small{lo a:Int}(h:Eh lo a):wL lo a 1=C:=small_one h.1 h.2.1 h.2.2.1 h.2.2.2.1
def Je(lo a:Int):fw lo a 1=((a-lo).toNat:Nat):=by rw[I0];split<;>lia
section
variable {c:jh}{w:jc}{A:je}{E:jB}{s:iL}
def aeK{Q:List iQ->Shared->Prop}{r:iG}{lo n:Int}{t u v:tz}(N:A.handled=J)(q:Ps s.heap r lo n 1 t u v)(ok:Eh lo n)
  (B:∀(g:jb) k (d:nB),(∀b o,s.heap.get? b=Y o->g.get? b=Y o)->mA (λi v=>∃t,v=.int (lo+(i:Int)*1) t) d (n-lo).toNat->Q d.toList {s with heap:=g,toks:=k}):
  ag (ah c w) A (f5<|.ref r) Q E s:=by
 unfold f5;refine iI<|G6<|qL F.entry_proto_collect ?_;rw[uV F.plain_proto_collect _];refine iI (m:=u9 [])<|oF ?_;refine iX ⟨tu F.plain_list_iadd _,qL F.entry_list_iadd ?_⟩;rw[uV F.plain_list_iadd _];have z:=kE s.heap (o:=({cls:=.type "list",data:=.seq ([]:List iQ).toArray}:eZ)) I
 let R:ms->Shared->Prop:=λr j=>∃(g:jb)(k:Nat)(d:nB)(l:Nat),r=.ok (.ret<|.ref s.heap.objs.size)/\j={s with heap:=g,toks:=k}/\(∀b o,s.heap.get? b=Y o->g.get? b=Y o)/\
  g.get? s.heap.objs.size=Y {cls:=.type "list",dict:=J,data:=.seq d l,slots:= #[]}/\mA (λi v=>∃t,v=.int (lo+(i:Int)*1) t) d (n-lo).toNat
 have fin:∀{r j},R r j->∃v,r=.ok (.ret v)/\ag (ah c w) A (match v with
   |Value.ref a=>do
    match(<-load a).data with
     |Data.seq xs _=>pure xs.toList
     |_=>n6 "internal:collect"
   |_=>n6 "internal:collect") Q E j:=λ{r j} T=>by
  obtain⟨g,k,d,l,rfl,rfl,hk,y,x⟩:=T;exact⟨_,rfl,iI (m:=load s.heap.objs.size)<|DX y<|iX<|B g k d hk x⟩
 refine oq (wpAny_extend_range (A:=A) (R:=R) (s:={s with heap:=s.heap.push {cls:=.type "list",data:=.seq ([]:List iQ).toArray}}) N (jW _ q) ok.small (Je lo n) ok.2.2.2.2 _ _ 0 z λg k O l hk y x=>⟨g,k,O,l,rfl,rfl,λb o e=>hk b o (kx<|kh e)<|jW _ e,y,x⟩) (λf j h=>?_) λe j h=>?_
 .cases f with
  |done f=>obtain⟨v,hv,p⟩:=fin h;cases hv;exact p
  |again l=>exact⟨h.1,sy h.2 λr L q=>by obtain⟨v,rfl,p⟩:=fin q;exact p⟩
 obtain⟨v,hv,_⟩:=fin h;cases hv
def adx{Q₁:jB}{r:iG}{lo g:Int}{t u v:tz}(p:A.handled=J)(l:Ps s.heap r lo g 1 t u v)(ok:Eh lo g)
  (h:∀(d:jb) k (a:nB),(∀b o,s.heap.get? b=Y o->d.get? b=Y o)->mA (λi v=>∃t,v=.int (lo+(i:Int)*1) t) a (g-lo).toNat->Q₁ (.ref d.objs.size) {s with heap:=d.push {cls:=.type "tuple",data:=.seq a},toks:=k}):
  ca (ah c w) A (.call (.builtin "tuple.__new__") ⟨[.type "tuple",.ref r],[]⟩) (Do Q₁ E) s:=by
 refine xZ ?_;refine iI (m:=dc "tuple.__new__" _)<|wg (F.newCall_tuple_1 _)<|iX ⟨tu F.plain_tuple_new _,qL F.entry_tuple_new ?_⟩;rw[uV F.plain_tuple_new _];have z:=sub_tuple_self;have j:=init_tuple_lookup;have q:=madeHere_tuple;have y:s.TypeIs (.ref r) "range":=⟨_,l,rfl⟩
 have f:A.in1.handled=J:=p
 wp_walk using wj y,aeK f l ok
 intro d k a hk n;have x:a.size<=sizeLine:=by rw[n.1,ku];have:=ok.2.2.2.2;omega
 refine iI (m:=bi a.toList.toArray) ?_;unfold bi;refine oF ?_ (by show a.toList.toArray.size<=sizeLine;simpa using x);refine iX ?_;have e:a.toList.toArray=a:=by simp
 rw[e];exact h d k a hk n
def adu{Q:jB}{r:iG}{lo g:Int}{t u v:tz}(k:A.handled=J)(m:Ps s.heap r lo g 1 t u v)(ok:Eh lo g)
  (h:∀(f:jb) j (e:nB),(∀b o,s.heap.get? b=Y o->f.get? b=Y o)->mA (λi v=>∃t,v=.int (lo+(i:Int)*1) t) e (g-lo).toNat->Q (.ref f.objs.size) {s with heap:=f.push {cls:=.type "tuple",data:=.seq e},toks:=j}):
  ag (ah c w) A (call (.type "tuple") [.ref r]) Q E s:=by
 refine F0 (Q₁:=λobj a=>a.TypeIs obj "tuple"/\Q obj a) Q8 (F.typeCall_tuple_1 _) MP
  (adx k m ok λf j e l n=>⟨⟨_,kE _ rfl,rfl⟩,h f j e l n⟩) λobj a d=>?_
 exact⟨d.1,MO obj _,object_init_meets Q8.init.lookup Q8.made (by decide) c w A.in1 _ a ⟨d.1,rfl,d.2⟩⟩
end
section
variable {X:Cx}
def Dd:kI X (.type "range") (λc O Q=>∃i j,c=[.int i,.int j]/\∀r,O r=J->Q (.ref r) (upd O r<|.rng i j)):=by intro a s k O c g Q T r h;obtain⟨i,j,rfl,h⟩:=h;obtain⟨u,f,rfl,⟨t,rfl⟩,⟨d,rfl⟩⟩:=wx r;exact Op ⟨.ref _,_,T.laid (o:=.rng i j) (λb o e=>jW _ e) (jZ _) ⟨_,_,_,kE _ rfl⟩,rfl,h _ T.fresh⟩
def adw(i:X.calm=C):kI X (.type "list") (λf O Q=>∃r lo a,f=[.ref r]/\O r=Y (.rng lo a)/\Eh lo a/\∀l,O l=J->Q (.ref l) (upd O l<|.lst<|Kw lo a)):=by intro d s x O f q Q T g h;obtain⟨r,lo,a,rfl,j,ok,h⟩:=h;obtain⟨u,rfl,m⟩:=qm g;cases m;obtain⟨t,u,v,er⟩:=T.hok r _ j;refine call_list_range (A:=X.A) (T.ok.hd i) er ok.small (Je lo a) ok.2.2.2.2 λo p b c k e items=>?_;have n:=Av items;refine⟨.ref _,_,T.laid k (jZ _) (show A5 X.prog X.w _ _ _ (.lst<|Kw lo a)from⟨?_,b.toList,c,n,by simpa using e⟩),rfl,h _ T.fresh⟩;have:=ok.2.2.2.2;simp only[Kw,ke,m7,ku];omega
def adp(k:X.calm=C):kI X (.type "tuple") (λi O Q=>∃r lo c,i=[.ref r]/\O r=Y (.rng lo c)/\Eh lo c/\∀l,O l=J->Q (.ref l) (upd O l<|.tup<|Kw lo c)):=by intro d s y O i z Q T j h;obtain⟨r,lo,c,rfl,m,ok,h⟩:=h;obtain⟨u,rfl,p⟩:=qm j;cases p;obtain⟨t,u,v,er⟩:=T.hok r _ m;refine adu (A:=X.A) (T.ok.hd k) er ok λg x a n items=>?_;have q:=Av items;have f:Inv X d y O {s with heap:=g,toks:=x}:=T.kept n;refine⟨.ref _,_,f.laid (λb o e=>jW _ e) (jZ _) (show A5 X.prog X.w _ _ _ (.tup<|Kw lo c)from⟨?_,a.toList,q,by have:=HI.new g a;simpa using this⟩),rfl,h _ f.fresh⟩;have:=ok.2.2.2.2;simp only[Kw,ke,m7,ku];omega
def K8(mk:List D->D)(o:Bool):List D->Option (D×Bool)
 |[.int j]=>if Eh 0 j then Y (mk<|jq 0 j.toNat,o)else J
 |[.int i,.int j]=>if Eh i j then Y (mk<|jq i (j-i).toNat,o)else J
 |_=>J
def Jf{K T}(lo a:Int):YP K T O (jq lo (a-lo).toNat) (Kw lo a):=aef lo _
variable {a b:iR}{n m:FO}{p g d f:br}
def Fo(h:upd T r o l=J):T l=J:=by
 by_cases e:l=r
 .subst e;rw[jv]at h;cases h
 rwa [jx e]at h
def Dl{K:ji}{T o:AA}{s:L2.St}{r c:Dn}{Q l:Hp}{os:List BN}{k:List V}{e:List D}(B:Ops K T s r Q os k c l o)(h:vJ c os=Y e){is:iO}(hd:e=is.map .int):k=is.map .int:=by
 obtain⟨h1,t⟩:=pQ h;apply zW;intro j;by_cases q:j<X0 is
 .rw[um B h (j:=j) (i:=is[j])<|by rw[hd];simp];simp[q]
 have u:=B.len;subst hd;simp at h1;rw[g8<|by lia,g8<|by simp;lia]
def VL{T:String}{z:ax}{mk:List D->D}{o:Bool}(hT:(T="list"/\mk=.lst/\o=WP)\/(T="tuple"/\mk=.tup/\o=W1))(Y:X.calm=WP)(hg:Gl X z)(hm:X.mg z=WF)(hv:aB z=Wp (.type T))(hn:z≠"__name__")(N:(z==("__debug__":ax))=W1)
  (M:Gl X "range")(G:X.mg "range"=WF)(U:PA X [a,b] (tA X.K [n,m]))
  (s1:aa [.Call (.Name "range" g) [a,b] [] f] X.env=(W1,aX (.Call (.Name "range" g) [a,b] [] f) X.env)::aa [] X.env)(s2:aa [a,b] X.env=(W1,aX a X.env)::aa [b] X.env)
  (J:(aK d<|aa [] X.env).any (·.1)=W1)(O:(aK f<|aa [b] X.env).any (·.1)=W1):
  PX X (.Call (.Name z p) [.Call (.Name "range" g) [a,b] [] f] [] d) (jl (K8 mk o) [n,m]):=by
 have t:∀{w c:Dn}{os:List BN},kM [n,m] w=Wp (os,c)->os.length=2:=λ{w c os} h1=>by unfold kM at h1;obtain⟨p,q1,h1⟩:=iM h1;obtain⟨q,v,h1⟩:=iM h1;unfold kM at v;obtain⟨p3,q3,v⟩:=iM v;obtain⟨q4,F,v⟩:=iM v;unfold kM at F;cases F;obtain⟨rfl,rfl⟩:=jn h1;cases v;rfl
 rcases hT with⟨rfl,rfl,rfl⟩|⟨rfl,rfl,rfl⟩
 .refine PX.imp (rm (adw Y) hg hm hv (lP (rm Dd M G DV U (by decide) (by decide) s2 O) oM s1) hn N s1 J) λZ H Q C=>?_;obtain⟨w,T,S,L,E,e,k⟩:=C;obtain⟨os,c,h1,e⟩:=iW e;obtain⟨R,y,e⟩:=iM e;obtain⟨W,h,e⟩:=iM e;obtain⟨rfl,rfl⟩:=jn e;refine⟨w,T,os,c,E,h1,λV x P B=>?_⟩;unfold K8 at h;split at h
  .obtain⟨s,_⟩:=pQ y;have:=t h1;simp at s;omega
  .rename_i i j;obtain⟨ok,rfl⟩:=jm h;refine⟨i,j,Dl B y (is:=[i,j]) XV,λr A=>⟨r,i,j,rfl,jv,ok,λl s=>?_⟩⟩;have I:∀a u,x a=Wp u->upd (upd x r<|.rng i j) l (.lst<|Kw i j) a=Wp u:=λa u e=>lO s a u<|lO A a u e;exact(B.done k) l _ (Fo s) I ⟨Kw i j,jv,Jf i j⟩
  cases h
 refine PX.imp (rm (adp Y) hg hm hv (lP (rm Dd M G DV U (by decide) (by decide) s2 O) oM s1) hn N s1 J) λZ H Q C=>?_;obtain⟨w,T,S,L,E,e,k⟩:=C;obtain⟨os,c,h1,e⟩:=iW e;obtain⟨R,y,e⟩:=iM e;obtain⟨W,h,e⟩:=iM e;obtain⟨rfl,rfl⟩:=jn e;refine⟨w,T,os,c,E,h1,λV x P B=>?_⟩;unfold K8 at h;split at h
 .obtain⟨s,_⟩:=pQ y;have:=t h1;simp at s;omega
 .rename_i i j;obtain⟨ok,rfl⟩:=jm h;refine⟨i,j,Dl B y (is:=[i,j]) XV,λr A=>⟨r,i,j,rfl,jv,ok,λl s=>?_⟩⟩;have I:∀a u,x a=Wp u->upd (upd x r<|.rng i j) l (.tup<|Kw i j) a=Wp u:=λa u e=>lO s a u<|lO A a u e;exact(B.done k) _ _ I (Rep.Iy ⟨jv,B.np<|NA<|Fo s⟩<|Jf i j)
 cases h
end
def Src(h:jb)(it l:iG)(i:Nat)(a:nB):Prop:=(h.IsListIter it l i/\h.IsList l a)\/(h.IsTupleIter it l i/\h.IsTuple l a)
section
variable {prog:jh}{w:jc}{A:je}{E:jB}{s:iL}{it l:iG}{i:Nat}{xs:nB}
def Src.ne(x:Src h it l i xs):l≠it:=by intro e;subst e;rcases x with⟨⟨o,h1,b,a⟩,c,g1,g2,n,g3⟩|⟨⟨o,h1,b,a⟩,c,g1,g2,n,g3⟩<;>(rw[h1]at g1;cases g1;rw[a]at g3;cases g3)
def Src.lt(x:Src h it l i xs):it<h.objs.size/\l<h.objs.size:=by rcases x with⟨⟨o,h1,_⟩,a,g1,_⟩|⟨⟨o,h1,_⟩,a,g1,_⟩<;>exact⟨kh h1,kh g1⟩
def Src.keep(x:Src h it l i xs)(c:∀o,h.get? it=Y o->h'.get? it=Y o)(d:∀o,h.get? l=Y o->h'.get? l=Y o):Src h' it l i xs:=by
 rcases x with⟨⟨o,h1,r⟩,a,g1,b⟩|⟨⟨o,h1,r⟩,a,g1,b⟩
 .exact .inl ⟨⟨o,c _ h1,r⟩,a,d _ g1,b⟩
 exact .inr ⟨⟨o,c _ h1,r⟩,a,d _ g1,b⟩
def Cn{Q:jB}(c:s.heap.IsTupleIter it l i)(q:s.heap.IsTuple l xs)(n:∀x,xs[i]?=Y x->∀b,b.IsTupleIter it l (i+1)->aE it s.heap b->Q x {s with heap:=b})
  (g:xs[i]?=J->A.handled=J/\∀b e,eJ it s.heap b->(∃o,b.get? e=Y o/\o.cls=.type "StopIteration")->E (.ref e) {s with heap:=b}):ag (ah prog w) A (aT<|.ref it) Q E s:=by
 obtain⟨o,d,p,hd⟩:=id c;obtain⟨t,k,_,r,j⟩:=q;unfold aT;refine iI<|tH (name:=bC "__next__") c.typeIs MN<|qj MN c.typeIs F.entry_tuple_iterator_next ?_<|F.args_tuple_iterator_next_1 _;refine iI (m:=jp (.ref it) 0)<|pN d hd (x:=.ref l) I ?_;show ag _ _ (if(bR l==au)=C then _ else _) _ _ s;rw[jo (by show ¬(bR l==au)=C;exact kR)];refine iI (m:=jp (.ref it) 1)<|pN d hd (x:=.int i 0) I ?_;refine iI (m:=seqItems?<|.ref l)<|rN k j ?_
 cases f:xs[i]? with
 |some x=>simp only[ye,f];refine iI<|vz d hd (by simp)<|iX ⟨x,rfl,iX<|n x f _ ⟨_,tE _ d (DO<|uU hd _),(DN ..).trans p,?_⟩ (si ..)⟩;rw[uU hd];simp[ce]
 |none=>
  obtain⟨h,g⟩:=g f;simp only[ye,f];refine iI<|sQ<|iI<|vz d hd (by simp) ?_;refine iI (m:=l6 (.type "StopIteration") []) ?_;simp -iota only[l6];refine iI<|oF (iI (m:=gO _ _)<|wg (a:=au) (by first|rfl|(simp -iota;rfl)) ?_) (by size_fits);refine oF ?_ (by size_fits);simp -iota only[EQ];refine iI<|G5 ?_
  first|rw[show A.in1.handled=J from h]|rw[h]
  exact iI<|iX<|G4<|g _ _ (((si ..).extBut.push _).push _) ⟨_,kE _ rfl,rfl⟩
def Src.item{x:iQ}{Q:jB}(st:Src s.heap it l i xs)(g:xs[i]?=Y x)(h:∀c,Src c it l (i+1) xs->aE it s.heap c->Q x {s with heap:=c}):
  ag (ah prog w) A (aT<|.ref it) Q E s:=by
 have ne:=st.ne;rcases st with⟨a,b⟩|⟨a,b⟩
 .exact wpAny_nextOf_list_item a b g λc f d=>h c (.inl ⟨f,b.extBut d.extBut ne⟩) d
 exact Cn a b (λj e c f d=>by rw[g]at e;cases e;exact h c (.inr ⟨f,b.extBut d.extBut ne⟩) d) λe=>by rw[g]at e;cases e
def Src.stop{Q:jB}(f:A.handled=J)(st:Src s.heap it l i xs)(g:xs[i]?=J)
  (d:∀c e,eJ it s.heap c->(∃o,c.get? e=Y o/\o.cls=.type "StopIteration")->E (.ref e) {s with heap:=c}):ag (ah prog w) A (aT<|.ref it) Q E s:=by
 rcases st with⟨a,b⟩|⟨a,b⟩
 .exact wpAny_nextOf_list_end f a b g d
 exact Cn a b (λx e=>by rw[g]at e;cases e) λ_=>⟨f,d⟩
def Src.new(a:s.heap.IsList l xs\/s.heap.IsTuple l xs)(d:∀c,Src c s.heap.objs.size l 0 xs->c.objs.size=s.heap.objs.size+1->(∀b o,s.heap.get? b=Y o->c.get? b=Y o)->Q (.ref s.heap.objs.size) {s with heap:=c}):
  ag (ah prog w) A (c7<|.ref l) Q E s:=by
 rcases a with a|a
 .exact yh a (d _ (.inl ⟨⟨_,kE _ rfl,rfl,rfl⟩,a.push _⟩) (qO ..) λb o e=>jW _ e)
 exact Hl a (d _ (.inr ⟨⟨_,kE _ rfl,rfl,rfl⟩,a.push _⟩) (qO ..) λb o e=>jW _ e)
end
section
variable {f:jh}{w:jc}{A:je}{E:jB}{s:iL}{e it l:iG}{i:Nat}{c:Int}{h:nB}
def afA{x old:iQ}{Q:jB}(he:eM s.heap e it c old)(st:Src s.heap it l i h)(hx:h[i]?=Wp x)(U:e≠it)(dY:e≠l)
  (hQ:∀L,j7 L e it (c+1) x s.heap.objs.size->Src L it l (i+1) h->L.get? s.heap.objs.size=Wp {cls:=.type "tuple",data:=.seq #[.int c s.toks,x]}->L.objs.size=s.heap.objs.size+1->
   (∀b o,b≠e->b≠it->s.heap.get? b=Wp o->L.get? b=Wp o)->Q (.ref s.heap.objs.size) {s with heap:=L,toks:=s.toks+1}):
  ag (ah f w) A (ba.«enumerate.__next__» ⟨[.ref e],[]⟩) (λfin s'=>∃v,fin=.done (.ret v)/\Q v s') E s:=by
 obtain⟨C,g,d,k,os⟩:=s;refine iI (m:=jp (.ref e) 2)<|pN he XV (x:=.ref it) XV<|iI<|st.item hx λj I G=>?_;replace G:aE it C j:=G;have V:eM j e it c old:=(G.2 e U).trans he;refine iI (m:=jp (.ref e) 3)<|pN (s:=⟨j,g,d,k,os⟩) V XV (x:=ce c) XV ?_;refine iI (m:=jp (.ref e) 4)<|pN (s:=⟨j,g,d,k,os⟩) V XV (x:=.none) XV ?_;refine iI (m:=mkInt c)<|wpAny_mkInt (s:=⟨j,g,d,k,os⟩) ?_;refine iI (m:=oC (.ref e) 3<|ce<|c+1)<|uT (s:=⟨j,g,d,k+1,os⟩) V (by simp) λp S T=>?_;replace T:aE e j p:=T;replace S:eM p e it (c+1) old:=S;refine iI (m:=oC (.ref e) 4 .none)<|uT (s:=⟨p,g,d,k+1,os⟩) S (by simp) λa R O=>?_;replace O:aE e p a:=O;replace R:eM a e it (c+1) old:=R;refine iI (m:=newTuple [.int c k,x])<|DM (s:=⟨a,g,d,k+1,os⟩) ?_;have H:a.objs.size=C.objs.size:=by rw[O.1,T.1,G.1]
 have N:eM (a.push {cls:=.type "tuple",data:=.seq #[.int c k,x]}) e it (c+1) old:=jW _ R;have W:e<C.objs.size:=kh he;have y:(a.push {cls:=.type "tuple",data:=.seq #[.int c k,x]}).get? C.objs.size=Wp {cls:=.type "tuple",data:=.seq #[.int c k,x]}:=by rw[<-H];exact kE _ rfl
 have up:∀b o,b≠e->b≠it->C.get? b=Wp o->(a.push {cls:=.type "tuple",data:=.seq #[.int c k,x]}).get? b=Wp o:=λb o B D q=>jW _ (O.extBut b o B<|T.extBut b o B<|G.extBut b o D q);have z:Src (a.push {cls:=.type "tuple",data:=.seq #[.int c k,x]}) it l (i+1) h:=I.keep (λo q=>jW _ (O.extBut _ o U.symm (T.extBut _ o U.symm q))) λo q=>jW _ (O.extBut _ o dY.symm (T.extBut _ o dY.symm q));have X:(a.push {cls:=.type "tuple",data:=.seq #[.int c k,x]}).objs.size=C.objs.size+1:=by rw[qO,H]
 rw[H];generalize (a.push {cls:=.type "tuple",data:=.seq #[.int c k,x]})=n at N y up z X;refine iI (m:=bu<|.ref e) ?_;unfold bu;refine iI<|pN (s:=⟨n,g,d,k+1,os⟩) N XV (x:=.none) XV<|iX ?_;simp -iota;refine iI<|sQ<|iI<|pN (s:=⟨n,g,d,k+1,os⟩) N XV (x:=old) XV<|iI<|uT (s:=⟨n,g,d,k+1,os⟩) N (by simp) λr P Y=>?_;replace Y:aE e n r:=Y;replace P:eM r e it (c+1) x:=P;refine iI (m:=bq (.ref e)<|.ref C.objs.size) ?_;unfold bq;refine iI<|uT (s:=⟨r,g,d,k+1,os⟩) P (by simp) λt K M=>?_;replace M:aE e r t:=M;replace K:j7 t e it (c+1) x C.objs.size:=K;refine uT (s:=⟨t,g,d,k+1,os⟩) K (by simp) λu F J=>?_;replace J:aE e t u:=J;replace F:j7 u e it (c+1) x C.objs.size:=F;have all:∀b o,b≠e->n.get? b=Wp o->u.get? b=Wp o:=λb o B q=>J.extBut b o B<|M.extBut b o B<|Y.extBut b o B q;refine iI<|DL<|iX ⟨_,rfl,hQ u F (z.keep (λo q=>all _ o U.symm q) λo q=>all _ o dY.symm q) (all _ _ (qk W) y) ?_ λb o B D q=>all b o B<|up b o B D q⟩;rw[J.1,M.1,Y.1,X]
def ym{x old:iQ}{Q:Ci}(m:eM s.heap e it c old)(st:Src s.heap it l i h)(r:h[i]?=Y x)(p:e≠it)(n:e≠l)
  (q:∀g,j7 g e it (c+1) x s.heap.objs.size->Src g it l (i+1) h->g.get? s.heap.objs.size=Y {cls:=.type "tuple",data:=.seq #[.int c s.toks,x]}->g.objs.size=s.heap.objs.size+1->
   (∀b o,b≠e->b≠it->s.heap.get? b=Y o->g.get? b=Y o)->Q (Y<|.ref s.heap.objs.size) {s with heap:=g,toks:=s.toks+1}):
  ag (ah f w) A (cp<|.ref e) Q E s:=by
 have j:s.TypeIs (.ref e) "enumerate":=⟨_,m,rfl⟩
 unfold cp
 exact iI (rM (tH (name:=bC "__next__") j DK (qj DK j MM
  (afA m st r p n λg a b c d k=>iX<|q g a b c d k) (ML _))))
def yY{old:iQ}{Q:Ci}(p:A.handled=J)(g:eM s.heap e it c old)(st:Src s.heap it l i h)(r:h[i]?=J)
  (k:∀a,eJ it s.heap a->Q J {s with heap:=a}):ag (ah f w) A (cp<|.ref e) Q E s:=by
 have d:s.TypeIs (.ref e) "enumerate":=⟨_,g,rfl⟩
 unfold cp;refine iI<|rM<|tH (name:=bC "__next__") d DK<|qj DK d MM ?_<|ML _;refine iI (m:=jp (.ref e) 2)<|pN g I (x:=.ref it) I<|iI<|st.stop p r ?_;rintro a x j ⟨o,q,n⟩;exact iI<|xX (T:="StopIteration") (b:=C) ⟨o,q,n⟩ DJ<|iX<|k _ j
end
section
variable {X:Cx}{d:jF}{g:L2.St}{H:Hp}{s:iL}{f:jb}
def Ck{t':Nat}{ch:kP}{a:iG}{o:HO}(M:Inv X d g H s)(j:∀b∈ch,uh X d H b)(k:∀b u,b∉ch->s.heap.get? b=Y u->f.get? b=Y u)(p:s.heap.objs.size<=a)(new:A5 X.prog X.w (upd H a o) f a o):
  Inv X d g (upd H a o) {s with heap:=f,toks:=t'}:=by
 have L:=M.hok.fresh p;have l:∀b u,H b=Y u->b∉ch:=λb u e z=>by have:=(j b z).1;rw[this]at e;cases e
 have up:∀b u,H b=Y u->upd H a o b=Y u:=λb u e=>by rw[jx<|lD e L];exact e
 have N:∀b u,s.heap.get? b=Y u->H b=J->upd H a o b=J:=λb u e n=>by rw[jx λz=>by subst z;exact absurd (kh e)<|M6.mpr p];exact n
 refine M.step (g':=s.gens) (d':=s.drawn) (ch:=ch) (λb i=>?_) (λb u _ _ h e _=>k b u h e) (λb u _ _ h e _=>⟨u.slots,k b u h e⟩) (λb u _ e n=>N b u e n)
  (λb u h e=>⟨u,k b u h e⟩) (λb Q e=>up b _ e) (λb _ _ e=>up b _ e) (λb G e=>⟨#[],by rw[up b _ e];simp⟩) (λm E=>?_) (λb u e=>?_) M.bare
 .obtain⟨_,f1,T,y,A,B⟩:=j b i;exact⟨y,f1,A,B⟩
 .obtain⟨u,x,t,O,r⟩:=E;exact⟨u,x,t,k _ u (λz=>(j _ z).2.1 I) O,r⟩
 by_cases i:b=a
 .subst i;rw[jv]at e;cases e;exact new
 rw[jx i]at e;refine(M.hok b u e).BC (λc v h q=>k c v ?_ q) (λc q=>up c _ q) (λc Q q=>up c _ q) λc _ _ q=>up c _ q;rcases h with z|z
 .rw[z];exact l b u e
 exact l c _ z
def Cm{t':Nat}{ch:kP}(Q:Inv X d g H s)(h:∀b∈ch,uh X d H b)(k:∀b u,b∉ch->s.heap.get? b=Y u->f.get? b=Y u):Inv X d g H {s with heap:=f,toks:=t'}:=by
 have i:∀b u,H b=Y u->b∉ch:=λb u e z=>by have:=(h b z).1;rw[this]at e;cases e
 refine Q.step (g':=s.gens) (d':=s.drawn) (ch:=ch) (λb w=>?_) (λb u _ _ a e _=>k b u a e) (λb u _ _ a e _=>⟨u.slots,k b u a e⟩) (λb u _ e n=>n)
  (λb u a e=>⟨u,k b u a e⟩) (λb A e=>e) (λb _ _ e=>e) (λb T e=>⟨#[],by rw[e];simp⟩) (λm x=>?_) (λb u e=>?_) Q.bare
 .obtain⟨_,f1,B,o,p,t⟩:=h b w;exact⟨o,f1,p,t⟩
 .obtain⟨u,l,j,y,r⟩:=x;exact⟨u,l,j,k _ u (λz=>(h _ z).2.1 I) y,r⟩
 refine(Q.hok b u e).BC (λc v a q=>k c v ?_ q) (λc q=>q) λc A q=>q;rcases a with z|z
 .rw[z];exact i b u e
 exact i c _ z
end
def Gw(b:Bool)(K:ji)(T:Hp)(l:iG)(a:List V):Prop:=if b=C then Ej K T l a else HE K T l a
def Iq(b:Bool)(h:jb)(it l:iG)(i:Nat):Prop:=if b=C then h.IsListIter it l i else h.IsTupleIter it l i
def Iq.keep(x:Iq b h it l i)(k:∀o,h.get? it=Y o->h'.get? it=Y o):Iq b h' it l i:=by
 cases b
 .exact PySem.Heap.IsTupleIter.at (show h.IsTupleIter it l i from x) k
 exact PySem.Heap.IsListIter.at (show h.IsListIter it l i from x) k
def Iq.obj(x:Iq b h it l i):∃o,h.get? it=Y o/\∀v,o.data≠ .cell v:=by
 cases b<;>(obtain⟨o,e,c,d⟩:=x;exact⟨o,e,λv z=>by rw[d]at z;cases z⟩)
section
variable {X:Cx}{d:jF}{e:L2.St}{H:Hp}{s:iL}
def uq(T:Inv X d e H s)(q:Gw b X.K H l xs)(t:Iq b s.heap it l i):∃a,Vals xs a/\Src s.heap it l i a.toArray:=by
 cases b
 .obtain⟨a,v,p,_⟩:=T.tuple q;exact⟨a,v,.inr ⟨t,p⟩⟩
 obtain⟨a,v,p,_⟩:=T.list q;exact⟨a,v,.inl ⟨t,p.isList⟩⟩
def D8(T:Inv X d e H s)(q:Gw b X.K H l xs)(a:Gw b X.K H l c):xs=c:=by
 cases b
 .exact T.EO q a
 exact T.Ek q a
def HZ(t:Iq b h it l i)(m:Src h it l i xs)(j:Src k it l p xs)(n:∀o,h.get? l=Y o->k.get? l=Y o):Iq b k it l p:=by
 cases b
 .rcases j with⟨a,c⟩|⟨a,_⟩
  .rcases m with⟨⟨o,h1,f,_⟩,_⟩|⟨_,o,h1,f,_⟩
   .obtain⟨g,g1,g2,_⟩:=t;rw[h1]at g1;cases g1;rw[f]at g2;injection g2 with g2;exact absurd g2 (by decide)
   obtain⟨g,g1,g2,_⟩:=c;rw[n _ h1]at g1;cases g1;rw[f]at g2;injection g2 with g2;exact absurd g2 (by decide)
  exact a
 rcases j with⟨a,_⟩|⟨a,c⟩
 .exact a
 rcases m with⟨_,o,h1,f,_⟩|⟨⟨o,h1,f,_⟩,_⟩
 .obtain⟨g,g1,g2,_⟩:=c;rw[n _ h1]at g1;cases g1;rw[f]at g2;injection g2 with g2;exact absurd g2 (by decide)
 obtain⟨g,g1,g2,_⟩:=t;rw[h1]at g1;cases g1;rw[f]at g2;injection g2 with g2;exact absurd g2 (by decide)
end
def Nr(b:Bool)(K:ji)(l:iG)(c:Int):It:=⟨λi Q=>∃a x,Gw b K Q l a/\a[i]?=Y x,
 λi Q x d=>∃(T:iG)(y:V),x=.ref T/\Q T=J/\d=upd Q T (.tup [.int<|c+i,y])/\∀a,Gw b K Q l a->a[i]?=Y y,λi Q=>∃a,Gw b K Q l a/\(X0 a)<=i⟩
def afj{P:jh}{w:jc}{K:ji}{m:kD}{k1}{Y:br}(b:Bool)(e it l:iG)(c:Int)(h9:e≠it):
  Turn P w K (.Tuple m k1 Y) (Nr b K l c) [e,it] e (λi h=>(∃old,eM h e it (c+i) old)/\Iq b h it l i) where
 mem:=by simp
 obj:=λi h st a B=>by
  obtain⟨⟨old,f⟩,st⟩:=st;have u6:a=e\/a=it:=by simpa using B
  rcases u6 with rfl|rfl
  .exact⟨_,f,λv z=>by have z':hJ _=fS v:=z;cases z'⟩
  exact st.obj
 keep:=λi h h' st k=>by obtain⟨⟨old,f⟩,st⟩:=st;exact⟨⟨old,k e (by simp) _ f⟩,st.keep λo q=>k it (by simp) o q⟩
 item:=by
  intro X G M T S i g s Z H E I r st J;subst G M T;obtain⟨⟨old,f⟩,st⟩:=st;obtain⟨xs,x,C,N⟩:=J;obtain⟨U,D,d⟩:=uq I C st;obtain⟨u,hu,ru⟩:=D.get N
  have Q:e≠l:=λz=>by subst z;have V:=(r e<|by simp).1;rcases d with⟨_,o,h1,A,_⟩|⟨_,o,h1,A,_⟩<;>(have F:s.heap.get? e=_:=f;rw[h1]at F;cases F;injection A with A;exact absurd A<|by decide)
  refine ym f d (x:=u) (by simpa using hu) h9 Q λh' ho t hT hsz kp=>⟨.ref s.heap.objs.size,rfl,?_⟩
  refine wpAny_letOwnedTupleGo_enum ho λj n O=>?_;have p:e<s.heap.objs.size:=kh f
  have R:∀a o,a∉[e,it]->s.heap.get? a=Wp o->j.get? a=Wp o:=λa o L q=>by have W:a≠e:=λz=>L (by simp[z]);have n2:a≠it:=λz=>L (by simp[z]);exact O.extBut a o W<|kp a o W n2 q
  have cX:j.get? s.heap.objs.size=Wp {cls:=.type "tuple",data:=.seq #[.int (c+i) s.toks,u]}:=O.extBut _ _ (qk p) hT
  have I1:Inv X g Z (upd H s.heap.objs.size<|.tup [.int<|c+i,x]) {s with heap:=j,toks:=s.toks+1}:=
   Ck I r R (jZ _) (show A5 X.prog X.w _ _ _ (.tup [.int<|c+i,x])from⟨by show 2<=sizeLine;decide,[.int (c+i) s.toks,u],.cons ⟨_,rfl⟩<|.cons ru .nil,_,cX,rfl,⟨0,rfl⟩,rfl⟩)
  have y:Iq b j it l (i+1):=by refine HZ st d (t.keep (λo q=>O.extBut _ o h9.symm q) λo q=>O.extBut _ o Q.symm q) λo q=>R l o ?_ q;have:=d.ne;simp;exact⟨Q.symm,this⟩
  refine⟨.ref s.heap.objs.size,_,I1,rfl,⟨_,x,rfl,I.fresh,rfl,λys hy=>by rw[D8 I hy C];exact N⟩,⟨⟨u,?_⟩,y⟩,λa B=>?_⟩
  .have e1:c+((i+1:Nat):Int)=c+i+1:=by lia
   show eM j e it (c+((i+1:Nat):Int)) u;rw[e1];exact n
  have V:=(r a B).1;rw[jx]
  .exact V
  intro z;have j4:a=e\/a=it:=by simpa using B
  rcases j4 with rfl|rfl
  .exact absurd z (kx p)
  exact absurd z (kx d.lt.1)
 done:=by intro X G M T S i g s Z H E I r st J;subst G M T;obtain⟨⟨old,f⟩,st⟩:=st;obtain⟨xs,C,N⟩:=J;obtain⟨U,D,d⟩:=uq I C st;have hl:=D.length;exact yY (I.ok.hd S) f d (by simp;lia) λh' eb=>⟨rfl,Cm (t':=s.toks) I r λa o L q=>eb a o (λz=>L<|by simp[z]) q⟩
 self:=λ_ _ _ _ _ st h=>by obtain⟨⟨old,f⟩,_⟩:=st;exact ut f h
def Ap{K T}(q:HP b K T P a xs):Gw b K T a xs:=by
 cases b
 .exact q.t
 exact q.l
def af0{K:ji}{P O:AA}{h:Hp}{a:iG}{g:List V}{l:List D}{b:Bool}{c:Int}(q:HP b K h P a g)(r:YP K h O l g)(A:∀a,P a->O a):
  KJ K (Nr b K a c) (l.zipIdx.map λp=>.tup [.int<|c+p.2,p.1]) P O h:=by
 have sq:∀Hi,(∀a o,h a=Y o->¬P a->Hi a=Y o)->Gw b K Hi a g:=λHi f=>Ap<|q.mono f λ_ z=>z;refine⟨λi d Hi hd f=>?_,λi Hi N f=>⟨g,sq Hi f,by rw[r.length];simpa using N⟩⟩;rw[kQ]at hd;obtain⟨⟨Q,j⟩,h1,u⟩:=jw hd;rw[G8]at h1;obtain⟨G,v,w⟩:=jw h1;obtain⟨rfl,rfl⟩:=uW w;obtain⟨x,s,H⟩:=r.get v;refine⟨⟨g,x,sq Hi f,s⟩,λy M E=>?_⟩;obtain⟨T,z,rfl,m,rfl,k⟩:=E;have k:=k g<|sq Hi f;rw[s]at k;cases k;have ext:=lO (o:=.tup [.int<|c+i,x]) m;refine⟨ext,λL h1 t=>?_⟩;subst u;refine Rep.Iy ⟨jv,t T m⟩<|YP.cons ?_<|YP.cons (Rep.mono (λb o e n=>ext b o<|f b o e λz=>n<|A b z) (λb B z=>h1 b B z) H) YP.nil;simp;exact Rep.mkInt
open AutoSeq1 (wpAny_loadPart')
section
variable {f:jh}{w:jc}{A:je}{E:jB}{s:iL}
def WR{T a:String}{self:iQ}{rz:jP}{kw:List (ax×iQ)}(h:gL (.type T) "__init__"=pure (Y<|.builtin "object.__init__"))(i:Bind.madeBy (.type T)=pure (Y a))(e:(Y a !=Y "object.__new__")=C):
  vr (ba.«object.__init__» ⟨self::rz,kw⟩) (λ_ R s=>s.TypeIs self T/\R (.ok<|.ret .none) s):=by
 refine Meets.of_wp λf w A R s d=>?_;obtain⟨g,c⟩:=d;by_cases b:(!rz.isEmpty||!kw.isEmpty)=C
 .unfold ba.«object.__init__»;simp only[b,ng]
  repeat (any_goals (first|assumption|wp_step))
  exact⟨_,rfl,c⟩
 unfold ba.«object.__init__»;simp only[b,mB];exact iX ⟨_,rfl,c⟩
def aey{T b:String}{q:ba}{a:jP}{kw:List (ax×iQ)}{S:PySem.Spec}{Q:jB}(i:TypeCalled T b "object.__init__")(B:(Y b !=Y "object.__new__")=C)(M:K2 T ⟨a,kw⟩=pure ())
  (x:dc b ⟨.type T::a,kw⟩=pure ())(o:∀obj,gU "object.__init__" ⟨obj::a,kw⟩)(j:gP u3 b=Y q)(g:vr (q ⟨.type T::a,kw⟩) S)
  (h:S A.in1 (Do (λobj d=>d.TypeIs obj T/\Q obj d) E) s):ag (ah f w) A (call (.type T) a kw) Q E s:=by
 obtain⟨c,N,u⟩:=i.mro;have n:=i.made;have G:=i.sub;refine yg<|xZ ?_;show ag _ _ (callAny (.type T) _) _ _ _;refine iX ⟨G3 _ (by decide+kernel),qL F.entry_type_call ?_⟩;rw[hL (MK T a kw)<|units_type_call_type T a kw];have h1:=i.notType;have O:=i.canCreate
 repeat (any_goals (first|assumption|wp_step))
 refine sy (zV i.plain j<|wg x<|g f w A.in1 _ s h) λr d p=>?_
 cases r with
 |error e=>exact p
 |ok y=>
  cases y with
  |ret obj=>
   obtain⟨t,v⟩:=p;have I:=i.init.lookup;have L:=i.init.bind obj
   repeat (any_goals (first|assumption|wp_step))
   have z:=WR (self:=obj) (rz:=a) (kw:=kw) i.init.lookup i.made B;refine sy (zV i.init.plain MP<|i.init.check _ _ _ _ _ _ _ _ t (o obj) (z f w A.in1 (Do (λr k=>r=.none/\Q obj k) E) d ⟨t,rfl,v⟩)) λl k m=>?_
   cases l with
   |error e=>exact m
   |ok H'=>
    cases H' with
    |ret r=>
     obtain⟨rfl,v⟩:=m
     repeat (any_goals (first|assumption|wp_step))
    |_=>exact m.elim
  |_=>exact p.elim
def adC(a b:iQ):K2 "enumerate" ⟨[a],[("start",b)]⟩=pure ():=by kernel_rfl
def ad7(a b:iQ):dc "enumerate.__new__" ⟨[.type "enumerate",a],[("start",b)]⟩=pure ():=by kernel_rfl
def adD(o a b:iQ):gU "object.__init__" ⟨[o,a],[("start",b)]⟩:=by unfold gU;rw[signature?_of (id:="object.__init__") (n:=['_','_','t','i','n','i','_','_']) (o:=['t','c','e','j','b','o']) (by kernel_rfl) F.owner_object];kernel_rfl
noncomputable def qu(it:iG)(c:Int):Obj:={cls:=.type "enumerate",data:=.fields #[.none,.bool U,.ref it,ce c,.none,.none]}
def afz(l:iG)(i:nB):vr (ba.«enumerate.__new__» ⟨[.type "enumerate",.ref l],[]⟩) (λ_ R s=>(s.heap.IsList l i\/s.heap.IsTuple l i)/\
  ∀e,Src e s.heap.objs.size l 0 i->e.objs.size=s.heap.objs.size+1->(∀b o,s.heap.get? b=Y o->e.get? b=Y o)->R (.ok<|.ret<|.ref e.objs.size) {s with heap:=e.push (qu s.heap.objs.size 0)}):=
 .of_wp λf w A R s h=>by
  obtain⟨k,g,d,n,os⟩:=s;obtain⟨j,h⟩:=h;have m:=IR
  wp_walk
  refine x8 λst=>iX ?_;generalize bY _ _ _ _=b;cases b<;>(wp_walk using Src.new j;intro e a b c;wp_walk;exact⟨_,rfl,h e a b c⟩)
def afy(l:iG)(i:nB)(c:Int)(t:tz)(k:bn c=C):vr (ba.«enumerate.__new__» ⟨[.type "enumerate",.ref l],[("start",.int c t)]⟩) (λ_ R s=>(s.heap.IsList l i\/s.heap.IsTuple l i)/\
  ∀e,Src e s.heap.objs.size l 0 i->e.objs.size=s.heap.objs.size+1->(∀b o,s.heap.get? b=Y o->e.get? b=Y o)->R (.ok<|.ret<|.ref e.objs.size) {s with heap:=e.push (qu s.heap.objs.size c)}):=
 .of_wp λf w A R s h=>by
  obtain⟨m,g,d,p,os⟩:=s;obtain⟨j,h⟩:=h;have n:=IR
  wp_walk
  refine x8 λst=>iX ?_;generalize bY _ _ _ _=b;cases b<;>(wp_walk using Src.new j;intro e a b c;wp_walk;exact⟨_,rfl,h e a b c⟩)
def aeP(e:s.heap.IsList l xs\/s.heap.IsTuple l xs)
  (h:∀d,Src d s.heap.objs.size l 0 xs->d.objs.size=s.heap.objs.size+1->(∀b o,s.heap.get? b=Y o->d.get? b=Y o)->Q (.ref d.objs.size) {s with heap:=d.push (qu s.heap.objs.size 0)}):
  ag (ah f w) A (call (.type "enumerate") [.ref l]) Q E s:=
 OO F.called_enumerate (by decide) (F.typeCall_enumerate_1 _) (F.newCall_enumerate_1 _) (λobj=>MO obj _) MJ (afz l xs) ⟨e,λd a b c=>⟨⟨_,kE _ rfl,rfl⟩,h d a b c⟩⟩
def aeO(g:s.heap.IsList l xs\/s.heap.IsTuple l xs)(e:bn c=C)
  (h:∀d,Src d s.heap.objs.size l 0 xs->d.objs.size=s.heap.objs.size+1->(∀b o,s.heap.get? b=Y o->d.get? b=Y o)->Q (.ref d.objs.size) {s with heap:=d.push (qu s.heap.objs.size c)}):
  ag (ah f w) A (call (.type "enumerate") [.ref l] [("start",.int c t)]) Q E s:=
 aey F.called_enumerate (by decide) (adC _ _) (ad7 _ _) (λobj=>adD obj _ _) MJ (afy l xs c t e) ⟨g,λd a b c=>⟨⟨_,kE _ rfl,rfl⟩,h d a b c⟩⟩
end
section
variable {X:Cx}{g:jF}{i:L2.St}{H:Hp}{s:iL}{m:kD}{n:Nat}{y:br}
def J5{R:It->Hp->Prop}{E:jB}{b:Bool}{l:iG}{L:List V}{j:jP}{h':jb}{c:Int}(Q:Inv X g i H s)(t:Gw b X.K H l L)(k:Src h' s.heap.objs.size l 0 j.toArray)(h:h'.objs.size=s.heap.objs.size+1)
  (B:∀b o,s.heap.get? b=Y o->h'.get? b=Y o)(r:R (Nr b X.K l c) H):ag (ah X.prog X.w) X.A (c7<|.ref h'.objs.size) (PIE X g i (.Tuple m n y) R) E {s with heap:=h'.push (qu s.heap.objs.size c)}:=by
 have q:eM (h'.push<|qu s.heap.objs.size c) h'.objs.size s.heap.objs.size c .none:=kE _ rfl;refine ut q ?_;have d:Inv X g i H {s with heap:=h'.push (qu s.heap.objs.size c)}:=Q.kept (t':=s.toks) λb o e=>jW _ (B b o e);have v:h'.objs.size≠s.heap.objs.size:=by rw[h];exact Nat.succ_ne_self _
 refine⟨h'.objs.size,[h'.objs.size,s.heap.objs.size],_,_,H,rfl,d,afj b h'.objs.size s.heap.objs.size l c v,⟨⟨.none,by simpa using q⟩,?_⟩,λa x=>?_,r⟩
 .have u:=k.keep (h':=h'.push<|qu s.heap.objs.size c) (λo e=>jW _ e) (λo e=>jW _ e)
  cases b
  .rcases u with⟨_,o,h1,f,_⟩|⟨a,_⟩
   .obtain⟨_,_,p,_⟩:=d.tuple t;obtain⟨T,g1,g2,_⟩:=p;rw[h1]at g1;cases g1;rw[f]at g2;injection g2 with g2;exact absurd g2 (by decide)
   exact a
  rcases u with⟨a,_⟩|⟨_,o,h1,f,_⟩
  .exact a
  obtain⟨_,_,p,_⟩:=d.list t;obtain⟨T,g1,g2,_⟩:=p.isList;rw[h1]at g1;cases g1;rw[f]at g2;injection g2 with g2;exact absurd g2 (by decide)
 have z:a=h'.objs.size\/a=s.heap.objs.size:=by simpa using x
 rcases z with rfl|rfl
 .exact Q.K9 (by rw[h];exact Ac _) (Q.hok.fresh<|by rw[h];exact Ac _)
 exact Q.K9 (jZ _) (Q.hok.fresh<|jZ _)
def PF(K:ji)(c:Int)(d:TA):TI:=λi H R=>d i H λe a=>∃b l f,e=[.ref l]/\Gw b K a l f/\R (Nr b K l c) a
def D7(T:Inv X g i H s)(q:Gw b X.K H l xs):∃a,Vals xs a/\(s.heap.IsList l a.toArray\/s.heap.IsTuple l a.toArray):=by
 cases b
 .obtain⟨a,v,p,_⟩:=T.tuple q;exact⟨a,v,.inr p⟩
 obtain⟨a,v,p,_⟩:=T.list q;exact⟨a,v,.inl p.isList⟩
def Kh:aB "enumerate"=Y (.type "enumerate"):=by decide+kernel
def Of{a:iR}{j:TA}{p c:br}(o:Gl X "enumerate")(t:X.mg "enumerate"=J)(k:PA X [a] j)(v:aa [a] X.env=[(U,aX a X.env)]):PI X (.Tuple m n y) (.Call (.Name "enumerate" p) [a] [] c) (PF X.K 0 j):=by intro g s i H R Q h;refine Call_<|qy Q o t Kh<|Ad (B6 (k c g s i H _ Q h) ?_) v I;rintro us s1 ⟨E,H1,e,A,b,l,xs,hv,f,q⟩;subst hv;obtain⟨u,rfl,B⟩:=qm A;cases B;obtain⟨x,_,r⟩:=D7 e f;exact aeP r λT d w z=>J5 e f d w z q
def zm{M:f8}{A:je}{E:jB}{s:iL}{b:dI}{c:br}{T:String}{e:iR}{j:List vu}{Q:jB}
  (h:ag M A (u4<|aK c<|aa [e] b) (λw d=>ag M A (evalAll ((fk c<|dA j b).map (·.2))) (λo f=>ag M A (call (.type T) w (((fk c<|dA j b).filterMap (·.1)).zip o)) Q E f) E d) E s)
  (u:aK c (aa [e] b)=(U,aX e b)::aK c (aa [] b))(p:(aK c<|aa [e] b).any (·.1)=U)(q:(fk c<|dA j b).all (·.1.isSome)=C)(l:(fk c<|dA j b).any (·.1.isNone)=U):
  ag M A (callWith c (.type T) [] (aK c<|aa [e] b)<|fk c<|dA j b) Q E s:=by
 have t:ag M A (evalArgs (.type T) C (aK c<|aa [e] b)<|fk c<|dA j b) (λa d=>ag M A (call (.type T) ([]++a.pos) a.kw) Q E d) E s:=by rw[u]at h ⊢;exact evalArgs_kwB q h
 unfold callWith;refine iI<|md<|oq t (λa d k=>iI<|vD ?_) λ_ _ x=>x;simp only[p,l,Bool.or_false];exact iI<|iX<|iI<|oq k (λr f v=>iI<|md<|G2<|iX v) λ_ _ x=>x
def Oe{a:iR}{o:TA}{p d N e:br}{c:Int}{z:Nat}(O:Gl X "enumerate")(T:X.mg "enumerate"=WF)(C:PA X [a] o)(E:bn c=WP)
  (L:aK d (aa [a] X.env)=(U,aX a X.env)::aK d (aa [] X.env))(A:(aK d<|aa [a] X.env).any (·.1)=U):
  PI X (.Tuple m n y) (.Call (.Name "enumerate" p) [a] [⟨Wp "start",.Constant (.int c) z N,e⟩] d) (PF X.K c o):=by
 intro g s i H R I h;refine tJ<|qy I O T Kh<|zm (B6 (C d g s i H _ I h) ?_) L A XV XV;rintro us s1 ⟨vs,H1,w,U',b,l,xs,hv,k,q⟩;subst hv;obtain⟨u,rfl,Y⟩:=qm U';cases Y;refine kws_cons<|B6 (Oo g s1 i H1 (λv r=>v=.int c/\r=H1) w ⟨rfl,rfl⟩) λv s2 ⟨x,H2,j,rx,G,B⟩=>kws_nil ?_;subst G;subst B;obtain⟨t,rfl⟩:=rx;obtain⟨M,_,Q⟩:=D7 j k;exact aeO Q E λD f J e=>J5 j k f J e q
noncomputable def yx(c:Int)(f:F):Cb:=λa=>(f a).bind λp=>match p.1.1 with
 |.tup l=>Y (l.zipIdx.map λq=>.tup [.int<|c+q.2,q.1],p.2)
 |.lst l=>Y (l.zipIdx.map λq=>.tup [.int<|c+q.2,q.1],p.2)
 |_=>J
def Sb{K:ji}{T:AA}{i:L2.St}{d c:Dn}{H:Hp}{r:D×Bool}{f:F}{Q:List V->Hp->Prop}(E:ER K H T i d)(h:f d=Y (r,c))(k:∀v l,BJ i d H c l->ER K l T i c->Rep K l (λa=>A1 i c a\/T a) r.1 v->Q [v] l):tA K [iY f] i H Q:=by
 refine⟨d,T,[.val r],c,E,?_,λu o w B=>?_⟩
 .show((iY f d).bind λp=>(kM [] p.2).bind λq=>Y (p.1::q.1,q.2))=_;simp only[iY,h,t5,kM]
 have t:=B.len;rcases u with _|⟨v,_|⟨_,_⟩⟩<;>try cases t
 exact k v o B.keep (B.er.mono (λ_ _ e _=>e) (λb _ z=>B.tt b z) λa z=>B.er.dom a<|B.tt a z)<|B.rep E (j:=0) I I
def Gj{K:ji}{B:SB}{c:Int}{f:F}{i:L2.St}{H:Hp}{R:It->Hp->Prop}(A:tI K B (yx c f) i H R):PF K c (tA K [iY f]) i H R:=by
 obtain⟨L,T,w,r,E,e,k⟩:=A;obtain⟨⟨⟨d,o⟩,h⟩,h1,e⟩:=iM e;refine Sb E h1 λv j u t O=>?_
 have key:∀{l},Ar d=Y l->Y (l.zipIdx.map λq=>D.tup [.int<|c+q.2,q.1],h)=Y (w,r)->∃b a p,[v]=[V.ref a]/\Gw b K j a p/\R (Nr b K a c) j:=λx e=>by obtain⟨rfl,rfl⟩:=jn e;obtain⟨a,p,rfl,q,Q⟩:=Ct x O;have q:=q.mono (λ_ _ e _=>e) (P':=LR B T i h) λa z=>z.own;exact⟨_,a,p,rfl,Ap q,k _ j u t (af0 q Q λa z=>z.own)⟩
 cases d with
 |tup l=>exact key I e
 |lst l=>exact key I e
 |_=>cases e
def afc{B:SB}{a:iR}{f:F}{p b r q:br}{c:Int}{z:Nat}(k:Gl X "enumerate")(l:X.mg "enumerate"=J)(e:PX X a f)(h:bn c=C)(s0:aa [a] X.env=(U,aX a X.env)::aa [] X.env)
  (j:aK b (aa [a] X.env)=(U,aX a X.env)::aK b (aa [] X.env))(d:(aK b<|aa [a] X.env).any (·.1)=U):
  L9 X B (.Tuple m n y) (.Call (.Name "enumerate" p) [a] [⟨Y "start",.Constant (.int c) z r,q⟩] b) (yx c f):=PI.imp' (Oe k l (rn (PX.po e) wD s0) h j d) λi H R o=>Gj o
end
section
variable {j:jh}{w:jc}{A:je}{E:jB}{s:iL}{z TI TO f d n l:iG}{k:Nat}{i g:nB}{x y a b:iQ}
def US{Q:jB}(D:o8 z TI TO f d n l)(hz:eR s.heap z TI TO .none)(r9:cg s.heap TI (.ref f) (.ref d))(w5:cg s.heap TO a b)(h1:Src s.heap f n k i)(h2:Src s.heap d l k g)
  (hQ:∀x y,i[k]?=Wp x->g[k]?=Wp y->∀G,eR G z TI TO (ce s.heap.objs.size)->cg G TO x y->Src G f n (k+1) i->Src G d l (k+1) g->cg G s.heap.objs.size x y->(∀c o,c≠z->c≠TO->c≠f->c≠d->s.heap.get? c=Wp o->G.get? c=Wp o)->Q (.ref s.heap.objs.size) {s with heap:=G})
  (hE:i[k]?=WF\/g[k]?=WF->A.handled=WF/\∀G e,(∀c o,c≠z->c≠TO->c≠f->c≠d->s.heap.get? c=Wp o->G.get? c=Wp o)->(∃o,G.get? e=Wp o/\o.cls=.type "StopIteration")->E (.ref e) {s with heap:=G}):
  ag (ah j w) A (ba.«zip.__next__» ⟨[.ref z],[]⟩) (λfin s'=>∃v,fin=.done (.ret v)/\Q v s') E s:=by
 have L:∀{h:jb}{e:iG}{oe:eZ}{f0:iQ},eR h z TI TO f0->h.get? e=Wp oe->oe.cls=.type "StopIteration"->e≠z:=λhzz cG K q=>by subst q;have V:_=_:=hzz;rw[cG]at V;cases V;injection K with K;exact absurd K (by decide)
 refine iI (m:=jp (.ref z) 2)<|pN hz XV (x:=.bool W1) XV<|iI (m:=jp (.ref z) 3)<|pN hz XV (x:=.ref TI) XV<|iI<|rN r9 XV<|iI (m:=bu<|.ref z) ?_;unfold bu;refine iI<|pN hz XV (x:=.none) XV<|iX ?_;simp -iota only[ng];refine iI<|sQ<|iI<|pN hz XV (x:=.ref TO) XV<|iI<|uT hz (by simp) λH dU R=>?_;replace dU:eR H z TI TO .ellipsis:=dU;refine iI ?_;simp -iota only[nw,List.zipIdx_nil,ey,List.forIn_nil];have c1:Src H f n k i:=h1.keep (λo e=>R.extBut _ o D.i1z e) λo e=>R.extBut _ o D.l1z e
 cases hx:i[k]? with
 |none=>obtain⟨hh,hE⟩:=hE<|.inl hx;refine iI<|iI<|zU<|iI (m:=aT<|.ref f)<|c1.stop (s:={s with heap:=H}) hh hx ?_;rintro r e U ⟨oe,cG,K⟩;have M:eR r z TI TO .ellipsis:=U _ _ D.i1z.symm dU;exact uT (s:={s with heap:=r}) M (by simp) λt _ T=>hE t e (λc o O _ d3 _ q=>T.extBut _ _ O (U _ _ d3 (R.extBut _ _ O q))) ⟨oe,T.extBut _ _ (L M cG K) cG,K⟩
 |some x=>
  refine iI<|iI<|zU<|iI (m:=aT<|.ref f)<|c1.item (s:={s with heap:=H}) hx λr X U=>iX ?_;have B:cg r TO a b:=U.extBut _ _ D.TOi1 (R.extBut _ _ D.TOz w5);refine iI<|rN (s:={s with heap:=r}) B XV<|iI<|MI (s:={s with heap:=r}) B λt cW T=>iI<|DL<|iX ?_;replace cW:cg t TO x b:=cW;have c2:Src t d l k g:=h2.keep (λo e=>T.extBut _ o D.TOi2.symm (U.extBut _ o D.i12.symm (R.extBut _ o D.i2z e))) λo e=>T.extBut _ o D.l2TO (U.extBut _ o D.l2i1 (R.extBut _ o D.l2z e))
  cases hy:g[k]? with
  |none=>obtain⟨hh,hE⟩:=hE<|.inr hy;refine iI<|iI<|zU<|iI (m:=aT<|.ref d)<|c2.stop (s:={s with heap:=t}) hh hy ?_;rintro u e P ⟨oe,cG,K⟩;have dR:eR u z TI TO .ellipsis:=P _ _ D.i2z.symm (T.extBut _ _ D.TOz.symm (U.extBut _ _ D.i1z.symm dU));exact uT (s:={s with heap:=u}) dR (by simp) λp _ F=>hE p e (λc o O d2 d3 d4 q=>F.extBut _ _ O (P _ _ d4 (T.extBut _ _ d2 (U.extBut _ _ d3 (R.extBut _ _ O q))))) ⟨oe,F.extBut _ _ (L dR cG K) cG,K⟩
  |some y=>
   refine iI<|iI<|zU<|iI (m:=aT<|.ref d)<|c2.item (s:={s with heap:=t}) hy λu c2₄ P=>iX ?_;have C:cg u TO x b:=P.extBut _ _ D.TOi2 cW;refine iI<|rN (s:={s with heap:=u}) C XV<|iI<|MI (s:={s with heap:=u}) C λp bN F=>iI<|DL<|iX<|iX ?_;replace bN:cg p TO x y:=bN;refine iI<|rN (s:={s with heap:=p}) bN XV<|iI<|DM (s:={s with heap:=p}) ?_;have hsz:p.objs.size=s.heap.objs.size:=by rw[F.1,P.1,T.1,U.1,R.1]
   have N:eR p z TI TO .ellipsis:=F.extBut _ _ D.TOz.symm (P.extBut _ _ D.i2z.symm (T.extBut _ _ D.TOz.symm (U.extBut _ _ D.i1z.symm dU)));have hk₅:∀c o,c≠z->c≠TO->c≠f->c≠d->s.heap.get? c=Wp o->p.get? c=Wp o:=λc o O d2 d3 d4 e=>F.extBut _ _ d2 (P.extBut _ _ d4 (T.extBut _ _ d2 (U.extBut _ _ d3 (R.extBut _ _ O e))));have Z:Src p f n (k+1) i:=X.keep (λo e=>F.extBut _ o D.TOi1.symm (P.extBut _ o D.i12 (T.extBut _ o D.TOi1.symm e))) λo e=>F.extBut _ o D.l1TO (P.extBut _ o D.l1i2 (T.extBut _ o D.l1TO e));have c2₅:Src p d l (k+1) g:=c2₄.keep (λo e=>F.extBut _ o D.TOi2.symm e) λo e=>F.extBut _ o D.l2TO e;have S:z<p.objs.size:=kh N;refine iI (m:=bq (.ref z)<|.ref p.objs.size) ?_;unfold bq;have hz₆:eR (p.push {cls:=.type "tuple",data:=.seq #[x,y]}) z TI TO .ellipsis:=jW _ N;refine iI<|uT (s:={s with heap:=p.push {cls:=.type "tuple",data:=.seq #[x,y]}}) hz₆ (by simp) λW gj cf=>?_;replace gj:eR W z TI TO (ce p.objs.size):=gj;refine uT (s:={s with heap:=W}) gj (by simp) λI eY Y=>?_;replace eY:eR I z TI TO (ce p.objs.size):=eY;have up:∀c o,c≠z->p.get? c=Wp o->I.get? c=Wp o:=λc o O e=>Y.extBut _ _ O (cf.extBut _ _ O (jW _ e));have J:cg I p.objs.size x y:=Y.extBut _ _ (qk S) (cf.extBut _ _ (qk S) (kE _ rfl));rw[hsz]at eY J;refine iX ⟨_,rfl,?_⟩;show Q (.ref p.objs.size) _;rw[hsz];exact hQ x y hx hy I eY (up _ _ D.TOz bN) (Z.keep (λo e=>up _ o D.i1z e) λo e=>up _ o D.l1z e) (c2₅.keep (λo e=>up _ o D.i2z e) λo e=>up _ o D.l2z e) J λc o O d2 d3 d4 e=>up c o O<|hk₅ c o O d2 d3 d4 e
def Ax{Q:Ci}(D:o8 z TI TO f d n l)(t:eR s.heap z TI TO .none)(N:cg s.heap TI (.ref f) (.ref d))(M:cg s.heap TO a b)(h1:Src s.heap f n k i)(I:Src s.heap d l k g)
  (L:∀x y,i[k]?=Y x->g[k]?=Y y->∀h,eR h z TI TO (ce s.heap.objs.size)->cg h TO x y->Src h f n (k+1) i->Src h d l (k+1) g->cg h s.heap.objs.size x y->(∀c o,c≠z->c≠TO->c≠f->c≠d->s.heap.get? c=Y o->h.get? c=Y o)->Q (Y<|.ref s.heap.objs.size) {s with heap:=h})
  (m:i[k]?=J\/g[k]?=J->A.handled=J/\∀h,(∀c o,c≠z->c≠TO->c≠f->c≠d->s.heap.get? c=Y o->h.get? c=Y o)->Q J {s with heap:=h}):
  ag (ah j w) A (cp<|.ref z) Q E s:=by
 have p:s.TypeIs (.ref z) "zip":=⟨_,t,rfl⟩
 unfold cp
 exact iI (rM (tH (name:=bC "__next__") p F.slot_zip_next (qj F.slot_zip_next p F.entry_zip_next
  (US D t N M h1 I (λx y q r h a1 u v B C H=>iX<|L x y q r h a1 u v B C H) λq=>⟨(m q).1,λh e hk ⟨o,G,O⟩=>iI<|xX (T:="StopIteration") (b:=WP) ⟨o,G,O⟩ DJ<|iX<|(m q).2 _ hk⟩) (F.args_zip_next_1 _))))
end
def Q9(j c:iG)(l i:nB):vr (ba.«zip.__new__» ⟨[.type "zip",.ref j,.ref c],[]⟩) (λ_ R s=>(s.heap.IsList j l\/s.heap.IsTuple j l)/\(s.heap.IsList c i\/s.heap.IsTuple c i)/\
  ∀h1 a,Src h1 s.heap.objs.size j 0 l->h1.objs.size=s.heap.objs.size+1->(∀b o,s.heap.get? b=Y o->h1.get? b=Y o)->Src a h1.objs.size c 0 i->a.objs.size=h1.objs.size+1->(∀b o,h1.get? b=Y o->a.get? b=Y o)->
   R (.ok<|.ret<|.ref ((a.push {cls:=.type "tuple",data:=.seq #[.ref s.heap.objs.size,.ref h1.objs.size]}).push {cls:=.type "tuple",data:=.seq #[.none,.none]}).objs.size)
    {s with heap:=((a.push {cls:=.type "tuple",data:=.seq #[.ref s.heap.objs.size,.ref h1.objs.size]}).push {cls:=.type "tuple",data:=.seq #[.none,.none]}).push {cls:=.type "zip",data:=.fields #[.none,.bool U,.bool U,.ref a.objs.size,.ref (a.push {cls:=.type "tuple",data:=.seq #[.ref s.heap.objs.size,.ref h1.objs.size]}).objs.size]}}):=
 .of_wp λm w A R s h=>by
  obtain⟨y,g,d,v,os⟩:=s;obtain⟨p,x,h⟩:=h;have z:=sub_zip
  wp_walk using Src.new p
  intro h1 a1 n k
  have f:h1.IsList c i\/h1.IsTuple c i:=by
   rcases x with⟨o,e,r⟩|⟨o,e,r⟩
   .exact .inl ⟨o,k _ _ e,r⟩
   exact .inr ⟨o,k _ _ e,r⟩
  wp_walk using Src.new (s:=⟨h1,g,d,v,os⟩) f
  intro a q t u
  wp_walk
  exact⟨_,rfl,h h1 a a1 n k q t u⟩
def ItZ(c d:Bool)(K:ji)(e f:iG):It:=⟨λi Q=>∃a b x y,Gw c K Q e a/\Gw d K Q f b/\a[i]?=Y x/\b[i]?=Y y,
 λi Q x g=>∃(T:iG)(u v:V),x=.ref T/\Q T=J/\g=upd Q T (.tup [u,v])/\∀a b,Gw c K Q e a->Gw d K Q f b->a[i]?=Y u/\b[i]?=Y v,
 λi Q=>∃a b,Gw c K Q e a/\Gw d K Q f b/\(X0 a<=i\/(X0 b)<=i)⟩
structure ZA(z TI TO i1 i2:iG):Prop where
 a1:TI≠z
 a2:TO≠z
 a3:i1≠z
 a4:i2≠z
 a5:TI≠TO
 a6:TI≠i1
 a7:TI≠i2
 a8:TO≠i1
 a9:TO≠i2
 a10:i1≠i2
def wA{b:Bool}{K:ji}{Q:Hp}{l:iG}{m:List V}{X:Cx}{c:jF}{p:L2.St}{s:iL}(T:Inv X c p Q s)(k:X.K=K)(q:Gw b K Q l m){h:kP}(i:∀a∈h,uh X c Q a):l∉h:=by
 subst k;intro j;have d:=(i l j).1
 have base:∀o,X.K.lookup l=Y o->False:=λo e=>by
  have g:=T.mod.kin l o e;rcases(i l j).2.2.2.1 with z|z
  .exact T.ok.noex l o g z
  have:=(T.ok.bs l o g).1;exact absurd (kh this)<|M6.mpr z
 cases b
 .rcases q with(q|⟨o,q⟩)|⟨o,f,n,e,_⟩
  .rw[d]at q;cases q
  .rw[d]at q;cases q
  exact base o e
 rcases q with(q|⟨o,q⟩)|⟨o,f,n,e,_⟩
 .rw[d]at q;cases q
 .rw[d]at q;cases q
 exact base o e
def agv{P:jh}{w:jc}{K:ji}{Y:kD}{k1}{pos:br}(b1 b2:Bool)(z TI TO m n J M:iG)(D:ZA z TI TO m n):
  Turn P w K (.Tuple Y k1 pos) (ItZ b1 b2 K J M) [z,TI,TO,m,n] z (λi h=>eR h z TI TO .none/\cg h TI (.ref m) (.ref n)/\(∃a b,cg h TO a b)/\Iq b1 h m J i/\Iq b2 h n M i) where
 mem:=by simp
 obj:=λi h st a G=>by
  obtain⟨l,p,⟨u,v,C⟩,s1,B⟩:=st;simp at G;rcases G with rfl|rfl|rfl|rfl|rfl
  .exact⟨_,l,λv e=>by have U:hJ _=fS v:=e;cases U⟩
  .exact⟨_,p,λv e=>by have U:Ls _ _=fS v:=e;cases U⟩
  .exact⟨_,C,λv e=>by have U:Ls _ _=fS v:=e;cases U⟩
  .exact s1.obj
  exact B.obj
 keep:=λi h h' st k=>by obtain⟨l,p,⟨u,v,C⟩,s1,B⟩:=st;exact⟨k z (by simp) _ l,k TI (by simp) _ p,⟨u,v,k TO (by simp) _ C⟩,s1.keep λo q=>k m (by simp) o q,B.keep λo q=>k n (by simp) o q⟩
 item:=by
  intro X hP hw L hc i A s σ H E I t st hg;obtain⟨l,p,⟨a0,b0,C⟩,s1,B⟩:=st;obtain⟨xs,ys,x,y,T,Q,hx,hy⟩:=hg;have d:=wA I L T t;have f:=wA I L Q t;simp at d f;subst hP hw L;obtain⟨cx,fU,F⟩:=uq I T s1;obtain⟨b8,Z,N⟩:=uq I Q B;obtain⟨u,hu,ru⟩:=fU.get hx;obtain⟨v,hv,rv⟩:=Z.get hy;have AP:o8 z TI TO m n J M:=⟨D.a1,D.a2,D.a3,D.a4,D.a5,D.a6,D.a7,D.a8,D.a9,D.a10,d.1,d.2.2.1,d.2.2.2.1,d.2.2.2.2,f.1,f.2.2.1,f.2.2.2.1,f.2.2.2.2⟩
  refine Ax AP l p C F N (λx' y' q r h' z' t1 c1 c2 hT V=>?_) λq=>absurd q (by simp[hu,hv]);obtain rfl:u=x':=by simpa[hu]using q
  obtain rfl:v=y':=by simpa[hv]using r
  refine⟨.ref s.heap.objs.size,rfl,?_⟩;refine wpAny_letOwnedTupleGo_zip (s:={s with heap:=h'}) z' λO z'' j=>?_;replace j:aE z h' O:=j
  have W:∀a o,a∉[z,TI,TO,m,n]->s.heap.get? a=Wp o->O.get? a=Wp o:=λa o g q=>by simp at g;exact j.extBut a o g.1<|V a o g.1 g.2.2.1 g.2.2.2.1 g.2.2.2.2 q
  have lt:∀{c o},s.heap.get? c=Wp o->s.heap.objs.size≠c:=λe=>qk<|kh e;have cX:cg O s.heap.objs.size u v:=j.extBut _ _ (lt l) hT
  have I1:Inv X A σ (upd H s.heap.objs.size<|.tup [x,y]) {s with heap:=O}:=
   Ck (t':=s.toks) I t W (jZ _) (show A5 X.prog X.w _ _ _ (.tup [x,y])from⟨by show 2<=sizeLine;decide,[u,v],.cons ru<|.cons rv .nil,_,cX,rfl,⟨0,rfl⟩,rfl⟩)
  have R:Iq b1 O m J (i+1):=HZ s1 F (c1.keep (λo q=>j.extBut _ o D.a3 q) λo q=>j.extBut _ o d.1 q) λo q=>W J o (by simp;exact d) q;have S:Iq b2 O n M (i+1):=HZ B N (c2.keep (λo q=>j.extBut _ o D.a4 q) λo q=>j.extBut _ o f.1 q) λo q=>W M o (by simp;exact f) q;refine⟨.ref s.heap.objs.size,_,I1,rfl,⟨_,x,y,rfl,I.fresh,rfl,λda ys' q1 q2=>by rw[D8 I q1 T,D8 I q2 Q];exact⟨hx,hy⟩⟩,⟨z'',j.extBut _ _ D.a1 (V _ _ D.a1 D.a5 D.a6 D.a7 p),⟨u,v,j.extBut _ _ D.a2 t1⟩,R,S⟩,λa G=>?_⟩;have n0:=(t a G).1;rw[jx]
  .exact n0
  intro e;simp at G;rcases G with rfl|rfl|rfl|rfl|rfl
  .exact lt l e.symm
  .exact lt p e.symm
  .exact lt C e.symm
  .exact absurd e (kx F.lt.1)
  exact absurd e (kx N.lt.1)
 done:=by
  intro X hP hw L hc i A s σ H E I t st hg;obtain⟨l,p,⟨a0,b0,C⟩,s1,B⟩:=st;obtain⟨xs,ys,T,Q,hend⟩:=hg;have d:=wA I L T t;have f:=wA I L Q t;simp at d f;subst hP hw L;obtain⟨cx,fU,F⟩:=uq I T s1;obtain⟨b8,Z,N⟩:=uq I Q B;have e1:=fU.length;have e2:=Z.length;have AP:o8 z TI TO m n J M:=⟨D.a1,D.a2,D.a3,D.a4,D.a5,D.a6,D.a7,D.a8,D.a9,D.a10,d.1,d.2.2.1,d.2.2.2.1,d.2.2.2.2,f.1,f.2.2.1,f.2.2.2.1,f.2.2.2.2⟩
  refine Ax AP l p C F N (λx y q r=>?_) λ_=>⟨I.ok.hd hc,λh' V=>⟨rfl,Cm (t':=s.toks) I t λa o g q=>?_⟩⟩
  .have z1:=(Mh.mp q).1;have z2:=(Mh.mp r).1;simp at z1 z2;omega
  simp at g;exact V a o g.1 g.2.2.1 g.2.2.2.1 g.2.2.2.2 q
 self:=λ_ _ _ _ _ st h=>v6 st.1 h
def Pu{K:ji}{P O:AA}{g:Hp}{a1 r:iG}{f h:List V}{A B:List D}{s t:Bool}(l:HP s K g P a1 f)(L:YP K g O A f)(m:HP t K g P r h)(Q:YP K g O B h)(C:∀a,P a->O a):
  KJ K (ItZ s t K a1 r) ((A.zip B).map λp=>.tup [p.1,p.2]) P O g:=by
 have sq:∀{b:Bool}{a:iG}{f:List V},HP b K g P a f->∀Hi,(∀a o,g a=Wp o->¬P a->Hi a=Wp o)->Gw b K Hi a f:=λq Hi c=>Ap<|q.mono c λ_ z=>z;refine⟨λi d Hi hd c=>?_,λi Hi U c=>⟨f,h,sq l Hi c,sq m Hi c,by rw[L.length,Q.length];simp at U;lia⟩⟩;rw[kQ]at hd;obtain⟨⟨X,Z⟩,h1,J⟩:=jw hd;obtain⟨M,N⟩:=E8.mp h1;obtain⟨x,H,F⟩:=L.get M;obtain⟨y,I,R⟩:=Q.get N;refine⟨⟨f,h,x,y,sq l Hi c,sq m Hi c,H,I⟩,λv S k=>?_⟩;obtain⟨T,u,w,rfl,E,rfl,Y⟩:=k;obtain⟨g1,g2⟩:=Y f h (sq l Hi c)<|sq m Hi c;rw[H]at g1;cases g1;rw[I]at g2;cases g2;have ext:=lO (o:=.tup [x,y]) E;refine⟨ext,λW h1 G=>?_⟩;subst J;exact Rep.Iy ⟨jv,G T E⟩<|YP.cons (Rep.mono (λb o e n=>ext b o<|c b o e λz=>n<|C b z) (λb j z=>h1 b j z) F)<|YP.cons (Rep.mono (λb o e n=>ext b o<|c b o e λz=>n<|C b z) (λb j z=>h1 b j z) R) YP.nil
section
variable {X:Cx}{d:kD}{n:Nat}{r:br}
def Xp:aB "zip"=Y (.type "zip"):=by decide+kernel
def acb(K:ji)(g:TA):TI:=λk T R=>g k T λh a=>∃e f b c i j,h=[.ref b,.ref c]/\Gw e K a b i/\Gw f K a c j/\R (ItZ e f K b c) a
def JV(T:Inv X pins σ Q s)(f:Gw b X.K Q l xs)(c:Src s.heap it l i g):Iq b s.heap it l i:=by
 cases b
 .rcases c with⟨_,o,h1,e,_⟩|⟨a,_⟩
  .obtain⟨_,_,p,_⟩:=T.tuple f;obtain⟨h,g1,g2,_⟩:=p;rw[h1]at g1;cases g1;rw[e]at g2;injection g2 with g2;exact absurd g2 (by decide)
  exact a
 rcases c with⟨a,_⟩|⟨_,o,h1,e,_⟩
 .exact a
 obtain⟨_,_,p,_⟩:=T.list f;obtain⟨h,g1,g2,_⟩:=p.isList;rw[h1]at g1;cases g1;rw[e]at g2;injection g2 with g2;exact absurd g2 (by decide)
def V7{a b:iR}{O:TA}{p j:br}(hg:Gl X "zip")(hm:X.mg "zip"=J)(w:PA X [a,b] O)(hs:aa [a,b] X.env=(W1,aX a X.env)::aa [b] X.env)(d8:(aK j<|aa [b] X.env).any (·.1)=W1):
  PI X (.Tuple d n r) (.Call (.Name "zip" p) [a,b] [] j) (acb X.K O):=by
 intro i s0 Q T R A h;refine tJ<|qy A hg hm Xp<|Ad (B6 (w j i s0 Q T _ A h) ?_) hs d8;rintro us s ⟨vs,H',I',r1,J',M,E,L,xs,ys,hv,C',B,q⟩;subst hv;obtain⟨u,v,rfl,ru,rv⟩:=wx r1;cases ru;cases rv;obtain⟨D,_,G⟩:=D7 I' C';obtain⟨N,_,v9⟩:=D7 I' B;refine OO F.called_zip (by decide) (F.typeCall_zip_2 _ _) (F.newCall_zip_2 _ _) (λobj=>F.args_object_init_3 obj _ _) F.entry_zip_new (Q9 E L D.toArray N.toArray) ⟨G,v9,λh1 f U z1 n Y z2 z=>?_⟩;generalize k:({cls:=.type "tuple",data:=.seq #[.ref s.heap.objs.size,.ref h1.objs.size]}:eZ)=g;generalize l:({cls:=.type "tuple",data:=.seq #[.none,.none]}:eZ)=o4;have z3:(f.push g).objs.size=f.objs.size+1:=qO ..;have z4:((f.push g).push o4).objs.size=f.objs.size+2:=by rw[qO,z3]
 generalize m:({cls:=.type "zip",data:=.fields #[.none,.bool W1,.bool W1,.ref f.objs.size,.ref (f.push g).objs.size]}:eZ)=o5;have Z:(((f.push g).push o4).push o5).get? ((f.push g).push o4).objs.size=Wp o5:=kE _ (by rw[<-m];rfl);have W:(((f.push g).push o4).push o5).get? (f.push g).objs.size=Wp o4:=jW _ (kE _ (by rw[<-l];rfl));have V:(((f.push g).push o4).push o5).get? f.objs.size=Wp g:=jW _ (jW _ (kE _ (by rw[<-k];rfl)));have t:∀c o,f.get? c=Wp o->(((f.push g).push o4).push o5).get? c=Wp o:=λc o e=>jW _ (jW _ (jW _ e));have y:eR (((f.push g).push o4).push o5) ((f.push g).push o4).objs.size f.objs.size (f.push g).objs.size .none:=by show _=_;rw[Z,<-m]
 have r9:cg (((f.push g).push o4).push o5) f.objs.size (.ref s.heap.objs.size) (.ref h1.objs.size):=by show _=_;rw[V,<-k]
 have w5:cg (((f.push g).push o4).push o5) (f.push g).objs.size .none .none:=by show _=_;rw[W,<-l]
 have x:Inv X i Q H' {s with heap:=((f.push g).push o4).push o5}:=I'.kept (t':=s.toks) λc o e=>t c o<|z c o<|n c o e;have P:=U.keep (h':=((f.push g).push o4).push o5) (λo e=>t _ o (z _ o e)) λo e=>t _ o (z _ o e);have S:=Y.keep (h':=((f.push g).push o4).push o5) (λo e=>t _ o e) λo e=>t _ o e;refine⟨⟨_,y,rfl⟩,v6 (s:={s with heap:=((f.push g).push o4).push o5}) y ?_⟩;refine⟨((f.push g).push o4).objs.size,[((f.push g).push o4).objs.size,f.objs.size,(f.push g).objs.size,s.heap.objs.size,h1.objs.size],_,_,H',rfl,x,agv J' M _ _ _ _ _ E L ⟨?_,?_,?_,?_,?_,?_,?_,?_,?_,?_⟩,⟨y,r9,⟨_,_,w5⟩,JV x C' P,JV x B S⟩,λa w=>?_,q⟩
 case refine_11=>
  have le:s.heap.objs.size<=a:=by simp only[nS,sf,or_false]at w;rcases w with rfl|rfl|rfl|rfl|rfl<;>lia
  exact I'.K9 le<|I'.hok.fresh le
 all_goals lia
def yw(f g:FO):Cb:=λδ=>(f δ).bind λp=>(g p.2).bind λq=>(res q.2 p.1).bind λx=>(res q.2 q.1).bind λy=>(Ar x).bind λl=>(Ar y).bind λm=>Y ((l.zip m).map λp=>.tup [p.1,p.2],q.2)
def agR{B:SB}{a b:iR}{f g:FO}{p c:br}(hg:Gl X "zip")(hm:X.mg "zip"=WF)(ha:PO X a f)(hb:PO X b g)(I:NZ B f)(L:NZ B g)(w:aa [a,b] X.env=(W1,aX a X.env)::aa [b] X.env)(G:aa [b] X.env=(W1,aX b X.env)::aa [] X.env)(J:(aK c<|aa [b] X.env).any (·.1)=W1):
  L9 X B (.Tuple d n r) (.Call (.Name "zip" p) [a,b] [] c) (yw f g):=PI.imp' (V7 hg hm (rn ha (rn hb wD G) w) w J) λσ H R F=>by
 obtain⟨δ,T,ds,δ',E,e,k⟩:=F;obtain⟨K,δ1,h1,e⟩:=iW e;obtain⟨P,t,h,e⟩:=iW e;obtain⟨x,M,e⟩:=iM e;obtain⟨y,N,e⟩:=iM e;obtain⟨l,U,e⟩:=iM e;obtain⟨m,Y,e⟩:=iM e;obtain⟨rfl,rfl⟩:=jn e;dsimp only at h;refine⟨δ,T,[K,P],t,E,?_,λS O T1 W=>?_⟩
 .simp only[kM,h1,h,t5]
 have D:=W.len;rcases S with _|⟨v,_|⟨u,_|⟨_,_⟩⟩⟩<;>try cases D
 obtain⟨a1,V,rfl,A,q⟩:=W.seq E (j:=0) XV XV M U λi o=>I _ _ _ (o▸h1);obtain⟨Q,Z,rfl,C,s⟩:=W.seq E (j:=1) XV XV N Y λi o=>L _ _ _ (o▸h);exact⟨_,_,a1,Q,V,Z,rfl,Ap A,Ap C,k _ O W.keep (W.er.mono (λ_ _ e _=>e) (λb _ z=>W.tt b z) λa z=>W.er.dom a<|W.tt a z) (Pu A q C s λa z=>z.own)⟩
end
end PX
namespace TS
def Ask(M:f8)(A:je)(G:Shared->Prop)(it:Nat->eS)(d:q7)(N:Nat)(lt:Nat->Nat->Bool):Prop:= ∀i j,i<N->j<N->∀s,G s->∀a,ag M A (G1 d (it i).1 (it j).1) (λb c=>G c/\b=lt i j) a s
structure Cs where
 M:f8
 A:je
 E:iQ->Shared->Prop
 G:Shared->Prop
 it:Nat->eS
 lt:Nat->Nat->Bool
 κ:q7
 N:Nat
 as:∀i j,lt i j=WP->lt j i=W1
 tr:∀{i j k},lt j i=W1->lt k j=W1->lt k i=W1
 ask:Ask M A G it κ N lt
section
variable {X:Cs}{α β:Type}{f:α->StateT sL dP β}{Q:β->sL->Prop}{st:sL}
def wp(X:Cs){α:Type}(m:StateT sL dP α)(Q:α->sL->Prop)(st:sL):Prop:= ∀s,X.G s->ag X.M X.A (m.run st) (λr a=>X.G a/\Q r.1 r.2) X.E s
def iU{a:β}(h:Q a st):wp X (pure a) Q st:=λs g=>by rw[GZ];exact iX ⟨g,h⟩
def kJ{m:StateT sL dP α}(h:wp X m (λa c=>wp X (f a) Q c) st):wp X (m>>=f) Q st:=λs g=>by rw[StateT.run_bind];exact iI<|oq (h s g) (λr d b=>b.2 d b.1) λ_ _ e=>e
def IM{m:StateT sL dP α}{Q b:α->sL->Prop}(h:wp X m Q st)(i:∀a c,Q a c->b a c):wp X m b st:=λs g=>oq (h s g) (λr _ d=>⟨d.1,i _ _ d.2⟩) λ_ _ e=>e
def jG{c:Prop}[Decidable c]{t e:StateT sL dP β}(h1:c->wp X t Q st)(a: ¬c->wp X e Q st):wp X (if c then t else e) Q st:=by split<;>simp_all
def pO{f:sL->StateT sL dP β}(h:wp X (f st) Q st):wp X (get>>=f) Q st:=kJ λs g=>by rw[StateT.run_get];exact iX ⟨g,h⟩
def vF{g:sL->sL}{f:PUnit->StateT sL dP β}(h:wp X (f ⟨⟩) Q (g st)):wp X (modify g>>=f) Q st:=kJ λs g=>by rw[StateT.run_modify];exact iX ⟨g,h⟩
def IQ{m:dP α}(h:∀s,X.G s->ag X.M X.A m (λa b=>X.G b/\wp X (f a) Q st) X.E s):wp X (liftM m>>=f) Q st:=kJ λs g=>by show ag X.M X.A ((StateT.lift m:StateT sL dP α).run st) _ X.E s;rw[StateT.run_lift];exact iI<|oq (h s g) (λa b c=>iX c) λ_ _ e=>e
def uk{x:String}{f:Unit->StateT sL dP β}(h:wp X (f ()) Q st):wp X (liftM (rule x)>>=f) Q st:=IQ λs g=>sQ ⟨g,h⟩
def Rl{e:Nat}{g:Nat->α->StateT sL dP (ForInStep α)}{O:Nat->α->sL->Prop}{T:α->sL->Prop}
  (m:∀i c st,i<e->O i c st->wp X (g i c) (λr b=>match r with|.done d=>T d b|.yield d=>O (i+1) d b) st)(l:∀c st,O e c st->T c st):
  ∀(n a:Nat)(c:α)(st:sL),a+n=e->O a c st->wp X (forIn (bp a n 1) c g) T st:=by
 intro p
 induction p with
 |zero=>intro a c st rfl h;exact iU<|l _ _ h
 |succ n o=>
  intro a c st q h;rw[vt,ey];refine kJ<|IM (m a c st (by lia) h) λr b k=>?_
  cases r with
  |done j=>exact iU k
  |yield j=>exact o _ j b (by lia) k
def mY{g:Nat->α->StateT sL dP (ForInStep α)}(O:Nat->α->sL->Prop)(T:α->sL->Prop){a b:Nat}{c:α}(h:O a c st)
  (l:∀i c st,i<a+(b-a)->O i c st->wp X (g i c) (λr e=>match r with|.done d=>T d e|.yield d=>O (i+1) d e) st)
  (j:∀c st,O (a+(b-a)) c st->T c st)(k:∀c st,T c st->wp X (f c) Q st):wp X (forIn [a:b] c g>>=f) Q st:=by
 refine kJ<|IM ?_ k;rw[Std.Legacy.Range.forIn_eq_forIn_range'];exact Rl l j _ _ _ _ (by simp) h
noncomputable abbrev ar(X:Cs)(l:jQ):Array Keyed:=(l.map X.it).toArray
def mH{l:jQ}{i x:Nat}{f:eS->StateT sL dP β}(e:l[i]?=Y x)(h:wp X (f<|X.it x) Q st):wp X (elem' (ar X l) i>>=f) Q st:=kJ (by rw[elem'_eq,show(ar X l)[i]?=Y (X.it x) by simp[e]];exact iU h)
def Fi{i j:Nat}{f:Option Bool->StateT sL dP β}(hk:kindOf st=X.κ)(k:i<X.N)(l:j<X.N)(h:∀b,X.lt i j=b->wp X (f<|Y b) Q st):wp X (lt' (X.it i) (X.it j)>>=f) Q st:=kJ (by rw[lt'_eq];refine pO ?_;rw[hk];refine IQ λs g=>rM<|oq (X.ask i j k l s g λ_ _=>False) (λb m c=>?_) λe m d=>d.elim;obtain⟨a,rfl⟩:=c;exact⟨a,iU<|h _ rfl⟩)
structure Rp(X:Cs)(q:Array (Nat×Nat×Nat))(L:jQ)(st:sL):Prop where
 a:fW st=ar X L
 k:kindOf st=X.κ
 f:gf st=WF
 q:pendingOf st=q
 p:L.Perm (ap X.N)
def Rp.n{q:Array (Nat×Nat×Nat)}{L:jQ}(R:Rp X q L st){i x:Nat}(e:L[i]?=Y x):x<X.N:=by simpa using R.p.mem_iff.mp<|nL e
def Fj{q:Array (Nat×Nat×Nat)}{L:jQ}(R:Rp X q L st){i j x y:Nat}{f:Option Bool->StateT sL dP β}(c:L[i]?=Y x)(d:L[j]?=Y y)(h:∀b,X.lt x y=b->wp X (f<|Y b) Q st):wp X (ltAt' i j>>=f) Q st:=kJ (by rw[ltAt'_eq];refine pO ?_;rw[R.a];exact mH c<|mH d<|by rw[<-bind_pure (lt' _ _)];exact Fi R.k (R.n c) (R.n d) λb e=>iU<|h b e)
def ad2{α:Type}(T A R:List α){d:Nat}(hd:d=(X0 A) / 2):mirror (T++(A++R)).toArray (X0 T) (X0 T+X0 A) d=(T++(A.reverse++R)).toArray:=by
 have hd:d=(X0 T+X0 A-X0 T) / 2:=by lia
 subst hd;apply Array.ext_getElem?;intro k;rw[getElem?_mirror_all<|by simp];simp;by_cases h1:k<X0 T
 .rw[jo<|by lia,sv h1,sv h1]
 obtain⟨k,rfl⟩:=Nat.exists_eq_add_of_le<|q9 h1;rw[qR (by lia) (l₂:=A.reverse++R),GY];by_cases a:k<X0 A
 .rw[iZ<|by lia,qR<|by lia,sv<|by lia,sv<|by simpa using a,List.getElem?_reverse a]
  congr 1;lia
 rw[jo<|by lia,qR<|by lia,GY,qR<|by lia,qR<|by simpa using a,MH]
def ad9{α:Type}(R:List α)(x:α):∀(A T:List α){i:Nat},i=X0 T+X0 A->bubble (T++(A++x::R)).toArray i (X0 A)=(T++(x::(A++R))).toArray:=by
 intro c
 induction c with
 |nil=>intro T i h;exact I
 |cons a A b=>
  intro T i h;have:=b (T++[a]) (i:=i) (by simp at h ⊢;lia);rw[nJ,bubble_succ,show T++(a::A++x::R)=T++[a]++(A++x::R) by simp,this];have e:i-X0 A=X0 T+1:=by simp at h;lia
  rw[e,m6];simp[Array.swapIfInBounds]
variable {q:Array (Nat×Nat×Nat)}{T A R:jQ}{i j x:Nat}
def Ni{b:Cg}{L a:jQ}(S:Rp X q L st)(e:b=ar X a)(p:a.Perm L):Rp X q a (setArr st b):=⟨e,S.k,S.f,S.q,p.trans S.p⟩
def Hs{f:Unit->StateT sL dP β}(S:Rp X q (T++(A++R)) st)(c:i=X0 T)(e:j=X0 T+X0 A)(h:∀b,Rp X q (T++(A.reverse++R)) b->wp X (f ()) Q b):wp X (Ms i j>>=f) Q st:=by rw[reverseSlice'_eq];subst c e;refine vF<|h _ (Ni S ?_<|((zT A).append_right R).append_left T);have:=ad2 (T.map X.it) (A.map X.it) (R.map X.it) (d:=(X0 T+X0 A-X0 T) / 2) (by simp);simpa[ar,S.a]using this
def Vg{f:Unit->StateT sL dP β}(S:Rp X q (T++(A++x::R)) st)(c:i=X0 T+X0 A)(d:j=X0 T)(h:∀b,Rp X q (T++(x::(A++R))) b->wp X (f ()) Q b):wp X (moveDown' i j>>=f) Q st:=by rw[moveDown'_eq];subst c d;refine vF<|h _ (Ni S ?_<|Q7.symm.append_left T);have:=ad9 (R.map X.it) (X.it x) (A.map X.it) (T.map X.it) (i:=X0 T+X0 A) (by simp);simpa[ar,S.a]using this
end
abbrev Cs.le(X:Cs)(i j:Nat):Prop:=X.lt j i=U
section
variable {X:Cs}{o:Type}{Q:o->sL->Prop}{st:sL}{q:Array (Nat×Nat×Nat)}{T A B D R L:jQ}{i j x y:Nat}{r:Nat->Nat->Prop}
def LG(h:i=X0 T+X0 A):(T++(A++x::R))[i]?=Y x:=by subst h;simp
def ix1(h:i=X0 T+X0 A+1):(T++(A++x::y::R))[i]?=Y y:=by subst h;rw[<-pM,qR<|by simp];simp
def Fy(u:D.Pairwise r)(h:∀z∈D,r z y):(D++[y]).Pairwise r:=ui.mpr ⟨u,MF _ _,λa c b d=>Kp.mp d▸h a c⟩
def F3(e:∀{a b c},r a b->r b c->r a c)(u:(D++[x]).Pairwise r)(h:r x y):∀z∈D++[x],r z y:=λz d=>by
 rcases qX.mp d with d|d
 .exact e ((ui.mp u).2.2 z d x la) h
 rw[Kp.mp d];exact h
def Nm{g:Nat->Option (Option Nat)×Nat->StateT sL dP (ForInStep<|Option (Option Nat)×Nat)}{f:Option (Option Nat)×Nat->StateT sL dP o}{lo n m:Nat}
  (p:∀i n,g i (J,n)=(ltAt' (lo+n) (lo+n-1)>>=λx=>match x with|some b=>if b=C then pure (.done (J,n))else pure (.yield (J,n+1))|_=>pure<|.done (Y J,n)))
  (S:Rp X q (T++(A++x::R)) st)(v:(X0 T)=lo)(t:n=X0 A+1)(a:m=n+R.length)(u:(A++[x]).Pairwise X.le)
  (h:∀A x R,Rp X q (T++(A++x::R)) st->m=X0 A+1+R.length->(A++[x]).Pairwise X.le->(∀y l,R=y::l->X.lt y x=C)->wp X (f (J,X0 A+1)) Q st):wp X (forIn [n:m] (J,n) g>>=f) Q st:=by
 refine mY (λi c s=>s=st/\c=(J,i)/\∃A x R,Rp X q (T++(A++x::R)) st/\i=X0 A+1/\m=i+R.length/\(A++[x]).Pairwise X.le)
  (λc s=>s=st/\∃A x R,Rp X q (T++(A++x::R)) st/\c=(J,X0 A+1)/\m=X0 A+1+R.length/\(A++[x]).Pairwise X.le/\∀y l,R=y::l->X.lt y x=C) ⟨rfl,rfl,A,x,R,S,t,a,u⟩ ?_ ?_ ?_
 .rintro i c s d ⟨rfl,rfl,A,x,R,S,rfl,h1,u⟩;rw[p];obtain⟨y,l,rfl⟩:=tj (l:=R) (by lia);refine Fj S (ix1<|by lia) (LG<|by lia) λb e=>?_
  cases b
  .exact iU ⟨rfl,rfl,A++[x],y,l,by simpa using S,by simp,by simp at h1;lia,Fy u<|F3 X.tr u e⟩
  exact iU ⟨rfl,A,x,_,S,rfl,h1,u,λ_ _ k=>by cases k;exact e⟩
 .rintro c s ⟨rfl,rfl,A,x,R,S,d,h1,u⟩;exact⟨rfl,A,x,R,S,by rw[d],by lia,u,λy l e=>by subst e;simp at h1;lia⟩
 rintro c s ⟨rfl,A,x,R,S,rfl,a,u,e⟩;exact h A x R S a u e
def Nj{c:Prop}[Decidable c]{k:StateT sL dP o}(S:Rp X q (T++(A++R)) st)(e:i=X0 T)(f:j=X0 T+X0 A)(d: ¬c->X0 A=1)(h:∀b,Rp X q (T++(A.reverse++R)) b->wp X k Q b):wp X (if c then Ms i j>>=λ_=>k else k) Q st:=jG (λ_=>Hs S e f h) λz=>h _ (by obtain⟨a,rfl⟩:=List.length_eq_one_iff.mp<|d z;exact S)
def dnT(d:(A++B).Pairwise λa b=>X.le b a)(u:B.Pairwise X.le):(A++B.reverse).Pairwise λa b=>X.le b a:=by rw[ui]at d ⊢;exact⟨d.1,Hq.mpr u,λa c b e=>d.2.2 a c b<|dM.mp e⟩
def Cs.rf(X:Cs)(i:Nat):X.le i i:=na.mpr λh=>n5<|h.symm.trans<|X.as i i h
def Ug{k m:StateT sL dP o}(P:sL->Prop)(b:(∀a,P a->wp X k Q a)->wp X m Q st)(hk:∀a,P a->wp X k Q a):wp X m Q st:=b hk
def agr{lo m:Nat}{Q:Option Nat->sL->Prop}(S:Rp X q (T++x::R) st)(p:(X0 T)=lo)(f:m=1+R.length)(h:∀A R g,Rp X q (T++(A++R)) g->A≠[]->A.Pairwise X.le->m=X0 A+R.length->Q (Y<|X0 A) g):wp X (countRun' lo m) Q st:=by
 have fin:∀A x R g,Rp X q (T++(A++x::R)) g->m=X0 A+1+R.length->(A++[x]).Pairwise X.le->Q (Y<|X0 A+1) g:=λA x R g S f u=>by simpa using h (A++[x]) R g (by simpa using S) (by simp) u (by simpa using f)
 have ge:∀{a b c},X.le b a->X.le c b->X.le c a:=λh1 t=>X.tr t h1;rw[countRun'_eq];dsimp only;refine Nm (λ_ _=>rfl) (A:=[]) S p I f (by simp) λA x R S f u O=>?_;refine jG (λ_=>iU<|fin A x R _ S f u) λM=>?_;obtain⟨y,l,rfl⟩:=tj (l:=R) (by simp at M;lia);apply Ug λg=>Rp X q (T++((A++[x]).reverse++y::l)) g/\∀z∈A++[x],X.le y z
 .intro F;have w:=X.as _ _ (O y l I);refine jG (λh1=>?_) λh1=>F _ ?_
  .obtain⟨a,A,rfl⟩:=tj (l:=A)<|Nat.lt_of_succ_lt_succ h1;refine Fj S (x:=a) (y:=x) (LG (A:=[])<|by simpa using p.symm) (LG<|by simp;lia) λb e=>?_
   cases b
   .refine Hs (A:=a::A++[x]) (by simpa using S) p.symm (by simp;lia) λg n=>F _ ⟨n,λz k=>X.tr (X.tr w e) ?_⟩;rcases nS.mp k with rfl|k
    .exact X.rf _
    exact(Fb.mp u).1 z k
   exact iU<|fin _ x _ _ S f u
  obtain rfl:=zS (l:=A) (by simpa using h1);exact⟨S,by simpa using w⟩
 rintro st ⟨S,d⟩;have t:(X0 A)+2<=m:=by simp at f;lia
 dsimp only
 refine uk (mY (λi c s=>∃N B x R,c=(J,i,X0 B)/\Rp X q (T++(N++(B++x::R))) s/\i=X0 N+X0 B+1/\m=i+R.length/\(N++(B++[x])).Pairwise (λa b=>X.le b a)/\(B++[x]).Pairwise X.le)
  (λc s=>∃N B x R,c=(J,X0 N+X0 B+1,X0 B)/\Rp X q (T++(N++(B++x::R))) s/\m=X0 N+X0 B+1+R.length/\(N++(B++[x])).Pairwise (λa b=>X.le b a)/\(B++[x]).Pairwise X.le) ⟨(A++[x]).reverse,[],y,l,rfl,S,by simp,by simp at f ⊢;lia,?_,by simp⟩ ?_ ?_ ?_)
 .exact Fy (Hq.mpr u) λz k=>d z<|dM.mp k
 .rintro i c s v ⟨N,B,x,R,rfl,S,rfl,f,d,u⟩;obtain⟨y,l,rfl⟩:=tj (l:=R) (by lia);rw[<-pM]at S;refine Fj S (ix1<|by simp;lia) (LG<|by simp;lia) λb e=>?_
  cases b
  .refine Fj S (LG<|by simp;lia) (ix1<|by simp;lia) λb H=>?_
   cases b
   .refine iU ⟨N,B++[x],y,l,by simp,by simpa using S,by simp;lia,by simp at f;lia,?_,Fy u<|F3 X.tr u e⟩;rw[<-pM]at d ⊢;rw[<-pM];exact Fy d<|F3 (r:=λa b=>X.le b a) ge d H
   exact iU ⟨N,B,x,_,rfl,by simpa using S,f,d,u⟩
  refine Nj (T:=T++N) (A:=B++[x]) (by simpa using S) (by simp;lia) (by simp;lia) (λz=>by simp at z ⊢;exact z) λg n=>iU ⟨N++(B++[x]).reverse,[],y,l,rfl,by simpa using n,by simp;lia,by simp at f;lia,Fy (dnT d u) λz k=>?_,by simp⟩;rw[<-pM]at d;exact F3 (r:=λa b=>X.le b a) ge d (X.as _ _ e) z (by simpa[or_comm]using k)
 .rintro c s ⟨N,B,x,R,rfl,S,v,f,d,u⟩;exact⟨N,B,x,R,by rw[v],S,by lia,d,u⟩
 rintro c s ⟨N,B,x,R,rfl,S,f,d,u⟩;refine Nj (T:=T++N) (A:=B++[x]) (by simpa using S) (by simp;lia) (by simp;lia) (λz=>by simp at z ⊢;exact z) λg n=>?_;refine Hs (T:=T) (A:=N++(B++[x]).reverse) (by simpa using n) p.symm (by simp;lia) λg n=>?_;have u:=Hq.mpr<|dnT d u;rcases DI (N++(B++[x]).reverse).reverse with e|⟨E,G,e⟩
 .simp at e
 rw[e,GX]at n u;have k:=oo c3 e;simp at k;exact Nm (λ_ _=>rfl) (A:=E) (x:=G) (R:=R) (by simpa using n) p (by dsimp only;lia) (by dsimp only;lia) u λA x R S f u _=>iU<|fin A x R _ S f u
end
section
variable {X:Cs}{g:Type}{Q:g->sL->Prop}{st:sL}{q:Array (Nat×Nat×Nat)}{T A B D R L:jQ}{i j x y:Nat}{p:Nat->Bool}
abbrev Mo(X:Cs)(p:Nat->Bool):Prop:= ∀a b,X.le a b->p b=C->p a=C
abbrev Lo(p:Nat->Bool)(A:jQ)(a:Nat):Prop:= ∀i,i<a->p (A.getD i 0)=C
abbrev Hi(p:Nat->Bool)(A:jQ)(a:Nat):Prop:= ∀i,a<=i->i<X0 A->p (A.getD i 0)=U
def OS:Mo X λz=>!X.lt x z:=λa b h c=>by simp at c ⊢;exact X.tr h c
def ZK:Mo X λz=>X.lt z x:=λa b h c=>by
 cases e:X.lt a x
 .exact n5<|(X.tr e h).symm.trans c
 exact e
def upD(u:A.Pairwise X.le)(b:i<=j)(h:j<X0 A):X.le (A.getD i 0) (A.getD j 0):=by
 have a:i<(X0 A):=by lia
 simp only[oU,jT h,jT a];rcases m4 b with e|rfl
 .exact QZ.mp u i j a h e
 exact X.rf _
def FX(u:A.Pairwise X.le)(m:Mo X p)(h:i<X0 A)(e:p (A.getD i 0)=C):Lo p A (i+1):=λj a=>m _ _ (upD u (by lia) h) e
def F9(u:A.Pairwise X.le)(m:Mo X p)(e:p (A.getD i 0)=U):Hi p A i:=λj a h=>by
 cases c:p (A.getD j 0)with
 |false=>rfl
 |true=>exact(m _ _ (upD u a h) c).symm.trans e
def JL(h:Lo p A i):∀z∈A.take i,p z=C:=λz a=>by obtain⟨k,hk,rfl⟩:=DH a;have hk:=uX▸hk;have:=h k (by lia);simpa[show k<(X0 A) by lia]using this
def JX(h:Hi p A i):∀z∈A.drop i,p z=U:=λz a=>by obtain⟨k,hk,rfl⟩:=DH a;simp at hk;have:=h (i+k) (by lia) (by lia);simpa[show i+k<(X0 A) by lia]using this
def ixD(a:(X0 T)=j)(h:i<X0 A):(T++(A++R))[j+i]?=Y (A.getD i 0):=by subst a;rw[qR<|by lia,GY,sv h];simp[h]
def aca(u:A.Pairwise X.le)(h1:∀z∈A.take i,(!X.lt y z)=C)(e:∀z∈A.drop i,(!X.lt y z)=U):(A.take i++y::A.drop i).Pairwise X.le:=by
 rw[<-vq i A,ui]at u;refine ui.mpr ⟨u.1,Fb.mpr ⟨λz f=>X.as _ _ (by simpa using e z f),u.2.1⟩,λa d b c=>?_⟩;rcases nS.mp c with rfl|c
 .simpa using h1 a d
 exact u.2.2 a d b c
def Vh{lo n k:Nat}{Q:Bool->sL->Prop}(S:Rp X q (T++(A++R)) st)(G:(X0 T)=lo)(E:(X0 A)=k)(O:0<k)(o:n<=k+R.length)(hk:k<=n)(u:A.Pairwise X.le)
  (h:∀A R w,Rp X q (T++(A++R)) w->X0 A=n->A.Pairwise X.le->Q C w):wp X (binarySort' lo n k) Q st:=by
 rw[binarySort'_eq,show max k 1=k by lia];dsimp only;refine mY (λk c s=>c=(J,())/\∃A R,Rp X q (T++(A++R)) s/\(X0 A)=k/\A.Pairwise X.le/\n<=k+R.length) (λc s=>c=(J,())/\∃A R,Rp X q (T++(A++R)) s/\(X0 A)=n/\A.Pairwise X.le) ⟨rfl,A,R,S,E,u,o⟩ ?_ ?_ ?_
 .rintro k c s m ⟨rfl,A,R,S,rfl,u,o⟩;obtain⟨y,l,rfl⟩:=tj (l:=R) (by lia)
  refine mY (λi c r=>r=s/\∃a b,c=(J,a,b)/\a<=b/\b<=X0 A/\b<=a+(X0 A-i)/\Lo (λz=>!X.lt y z) A a/\Hi (λz=>!X.lt y z) A b)
   (λc r=>r=s/\∃a b,c=(J,a,b)/\a<=X0 A/\Lo (λz=>!X.lt y z) A a/\Hi (λz=>!X.lt y z) A a) ⟨rfl,0,X0 A,rfl,by lia,by lia,by lia,λi h=>by lia,λi h M=>by lia⟩ ?_ ?_ ?_
  .rintro i c _ m ⟨rfl,a,b,rfl,h1,t,v,d,f⟩;dsimp only;refine jG (λe=>iU ⟨rfl,a,b,rfl,by lia,d,(show a=b by lia)▸f⟩) λe=>?_;refine Fj S (LG<|by lia) (ixD G<|by lia) λc e=>?_
   cases c
   .exact iU ⟨rfl,_,b,rfl,by lia,by lia,by lia,FX u OS (by lia)<|by rw[e];rfl,f⟩
   exact iU ⟨rfl,a,_,rfl,by lia,by lia,by lia,d,F9 u OS<|by rw[e];rfl⟩
  .rintro c _ ⟨rfl,a,b,rfl,h1,t,v,d,f⟩;exact⟨rfl,a,b,rfl,by lia,d,(show a=b by lia)▸f⟩
  rintro c _ ⟨rfl,a,b,rfl,h1,t,v⟩;refine Vg (T:=T++A.take a) (A:=A.drop a) (by rw[pM,<-pM (A.take a),vq];exact S) (by simp;lia) (by simp;lia) λr N=>iU ⟨rfl,A.take a++y::A.drop a,l,by simpa using N,by simp;lia,aca u (JL t)<|JX v,by simp at o;lia⟩
 .rintro c s ⟨rfl,A,R,S,m,u,o⟩;exact⟨rfl,A,R,S,by lia,u⟩
 rintro c s ⟨rfl,A,R,S,m,u⟩;exact iU<|h A R s S m u
noncomputable def Ta:Bool->eS->Array eS->Nat->Nat->Nat->StateT sL dP (Option Nat):=sortPriv%PySem.Builtin.gallop
noncomputable def agK:Array eS->Array eS->StateT sL dP (Array eS):=sortPriv%PySem.Builtin.mergeLo
noncomputable def agL:Array eS->Array eS->StateT sL dP (Array eS):=sortPriv%PySem.Builtin.mergeHi
noncomputable def Rx:Nat->StateT sL dP Unit:=sortPriv%PySem.Builtin.setMinGallop
def YQ{k:Nat->Nat->StateT sL dP g}{m:StateT sL dP g}(P:Nat->Nat->Prop)(c:(∀a b,P a b->wp X (k a b) Q st)->wp X m Q st)(hk:∀a b,P a b->wp X (k a b) Q st):wp X m Q st:=c hk
noncomputable abbrev gp(X:Cs)(left:Bool)(x z:Nat):Bool:=if left=C then X.lt z x else !X.lt x z
def D2{left:Bool}{base:Nat}{f:Option Bool->StateT sL dP g}(hk:kindOf st=X.κ)(k:∀z∈A,z<X.N)(c:x<X.N)(l:(X0 T)=base)(a:i<X0 A)(h:∀b,gp X left x (A.getD i 0)=b->wp X (f<|Y b) Q st):
  wp X ((elem' (ar X<|T++(A++R)) (base+i)>>=λz=>if left=C then lt' z (X.it x)else lt' (X.it x) z>>=λr=>pure<|vv (λx=>!x) r)>>=f) Q st:=by
 have d:A.getD i 0<X.N:=k _ (by simp[a]);refine kJ<|mH (ixD l a) ?_
 cases left
 .exact Fi hk c d λb e=>iU<|h (!b)<|oo not e
 rw[iZ I,<-bind_pure (lt' _ _)];exact Fi hk d c λb e=>iU<|h b e
def yi{left:Bool}{base n hint:Nat}{Q:Option Nat->sL->Prop}(hk:kindOf st=X.κ)(t:∀z∈A,z<X.N)(w:x<X.N)(u:A.Pairwise X.le)(G:L=T++(A++R))(v:(X0 T)=base)(H:(X0 A)=n)(C:hint<n)
  (h:∀r,r<=n->(∀z∈A.take r,gp X left x z=WP)->(∀z∈A.drop r,gp X left x z=U)->Q (Y r) st):wp X (Ta left (X.it x) (ar X L) base n hint) Q st:=by
 subst G
 have m:Mo X (gp X left x):=by
  cases left
  .exact OS
  exact ZK
 apply YQ λa b=>a<=b/\b<=n/\Lo (gp X left x) A a/\Hi (gp X left x) A b
 .intro F;refine D2 hk t w v (H▸C) λb e=>?_;refine jG (λz=>?_) λz=>?_
  .subst z
   refine mY (λi c s=>st=s/\∃a b,c=(WF,a,b)/\a<b/\i<b/\hint+a<n/\Lo (gp X left x) A (hint+a+1)) (λc s=>st=s/\∃a b,c=(WF,a,b)/\a<b/\hint+a<n/\Lo (gp X left x) A (hint+a+1)/\(n-hint<=b\/Hi (gp X left x) A (hint+b)))
    ⟨rfl,0,1,rfl,by lia,by lia,C,FX u m (H▸C) e⟩ ?_ ?_ ?_
   .rintro i c _ E ⟨rfl,a,b,rfl,h1,o,l,f⟩;dsimp only;refine jG (λz=>iU ⟨rfl,a,b,rfl,h1,l,f,.inl z⟩) λz=>D2 hk t w v (by lia) λc e=>?_
    cases c
    .exact iU ⟨rfl,a,b,rfl,h1,l,f,.inr<|F9 u m e⟩
    exact iU ⟨rfl,_,_,rfl,by lia,by lia,by lia,FX u m (by lia) e⟩
   .rintro c _ ⟨rfl,a,b,rfl,h1,o,l,f⟩;exact⟨rfl,a,b,rfl,h1,l,f,.inl<|by lia⟩
   rintro c _ ⟨rfl,a,b,rfl,h1,l,f,k⟩;dsimp only;generalize I:hint+a+1=c at*;generalize O:hint+min b (n-hint)=d;refine F c d ⟨by lia,by lia,f,λi J M=>?_⟩;rcases k with k|k
   .lia
   exact k i (by lia) M
  refine mY (λi c s=>st=s/\∃a b,c=(WF,a,b)/\a<b/\i<b/\a<=hint/\Hi (gp X left x) A (hint-a)) (λc s=>st=s/\∃a b,c=(WF,a,b)/\a<b/\a<=hint/\Hi (gp X left x) A (hint-a)/\(hint<b\/Lo (gp X left x) A (hint-b+1)))
   ⟨rfl,0,1,rfl,by lia,by lia,by lia,F9 u m<|by simpa[z]using e⟩ ?_ ?_ ?_
  .rintro i c _ E ⟨rfl,a,b,rfl,h1,o,l,f⟩;dsimp only;refine jG (λz=>iU ⟨rfl,a,b,rfl,h1,l,f,.inl z⟩) λz=>D2 hk t w v (by lia) λc e=>?_
   cases c
   .exact iU ⟨rfl,_,_,rfl,by lia,by lia,by lia,F9 u m e⟩
   exact iU ⟨rfl,a,b,rfl,h1,l,f,.inr<|FX u m (by lia) e⟩
  .rintro c _ ⟨rfl,a,b,rfl,h1,o,l,f⟩;exact⟨rfl,a,b,rfl,h1,l,f,.inl<|by lia⟩
  rintro c _ ⟨rfl,a,b,rfl,h1,l,f,k⟩;dsimp only;generalize O:hint-a=d at*;generalize I:hint+1-min b (hint+1)=c;refine F c d ⟨by lia,by lia,λi J=>?_,f⟩;rcases k with k|k
  .lia
  exact k i (by lia)
 rintro a b ⟨h1,o,l,f⟩;refine mY (λi c s=>st=s/\∃a b,c=(WF,a,b)/\a<=b/\b<=n/\b<=a+(n-i)/\Lo (gp X left x) A a/\Hi (gp X left x) A b) (λc s=>st=s/\∃a,c=(WF,a,a)/\a<=n/\Lo (gp X left x) A a/\Hi (gp X left x) A a) ⟨rfl,a,b,rfl,h1,o,by lia,l,f⟩ ?_ ?_ ?_
 .rintro i c _ E ⟨rfl,a,b,rfl,h1,o,l,f,k⟩;refine jG (λz=>?_) λz=>D2 hk t w v (by dsimp only at z ⊢;lia) λc e=>?_
  .have:a=b:=by dsimp only at z;lia
   subst this;exact iU ⟨rfl,a,rfl,o,f,k⟩
  dsimp only at z
  cases c
  .exact iU ⟨rfl,a,_,rfl,by dsimp only;lia,by dsimp only;lia,by dsimp only;lia,f,F9 u m e⟩
  exact iU ⟨rfl,_,b,rfl,by dsimp only;lia,o,by dsimp only;lia,FX u m (by dsimp only;lia) e,k⟩
 .rintro c _ ⟨rfl,a,b,rfl,h1,o,l,f,k⟩;have:a=b:=by lia
  subst this;exact⟨rfl,a,rfl,o,f,k⟩
 rintro c _ ⟨rfl,a,rfl,o,f,k⟩;exact iU<|h a o (JL f)<|JX k
end
section
variable {X:Cs}{β:Type}{Q:β->sL->Prop}{st:sL}{pq:Array (Nat×Nat×Nat)}{q r L Z a b o k:jQ}{i j x y:Nat}{le:Nat->Nat->Prop}{out:Cg}
structure MG(le:Nat->Nat->Prop)(Z a b o:jQ):Prop where
 s:o.Pairwise le
 c:∀x∈o,∀y∈a++b,le x y
 p:(o++(a++b)).Perm Z
 ua:a.Pairwise le
 ub:b.Pairwise le
def MG.put(m:MG le Z (k++a) b o)(h:∀x∈k,∀y∈b,le x y):MG le Z a b (o++k):=by
 have f:=ui.mp m.ua;refine⟨ui.mpr ⟨m.s,f.1,λx e y d=>m.c x e y<|by simp[d]⟩,λx e y d=>?_,by simpa using m.p,f.2.1,m.ub⟩;rcases qX.mp e with e|e
 .refine m.c x e y ?_;simp at d ⊢;exact .inr d
 rcases qX.mp d with d|d
 .exact f.2.2 x e y d
 exact h x e y d
def Mg(X:Cs)(le:Nat->Nat->Prop)(Z a b:jQ)(out:Cg):Prop:= ∃o,out=ar X o/\MG le Z a b o
def Rs(X:Cs)(Z:jQ)(out:Cg):Prop:= ∃o,out=ar X o/\o.Pairwise X.le/\o.Perm Z
def Mg.sw(m:Mg X le Z a b out):Mg X le Z b a out:=by obtain⟨o,e,m⟩:=m;exact⟨o,e,m.s,λx d y f=>m.c x d y<|by simpa[or_comm]using f,(Ub.append_left o).trans m.p,m.ub,m.ua⟩
def Mg.put(m:Mg X le Z a b out){a':jQ}{c:Cg}(e:a=k++a')(h:∀x∈k,∀y∈b,le x y)(d:c=out++ar X k):Mg X le Z a' b c:=by obtain⟨o,rfl,m⟩:=m;exact⟨o++k,by simpa[ar]using d,(e▸m).put h⟩
def Mg.a1(m:Mg X le Z (q.drop i) b out)(c:i<X0 q)(h:∀y∈b,le q[i] y):Mg X le Z (q.drop<|i+1) b (out.push<|X.it q[i]):=m.put (k:=[q[i]]) (zZ c) (by simpa using h) (by simp[ar])
def Mg.ak(m:Mg X le Z (q.drop i) b out)(h:∀x∈(q.drop i).take j,∀y∈b,le x y):Mg X le Z (q.drop<|i+j) b (out++(ar X q).extract i (i+j)):=m.put (by rw[<-List.drop_drop,vq]) h (by simp[ar])
def Mg.fin(m:Mg X X.le Z (q.drop i) (r.drop j) out)(h:∀x∈q.drop i,∀y∈r.drop j,X.le x y):Rs X Z (out++(ar X q).extract i (ar X q).size++(ar X r).extract j (ar X r).size):=by obtain⟨o,e,m⟩:=((m.put (k:=q.drop i) (a':=[]) (by simp) h I).sw).put (k:=r.drop j) (a':=[]) (by simp) (by simp) I;exact⟨o,by rw[<-e];simp[ar,ek],m.s,by simpa using m.p⟩
def Mg.end(m:Mg X X.le Z (q.drop i) (r.drop j) out)(h:(X0 q)<=i\/(X0 r)<=j):Rs X Z (out++(ar X q).extract i (ar X q).size++(ar X r).extract j (ar X r).size):=m.fin λx c y d=>by
 rcases h with h|h
 .rw[zY h]at c;cases c
 rw[zY h]at d;cases d
def Mg.hd(m:Mg X le Z (q.drop i) b out)(f:∀{a b c},le a b->le b c->le a c)(e:i<X0 q)(h:le x q[i]):∀y∈q.drop i,le x y:=λy d=>by
 obtain⟨o,_,m⟩:=m;have:=m.ua;rw[zZ e]at this d;rcases nS.mp d with rfl|d
 .exact h
 exact f h ((Fb.mp this).1 y d)
def Lq{P:d->Prop}{f:α->β->d}{T:α->β->Prop}{c:d}(x:∃a b,c=f a b/\T a b)(h:∀a b,T a b->P (f a b)):P c:=by obtain⟨_,_,rfl,i⟩:=x;exact h _ _ i
def eX4{P:g->Prop}{f:α->β->l->m->g}{T:α->β->l->m->Prop}{c:g}(x:∃a b d e,c=f a b d e/\T a b d e)(h:∀a b c d,T a b c d->P (f a b c d)):P c:=by obtain⟨_,_,_,_,rfl,i⟩:=x;exact h _ _ _ _ i
def OT{P:l->Prop}{f:α->β->m->n->ζ->l}{T:α->β->m->n->ζ->Prop}{c:l}(x:∃a b d e g,c=f a b d e g/\T a b d e g)(h:∀a b c d e,T a b c d e->P (f a b c d e)):P c:=by obtain⟨_,_,_,_,_,rfl,i⟩:=x;exact h _ _ _ _ _ i
def OR{P:l->Prop}{f:α->β->m->n->ζ->η->l}{T:α->β->m->n->ζ->η->Prop}{c:l}(x:∃a b d e g k,c=f a b d e g k/\T a b d e g k)(h:∀a b c d e g,T a b c d e g->P (f a b c d e g)):P c:=by obtain⟨_,_,_,_,_,_,rfl,i⟩:=x;exact h _ _ _ _ _ _ i
def Lu{a b c d e P:Prop}(h:a->b->c->d->e->P)(x:a/\b/\c/\d/\e):P:=h x.1 x.2.1 x.2.2.1 x.2.2.2.1 x.2.2.2.2
def D1{f:Unit->StateT sL dP β}{n:Nat}(S:Rp X pq L st)(h:∀c,Rp X pq L c->wp X (f ()) Q c):wp X (Rx n>>=f) Q st:=vF (g:=λs=>SortSt.mk' (kindOf s) (fW s) (pendingOf s) n<|gf s)<|h _ ⟨S.a,S.k,S.f,S.q,S.p⟩
def IS{e:Type}{k:e->Nat->StateT sL dP β}{m:StateT sL dP β}(P:e->Nat->sL->Prop)(f:(∀c n d,P c n d->wp X (k c n) Q d)->wp X m Q st)(hk:∀c n d,P c n d->wp X (k c n) Q d):wp X m Q st:=f hk
def Nk{k:Nat->StateT sL dP β}{m:StateT sL dP β}(P:Nat->sL->Prop)(d:(∀n c,P n c->wp X (k n) Q c)->wp X m Q st)(hk:∀n c,P n c->wp X (k n) Q c):wp X m Q st:=d hk
def YO{Q:Array eS->sL->Prop}(S:Rp X pq L st)(u1:q.Pairwise X.le)(u2:r.Pairwise X.le)(J:∀z∈q,z<X.N)(M:∀z∈r,z<X.N)(h1:0<X0 q)(h2:0<X0 r)(hd:∀y∈q,X.le r[0] y)(top:∀x∈r,X.le x q[X0 q-1])
  (h:∀out s,Rp X pq L s->Rs X (q++r) out->Q out s):wp X (agK (ar X q)<|ar X r) Q st:=by
 have sq:(ar X q).size=(X0 q):=by simp
 have sr:(ar X r).size=(X0 r):=by simp
 have K:Mg X X.le (q++r) (q.drop 0) (r.drop 1) #[X.it r[0]]:=Mg.sw<|Mg.a1 (q:=r) (i:=0) (out:= #[]) ⟨[],rfl,.nil,by simp,by simpa using Ub,by simpa using u2,by simpa using u1⟩ h2 hd
 have last:∀{out i j},Mg X X.le (q++r) (q.drop i) (r.drop j) out->i+1=X0 q->Rs X (q++r) (out++(ar X r).extract j (ar X r).size++(ar X q).extract i (ar X q).size):=λ{_ i j} m e=>m.sw.fin λx H y w=>by
  have hi:i<(X0 q):=by lia
  rw[zZ hi,zY<|by lia,Kp]at w;have:=top x<|DG H;simpa only[w,<-e,m6]using this
 refine uk<|mH (x:=r[0]) (by simp) ?_;refine jG (λe=>iU<|h _ _ S (K.end<|.inr<|by simp at e;lia)) λe=>jG (λp=>iU<|h _ _ S (last K<|by simpa using p)) λp=>pO ?_
 let I:=λ(c:Nat) out d f s=>Rp X pq L s/\Mg X X.le (q++r) (q.drop d) (r.drop f) out/\d+1<X0 q/\f<X0 r/\c<=d+f
 refine mY (λi c s=>∃out d f B,c=(WF,out,d,f,B)/\I (i+1) out d f s) (λc s=>∃out t,c=(Wp out,t)/\Rp X pq L s/\Rs X (q++r) out) ⟨_,0,1,_,rfl,S,K,by simp at p;lia,by simp at e;lia,by lia⟩ ?_ ?_ ?_
 .intro i c s _ h;apply eX4 h;clear h;intro out d f B D;refine mY (λj c s=>∃out d f ac v,c=(WF,out,d,f,ac,v)/\I (i+1+j) out d f s) (λc s=>(∃out t,c=(Wp out,t)/\Rp X pq L s/\Rs X (q++r) out)\/∃out d f ac v,c=(WF,out,d,f,ac,v)/\I (i+1) out d f s) ⟨_,_,_,_,_,rfl,D⟩ ?_ ?_ ?_
  .intro j c s _ h;apply OT h;clear h;refine λout d f ac v=>Lu λS m C n E=>?_;dsimp only;refine mH (x:=r[f]) (by simp) (mH (x:=q[d]) (by simp)<|Fi S.k (M _ (by simp)) (J _ (by simp)) λb e=>?_)
   cases b
   .have l:=m.a1 (by lia)<|m.sw.hd X.tr n e;exact mH (x:=q[d]) (by simp)<|jG (λe=>iU<|.inl ⟨_,_,rfl,S,last l<|by simpa using e⟩) λe=>jG (λ_=>iU<|.inr ⟨_,_,_,_,_,rfl,S,l,by simp at e;lia,n,by lia⟩) λ_=>iU ⟨_,_,_,_,_,rfl,S,l,by simp at e;lia,n,by lia⟩
   have l:=(m.sw.a1 n<|m.hd X.tr (by lia)<|X.as _ _ e).sw;exact mH (x:=r[f]) (by simp)<|jG (λe=>iU<|.inl ⟨_,_,rfl,S,l.end<|.inr<|by simp at e;lia⟩) λe=>jG (λ_=>iU<|.inr ⟨_,_,_,_,_,rfl,S,l,C,by simp at e;lia,by lia⟩) λ_=>iU ⟨_,_,_,_,_,rfl,S,l,C,by simp at e;lia,by lia⟩
  .refine λc s h=>aW ?_;obtain⟨_,d,f,_,_,_,S,m,C,n,E⟩:=h;lia
  intro c s z;refine z.elim (λh=>?_) λh=>?_
  .apply Lq h;exact λout _ U=>iU ⟨out,_,rfl,U⟩
  apply OT h;clear h z;refine λout d f ac v D=>uk<|mY (λj c s=>∃out d f B ac v,c=(WF,out,d,f,B,ac,v)/\I (i+1+j) out d f s) (λc s=>(∃out t,c=(Wp out,t)/\Rp X pq L s/\Rs X (q++r) out)\/∃out d f B ac v,c=(WF,out,d,f,B,ac,v)/\I (i+2) out d f s) ⟨_,_,_,_,_,_,rfl,D⟩ ?_ ?_ ?_
  .intro j c s _ h;apply OR h;clear h;refine λout d f B ac v=>Lu λS m C n E=>?_;dsimp only;apply Nk λ_ s=>Rp X pq L s
   .intro F;refine jG (λ_=>?_) λ_=>?_
    .generalize B-1=g;exact F g s S
    exact F B s S
   intro g s S;refine D1 S λs S=>mH (x:=r[f]) (by simp)<|kJ<|yi (T:=q.take d) (A:=q.drop d) (R:=[]) S.k (λz Y=>J z<|DG Y) (M _ (by simp)) (u1.sublist<|GW _ _) (by simp) (by simp;lia) (by simp) (by simp;lia) λk _ P V=>?_;dsimp only;apply IS λout d s=>Rp X pq L s/\Mg X X.le (q++r) (q.drop d) (r.drop f) out/\d+1<X0 q/\i+1+j<=d+f/\∀y∈q.drop d,X.le r[f] y
   .intro F;have mk:=m.ak (j:=k) λx H y w=>m.sw.hd (x:=x) X.tr n (by simpa using P x H) y w;have u:∀y∈q.drop (d+k),X.le r[f] y:=λy w=>X.as _ _ (by simpa using V y<|by simpa using w);refine jG (λe=>?_) λe=>?_
    .refine jG (λG=>iU<|.inl ⟨_,_,rfl,S,last mk<|by simpa using G⟩) λG=>jG (λp=>iU<|.inl ⟨_,_,rfl,S,mk.end<|.inl<|by simp at p;lia⟩) λp=>?_;generalize out++(ar X q).extract d (d+k)=out at mk ⊢;generalize W:d+k=ic at mk u G p ⊢;exact F out ic s ⟨S,mk,by simp at G p;lia,by lia,u⟩
    rw[show k=0 by lia]at u;exact F out d s ⟨S,m,C,E,u⟩
   refine λout d s=>Lu λS m C E u=>?_;have l:=(m.sw.a1 n u).sw;refine mH (x:=r[f]) (by simp)<|jG (λe=>iU<|.inl ⟨_,_,rfl,S,l.end<|.inr<|by simp at e;lia⟩) λe=>mH (x:=q[d]) (by simp)<|kJ<|yi (T:=r.take<|f+1) (A:=r.drop<|f+1) (R:=[]) S.k (λz Y=>M z<|DG Y) (J _ (by simp)) (u2.sublist<|GW _ _) (by simp) (by simp;lia) (by simp) (by simp at e ⊢;lia) λO _ P V=>?_;dsimp only;apply IS λout f s=>Rp X pq L s/\Mg X X.le (q++r) (q.drop d) (r.drop f) out/\f<X0 r/\i+1+j<d+f/\∀y∈r.drop f,X.le q[d] y
   .intro F;have mk:=(l.sw.ak (j:=O) λx H y w=>l.hd X.tr (by lia) (X.as _ _ (P x H)) y w).sw;have u:∀y∈r.drop (f+1+O),X.le q[d] y:=λy w=>V y (by simpa using w);refine jG (λ_=>?_) λe3=>?_
    .refine jG (λp=>iU<|.inl ⟨_,_,rfl,S,mk.end<|.inr<|by simp at p;lia⟩) λp=>?_;generalize out.push (X.it r[f])++(ar X r).extract (f+1) (f+1+O)=out at mk ⊢;generalize W:f+1+O=ic at mk u p ⊢;exact F out ic s ⟨S,mk,by simp at p;lia,by lia,u⟩
    rw[show O=0 by lia]at u;exact F _ _ s ⟨S,l,by simp at e;lia,by lia,u⟩
   refine λout f s=>Lu λS m n E u=>?_;have l:=m.a1 (by lia) u;exact mH (x:=q[d]) (by simp)<|jG (λe=>iU<|.inl ⟨_,_,rfl,S,last l<|by simpa using e⟩) λe=>jG (λ_=>iU<|.inr ⟨_,_,_,_,_,_,rfl,S,l,by simp at e;lia,n,by lia⟩) λ_=>iU ⟨_,_,_,_,_,_,rfl,S,l,by simp at e;lia,n,by lia⟩
  .refine λc s h=>aW ?_;obtain⟨_,d,f,_,_,_,_,S,m,C,n,E⟩:=h;lia
  intro c s z;refine z.elim (λh=>?_) λh=>?_
  .apply Lq h;exact λout _ U=>iU ⟨out,_,rfl,U⟩
  apply OR h;clear h z;exact λ_ _ _ _ _ _ h=>D1 h.1 λs S=>iU ⟨_,_,_,_,rfl,S,h.2⟩
 .refine λc s h=>aW ?_;obtain⟨_,d,f,_,_,S,m,C,n,E⟩:=h;lia
 intro c s x;apply Lq x;exact λ_ _ m=>iU<|h _ _ m.1 m.2
end
section
variable {X:Cs}{u:Type}{Q:u->sL->Prop}{st:sL}{l:Array (Nat×Nat×Nat)}{q r L Z a b o k:jQ}{i j x y n:Nat}{out:Cg}
theorem ss1(n:Nat):n+1-1=n:=rfl
abbrev Cs.ge(X:Cs)(i j:Nat):Prop:=X.le j i
def Mg.h1(m:Mg X X.ge Z (q.take<|n+1).reverse b out)(c:n<X0 q)(h:∀y∈b,X.le y q[n]):Mg X X.ge Z (q.take n).reverse b (out.push<|X.it q[n]):=m.put (k:=[q[n]]) (by rw[DF];simp[c]) (by simpa using h) (by simp[ar])
def Mg.hk(m:Mg X X.ge Z (q.take n).reverse b out)(c:i<=n)(h:∀x∈(q.take n).drop i,∀y∈b,X.le y x):Mg X X.ge Z (q.take i).reverse b (out++((ar X q).extract i n).reverse):=m.put (k:=((q.take n).drop i).reverse) (by rw[<-List.reverse_append,<-ez c,<-gg,ez c,vq]) (by simpa using h) (by simp[ar,List.extract_eq_drop_take'])
def Mg.NV(m:Mg X X.ge Z (q.take i).reverse (r.take j).reverse out)(h:∀x∈q.take i,∀y∈r.take j,X.le x y):Rs X Z ((ar X q).extract 0 i++(ar X r).extract 0 j++out.reverse):=by obtain⟨o,e,m⟩:=(m.sw.put (k:=(r.take j).reverse) (a':=[]) (by simp) (by simpa using λx c y d=>h y d x c) I).sw.put (k:=(q.take i).reverse) (a':=[]) (by simp) (by simp) I;refine⟨o.reverse,?_,Hq.mpr m.s,(zT o).trans<|by simpa using m.p⟩;have:=oo Array.reverse e;simpa[ar,List.extract_eq_take_drop]using this
def Mg.Ks(m:Mg X X.ge Z (q.take i).reverse (r.take j).reverse out)(h:i=0\/j=0):Rs X Z ((ar X q).extract 0 i++(ar X r).extract 0 j++out.reverse):=m.NV λx c y d=>by
 rcases h with rfl|rfl
 .cases c
 cases d
def Mg.ON(m:Mg X X.ge Z (q.take<|n+1).reverse b out)(d:n<X0 q)(h:X.le q[n] x):∀y∈(q.take<|n+1).reverse,X.le y x:=λy c=>by
 obtain⟨o,_,m⟩:=m;have:=m.ua;rw[show(q.take<|n+1).reverse=q[n]::(q.take n).reverse by rw[DF];simp[d]]at this c;rcases nS.mp c with rfl|c
 .exact h
 exact X.tr ((Fb.mp this).1 y c) h
def aX7{a b c d e f g P:Prop}(h:a->b->c->d->e->f->g->P)(x:a/\b/\c/\d/\e/\f/\g):P:=Lu (λa b c d e=>h a b c d e.1 e.2.1 e.2.2) x
def aX6{a b c d e f P:Prop}(h:a->b->c->d->e->f->P)(x:a/\b/\c/\d/\e/\f):P:=Lu (λa b c d e=>h a b c d e.1 e.2) x
def YR{Q:Array eS->sL->Prop}(S:Rp X l L st)(u1:q.Pairwise X.le)(u2:r.Pairwise X.le)(hq:∀z∈q,z<X.N)(hr:∀z∈r,z<X.N)(h1:0<X0 q)(h2:0<X0 r)(hd:∀y∈q,X.le r[0] y)(top:∀x∈r,X.le x q[X0 q-1])
  (h:∀out s,Rp X l L s->Rs X (q++r) out->Q out s):wp X (agL (ar X q)<|ar X r) Q st:=by
 have sq:(ar X q).size=(X0 q):=by simp
 have sr:(ar X r).size=(X0 r):=by simp
 have V:Mg X X.ge (q++r) (q.take<|X0 q-1).reverse (r.take<|X0 r).reverse #[X.it q[X0 q-1]]:=Mg.h1 (out:= #[]) ⟨[],rfl,.nil,by simp,by simpa[mN h1]using(zT q).append (zT r),by simpa[mN h1,Hq]using u1,by simpa[Hq]using u2⟩ (by lia) (by simpa using top)
 have last:∀{out i},Mg X X.ge (q++r) (q.take i).reverse (r.take 1).reverse out->Rs X (q++r) ((ar X r).extract 0 1++(ar X q).extract 0 i++out.reverse):=λm=>m.sw.NV λx D y Y=>by obtain⟨b,r,rfl⟩:=tj h2;simp at D;subst D;exact hd y<|xS Y
 refine uk<|mH (x:=q[X0 q-1]) (by simp) ?_;rw[sq,sr];refine jG (λe=>iU<|h _ _ S (V.Ks<|.inl<|by simpa using e)) λe=>jG (λB=>iU<|h _ _ S ?_) λB=>pO ?_
 .have B:(X0 r)=1:=by simpa using B
  rw[B]at V ⊢;exact last V
 let I:=λ(c:Nat) out d f s=>Rp X l L s/\Mg X X.ge (q++r) (q.take d).reverse (r.take f).reverse out/\0<d/\d<=X0 q/\1<f/\f<=X0 r/\c+d+f<=X0 q+X0 r
 refine mY (λi c s=>∃d f out O,c=(WF,d,f,out,O)/\I (i+1) out d f s) (λc s=>∃out t,c=(Wp out,t)/\Rp X l L s/\Rs X (q++r) out) ⟨_,_,_,_,rfl,S,V,by simp at e;lia,by lia,by simp at B;lia,by lia,by lia⟩ ?_ ?_ ?_
 .intro i c s _ h;apply eX4 h;clear h;intro d f out O i0;refine mY (λj c s=>∃d f out ac w,c=(WF,d,f,out,ac,w)/\I (i+1+j) out d f s) (λc s=>(∃out t,c=(Wp out,t)/\Rp X l L s/\Rs X (q++r) out)\/∃d f out ac w,c=(WF,d,f,out,ac,w)/\I (i+1) out d f s) ⟨_,_,_,_,_,rfl,i0⟩ ?_ ?_ ?_
  .intro j c s _ h;apply OT h;clear h;refine λd f out ac w=>aX7 λS m G J C E M=>?_;obtain⟨n,rfl⟩:∃n,d=n+1:=⟨d-1,by lia⟩
   obtain⟨p,rfl⟩:∃n,f=n+1:=⟨f-1,by lia⟩
   dsimp only[ss1];refine mH (x:=r[p]) (by simp)<|mH (x:=q[n]) (by simp)<|Fi S.k (hr _ (by simp)) (hq _ (by simp)) λb e=>?_
   cases b
   .have v:=(m.sw.h1 (by lia)<|m.ON (by lia) e).sw;refine mH (x:=r[p]) (by simp)<|jG (λe=>?_) λe=>jG (λ_=>iU<|.inr ⟨_,_,_,_,_,rfl,S,v,G,J,by simp at e;lia,by lia,by lia⟩) λ_=>iU ⟨_,_,_,_,_,rfl,S,v,G,J,by simp at e;lia,by lia,by lia⟩;obtain rfl:p=1:=by simpa using e
    exact iU<|.inl ⟨_,_,rfl,S,last v⟩
   have v:=m.h1 (by lia)<|m.sw.ON (by lia)<|X.as _ _ e;exact mH (x:=q[n]) (by simp)<|jG (λe=>iU<|.inl ⟨_,_,rfl,S,v.Ks<|.inl<|by simpa using e⟩) λe=>jG (λ_=>iU<|.inr ⟨_,_,_,_,_,rfl,S,v,by simp at e;lia,by lia,C,E,by lia⟩) λ_=>iU ⟨_,_,_,_,_,rfl,S,v,by simp at e;lia,by lia,C,E,by lia⟩
  .refine λc s h=>aW ?_;obtain⟨_,_,_,_,_,_,S,m,G,J,C,E,M⟩:=h;lia
  intro c s z;refine z.elim (λh=>?_) λh=>?_
  .apply Lq h;exact λout _ hs=>iU ⟨out,_,rfl,hs⟩
  apply OT h;clear h z;refine λd f out ac w i0=>uk<|mY (λj c s=>∃d f out O ac w,c=(WF,d,f,out,O,ac,w)/\I (i+1+j) out d f s) (λc s=>(∃out t,c=(Wp out,t)/\Rp X l L s/\Rs X (q++r) out)\/∃d f out O ac w,c=(WF,d,f,out,O,ac,w)/\I (i+2) out d f s) ⟨_,_,_,_,_,_,rfl,i0⟩ ?_ ?_ ?_
  .intro j c s _ h;apply OR h;clear h;refine λd f out O ac w=>aX7 λS m G J C E M=>?_;obtain⟨p,rfl⟩:∃n,f=n+1:=⟨f-1,by lia⟩
   dsimp only[ss1];apply Nk λ_ s=>Rp X l L s
   .intro F;refine jG (λ_=>?_) λ_=>?_
    .generalize O-1=g;exact F g s S
    exact F O s S
   intro g s S;refine D1 S λs S=>mH (x:=r[p]) (by simp)<|kJ<|yi (T:=[]) (A:=q.take d) (R:=q.drop d) S.k (λz hz=>hq z<|xS hz) (hr _ (by simp)) (u1.sublist<|yf _ _) (by simp) XV (by simp;lia) (by lia) λk hk t1 t2=>?_;dsimp only;apply IS λout d s=>Rp X l L s/\Mg X X.ge (q++r) (q.take d).reverse (r.take<|p+1).reverse out/\0<d/\d<=X0 q/\i+1+j+d+p<X0 q+X0 r/\∀y∈q.take d,X.le y r[p]
   .intro F;have mk:=m.hk hk λx D y Y=>m.sw.ON (x:=x) (by lia) (X.as _ _ (by simpa using t2 x D)) y Y;have U:∀y∈q.take k,X.le y r[p]:=λy Y=>by simpa using t1 y (by rwa [gg,ez hk])
    refine jG (λe=>?_) λe=>?_
    .refine jG (λH=>iU<|.inl ⟨_,_,rfl,S,mk.Ks<|.inl<|by simpa using H⟩) λH=>?_;generalize out++((ar X q).extract k d).reverse=out at mk ⊢;generalize ea:k=ic at mk U H ⊢;exact F out ic s ⟨S,mk,by simp at H;lia,by lia,by lia,U⟩
    obtain rfl:k=d:=by lia
    exact F out _ s ⟨S,m,G,J,by lia,U⟩
   refine λout P s=>aX6 λS m G J M U=>?_;have v:=(m.sw.h1 (by lia)<|by simpa using U).sw;obtain⟨n,rfl⟩:∃n,P=n+1:=⟨P-1,by lia⟩
   dsimp only[ss1];refine mH (x:=r[p]) (by simp)<|jG (λe=>?_) λe=>mH (x:=q[n]) (by simp)<|kJ<|yi (T:=[]) (A:=r.take p) (R:=r.drop p) S.k (λz hz=>hr z<|xS hz) (hq _ (by simp)) (u2.sublist<|yf _ _) (by simp) XV (by simp;lia) (by lia) λK bJ t1 t2=>?_
   .obtain rfl:p=1:=by simpa using e
    exact iU<|.inl ⟨_,_,rfl,S,last v⟩
   dsimp only;apply IS λout f s=>Rp X l L s/\Mg X X.ge (q++r) (q.take<|n+1).reverse (r.take f).reverse out/\1<f/\f<=X0 r/\i+1+j+(n+1)+f<X0 q+X0 r/\∀y∈r.take f,X.le y q[n]
   .intro F;have mk:=(v.sw.hk bJ λx D y Y=>v.ON (x:=x) (by lia) (t2 x D) y Y).sw;have W:∀y∈r.take K,X.le y q[n]:=λy Y=>X.as _ _ (t1 y<|by rwa [gg,ez bJ]);refine jG (λ_=>?_) λe3=>?_
    .refine jG (λH=>?_) λH=>jG (λB=>iU<|.inl ⟨_,_,rfl,S,mk.Ks<|.inr<|by simpa using B⟩) λB=>?_
     .obtain rfl:K=1:=by simpa using H
      exact iU<|.inl ⟨_,_,rfl,S,last mk⟩
     generalize out.push (X.it r[p])++((ar X r).extract K p).reverse=out at mk ⊢;generalize ea:K=ic at mk W H B ⊢;exact F out ic s ⟨S,mk,by simp at H B;lia,by lia,by lia,W⟩
    obtain rfl:K=p:=by lia
    exact F _ _ s ⟨S,v,by simp at e;lia,by lia,M,W⟩
   refine λout f s=>aX6 λS m C E M U=>?_;have v:=m.h1 (by lia) (by simpa using U);exact mH (x:=q[n]) (by simp)<|jG (λe=>iU<|.inl ⟨_,_,rfl,S,v.Ks<|.inl<|by simpa using e⟩) λe=>jG (λ_=>iU<|.inr ⟨_,_,_,_,_,_,rfl,S,v,by simp at e;lia,by lia,C,E,by lia⟩) λ_=>iU ⟨_,_,_,_,_,_,rfl,S,v,by simp at e;lia,by lia,C,E,by lia⟩
  .refine λc s h=>aW ?_;obtain⟨_,_,_,_,_,_,_,S,m,G,J,C,E,M⟩:=h;lia
  intro c s z;refine z.elim (λh=>?_) λh=>?_
  .apply Lq h;exact λout _ hs=>iU ⟨out,_,rfl,hs⟩
  apply OR h;exact λ_ _ _ _ _ _ h=>D1 h.1 λs S=>iU ⟨_,_,_,_,rfl,S,h.2⟩
 .refine λc s h=>aW ?_;obtain⟨_,_,_,_,_,S,m,G,J,C,E,M⟩:=h;lia
 intro c s x;apply Lq x;exact λ_ _ m=>iU<|h _ _ m.1 m.2
end
section
variable {X:Cs}{t:Type}{Q:t->sL->Prop}{st:sL}{d:Array (Nat×Nat×Nat)}{T A B R L:jQ}{i j x y n s:Nat}{o C:List (List Nat)}{r w:List (Nat×Nat×Nat)}
def P5{c:Type}:∀(m K T R:List c)(j a:Nat),a+j=X0 T->K.length=X0 m->(m.zipIdx j).foldl (λ(x:Array c) (p:c×Nat)=>x.setIfInBounds (a+p.2) p.1) (T++(K++R)).toArray=(T++(m++R)).toArray:=by
 intro f
 induction f with
 |nil=>intro K T R j a h b;rw[zS b];rfl
 |cons y m e=>intro K T R j a h b;obtain⟨k,K,rfl⟩:=tj (l:=K) (by simp[b]);rw[nw,xR];have:=e K (T++[y]) R (j+1) a (by simp;lia) (by simpa using b);simpa[h]using this
def Rn(X:Cs):Nat->List (List Nat)->List (Nat×Nat×Nat)->Prop
 |_,[],[]=>True
 |s,A::o,p::r=>p.1=s/\p.2.1=X0 A/\A≠[]/\A.Pairwise X.le/\Rn X (s+X0 A) o r
 |_,_,_=>False
theorem Rn.cut:∀{r:List (Nat×Nat×Nat)}{s:Nat}{o:List (List Nat)},Rn X s o (r++w)->∃a L2,o=a++L2/\Rn X (s+X0 a.flatten) L2 w/\∀M q,Rn X (s+X0 a.flatten) M q->Rn X s (a++M) (r++q)
 |[],s,o,h=>⟨[],o,rfl,h,λ_ _ h=>h⟩
 |p::r,s,[],h=>h.elim
 |p::r,s,A::o,h=>by
  obtain⟨h1,b,c,f,g⟩:=h;obtain⟨a,L2,rfl,k,l⟩:=Rn.cut g;have e:s+(A::a).flatten.length=s+X0 A+(X0 a.flatten):=by simp;lia
  exact⟨A::a,L2,rfl,e▸k,λM q h=>⟨h1,b,c,f,l M q<|e▸h⟩⟩
def Vf{s:sL}{f:PUnit->StateT sL dP t}(h:wp X (f ⟨⟩) Q s):wp X (set s>>=f) Q st:=kJ λ_ g=>by rw[StateT.run_set];exact iX ⟨g,h⟩
def upA(u:A.Pairwise X.le)(v:B.Pairwise X.le)(h:∀a∈A,∀b∈B,X.le a b):(A++B).Pairwise X.le:=ui.mpr ⟨u,v,h⟩
def UR(a:L=T++(A++R))(b:i=X0 T)(c:j=X0 T+X0 A):(ar X L).extract i j=ar X A:=by subst a b c;simp
def Ue{Q:Bool->sL->Prop}(S:Rp X d (o.flatten++R) st)(hr:Rn X 0 o d.toList)(hi:i+1<d.size)(h:∀b9 cj iC,Rp X cj (iC.flatten++R) b9->Rn X 0 iC cj.toList->cj.size+1=d.size->X0 iC.flatten=X0 o.flatten->Q WP b9):wp X (mergeAt' i) Q st:=by
 obtain⟨d⟩:=d
 obtain⟨H,⟨Y,D,K⟩,⟨sb,F,eP⟩,U,rfl,rfl⟩:∃H x y U,d=H++x::y::U/\(X0 H)=i:=by have hi:i+1<(X0 d):=hi;exact⟨d.take i,d[i],d[i+1],d.drop<|i+2,by simp,by simp;lia⟩
 obtain⟨L1,L2,rfl,h2,h3⟩:=Rn.cut hr
 obtain⟨A,B,L2,rfl⟩:∃A B L,L2=A::B::L:=by
  match L2,h2 with
  |A::B::L,_=>exact⟨A,B,L,rfl⟩
  |[A],h=>exact h.2.2.2.2.elim
  |[],h=>exact h.elim
 obtain⟨O,Z,a1,P,hb,dZ,b1,V,h4⟩:=h2;dsimp only at O Z hb dZ;obtain⟨κ',a',p',g,f'⟩:=st;have e1:a'=_:=S.a;have e2:p'=_:=S.q;subst e1 e2;rw[show(L1++A::B::L2).flatten++R=L1.flatten++(A++(B++(L2.flatten++R))) by simp]at S ⊢
 have fin:∀b9 M,Rp X (H++(Y,D+F,K)::U).toArray (L1.flatten++(M++(L2.flatten++R))) b9->M.Perm (A++B)->M.Pairwise X.le->Q WP b9:=λb9 M J em u=>by have em:=em.length_eq;rw[nR,<-Z,<-dZ]at em;refine h _ (H++(Y,D+F,K)::U).toArray (L1++M::L2) (by simpa using J) (h3 _ _ ⟨O,em.symm,λe=>a1 ?_,u,by rwa [em,Z,dZ,<-xQ]⟩) (by simp;lia) (by simp;lia);exact zS (by rw[e]at em;simp at em;lia)
 have ep:∀z,((H++(Y,D,K)::(sb,F,eP)::U).toArray.setIfInBounds (X0 H) z).eraseIdxIfInBounds (X0 H+1)=(H++z::U).toArray:=λz=>by simp[List.eraseIdx_append];intro;lia
 clear h h3 h4 hr;generalize L1.flatten=T at*;generalize L2.flatten++R=R at*;have hN:∀z,z∈A\/z∈B->z<X.N:=λz l=>by simpa using S.p.mem_iff.mp<|qW _ (by rcases l with h|h<;>simp[h])
 obtain⟨y,B',eB⟩:=List.exists_cons_of_ne_nil b1
 have hy:∀z∈B,X.le y z:=λz l=>by
  rw[eB]at V l;rcases nS.mp l with rfl|l
  .exact X.rf _
  exact(Fb.mp V).1 z l
 refine pO ?_;dsimp only;rw[show(H++(Y,D,K)::(sb,F,eP)::U).toArray[X0 H]?=Wp (Y,D,K) by simp,show(H++(Y,D,K)::(sb,F,eP)::U).toArray[X0 H+1]?=Wp (sb,F,eP) by simp];dsimp only;rw[ep];refine Vf<|mH (x:=y) (by rw[eB];exact LG<|by lia)<|kJ<|yi S.k (λz h=>hN z<|.inl h) (hN y<|.inr<|by simp[eB]) P I (by lia) Z.symm (by have:=Ud.mpr a1;lia) λk hk t1 t2=>?_;have S2:Rp X (H++(Y,D+F,K)::U).toArray (T++(A++(B++R))) (SortSt.mk' κ' (ar X<|T++(A++(B++R))) (H++(Y,D+F,K)::U).toArray g f'):=⟨rfl,S.k,S.f,rfl,S.p⟩
 have done:(∀a∈A,X.le a y)->Q WP (SortSt.mk' κ' (ar X<|T++(A++(B++R))) (H++(Y,D+F,K)::U).toArray g f'):=λz=>fin _ (A++B) (by simpa using S2) (.refl _) (upA P V λa O b hb=>X.tr (z a O)<|hy b hb);rw[Z]at hk;obtain⟨v,E,rfl,rfl⟩:∃v E,A=v++E/\(X0 v)=k:=⟨A.take k,A.drop k,by simp,by simp;lia⟩
 have t1:∀z∈v,X.le z y:=λz l=>by simpa using t1 z (by simpa using l)
 have t2:∀z∈E,X.le y z:=λz l=>X.as _ _ (by simpa using t2 z<|by simpa using l);rw[nR]at Z hb;dsimp only;rcases DI E with e|⟨A3,x,e⟩
 .subst e;rw[iZ<|by simp[Z]];exact iU<|done (by simpa using t1)
 rw[GX]at e;have l1:0<(X0 E):=by simp[e]
 rw[jo<|by simp;lia];refine mH (x:=x) (by rw[e,show T++(v++(A3++[x])++(B++R))=T++((v++A3)++x::(B++R)) by simp];exact LG (by have:=oo c3 e;simp at this ⊢;lia))<|kJ<|yi (T:=T++(v++E)) (R:=R) S.k (λz h=>hN z<|.inr h) (hN x<|.inl<|by simp[e]) V (by rw[<-pM]) (by simp;lia) dZ.symm (by have:=Ud.mpr b1;lia) λk2 bJ t3 t4=>?_;rw[dZ]at bJ;obtain⟨I',G,rfl,rfl⟩:∃I' G,B=I'++G/\(X0 I')=k2:=⟨B.take k2,B.drop k2,by simp,by simp;lia⟩
 have v3:∀z∈I',X.le z x:=λz l=>X.as _ _ (by simpa using t3 z<|by simpa using l);have v4:∀z∈G,X.le x z:=λz l=>by simpa using t4 z (by simpa using l)
 have lx:∀a∈v++E,X.le a x:=by rw[e,<-pM]at P ⊢;exact F3 X.tr P<|X.rf x
 cases I' with
 |nil=>exact iU<|done λa O=>X.tr (lx a O)<|v4 y (by simp[show G=y::B' from eB])
 |cons b I'=>
  obtain rfl:b=y:=(sZ eB).1;refine jG (λc=>by simp at c) λ_=>?_;rw[UR (A:=E) (T:=T++v) (R:=b::I'++G++R) (by simp) (by simp;lia)<|by simp;lia,UR (A:=b::I') (T:=T++(v++E)) (R:=G++R) (by simp) (by simp;lia)<|by simp;lia]
  have W:∀out s,Rp X (H++(Y,D+F,K)::U).toArray (T++(v++E++(b::I'++G++R))) s->Rs X (E++b::I') out->Q (gf s).isNone (setArr s<|out.toList.zipIdx.foldl (λa x=>a.setIfInBounds (Y+X0 v+x.2) x.1)<|fW s):=λout s J ho=>by
   obtain⟨M,rfl,u,hp⟩:=ho;rw[J.f,J.a];refine fin _ (v++(M++G)) ⟨?_,J.k,J.f,J.q,hW ?_ J.p⟩ ?_ ?_
   .have:=P5 (M.map X.it) ((E++b::I').map X.it) ((T++v).map X.it) ((G++R).map X.it) 0 (Y+X0 v) (by simp;lia) (by simpa using hp.length_eq.symm);simpa[ar]using this
   .simpa using(((hp.append_right<|G++R).append_left v).append_left T)
   .simpa using((hp.append_right G).append_left v)
   rw[ui]at P V;refine upA P.1 (upA u V.2.1 λa O c m=>?_) λa O c m=>?_
   .rcases qX.mp (hp.mem_iff.mp O)with O|O
    .exact X.tr (lx a<|by simp[O]) (v4 c m)
    exact V.2.2 a O c m
   have m:c∈E\/c∈b::I'++G:=by
    rcases qX.mp m with m|m
    .rcases qX.mp (hp.mem_iff.mp m)with m|m
     .exact .inl m
     exact .inr (DZ _ m)
    exact .inr (qW _ m)
   rcases m with m|m
   .exact P.2.2 a O c m
   exact X.tr (t1 a O) (hy c m)
  have hd:∀z∈E,X.le (b::I')[0] z:=t2;have top:∀z∈b::I',X.le z E[X0 E-1]:=λz l=>by subst e;simpa using v3 z l
  have l2:0<(b::I').length:=by simp
  have h3:∀z∈E,z<X.N:=λz l=>hN z<|.inl (by simp[l]);have h4:∀z∈b::I',z<X.N:=λz l=>hN z<|.inr<|DZ _ l;have u1:=(ui.mp P).2.1;have u2:=(ui.mp V).1;exact jG (λc=>kJ<|YO S2 u1 u2 h3 h4 l1 l2 hd top λout s J ho=>vF<|pO<|iU<|W out s J ho) λc=>kJ<|YR S2 u1 u2 h3 h4 l1 l2 hd top λout s J ho=>vF<|pO<|iU<|W out s J ho
end
section
variable {X:Cs}{st:sL}{b:Array (Nat×Nat×Nat)}{A L:jQ}
theorem Rn.mod{w:Nat}:∀{c:List (Nat×Nat×Nat)}{s:Nat}{a:List (List Nat)}(i:Nat),Rn X s a c->Rn X s a (c.modify i λx=>(x.1,x.2.1,w))
 |[],s,a,i,h=>by cases i<;>exact h
 |p::c,s,[],i,h=>h.elim
 |p::c,s,A::a,0,h=>h
 |p::c,s,A::a,i+1,h=>⟨h.1,h.2.1,h.2.2.1,h.2.2.2.1,Rn.mod i h.2.2.2.2⟩
theorem Rn.le:∀{c:List (Nat×Nat×Nat)}{s:Nat}{a:List (List Nat)},Rn X s a c->X0 c<=X0 a.flatten
 |[],s,a,h=>mq _
 |p::c,s,[],h=>h.elim
 |p::c,s,A::a,h=>by have:=Rn.le h.2.2.2.2;have:=Ud.mpr h.2.2.1;simp at*;omega
theorem Rn.push{A:jQ}{w:Nat}:∀{d:List (Nat×Nat×Nat)}{s:Nat}{c:List (List Nat)},Rn X s c d->A≠[]->A.Pairwise X.le->Rn X s (c++[A]) (d++[(s+X0 c.flatten,X0 A,w)])
 |[],s,[],h,a,u=>⟨rfl,rfl,a,u,trivial⟩
 |[],s,A::c,h,a,u=>h.elim
 |p::d,s,[],h,a,u=>h.elim
 |p::d,s,B::c,h,a,u=>⟨h.1,h.2.1,h.2.2.1,h.2.2.2.1,by simpa[xQ]using Rn.push (w:=w) h.2.2.2.2 a u⟩
def Rk{Q:Unit->sL->Prop}(S:Rp X #[] L st)(h:∀E b L,Rp X b L E->L.Pairwise X.le->Q () E):wp X sortRuns' Q st:=by
 have I:(fW st).size=X.N:=by rw[S.a];simpa using S.p.length_eq
 have w:∀{b L st},Rp X b L st->X0 L=X.N:=λS=>by simpa using S.p.length_eq
 rw[sortRuns'_eq];refine pO ?_;rw[I];dsimp only;refine mY (λi c s=>∃b,∃g:List (List Nat),∃R,c=(WF,X0 g.flatten)/\Rp X b (g.flatten++R) s/\Rn X 0 g b.toList/\i<=X0 g.flatten) (λc s=>c.1=WF/\∃b g,Rp X b g.flatten s/\Rn X 0 g b.toList) ⟨#[],[],L,rfl,S,trivial,mq _⟩ ?_ ?_ ?_
 .rintro i c s t ⟨b,g,R,rfl,S,d,o⟩;have r:=w S;dsimp only;refine jG (λe=>?_) λe=>?_
  .obtain rfl:R=[]:=zS (by simp at r e;omega);exact iU ⟨rfl,b,g,by simpa using S,d⟩
  obtain⟨x,R,rfl⟩:=tj (l:=R) (by simp at r e;omega);refine kJ<|agr S XV (by simp at r ⊢;omega) λA R s S a1 u M=>?_;apply Nk λn s=>∃A R,n=X0 A/\Rp X b (g.flatten++(A++R)) s/\A≠[]/\A.Pairwise X.le
  .intro F;have T:=Ud.mpr a1;refine jG (λe=>?_) λe=>?_
   .refine uk (kJ<|Vh S XV XV T (by simp at r;omega) (by omega) u λA R s S o u=>jG (λc=>by simp at c) λ_=>?_);generalize J:min (X.N-X0 g.flatten) (minRun' X.N X.N 0)=n at o ⊢;exact F n s ⟨A,R,o.symm,S,by intro z;subst z;simp at o e;omega,u⟩
   exact F (X0 A) s ⟨A,R,rfl,S,a1,u⟩
  rintro _ s ⟨A,R,rfl,S,a1,u⟩;refine pO ?_;apply Ug λs=>∃b m,Rp X b (m.flatten++(A++R)) s/\Rn X 0 m b.toList/\(X0 m.flatten)=X0 g.flatten
  .intro F;rw[S.q]
   cases b.back? with
   |none=>exact F s ⟨b,g,S,d,rfl⟩
   |some z=>
    refine mY (λ_ c s=>c=(WF,())/\∃b m,Rp X b (m.flatten++(A++R)) s/\Rn X 0 m b.toList/\(X0 m.flatten)=X0 g.flatten) (λc s=>c=(WF,())/\∃b m,Rp X b (m.flatten++(A++R)) s/\Rn X 0 m b.toList/\(X0 m.flatten)=X0 g.flatten) ⟨rfl,b,g,S,d,rfl⟩ ?_ (λ_ _ h=>h) ?_
    .rintro j c s _ ⟨rfl,b,m,S,d,o⟩;refine pO ?_;rw[S.q]
     cases H:(if b.size>1 then b[b.size-2]? else WF)with
     |none=>exact iU ⟨rfl,b,m,S,d,o⟩
     |some z=>
      refine jG (λ_=>iU ⟨rfl,b,m,S,d,o⟩) λ_=>kJ<|Ue S d ?_ λs v y S d _ O=>jG (λc=>by simp at c) λ_=>iU ⟨rfl,v,y,S,d,O.trans o⟩;split at H
      .omega
      cases H
    rintro c s ⟨rfl,b,m,S,d,o⟩;exact vF<|F _ ⟨_,m,⟨S.a,S.k,S.f,rfl,S.p⟩,by rw[S.q,Array.toList_modify];exact d.mod _,o⟩
  rintro s ⟨b,m,S,d,o⟩;refine vF<|iU ⟨_,m++[A],R,?_,⟨by simpa using S.a,S.k,S.f,rfl,by simpa using S.p⟩,?_,?_⟩
  .rw[List.flatten_append,nR,o];simp
  .rw[S.q,fq,<-o,<-DE (X0 m.flatten)];exact d.push a1 u
  have:=Ud.mpr a1;simp at*;omega
 .rintro c s ⟨b,g,R,rfl,S,d,o⟩;have r:=w S;obtain rfl:R=[]:=zS (by simp at r o;omega);exact⟨rfl,b,g,by simpa using S,d⟩
 rintro⟨_,c⟩ s ⟨rfl,b,g,S,d⟩;have r:=w S;have G:=d.le;refine mY (λi c s=>c=(WF,())/\∃b g,Rp X b g.flatten s/\Rn X 0 g b.toList/\(b.size<=1\/b.size+i<=X.N)) (λc s=>c=(WF,())/\∃b g,Rp X b g.flatten s/\Rn X 0 g b.toList/\b.size<=1) ⟨rfl,b,g,S,d,.inr<|by rw[mf]at G;omega⟩ ?_ ?_ ?_
 .rintro i c s _ ⟨rfl,b,g,S,d,t⟩;refine pO ?_;rw[S.q];refine jG (λe=>iU ⟨rfl,b,g,S,d,e⟩) λe=>kJ<|Ue (R:=[]) (by simpa using S) d ((λc:Bool=>show(if c=C then b.size-2-1 else b.size-2)+1<b.size by split<;>omega) _) λs v y S d I _=>jG (λc=>by simp at c) λ_=>iU ⟨rfl,v,y,by simpa using S,d,.inr<|by omega⟩
 .rintro c s ⟨rfl,b,g,S,d,t⟩;exact⟨rfl,b,g,S,d,by omega⟩
 rintro c s ⟨rfl,b,g,S,d,t⟩;refine iU<|h s b _ S ?_;obtain⟨C'⟩:=b
 match C',g,d,t with
 |[],[],_,_=>exact .nil
 |[p],[A],d,_=>simpa using d.2.2.2.1
 |p::[],A::B::g,d,_=>exact d.2.2.2.2.elim
 |[],A::g,d,_=>exact d.elim
 |p::C',[],d,_=>exact d.elim
 |p::U'::C',g,d,t=>simp at t
end
end TS
namespace PX
open L2 PySem.SeqAt
open PySem.AutoSeq1 (wpAny_loadPart')
open PySem.MeetsSeq PySem.MeetsSeq2 PySem.MeetsSeq3
noncomputable def mF(op:cC)(i j:Int):Bool:=match op with
 |.Lt=>decide (i<j)|.LtE=>decide (i<=j)|.Gt=>decide (i>j)|_=>decide<|i>=j
def CN(a:cC):Prop:=a=.Lt\/a=.LtE\/a=.Gt\/a=.GtE
def Ua(op:cC)(A:je)(s:iL)(y x:iQ)(b:Bool):Prop:= ∀(a:jh)(w:jc)(E:jB)(Q:jB),Q (.bool b) s->ag (ah a w) A (richCompare op y x) Q E s
def QY(op:cC)(A:je)(s:iL)(fin:Bool):List (iQ×iQ)->Bool->Prop
 |[],r=>r=fin
 |(y,x)::rest,r=>∃e,EqAt A s y x e/\(if e=C then QY op A s fin rest r else Ua op A s y x r)
def Fq{op:cC}{f:ba}(B:op=.Lt/\f=ba.«tuple.__lt__»\/op=.LtE/\f=ba.«tuple.__le__»)(l b:iG)(items j:nB)(n T:Nat)(dd t:Option iG)(E N:yI)(r:Bool):
  vr (f ⟨[.ref l,.ref b],[]⟩) (λA R s=>s.heap.get? l=Y {cls:=.type "tuple",dict:=dd,data:=.seq items n,slots:=E}/\s.heap.get? b=Y {cls:=.type "tuple",dict:=t,data:=.seq j T,slots:=N}/\
   QY op A.in1 s (mF op items.size j.size) (items.toList.zip j.toList) r/\R (.ok<|.ret<|.bool r) s):=by
 rcases B with⟨h1,rfl⟩|⟨h1,rfl⟩
 all_goals
  refine .of_wp λc w A R s h=>?_;obtain⟨p,g,d,q,os⟩:=s;obtain⟨z,u,a,h⟩:=h;have O:=AutoSeq1.sub_tuple_tuple
  wp_walk using x9 z,x9 u,xP _ (λi b m=>b.1=J/\m=⟨p,g,d,q,os⟩/\QY op A.in1 ⟨p,g,d,q,os⟩ (mF op items.size j.size) i r) _
  case turn=>
   rintro⟨y,x⟩ i b m ⟨o,rfl,e,v,a⟩;refine iI<|v c w _ _ ?_
   cases e with
   |true=>
    simp at a
    wp_walk
    exact⟨rfl,rfl,a⟩
   |false=>
    simp at a;subst h1;have k:=a c w
    wp_walk using k
    exact⟨_,rfl,by simpa using h⟩
  case fin=>
   rintro⟨Q,L⟩ m ⟨o,rfl,a⟩;subst h1;simp only at o;subst o;have a:r=_:=a;rw[a]at h
   wp_walk
   exact⟨_,rfl,by simpa[wv,mF]using h⟩
  case h=>exact⟨rfl,rfl,a⟩
section
variable {A:je}{s:iL}{l b:iG}{items a:nB}{r:Bool}
def agm(z:op=.Lt\/op=.LtE)(y:s.heap.IsTuple l items)(v:s.heap.IsTuple b a)(k:A.units<aV)(m:QY op A.in1 s (mF op items.size a.size) (items.toList.zip a.toList) r):Ua op A s (.ref l) (.ref b) r:=λp w E Q h=>by
 obtain⟨⟨u,dd,i,q⟩,d,j,n,hd⟩:=id y;obtain⟨⟨B,f,data2,t⟩,e,g,o,c⟩:=id v;simp only at j hd g c;subst j hd g c;rcases z with rfl|rfl
 .exact ME (op:=.Lt) ⟨_,d,rfl⟩ ⟨_,e,rfl⟩ PySem.F.slot_tuple_lt PySem.F.entry_tuple_lt (PySem.F.args_tuple_lt_2 _ _) (Fq (.inl ⟨rfl,rfl⟩) l b items a n o dd f q t r) ⟨d,e,m,show cF r≠gZ/\Q (.bool r) s from⟨(λx=>nomatch x),h⟩⟩ k
 exact ME (op:=.LtE) ⟨_,d,rfl⟩ ⟨_,e,rfl⟩ PySem.F.slot_tuple_le PySem.F.entry_tuple_le (PySem.F.args_tuple_le_2 _ _) (Fq (.inr ⟨rfl,rfl⟩) l b items a n o dd f q t r) ⟨d,e,m,show cF r≠gZ/\Q (.bool r) s from⟨(λx=>nomatch x),h⟩⟩ k
end
mutual
noncomputable def oQ(a:cC):D->D->Option Bool
 |.int i,e=>match e with|.int j=>Y (mF a i j)|_=>J
 |.tup l,e=>match e with|.tup m=>if a=.Lt\/a=.LtE then oI a l m else J|_=>J
 |_,_=>J
noncomputable def oI(a:cC):List D->List D->Option Bool
 |[],m=>Y<|mF a 0<|X0 m
 |x::l,e=>match e with|[]=>Y (mF a ((x::l).length) 0)|y::m=>if D.AI x y=C then oI a l m else oQ a x y
end
def rV(c:cC)(a b k:Int):mF c (a+k) (b+k)=mF c a b:=by
 cases c<;>simp[mF]
section
variable {X:Cx}{c:jF}{f:L2.St}{H:Hp}{s:iL}
def FD(b:CN op):Ua op A s (.int i t) (.int j u) (mF op i j):=λa w E Q h=>by
 rcases b with rfl|rfl|rfl|rfl
 .exact(At h:ag (ah a w) A (aw .Lt _ _) Q E s)
 .exact(AC h:ag (ah a w) A (aw .LtE _ _) Q E s)
 .exact(AT h:ag (ah a w) A (aw .Gt _ _) Q E s)
 exact(acO h:ag (ah a w) A (aw .GtE _ _) Q E s)
def NT(ho:CN op)(I:Inv X c f H s):∀(n:Nat)(d e:D)(v u:V)(a b:iQ)(O B:AA)(A:je)(r:Bool),kb X.K H O d v->kb X.K H B e u->RelV v a->RelV u b->d.dep<=n->e.dep<20000->A.units+n<aV->oQ op d e=Y r->Ua op A s a b r:=by
 intro n
 induction n with
 |zero=>
  intro d e v u a b O B A r hd G J M N W hA g
  cases d with
  |int i=>
   cases e with
   |int j=>have:=jH hd;subst this;have:=jH G;subst this;obtain⟨t,rfl⟩:=J;obtain⟨t',rfl⟩:=M;simp only[oQ]at g;rw[<-kT g];exact FD ho
   |_=>cases g
  |tup l=>rw[D.dep]at N;lia
  |_=>cases g
 |succ n ih=>
  intro d e v u a b O B A r hd G J M N W hA g
  cases d with
  |int i=>
   cases e with
   |int j=>have:=jH hd;subst this;have:=jH G;subst this;obtain⟨t,rfl⟩:=J;obtain⟨t',rfl⟩:=M;simp only[oQ]at g;rw[<-kT g];exact FD ho
   |_=>cases g
  |tup l=>
   cases e with
   |tup m=>
    simp only[oQ]at g;split at g
    case isFalse=>cases g
    rename_i U;rw[D.dep]at N W;obtain⟨p,E,rfl,q,z⟩:=lV hd;obtain⟨p2,L,rfl,q2,o⟩:=lV G;cases J;cases M;obtain⟨h,T,pl,_⟩:=I.tuple q;obtain⟨w,C,e9,_⟩:=I.tuple q2;have Q:A.in1.units=A.units+1:=rfl
    have key:∀(l m:List D)(E L:List V)(h w:jP)(k:Int),D.BI l+1<=n+1->D.BI m<20000->YP X.K H O l E->YP X.K H B m L->Vals E h->Vals L w->oI op l m=Y r->QY op A.in1 s (mF op (h.length+k)<|w.length+k) (h.zip w) r:=by
     intro l
     induction l with
     |nil=>
      intro m E L h w k F P z o T C g;rw[YP]at z;subst z;cases T;simp only[oI]at g;have e1:=o.length;have e2:=C.length;show r=_;rw[rV,<-kT g]
      congr 1
      lia
     |cons x l Y'=>
      intro m E L h w k F P z o T C g;rw[YP]at z;obtain⟨Z,xr,rfl,g1,g2⟩:=z
      cases T with
      |cons a1 a2=>
       cases m with
       |nil=>
        rw[YP]at o;subst o;cases C;simp only[oI]at g;have e1:=g2.length;have e2:=a2.length;rw[kv];show r=_;rw[rV,<-kT g]
        congr 1
        simp;lia
       |cons y m=>
        rw[YP]at o;obtain⟨vy,yr,rfl,R,g4⟩:=o
        cases C with
        |cons b1 b2=>
         simp only[oI]at g;rw[D.BI]at F P;rw[sY];refine⟨D.AI x y,Bl I n x y Z vy _ _ O B A.in1 (.inl g1) (.inl R) a1 b1 (by lia) (by lia) (by rw[Q];lia),?_⟩
         cases S:D.AI x y with
         |true=>
          rw[S,iZ XV]at g;rw[iZ XV];have:=Y' m xr yr _ _ (k+1) (by lia) (by lia) g2 g4 a2 b2 g;simp only[nJ];have e:∀a:Nat,(((a+1:Nat):Int)+k)=(a:Int)+(k+1):=λa=>by lia
          rw[e,e];exact this
         |false=>rw[S,jo kR]at g;rw[jo kR];exact ih x y Z vy _ _ O B A.in1 r (.inl g1) (.inl R) a1 b1 (by lia) (by lia) (by rw[Q];lia) g
    have:=key l m E L h w 0 (by lia) (by lia) z o T C g;refine agm U pl e9 (by lia) ?_;simpa using this
   |_=>cases g
  |_=>cases g
def pV(a:cC)(d e:D):Option (D×Bool):=if d.dep<=50/\e.dep<=50 then(oQ a d e).map λb=>(.bl b,U)else J
def Sf(b:CN op)(l:X.A.units+60<aV):BP X (aw op) (rD X.K<|pV op):=by
 intro c s f H x y v u Q T j k h;obtain⟨O,d,e,z,np,h1,g,a,G⟩:=h;unfold pV at a;split at a
 .rename_i hd;obtain⟨r,i,rfl⟩:=jw a;have:=NT b T 50 d e x y v u O O X.A r h1 g j k hd.1 (by lia) (by lia) i X.prog X.w X.xe (EP X c f Q) ⟨.bl r,H,T,rfl,G.bl⟩;rcases b with rfl|rfl|rfl|rfl<;>exact this
 cases a
end
open TS
section
variable {b:jh}{w:jc}{A:je}{E:jB}{s:iL}
noncomputable def qo(h:jb)(a:iG)(c:jP):Heap:=((h.update a<|aQ λ_=> #[]).push<|bj "tuple" c.toArray 0).push<|bj "list" #[] 0
noncomputable def Px(a:jP)(i:Nat):Keyed:=(a.getD i au,a.getD i au)
def va{a:iG}{c:jP}{n:Nat}{P:zn->Shared->Prop}{κ:q7}{lt:Nat->Nat->Bool}(r:s.heap.get? a=Y (bj "list" c.toArray n))(z:(X0 c)<=sizeLine)(as:∀i j,lt i j=WP->lt j i=U)(J:∀{i j k},lt j i=U->lt k j=U->lt k i=U)
  (hk:2<=X0 c->ag (ah b w) A (keyKind' c.toArray) (λg d=>d={s with heap:=qo s.heap a c}/\g=κ) (λ_ _=>False) {s with heap:=qo s.heap a c})
  (ask:2<=X0 c->Ask (ah b w) A (λd=>d={s with heap:=qo s.heap a c}) (Px c) κ (X0 c) lt)
  (h:∀p:List Nat,p.Perm (ap<|X0 c)->p.Pairwise (λi j=>lt j i=U)->P (.done<|.ret .none) {s with heap:=(qo s.heap a c).update a (aQ λ_=>(p.map λi=>c.getD i au).toArray)}):
  ag (ah b w) A (ba.«list.sort» ⟨[.ref a],[]⟩) P E s:=by
 rw[list_sort_plain];have M:a<s.heap.objs.size:=kh r;refine iI<|GV r XV<|iI<|vp r XV ?_ (by rw[kH];exact z)<|mq _;obtain⟨u,B⟩:∃u,(s.heap.update a<|aQ λ_=>(#[]:Array iQ)).get? a=Y (bj "list" #[] u):=⟨_,xN r λ_=> #[]⟩
 refine iI<|zQ B XV<|iI<|DM ?_ (by show (X0 c)<=_;exact z);refine iI<|DD ?_<|mq _;refine md ?_;have q:(qo s.heap a c).get? a=Y (bj "list" #[] u):=jW _ (jW _ B);show ag (ah b w) A _ P E {s with heap:=qo s.heap a c};dsimp only;by_cases l:c.toArray.size<2
 .rw[iZ l,iZ l];refine iI<|iX ?_;rw[GZ];refine iI<|iX ?_;dsimp only;refine iI<|zQ q XV<|iI<|vp q XV ?_ (mq _) ?_
  .simp only[yb,kX];refine iX ?_;have t:(X0 c)<2:=by simpa using l
   have:=h (ap<|X0 c) (vo _) (by rw[QZ];intro i j m T N;simp at m T;lia)
   have e:((c.toArray.zip c.toArray).map (·.2))=((ap<|X0 c).map λi=>c.getD i au).toArray:=by
    apply Ch
    .simp
    intro i h1 O;have m:i<(X0 c):=by simpa using h1
    simp[m]
   rw[e];exact this
  rw[ro,rd];simp;lia
 rw[jo l,jo l];have t:2<=(X0 c):=by simpa using l
 refine iI<|oq (hk t) (λg d y=>?_) λ_ _ x=>x.elim;obtain⟨rfl,rfl⟩:=y;refine iI (oq (Rk (X:=⟨_,A,E,λd=>d={s with heap:=qo s.heap a c},Px c,lt,g,X0 c,as,J,ask t⟩) (L:=ap<|X0 c) ⟨?_,rfl,rfl,rfl,.refl _⟩ (Q:=λ_ o=>∃p,(fW o).map (·.2)=(p.map λi=>c.getD i au).toArray/\gf o=WF/\p.Perm (ap<|X0 c)/\p.Pairwise λi j=>lt j i=U) (λo _ p R v=>⟨p,?_,R.f,R.p,v⟩) _ rfl) ?_ λ_ _ e=>e)
 .show c.toArray.zip c.toArray=_;apply Ch
  .simp
  intro i h1 O;have m:i<(X0 c):=by simpa using h1
  simp[Px,m]
 .rw[R.a];simp[Px]
 rintro⟨⟨⟩,o⟩ d ⟨rfl,C,out,I,H,v⟩;dsimp only;have G:(X0 C)=(X0 c):=by simpa using H.length_eq
 refine iI<|zQ q XV<|iI<|vp q XV ?_ (mq _) ?_
 .rw[I];simp;rw[out];exact iX<|h C H v
 rw[out,kH,ke,G];lia
end
mutual
noncomputable def cT:D->D->Ordering
 |.int i,e=>match e with|.int j=>if i<j then .lt else if i=j then .eq else .gt|_=>.lt
 |.tup l,e=>match e with|.int _=>.gt|.tup m=>cL l m|_=>.lt
 |_,e=>match e with|.int _=>.gt|.tup _=>.gt|_=>.eq
noncomputable def cL:List D->List D->Ordering
 |[],m=>match m with|[]=>.eq|_::_=>.lt
 |x::l,m=>match m with|[]=>.gt|y::m=>match cT x y with
  |.lt=>.lt
  |.gt=>.gt
  |.eq=>cL l m
end
mutual
theorem Ke:∀x:D,cT x x=.eq
 |.int i=>by simp[cT]
 |.tup l=>by simp only[cT];exact Kg l
 |.A7=>by simp[cT]
 |.bl _=>by simp[cT]
 |.str _=>by simp[cT]
 |.lst _=>by simp[cT]
 |.AF _ _ _=>by simp[cT]
theorem Kg:∀l:List D,cL l l=.eq
 |[]=>by simp[cL]
 |x::l=>by simp only[cL,Ke x];exact Kg l
end
mutual
theorem zH:∀x y:D,cT y x=(cT x y).swap
 |.int i,.int j=>by
  simp only[cT,cT];by_cases h1:i<j
  .rw[iZ h1,jo<|by lia,jo<|by lia];rfl
  rw[jo h1];by_cases a:i=j
  .rw[iZ a,jo<|by lia,iZ a.symm];rfl
  rw[jo a,iZ<|by lia];rfl
 |.tup l,.tup m=>by simp only[cT,cT];exact Kf l m
 |.int _,.tup _=>by simp[cT]
 |.int _,.A7=>by simp[cT]
 |.int _,.bl _=>by simp[cT]
 |.int _,.str _=>by simp[cT]
 |.int _,.lst _=>by simp[cT]
 |.int _,.AF _ _ _=>by simp[cT]
 |.tup _,.int _=>by simp[cT]
 |.tup _,.A7=>by simp[cT]
 |.tup _,.bl _=>by simp[cT]
 |.tup _,.str _=>by simp[cT]
 |.tup _,.lst _=>by simp[cT]
 |.tup _,.AF _ _ _=>by simp[cT]
 |.A7,y=>by cases y<;>simp[cT]
 |.bl _,y=>by cases y<;>simp[cT]
 |.str _,y=>by cases y<;>simp[cT]
 |.lst _,y=>by cases y<;>simp[cT]
 |.AF _ _ _,y=>by cases y<;>simp[cT]
theorem Kf:∀l m:List D,cL m l=(cL l m).swap
 |[],[]=>by simp[cL]
 |[],_::_=>by simp[cL]
 |_::_,[]=>by simp[cL]
 |x::l,y::m=>by
  simp only[cL,cL,zH x y];cases h:cT x y<;>simp[Ordering.swap]
  exact Kf l m
end
def Pd(h1:cT x y≠ .gt)(a:cT y x≠ .gt):cT x y=.eq:=by
 rw[zH x y]at a
 cases h:cT x y with
 |lt=>rw[h]at a;exact absurd I a
 |eq=>rfl
 |gt=>exact absurd h h1
mutual
theorem xu:∀x y z:D,cT x y≠ .gt->cT y z≠ .gt->cT x z≠ .gt
 |.int i,y,z,h1,d=>by
  cases z with
  |int k=>
   cases y with
   |int j=>
    simp only[cT]at h1 d ⊢
    have a:i<=j:=by
     by_cases a:i<j
     .lia
     rw[jo a]at h1;by_cases b:i=j
     .lia
     rw[jo b]at h1;exact absurd I h1
    have b:j<=k:=by
     by_cases a:j<k
     .lia
     rw[jo a]at d;by_cases b:j=k
     .lia
     rw[jo b]at d;exact absurd I d
    by_cases c:i<k
    .rw[iZ c];simp
    rw[jo c,iZ<|by lia];simp
   |_=>simp[cT]at d
  |_=>simp[cT]
 |.tup l,y,z,h1,d=>by
  cases y with
  |int j=>simp[cT]at h1
  |tup m=>
   cases z with
   |int k=>simp[cT]at d
   |tup n=>simp only[cT]at h1 d ⊢;exact Gr l m n h1 d
   |_=>simp[cT]
  |_=>cases z<;>simp_all [cT]
 |.A7,y,z,h1,d=>by cases y<;>cases z<;>simp_all [cT]
 |.bl _,y,z,h1,d=>by cases y<;>cases z<;>simp_all [cT]
 |.str _,y,z,h1,d=>by cases y<;>cases z<;>simp_all [cT]
 |.lst _,y,z,h1,d=>by cases y<;>cases z<;>simp_all [cT]
 |.AF _ _ _,y,z,h1,d=>by cases y<;>cases z<;>simp_all [cT]
 termination_by x y z=>sizeOf x+sizeOf y+sizeOf z
theorem Gr:∀l m n:List D,cL l m≠ .gt->cL m n≠ .gt->cL l n≠ .gt
 |[],m,n,_,_=>by cases n<;>simp[cL]
 |x::l,[],n,h1,_=>by simp[cL]at h1
 |x::l,y::m,[],_,a=>by simp[cL]at a
 |x::l,y::m,z::n,h1,a=>by
  have a1:cT x y≠ .gt:=λh=>by simp only[cL,h]at h1;exact h1 I
  have c:cT y z≠ .gt:=λh=>by simp only[cL,h]at a;exact a I
  have g:=xu x y z a1 c;simp only[cL]
  cases b:cT x z with
  |lt=>simp
  |gt=>exact absurd b g
  |eq=>
   have f:cT z x≠ .gt:=by rw[zH x z,b];simp[Ordering.swap]
   have d:cT x y=.eq:=Pd a1<|xu y z x c f;have e:cT y z=.eq:=Pd c<|xu z x y f a1;simp only[cL,d]at h1;simp only[cL,e]at a;exact Gr l m n h1 a
 termination_by l m n=>sizeOf l+sizeOf m+sizeOf n
end
def Bo(x y:D):Bool:=cT x y== .lt
def ZM:Bo x y=C↔cT x y=.lt:=by simp[Bo]
def CD:Bo x y=U↔cT x y≠ .lt:=by simp[Bo]
def Uz:Bo y x=U↔cT x y≠ .gt:=by rw[CD,zH x y];cases cT x y<;>simp
def aat(x y:D)(h:Bo x y=C):Bo y x=U:=by rw[Uz,ZM.mp h];simp
def YU(h1:Bo y x=U)(a:Bo z y=U):Bo z x=U:=Uz.mpr<|xu _ _ _ (Uz.mp h1) (Uz.mp a)
mutual
noncomputable def D.pr:D->Bool
 |.int _=>C
 |.tup l=>D.Hz l
 |_=>U
noncomputable def D.Hz:List D->Bool
 |[]=>C
 |x::l=>D.pr x&&D.Hz l
end
mutual
theorem Ik:∀x y:D,D.pr x=C->D.pr y=C->D.AI x y=(cT x y== .eq)
 |.int i,.int j,_,_=>by
  simp only[D.AI,cT];by_cases h:i=j
  .subst h;simp
  rw[jo h];by_cases a:i<j<;>simp[h,a]
 |.int _,.tup _,_,_=>by simp[D.AI,cT]
 |.tup _,.int _,_,_=>by simp[D.AI,cT]
 |.tup l,.tup m,h1,a=>by simp only[D.AI,cT];rw[D.pr]at h1 a;exact J3 l m h1 a
 |.A7,_,h,_=>by simp[D.pr]at h
 |.bl _,_,h,_=>by simp[D.pr]at h
 |.str _,_,h,_=>by simp[D.pr]at h
 |.lst _,_,h,_=>by simp[D.pr]at h
 |.AF _ _ _,_,h,_=>by simp[D.pr]at h
 |_,.A7,_,h=>by simp[D.pr]at h
 |_,.bl _,_,h=>by simp[D.pr]at h
 |_,.str _,_,h=>by simp[D.pr]at h
 |_,.lst _,_,h=>by simp[D.pr]at h
 |_,.AF _ _ _,_,h=>by simp[D.pr]at h
theorem J3:∀l m:List D,D.Hz l=C->D.Hz m=C->D.Bc l m=(cL l m== .eq)
 |[],[],_,_=>by simp[D.Bc,cL]
 |[],_::_,_,_=>by simp[D.Bc,cL]
 |_::_,[],_,_=>by simp[D.Bc,cL]
 |x::l,y::m,h1,a=>by rw[D.Hz,ma]at h1 a;simp only[D.Bc,cL];rw[Ik x y h1.1 a.1,J3 l m h1.2 a.2];cases cT x y<;>simp
end
mutual
theorem Bt:∀x y:D,D.pr x=C->D.pr y=C->cT x y=.eq->x=y
 |.int i,.int j,_,_,h=>by
  simp only[cT]at h;by_cases h1:i<j
  .rw[iZ h1]at h;cases h
  rw[jo h1]at h;by_cases c:i=j
  .rw[c]
  rw[jo c]at h;cases h
 |.tup l,.tup m,a,b,h=>by simp only[cT]at h;rw[D.pr]at a b;rw[Gs l m a b h]
 |.int _,.tup _,_,_,h=>by simp[cT]at h
 |.tup _,.int _,_,_,h=>by simp[cT]at h
 |.A7,_,a,_,_=>by simp[D.pr]at a
 |.bl _,_,a,_,_=>by simp[D.pr]at a
 |.str _,_,a,_,_=>by simp[D.pr]at a
 |.lst _,_,a,_,_=>by simp[D.pr]at a
 |.AF _ _ _,_,a,_,_=>by simp[D.pr]at a
 |_,.A7,_,a,_=>by simp[D.pr]at a
 |_,.bl _,_,a,_=>by simp[D.pr]at a
 |_,.str _,_,a,_=>by simp[D.pr]at a
 |_,.lst _,_,a,_=>by simp[D.pr]at a
 |_,.AF _ _ _,_,a,_=>by simp[D.pr]at a
theorem Gs:∀l m:List D,D.Hz l=C->D.Hz m=C->cL l m=.eq->l=m
 |[],[],_,_,_=>rfl
 |[],_::_,_,_,h=>by simp[cL]at h
 |_::_,[],_,_,h=>by simp[cL]at h
 |x::l,y::m,a,b,h=>by
  rw[D.Hz,ma]at a b;simp only[cL]at h
  cases e:cT x y with
  |eq=>rw[e]at h;rw[Bt x y a.1 b.1 e,Gs l m a.2 b.2 h]
  |lt=>rw[e]at h;cases h
  |gt=>rw[e]at h;cases h
end
mutual
theorem xi:∀x y:D,D.pr x=C->D.pr y=C->∀b,oQ .Lt x y=Y b->b=Bo x y
 |.int i,.int j,_,_,b,h=>by
  simp only[oQ]at h;rw[<-kT h,Bo];simp only[cT,mF];by_cases h1:i<j
  .simp[h1]
  rw[jo h1];by_cases a:i=j<;>simp[h1,a]
 |.int _,.tup _,_,_,b,h=>by simp[oQ]at h
 |.tup _,.int _,_,_,b,h=>by simp[oQ]at h
 |.tup l,.tup m,h1,a,b,h=>by simp only[oQ]at h;rw[iZ<|.inl trivial]at h;rw[D.pr]at h1 a;rw[Bo];simp only[cT];exact Ka l m h1 a b h
 |.A7,_,h,_,_,_=>by simp[D.pr]at h
 |.bl _,_,h,_,_,_=>by simp[D.pr]at h
 |.str _,_,h,_,_,_=>by simp[D.pr]at h
 |.lst _,_,h,_,_,_=>by simp[D.pr]at h
 |_,.A7,_,h,_,_=>by simp[D.pr]at h
 |_,.bl _,_,h,_,_=>by simp[D.pr]at h
 |_,.str _,_,h,_,_=>by simp[D.pr]at h
 |_,.lst _,_,h,_,_=>by simp[D.pr]at h
theorem Ka:∀l m:List D,D.Hz l=C->D.Hz m=C->∀b,oI .Lt l m=Y b->b=(cL l m== .lt)
 |[],[],_,_,b,h=>by simp only[oI]at h;rw[<-kT h];simp[mF,cL]
 |[],_::_,_,_,b,h=>by simp only[oI]at h;rw[<-kT h];simp[mF,cL]<;>lia
 |_::_,[],_,_,b,h=>by simp only[oI]at h;rw[<-kT h];simp[mF,cL]<;>lia
 |x::l,y::m,h1,a,b,h=>by
  rw[D.Hz,ma]at h1 a;simp only[oI]at h;rw[Ik x y h1.1 a.1]at h;simp only[cL]
  cases c:cT x y with
  |eq=>rw[c]at h;simp at h;exact Ka l m h1.2 a.2 b h
  |lt=>rw[c]at h;simp at h;have:=xi x y h1.1 a.1 b h;rw[this,Bo,c]
  |gt=>rw[c]at h;simp at h;have:=xi x y h1.1 a.1 b h;rw[this,Bo,c]
end
section
variable {a:Type}(lt:a->a->Bool)
noncomputable def Ez(x:a):List a->List a
 |[]=>[x]
 |y::l=>if lt y x=C then y::Ez x l else x::y::l
def nU:List a->List a
 |[]=>[]
 |x::l=>Ez lt x<|nU l
theorem uA(x:a):∀l:List a,(Ez lt x l).Perm (x::l)
 |[]=>vo _
 |y::l=>by
  rw[Ez];split
  .exact((uA x l).cons y).trans (ig x y l)
  exact vo _
theorem lb:∀l:List a,(nU lt l).Perm l
 |[]=>vo _
 |x::l=>(uA lt x _).trans<|(lb l).cons x
end
def Py{x:D}:∀{l:List D},(l.Pairwise λx y=>Bo y x=U)->(Ez Bo x l).Pairwise λx y=>Bo y x=U:=by
 intro d
 induction d with
 |nil=>intro _;exact MF _ _
 |cons y l c=>
  intro h;have h:=Fb.mp h;rw[Ez]
  cases b:Bo y x
  .refine Fb.mpr ⟨λz a=>?_,Fb.mpr h⟩;rcases nS.mp a with rfl|a
   .exact b
   exact YU b (h.1 z a)
  refine Fb.mpr ⟨λz a=>?_,c h.2⟩;rcases nS.mp ((uA Bo x l).mem_iff.mp a)with rfl|a
  .exact aat _ _ b
  exact h.1 z a
theorem rg:∀l:List D,(nU Bo l).Pairwise λx y=>Bo y x=U
 |[]=>c4
 |x::l=>Py<|rg l
def Ny{l m:List D}(h:∀x∈m,D.pr x=C)(a:l.Perm m)(c:l.Pairwise λx y=>Bo y x=U):l=nU Bo m:=
 R1 (λx y d e h1 b=>Bt x y (h x<|a.mem_iff.mp d) (h y<|(lb Bo m).mem_iff.mp e)<|Pd (Uz.mp h1)<|Uz.mp b) c (rg m) (a.trans (lb Bo m).symm)
def aeY{a:List D}{p:jQ}(pr:∀x∈a,D.pr x=C)(d:p.Perm (ap<|X0 a))(f:p.Pairwise λi j=>Bo (a.getD j .A7) (a.getD i .A7)=U):p.map (λi=>a.getD i .A7)=nU Bo a:=by
 have e:(ap<|X0 a).map (λi=>a.getD i .A7)=a:=by apply zW;intro i;by_cases c:i<X0 a<;>simp[c]
 have b:=d.map λi=>a.getD i .A7;rw[e]at b;exact Ny pr b<|rJ.mpr f
noncomputable def lW:D->Option Nat
 |.int _=>Y 0
 |.tup (.int _::_)=>Y 1
 |.tup (.tup _::_)=>Y 2
 |_=>J
noncomputable def JT:Nat->q7
 |0=>G0
 |1=>PP C
 |_=>PP U
structure Fw(k:Nat)(l:List D):Prop where
 hd:∀x∈l,lW x=Wp k
 pr:∀x∈l,D.pr x=WP
 dp:∀x∈l,x.dep<=50
 cm:∀x∈l,∀y∈l,(oQ .Lt x y).isSome=WP
def oK(l:List D):Bool:=X0 l<=1||match l with
 |[]=>C
 |x::_=>(lW x).isSome&&(l.all λy=>lW y==lW x&&D.pr y&&decide (y.dep<=50))&&l.all λy=>l.all λz=>(oQ .Lt y z).isSome
def Cp(h:oK l=C):(X0 l)<=1\/∃k,Fw k l:=by
 unfold oK at h;rw[xM]at h;rcases h with h|h
 .left;simpa using h
 right
 cases l with
 |nil=>exact⟨0,λx a=>absurd a sf,λx a=>absurd a sf,λx a=>absurd a sf,λx a=>absurd a sf⟩
 |cons x m=>simp only[ma,mh,wd]at h;obtain⟨⟨h1,c⟩,d⟩:=h;obtain⟨k,hk⟩:=Ko.mp h1;refine⟨k,λy b=>?_,λy b=>(c y b).1.2,λy b=>(c y b).2,λy b z e=>d y b z e⟩;have:=(c y b).1.1;rw[hk]at this;simpa using this
section
variable {X:Cx}{d:jF}{f:L2.St}{H:Hp}{s:iL}
def uo(v:Vals xs a)(b:i<a.length):RelV (xs.getD i .A7) (a.getD i au):=by
 have e:=v.length;have h:xs[i]?=Y xs[i]:=jT (by omega);obtain⟨w,c,j⟩:=v.get h;have h1:xs.getD i .A7=xs[i]:=by simp[show i<xs.length by omega]
 have g:a.getD i au=w:=by rw[jT b]at c;have:=kT c;simp[b,this]
 rw[h1,g];exact j
def uw(r:YP X.K H O ds xs)(a:i<ds.length):Rep X.K H O (ds.getD i .A7) (xs.getD i .A7):=by
 have e:=r.length;have hd:ds[i]?=Y ds[i]:=jT a;obtain⟨v,b,g⟩:=r.get hd;have h1:ds.getD i .A7=ds[i]:=by simp[a]
 have c:xs.getD i .A7=v:=by rw[jT<|by lia]at b;have:=kT b;simp[show i<xs.length by lia,this]
 rw[h1,c];exact g
def AO{ds:List D}{i:Nat}(a:i<X0 ds):ds.getD i .A7∈ds:=by simp[a]
theorem F7(I:Inv X d f H s){A:je}{b:Bool}{O z:AA}(hA:A.units+60<aV){r:Bool}{Q:sM}(n:Q r s):∀(l m:List D)(u v:List V)(g o:jP)(k:Int)(i:Nat),D.BI l<=50->D.BI m<=50->
  ((b&&i==0)=WP->∀x y l' m',l=x::l'->m=y::m'->(∃a,x=.int a)/\∃c,y=.int c)->YP X.K H O l u->YP X.K H z m v->Vals u g->Vals v o->oI .Lt l m=Wp r->
  ∀fin:Bool,fin=mF .Lt (g.length+k) (o.length+k)->PySem.W.KatLex X.prog X.w A b fin Q (g.zip o) i s
 |[],m,u,v,g,o,k,i,_,_,_,p,q,v1,v2,j,fin,hf=>by
  rw[YP]at p;subst p;cases v1;simp only[oI]at j;have U':=q.length;have Y:=v2.length;show Q fin s;rw[hf,rV];rw[<-kT j]at n;have:mF .Lt ((([]:List iQ).length:Nat):Int) (o.length:Int)=mF .Lt 0 (m.length:Int):=by congr 1;lia
  rw[this];exact n
 |x::l,[],u,v,g,o,k,i,_,_,_,p,q,v1,v2,j,fin,hf=>by
  rw[YP]at q;subst q;cases v2;simp only[oI]at j;have U':=p.length;have Y:=v1.length;rw[kv];show Q fin s;rw[hf,rV];rw[<-kT j]at n;have:mF .Lt (g.length:Int) ((([]:List iQ).length:Nat):Int)=mF .Lt (((x::l).length:Nat):Int) 0:=by congr 1;lia
  rw[this];exact n
 |x::l,y::m,u,v,g,o,k,i,J',N,hb,p,q,v1,v2,j,fin,hf=>by
  rw[YP]at p q;obtain⟨L,R,rfl,g1,g2⟩:=p;obtain⟨T,S,rfl,C,F⟩:=q
  cases v1 with
  |cons a1 G=>
   cases v2 with
   |cons B M=>
    simp only[oI]at j;rw[D.BI]at J' N;rw[sY];refine PySem.W.kat_cons<|Bl I 50 x y L T _ _ O z A (.inl g1) (.inl C) a1 B (by lia) (by lia) (by lia) X.prog X.w _ _ ?_
    cases E:D.AI x y with
    |true=>
     rw[E,iZ XV]at j;refine PySem.W.kat_yes<|F7 I hA n l m R S _ _ (k+1) (i+1) (by lia) (by lia) (λh=>by simp at h) g2 F G M j fin ?_;rw[hf];simp only[nJ];have e:∀a:Nat,(((a+1:Nat):Int)+k)=(a:Int)+(k+1):=λa=>by lia
     rw[e,e]
    |false=>
     rw[E,jo kR]at j;refine PySem.W.kat_no ?_
     cases P:(b&&i==0)with
     |true=>obtain⟨⟨a,rfl⟩,c,rfl⟩:=hb P x y l m XV XV;have:=g1.int;subst this;have:=C.int;subst this;obtain⟨t,rfl⟩:=a1;obtain⟨Z,rfl⟩:=B;simp only[oQ]at j;rw[<-kT j]at n;exact oneLt_int n
     |false=>exact PySem.W.kat_one _ _ (NT (.inl XV) I 50 x y L T _ _ O z A r (.inl g1) (.inl C) a1 B (by lia) (by lia) (by lia) j X.prog X.w _ _ n)
def aas(I:Inv X d f H s){O:AA}{u:List D}{N:List V}{e:jP}{A:je}(hA:A.units+60<aV)(rr:YP X.K H O u N)(v:Vals N e){k:Nat}(B:Fw k u):
  Ask (ah X.prog X.w) A (λT=>T=s) (Px e) (JT k) e.length (λi j=>Bo (u.getD i .A7)<|u.getD j .A7):=by
 intro i j hi hj T ao E';subst ao;have e1:=rr.length;have e2:=v.length;have J:u.getD i .A7∈u:=AO (by lia);have M:u.getD j .A7∈u:=AO (by lia);have ri:=uw rr (i:=i) (by lia);have rj:=uw rr (i:=j) (by lia);have vi:=uo v hi;have vj:=uo v hj;obtain⟨b,E⟩:=Ko.mp<|B.cm _ J _ M;have f7:=xi _ _ (B.pr _ J) (B.pr _ M) b E;have r:=B.hd _ J;have g:=B.hd _ M;have di:=B.dp _ J;have dj:=B.dp _ M;show ag _ _ (G1 (JT k) (e.getD i au)<|e.getD j au) _ _ _;dsimp only;rw[<-f7];generalize u.getD i .A7=x at*;generalize u.getD j .A7=y at*;generalize N.getD i .A7=vx at*;generalize N.getD j .A7=vy at*;generalize e.getD i au=a at*;generalize e.getD j au=c at*
 have C:∀(l m:List D)(G:Bool),x=.tup l->y=.tup m->(G=WP->∀x y Z m',l=x::Z->m=y::m'->(∃a,x=.int a)/\∃c,y=.int c)->ag (ah X.prog X.w) A (G1 (PP G) a c) (λU R=>R=T/\U=b) E' T:=λl m G F P hh=>by subst F P;obtain⟨p,us,rfl,q,r1⟩:=ri.tup;obtain⟨p2,ws,rfl,q2,r2⟩:=rj.tup;cases vi;cases vj;obtain⟨S,w1,⟨o,ho,hc,n,hd⟩,_⟩:=I.tuple q.sq;obtain⟨L,w2,⟨o2,r8,ae,n2,Y⟩,_⟩:=I.tuple q2.sq;simp only[oQ]at E;rw[iZ<|.inl trivial]at E;rw[D.dep]at di dj;refine PySem.W.kat_lt ho hd r8 Y ?_;have:=F7 I (b:=G) hA (Q:=λU R=>R=T/\U=b) ⟨rfl,rfl⟩ l m us ws S L 0 0 (by lia) (by lia) (λh=>hh<|by simpa using h) r1 r2 w1 w2 E (decide<|S.toArray.size<L.toArray.size) (by simp[mF]);simpa using this
 match k,r,g with
 |0,r,g=>
  cases x with
  |int ix=>
   cases y with
   |int iy=>have:=ri.int;subst this;have:=rj.int;subst this;obtain⟨t,rfl⟩:=vi;obtain⟨t',rfl⟩:=vj;simp only[oQ]at E;rw[<-kT E];show ag _ _ (G1 G0 _ _) _ _ _;rw[keyLt'_oneType];exact oneLt_int ⟨rfl,rfl⟩
   |tup m=>cases m with
    |nil=>simp[lW]at g
    |cons z m=>cases z<;>simp[lW]at g
   |_=>simp[lW]at g
  |tup m=>cases m with
   |nil=>simp[lW]at r
   |cons z m=>cases z<;>simp[lW]at r
  |_=>simp[lW]at r
 |1,r,g=>
  cases x with
  |tup l=>
   cases y with
   |tup m=>
    refine C l m WP XV XV λ_ x y Z m' F P=>?_;subst F P;refine⟨?_,?_⟩
    .cases x with
     |int a=>exact⟨a,rfl⟩
     |_=>simp[lW]at r
    cases y with
    |int a=>exact⟨a,rfl⟩
    |_=>simp[lW]at g
   |_=>simp[lW]at g
  |_=>simp[lW]at r
 |(n+2),r,g=>
  cases x with
  |tup l=>
   cases y with
   |tup m=>exact C l m W1 XV XV λh=>absurd h kR
   |_=>simp[lW]at g
  |_=>simp[lW]at r
end
open PySem.W
section
variable {X:Cx}{c:jF}{y:L2.St}{H:Hp}{s:iL}
def Gg(I:Inv X c y H s){O:AA}{T:iQ}(P:D->Prop)(t:∀x v u,P x->Rep X.K H O x v->RelV v u->Looks (ah X.prog X.w) s.heap (sK u) T):∀{ds:List D}{b:List V}{a:jP},YP X.K H O ds b->Vals b a->
  (∀d∈ds,∃x l,d=.tup (x::l)/\P x)->∃fs,KatTups s.heap a fs/\(X0 fs)=X0 a/\∀f∈fs,Looks (ah X.prog X.w) s.heap (sK f) T:=by
 intro E
 induction E with
 |nil=>intro b a r v _;rw[YP]at r;subst r;cases v;exact⟨[],KatTups.nil,rfl,λf A=>absurd A sf⟩
 |cons d ds C'=>
  intro b a r v h;rw[YP]at r;obtain⟨W,Z,rfl,g1,g2⟩:=r
  cases v with
  |cons a1 j=>
   obtain⟨fs,L,Q,G⟩:=C' g2 j λd hd=>h d<|jU _ hd;obtain⟨x,l,rfl,J⟩:=h d la;obtain⟨p,S,rfl,q,i⟩:=g1.tup;cases a1;obtain⟨Y,N,⟨o,B,z,n,hd⟩,_⟩:=I.tuple q.sq;rw[YP]at i;obtain⟨M,yr,rfl,m,R⟩:=i
   cases N with
   |cons k U'=>
    rename_i f F;refine⟨f::fs,KatTups.cons B z hd (by simp) L,by simp[Q],λg e=>?_⟩;rcases nS.mp e with rfl|e
    .exact t x M _ J m k
    exact G g e
def WH(I:Inv X c y H s){O:AA}{ds:List D}{J:List V}{b:jP}{A:je}(f:YP X.K H O ds J)(v:Vals J b){k:Nat}(B:Fw k ds)(N:2<=b.length):
  ag (ah X.prog X.w) A (keyKind' b.toArray) (λL s'=>s'=s/\L=JT k) (λ_ _=>False) s:=by
 have R:=f.length;have S:=v.length
 match k,B with
 |0,B=>
  refine kas_kind (T:=.type "int") N (λu F=>?_) XV XV ⟨rfl,rfl⟩;obtain⟨i,Q,e⟩:=DH F;have G:=uw f (i:=i) (by lia);have E:=uo v Q;have hd:=B.hd _ (AO (ds:=ds) (i:=i)<|by lia);have:b.getD i au=u:=by simp[Q,e]
  rw[this]at E
  cases h:ds.getD i .A7 with
  |int a=>rw[h]at G;have:=G.int;rw[this]at E;obtain⟨t,rfl⟩:=E;exact Looks.of_pure XV
  |tup l=>
   rw[h]at hd
   cases l with
   |nil=>simp[lW]at hd
   |cons z m=>cases z<;>simp[lW]at hd
  |_=>rw[h]at hd;simp[lW]at hd
 |1,B=>
  obtain⟨fs,f1,M,g⟩:=Gg I (T:=.type "int") (λx=>∃a,x=.int a) (λx P u j C r=>by
   obtain⟨a,rfl⟩:=j;have:=C.int;subst this;obtain⟨t,rfl⟩:=r
   exact Looks.of_pure XV) f v λd hd=>by
    have:=B.hd d hd
    cases d with
    |tup l=>
     cases l with
     |nil=>simp[lW]at this
     |cons z m=>
      cases z with
      |int a=>exact⟨_,m,rfl,a,rfl⟩
      |_=>simp[lW]at this
    |_=>simp[lW]at this
  exact kat_kind f1 (by lia) g XV ⟨rfl,rfl⟩
 |(n+2),B=>
  obtain⟨fs,f1,M,g⟩:=Gg I (T:=.type "tuple") (λx=>∃a,x=.tup a) (λx P u j C r=>by
   obtain⟨a,rfl⟩:=j;obtain⟨p,us,rfl,q,Z⟩:=C.tup;cases r;obtain⟨W,w1,⟨o,Y,U,n,hd⟩,_⟩:=I.tuple q.sq;have:Looks (ah X.prog X.w) s.heap (sK<|.ref p) o.cls:=(Looks.ld Y).andThen .now
   rw[U]at this;exact this) f v λd hd=>by
    have:=B.hd d hd
    cases d with
    |tup l=>
     cases l with
     |nil=>simp[lW]at this
     |cons z m=>
      cases z with
      |tup a=>exact⟨_,m,rfl,a,rfl⟩
      |_=>simp[lW]at this
    |_=>simp[lW]at this
  exact kat_kind f1 (by lia) g XV ⟨rfl,rfl⟩
def lE(l:List D):Option (D×Bool):=if oK l=C/\(X0 l)<=sizeLine then Y (.lst<|nU Bo l,C)else J
def rW(d:D):Option (D×Bool):=(Ar d).bind lE
def agt{b:List V}{a:jP}(v:Vals b a):∀(p:jQ),(∀i∈p,i<X0 a)->Vals (p.map λi=>b.getD i .A7) (p.map λi=>a.getD i au):=by
 intro f
 induction f with
 |nil=>intro _;exact .nil
 |cons i p e=>intro h;exact .cons (uo v<|h i la)<|e λj d=>h j<|jU _ d
def agk{O:AA}{a:List D}{b:List V}(r:YP X.K H O a b):∀(p:jQ),(∀i∈p,i<X0 a)->YP X.K H O (p.map λi=>a.getD i .A7) (p.map λi=>b.getD i .A7):=by
 intro f
 induction f with
 |nil=>intro _;exact YP.nil
 |cons i p e=>intro h;exact YP.cons (uw r<|h i la)<|e λj d=>h j<|jU _ d
def aew{b:List D}{n:Nat}(e:n=X0 b)(h1:(X0 b)<=1){p:jQ}(a:p.Perm (ap n)):p.map (λi=>b.getD i .A7)=nU Bo b:=by
 subst e
 match b,h1,a with
 |[],_,a=>
  have:p=[]:=by simpa using a.length_eq
  subst this;rfl
 |[d],_,a=>
  have e:(X0 p)=1:=by simpa using a.length_eq
  match p,e,a with
  |[i],_,a=>
   have:i=0:=by have:=a.mem_iff.mp<|Kp.mpr I;simpa using this
   subst this;rfl
def ur(hu:X.A.units+62<aV)(I:Inv X c y H s){O:AA}{f:List D}{M:List V}{a:jP}{x:iQ}{Q:VK}{z:D×Bool}(u:YP X.K H O f M)(v:Vals M a)(hg:lE f=Wp z)(G:Gen X.K H O z Q)
  (hc:∀(Y:List iQ->Shared->Prop)(E':jB)(N:je),N.handled=X.A.handled->(∀(h':jb)(d:Nat),(∀b o,s.heap.get? b=Wp o->h'.get? b=Wp o)->Y a {s with heap:=h',toks:=d})->ag (ah X.prog X.w) N (f5 x) Y E' s):
  ag (ah X.prog X.w) X.A (call (.builtin "sorted") [x]) (EP X c y Q) X.xe s:=by
 unfold lE at hg;obtain⟨⟨L,hz⟩,rfl⟩:=jm hg;have r:=u.length;have e2:=v.length;refine Calls.call_function_entry V0 P1 P2 (args_sorted1 _) ?_;unfold ba.«sorted»;refine iI (m:=checkCount "sorted" 1 1 _)<|iX ?_;refine iI<|hc _ _ _ rfl λh1 d S=>?_;refine iI<|DD ?_ (by lia);have t:(h1.push<|bj "list" a.toArray 0).get? h1.objs.size=Wp (bj "list" a.toArray 0):=kE _ rfl;have C:Inv X c y H {s with heap:=h1,toks:=d}:=I.kept S
 have keep:∀b o,h1.get? b=Wp o->(qo (h1.push<|bj "list" a.toArray 0) h1.objs.size a).get? b=Wp o:=λb o l=>by have R:b≠h1.objs.size:=kx<|kh l;refine jW _ (jW _ ?_);rw[GU _ _ _ _ R];exact jW _ l
 have U:Inv X c y H {s with heap:=qo (h1.push<|bj "list" a.toArray 0) h1.objs.size a,toks:=d}:=C.kept keep;have Z:∀i∈ap a.length,i<a.length:=λi q=>by simpa using q
 refine iI<|md<|qj (s:={s with heap:=h1.push<|bj "list" a.toArray 0,toks:=d}) Gc ⟨_,t,rfl⟩ A2 ?body<|args_list_sort _
 case body=>
  have fin:∀p:List Nat,p.Perm (ap a.length)->p.map (λi=>f.getD i .A7)=nU Bo f->EP X c y Q (.ref h1.objs.size) {s with heap:=(qo (h1.push<|bj "list" a.toArray 0) h1.objs.size a).update h1.objs.size<|aQ λ_=>(p.map λi=>a.getD i au).toArray,toks:=d}:=λp e T=>by
   have F:∀i∈p,i<a.length:=λi q=>by simpa using e.mem_iff.mp q
   have J:∃n,(qo (h1.push<|bj "list" a.toArray 0) h1.objs.size a).get? h1.objs.size=Wp (bj "list" #[] n):=by
    obtain⟨r,W⟩:∃r,((h1.push<|bj "list" a.toArray 0).update h1.objs.size<|aQ λ_=>(#[]:Array iQ)).get? h1.objs.size=Wp (bj "list" #[] r):=⟨_,xN t λ_=> #[]⟩
    exact⟨r,jW _ (jW _ W)⟩
   obtain⟨n,J⟩:=J;obtain⟨E,P⟩:∃E,((qo (h1.push<|bj "list" a.toArray 0) h1.objs.size a).update h1.objs.size<|aQ λ_=>(p.map λi=>a.getD i au).toArray).get? h1.objs.size=Wp (bj "list" (p.map λi=>a.getD i au).toArray E):=⟨_,xN J λ_=>(p.map λi=>a.getD i au).toArray⟩
   have g:∀b o,h1.get? b=Wp o->((qo (h1.push<|bj "list" a.toArray 0) h1.objs.size a).update h1.objs.size<|aQ λ_=>(p.map λi=>a.getD i au).toArray).get? b=Wp o:=λb o l=>by rw[GU _ _ _ _ (kx<|kh l)];exact keep b o l
   have pl:p.length=a.length:=by simpa using e.length_eq
   refine⟨.ref h1.objs.size,_,C.laid (t':=d) g (jZ _) (show A5 X.prog X.w _ _ _ (.lst<|p.map λi=>M.getD i .A7)from⟨by rw[ke];lia,_,E,agt v p F,P⟩),rfl,?_⟩;refine G.lst C.fresh ?_;rw[<-T];exact agk u p λi q=>by have:=F i q;lia
  rcases Cp L with hlen|⟨k,B⟩
  .refine va (κ:=general') (lt:=λ_ _=>W1) (s:={s with heap:=h1.push<|bj "list" a.toArray 0,toks:=d}) t (by lia) (λ_ _ _=>rfl) (λ_ _=>rfl) (λh=>by lia) (λh=>by lia) λp e _=>⟨_,rfl,iX ⟨_,rfl,fin p e ?_⟩⟩
   exact aew (by lia) hlen e
  refine va (κ:=JT k) (lt:=λi j=>Bo (f.getD i .A7)<|f.getD j .A7) (s:={s with heap:=h1.push<|bj "list" a.toArray 0,toks:=d}) t (by lia) (λ_ _=>aat _ _) YU (λh=>WH U u v B h) (λ_=>aas (A:=X.A.in1.in1) U (by show X.A.units+1+1+60<aV;lia) u v B) λp e T=>⟨_,rfl,iX ⟨_,rfl,fin p e<|aeY B.pr (by rw[show f.length=a.length by lia];exact e) T⟩⟩
def xj(j:X.A.units+62<aV):kI X (.builtin "sorted") (Fp X.K<|g1 rW):=oR λc s y H x u Q O d z I t np hd a G=>by
 obtain⟨l,g,a⟩:=iM a
 have M:l.length<=sizeLine:=by unfold lE at a;exact(jm a).1.2
 cases d with
 |lst m=>
  cases g;obtain⟨p,N,rfl,q,r⟩:=lh hd;cases t;obtain⟨i,v,T,_⟩:=I.list q;have E:=r.length;have L:=v.length;obtain⟨o,h,f,n,hd⟩:=T.isList;refine ur j I r v a G λC B w _ e=>GS p (.inl XV) h f hd (λb k=>by simpa using e b s.toks k) (by rw[kH];lia)
 |tup m=>
  cases g;obtain⟨p,N,rfl,q,r⟩:=lV hd;cases t;obtain⟨i,v,⟨o,h,f,n,hd⟩,_⟩:=I.tuple q;have E:=r.length;have L:=v.length;refine ur j I r v a G λC B w _ e=>GS p (.inr XV) h f hd (λb k=>by simpa using e b s.toks k) (by rw[kH];lia)
 |_=>cases g
def af4:aB "sorted"=Y (.builtin "sorted"):=by decide+kernel
end
def oE:aB "isinstance"=Y (.builtin "isinstance"):=by decide+kernel
structure Tx(mg:lI):Prop where
 n_len:mg "len"=WF
 n_abs:mg "abs"=WF
 n_int:mg "int"=WF
 n_tuple:mg "tuple"=WF
 n_list:mg "list"=WF
 n_range:mg "range"=WF
 n_isinstance:mg "isinstance"=WF
 n_bool:mg "bool"=WF
 n_max:mg "max"=WF
 n_min:mg "min"=WF
 n_all:mg "all"=WF
 n_any:mg "any"=WF
 n_sorted:mg "sorted"=WF
 n_enumerate:mg "enumerate"=WF
 n_zip:mg "zip"=WF
 n_set:mg "set"=WF
def Tj{P:jh}{w:jc}{K:ji}{g:lI}{base:jb}{f:iG}{d:mG}{i:jr}{k:Nat}:Bn P w K g base Fx k f d i (Iv K λ_=>J) where
 len:=λj O Q E h=>by obtain⟨T,a,r,b,_,e,_⟩:=h;cases e
 run:=λA c s O a l j Q E _ _ _ _ h=>by obtain⟨T,a,r,b,_,e,_⟩:=h;cases e
def ae5{K:ji}{T:Hp}{O:AA}:∀a:List Int,YP K T O (a.map .int) (a.map V.int):=by
 intro c
 induction c with
 |nil=>exact YP.nil
 |cons n a b=>exact YP.cons Rep.mkInt<|b
def Bj(d e:cC)(a b c:FO):F:=λf=>(a f).bind λp=>(b p.2).bind λq=>match res q.2 p.1,res q.2 q.1 with
 |some (.int i),Y (.int j)=>if mF d i j=C then(c q.2).bind λr=>match res r.2 r.1 with
   |some (.int k)=>Y ((.bl<|mF e j k,U),r.2)
   |_=>J
  else Y ((.bl U,U),q.2)
 |_,_=>J
section
variable {X:Cx}{a b c:iR}{m l g:FO}{n:br}{d f:cC}
def JC(h:CN d):BP X (aw d) (KN λi j=>.bl (mF d i j)):=by
 rcases h with rfl|rfl|rfl|rfl
 .exact ZC
 .exact ZD
 .exact ZE
 exact ZF
def afF(A:tF X.K (Bj d f m l g) σ H' Q):Nw (KN λi j=>.bl (mF d i j)) (KN λi j=>.bl (mF f i j)) (tO X.K m) (tO X.K l) (tO X.K g) σ H' Q:=by
 obtain⟨M,T,F,N,E,e,k⟩:=A;unfold Bj at e;obtain⟨x,p,h1,e⟩:=iW e;obtain⟨G,q,y,e⟩:=iW e;refine⟨M,T,x,p,E,h1,λv U h=>⟨p,EZ T x v,G,q,h.er E,y,λu Y o=>?_⟩⟩;have B:=Ops.cons E h<|Ops.cons (h.er E) o<|Ops.nil<|o.er<|h.er E;dsimp only at e;split at e
 .rename_i i j C I;have hv:=jH<|B.view (j:=0) XV XV C;have t:=jH<|B.view (j:=1) XV XV I;refine⟨i,j,hv,t,mF d i j,rfl,?_⟩;by_cases c:mF d i j=WP
  .rw[iZ c]at e ⊢;obtain⟨J,r,z,e⟩:=iW e;dsimp only at e;split at e
   .rename_i O L;obtain⟨rfl,rfl⟩:=jn e;refine⟨q,_,J,r,o.er<|h.er E,z,λw D P3=>?_⟩;have s:=Ops.cons E h<|Ops.cons (h.er E) o<|Ops.cons (o.er<|h.er E) P3<|Ops.nil<|P3.er<|o.er<|h.er E;exact⟨j,O,t,jH<|s.view (j:=2) XV XV L,(s.done k).bl⟩
   cases e
  rw[jo c]at e ⊢;obtain⟨rfl,rfl⟩:=jn e;exact(B.done k).bl
 cases e
end
noncomputable def Nx(x:V)(c:Bool):Bool:=match x with
 |.bl b=>b==c
 |_=>U
noncomputable def gIs:D->D->Option (D×Bool)
 |.bl b,.bl c=>Y (.bl<|b==c,U)
 |_,.bl _=>Y (.bl U,U)
 |.A7,.A7=>Y (.bl C,U)
 |_,.A7=>Y (.bl U,U)
 |_,_=>J
noncomputable def ED:D->D->Option (D×Bool)
 |.bl b,.bl c=>Y (.bl (!(b==c)),U)
 |_,.bl _=>Y (.bl C,U)
 |.A7,.A7=>Y (.bl U,U)
 |_,.A7=>Y (.bl C,U)
 |_,_=>J
section
variable {X:Cx}
def IW(a:RelV x v)(c:Bool):plainIs v (.bool c)=C/\(v== .bool c)=Nx x c:=by
 cases x<;>first
  |(cases a;exact⟨rfl,rfl⟩)
  |(obtain⟨t,rfl⟩:=a;exact⟨rfl,rfl⟩)
  |(rename_i b;cases a;refine⟨rfl,?_⟩;cases b<;>cases c<;>rfl)
def OE:BP X (aw .Is) (λx y O Q=>∃c,y=.bl c/\Q (.bl<|Nx x c) O):=by intro a s f O x y v u Q T d e h;obtain⟨c,rfl,q⟩:=h;cases e;obtain⟨h1,b⟩:=IW d c;exact wpAny_is_plain h1<|EH T q (by rw[b])
def Cy:BP X (aw .IsNot) (λx y O Q=>∃c,y=.bl c/\Q (.bl (!Nx x c)) O):=by intro a s f O x y v u Q T d e h;obtain⟨c,rfl,q⟩:=h;cases e;obtain⟨h1,b⟩:=IW d c;exact wpAny_isNot_plain h1<|EH T q (by rw[b])
def Ak{K T}(h:kb K T O (.bl b) v):v=.bl b:=h.elim (λh=>h.bl) λ⟨_,_,h⟩=>h.elim
def yj{K T}(h:kb K T O .A7 v):v=.A7:=h.elim (λh=>h.A7) λ⟨_,_,h⟩=>h.elim
def ags{K T}(h:kb K T O d v)(f:∀b,d≠ .bl b)(c:Bool):Nx v c=U:=by
 cases d with
 |bl b=>exact absurd I<|f b
 |A7=>rw[yj h];rfl
 |int i=>rw[jH h];rfl
 |str x=>
   rcases h with h|⟨a,_,h⟩
   .rw[h.str];rfl
   exact h.elim
 |tup l=>
   rcases h with h|⟨a,_,h⟩
   .rw[Rep]at h;obtain⟨a,e,rfl,_⟩:=h;rfl
   exact h.elim
 |lst l=>
   rcases h with h|⟨a,rfl,h⟩
   .rw[Rep]at h;obtain⟨a,e,rfl,_⟩:=h;rfl
   rfl
 |AF _ _ _=>
   rcases h with h|⟨a,rfl,h⟩
   .rw[Rep]at h;obtain⟨a,e,rfl,_⟩:=h;rfl
   rfl
def ad3{K T}(h:kb K T O d v)(e:d≠ .A7):v≠ .A7:=by
 cases d with
 |bl b=>rw[Ak h];intro z;cases z
 |A7=>exact absurd I e
 |int i=>rw[jH h];intro z;cases z
 |str x=>
   rcases h with h|⟨a,_,h⟩
   .rw[h.str];intro z;cases z
   exact h.elim
 |tup l=>
   rcases h with h|⟨a,_,h⟩
   .rw[Rep]at h;obtain⟨a,c,rfl,_⟩:=h;intro z;cases z
   exact h.elim
 |lst l=>
   rcases h with h|⟨a,rfl,h⟩
   .rw[Rep]at h;obtain⟨a,c,rfl,_⟩:=h;intro z;cases z
   intro z;cases z
 |AF _ _ _=>
   rcases h with h|⟨a,rfl,h⟩
   .rw[Rep]at h;obtain⟨a,c,rfl,_⟩:=h;intro z;cases z
   intro z;cases z
def JA(n:Bool):BP X (aw (if n then .IsNot else .Is)) (rD X.K (if n then ED else gIs)):=by
 intro a s j N x y v u Q T g i h;obtain⟨O,d,e,z,np,h1,o,l,G⟩:=h
 cases e with
 |bl c=>
  have f:=Ak o;by_cases k:∃b,d=.bl b
  .obtain⟨b,rfl⟩:=k;cases n<;>cases l<;>(first|refine OE a s j N x y v u Q T g i ⟨c,f,?_⟩|refine Cy a s j N x y v u Q T g i ⟨c,f,?_⟩)<;>(rw[Ak h1];exact G.bl)
  have p:∀b,d≠ .bl b:=λb z=>k ⟨b,z⟩;have m:z=(.bl n,U):=by cases n<;>cases d<;>first|exact absurd I (p _)|(cases l;rfl)
  subst m;cases n<;>(first|refine OE a s j N x y v u Q T g i ⟨c,f,?_⟩|refine Cy a s j N x y v u Q T g i ⟨c,f,?_⟩)<;>(rw[ags h1 p c];exact G.bl)
 |A7=>
  have f:=yj o;by_cases k:d=.A7
  .subst k;cases n<;>cases l<;>(first|refine OD a s j N x y v u Q T g i ⟨f,?_⟩|refine JB a s j N x y v u Q T g i ⟨f,?_⟩)<;>(rw[yj h1];exact G.bl)
  have m:z=(.bl n,U):=by cases n<;>cases d<;>first|exact absurd I k|(cases l;rfl)
  subst m;cases n<;>(first|refine OD a s j N x y v u Q T g i ⟨f,?_⟩|refine JB a s j N x y v u Q T g i ⟨f,?_⟩)<;>(rw[lT<|ad3 h1 k];exact G.bl)
 |_=>cases n<;>cases d<;>cases l
def Wi:BP X (aw .Is) (rD X.K gIs):=JA U
def aeW:BP X (aw .IsNot) (rD X.K ED):=JA C
end
end PX
namespace HT
open L2
section
variable {a:jh}{w:jc}{A:je}{E:jB}{s:iL}
def aeD{t c:iG}{items:nB}{g i:iQ}{lo d:Option Int}{Q:jB}(b:ka s.heap t items)(e:s.heap.IsSliceOf c g i .none)(n:ew g lo)(o:ew i d)
  (f:BL items.size 0 lo=0/\BL items.size items.size d=items.size)(h:Q (.ref t) s):ag (ah a w) A (d1 (.ref t)<|.ref c) Q E s:=by
 obtain⟨os,j,k,p⟩:=id e;have l:s.TypeIs (.ref c) "slice":=⟨os,j,k⟩
 unfold d1
 try with_reducible refine md ?_
 first|refine iI (iX ?_)|skip
 refine iI<|ul b.typeIs (by decide) ?_
 refine iI (tH (name:=bC "__getitem__") b.typeIs BG
  (qj BG b.typeIs MW ?_<|t0 _ _))
 show ag _ _ (cH (.ref t)>>=_) _ _ s;refine iI<|L3 b ?_;refine iI<|wj l ?_;rw[iZ<|by decide];refine iI<|rk e n o ?_;rw[f.1,f.2];show ag _ _ (if((((0:Nat):Int)==0&&(1:Int)==1&&(items.size-0)==items.size)=C)then _ else _) _ _ s;rw[iZ<|by simp];refine iI (m:=eU _) ?_;unfold eU;refine iI<|wj b.typeIs ?_;refine iX ?_;rw[iZ<|by decide];refine iI<|sQ ?_
 first
  |exact iI<|iX ⟨_,rfl,iX h⟩
  |exact iX ⟨_,rfl,iX h⟩
  |exact iI<|iX<|iX ⟨_,rfl,iX h⟩
  |(refine iI ?_;trace_state;done)
end
end HT
namespace PX
open L2 PySem.SeqAt
noncomputable def C6(l:List D)(lo a:Option Int):List D:=(l.drop<|HT.BL (X0 l) 0 lo).take<|HT.BL (X0 l) (X0 l) a-HT.BL (X0 l) 0 lo
def OP(lo a:Option Int):D->Option (D×Bool)
 |.tup l=>Y (.tup<|C6 l lo a,U)
 |.lst l=>Y (.lst<|C6 l lo a,C)
 |_=>J
inductive rSlD(K:ji)(x:V)(lo hi:Option Int)(H:Hp)(Q:VK):Prop where
 |mk (O:AA) (d:D) (z:D×Bool) (_:∀p,¬Ow (H p)->¬O p) (_:kb K H O d x) (_:OP lo hi d=Wp z) (_:Gen K H O z Q)
def YP.cut{K T}(r:YP K T O l xs)(lo a:Option Int):YP K T O (C6 l lo a) (Gk xs lo a):=by unfold C6 Gk;rw[r.length];exact(r.drop _).take _
section
variable {X:Cx}
def FA{b:jF}{s:iL}{h:L2.St}{M:Hp}{a:iG}{v e f:iQ}{lo c:Option Int}{d:iG}{Q:VK}{O:AA}{l:List D}{g:List V}(N:Inv X b h M s)(n:RelV (.ref a) v)(j:s.heap.IsSliceOf d e f .none)(k:ew e lo)(m:ew f c)
  (q:Ej X.K M a g)(r:YP X.K M O l g)(G:Gen X.K M O (.lst<|C6 l lo c,C) Q):∃T id,gL (.type T) "__getitem__"=pure (Y<|.builtin id)/\s.TypeIs v T/\ag (ah X.prog X.w) X.A (d1 v<|.ref d) (EP X b h Q) X.xe s:=
 Rt b s h M (.ref a) v e f lo c d Q N n j k m ⟨a,g,rfl,q,λp i=>G.lst i<|r.cut lo c⟩
def abo:OV X (rSlD X.K):=by
 intro f s E M x v B T lo g A Q N n i k m h;obtain⟨O,d,z,np,hd,o,G⟩:=h
 cases d with
 |tup l=>
  cases o;rcases hd with hd|⟨a,_,h⟩
  .obtain⟨a,b,rfl,q,r⟩:=hd.tup;by_cases j:HT.BL b.length 0 lo=0/\HT.BL b.length b.length g=b.length
   .cases n;obtain⟨t,y,w,L⟩:=N.tuple q.sq;have c:t.toArray.size=b.length:=by rw[kH];exact y.length.symm
    refine⟨"tuple",_,BG.lookup,w.typeIs,?_⟩;refine HT.aeD w i k m (by rw[c];exact j) ⟨.ref a,M,N,rfl,?_⟩
    have e:C6 l lo g=l:=by unfold C6;rw[<-r.length,j.1,j.2];simp[r.length]
    rw[e]at G;exact G (.ref a) M (λ_ _ e=>e) hd
   exact Vt f s E M (.ref a) v B T lo g A Q N n i k m ⟨a,b,rfl,q.sq,j,λp u=>G.tup u (np p<|NA u)<|r.cut lo g⟩
  exact h.elim
 |lst l=>
  cases o;rcases hd with hd|⟨a,rfl,h⟩
  .obtain⟨a,b,rfl,q,r⟩:=hd.lst;exact FA N n i k m q.sq r G
  obtain⟨b,e,r⟩:=h;exact FA N n i k m (.inl<|.inl e) r G
 |_=>cases o
end
def CW(a b:FO):F:=λδ=>(a δ).bind λp=>(b p.2).bind λq=>match res q.2 q.1 with
 |some (.int i)=>(res q.2 p.1).bind λx=>(OP J (Y i) x).bind λz=>Y (z,q.2)
 |_=>J
section
variable {X:Cx}{a lo d:iR}{g e f:FO}{b c:br}
end
end PX
namespace L2
section
variable {X:Cx}
def Y5(T:It)(g:TG)(b:TT)(a:iG->TB)(pre:St->St)(c:St)(O:Hp)(Q:VK):Prop:=Fs (.set (λ_=>U) 0) T g b a pre c O Q
def Hw(c:TI)(g:TG)(ti:TT)(tb:iG->TB)(pre:St->St):TE:=λa O Q=>c a O λT b=>Y5 T g ti tb pre a b Q
def Vo(d:iG)(e:TE):TB:=λc T N=>e c T λy a=>∃k S n,y=.int k/\a d=Y (.set S n)/\n+1<il/\N c (upd a d<|.set (λb=>S b||decide (b=k)) (if S k then n else n+1))
def Ov{a:iR}{c:pK}{i:jI}{p:br}{depth:Nat}{d:iG}{j:TE}(E:c[depth+1]?=J)(C:PE X a j):PB X (jX (.SetComp a c i p) depth (.ref d) X.env) (Vo d j):=by
 intro f s m H N I h
 have r:jX (.SetComp a c i p) depth (.ref d) X.env=(do let v <-aX a X.env;dv a.pos;let _ <-call (.builtin "set.add") [.ref d,v]):=by unfold jX;simp -iota only[clausesOf.eq_def];rw[E]
 rw[r];refine iI<|B6 (C f s m H _ I h) ?_;rintro u s1 ⟨y,H1,g,T,k,S,n,z,hd,Q,q⟩;subst z;obtain⟨t,rfl⟩:=T;have A:s1.heap.SetOf (l7 X.prog X.w) d S n:=g.hok d _ hd;refine iI<|vD<|iI<|call_set_add (knd:=l7 X.prog X.w) (k:=k) (intKind_is _ _ k t) XV A Q λM G l=>iX ⟨m,_,?_,q⟩;refine g.write (x:=d) (e:=d) (by rw[hd];exact trivial) (.inl XV) (λb u B O=>by rw[G.2 b B];exact O) ?_ l;obtain⟨o,_,_,_,L,_⟩:=l;exact⟨o,L⟩
end
end L2
namespace PX
open L2 PySem.SeqAt
noncomputable def ET(f:F):FB:=λa b=>(f b).bind λp=>match p.1.1 with
 |.int k=>if (X0 a)+1<il then Y (a++[.int k],p.2)else J
 |_=>J
section
variable {X:Cx}{A:ki}{d:iG}{c:iR}{f:F}
def aeS{j:pK}{J:jI}{p:br}{depth:Nat}(E:j[depth+1]?=WF)(y:PX X c f):PB X (jX (.SetComp c j J p) depth (.ref d) X.env) (IC WP X.K A d<|ET f):=PB.imp' (Ov E y) λm H N I=>by
 obtain⟨w,T,g,Y,M,B,e,k⟩:=I;obtain⟨r,h,h1,e⟩:=iW e;obtain⟨O,Q⟩:=r
 cases O with
 |int i=>
  obtain⟨U,e⟩:=jm e;obtain⟨rfl,rfl⟩:=uW e;refine⟨w,T,(.int i,Q),h,B.er,h1,λv s P=>?_⟩;obtain⟨q,G⟩:=P.rep B.er;have hv:v=.int i:=G.int;have t:SK A m w H m h s:=P.1.sk;have x:=B.step t q;have C:=Rz g (λ_=>W1,0);refine⟨i,_,_,hv,x.at',by unfold ou;lia,k m _ ?_ ?_⟩
  .have:KH A d m h s m h (upd s d<|.set (λu=>(ou g).1 u||decide (u=i)) (if(ou g).1 i then(ou g).2 else(ou g).2+1)):=⟨λa o e n L=>by rw[jx L];exact e,λi a z=>.inl z,λa z=>by
    by_cases l:a=d
    .subst l;rw[jv];simp
    rw[jx l];exact z,λ_ _=>rfl⟩
   exact t.La.trans this
  refine⟨q.mono (λb o e n=>by rw[jx<|by intro z;subst z;exact n B.td];exact e) (λ_ _ z=>z) λa z=>?_,B.td,?_⟩
  .by_cases l:a=d
   .subst l;rw[jv];trivial
   rw[jx l];exact q.dom a z
  show upd _ _ _ _=_;rw[jv,Cr]
 |_=>cases e
end
def uD(b:jQ)(k:Nat)(d:Cb)(e:Tg)(ti:FT)(c:FB):F:=λf=>(d f).bind λp=>(kz p.2<|b.map .slot).bind λa=>if(ju (b.map .slot) a).Nodup then(kr e ti c p.1 []<|a.map Y++ai k J).bind λq=>Y ((.int (ou q.1).2,U),wb (b.map .slot) a (jy a q.2) p.2)else J
def afC{K:ji}{b:jQ}{k:Nat}{f:Cb}{g:Tg}{ti:FT}{e:FB}{j:L2.St}{T:Hp}{Q:VK}(h:tF K (uD b k f g ti e) j T Q):
  Hw (tI K (λi=>i∉b) f) (tG K (λi=>X0 b<=i) g) (tT K ti) (λd=>IC C K (λi=>X0 b<=i) d e) (yZ b k) j T (λx c=>∃S n,∃a,x=.ref a/\c a=Y (.set S n)/\Q (.int n) c):=Dc (S:=C) h
section
variable {X:Cx}{l:iR}{c:pJ}{f:pK}{scope:jI}{j y p:br}{O:jr}{b:jQ}{k:Nat}{L:Cb}{A:Tg}{ti:FT}{B:FB}
def afm:kI X (.builtin "len") (λi H' Q=>∃S n,∃a,i=[.ref a]/\H' a=Y (.set S n)/\Q (.int n) H'):=by
 intro g s N H' i G Q I r h;obtain⟨S,n,a,rfl,e,q⟩:=h;obtain⟨u,rfl,M⟩:=qm r;cases M;obtain⟨o,m,E,t,z,hex,hd,_,_,T,v,x⟩:=(show s.heap.SetOf (l7 X.prog X.w) a S n from I.hok a _ e)
 have d:(m.size:Int)<2^63:=by
  have:il=4096:=rfl
  lia
 refine call_len_set z hex hd v d ⟨.int n,H',?_,⟨_,by rw[x]⟩,q⟩;exact(I.tok _)
def ae8{z:ax}(C:Ei X O scope b k)(hc:X.calm=WP)(ha:c.is_async=0)(j4:∀U',f[0]?=Wp U'->U'.is_async=0)
  (hs:∀x,aG c.iter X.env x=pure x)(pi:L9 X (λi=>i∉b) c.target c.iter L)
  (s9:∀(cl:kW)(C:iG)(s3:iL)(H3:Hp)(fp:kP)(r:jF),let t:=X.comp O scope cl C s3 H3 fp r
   LQ t (λi=>X0 b<=i) c.target A/\KR t c.ifs (tT X.K ti)/\∀d,PB t (jX (.SetComp l (c::f) scope j) 0 (.ref d) t.env)<|IC WP X.K (λi=>X0 b<=i) d B)
  (hg:Gl X z)(hm:X.mg z=WF)(hv:aB z=Wp (.builtin "len"))(hn:z≠"__name__")(f9:(z==("__debug__":ax))=U)
  (h1:aa [.SetComp l (c::f) scope j] X.env=(U,aX (.SetComp l (c::f) scope j) X.env)::aa [] X.env)(d8:(aK y<|aa [] X.env).any (·.1)=U):
  PX X (.Call (.Name z p) [.SetComp l (c::f) scope j] [] y) (uD b k L A ti B):=
 PX.imp (tN afm hg hm hv (lP (Jw (fp:=c.iter.pos) (new:=newSet<|.type "set") (o:=.set (λ_=>U) 0) (g:=tG X.K (λi=>X0 b<=i) A) (ti:=tT X.K ti) (tb:=λd=>IC WP X.K (λi=>X0 b<=i) d B) C.N5 hc ha j4 hs pi s9 (λ_ _ _ k=>wpAny_newSet_of (knd:=l7 X.prog X.w) λ_ R=>k _ λ_=>R) (.inr ⟨_,_,_,_,rfl⟩) (hev:=by cases c;rfl)) oM h1) hn f9 h1 d8) λY H Q h=>by
  have q:=afC h
  have mono:∀{u I:VK},(∀v H,u v H->I v H)->Hw (tI X.K (λi=>i∉b) L) (tG X.K (λi=>X0 b<=i) A) (tT X.K ti) (λd=>IC WP X.K (λi=>X0 b<=i) d B) (yZ b k) Y H u->Hw (tI X.K (λi=>i∉b) L) (tG X.K (λi=>X0 b<=i) A) (tT X.K ti) (λd=>IC WP X.K (λi=>X0 b<=i) d B) (yZ b k) Y H I:=by
   rintro u I hq ⟨δ,T,ds,G,E,h1,kk⟩;refine⟨δ,T,ds,G,E,h1,λJ N P D ok d hd=>?_⟩;obtain⟨W,V,step⟩:=kk J N P D ok d hd;refine⟨W,V,λi m M F w=>?_⟩;rcases step i m M F w with⟨s1,s2⟩|s
   .exact .inl ⟨s1,hq _ _ s2⟩
   exact .inr s
  exact mono (λv N a'=>by obtain⟨S,n,a,e,h2,h3⟩:=a';exact ⟨S,n,a,by rw[e],h2,h3⟩) q
end
end PX
namespace HT
open L2
section
variable {a:jh}{w:jc}{A:je}{E:jB}{s:iL}
end
end HT
namespace L2
section
variable {X:Cx}{e st:iR}{c b:TE}{a d:br}
end
end L2
namespace PX
open L2 PySem.SeqAt
section
variable {X:Cx}{a st:iR}{d fs:FO}{b c:br}
end
section
variable {b:kD}{a:dI}
end
end PX
namespace TT
noncomputable def S:Nat->Nat
 |0=>0
 |n+1=>5*S n+1
theorem Kn(m:Nat):∀n:Nat,S (m+n)=5^n*S m+S n
 |0=>by simp[S]
 |n+1=>by rw[<-xQ,S,Kn m n,S,uS,vn,<-rL,xK 5 (5^n)];lia
theorem Bg:∀n:Nat,∃c,5^n=4*c+1
 |0=>⟨0,rfl⟩
 |n+1=>by obtain⟨c,e⟩:=Bg n;exact⟨5*c+1,by rw[uS,e];lia⟩
theorem QU:∀k:Nat,∃c,S (2^k)=2^k*(2*c+1)
 |0=>⟨0,rfl⟩
 |k+1=>by
  obtain⟨c,e⟩:=QU k;obtain⟨d,f⟩:=Bg (2^k)
  have h:S (2^(k+1))=(5^2^k+1)*S (2^k):=by rw[uS,Nat.mul_two,Kn,f3,GR]
  refine⟨2*(d*c)+d+c,?_⟩;rw[h,f,e,uS];have:4*d+1+1=2*(2*d+1):=by lia
  rw[this,rL 2,xK (2*d+1),rL (2^k),rL (2^k),<-rL 2 (2^k),xK 2 (2^k),rL (2^k) 2]
  congr 2
  rw[f3,vn,GR,xJ,rL 2 c,DC c 2 d,xK c d]
  lia
def QV(k n:Nat):S (2^k+n)%2^k=S n%2^k:=by obtain⟨c,e⟩:=QU k;rw[Kn,e,DC,sm]
def Km:∀(k e:Nat),e<2^k->∃n,n<2^k/\S n%2^k=e:=by
 intro u
 induction u with
 |zero=>intro e h;exact⟨0,by simp,by simp at h;subst h;rfl⟩
 |succ k t=>
  intro e h;have l:0<2^k:=sa k;obtain⟨n,z,s⟩:=t (e%2^k)<|xH _ l;obtain⟨c,m⟩:=QU k;obtain⟨d,o⟩:=Bg n
  have b:S (2^k+n)=2^(k+1)*(4*d*c+2*d+c)+2^k+S n:=by
   rw[Kn,m,o,uS,DC,rL (2^k) 2]
   have:(4*d+1)*(2*c+1)=2*(4*d*c+2*d+c)+1:=by rw[f3,vn,GR,xJ,DC (4*d) 2 c];lia
   rw[this,vn,xJ]
  rw[uS]at h b ⊢;generalize 2^k=P at*;have j:=ss (S n) P;have i:=ss e P;rw[s]at j;have A:e / P<2:=Nat.div_lt_of_lt_mul (by rw[xK]at h;lia)
  have mk:∀a q x,a=P*2*q+x->x<P*2->a%(P*2)=x:=λa q x h1 b=>by rw[h1,sm,Nat.mod_eq_of_lt b]
  have y:=xH e l;have v:S n / P=2*(S n / P / 2)+S n / P%2:=by lia
  have g:S n=P*2*(S n / P / 2)+(P*(S n / P%2)+e%P):=by rw[rL,<-xQ,<-vn,<-v];exact j.symm
  generalize S n / P / 2=q at g;have w:S n / P%2<2:=xH _ (by decide);generalize S n / P%2=r at g w;generalize e / P=f at*;by_cases p:r=f
  .exact⟨n,by lia,mk _ q _ (by rw[g,p,i]) h⟩
  refine⟨P+n,by lia,mk _ (4*d*c+2*d+c+q+r) _ ?_ h⟩;rw[b,g,vn (P*2) _ r,vn (P*2) _ q];rcases(show r=0\/r=1 by lia)with rfl|rfl
  .have:f=1:=by lia
   subst this;rw[GQ,GQ];rw[xJ]at i;lia
  have:f=0:=by lia
  subst this;rw[xJ,xJ];rw[GQ]at i;lia
noncomputable def ls(mask:Nat)(h:Int):Nat->Nat×Nat
 |0=>(aP h%(mask+1),aP h)
 |k+1=>cw mask (ls mask h k).1 (ls mask h k).2
def TR(h:Int):aP h<2^64:=by
 unfold aP;have:=GO h (show(0:Int)<2^64 by decide);have:=GN h (show(2^64:Int)≠0 by decide)
 lia
def JH(mask:Nat)(h:Int):∀k,(ls mask h k).1<=mask
 |0=>by have:=xH (aP h) (show 0<mask+1 by lia);show _%(mask+1)<=_;lia
 |k+1=>by show(_%(mask+1))<=_;have:=xH ((ls mask h k).1*5+1+(ls mask h k).2 / 32) (show 0<mask+1 by lia);lia
theorem JG(mask:Nat)(h:Int):∀k,(ls mask h k).2=aP h / 32^k
 |0=>by simp[ls]
 |k+1=>by show(ls mask h k).2 / 32=_;rw[JG mask h k,uS,Nat.div_div_eq_div_mul]
def SF(mask:Nat)(h:Int)(k:Nat)(hk:13<=k):(ls mask h k).2=0:=by rw[JG];refine Nat.div_eq_of_lt<|ot (TR h) ?_;exact lN (show 2^64<=32^13 by decide)<|xG (by decide) hk
theorem OW(mask:Nat)(h:Int)(m:Nat)(a:(ls mask h 13).1=S m%(mask+1)):∀n,(ls mask h (13+n)).1=S (m+n)%(mask+1)
 |0=>a
 |n+1=>by show(((ls mask h (13+n)).1*5+1+(ls mask h (13+n)).2 / 32)%(mask+1))=_;rw[SF mask h _ (by lia),OW mask h m a n,Nat.zero_div,w4,<-xQ m n 1,S,B1,Nat.mod_mul_mod,<-B1,xK 5]
def FW(hk:mask+1=2^k)(h:Int)(i:e<=mask):∃n,n<mask+14/\(ls mask h n).1=e:=by
 have j:=JH mask h 13;obtain⟨m,d,c⟩:=Km k (ls mask h 13).1 (by lia);obtain⟨q,f,b⟩:=Km k e (by lia);rw[<-hk]at c b d f;have a:=OW mask h m c.symm;by_cases g:m<=q
 .exact⟨13+(q-m),by lia,by rw[a,show m+(q-m)=q by lia];exact b⟩
 refine⟨13+(q+(mask+1)-m),by lia,?_⟩;rw[a,show m+(q+(mask+1)-m)=2^k+q by lia,hk,QV,<-hk];exact b
def HD(mask i:Nat)(h:i<=mask):i<=aH mask i/\aH mask i<=mask/\aH mask i<=i+9:=by unfold aH;split<;>lia
def tm(mask:Nat)(h:Int):Nat->Nat
 |0=>0
 |k+1=>tm mask h k+(aH mask (ls mask h k).1-(ls mask h k).1)+1
theorem Uh(mask:Nat)(h:Int):∀k,tm mask h k<=10*k
 |0=>jZ _
 |k+1=>by have:=Uh mask h k;have:=HD mask _ (JH mask h k);unfold tm;lia
def at_(mask:Nat)(h:Int)(k t:Nat):SetTable.Probe:=⟨(ls mask h k).1+t,aH mask (ls mask h k).1-(ls mask h k).1-t,(ls mask h k).1,(ls mask h k).2,J⟩
theorem vL(mask:Nat)(h:Int):∀k t,t<=aH mask (ls mask h k).1-(ls mask h k).1->pr mask h (tm mask h k+t)=at_ mask h k t
 |0,0,_=>rfl
 |k+1,0,_=>by have e:=vL mask h k (aH mask (ls mask h k).1-(ls mask h k).1)<|jZ _;show L7 mask (pr mask h<|tm mask h k+(aH mask (ls mask h k).1-(ls mask h k).1))=_;rw[e];unfold L7 at_;simp only[Nat.sub_self,mB,gt_iff_lt];rfl
 |k,t+1,a=>by
  have e:=vL mask h k t (by lia);show L7 mask (pr mask h<|tm mask h k+t)=_;rw[e];unfold L7 at_;rw[iZ (show aH mask (ls mask h k).1-(ls mask h k).1-t>0 by lia)];simp
  lia
def agQ(hk:mask+1=2^k)(h:Int)(a:e<=mask):∃n,n<10*(mask+14)/\(pr mask h n).j=e:=by obtain⟨r,b,er⟩:=FW hk h a;have:=Uh mask h r;refine⟨tm mask h r,by lia,?_⟩;have:=vL mask h r 0<|mq _;rw[w4]at this;rw[this];exact er
theorem Oa(mask:Nat)(h:Int):∀n,(pr mask h n).dummy=J
 |0=>rfl
 |n+1=>by show(L7 mask<|pr mask h n).dummy=J;unfold L7;split<;>exact Oa mask h n
theorem FF(mask:Nat)(h:Int):∀n,∃k t,n=tm mask h k+t/\t<=aH mask (ls mask h k).1-(ls mask h k).1
 |0=>⟨0,0,rfl,mq _⟩
 |n+1=>by
  obtain⟨k,t,e,b⟩:=FF mask h n;by_cases a:t+1<=aH mask (ls mask h k).1-(ls mask h k).1
  .exact⟨k,t+1,by lia,a⟩
  exact⟨k+1,0,by unfold tm;lia,mq _⟩
def N9(mask:Nat)(h:Int)(n:Nat):(pr mask h n).j<=mask:=by obtain⟨k,t,e,a⟩:=FF mask h n;rw[e,vL mask h k t a];have:=HD mask _ (JH mask h k);show(ls mask h k).1+t<=mask;lia
def Ef{c:Array Nat}(g:c.toList.Pairwise (· < ·)){i j:Nat}{a b:Nat}(h:i<j)(h1:c[i]?=Y a)(d:c[j]?=Y b):a<b:=by rw[<-nK]at h1 d;obtain⟨e,rfl⟩:=uj.mp h1;obtain⟨f,rfl⟩:=uj.mp d;exact QZ.mp g i j e f h
def Qz{c:Array Nat}(q:c.toList.Pairwise (· < ·))(j:Nat):∀(d lo b:Nat),lo<=b->b<=c.size->b-lo<=d->
  (∀i a,i<lo->c[i]?=Y a->a<j)->(∀i a,b<=i->c[i]?=Y a->j<=a)->
  let p:=SetTable.below.go c j d lo b
  p<=c.size/\(∀i a,i<p->c[i]?=Y a->a<j)/\(∀i a,p<=i->c[i]?=Y a->j<=a):=by
 intro u
 induction u with
 |zero=>
  intro lo b h1 g t h k;have:lo=b:=by lia
  subst this;exact⟨g,h,k⟩
 |succ d r=>
  intro lo b h1 g t h k;unfold SetTable.below.go;by_cases n:lo<b
  .rw[iZ n];have o:(lo+b) / 2<c.size:=by lia
   have m:c[(lo+b) / 2]?=Y c[(lo+b) / 2]:=qJ o;have hd:c.getD ((lo+b) / 2) j=c[(lo+b) / 2]:=by simp[o]
   dsimp only;rw[hd];by_cases l:c[(lo+b) / 2]<j
   .rw[iZ l];refine r ((lo+b) / 2+1) b (by lia) g (by lia) (λi a s f=>?_) k;by_cases e:i=(lo+b) / 2
    .subst e;rw[m]at f;cases f;exact l
    exact Ab (Ef q (by lia) f m) l
   rw[jo l];refine r lo ((lo+b) / 2) (by lia) (by lia) (by lia) h λi a s f=>?_;by_cases e:i=(lo+b) / 2
   .subst e;rw[m]at f;cases f;lia
   have:=Ef q (show(lo+b) / 2<i by lia) m f;lia
  rw[jo n];have:lo=b:=by lia
  subst this;exact⟨g,h,k⟩
def qe{b:Array Nat}(d:b.toList.Pairwise (· < ·))(j:Nat):am b j<=b.size/\(∀i a,i<am b j->b[i]?=Y a->a<j)/\(∀i a,am b j<=i->b[i]?=Y a->j<=a):=
 Qz d j b.size 0 b.size (mq _) (jZ _) (by lia) (λi a h=>by lia) (λi a h1 c=>by have:=(Mh.mp c).1;lia)
def Bv{a:Array Nat}(c:a.toList.Pairwise (· < ·)){i j:Nat}(h:a[i]?=Y j):am a j=i:=by
 obtain⟨h1,d,e⟩:=qe c j;by_cases g:i<am a j
 .exact absurd (d i j g h) (ql _)
 by_cases f:am a j<i
 .have k:=(Mh.mp h).1;have b:a[am a j]?=Y a[am a j]:=qJ (by omega);have:=e _ _ (jZ _) b;have:=Ef c f b h;omega
 omega
theorem EA(j:Nat):Uf #[] j=U:=rfl
def rh{t:mW}(a:t.place.toList.Pairwise (· < ·)){i j:Nat}(h:t.place[i]?=Y j):t.slot j=.live i:=by unfold mi;dsimp only;rw[Bv a h,h];simp
def aex{t:mW}(hd:t.dummies= #[]){j:Nat}(h:j∉t.place.toList):t.slot j=.empty:=by
 unfold mi;dsimp only
 have:(t.place[am t.place j]?==Y j)=U:=by rw[BH];intro e;rw[<-nK]at e;exact h<|nL e
 rw[this,hd,EA];rfl
def QJ(t:mW)(p:c5):t.advance p=L7 t.mask p:=by unfold UV L7;split<;>rfl
def age{l:iO}{t:mW}(ok:BM l t)(hashAt:Nat->Int)(h:Int):∀(a n:Nat),(∃M,n<=M/\M<n+a/\(pr t.mask h M).j∉t.place.toList)->
    ∃m,n<=m/\(∀q,n<=q->q<m->∃i,t.place[i]?=Y (pr t.mask h q).j/\hashAt i≠h)/\
      (((pr t.mask h m).j∉t.place.toList/\d6 t hashAt h a (pr t.mask h n)=Y (.empty (pr t.mask h m).j J))\/
       (∃i,t.place[i]?=Y (pr t.mask h m).j/\hashAt i=h/\d6 t hashAt h a (pr t.mask h n)=Y (.candidate (pr t.mask h m).j i<|pr t.mask h<|m+1))):=by
  intro p
  induction p with
  |zero=>
    rintro n ⟨M,h1,f,g⟩
    lia
  |succ a o=>
    rintro n ⟨M,h1,f,g⟩;unfold d6;by_cases d:(pr t.mask h n).j∈t.place.toList
    · obtain⟨i,c⟩:=sj d
      rw[nK]at c;rw[rh ok.ris c];dsimp only;by_cases b:hashAt i=h
      · refine⟨n,jZ _,λq h1 f=>by lia,.inr ⟨i,c,b,?_⟩⟩
        rw[iZ<|by simpa using b,QJ];rfl
      · rw[jo<|by simpa using b,QJ]
        have s:M≠n:=λe=>g<|e▸d;obtain⟨m,g1,g2,k⟩:=o (n+1) ⟨M,by lia,by lia,g⟩;refine⟨m,by lia,λq u r=>?_,k⟩;by_cases e:q=n
        · subst e;exact⟨i,c,b⟩
        · exact g2 q (by lia) r
    · rw[aex ok.dum d]
      dsimp only;rw[Oa];exact⟨n,jZ _,λq h1 f=>by lia,.inl ⟨d,rfl⟩⟩
def FZ:∀(n:Nat)(l:jQ),X0 l<=n->∃e,e<=n/\e∉l:=by
 intro d
 induction d with
 |zero=>intro l h;exact⟨0,jZ _,by cases l with|nil=>simp|cons _ _=>simp at h⟩
 |succ n c=>
  intro l h;by_cases a:n+1∈l
  .obtain⟨e,h1,b⟩:=c (l.erase<|n+1) (by rw[List.length_erase_of_mem a];lia);exact⟨e,by lia,λz=>b<|(GL<|by lia).mpr z⟩
  exact⟨n+1,jZ _,a⟩
def BM.free(ok:BM f t)(h:Int):∃M,M<10*(t.mask+14)/\(pr t.mask h M).j∉t.place.toList:=by
 obtain⟨k,_,_,hk⟩:=ok.pow
 have h1:(X0 t.place.toList)<=t.mask:=by have:=ok.len;have:=ok.room;rw[mf];lia
 obtain⟨e,c,d⟩:=FZ t.mask _ h1;obtain⟨n,a,b⟩:=agQ hk h c;exact⟨n,a,by rw[b];exact d⟩
def mJ{b:Type}(a:Array b)(p:Nat)(x:b):(aJ a p x).toList=a.toList.take p++x::a.toList.drop p:=by unfold aJ;simp;rw[ek<|by simp]
def aee(h:xs.toList.Pairwise (· < ·))(o:j∉xs.toList):(aJ xs (am xs j) j).toList.Pairwise (· < ·):=by
 obtain⟨h1,m,k⟩:=qe h j;rw[mJ,ui];refine⟨h.sublist<|yf _ _,?_,?_⟩
 .rw[Fb];refine⟨λa d=>?_,h.sublist<|GW _ _⟩;obtain⟨i,c⟩:=sj d;rw[fe]at c;have n:=k _ _ (show am xs j<=am xs j+i by lia) (by rw[<-nK];exact c);have:a≠j:=λe=>o (e▸nL c)
  lia
 intro a d b g
 have f:a<j:=by
  obtain⟨i,c⟩:=sj d;rw[List.getElem?_take]at c;split at c
  .rename_i l;exact m i a l (by rw[<-nK];exact c)
  cases c
 rcases nS.mp g with rfl|g
 .exact f
 obtain⟨i,c⟩:=sj g;rw[fe]at c;have n:=k _ _ (show am xs j<=am xs j+i by lia) (by rw[<-nK];exact c)
 lia
def BM.fresh(finger moves:Nat)(led:Bool):BM [] (j5 finger moves led) where
 pow:=⟨3,by lia,by lia,rfl⟩
 dum:=rfl
 len:=rfl
 room:=by show 5*0<3*7;lia
 ris:=.nil
 bd:=λj h=>by simp[j5]at h
 road:=λi h j h1=>by simp at h1
def BM.put(ok:BM f t)(z:(pr t.mask h n).j∉t.place.toList)(y:∀m,m<n->(pr t.mask h m).j∈t.place.toList)(Q:5*(X0 f+1)<3*t.mask)(B:j=(pr t.mask h n).j)(T:p=am t.place j):
  BM (f.take p++h::f.drop p) (t.put j).1/\(t.put j).2=p:=by
 subst B;subst T
 have u:(t.put (pr t.mask h n).j).1={t with place:=aJ t.place (am t.place (pr t.mask h n).j) (pr t.mask h n).j,dummies:= #[]}:=by unfold nf;dsimp only;rw[ok.dum,EA];rfl
 obtain⟨h1,_,_⟩:=qe ok.ris (pr t.mask h n).j;have E:=ok.len
 have c:∀x,x∈t.place.toList->x∈(aJ t.place (am t.place (pr t.mask h n).j) (pr t.mask h n).j).toList:=λx a=>by
  rw[mJ];rw[<-vq (am t.place (pr t.mask h n).j) t.place.toList]at a;rcases qX.mp a with a|a
  .exact qX.mpr (.inl a)
  exact qX.mpr (.inr<|jU _ a)
 refine⟨?_,rfl⟩;rw[u];generalize w:am t.place (pr t.mask h n).j=P at*;refine⟨ok.pow,rfl,?_,?_,?_,λx a=>?_,λi h' g g1 g2=>?_⟩
 .show(aJ t.place P (pr t.mask h n).j).size=_;rw[<-mf,mJ];simp;lia
 .show 5*_<3*t.mask;simp;lia
 .have:=aee ok.ris z;rw[w]at this;exact this
 .have r:x∈(aJ t.place P (pr t.mask h n).j).toList:=a;rw[mJ]at r;show x<=t.mask;rcases qX.mp r with a|a
  .exact ok.bd x (xS a)
  rcases nS.mp a with rfl|a
  .exact N9 _ _ _
  exact ok.bd x (DG a)
 have b:(aJ t.place P (pr t.mask h n).j).toList[i]?=Y g:=by rw[nK];exact g2
 rw[mJ]at b;show ∃s,(pr t.mask h' s).j=g/\∀m,m<s->(pr t.mask h' m).j∈(aJ t.place P (pr t.mask h n).j).toList;have v:(t.place.toList.take P).length=P:=by rw[uX,mf];lia
 have k:(f.take P).length=P:=by rw[uX];lia
 by_cases A:i<P
 .rw[sv<|by lia,MY A]at g1 b;rw[nK]at b;obtain⟨q,l,o⟩:=ok.road i h' g g1 b;exact⟨q,l,λm e=>c _ (o m e)⟩
 rw[qR<|by lia,v]at b;rw[qR<|by lia,k]at g1
 cases hd:i-P with
 |zero=>rw[hd]at g1 b;simp at g1 b;subst g1;subst b;exact⟨n,rfl,λm e=>c _ (y m e)⟩
 |succ d=>rw[hd]at g1 b;simp only[zP,fe]at g1 b;rw[nK]at b;obtain⟨q,l,o⟩:=ok.road _ h' g g1 b;exact⟨q,l,λm e=>c _ (o m e)⟩
def Im(ow:wc)(j:Nat):Prop:= ∃i,ow.getD j J=Y i
def EB{ow:wc}{j:Nat}{d:Option Nat}(h:j<ow.size):ow.getD j d=ow.getD j J:=by simp[h]
def afv{mask:Nat}{ow:wc}(T:ow.size=mask+1)(h:Int):∀(a k:Nat),(∃r,k<=r/\r<k+a/\¬Im ow (ls mask h r).1)->(∀m,m<tm mask h k->Im ow (pr mask h m).j)->
  ∃n,bH mask ow a (ls mask h k).1 (ls mask h k).2=Y (pr mask h n).j/\¬Im ow (pr mask h n).j/\∀m,m<n->Im ow (pr mask h m).j:=by
 intro A
 induction A with
 |zero=>
  rintro k ⟨r,h1,v,_⟩ _
  lia
 |succ a z=>
  rintro k ⟨r,h1,v,g⟩ l;unfold bH;have x:=JH mask h k;have y:=HD mask _ x
  cases c:(ap<|aH mask (ls mask h k).1+1-(ls mask h k).1).find? λt=>(ow.getD ((ls mask h k).1+t)<|Y 0).isNone with
  |some t=>
   rw[List.find?_range_eq_some]at c;obtain⟨a1,q,s⟩:=c;rw[uY]at q;have p:t<=aH mask (ls mask h k).1-(ls mask h k).1:=by lia
   have e:=vL mask h k t p;refine⟨tm mask h k+t,by rw[e];rfl,?_,λm o=>?_⟩
   .rw[e];rintro⟨i,w⟩;rw[EB (by show(ls mask h k).1+t<_;lia)]at a1;have u:ow.getD ((ls mask h k).1+t) J=Y i:=w;rw[u]at a1;simp at a1
   by_cases d:m<tm mask h k
   .exact l m d
   have b:=vL mask h k (m-tm mask h k) (by lia);rw[show tm mask h k+(m-tm mask h k)=m by lia]at b;rw[b];have:=s (m-tm mask h k) (by lia);rw[EB (by show(ls mask h k).1+(m-tm mask h k)<_;lia)]at this;show Im ow ((ls mask h k).1+(m-tm mask h k));unfold Im
   cases f:ow.getD ((ls mask h k).1+(m-tm mask h k)) J with
   |none=>rw[f]at this;simp at this
   |some i=>exact⟨i,rfl⟩
  |none=>
   rw[List.find?_range_eq_none]at c
   have all:∀t,t<=aH mask (ls mask h k).1-(ls mask h k).1->Im ow ((ls mask h k).1+t):=λt p=>by
    have:=c t (by lia);rw[EB<|by lia]at this;unfold Im
    cases f:ow.getD ((ls mask h k).1+t) J with
    |none=>rw[f]at this;simp at this
    |some i=>exact⟨i,rfl⟩
   have B:r≠k:=λe=>g (by subst e;have:=all 0<|mq _;simpa using this)
   have:=z (k+1) ⟨r,by lia,by lia,g⟩ (λm o=>by
    by_cases d:m<tm mask h k
    .exact l m d
    unfold tm at o;have b:=vL mask h k (m-tm mask h k) (by lia);rw[show tm mask h k+(m-tm mask h k)=m by lia]at b;rw[b];exact all _ (by lia))
   exact this
def Gf{a e:Type}{f g:a->Option e}:∀{l:List a},(∀x∈l,f x=g x)->l.filterMap f=l.filterMap g:=by
 intro d
 induction d with
 |nil=>intro _;exact I
 |cons x l c=>intro h;rw[sV,sV,h x la,c λy b=>h y<|jU _ b]
noncomputable def pU(mask:Nat)(ow:wc):List (Nat×Nat):=(ap<|mask+1).filterMap λj=>(ow.getD j J).map (j,·)
def Q0:(j,i)∈pU mask ow↔j<=mask/\ow.getD j J=Y i:=by
 unfold pU;simp only[M4,uY,dL,Prod.mk.injEq];constructor
 .rintro⟨a,h1,b,c,rfl,rfl⟩;exact⟨by lia,c⟩
 rintro⟨h1,c⟩;exact⟨j,by lia,i,c,rfl,rfl⟩
def Pb(mask:Nat)(ow:wc):((pU mask ow).map (·.1)).Pairwise (· < ·):=by unfold pU;rw[List.map_filterMap,List.pairwise_filterMap];refine Q6.imp λ{a b} e x c y d=>?_;simp at c d;obtain⟨_,_,rfl⟩:=c;obtain⟨_,_,rfl⟩:=d;exact e
def Pa{mask:Nat}{ow:wc}(f:ow.size=mask+1){j k:Nat}(d:j<=mask)(c:ow.getD j J=J):(pU mask<|ow.setIfInBounds j<|Y k).Perm ((j,k)::pU mask ow):=by
 have g:∀i,(ow.setIfInBounds j<|Y k).getD i J=if i=j then Y k else ow.getD i J:=λi=>by
  simp only[vh,DA];by_cases e:i=j
  .subst e;simp[show i<ow.size by lia]
  rw[jo λz=>e z.symm,jo e]
 have split:ap (mask+1)=ap j++j::(ap<|mask-j).map (λx=>j+1+x):=by rw[show mask+1=j+(mask-j+1) by lia,List.range_add,el];simp[uR,xQ,Nat.add_comm 1]
 unfold pU;rw[split,MD,MD,sV,sV];simp only[g,c,mL,Option.map_some]
 have a1:(ap j).filterMap (λi=>(if i=j then Y k else ow.getD i J).map (i,·))=(ap j).filterMap (λi=>(ow.getD i J).map (i,·)):=
  Gf λi a=>by rw[uY]at a;rw[jo<|by lia]
 have b:((ap<|mask-j).map λx=>j+1+x).filterMap (λi=>(if i=j then Y k else ow.getD i J).map (i,·))=((ap<|mask-j).map λx=>j+1+x).filterMap (λi=>(ow.getD i J).map (i,·)):=
  Gf λi a=>by obtain⟨x,_,rfl⟩:=wa.mp a;rw[jo<|by lia]
 rw[a1,b];exact Q7
structure En(mask:Nat)(hs:iO)(ow:wc):Prop where
 size:ow.size=mask+1
 perm:((pU mask ow).map (·.2)).Perm (ap<|X0 hs)
 road:∀j i h,ow.getD j WF=Wp i->hs[i]?=Wp h->∃n,(pr mask h n).j=j/\∀m,m<n->Im ow (pr mask h m).j
def JE(h:Im ow x):Im (ow.setIfInBounds j<|Y k) x:=by
 obtain⟨i,a⟩:=h;unfold Im;simp only[vh,DA]at a ⊢;by_cases e:j=x
 .subst e;rw[iZ I];split
  .exact⟨k,rfl⟩
  rename_i b;rw[GK<|by lia]at a;simp at a
 rw[jo e];exact⟨i,a⟩
def En.step{mask k:Nat}(hk:mask+1=2^k){a:iO}{ow:wc}(ok:En mask a ow)(h:Int)(Q:(X0 a)<=mask):
  ∃j,bH mask ow (bW mask) (aP h%(mask+1)) (aP h)=Y j/\En mask (a++[h]) (ow.setIfInBounds j<|Y<|X0 a):=by
 have o:(pU mask ow).length=(X0 a):=by have:=ok.perm.length_eq;simpa using this
 obtain⟨e,l,y⟩:=FZ mask ((pU mask ow).map (·.1)) (by rw[ke];lia)
 have s: ¬Im ow e:=by rintro⟨i,f⟩;exact y<|wa.mpr ⟨(e,i),Q0.mpr ⟨l,f⟩,rfl⟩
 obtain⟨r,B,v⟩:=FW hk h l;obtain⟨n,f1,t,u⟩:=afv ok.size h (bW mask) 0 ⟨r,mq _,by unfold bW;lia,by rw[v];exact s⟩ (λm c=>by simp[tm]at c);have x:=N9 mask h n
 have p:ow.getD (pr mask h n).j J=J:=by
  cases A:ow.getD (pr mask h n).j J with
  |none=>rfl
  |some i=>exact absurd ⟨i,A⟩ t
 refine⟨_,f1,⟨by rw[Array.size_setIfInBounds];exact ok.size,?_,λj i w g1 g2=>?_⟩⟩
 .refine((Pa ok.size x p).map _).trans ?_;rw[kc,nR,yc,List.range_succ];exact(ik _ ok.perm).trans (MC _ _).symm
 by_cases b:j=(pr mask h n).j
 .subst b
  have:i=(X0 a):=by simp only[vh,DA]at g1;rw[iZ bv,iZ<|by rw[ok.size];lia]at g1;exact(kT g1).symm
  subst this;rw[qR<|jZ _]at g2;simp at g2;subst g2;exact⟨n,rfl,λm c=>JE<|u m c⟩
 have d:ow.getD j J=Y i:=by simp only[vh,DA]at g1 ⊢;rw[jo λz=>b z.symm]at g1;exact g1
 have f:i<(X0 a):=by
  have g:j<=mask:=by
   by_cases q:j<ow.size
   .have:=ok.size;lia
   rw[vh,GK<|by lia]at d;simp at d
  have:=ok.perm.mem_iff.mp<|wa.mpr ⟨(j,i),Q0.mpr ⟨g,d⟩,rfl⟩;exact uY.mp this
 rw[sv f]at g2;obtain⟨q,T,E⟩:=ok.road j i w d g2;exact⟨q,T,λm c=>JE<|E m c⟩
def En.start(mask:Nat):En mask [] (fZ (mask+1) J) where
 size:=by simp
 perm:=by
  have:pU mask (fZ (mask+1) J)=[]:=by unfold pU;refine List.filterMap_eq_nil_iff.mpr λj a=>?_;rw[vh,MA];split<;>rfl
  rw[this];exact vo _
 road:=λj i h h1=>by rw[vh,MA]at h1;split at h1<;>cases h1
noncomputable def wN(mask:Nat)(a:Option (Array (Option Nat)×Nat))(h:Int):Option (Array (Option Nat)×Nat):=do
 let(owner,k) <-a
 let j <-bH mask owner (bW mask) (aP h%(mask+1)) (aP h)
 pure (owner.setIfInBounds j<|Y k,k+1)
def Pe{mask k:Nat}(hk:mask+1=2^k):∀(l a:iO)(ow:wc),En mask a ow->X0 a+X0 l<=mask+1->
  ∃c,l.foldl (wN mask) (Y (ow,X0 a))=Y (c,X0 a+X0 l)/\En mask (a++l) c:=by
 intro m
 induction m with
 |nil=>intro a ow ok _;exact⟨ow,rfl,by rw[sA];exact ok⟩
 |cons h l i=>
  intro a ow ok g;rw[nJ]at g;obtain⟨j,e,d⟩:=ok.step hk h (by lia);obtain⟨c,f,b⟩:=i (a++[h]) _ d (by rw[nR,yc];lia);refine⟨c,?_,by rw[pM]at b;exact b⟩;rw[xR]
  have:wN mask (Y (ow,X0 a)) h=Y (ow.setIfInBounds j<|Y<|X0 a,X0 a+1):=by unfold wN;show(bH mask ow (bW mask) (aP h%(mask+1)) (aP h)>>=_)=_;rw[e];rfl
  rw[this];rw[nR,yc]at f;rw[f,nJ]
  congr 2;lia
def adV(hk:mask+1=2^k)(a:iO)(c:(X0 a)<=mask):∃ow,g7 mask a.toArray=Y ow/\En mask a ow:=by
 obtain⟨ow,e,ok⟩:=Pe hk a [] _ (En.start mask) (by simp;lia);refine⟨ow,?_,by simpa using ok⟩;unfold g7;rw[<-Array.foldl_toList];show vv _ (B2 (wN mask) _ a)=_;have b:B2 (wN mask) (Y (fZ (mask+1) J,0)) a=Y (ow,X0 a):=by simpa using e
 rw[b];rfl
def SU(hk:mask+1=2^k)(w:3<=k)(o:k<=11)(finger moves:Nat)(led plain:Bool)(d:iO)(E:5*(X0 d)<3*mask):
  ∃t c,mj mask finger moves led plain d.toArray=Y (t,c)/\c.toList.Perm (ap<|X0 d)/\BM (c.toList.map λi=>d.getD i 0) t/\t.plain=plain/\t.led=led:=by
 obtain⟨ow,e,ok⟩:=adV hk d (by lia);refine⟨{mask,place:=((pU mask ow).map (·.1)).toArray,dummies:= #[],finger,led,moves,plain},((pU mask ow).map (·.2)).toArray,?_,by simpa using ok.perm,?_,rfl,rfl⟩
 .unfold mj;rw[e];rfl
 have g:(pU mask ow).length=(X0 d):=by have:=ok.perm.length_eq;simpa using this
 refine⟨⟨k,w,o,hk⟩,rfl,by simp,by simp[g];lia,by simpa using Pb mask ow,λj z=>?_,λi h j g1 g2=>?_⟩
 .have u:j∈(pU mask ow).map (·.1):=by simpa using z
  obtain⟨⟨a,b⟩,q,rfl⟩:=wa.mp u;exact(Q0.mp q).1
 have r:((pU mask ow).map (·.2)).map (λi=>d.getD i 0)=(((pU mask ow).map (·.2)).toArray).toList.map λi=>d.getD i 0:=by simp
 rw[<-r,kQ,kQ]at g1;have f:((pU mask ow).map (·.1))[i]?=Y j:=by simpa using g2
 rw[kQ]at f
 cases l:(pU mask ow)[i]? with
 |none=>rw[l]at f;cases f
 |some p=>
  obtain⟨a,b⟩:=p;rw[l]at g1 f;simp at g1 f;subst f;have q:=Q0.mp<|nL l
  have x:b<(X0 d):=by have:=ok.perm.mem_iff.mp<|wa.mpr ⟨(a,b),nL l,rfl⟩;exact uY.mp this
  have y:d[b]?=Y h:=by rw[jT x]at g1 ⊢;simpa using g1
  obtain⟨n,B,T⟩:=ok.road a b h q.2 y;refine⟨n,B,λm v=>?_⟩;obtain⟨A,s⟩:=T m v;show(pr mask h m).j∈(((pU mask ow).map (·.1)).toArray).toList;have:(pr mask h m).j∈(pU mask ow).map (·.1):=wa.mpr ⟨(_,A),Q0.mpr ⟨N9 mask h m,s⟩,rfl⟩;simpa using this
def adK:∀n,n<2048->∃k,3<=k/\k<=11/\eG n=2^k/\n<2^k:=by
 intro n h
 have step:∀(f k:Nat),3<=k->k<=11->11<k+f->∃b,3<=b/\b<=11/\SetTable.sizeAbove.go n f (2^k)=2^b/\n<2^b:=by
  intro f
  induction f with
  |zero=>intro k h1 c d;lia
  |succ f g=>
   intro k h1 c d;unfold SetTable.sizeAbove.go;by_cases a:2^k<=n
   .rw[iZ a,<-uS];have:k≠11:=λe=>by subst e;lia
    exact g (k+1) (by lia) (by lia) (by lia)
   rw[jo a];exact⟨k,h1,c,rfl,by lia⟩
 exact step 64 3 (by lia) (by lia) (by lia)
open PyProof.Rows PySem.SeqAt
def afa{k:iO}{t:mW}(ok:BM k t){hashAt:Nat->Int}{h:Int}{p:c5}{n:Nat}(g:p=pr t.mask h n)(f:∀m,m<n->(pr t.mask h m).j∈t.place.toList):
    ∃m,n<=m/\m<10*(t.mask+14)/\(∀q,n<=q->q<m->∃i,t.place[i]?=Y (pr t.mask h q).j/\hashAt i≠h)/\
      (((pr t.mask h m).j∉t.place.toList/\t.probe hashAt h p=Y (.empty (pr t.mask h m).j J))\/
       (∃i,t.place[i]?=Y (pr t.mask h m).j/\hashAt i=h/\t.probe hashAt h p=Y (.candidate (pr t.mask h m).j i<|pr t.mask h<|m+1))):=by
  subst g;obtain⟨M,h1,a⟩:=ok.free h
  have c:n<=M:=by
    by_cases b:M<n
    · exact absurd (f M b) a
    · lia
  obtain⟨m,g1,g2,e⟩:=age ok hashAt h (10*bW t.mask) n ⟨M,c,by unfold bW;lia,a⟩
  have l:m<=M:=by
    by_cases b:M<m
    · obtain⟨i,d,_⟩:=g2 M c b
      rw[<-nK]at d;exact absurd (nL d) a
    · lia
  exact⟨m,g1,by lia,g2,e⟩
section
variable {prog:jh}{w:jc}{A:je}{E:jB}{s:iL}
structure KG(A:je)(s:iL)(a:iG)(es:sJ)(n:Nat)(t:mW)(x:iQ)(h:Int)(eqs:Nat->Bool):Prop where
 at_:∃o,s.heap.get? a=Wp o/\o.data=.set es n t
 tab:BM (es.toList.map (·.1)) t
 refs:∀(i:Nat)(e:Int×iQ),es[i]?=Wp e->∃b,e.2=.ref b
 eq:∀(i:Nat)(e:Int×iQ),es[i]?=Wp e->EqAt A s e.2 x (eqs i)
 hash:∀(i:Nat)(e:Int×iQ),es[i]?=Wp e->eqs i=WP->e.1=h
 quiet:∀(l:jP)(prog:jh)(w:jc)(E:jB)(Q:sM),(∀v∈l,∃e∈es.toList,e.2=v)->Q W1 s->ag (ah prog w) A (u8 x l) Q E s
def agE(ok:BM c t):t.gaveWay=U:=by
 obtain⟨k,h1,_,b⟩:=ok.pow;obtain⟨a,rfl⟩:∃a,k=a+1:=⟨k-1,by lia⟩
 rw[uS]at b;unfold UF;rw[BH];lia
def J1(ok:BM a t)(h:(X0 a)=n):t.fits n=C:=by have:=ok.len;have:=ok.room;unfold mm mo;rw[ok.dum];simp only[ma,Gx,wd];exact⟨by lia,by show _+0<=_;lia⟩
def KG.fits{a b n t x h eqs}(S:KG A s a b n t x h eqs):t.fits b.size=C:=J1 S.tab (by simp)
def yL{a:iG}{k:sJ}{nn:Nat}{t:mW}{x:iQ}{h:Int}{c:Nat->Bool}{adding:Bool}(S:KG A s a k nn t x h c){Q:SetFound->Shared->Prop}
  (H:∀i r,c i=WP->i<k.size->(r=WF\/r=Wp i)->(adding=W1->r=Wp i)->Q (.there r) s)
  (i9:(∀i,i<k.size->c i=W1)->∀n,(pr t.mask h n).j∉t.place.toList->(∀m,m<n->(pr t.mask h m).j∈t.place.toList)->Q (.free (pr t.mask h n).j W1) s):
  ∀(l n:Nat)(u:Option c5),u.getD (t.probeStart h)=pr t.mask h n->(∀q,q<n->∃i,t.place[i]?=Wp (pr t.mask h q).j/\c i=W1)->10*(t.mask+14)<n+l->n<=10*(t.mask+14)->
   ag (ah prog w) A (IX a x h adding l u) Q E s:=by
 intro iV
 induction iV with
 |zero=>
  intro n u _ _ W Z
  lia
 |succ l iH=>
  intro n u k6 U W Z;obtain⟨o,G,hd⟩:=S.at_
  have Im:∀m,m<n->(pr t.mask h m).j∈t.place.toList:=λm X=>by obtain⟨i,g,_⟩:=U m X;rw[<-nK]at g;exact nL g
  unfold IX;refine iI<|sP G hd S.fits ?_;dsimp only;rw[agE S.tab];simp only[kX,↓reduceIte];generalize V:t.probe _ h _=P;obtain⟨m,m1,m2,m3,F⟩:=afa S.tab k6 Im (hashAt:=λi=>(k[i]?.map (·.1)).getD 0);have T:t.probe (λi=>(k[i]?.map (·.1)).getD 0) h (u.getD<|t.probeStart h)=P:=V;rw[T]at F
  have N:∀(i:Nat)(j:Nat),t.place[i]?=Wp j->∃e,k[i]?=Wp e/\(k[i]?.map (·.1)).getD 0=e.1:=λi j g=>by have h1:=(Mh.mp g).1;have L:=S.tab.len;rw[ke,mf]at L;exact⟨k[i],qJ<|by lia,by rw[qJ<|by lia];rfl⟩
  have ne:∀(i:Nat)(j:Nat),t.place[i]?=Wp j->(k[i]?.map (·.1)).getD 0≠h->c i=W1:=λi j g O=>by
   obtain⟨e,f,Y⟩:=N i j g
   cases d:c i
   .rfl
   exact absurd (Y.trans<|S.hash i e f d) O
  have seen:∀q,q<m->∃i,t.place[i]?=Wp (pr t.mask h q).j/\c i=W1:=λq d=>by
   by_cases p:q<n
   .exact U q p
   obtain⟨i,g,O⟩:=m3 q (by lia) d;exact⟨i,g,ne i _ g O⟩
  rcases F with⟨a1,a2⟩|⟨i,a1,a2,a3⟩
  .subst a2;dsimp only;refine iX<|i9 (λi g=>?_) m a1 λq d=>?_
   .cases d:c i
    .rfl
    exfalso;have f:k[i]?=Wp k[i]:=qJ g;have h1:=S.hash i _ f d;have L:=S.tab.len;rw[ke,mf]at L;have B:t.place[i]?=Wp t.place[i]:=qJ (by lia);obtain⟨M,K,r2⟩:=S.tab.road i h t.place[i] (by rw[kQ,nK,f];exact oo Wp h1) B
    have:M<m:=by
     by_cases p:M<m
     .exact p
     exfalso;rcases m4 (M6.mp p)with p|heq
     .exact a1 (r2 m p)
     subst heq;rw[<-nK]at B;rw[K]at a1;exact a1<|nL B
    obtain⟨i',g1,g2⟩:=seen M this;rw[K]at g1;have:i'=i:=by rw[<-Bv S.tab.ris g1,Bv S.tab.ris B]
    rw[this,d]at g2;cases g2
   obtain⟨i,g,_⟩:=seen q d;rw[<-nK]at g;exact nL g
  subst a3;dsimp only;obtain⟨e,f,Y⟩:=N i _ a1;obtain⟨h',y⟩:=e;obtain⟨b,D⟩:=S.refs i _ f;dsimp only at D;subst D;have I:t.sameMemory t.moves t.mask=Wp WP:=by simp[TW]
  have C:i<k.size:=(Mh.mp f).1;cases hl:t.led
  .simp only[gk];refine iI<|S.quiet _ _ _ _ _ (λv hv=>?_) ?_
   .obtain⟨e,R,rfl⟩:=wa.mp hv;exact⟨e,(XQ.mp (by simpa using(Array.mem_filter.mp<|XQ.mp R).1) |> λz=>by simpa using z),rfl⟩
   simp only[kX];rw[f];dsimp only;refine iI<|md<|S.eq i _ f _ _ _ _ ?_;refine iI<|sP G hd S.fits ?_;dsimp only
   cases d:c i with
   |true=>
    cases adding with
    |true=>simp;exact iX<|H i WF d C (.inl XV) (λz=>by cases z)
    |false=>simp only[eL,kX,↓reduceIte,I,rh S.tab.ris a1,f];refine iI<|Dz ?_;simp;exact iI<|iX<|iX<|H i _ d C (.inr XV) λ_=>rfl
   |false=>
    simp only[gm,kX,↓reduceIte,I,rh S.tab.ris a1,f];refine iI<|Dz ?_;simp;refine iI<|iX ?_
    exact iH (m+1) _ rfl (λq J=>by
     by_cases e:q=m
     .subst e;exact⟨i,a1,d⟩
     exact seen q (by lia)) (by lia) (by lia)
  simp only[sO,kX];rw[f];dsimp only;refine iI<|md<|S.eq i _ f _ _ _ _ ?_;refine iI<|sP G hd S.fits ?_;dsimp only
  cases d:c i with
  |true=>
   cases adding with
   |true=>simp;exact iX<|H i WF d C (.inl XV) (λz=>by cases z)
   |false=>simp only[eL,kX,↓reduceIte,I,rh S.tab.ris a1,f];refine iI<|Dz ?_;simp;exact iI<|iX<|iX<|H i _ d C (.inr XV) λ_=>rfl
  |false=>
   simp only[gm,kX,↓reduceIte,I,rh S.tab.ris a1,f];refine iI<|Dz ?_;simp;refine iI<|iX ?_
   exact iH (m+1) _ rfl (λq J=>by
    by_cases e:q=m
    .subst e;exact⟨i,a1,d⟩
    exact seen q (by lia)) (by lia) (by lia)
end
noncomputable abbrev kU(a:sJ)(n:Nat)(t:mW):Obj:={cls:=.type "set",data:=.set a n t}
section
variable {c:jh}{w:jc}{A:je}{E:jB}{s:iL}
def Ft{h:jb}{a:iG}{b es':sJ}{n:Nat}{t t':mW}(d:h.get? a=Y (kU b n t)):(h.update a<|mu es' t').get? a=Y (kU es' (n+1) t'):=by have:=tE (mu es' t') d (by rw[putSet_of es' t' I];rfl);rw[putSet_of es' t' I]at this;exact this
def agn{b:Type}(a:Array b):(ap a.size).filterMap (λi=>a[i]?)=a.toList:=by
 have:∀(l:List b),(ap<|X0 l).filterMap (λi=>l[i]?)=l:=by
  intro l
  induction l with
  |nil=>rfl
  |cons x l d=>rw[nJ,el,sV];simp only[vg,lf,uR,zP,d]
 have h:=this a.toList;simpa using h
def Tn{a:sJ}:∀(l:jQ),(∀i∈l,i<a.size)->(l.filterMap λi=>a[i]?).map (·.1)=l.map λi=>(a.toList.map (·.1)).getD i 0:=by
 intro f
 induction f with
 |nil=>intro _;exact I
 |cons i l e=>
  intro h;have b:=h i la;rw[sV,qJ b];simp;rw[e λj d=>h j<|jU _ d]
  congr 1
  simp[b]
def agl{a:iG}{d:sJ}{n:Nat}{t:mW}(j:s.heap.get? a=Y (kU d n t))(x:t.fits d.size=C)(N:5<=d.size)(O:d.size<=500){Q:Unit->Shared->Prop}
  (h:∀g es' M t',aE a s.heap g->g.get? a=Y (kU es' M t')->es'.toList.Perm d.toList->BM (es'.toList.map (·.1)) t'->t'.plain=t.plain->t'.led=t.led->Q () {s with heap:=g}):
  ag (ah c w) A (setRelay a<|fQ d.size) Q E s:=by
 have y:fQ d.size=d.size*4:=by unfold fQ;rw[jo<|by lia]
 obtain⟨k,T,l,v,lk⟩:=adK (d.size*4) (by lia);have B:eG (d.size*4)-1+1=2^k:=by have:=sa k;lia
 obtain⟨t',b,p,f,q,r,u⟩:=SU B T l t.finger (t.movedTo<|eG (d.size*4)-1) t.led t.plain (d.toList.map (·.1)) (by rw[ke,mf];lia);rw[ke,mf]at f
 have er:t.relaid (d.map (·.1)) (d.size*4)=Y (t',b):=by unfold T2;rw[<-p,<-Array.toList_map]
 have o:∀i∈b.toList,i<d.size:=λi z=>uY.mp<|f.mem_iff.mp z;have m:(b.filterMap (d[·]?)).toList=b.toList.filterMap (λi=>d[i]?):=by simp
 have e:(b.filterMap (d[·]?)).toList.Perm d.toList:=by rw[m];refine(f.filterMap _).trans ?_;rw[agn]
 have sz:(b.filterMap (d[·]?)).size=d.size:=by rw[<-mf,e.length_eq,mf]
 rw[y];unfold setRelay;refine iI<|sP j I x ?_;dsimp only
 have L:2^k<=sizeLine:=by have:2^k<=2^11:=xG (by decide) l;rw[ku];lia
 rw[jo<|by rw[v];lia,er];refine iI ?_;change ag _ _ (if((b.filterMap (d[·]?)).size !=d.size)=C then _ else _) _ _ _;rw[jo<|by rw[sz];simp];refine iX ?_;dsimp only;refine t9 j I ?_ (by rw[sz,ku];lia);refine h _ (b.filterMap (d[·]?)) (n+1) t' (si s.heap a _) (Ft j) e ?_ r u;rw[m,Tn _ o];exact q
def tU{b:Type}(a:Array b)(p:Nat)(x:b):(aJ a p x).toList.Perm (x::a.toList):=by rw[mJ];refine Q7.trans ?_;rw[vq]
def VV{a:sJ}{t:mW}{h:Int}{m:Nat}(x:iQ)(f:BM (a.toList.map (·.1)) t)(v:t.plain=C)(h1:(pr t.mask h m).j∉t.place.toList)(y:∀i,i<m->(pr t.mask h i).j∈t.place.toList):
  ∃p o,aJ a (t.put (pr t.mask h m).j).2 (h,x)=p/\(t.put (pr t.mask h m).j).1=o/\p.size=a.size+1/\o.plain=C/\o.led=t.led/\p.toList.Perm ((h,x)::a.toList)/\o.fits p.size=C/\(o.tooFull=C->5<=p.size)/\(o.tooFull=U->BM (p.toList.map (·.1)) o):=by
 have q:(t.put (pr t.mask h m).j).1={t with place:=aJ t.place (am t.place (pr t.mask h m).j) (pr t.mask h m).j,dummies:= #[]}:=by unfold nf;dsimp only;rw[f.dum,EA];rfl
 have r:(aJ a (t.put (pr t.mask h m).j).2 (h,x)).size=a.size+1:=by rw[<-mf,(tU a _ _).length_eq,nJ,mf]
 have d:a.toList.length=a.size:=mf;have l:=f.len;rw[ke,d]at l
 have g:(t.put (pr t.mask h m).j).1.place.size=a.size+1:=by rw[q];show(aJ t.place _ _).size=_;rw[<-mf,(tU t.place _ _).length_eq,nJ,mf,l]
 have b:(t.put (pr t.mask h m).j).1.fill=a.size+1:=by unfold mo;rw[g,q];rfl
 have e:(t.put (pr t.mask h m).j).1.mask=t.mask:=by rw[q]
 have n:=f.room;rw[ke,d]at n
 have Q:7<=t.mask:=by
  obtain⟨k,B,_,O⟩:=f.pow;have:2^3<=2^k:=xG (by decide) B
  lia
 have u:(t.put (pr t.mask h m).j).1.tooFull=decide ((a.size+1)*5>=t.mask*3):=by unfold TD;rw[b,e]
 refine⟨_,_,rfl,rfl,r,by rw[q];exact v,by rw[q],tU a _ _,?_,λz=>?_,λz=>?_⟩
 .unfold mm;rw[g,r,b,e];simp;lia
 .rw[u]at z;have:=Dy z;rw[r];lia
 rw[u]at z;have:=of_decide_eq_false z;obtain⟨T,L⟩:=f.put h1 y (by rw[ke,d];lia) I I;rw[mJ,nQ,kc,t7,List.map_drop];exact T
def aaL{a b:iG}{f:sJ}{n:Nat}{t:mW}{h:Int}{e:Nat->Bool}(S:KG A s a f n t (.ref b) h e)(p:s.heap.get? a=Wp (kU f n t))(J:t.plain=WP)(hz:f.size+1<=500)
  (y:∀(H:sM),H WP s->ag (ah c w) A (gy 8<|.ref b) H E s){Q:sM}
  (hold:(∃i,i<f.size/\e i=WP)->Q W1 s)
  (O:(∀i,i<f.size->e i=W1)->∀h' es' B t',aE a s.heap h'->h'.get? a=Wp (kU es' B t')->es'.toList.Perm ((h,.ref b)::f.toList)->BM (es'.toList.map (·.1)) t'->t'.plain=WP->t'.led=t.led->Q WP {s with heap:=h'}):
  ag (ah c w) A (M0 a (.ref b) h) Q E s:=by
 unfold M0 setAddHashedIn;refine md<|iI<|sP p XV S.fits ?_;dsimp only;have F:byScan (.ref b) f=W1:=rfl;rw[F];simp only[kX]
 have V:t.mask+1<=2048:=by
  obtain⟨k,_,M,R⟩:=S.tab.pow;have:2^k<=2^11:=xG (by decide) M
  lia
 refine iI<|yL S (adding:=WP) (λi r h1 x _ _=>?_) (λI m h1 x=>?_) 100000 0 WF XV (λq W=>by lia) (by lia) (by lia)
 .dsimp only;exact iX<|hold ⟨i,x,h1⟩
 dsimp only;refine iI<|sP p XV S.fits ?_;dsimp only;obtain⟨L,C,K,P,v,u,d,G,g,z,j⟩:=VV (.ref b) S.tab J h1 x;rw[K,P,iZ u];refine iI<|y _ ?_;simp;refine iI<|t9 p XV ?_ (by rw[v,ku];lia);have T:=Ft (es':=L) (t':=C) p;have o:=si s.heap a (mu L C)
 cases l:C.tooFull with
 |true=>simp;rw[<-v];refine iI<|agl T g (z l) (by rw[v];lia) λh' es' B t' g1 g2 N U Y D=>?_;exact iX<|O I h' es' B t' (o.trans g1) g2 (N.trans G) U (by rw[Y];exact u) (by rw[D];exact d)
 |false=>simp;exact iX<|O I _ _ _ _ o T G (j l) u d
def aae(S:KG A s a d n t (.ref b) h eqs)(o:s.heap.get? a=Y (kU d n t))
  (h1:∀i,i<d.size->eqs i=C->Q (Y i) s)(l:(∀i,i<d.size->eqs i=U)->Q J s):ag (ah c w) A (setFind a (.ref b) h) Q E s:=by
 unfold setFind setFindIn;refine iI<|sP o I S.fits ?_;dsimp only;have j:byScan (.ref b) d=U:=rfl;rw[j];simp
 have u:t.mask+1<=2048:=by
  obtain⟨k,_,f,p⟩:=S.tab.pow;have:2^k<=2^11:=xG (by decide) f
  lia
 refine iI<|yL S (adding:=U) (λi r g1 g2 _ g=>?_) (λe m _ _=>?_) 100000 0 J I (λq v=>by lia) (by lia) (by lia)
 .rw[g I];exact iX<|h1 i g2 g1
 exact iX (l e)
end
end TT
namespace PX
open L2 PySem.SeqAt TS
def D.K7:∀l:List D,D.El l=l.map D.hash:=by
 intro b
 induction b with
 |nil=>rw[D.El];rfl
 |cons d l a=>rw[D.El,a];rfl
def N8:∀{l:List D}{d:D},D.Hz l=C->d∈l->D.pr d=C:=by
 intro c
 induction c with
 |nil=>intro d _ h;simp at h
 |cons e l b=>
  intro d a h;rw[D.Hz,ma]at a;rcases nS.mp h with rfl|h
  .exact a.1
  exact b a.2 h
def Bp:∀{l:List D}{d:D},d∈l->d.dep<=D.BI l:=λ{l d} h=>by obtain⟨j,a⟩:=sj h;exact D.ES a
section
variable {X:Cx}{f:jF}{g:L2.St}{H:Hp}{s:iL}
def IB(X:Cx)(H:Hp)(O:AA)(c:List D)(a:jP):Prop:= ∃b,YP X.K H O c b/\Vals b a
def IB.cons(h:IB X H O (d::ds) (v::c)):(∃x,Rep X.K H O d x/\RelV x v)/\IB X H O ds c:=by
 obtain⟨k,r,vs⟩:=h;rw[YP]at r;obtain⟨x,j,rfl,e,i⟩:=r
 cases vs with
 |cons a b=>exact⟨⟨x,e,a⟩,j,i,b⟩
def IB.nil_of{O:AA}{a:List D}(h:IB X H O a []):a=[]:=by
 obtain⟨c,r,b⟩:=h;cases b
 cases a with
 |nil=>rfl
 |cons d a=>rw[YP]at r;obtain⟨_,_,e,_⟩:=r;cases e
def IB.cons_of(h:IB X H O a (v::c)):∃d b,a=d::b:=by
 cases a with
 |nil=>obtain⟨i,r,e⟩:=h;rw[YP]at r;subst r;cases e
 |cons d a=>exact⟨d,a,rfl⟩
def PJ:∀(n:Nat){s:iL}(I:Inv X f g H s)(d:D)(v:V)(u:iQ)(O:AA)(A:je)(E:jB)(Q:Int->Shared->Prop),Rep X.K H O d v->RelV v u->D.pr d=C->d.dep<=n->A.units+n<aV->(∀j,s.toks<=j->Q d.hash {s with toks:=j})->
  ag (ah X.prog X.w) A (pyHash u) Q E s:=by
 intro n
 induction n with
 |zero=>
  intro s I d v u O A E Q c L p hd S z
  cases d with
  |int i=>have:=c.int;subst this;obtain⟨t,rfl⟩:=L;have:=z (s.toks+1)<|Ac _;rw[D.hash]at this;exact Ho this
  |tup l=>rw[D.dep]at hd;lia
  |_=>simp[D.pr]at p
 |succ n ih=>
  intro s I d v u O A E Q c L p hd S z
  cases d with
  |int i=>have:=c.int;subst this;obtain⟨t,rfl⟩:=L;have:=z (s.toks+1)<|Ac _;rw[D.hash]at this;exact Ho this
  |tup l=>
   rw[D.pr]at p;rw[D.dep]at hd;obtain⟨a,xs,rfl,q,r⟩:=c.tup;cases L;obtain⟨its,vs,⟨o,Y,W,nn,P⟩,_⟩:=I.tuple q.sq;have B:s.TypeIs (.ref a) "tuple":=⟨o,Y,W⟩
   have Z:A.units<cLine:=by lia
   unfold pyHash;unfold pyHashByItsType;refine iI<|wpAny_cRoomFor_or (.inr Z) ?_;refine iI<|vf B IH.lookup ?_;show ag _ _ (if(Wp (cb "tuple.__hash__")==Wp au)=C then _ else _) Q E s;rw[jo<|by rw[wn];exact kR];refine iI<|vf B IH.lookup ?_;show ag _ _ (callSpecialIfBoundUnlessNone? (.ref a) "__hash__" _>>=_) Q E s;refine iI<|wpAny_callSpecialIfBoundUnlessNone?_slot B IH<|qj IH B PySem.F.entry_tuple_hash ?_<|PySem.F.args_tuple_hash_1 _;show ag _ _ (cH (.ref a)>>=_) _ _ s;refine iI<|wpAny_tupleItemsOf Y P ?_;refine iI ?_;rw[<-Dx]
   refine xP _
    (λm (b:Array Int) J'=>∃done left,l=done++left/\IB X H (λa=>O a) left m/\b.toList=done.map D.hash/\∃j,s.toks<=j/\J'={s with toks:=j})
    _ ?_ ?_ _ _ ⟨[],l,rfl,⟨xs,r,by simpa using vs⟩,rfl,s.toks,jZ _,rfl⟩
   .rintro x m b J' ⟨done,left,rfl,C',G,j,T,rfl⟩;obtain⟨d,left,rfl⟩:=C'.cons_of;obtain⟨⟨y,h1,R⟩,N⟩:=C'.cons;have U:d∈done++d::left:=by simp
    have dF:=Bp U;refine iI<|ih (I.kept (h':=s.heap) (t':=j) λ_ _ e=>e) d y x O A.in1 E _ h1 R (N8 p U) (by lia) (by show A.units+1+n<aV;lia) λM k=>?_
    first
     |exact iX ⟨done++[d],left,by simp,N,by simp[G],M,lN T k,rfl⟩
     |exact iI<|iX<|iX ⟨done++[d],left,by simp,N,by simp,M,lN T k,rfl⟩
   rintro b J' ⟨done,left,rfl,C',G,j,T,rfl⟩;have:=C'.nil_of;subst this;have h:=z (j+1)<|nt T;rw[D.hash,D.K7,sA]at h;show ag _ _ (retInt<|bg b.toList) _ _ _;rw[G];refine wpAny_ret_mkInt ?_;show ag _ _ (if(decide (-(2:Int)^63<=bg (done.map D.hash))&&decide (bg (done.map D.hash)<2^63))=C then _ else _) Q E _;unfold reduceHash at h;by_cases c:(decide (-(2:Int)^63<=bg (done.map D.hash))&&decide (bg (done.map D.hash)<2^63))=C
   .rw[iZ c];rw[iZ c]at h;exact iX h
   rw[jo c];rw[jo c]at h;exact iI<|sQ<|iX h
  |_=>simp[D.pr]at p
def PC{P:jh}{W:jc}{F:Nat->iQ->dP Bool}{c:Bool}(I:Inv X f g H s)(p:∀n i t,F n (.int i t)=pure c)
  (U:∀(n:Nat)(a:iG)(o:eZ)(b:jP)(m:Nat)(A:je)(E:jB)(Q:sM),s.heap.get? a=Wp o->s.TypeIs (.ref a) "tuple"->o.data=.seq b.toArray m->
   (∀u∈b,∀Q:Bool->Shared->Prop,Q c s->ag (ah P W) A (F n u) Q E s)->Q c s->ag (ah P W) A (F (n+1)<|.ref a) Q E s):∀(n:Nat)(d:D)(v:V)(u:iQ)(O:AA)(A:je)(E:jB)(Q:sM),Rep X.K H O d v->RelV v u->D.pr d=WP->d.dep<=n->Q c s->ag (ah P W) A (F n u) Q E s:=by
 intro n
 induction n with
 |zero=>
  intro d v u O A E Q j k e hd h
  cases d with
  |int i=>have:=j.int;subst this;obtain⟨t,rfl⟩:=k;exact wg (p _ _ _) h
  |tup l=>rw[D.dep]at hd;omega
  |_=>simp[D.pr]at e
 |succ n ih=>
  intro d v u O A E Q j k e hd h
  cases d with
  |int i=>have:=j.int;subst this;obtain⟨t,rfl⟩:=k;exact wg (p _ _ _) h
  |tup l=>rw[D.pr]at e;rw[D.dep]at hd;obtain⟨a,T,rfl,q,r⟩:=j.tup;cases k;obtain⟨b,C,⟨o,z,J,m,G⟩,_⟩:=I.tuple q.sq;refine U n a o b m A E Q z ⟨o,z,J⟩ G (λu Y Q N=>?_) h;obtain⟨i,x⟩:=sj Y;have l1:=C.length;have l2:=r.length;have Z:=(uj.mp x).1;have B:T[i]?=Wp T[i]:=jT (by omega);have M:l[i]?=Wp l[i]:=jT (by omega);obtain⟨w,L,R⟩:=C.get B;rw[x]at L;cases L;have y:l[i]∈l:=Dw _;have S:=Bp y;exact ih _ _ _ O A E Q (r.views M B) R (N8 e y) (by omega) N
  |_=>simp[D.pr]at e
def Z3(T:Inv X f g H s):=PC (P:=X.prog) (W:=X.w) (F:=gy) (c:=C) T (λn i t=>by simp[gy]) λn a o d v A E Q q p l r m=>by
 unfold gy;refine iI<|vf p IH.lookup ?_;dsimp only;refine iI<|rN q l ?_;refine iI ?_;show ag _ _ (forIn d.toArray _ _) _ _ s;rw[<-Dx];refine xP _ (λb k j=>k.1=J/\j=s/\∀u∈b,u∈d) _ ?_ ?_ _ _ ⟨rfl,rfl,by simp⟩
 .rintro x b k j ⟨e,rfl,hm⟩;refine iI<|r x (hm x la) _ ?_;simp -iota only[sO,kX,mB];exact iX ⟨rfl,rfl,λu h=>hm u<|jU _ h⟩
 rintro⟨y,z⟩ j ⟨e,rfl,_⟩;simp only at e;subst e;exact iX m
def RH{P:jh}{W:jc}(T:Inv X f g H s):=PC (P:=P) (W:=W) (F:=wf) (c:=C) T (λn i t=>eqIsQuiet_byValue n I) λn a o d v A E Q q k m r p=>by
 unfold wf;refine iI<|vf k PySem.F.slot_tuple_eq.lookup ?_;show ag _ _ (te (.ref a) (.type "tuple")>>=_) _ _ s;refine iI<|xX k isSubtype_tuple_tuple ?_;simp -iota only[sO,kX,mB];refine iI<|rN q m ?_;refine iI ?_;show ag _ _ (forIn d.toArray _ _) _ _ s;rw[<-Dx];refine xP _ (λb l j=>l.1=J/\j=s/\∀u∈b,u∈d) _ ?_ ?_ _ _ ⟨rfl,rfl,by simp⟩
 .rintro x b l j ⟨e,rfl,hm⟩;refine iI<|r x (hm x la) _ ?_;simp -iota only[sO,kX,mB];exact iX ⟨rfl,rfl,λu h=>hm u<|jU _ h⟩
 rintro⟨w,y⟩ j ⟨e,rfl,_⟩;simp only at e;subst e;exact iX p
def afN{P:jh}{W:jc}(T:Inv X f g H s):=PC (P:=P) (W:=W) (F:=d0) (c:=U) T (λn i t=>by simp[d0]) λn a o d v A E Q q p l r m=>by
 unfold d0;refine iI<|wj p ?_;dsimp only;rw[iZ<|by decide];refine iI<|iX ?_;simp -iota only[sO,kX,mB];refine iI<|rN q l ?_;dsimp only;refine iI ?_;show ag _ _ (forIn d.toArray _ _) _ _ s;rw[<-Dx];refine xP _ (λb k j=>k.1=J/\j=s/\∀u∈b,u∈d) _ ?_ ?_ _ _ ⟨rfl,rfl,by simp⟩
 .rintro x b k j ⟨e,rfl,hm⟩;refine iI<|r x (hm x la) _ ?_;simp -iota only[kX,mB];exact iX ⟨rfl,rfl,λu h=>hm u<|jU _ h⟩
 rintro⟨w,y⟩ j ⟨e,rfl,_⟩;simp only at e;subst e;exact iX m
end
end PX
namespace TT
open PySem.SeqAt
def ado:gP u3 "set.__iter__"=Y ba.«frozenset.__iter__»:=Fk (id':="frozenset.__iter__") (by kernel_rfl) I (by decide+kernel) (by kernel_rfl)
def vI:Slot "set_iterator" "__next__" "set_iterator.__next__":=.of (owner:="set_iterator") (n:="__next__") (by rw[GJ,GI];kernel_rfl) (by decide+kernel) (by decide+kernel) (by decide+kernel) (by first|exact .inl (by decide+kernel)|exact .inr<|by decide+kernel) (by rw[GH];kernel_rfl)
def wB:Slot "set_iterator" "__iter__" "set_iterator.__iter__":=.of (owner:="set_iterator") (n:="__iter__") (by rw[GJ,GI];kernel_rfl) (by decide+kernel) (by decide+kernel) (by decide+kernel) (by first|exact .inl (by decide+kernel)|exact .inr<|by decide+kernel) (by rw[GH];kernel_rfl)
def ads:gP u3 "set_iterator.__next__"=Y ba.«set_iterator.__next__»:=entryFor_of_fast (by kernel_rfl)
def adt:gP u3 "set_iterator.__iter__"=Y ba.«dict_keyiterator.__iter__»:=Fk (id':="dict_keyiterator.__iter__") (by kernel_rfl) I (by decide+kernel) (by kernel_rfl)
def adH(a:iQ):gU "set_iterator.__next__" ⟨[a],[]⟩:=by unfold gU;kernel_rfl
def adI(a:iQ):gU "set_iterator.__iter__" ⟨[a],[]⟩:=by unfold gU;kernel_rfl
theorem sG{a:Type}:∀(l:List a){i:Nat}(h:i<X0 l),(l[i]::l.eraseIdx i).Perm l
 |x::l,0,_=>by simp
 |x::l,i+1,h=>by have:=sG l (i:=i) (by simpa using h);simp;exact(ig x _ _).trans (ik x this)
def adL{c:Type}(next:Nat->Nat):∀(a k:Nat)(left:List c)(out:Array c),X0 left<=a->(pickOrder.go next a k left out).toList.Perm (out.toList++left):=by
 intro e
 induction e with
 |zero=>intro k left out h;have:left=[]:=Uc.mp (by lia);subst this;unfold pickOrder.go;simp
 |succ a d=>
  intro k left out h;unfold pickOrder.go
  cases left with
  |nil=>simp
  |cons y l=>have b:next k%(y::l).length<(y::l).length:=xH _ (by simp);rw[jT b];dsimp only;refine(d (k+1) _ _ (by rw[Dv,iZ b];simp at h ⊢;lia)).trans ?_;rw[fq,pM];refine Sc _ ?_;exact sG _ b
def acS{b:Type}(next:Nat->Nat)(a:Array b):(gr next a).toList.Perm a.toList:=by unfold gr;have:=adL next a.size 0 a.toList #[] (by simp);simpa using this
noncomputable def rH(w:jc)(a:iG)(n:Nat)(b:sJ):Array (Int×iQ):=if w.params.followText "set-order"=C then gr (w.params.setOrder a n) b else b
def Gy(w:jc)(a:iG)(n:Nat)(b:sJ):(rH w a n b).toList.Perm b.toList:=by
 unfold rH;split
 .exact acS _ _
 exact vo _
def vG(w:jc)(a:iG)(n:Nat)(b:sJ):(rH w a n b).size=b.size:=by rw[<-mf,(Gy w a n b).length_eq,mf]
noncomputable def Jc(t:mW):Nat->Nat
 |0=>0
 |i+1=>t.place.getD i 0+1
def nV(w:jc)(t:mW)(i:Nat):Nat:=if w.params.followText "set-order"=C then 0 else Jc t i
structure BU(w:jc)(h:jb)(a:iG)(es:sJ)(n:Nat)(t:mW):Prop where
 at_:h.get? a=Wp (kU es n t)
 tab:BM (es.toList.map (·.1)) t
 plain:t.plain=WP
 led:t.led=!w.params.followText "set-order"
def D9(w:jc)(h:jb)(it a:iG)(t:mW)(size n i:Nat):Prop:= ∃o,h.get? it=Y o/\o.cls=.type "set_iterator"/\o.data=.fields #[.int (nV w t i) 0,.int i 0,.ref a,.int size 0,.int n 0]
section
variable {prog:jh}{w:jc}{A:je}{E:jB}{s:iL}
def BU.fits{h a b n t}(S:BU w h a b n t):t.fits b.size=C:=J1 S.tab (by simp)
def aez(c:t.place.toList.Pairwise (· < ·))(l:i<=t.place.size):am t.place (Jc t i)=i:=by
 cases i with
 |zero=>
  obtain⟨h1,a,_⟩:=qe c 0
  cases g:am t.place 0 with
  |zero=>exact g
  |succ k=>
   have h:0<t.place.size:=by lia
   have:=a 0 _ (by lia) (qJ h)
   lia
 |succ i=>
  have hd:t.place.getD i 0=t.place[i]:=by simp[show i<t.place.size by lia]
  show am t.place (t.place.getD i 0+1)=i+1;rw[hd];have e:t.place[i]?=Y t.place[i]:=qJ (by lia);obtain⟨h1,a,f⟩:=qe c<|t.place[i]+1;by_cases j:am t.place (t.place[i]+1)<i+1
  .have:=f i _ (by lia) e;lia
  by_cases b:i+1<am t.place (t.place[i]+1)
  .have d:t.place[i+1]?=Y t.place[i+1]:=qJ (by lia);have:=a (i+1) _ b d;have:=Ef c (DQ i) e d
   lia
  lia
def aed{a:iG}{b:sJ}{n:Nat}{t:mW}(S:BU w s.heap a b n t){i:Nat}(q:i<=b.size){Q:Option (iQ×Nat)->Shared->Prop}
  (h1:∀e,(rH w a n b)[i]?=Y e->Q (Y (e.2,nV w t<|i+1)) s)(h:i=b.size->Q J s):ag (ah prog w) A (setNext a (nV w t i) i n) Q E s:=by
 have p:=S.tab.len;rw[ke,mf]at p;unfold setNext;refine iI<|sP S.at_ I S.fits ?_;dsimp only;unfold s8;refine iI<|iI<|ya<|iX ?_;by_cases c:w.params.followText "set-order"=C
 .have f:(ah prog w).w.params.followText "set-order"=C:=c;rw[iZ f,jo<|by simp];unfold setWalk s8;refine iI<|iI<|sP S.at_ I S.fits ?_;dsimp only;refine iI<|iI<|ya<|iX ?_;rw[iZ f];refine iI<|ya<|iX<|iX ?_;have g:rH w a n b=gr (w.params.setOrder a n) b:=by unfold rH;rw[iZ c]
  have d:∀k,nV w t k=0:=λk=>by unfold nV;rw[iZ c]
  show Q (((gr (w.params.setOrder a n) b)[i]?).map λe=>(e.2,nV w t i)) s;rw[<-g];rw[d]at h1;rw[d]
  cases j:(rH w a n b)[i]? with
  |some e=>exact h1 e j
  |none=>have:=XO.mp j;rw[vG]at this;exact h (by lia)
 have f: ¬(ah prog w).w.params.followText "set-order"=C:=c;rw[jo f];change ag _ _ (if(!t.plain&&decide (b.size>1))=C then _ else _) _ _ _;rw[jo<|by rw[S.plain];simp];have o:t.led=C:=by rw[S.led];simpa using c
 refine iI ?_;change ag _ _ (if(!t.led&&!b.isEmpty)=C then _ else _) _ _ _;rw[jo<|by rw[o];simp];refine iX ?_;have g:rH w a n b=b:=by unfold rH;rw[jo c]
 have d:∀k,nV w t k=Jc t k:=λk=>by unfold nV;rw[jo c]
 have l:am t.place (nV w t i)=i:=by rw[d];exact aez S.tab.ris (by lia)
 rw[l];rw[g]at h1;by_cases m:i<b.size
 .have g1:b[i]?=Y b[i]:=qJ m;have g2:t.place[i]?=Y t.place[i]:=qJ (by lia);rw[g1,g2];have:=h1 b[i] g1;rw[d]at this;rw[show Jc t (i+1)=t.place.getD i 0+1 from I]at this;have hd:t.place.getD i 0=t.place[i]:=by simp[show i<t.place.size by lia]
  rw[hd]at this;exact iX this
 rw[GK<|by lia];exact iX<|h (by lia)
def BU.typeIs{a b n t}(S:BU w s.heap a b n t):s.TypeIs (.ref a) "set":=⟨_,S.at_,rfl⟩
def D9.typeIs{it a t z n i}(S:D9 w s.heap it a t z n i):s.TypeIs (.ref it) "set_iterator":=let⟨o,c,b,_⟩:=S;⟨o,c,b⟩
def Pr(S:BU w s.heap a d n t)
  (f:∀c,D9 w c s.heap.objs.size a t d.size n 0->(∀b o,s.heap.get? b=Y o->c.get? b=Y o)->c.objs.size=s.heap.objs.size+1->Q (.ref s.heap.objs.size) {s with heap:=c}):
  ag (ah prog w) A (c7<|.ref a) Q E s:=by
 refine GG S.typeIs Mz<|qj Mz S.typeIs ado ?_<|PySem.F.args_set_iter_1 _;unfold ba.«frozenset.__iter__» pw Ev;simp -iota only[dO,sO,kX,vB,zO,yb];unfold eO px;refine iI<|iX ?_;dsimp only;refine iI<|iX ?_;refine iI<|iI<|My S.at_ I S.fits<|iX ?_;unfold setDrawn s8;refine iI<|iI<|sP S.at_ I S.fits ?_;dsimp only;refine iI<|iI<|ya<|iX ?_;refine iX ?_;change ag _ _ (if(!w.params.followText "set-order"&&(!t.plain&&decide (d.size>1)))=C then _ else _) _ _ _;rw[jo<|by rw[S.plain];simp];refine iI<|iX ?_;unfold setEpoch;refine iI<|iI<|sP S.at_ I S.fits<|iX ?_;refine iI<|oF<|iX ⟨_,rfl,"set_iterator",_,⟨_,kE _ rfl,rfl⟩,vI.lookup,?_⟩;refine f _ ⟨_,kE _ rfl,rfl,?_⟩ (λb o e=>jW _ e) (qO _ _);have:nV w t 0=0:=by unfold nV;split<;>rfl
 rw[this];rfl
def FQ(u:A.handled=J){it a:iG}{c:sJ}{n:Nat}{t:mW}(S:BU w s.heap a c n t){i:Nat}(g:D9 w s.heap it a t c.size n i)(v:i<=c.size){Q:Ci}
  (q:∀e,(rH w a n c)[i]?=Y e->∀d,D9 w d it a t c.size n (i+1)->aE it s.heap d->Q (Y e.2) {s with heap:=d})
  (p:i=c.size->∀d,eJ it s.heap d->Q J {s with heap:=d}):ag (ah prog w) A (cp<|.ref it) Q E s:=by
 obtain⟨o,f,r,hd⟩:=id g;unfold cp;refine iI<|rM<|tH (name:=bC "__next__") g.typeIs vI<|qj vI g.typeIs ads ?_<|adH _;unfold ba.«set_iterator.__next__» Ev;simp -iota only[dO,sO,kX,vB,zO,yb];refine iI<|iX ?_;unfold fieldsOf;dsimp only;simp -iota only[vB];refine iI<|DX f ?_;rw[hd];refine iI<|iX ?_;dsimp only;refine iI<|My S.at_ I S.fits ?_;rw[jo<|by simp];have h1:((nV w t i:Nat):Int).toNat=nV w t i:=ye _;have k:((i:Nat):Int).toNat=i:=ye _;have l:((n:Nat):Int).toNat=n:=ye _;rw[h1,k,l];refine iI<|aed S v (λy j=>?_) λz=>?_
 .dsimp only;refine iI<|vz f hd (by simp) ?_;have h:=tE (gK λx=>x.setIfInBounds 0<|ce<|nV w t<|i+1) f<|DO<|uU hd _;refine iI<|vz h (uU hd _) (by simp)<|iX ⟨_,rfl,iX<|q _ j _ ?_ ((si ..).trans (si ..))⟩;refine⟨_,tE _ h (DO<|uU (uU hd _) _),?_,?_⟩
  .rw[DN,DN];exact r
  rw[uU<|uU hd _];simp[ce]
 dsimp only;refine iI<|vz f hd (by simp) ?_;show ag _ _ (l6 (.type "StopIteration") []>>=_) _ _ _;refine iI ?_;simp -iota only[l6];refine iI<|oF ?_ (by size_fits);refine iI (m:=gO _ _)<|wg (a:=au) (by first|rfl|(simp -iota;rfl)) ?_;refine oF ?_ (by size_fits);simp -iota only[EQ];refine iI<|G5 ?_;rw[show A.in1.handled=J from u];refine iI<|iX<|G4 ?_;refine iI<|xX (T:="StopIteration") (b:=C) ⟨_,kE _ rfl,rfl⟩ DJ ?_;exact iX<|p z _ (((si ..).extBut.push _).push _)
def afX(b:D9 w s.heap it a t z n i)(c:Q (.ref it) s):ag (ah prog w) A (c7<|.ref it) Q E s:=by refine GG b.typeIs wB<|qj wB b.typeIs adt ?_<|adI _;unfold ba.«dict_keyiterator.__iter__» Ev;simp -iota only[dO,sO,kX,vB,zO,yb];exact iI<|iX<|iX ⟨_,rfl,"set_iterator",_,b.typeIs,vI.lookup,c⟩
def BU.BC{a b n t}(S:BU w h a b n t)(k:∀o,h.get? a=Y o->c.get? a=Y o):BU w c a b n t:=⟨k _ S.at_,S.tab,S.plain,S.led⟩
def ae1(k:A.handled=J)(T a:iG)(r:T≠a)(f:sJ)(n:Nat)(t:mW):
  Tl prog w A T [T,a] [T] f.size (λi v=>∃e,(rH w a n f)[i]?=Y e/\v=e.2) (λi h=>D9 w h T a t f.size n i/\BU w h a f n t) where
 sub:=λb c=>by simp at c;simp[c]
 frame:=λ_ _ _ st hk=>⟨(by obtain⟨o,h1,q⟩:=st.1;exact⟨o,hk T (by simp) o h1,q⟩),st.2.BC λo e=>hk a (by simp) o e⟩
 item:=λi s Q E l st d=>by refine FQ k st.2 st.1 (wm l) (λe x g m j=>?_) λz=>absurd z<|kx l;exact d _ g s.toks ⟨_,x,rfl⟩ ⟨m,st.2.BC λo e=>j.extBut a o (λh=>r h.symm) e⟩ λb o c e=>j.extBut b o (λh=>c<|by simp[h]) e
 done:=λs Q E st d=>FQ k st.2 st.1 (jZ _) (λe u=>absurd (Mh.mp u).1<|by rw[vG];exact ql _) λ_ g p=>d g s.toks λb o c e=>p b o (λh=>c<|by simp[h]) e
 self:=λ_ _ _ _ st d=>afX st.1 d
def yV{T id:String}{N:Nat}{y:jP}{J:Nat->iQ->Prop}{ST:Nat->jb->Prop}(m:T="set"/\id="set.__len__"\/T="dict"/\id="dict.__len__")(Y:a<s.heap.objs.size)(ty:∀h:Shared,(∀o,s.heap.get? a=Wp o->h.heap.get? a=Wp o)->h.TypeIs (.ref a) T)
  (W:Tl prog w A.in1 (s.heap.objs.size+1) [s.heap.objs.size+1,a] [s.heap.objs.size+1] N J ST)(hn:N<=sizeLine)(hv:∀i v,J i v->y[i]?=Wp v)(hl:(X0 y)=N)
  (H:∀(l:eZ)(G:jB),(∀p,ST 0 p->(∀b o,(s.heap.push l).get? b=Wp o->p.get? b=Wp o)->G (.ref<|s.heap.objs.size+1) {s with heap:=p})->ag (ah prog w) A.in1 (c7<|.ref a) G E {s with heap:=s.heap.push l})
  (hQ:∀u tk,(∀b o,s.heap.get? b=Wp o->u.get? b=Wp o)->Q y {s with heap:=u,toks:=tk}):ag (ah prog w) A (f5<|.ref a) Q E s:=by
 have B:a≠s.heap.objs.size:=kx Y;have t:s.heap.objs.size≠s.heap.objs.size+1:=kx<|DQ _;unfold f5;refine iI<|G6<|qL PySem.F.entry_proto_collect ?_;rw[uV PySem.F.plain_proto_collect _];show ag _ A.in1 (u9 []>>=λl=>again<|.builtin "list.__iadd__" ⟨[l,.ref a],[]⟩) _ _ s;refine iI<|oF ?_;refine iX ⟨tu Mx _,qL PySem.F.entry_list_iadd ?_⟩;rw[uV Mx _];show ag _ A.in1 (eX (.ref s.heap.objs.size) (.ref a)<|.ref s.heap.objs.size) _ _ _;generalize q:({cls:=.type "list",data:=.seq ([]:List iQ).toArray}:eZ)=O;unfold eX;refine iI<|wj (T:=T) (s:={s with heap:=s.heap.push O}) (ty _ λo e=>jW _ e) ?_;have h1:fy (.ref s.heap.objs.size) (.ref a)=W1:=by simp only[fy,BH];exact B.symm
 have p:(b3 T==b3 "list")=W1:=by rcases m with⟨rfl,_⟩|⟨rfl,_⟩<;>decide
 have Z:(b3 T==b3 "tuple")=W1:=by rcases m with⟨rfl,_⟩|⟨rfl,_⟩<;>decide
 simp -iota only[h1,p,Z,kX,mB];refine iI<|H O _ λg P L=>?_;have C:dH {s with heap:=g} (.ref a) T:=ty _ λo e=>L _ _ (jW _ e);refine iI<|md<|oq (Q:=λr h=>r=W1/\h={s with heap:=g}) ?_ (λr h ⟨e1,e2⟩=>?_) λ_ _ z=>z
 .unfold zx;refine iI<|vf (s:={s with heap:=g}) C (r:=Wp<|.builtin id) (by rcases m with⟨rfl,rfl⟩|⟨rfl,rfl⟩<;>first|exact PySem.F.slot_set_len.lookup|exact PySem.F.slot_dict_len.lookup) ?_;dsimp only;rw[show splitId id=Wp (T,"__len__")from by rcases m with⟨rfl,rfl⟩|⟨rfl,rfl⟩<;>decide+kernel];dsimp only;refine iI<|xX (s:={s with heap:=g}) (b:=WP) C (by rw[GH];rcases m with⟨rfl,_⟩|⟨rfl,_⟩<;>kernel_rfl) ?_;simp -iota only[sO,kX];change ag _ _ (if _=WP then _ else _) _ _ _;rw[iZ (by rcases m with⟨_,rfl⟩|⟨_,rfl⟩<;>decide+kernel)];refine iI<|wj (s:={s with heap:=g}) C ?_;dsimp only;exact iX ⟨rfl,rfl⟩
 subst e1 e2;change ag _ _ (if _=WP then _ else _) _ _ _;rw[iZ (by rcases m with⟨rfl,_⟩|⟨rfl,_⟩<;>decide+kernel)];refine iI<|sQ ?_;have c:g.get? s.heap.objs.size=Wp O:=L _ _ (kE _ (by subst q;rfl));subst q;refine iI ?_;show ag _ A.in1 (updateSeq s.heap.objs.size (·.push .none)>>=λ_=>updateSeq s.heap.objs.size (·.pop)) _ _ _;refine iI<|x6 (s:={s with heap:=g}) c I ?_;have d:=tE (aQ (·.push au)) c I;refine x6 d I ?_;have k:=tE (aQ (·.pop)) d I
 have AF:∀b o,b≠s.heap.objs.size->g.get? b=Wp o->((g.update s.heap.objs.size (aQ (·.push au))).update s.heap.objs.size (aQ (·.pop))).get? b=Wp o:=
  λb o f e=>(DS _ _ (oX f)).trans<|(DS _ _ (oX f)).trans e
 refine iX ⟨tu PySem.F.plain_extend_loop _,?_⟩;refine codeAny_extend_loopS W.toS hn s.heap.objs.size (by simp -iota only[nS,sf,or_false,not_or];exact⟨t,B.symm⟩) _ N 0 _ _ _ rfl (mq _) (W.frame _ _ _ P λb f o e=>AF b o (by simp at f;rcases f with rfl|rfl<;>first|exact t.symm|exact B) e) k (ItemsOf.nil _) λh I' c' x w6 l8=>?_;show ag _ A (load s.heap.objs.size>>=_) _ _ h;refine iI<|DX w6 ?_;obtain⟨u,X,K,U,D⟩:=h;have S:X=s.gens:=x.gens;have R:K=s.drawn:=x.drawn;have V:D=s.os:=x.os;subst S;subst R;subst V
 have n:I'.toList=y:=by
  obtain⟨a1,M⟩:=l8;refine zW λj=>?_;rw[nK]
  cases e:I'[j]? with
  |some v=>exact(hv j v<|M j v e).symm
  |none=>rw[List.getElem?_eq_none_iff.mpr];rw[hl,<-a1];exact XO.mp e
 refine iX ?_;show Q I'.toList _;rw[n];refine hQ u U λb o e=>?_;have f:=kh e;exact x.heap b o (by simp -iota;exact⟨kx f,kx<|we f⟩)<|AF b o (kx f)<|L _ _ (jW _ e)
def TL(r:A.handled=J)(S:BU w s.heap a c n t)(u:c.size<=sizeLine)
  (p:∀h x,(∀b o,s.heap.get? b=Y o->h.get? b=Y o)->Q ((rH w a n c).toList.map (·.2)) {s with heap:=h,toks:=x}):ag (ah prog w) A (f5<|.ref a) Q E s:=by
 have f:a<s.heap.objs.size:=kh S.at_;refine yV (.inl ⟨rfl,rfl⟩) f (λz k=>(S.BC k).typeIs) (ae1 (by show A.handled=J;exact r) (s.heap.objs.size+1) a (qk<|we f) c n t) u (λi v ⟨e,q,hv⟩=>?_) (by rw[ke,mf,vG]) (λl y k=>?_) p
 .rw[kQ,nK,q,hv];rfl
 have d:BU w (s.heap.push l) a c n t:=S.BC λo e=>jW _ e;refine Pr (s:={s with heap:=s.heap.push l}) d λm g j _=>?_;rw[show(s.heap.push l).objs.size=s.heap.objs.size+1 from qO _ _]at g ⊢;exact k m ⟨g,d.BC λo e=>j _ _ e⟩ j
end
section
variable {a:jh}{w:jc}{A:je}{R:ms->Shared->Prop}{I:iG}{d c:kP}{G:Array eF->Array eF->Prop}{n:Nat}{P:Nat->iQ->Prop}{St:Nat->Shared->Prop}
def agu(W:WalksS a w A.in1 I d c G n P St)(S:iG)(z:S∉d)(s0:iL)(j:Nat->jb->Prop)(BC:∀i h g,j i h->(∀o,h.get? S=Y o->g.get? S=Y o)->j i g)
  (step:∀i v (f:iL) (Q:sM) (E:jB),i<n->P i v->j i f.heap->o9 (S::c) G s0 f->(∀r g y,f.toks<=y->aE S f.heap g->j (i+1) g->Q r {f with heap:=g,toks:=y})->ag (ah a w) A.in1 (lm S v) Q E f):
  ∀(k i:Nat)(s:iL),n-i=k->i<=n->St i s->j i s.heap->o9 (S::c) G s0 s->(∀f,o9 (S::c) G s0 f->j n f.heap->R (.ok<|.ret .none) f)->
   ca (ah a w) A (.builtin "set.update.loop" ⟨[.ref S,.ref I],[]⟩) R s:=by
 have C:S∉c:=λh=>z<|W.sub _ h;have H:∀b∈c,b∈S::c:=λb l=>jU _ l;intro k
 induction k with
 |zero=>
  intro i s hk U x u p t;have J:i=n:=by lia
  subst J;refine qL Mw ?_;rw[uV GF _];show ag _ A.in1 (cp (.ref I)>>=_) _ _ s;refine iI<|W.done s _ _ x λf m=>?_;show ag _ A.in1 (ret au) _ _ f;exact iX<|t f (Du W.gtrans p<|m.mono H)<|BC _ _ _ u λo e=>m.heap S o C e
 |succ k Y'=>
  intro i s hk U x u p t;have q:i<n:=by lia
  refine qL Mw ?_;rw[uV GF _];show ag _ A.in1 (cp (.ref I)>>=_) _ _ s;refine iI<|W.item i s _ _ q x λv f M T m=>?_;have B:=Du W.gtrans p<|m.mono H;show ag _ A.in1 (b5 [v] (lm S v)>>=_) _ _ f;refine iI<|md<|step i v f _ _ q M (BC _ _ _ u λo e=>m.heap S o C e) B λr g y O L N=>?_;refine iX ⟨tu GF _,Y' (i+1) _ (by lia) q (W.frame _ f _ _ T O λb l o e=>?_) N (B.then_heap O λb o l e=>?_) t⟩
  .rw[L.2 b λh:b=S=>z<|by rw[<-h];exact l];exact e
  rw[L.2 b λh:b=S=>l<|by rw[h];exact la];exact e
end
section
variable {f:jh}{w:jc}{A:je}{E:jB}{s:iL}
def SA(a:iQ)(h:Q₁ (.ref s.heap.objs.size) {s with heap:=s.heap.push (kU #[] 0 (.fresh 0 0 (!w.params.followText "set-order")))}):
  ca (ah f w) A (.call (.builtin "set.__new__") ⟨[.type "set",a],[]⟩) (Do Q₁ E) s:=by
 refine xZ ?_;show ag _ A.in1 (do dc "set.__new__" ⟨[.type "set",a],[]⟩;again (.builtin "set.__new__" ⟨[.type "set",a],[]⟩)) _ _ s;refine iI<|wg (PySem.F.newCall_set_1 a)<|iX ⟨tu Mv _,qL PySem.F.entry_set_new ?_⟩;rw[uV Mv _];unfold ba.«set.__new__» qs;have c:=sub_set_self;obtain⟨b,g,d,e,os⟩:=s;dsimp only
 wp_walk
 refine ya<|iX ?_;dsimp only;simp only[newObj];refine iI<|SI<|iX ?_;exact iX h
noncomputable abbrev mz(w:jc):SetTable:=.fresh 0 0 (!w.params.followText "set-order")
def XG{h:jb}{a:iG}(e:h.get? a=Y (kU #[] 0 (mz w))):BU w h a #[] 0 (mz w):=⟨e,BM.fresh _ _ _,rfl,rfl⟩
set_option maxHeartbeats 8000000 in
def XI{l:iG}{items:nB}{Q:jB}(hh:A.handled=WF)(m:s.heap.IsList l items\/s.heap.IsTuple l items)(k:Nat->jb->Prop)
  (BC:∀i h a,k i h->(∀o,h.get? s.heap.objs.size=Wp o->a.get? s.heap.objs.size=Wp o)->k i a)
  (oZ:∀a,a.get? s.heap.objs.size=Wp (kU #[] 0 (mz w))->k 0 a)
  (step:∀i v (d:iL) (B:je) (Q:sM) (E:jB),B.units<=A.units+20->items[i]?=Wp v->k i d.heap->(∀b o,s.heap.get? b=Wp o->d.heap.get? b=Wp o)->d.gens=s.gens->d.drawn=s.drawn->d.os=s.os->
   (∀r a u,d.toks<=u->aE s.heap.objs.size d.heap a->k (i+1) a->Q r {d with heap:=a,toks:=u})->ag (ah f w) B (lm s.heap.objs.size v) Q E d)
  (h:∀(a:jb)(u:Nat),k items.size a->(∀b o,s.heap.get? b=Wp o->a.get? b=Wp o)->Q (.ref s.heap.objs.size) {s with heap:=a,toks:=u}):
  ag (ah f w) A (call (.type "set") [.ref l]) Q E s:=by
 obtain⟨c,tl,D⟩:=M5.mro;have I:=M5.made;have j9:=M5.sub;refine yg<|xZ ?_;show ag _ _ (callAny (.type "set") _) _ _ _;refine iX ⟨G3 _ (by decide+kernel),qL PySem.F.entry_type_call ?_⟩;rw[hL (MK "set" [.ref l] []) XV];have h1:=M5.notType;have h2:=M5.canCreate;have hct:=PySem.F.typeCall_set_1<|.ref l
 repeat (any_goals (first|assumption|wp_step))
 refine sy (SA (.ref l) (E:=E) (Q₁:=λobj p=>obj=.ref s.heap.objs.size/\p={s with heap:=s.heap.push (kU #[] 0 (mz w))}) ⟨rfl,rfl⟩) λr p L=>?_
 cases r with
 |error e=>exact L
 |ok fl=>
  cases fl with
  |ret obj=>
   obtain⟨rfl,rfl⟩:=L;have Y:(s.heap.push<|kU #[] 0 (mz w)).get? s.heap.objs.size=Wp (kU #[] 0 (mz w)):=kE _ rfl;have hT:dH {s with heap:=s.heap.push (kU #[] 0 (mz w))} (.ref s.heap.objs.size) "set":=⟨_,Y,rfl⟩
   have gA:=M5.init.lookup;have gW:=M5.init.bind<|.ref s.heap.objs.size
   repeat (any_goals (first|assumption|wp_step))
   refine sy (zV (R:=Do (λr q=>r=.none/\∃a u,q={s with heap:=a,toks:=u}/\k items.size a/\(∀b o,s.heap.get? b=Wp o->a.get? b=Wp o)) E) M5.init.plain PySem.F.entry_set_init<|check_set_init_1 hT ?_) λy q z=>?_
   .obtain⟨c,hc,ol,M,V,nl,J⟩:∃c,(c="list"\/c="tuple")/\∃o,s.heap.get? l=Wp o/\o.cls=.type c/\∃n,o.data=.seq items n:=m.elim (λh=>⟨_,.inl XV,h⟩) (λh=>⟨_,.inr XV,h⟩)
    obtain⟨S,P,h9⟩:isSubtype (.type c) (.type "set")=pure W1/\isSubtype (.type c) (.type "frozenset")=pure W1/\(b3 c==b3 "dict")=W1:=by
     rcases hc with rfl|rfl
     .exact⟨PySem.F.sub_list_set,PySem.F.sub_list_frozenset,by decide⟩
     exact⟨PySem.F.sub_tuple_set,PySem.F.sub_tuple_frozenset,by decide⟩
    obtain⟨X,t,O,j⟩:=ol;simp only at V J;subst V;subst J;have K:(s.heap.push<|kU #[] 0 (mz w)).get? l=Wp {cls:=.type c,dict:=t,data:=.seq items nl,slots:=j}:=jW _ M;have U:l<s.heap.objs.size:=kh M;have N:A.in1.in1.in1.handled=WF:=by simp[hh]
    have sz:(s.heap.push<|kU #[] 0 (mz w)).objs.size=s.heap.objs.size+1:=qO _ _;have G:l≠(s.heap.push<|kU #[] 0 (mz w)).objs.size:=by rw[sz];exact kx<|we U
    have bO:s.heap.objs.size∉[(s.heap.push<|kU #[] 0 (mz w)).objs.size,l]:=by rw[sz];simp only[nS,sf,or_false,not_or];exact⟨kx<|DQ _,qk U⟩
    obtain⟨St,W,o0,h0,C⟩:∃St,Tl f w A.in1.in1.in1 (s.heap.push<|kU #[] 0 (mz w)).objs.size [(s.heap.push<|kU #[] 0 (mz w)).objs.size,l] [(s.heap.push<|kU #[] 0 (mz w)).objs.size] items.size (λi v=>items[i]?=Wp v) St/\∃o0,St 0 ((s.heap.push<|kU #[] 0 (mz w)).push o0)/\
      ∀{Z:je}{Q:jB}{E},Q (.ref (s.heap.push<|kU #[] 0 (mz w)).objs.size) {s with heap:=(s.heap.push<|kU #[] 0 (mz w)).push o0}->ag (ah f w) Z (c7<|.ref l) Q E {s with heap:=s.heap.push (kU #[] 0 (mz w))}:=by
     rcases m with m|m
     .exact⟨_,DP N _ l G items,_,⟨⟨_,kE _ rfl,rfl,rfl⟩,(m.push _).push _⟩,λh=>yh (m.push _) h⟩
     exact⟨_,Walks.tuple N _ l G items,_,⟨⟨_,kE _ rfl,rfl,rfl⟩,(m.push _).push _⟩,λh=>Hl (m.push _) h⟩
    unfold ba.«set.__init__» noKeywords pp;generalize H:c7=PI
    wp_walk
    subst H;refine C ?_;refine iI<|G6 ?_;refine agu W.toS s.heap.objs.size bO _ k BC (λi v d Q' E' hi hP hV g hk=>?_) (items.size-0) 0 _ (by lia) (mq _) h0 (oZ _ (jW _ Y)) (wr λ_=>rfl) ?hR
    .refine step i v d _ Q' E' ?_ hP hV (λb o e=>?_) g.gens g.drawn g.os hk
     .show A.units+1+1+1<=A.units+20;lia
     have x:=kh e;exact g.heap b o (by rw[sz];simp only[nS,sf,or_false,not_or];exact⟨kx x,kx<|we x⟩)<|jW _ (jW _ e)
    case hR=>intro d g T;obtain⟨a,g',d',ay,cq⟩:=d;have eg:g'=s.gens:=g.gens;have ed:d'=s.drawn:=g.drawn;have eo:cq=s.os:=g.os;subst eg;subst ed;subst eo;show ag _ _ _ _ _ _;refine iX ?_;show ag _ _ (ret au) _ _ _;refine iX ⟨rfl,a,ay,rfl,T,λb o e=>?_⟩;have x:=kh e;exact g.heap b o (by rw[sz];simp only[nS,sf,or_false,not_or];exact⟨kx x,kx<|we x⟩)<|jW _ (jW _ e)
   cases y with
   |error e=>exact z
   |ok iq=>
    cases iq with
    |ret r=>
     obtain⟨rfl,a,u,rfl,T,ei⟩:=z
     repeat (any_goals (first|assumption|wp_step))
     exact h _ _ T ei
    |_=>exact z.elim
  |_=>exact L.elim
end
end TT
namespace PX
open L2 PySem.SeqAt TS
def EU:D->Bool
 |.tup l=>D.Hz l&&decide (D.BI l<=6)
 |_=>U
def qr(h:EU d=C):∃l,d=.tup l:=by cases d<;>first|exact⟨_,rfl⟩|(simp[EU]at h)
def tP(h:EU d=C):D.pr d=C:=by obtain⟨l,rfl⟩:=qr h;simp only[EU,ma]at h;rw[D.pr];exact h.1
def rQ(h:EU d=C):d.dep<=7:=by obtain⟨l,rfl⟩:=qr h;simp -iota only[EU,wd]at h;rw[D.dep];lia
def vW(h1:D.pr x=C)(a:D.pr y=C):D.AI x y=C↔x=y:=by
 rw[Ik x y h1 a];constructor
 .intro h;exact Bt x y h1 a (by simpa using h)
 rintro rfl;rw[Ke];rfl
def qg(a:List D)(d:D):List D:=if a.any (D.AI · d)=C then a else a++[d]
def om(l:List D):List D:=l.foldl qg []
def T5{p:D->Bool}(h1:b.all p=C)(a:p d=C):(qg b d).all p=C:=by
 unfold qg;split
 .exact h1
 rw[List.all_append,h1];simp[a]
def QK(a:List D)(d:D):(qg a d).length<=X0 a+1:=by unfold qg;split<;>simp
def nk{d i:Type}(f:d->i){g m:List i}(h:g.Perm m):∀l:List d,m=l.map f->∃c:List d,c.Perm l/\g=c.map f:=by
 induction h with
 |nil=>
  intro l e;have:l=[]:=by simpa using e.symm
  subst this;exact⟨[],.refl _,rfl⟩
 |cons x _ n=>
  intro l e
  cases l with
  |nil=>simp at e
  |cons y l=>simp -iota at e;obtain⟨c,p,q⟩:=n l e.2;exact⟨y::c,p.cons y,by rw[q,e.1];rfl⟩
 |swap x y w=>
  intro l e
  cases l with
  |nil=>simp at e
  |cons a l=>
   cases l with
   |nil=>simp at e
   |cons b l=>simp -iota at e;exact⟨b::a::l,.swap a b l,by rw[e.1,e.2.1,e.2.2];rfl⟩
 |trans _ _ k j=>intro l e;obtain⟨o,s,u⟩:=j l e;obtain⟨r,t,v⟩:=k o u;exact⟨r,t.trans s,v⟩
def yN{b d:Type}{F:b->d->Prop}{c m:List d}(h:c.Perm m):∀{z:List b},Paired F z m->∃a:List b,Paired F a c/\a.Perm z:=by
 induction h with
 |nil=>intro z p;exact⟨z,p,.refl _⟩
 |cons x _ i=>
  intro z p
  cases p with
  |cons r t=>obtain⟨a,h1,g⟩:=i t;exact⟨_::a,.cons r h1,g.cons _⟩
 |swap x y s=>
  intro z p
  cases p with
  |cons r t=>
   cases t with
   |cons o t=>exact⟨_,.cons o<|.cons r t,.swap _ _ _⟩
 |trans _ _ f e=>intro z p;obtain⟨u,j,l⟩:=e p;obtain⟨q,k,n⟩:=f j;exact⟨q,k,n.trans l⟩
def YP.zip{K T}{O:AA}:∀{l:List D}{b:List V},YP K T O l b->∀p∈l.zip b,Rep K T O p.1 p.2:=by
 intro f
 induction f with
 |nil=>intro b h p a;simp at a
 |cons d l e=>
  intro b h p a;rw[YP]at h;obtain⟨v,r,rfl,h1,c⟩:=h;rw[sY]at a;rcases nS.mp a with rfl|a
  .exact h1
  exact e c p a
def YP.LB{K T}{O:AA}:∀{l:List (D×V)},(∀p∈l,Rep K T O p.1 p.2)->YP K T O (l.map (·.1)) (l.map (·.2)):=by
 intro c
 induction c with
 |nil=>intro _;exact YP.nil
 |cons p l b=>intro h;exact YP.cons (h p la)<|b λq a=>h q<|jU _ a
abbrev hv(p:D×V):Int×V:=(D.hash p.1,p.2)
theorem Ag:∀(b:List D)(a:List V),(D.El b).zip a=(b.zip a).map hv
 |[],a=>by simp[D.El]
 |d::b,[]=>by simp
 |d::b,u::a=>by rw[D.El,sY,sY,kc,Ag b a]
section
variable {X:Cx}{pins:jF}{σ:L2.St}{H:Hp}{s:iL}
structure BO(X:Cx)(H:Hp)(O:AA)(h:jb)(a:iG)(vs:List D)(es:sJ)(n:Nat)(t:mW)(l:List (D×V)):Prop where
 is:TT.BU X.w h a es n t
 perm:(l.map (·.1)).Perm vs
 rep:∀p∈l,Rep X.K H O p.1 p.2
 par:Paired (λ(z:Int×V) (e:Int×iQ)=>z.1=e.1/\RelV z.2 e.2) (l.map hv) es.toList
def BO.BC{a c b n t l}(S:BO X H O h a c b n t l)(k:∀o,h.get? a=Y o->d.get? a=Y o):BO X H O d a c b n t l:=⟨S.is.BC k,S.perm,S.rep,S.par⟩
def aei{d c:Type}{F:d->c->Prop}{l:List d}{m:List c}(h:Paired F l m):∀{i:Nat}{b:c},m[i]?=Y b->∃a,l[i]?=Y a/\F a b:=by
 induction h with
 |nil=>intro i b h;simp at h
 |cons r t f=>
  intro i b h
  cases i with
  |zero=>simp at h;subst h;exact⟨_,rfl,r⟩
  |succ i=>obtain⟨a,h1,e⟩:=f (i:=i) (b:=b) (by simpa using h);exact⟨a,by simpa using h1,e⟩
def aeh{a b:Type}{F:a->b->Prop}:∀{l:List a}{m:List b},Paired F l m->X0 l=(X0 m):=Af
def AD{l:List (Int×V)}{m:List (Int×iQ)}(h:Paired (λ(z:Int×V) (e:Int×iQ)=>z.1=e.1/\RelV z.2 e.2) l m):l.map (·.1)=m.map (·.1):=by
 induction h with
 |nil=>rfl
 |cons r t a=>rw[kc,kc,r.1,a]
def BO.N1(I:Inv X pins σ H s){O Y:AA}{a:iG}{vs:List D}{J' n t l}(S:BO X H O s.heap a vs J' n t l)(hok:vs.all EU=WP){d:D}{v:V}{u:iQ}(hd:kb X.K H Y d v)(ru:RelV v u)(U:EU d=WP){A:je}(hA:A.units+60<aV):
  ∃b,u=.ref b/\TT.KG A s a J' n t u d.hash (λi=>match l[i]? with|some p=>D.AI p.1 d|none=>W1):=by
 obtain⟨ld,rfl⟩:=qr U;obtain⟨b,xs,rfl,q,r⟩:=lV hd;cases ru;have hdp:=rQ U;have gw:=tP U;have h:∀p∈l,EU p.1=WP:=λp M=>mh.mp hok _ (S.perm.mem_iff.mp<|rK M)
 have at_:∀(i:Nat)(e:Int×iQ),J'[i]?=Wp e->∃p,l[i]?=Wp p/\p∈l/\D.hash p.1=e.1/\RelV p.2 e.2:=λi e o=>by
  obtain⟨z,h1,f,L⟩:=aei S.par (i:=i) (b:=e) (by rw[nK];exact o);rw[kQ]at h1
  cases hl:l[i]? with
  |none=>rw[hl]at h1;cases h1
  |some p=>rw[hl]at h1;cases h1;exact⟨p,rfl,nL hl,f,L⟩
 have N:∀(e:D)(y:V)(G:iQ)(C:AA)(B:je)(P:jh)(W:jc)(Q:sM)(E:jB),EU e=WP->kb X.K H C e y->RelV y G->Q WP s->ag (ah P W) B (wf 8 G) Q E s:=λe y G C B P W Q E T hv hr x=>by
  obtain⟨le,rfl⟩:=qr T;rcases hv with hv|⟨_,_,hv⟩
  .exact RH I 8 _ _ _ C B E Q hv hr (tP T) (by have:=rQ T;lia) x
  exact hv.elim
 have l5:∀(e:D)(y:V)(G:iQ)(C:AA)(B:je)(P:jh)(W:jc)(Q:sM)(E:jB),EU e=WP->kb X.K H C e y->RelV y G->Q W1 s->ag (ah P W) B (d0 8 G) Q E s:=λe y G C B P W Q E T hv hr x=>by
  obtain⟨le,rfl⟩:=qr T;rcases hv with hv|⟨_,_,hv⟩
  .exact afN I 8 _ _ _ C B E Q hv hr (tP T) (by have:=rQ T;lia) x
  exact hv.elim
 refine⟨b,rfl,⟨_,S.is.at_,rfl⟩,S.is.tab,λi e o=>?_,λi e o=>?_,λi e o x=>?_,λls g w E Q hls x=>?_⟩
 .obtain⟨p,h1,f,L,j⟩:=at_ i e o;obtain⟨lp,M⟩:=qr<|h p f;have:=S.rep p f;rw[M]at this;obtain⟨c,xs,R,_⟩:=this.tup;rw[R]at j;exact⟨c,j⟩
 .obtain⟨p,h1,f,L,j⟩:=at_ i e o;rw[h1];have:=rQ<|h p f;exact Bl I 50 p.1 (.tup ld) p.2 (.ref b) _ _ O Y A (.inl<|S.rep p f) hd j rfl (by lia) (by lia) (by lia)
 .obtain⟨p,h1,f,L,j⟩:=at_ i e o;rw[h1]at x;rw[(vW (tP<|h p f) gw).mp x]at L;exact L.symm
 unfold u8;refine iI ?_;refine xP _ (λm rr s'=>rr.1=J/\s'=s/\∀v∈m,∃e∈J'.toList,e.2=v) _ ?_ ?_ _ _ ⟨rfl,rfl,hls⟩
 .rintro y m rr s' ⟨Z,rfl,hm⟩;have k:∀v∈m,∃e∈J'.toList,e.2=v:=λv hv=>hm v<|jU _ hv;obtain⟨e,o,rfl⟩:=hm y la;obtain⟨i,hi⟩:=sj o;rw[nK]at hi;obtain⟨p,h1,f,L,j⟩:=at_ i e hi;obtain⟨lp,M⟩:=qr<|h p f;have F:=S.rep p f
  obtain⟨c,ec⟩:∃c,e.2=.ref c:=by rw[M]at F;obtain⟨c,xs,R,_⟩:=F.tup;rw[R]at j;exact⟨c,j⟩
  rw[ec]at j ⊢;dsimp only;split
  .exact iX ⟨rfl,rfl,k⟩
  refine iI (N _ _ _ Y A g w _ _ U hd rfl ?_);simp -iota only[sO,kX];refine iI<|N _ _ _ O A g w _ _ (h p f) (.inl F) j ?_;simp -iota only[sO,kX];refine iI<|l5 _ _ _ Y A g w _ _ U hd rfl ?_;simp -iota only[kX];refine iI<|l5 _ _ _ O A g w _ _ (h p f) (.inl F) j ?_;simp -iota only[kX];exact iX ⟨rfl,rfl,k⟩
 rintro⟨r1,r2⟩ s' ⟨Z,rfl,_⟩;simp only at Z;subst Z;exact iX x
def Bs.Lb(T:Inv X pins σ H s)(h:Bs X.K (H a) .set o f us)(r:YP X.K H O f us):∃b n t l,BO X H O s.heap a f b n t l:=by
 obtain⟨_,m,e,p⟩:=h;obtain⟨b,n,t,h1,c,g,i,j⟩:=(show A5 X.prog X.w H s.heap a (.A8 m)from T.hok a _ e)
 rw[Ag]at p;obtain⟨l,d,rfl⟩:=nk hv p _ rfl;refine⟨b,n,t,l,⟨h1,by rw[<-AD c];exact g,i,j⟩,?_,λq k=>r.zip q<|d.mem_iff.mp k,c⟩;have:=d.map (·.1);rw[nP<|by rw[r.length];exact jZ _]at this;exact this
def BO.N6{b n t l}(S:BO X H O h a d b n t l):A5 X.prog X.w c h a (.A8<|l.map hv):=
 ⟨b,n,t,S.is.at_,S.par,by rw[AD S.par];exact S.is.tab,S.is.plain,S.is.led⟩
def BO.Le{b n t l}(S:BO X H O h a c b n t l):b.size=X0 c/\(X0 l)=(X0 c):=by
 have h1:=aeh S.par;have d:=S.perm.length_eq;simp at h1 d
 lia
def BO.AF{O:AA}{h:jb}{a:iG}{vs:List D}{g n t l}(S:BO X H O h a vs g n t l){K c}{f:AA}(k:∀p∈l,Rep K c f p.1 p.2)(i:c a=Y (.A8<|l.map hv)):∃us,Bs K (c a) .set [] vs us/\YP K c f vs us:=by
 obtain⟨b,d,e⟩:=nk (·.1) S.perm.symm l I;refine⟨b.map (·.2),⟨rfl,l.map hv,i,?_⟩,?_⟩
 .rw[e,Ag]
  have:(b.map (·.1)).zip (b.map (·.2))=b:=by
   clear d e
   induction b with
   |nil=>rfl
   |cons x l m=>rw[kc,kc,sY,m]
  rw[this];exact(d.map hv).symm
 rw[e];exact YP.LB λp j=>k p<|d.mem_iff.mp j
def BO.put{q h':jb}{f n t l b j t'}(S:BO X H O q a c f n t l)(x:c.any (D.AI · d)=U)(m:Rep X.K H O d v)(B:RelV v u)(r:TT.BU X.w h' a b j t')(o:b.toList.Perm ((d.hash,u)::f.toList)):∃h,BO X H O h' a (qg c d) b j t' h:=by
 have i:Paired (λ(z:Int×V) (e:Int×iQ)=>z.1=e.1/\RelV z.2 e.2) (((d,v)::l).map hv) ((d.hash,u)::f.toList):=.cons ⟨rfl,B⟩ S.par;obtain⟨T,y,A⟩:=yN o i;obtain⟨h,k,rfl⟩:=nk hv A _ rfl;refine⟨h,r,?_,λp g=>?_,y⟩
 .rw[show qg c d=c++[d] by unfold qg;rw[x,jo kR]];refine(k.map (·.1)).trans ?_;rw[kc];exact(S.perm.cons d).trans (MC d c).symm
 rcases nS.mp (k.mem_iff.mp g)with rfl|g
 .exact m
 exact S.rep p g
def BO.add(I:Inv X pins σ H s){M n t l}(S:BO X H O s.heap a g M n t l)(B:g.all EU=WP)(hd:kb X.K H O' d v)(o:Rep X.K H O d v)(m:RelV v u)(k:EU d=WP)(hz:(X0 g)<500)
  (hA:A.units+60<aV)
  (h:∀r h' c f G t' L,s.toks<=c->aE a s.heap h'->BO X H O h' a (qg g d) f G t' L->Q r {s with heap:=h',toks:=c}):ag (ah X.prog X.w) A (lm a u) Q E s:=by
 obtain⟨av,v9⟩:=S.Le;unfold lm;refine md<|iI<|PJ 50 I d v u O A E _ o m (tP k) (by have:=rQ k;lia) (by lia) λc N=>?_;have J:Inv X pins σ H {s with toks:=c}:=I.kept (h':=s.heap) (t':=c) λ_ _ e=>e;obtain⟨b,rfl,Y⟩:=BO.N1 (s:={s with toks:=c}) J S B hd m k hA;have T:∀p∈l,p.1∈g:=λp C=>S.perm.mem_iff.mp<|rK C;refine TT.aaL Y S.is.at_ S.is.plain (by lia) (λU j=>Z3 J 8 d v _ O A E U o m (tP k) (by have:=rQ k;lia) j) (λ⟨i,y,j⟩=>?_) λR h' f G t' g1 g2 V W Z g6=>?_
 .have:qg g d=g:=by
   unfold qg
   cases z:l[i]? with
   |none=>rw[z]at j;cases j
   |some p=>rw[z]at j;rw[iZ<|Q5.mpr ⟨p.1,T p<|nL z,j⟩]
  exact h W1 s.heap c M n t l N (DR a s.heap) (by rw[this];exact S)
 have F:g.any (D.AI · d)=W1:=by rw[m8];intro x hx;have P:=S.perm.mem_iff.mpr hx;obtain⟨p,C,rfl⟩:=jd P;obtain⟨i,y⟩:=sj C;have:=R i (by have:=(uj.mp y).1;lia);rw[y]at this;simpa using this
 obtain⟨L,q⟩:=S.put F o m ⟨g2,W,Z,g6.trans S.is.led⟩ V;exact h WP h' c f G t' L N g1 q
def WV:D->Option (D×Bool)
 |.lst l|.tup l=>if l.all EU=C/\(X0 l)<500 then Y (.AF .set []<|om l,C)else J
 |_=>J
def aeI{l:List D}{i:Nat}{d:D}(h:l[i]?=Y d):om (l.take<|i+1)=qg (om<|l.take i) d:=by unfold om;rw[DF,h,G7];rfl
def Ql{p:D->Bool}:∀(l a:List D),l.all p=C->a.all p=C->(l.foldl qg a).all p=C:=by
 intro e
 induction e with
 |nil=>intro a _ h;exact h
 |cons d l c=>intro a h1 b;rw[tx,ma]at h1;exact c _ h1.2 (T5 b h1.1)
def C4:∀(l a:List D),(l.foldl qg a).length<=X0 a+(X0 l):=by
 intro c
 induction c with
 |nil=>intro a;simp
 |cons d l b=>intro a;have:=b<|qg a d;have:=QK a d;simp;lia
def QE{p:D->Bool}{l:List D}(h:l.all p=C)(i:Nat):(l.take i).all p=C:=by rw[mh]at h ⊢;exact λx a=>h x<|xS a
def Qk:∀(l a:List D),X0 a<=(l.foldl qg a).length:=by
 intro l
 induction l with
 |nil=>intro a;exact jZ _
 |cons d l b=>intro a;refine lN ?_<|b<|qg a d;unfold qg;split<;>simp
def NG{ok:D->Bool}{pins:jF}{s:iL}{σ:L2.St}{H:Hp}{x:V}{u:iQ}{Q:VK}{O:AA}{d:D}{l:List D}(hc:X.calm=C)(I:Inv X pins σ H s)(ru:RelV x u)(hd:kb X.K H O d x)(hl:d=.lst l\/d=.tup l)(T:l.all ok=C)(hz:(om l).length<500)(G:Gen X.K H O (.AF .set []<|om l,C) Q)
  (add:∀{j:iL}{B:je}{E':jB}{U:sM}{N:List D}{d:D}{x:V}{w:iQ}{a:iG}{m n t g},Inv X pins σ H j->BO X H O j.heap a N m n t g->N.all ok=C->Rep X.K H O d x->RelV x w->ok d=C->N.length<500->(X.A.units+90<aV->B.units+60<aV)->
   (∀r C' tk y n' t' Y',j.toks<=tk->aE a j.heap C'->BO X H O C' a (qg N d) y n' t' Y'->U r {j with heap:=C',toks:=tk})->ag (ah X.prog X.w) B (lm a w) U E' j):
  ag (ah X.prog X.w) X.A (call (.type "set") [u]) (EP X pins σ Q) X.xe s:=by
 obtain⟨p,f,c,rfl,r,v,J⟩:∃p f c,x=.ref p/\YP X.K H O l f/\Vals f c/\(s.heap.IsList p c.toArray\/s.heap.IsTuple p c.toArray):=by
  rcases hl with rfl|rfl
  .obtain⟨p,f,rfl,q,r⟩:=lh hd;obtain⟨c,v,J,_⟩:=I.list q;exact⟨p,f,c,rfl,r,v,.inl J.isList⟩
  obtain⟨p,f,rfl,q,r⟩:=lV hd;obtain⟨c,v,J,_⟩:=I.tuple q;exact⟨p,f,c,rfl,r,v,.inr J⟩
 cases ru;have e1:=r.length;have e2:=v.length;have hh:X.A.handled=WF:=I.ok.hd hc;have M:=I.fresh
 refine TT.XI hh J (λi h=>∃m n t g,BO X H O h s.heap.objs.size (om<|l.take i) m n t g) (λi h C' ⟨m,n,t,g,S⟩ k=>⟨m,n,t,g,S.BC k⟩)
  (λC' e=>⟨#[],0,_,[],⟨TT.XG e,by simp[om],λp P=>by simp at P,.nil⟩⟩) (λi w j B U E' hB hi F hk hg L Z E=>?_) (λC' tk F hk=>?_)
 .obtain⟨m,n,t,g,S⟩:=F
  have hil:i<c.length:=by have:=(Mh.mp hi).1;simpa using this
  have hw:c[i]?=Y w:=by simpa using hi
  have dW:f[i]?=Y f[i]:=jT (by omega);have gR:l[i]?=Y l[i]:=jT (by omega);obtain⟨w',w1,w2⟩:=v.get dW;rw[hw]at w1;cases w1;have cE:Rep X.K H O l[i] f[i]:=r.views gR dW;have l9:ok l[i]=C:=mh.mp T _ (Dw _);obtain⟨h1,g1,dr1,eK,os1⟩:=j;dsimp only at hk hg L Z E S;subst hg;subst L;subst Z;have I':Inv X pins σ H {s with heap:=h1,toks:=eK}:=I.kept hk;refine add I' S (Ql _ _ (QE T i) rfl) cE w2 l9 ?_ (λ_=>by omega) λrr h2 fR y n' t' Y' a1 a2 W=>?_
  .have:=Qk (l.drop i)<|om<|l.take i;unfold om at this hz ⊢;rw[<-G7,vq]at this;omega
  rw[<-aeI gR]at W;exact E rr h2 fR a1 a2 ⟨y,n',t',Y',W⟩
 obtain⟨m,n,t,g,S⟩:=F;have R:c.toArray.size=l.length:=by simp;omega
 rw[R,nF]at S;refine⟨.ref s.heap.objs.size,upd H s.heap.objs.size<|.A8<|g.map hv,I.laid hk (jZ _) S.N6,rfl,?_⟩;refine G s.heap.objs.size _ M (lO M) ?_;exact S.AF (λp P=>Rep.mono (λb o e _=>lO M b o e) (λb hb z=>z.elim id λz=>absurd (z▸M) hb)<|S.rep p P) jv
def afH(j:X.calm=C)(m:X.A.units+90<aV):kI X (.type "set") (Fp X.K<|g1 WV):=oR λpins s σ H x u Q O d z T n np hd f G=>by
 cases d with
 |lst l=>obtain⟨⟨a,b⟩,rfl⟩:=jm f;exact NG j T n hd (.inl I) a (zN (by have:=C4 l [];simpa[om]using this) b) G λT S g c rw i h e k=>BO.add T S g (.inl c) c rw i h (e m) k
 |tup l=>obtain⟨⟨a,b⟩,rfl⟩:=jm f;exact NG j T n hd (.inr I) a (zN (by have:=C4 l [];simpa[om]using this) b) G λT S g c rw i h e k=>BO.add T S g (.inl c) c rw i h (e m) k
 |_=>cases f
def W2(I:Inv X pins σ H s){J' n t l}(S:BO X H O s.heap a g J' n t l)(q:g.all EU=WP)(hd:kb X.K H O d v)(z:RelV v u)(k:EU d=WP)(M:A.units+60<aV)
  (h:∀c,Q (g.any (D.AI · d)) {s with toks:=c}):ag (ah X.prog X.w) A (SS a u) Q E s:=by
 obtain⟨U,F⟩:=S.Le
 have L:Rep X.K H O d v:=by
  obtain⟨ld,rfl⟩:=qr k;rcases hd with hd|⟨_,_,hd⟩
  .exact hd
  exact hd.elim
 unfold SS;refine md<|iI<|PJ 50 I d v u O A E _ L z (tP k) (by have:=rQ k;lia) (by lia) λc Y=>?_;have B:Inv X pins σ H {s with toks:=c}:=I.kept (h':=s.heap) (t':=c) λ_ _ e=>e;obtain⟨b,rfl,C⟩:=BO.N1 (s:={s with toks:=c}) B S q hd z k M;have y:∀p∈l,p.1∈g:=λp r=>S.perm.mem_iff.mp<|rK r;refine iI<|TT.aae C S.is.at_ (λi m j=>?_) λG=>?_
 .have:g.any (D.AI · d)=WP:=by
   cases o:l[i]? with
   |none=>rw[o]at j;cases j
   |some p=>rw[o]at j;exact Q5.mpr ⟨p.1,y p<|nL o,j⟩
  have f:=h c;rw[this]at f;exact iX f
 have:g.any (D.AI · d)=W1:=by rw[m8];intro x N;have T:=S.perm.mem_iff.mpr N;obtain⟨p,r,rfl⟩:=jd T;obtain⟨i,m⟩:=sj r;have:=G i (by have:=(uj.mp m).1;lia);rw[m]at this;simpa using this
 have f:=h c;rw[this]at f;exact iX f
def Bq(T:Inv X pins σ H s){g n t l}(S:BO X H O s.heap a f g n t l)(c:f.all EU=C)(hd:kb X.K H O d v)(j:RelV v u)(i:EU d=C)(k:A.units+61<aV)
  (h:∀e,Q (f.any (D.AI · d)) {s with toks:=e}):ag (ah X.prog X.w) A (o3 (.ref a) u) Q E s:=by
 have b:=S.is.typeIs;unfold o3;refine md<|iI<|vf b Mj.lookup ?_;change ag _ _ (if(Y (cb "set.__contains__")==Y au)=C then _ else _) _ E s;rw[jo<|by rw[wn];exact kR];refine iI<|wpAny_callSpecialUnlessNone?_slot (name:=bC "__contains__") b Mj<|qj Mj b entry_set_contains ?_<|PySem.F.args_set_contains_2 _ _;unfold ba.«frozenset.__contains__» pC;simp only[dO,vB];unfold eO pc;refine iI<|iX ?_;dsimp only;refine iI<|iX ?_;dsimp only;refine iI<|CK ?_;refine W2 T S c hd j i (by show A.units+1+60<aV;omega) λe=>?_;exact iX ⟨_,rfl,tK<|h e⟩
def NQ(d e:D):Option Bool:=match e with
 |.AF .set [] a=>if a.all EU=C/\EU d=C then Y (a.any (D.AI · d))else J
 |_=>inD d e
def WX(d e:D):Option (D×Bool):=(NQ d e).map λb=>(.bl b,U)
def EC(d e:D):Option (D×Bool):=(NQ d e).map λb=>(.bl (!b),U)
def Sj(B:X.A.units+62<aV):BP X (aw .In) (rD X.K WX):=by
 intro pins s σ H x y v u Q N j k h;obtain⟨O,d,e,z,np,h1,g,m,G⟩:=h;obtain⟨b,c,rfl⟩:=jw m;by_cases i:∃f,e=.AF .set [] f
 .obtain⟨f,rfl⟩:=i;obtain⟨⟨o,hd⟩,rfl⟩:=jm (show(if f.all EU=C/\EU d=C then Y (f.any (D.AI · d))else J)=Y b from c);obtain⟨a,T,rfl,q,r⟩:=nh g;cases k;obtain⟨w,n,t,l,S⟩:=q.Lb N r;change ag _ _ (o3 (.ref a) v>>=λb=>pure<|cF b) _ _ s;refine iI<|Bq N S o h1 j hd (by lia) λp=>?_;exact iX ⟨.bl _,H,N.kept (h':=s.heap) (t':=p) λ_ _ e=>e,rfl,G.bl⟩
 have:inD d e=Y b:=by
  unfold NQ at c;split at c
  .exact absurd ⟨_,rfl⟩ i
  exact c
 exact zu U (by lia) pins s σ H x y v u Q N j k ⟨O,d,e,b,h1,g,this,G.bl⟩
def aej(B:X.A.units+62<aV):BP X (aw .NotIn) (rD X.K EC):=by
 intro pins s σ H x y v u Q N j k h;obtain⟨O,d,e,z,np,h1,g,m,G⟩:=h;obtain⟨b,c,rfl⟩:=jw m;by_cases i:∃f,e=.AF .set [] f
 .obtain⟨f,rfl⟩:=i;obtain⟨⟨o,hd⟩,rfl⟩:=jm (show(if f.all EU=C/\EU d=C then Y (f.any (D.AI · d))else J)=Y b from c);obtain⟨a,T,rfl,q,r⟩:=nh g;cases k;obtain⟨w,n,t,l,S⟩:=q.Lb N r;change ag _ _ (o3 (.ref a) v>>=λb=>pure<|cF (!b)) _ _ s;refine iI<|Bq N S o h1 j hd (by lia) λp=>?_;exact iX ⟨.bl _,H,N.kept (h':=s.heap) (t':=p) λ_ _ e=>e,rfl,G.bl⟩
 have:inD d e=Y b:=by
  unfold NQ at c;split at c
  .exact absurd ⟨_,rfl⟩ i
  exact c
 exact zu C (by lia) pins s σ H x y v u Q N j k ⟨O,d,e,b,h1,g,this,G.bl⟩
end
def agg(a:l.Perm m)(b:∀x∈l,D.pr x=C):nU Bo l=nU Bo m:=Ny (λx c=>b x<|a.mem_iff.mpr c) ((lb Bo l).trans a)<|rg l
def aeZ{k:Nat}{l:List D}(h:Fw k l):oK l=C:=by
 unfold oK;rw[xM];right
 cases l with
 |nil=>rfl
 |cons x m=>simp only[ma,mh,wd];refine⟨⟨by rw[h.hd x la];rfl,λy a=>⟨⟨?_,h.pr y a⟩,h.dp y a⟩⟩,λy a z b=>h.cm y a z b⟩;rw[h.hd x la,h.hd y a];simp
def ad5(b:l.Perm m)(h:oK m=C):oK l=C:=by
 rcases Cp h with c|⟨k,B⟩
 .unfold oK;rw[xM];left;rw[b.length_eq];simpa using c
 exact aeZ (k:=k) ⟨λx a=>B.hd x<|b.mem_iff.mp a,λx a=>B.pr x<|b.mem_iff.mp a,λx a=>B.dp x<|b.mem_iff.mp a,λx a y d=>B.cm x (b.mem_iff.mp a) y<|b.mem_iff.mp d⟩
def tV(d:D):Option (D×Bool):=match d with
 |.AF .set [] a=>if a.all EU=C then lE a else J
 |_=>rW d
section
variable {X:Cx}
def afZ{d:Type}{c:Prop}[Decidable c]{a:Option d}{b:d}(h:(if c then a else J)=Y b):c/\a=Y b:=by
 split at h
 .exact⟨‹_›,h⟩
 cases h
def aeX{c:jF}{s:iL}{B:L2.St}{H:Hp}{x:V}{u:iQ}{Q:VK}{O:AA}{i:List D}{z:D×Bool}(M:X.calm=WP)(U:X.A.units+62<aV)(I:Inv X c B H s)(ru:RelV x u)(np:∀p,¬Ow (H p)->¬O p)(hd:kb X.K H O (.AF .set [] i) x)(j:∀x∈i,D.pr x=WP)(f:lE i=Wp z)(G:Gen X.K H O z Q):
  ag (ah X.prog X.w) X.A (call (.builtin "sorted") [u]) (EP X c B Q) X.xe s:=by
 obtain⟨a,us,rfl,q,r⟩:=nh hd;cases ru;obtain⟨e,n,t,l,S⟩:=q.Lb I r;obtain⟨C,v9⟩:=S.Le;have wp:=TT.Gy X.w a n e;obtain⟨z',g,v⟩:=yN wp S.par;obtain⟨b,o,rfl⟩:=nk hv v _ rfl;have y:YP X.K H O (b.map (·.1)) (b.map (·.2)):=YP.LB λp j=>S.rep p<|o.mem_iff.mp j
 have R:Vals (b.map (·.2)) ((TT.rH X.w a n e).toList.map (·.2)):=by
  clear v o y wp;generalize (TT.rH X.w a n e).toList=m at g;revert g;generalize d:b.map hv=zz;intro g
  induction g generalizing b with
  |nil=>
    have:b=[]:=by simpa using d
    subst this;exact .nil
  |cons r t ih=>
   cases b with
   |nil=>simp at d
   |cons p b=>simp at d;rw[kc,kc];refine .cons ?_<|ih b d.2;have:=r.2;rw[<-d.1]at this;exact this
 have h:(b.map (·.1)).Perm i:=(o.map (·.1)).trans S.perm
 have E:lE (b.map (·.1))=Wp z:=by unfold lE at f ⊢;obtain⟨⟨h1,T⟩,rfl⟩:=jm f;rw[iZ ⟨ad5 h h1,by rw[h.length_eq];exact T⟩,agg h λx Y=>j x<|h.mem_iff.mp Y]
 have N:X.A.handled=WF:=I.ok.hd M
 have d:e.size<=sizeLine:=by unfold lE at f;rw[C];exact(jm f).1.2
 exact ur U I y R E G λQ' Z W F J=>TT.TL (by rw[F];exact N) S.is d λL P k=>J L P k
def adF(m:X.calm=C)(k:X.A.units+62<aV):kI X (.builtin "sorted") (Fp X.K<|g1 tV):=oR λc s o N x u Q O d z T l np hd h G=>by
 by_cases i:∃e,d=.AF .set [] e
 .obtain⟨e,rfl⟩:=i;obtain⟨f,g⟩:=afZ (show(if e.all EU=C then lE e else J)=Y z from h);exact aeX m k T l np hd (λx n=>tP<|mh.mp f x n) g G
 have g:g1 rW [d]=Y z:=by
  have:tV d=rW d:=by
   unfold tV;split
   .exact absurd ⟨_,rfl⟩ i
   rfl
  show rW d=Y z;rw[<-this];exact h
 exact xj k c s o N [x] [u] Q T (.cons l .nil) ⟨O,[d],z,np,rfl,(λj p q a b=>by
  cases j with
  |zero=>simp at a b;subst a;subst b;exact hd
  |succ j=>simp at a),g,G⟩
end
end PX
namespace L2
section
variable {κ:Type}[DecidableEq κ]
def uJ(a:List (κ×V))(k:κ):Option V:=(a.find? λb=>decide<|b.1=k).map (·.2)
def vK(a:List (κ×V))(k:κ)(v:V):List (κ×V):=
 if(a.any λb=>decide<|b.1=k)=C then a.map (λb=>if b.1=k then(b.1,v)else b)else a++[(k,v)]
theorem wy{p:κ×V}{r:List (κ×V)}{k:κ}(e:p.1=k):uJ (p::r) k=Y p.2:=by simp[uJ,xF,e]
theorem tL{p:κ×V}{r:List (κ×V)}{k:κ}(e: ¬p.1=k):uJ (p::r) k=uJ r k:=by simp[uJ,xF,e]
theorem Fn(k:κ):∀a:List (κ×V),(a.any λb=>decide<|b.1=k)=(uJ a k).isSome
 |[]=>rfl
 |p::r=>by
  rw[tw];by_cases e:p.1=k
  .simp only[wy e,oV e,Bool.true_or,hU]
  rw[tL e,lT e,Bool.false_or];exact Fn k r
theorem yP(a:List (κ×V))(k:κ)(v:V):(vK a k v).length<=X0 a+1:=by
 unfold vK;split
 .rw[ke];lia
 rw[nR,nJ,zO];lia
theorem HJ.Bw{o:Option V}{u:Option iQ}(r:HJ o u):o.isSome=u.isSome:=by
 cases o with
 |none=>cases u with
  |none=>rfl
  |some _=>exact(show False from r).elim
 |some _=>cases u with
  |none=>exact(show False from r).elim
  |some _=>rfl
theorem KV.val{kvs:List (κ×V)}{vs:List (κ×iQ)}(r:KV kvs vs)(k:κ):HJ (uJ kvs k) (f4 vs k):=by
 unfold KV at r
 induction r with
 |nil=>exact bv
 | @cons p q g c h t f=>
  obtain⟨h1,d⟩:=h;by_cases e:p.1=k
  .have a:q.1=k:=h1.symm.trans e;have b:f4 (q::c) k=Y q.2:=by simp[f4,xF,a]
   rw[wy e,b];exact d
  have a: ¬q.1=k:=λz=>e<|h1.trans z;have b:f4 (q::c) k=f4 c k:=by simp[f4,xF,a]
  rw[tL e,b];exact f
theorem KV.any{a:List (κ×V)}{vs:List (κ×iQ)}(r:KV a vs)(k:κ):(a.any λb=>decide<|b.1=k)=vs.any λb=>decide (b.1=k):=by
 unfold KV at r
 induction r with
 |nil=>rfl
 |cons h t c=>rw[tw,tw,c,h.1]
theorem KV.Lc{b:List (κ×V)}{c:List (κ×iQ)}(r:KV b c)(k:κ){y:V}{u:iQ}(g:RelV y u):
  KV (b.map λa=>if a.1=k then(a.1,y)else a) (c.map λa=>if a.1=k then(a.1,u)else a):=by
 unfold KV at r ⊢
 induction r with
 |nil=>exact .nil
 | @cons p q i j h t f=>
  rw[kc,kc];refine .cons ?_ f;obtain⟨h1,d⟩:=h;by_cases e:p.1=k
  .rw[iZ e,iZ<|h1.symm.trans e];exact⟨h1,g⟩
  rw[jo e,jo λz=>e<|h1.trans z];exact⟨h1,d⟩
theorem KV.put{a:List (κ×V)}{b:List (κ×iQ)}(r:KV a b)(k:κ){y:V}{u:iQ}(c:RelV y u):KV (vK a k y) (stored b k u):=by
 unfold vK stored;rw[r.any k];by_cases e:(b.any λd=>decide<|d.1=k)=C
 .rw[iZ e,iZ e];exact r.Lc k c
 rw[jo e,jo e];exact Paired.snoc r ⟨rfl,c⟩
theorem KV.length{a:List (κ×V)}{vs:List (κ×iQ)}(r:KV a vs):(X0 a)=(X0 vs):=Af r
end
def AV{P:jh}{w:jc}{k:Key}{u:iQ}(r:RelV (kV k) u):(lq P w).is k u=C:=by
 cases k with
 |inl i=>obtain⟨t,e⟩:=(show ∃t,u=gH i t from r);subst e;exact ad1 P w i t
 |inr x=>obtain⟨t,e⟩:=(show ∃t,u=me x t from r);subst e;exact ad0 P w x t
theorem CM{P:jh}{w:jc}:∀{a:List Key}{b:jP},Vals (a.map kV) b->ItemsAre (lq P w) a b
 |[],_,r=>by rw[oW]at r;cases r;exact .nil
 |k::a,_,r=>by
  rw[kc]at r
  cases r with
  |cons h t=>exact .cons (AV h)<|CM t
abbrev KT(T:Hp):List (List Key×V)->List (List Key×iG×iQ)->Prop:=Paired λp q=>p.1=q.1/\T q.2.1=Y (.tup<|p.1.map kV)/\RelV p.2 q.2.2
def KT.val{T:Hp}{kvs:List (List Key×V)}{d:List (List Key×iG×iQ)}(r:KT T kvs d)(k:List Key):HJ (uJ kvs k) ((gC d k).map (·.2)):=by
 induction r with
 |nil=>exact bv
 | @cons p q i c h t g=>
  obtain⟨h1,_,f⟩:=h;by_cases e:p.1=k
  .have a:q.1=k:=h1.symm.trans e;have b:gC (q::c) k=Y q.2:=by simp[gC,xF,a]
   rw[wy e,b];exact f
  have a: ¬q.1=k:=λz=>e<|h1.trans z;have b:gC (q::c) k=gC c k:=by simp[gC,xF,a]
  rw[tL e,b];exact g
def KT.Lc{T:Hp}{a:List (List Key×V)}{d:List (List Key×iG×iQ)}(r:KT T a d)(k:List Key){y:V}{u:iQ}(i:RelV y u):
  KT T (a.map λb=>if b.1=k then(b.1,y)else b) (d.map<|putAt k u):=by
 induction r with
 |nil=>exact .nil
 | @cons p q j l h t g=>
  rw[kc,kc];refine .cons ?_ g;obtain⟨h1,c,f⟩:=h;unfold putAt;by_cases e:p.1=k
  .rw[iZ e,iZ<|h1.symm.trans e];exact⟨h1,c,i⟩
  rw[jo e,jo λz=>e<|h1.trans z];exact⟨h1,c,f⟩
def KT.put{T:Hp}{a:List (List Key×V)}{c:List (List Key×iG×iQ)}(r:KT T a c)(k:List Key){b:iG}{y:V}{u:iQ}(f:T b=Y (.tup<|k.map kV))(d:RelV y u):
  KT T (vK a k y) (storedH c k b u):=by
 have e:(a.any λg=>decide<|g.1=k)=(gC c k).isSome:=by rw[Fn,(r.val k).Bw,GD]
 unfold vK storedH;rw[e];by_cases q:(gC c k).isSome=C
 .rw[iZ q,iZ q];exact r.Lc k d
 rw[jo q,jo q];exact Paired.snoc r ⟨rfl,f,d⟩
def KT.keeps{T c:Hp}{a:List (List Key×V)}{d:List (List Key×iG×iQ)}(r:KT T a d)(f:∀b e,T b=Y (.tup e)->c b=Y (.tup e)):KT c a d:=
 Paired.NC r λ_ _ z=>⟨z.1,f _ _ z.2.1,z.2.2⟩
section
variable {P:jh}{w:jc}{H:Hp}{h:jb}{a:iG}
def Uo{u:HO}(ok:EV P w H h)(e:Rd H a u):A5 P w H h a u:=e.ok ok
def J7{b:List (Key×V)}(ok:EV P w H h)(e:Rd H a (.dK b)):(X0 b)<=sizeLine/\(a==bX)=U/\∃c,KV b c/\h.DictOf (lq P w) a c:=
 show A5 P w H h a (.dK b)from Uo ok e
def UL{b:List (Key×V)}(ok:EV P w H h)(e:H a=Y (.dK b)):(X0 b)<=sizeLine/\(a==bX)=U/\∃c,KV b c/\h.DictOf (lq P w) a c:=J7 ok<|.inl e
def rT{c:List Key}(ok:EV P w H h)(e:H a=Y (.tup<|c.map kV)):(cA<|lq P w).is h c a:=by
 obtain⟨_,b,r,o,h1,d,⟨n,f⟩,_⟩:=(show A5 P w H h a (.tup<|c.map kV)from ok a _ e)
 exact⟨o,b.toArray,n,h1,d,f,by simpa using CM r⟩
def J6{b:List (List Key×V)}(ok:EV P w H h)(e:Rd H a (.dT b)):(X0 b)<=sizeLine/\(a==bX)=U/\
  ∃d,KT H b d/\h.DictOfH (cA<|lq P w) a d:=by
 obtain⟨z,y,d,r,o,i,g,h1,j,k,n,s⟩:=(show A5 P w H h a (.dT b)from Uo ok e)
 refine⟨z,y,d,r,o,i,g,h1,j,k,n,λx c=>?_,s⟩
 have all:∀{l:List (List Key×V)}{m:List (List Key×iG×iQ)},KT H l m->∀x∈m,(cA<|lq P w).is h x.1 x.2.1:=by
  intro l m q
  induction q with
  |nil=>intro x c;exact nomatch c
  | @cons p q v A f t u=>
   intro x c;rcases nS.mp c with e|c
   .subst e;exact rT ok (by rw[<-f.1];exact f.2.1)
   exact u x c
 exact all r x c
def aao{b:List (List Key×V)}(ok:EV P w H h)(e:H a=Y (.dT b)):(X0 b)<=sizeLine/\(a==bX)=U/\
  ∃c,KT H b c/\h.DictOfH (cA<|lq P w) a c:=J6 ok<|.inl e
end
def FK(T:Hp)(a:iG)(y:V)(r:Option V):Prop:=
 (∃c k,Rd T a (.dK c)/\y=kV k/\r=uJ c k)\/∃c k b,Rd T a (.dT c)/\y=.ref b/\T b=Y (.tup<|k.map kV)/\r=uJ c k
def HL(T:Hp)(a:iG)(y v:V)(c:Hp):Prop:=
 (∃kvs k,T a=Y (.dK kvs)/\y=kV k/\(X0 kvs)<sizeLine/\c=upd T a (.dK<|vK kvs k v))\/
 ∃kvs k b,T a=Y (.dT kvs)/\y=.ref b/\T b=Y (.tup<|k.map kV)/\(X0 kvs)<sizeLine/\c=upd T a (.dT<|vK kvs k v)
def FK.k{T:Hp}{a:iG}{kvs:List (Key×V)}{k:Key}(e:T a=Y (.dK kvs)):FK T a (kV k) (uJ kvs k):=.inl ⟨kvs,k,.inl e,rfl,rfl⟩
def FK.t{T:Hp}{a b:iG}{kvs:List (List Key×V)}{k:List Key}(e:T a=Y (.dT kvs))(c:T b=Y (.tup<|k.map kV)):FK T a (.ref b) (uJ kvs k):=.inr ⟨kvs,k,b,.inl e,rfl,c,rfl⟩
def HL.k{T:Hp}{a:iG}{kvs:List (Key×V)}{k:Key}{v:V}(e:T a=Y (.dK kvs))(b:(X0 kvs)<sizeLine):HL T a (kV k) v (upd T a<|.dK<|vK kvs k v):=.inl ⟨kvs,k,e,rfl,b,rfl⟩
def HL.t{T:Hp}{a b:iG}{kvs:List (List Key×V)}{k:List Key}{v:V}(e:T a=Y (.dT kvs))(c:T b=Y (.tup<|k.map kV))(d:(X0 kvs)<sizeLine):
  HL T a (.ref b) v (upd T a<|.dT<|vK kvs k v):=.inr ⟨kvs,k,b,e,rfl,c,d,rfl⟩
section
variable {X:Cx}{d:jF}{f:St}{H:Hp}{s:iL}{a:iG}{y v:V}{u r:iQ}{o:Option V}{A:je}{E:jB}
def Inv.big(T:Inv X d f H s):bX<s.heap.objs.size:=by have h:aj<s.heap.objs.size:=(T.mod.glob.keeps T.bk).lt;exact Ab (by decide) h
def C5{Q:jB}(O:A.units+1<aV)(M:Inv X d f H s)(g:FK H a y (Y v))(t:RelV y u)(h:∀i x,Inv X d f H x->RelV v i->Q i x):
  ag (ah X.prog X.w) A (d1 (.ref a) u) Q E s:=by
 rcases g with⟨n,k,e,j,l⟩|⟨n,k,b,e,j,N,l⟩
 .subst j;obtain⟨z,hd,T,c,dd⟩:=J7 M.hok e;obtain⟨i,m,q⟩:=HJ.some_of (v:=v) (o:=f4 T k) (by rw[l];exact c.val k);exact wpAny_getItem_of (AV t) dd.mapOf m<|h i _ (M.tok _) q
 subst j;cases(show u=bR b from t);obtain⟨z,hd,G,c,dd⟩:=J6 M.hok e;obtain⟨i,m,q⟩:=HJ.some_of (v:=v) (o:=(gC G k).map (·.2)) (by rw[l];exact c.val k);obtain⟨p,L,B⟩:=dL.mp m;refine wpAny_getItem_heap (xD O) (rT M.hok N) dd L ?_;rw[B];exact h i _ (M.tok _) q
def aap{Q:jB}(t:A.units+1<aV)(T:Inv X d f H s)(g:FK H a y o)(m:RelV y u)(h:∀n,Inv X d f H n->Q (.bool o.isSome) n):
  ag (ah X.prog X.w) A (aw .In u<|.ref a) Q E s:=by
 rcases g with⟨j,k,e,i,l⟩|⟨j,k,b,e,i,p,l⟩
 .subst i;obtain⟨z,hd,x,c,dd⟩:=J7 T.hok e;refine Sr (AV m) hd dd.mapOf ?_;rw[<-(c.val k).Bw,<-l];exact h _ (T.tok _)
 subst i;cases(show u=bR b from m);obtain⟨z,hd,B,c,dd⟩:=J6 T.hok e;refine IN (xD t) (rT T.hok p) hd dd ?_;have q:=(c.val k).Bw;rw[GD]at q;rw[<-q,<-l];exact h _ (T.tok _)
def J9{Q:jB}(t:A.units+1<aV)(T:Inv X d f H s)(g:FK H a y o)(m:RelV y u)(h:∀n,Inv X d f H n->Q (.bool (!o.isSome)) n):
  ag (ah X.prog X.w) A (aw .NotIn u<|.ref a) Q E s:=by
 rcases g with⟨j,k,e,i,l⟩|⟨j,k,b,e,i,p,l⟩
 .subst i;obtain⟨z,hd,x,c,dd⟩:=J7 T.hok e;refine C2 (AV m) hd dd.mapOf ?_;rw[<-(c.val k).Bw,<-l];exact h _ (T.tok _)
 subst i;cases(show u=bR b from m);obtain⟨z,hd,B,c,dd⟩:=J6 T.hok e;refine wP (xD t) (rT T.hok p) hd dd ?_;have q:=(c.val k).Bw;rw[GD]at q;rw[<-q,<-l];exact h _ (T.tok _)
def zF{h':jb}{t':Nat}{c:HO}(T:Inv X d f H s)(j:Nl (H a))(i:aE a s.heap h')(h:∃q,h'.get? a=Y q)(new:A5 X.prog X.w (upd H a c) h' a c):
  Inv X d f (upd H a c) {s with heap:=h',toks:=t'}:=
 T.write (x:=a) (e:=a) j (.inl I) (λb q g z=>(i.2 b g).trans z) h new
def Xk{P:jh}{w:jc}{h:Hp}{g:jb}{b:List (Key×V)}{e:List (Key×iQ)}(z:(X0 b)<=sizeLine)(hd:(a==bX)=U)(c:KV b e)(dd:g.DictOf (lq P w) a e):
  A5 P w h g a (.dK b):=⟨z,hd,e,c,dd⟩
def yF{L:Hp}{Q:Unit->Shared->Prop}(hu:A.units+1<aV)(I:Inv X d f H s)(g:HL H a y v L)(M:RelV y u)(J:RelV v r)(h:∀N,Inv X d f L N->Q () N):
  ag (ah X.prog X.w) A (ll (.ref a) u r) Q E s:=by
 rcases g with⟨i,k,e,t,l,p⟩|⟨i,k,b,e,t,O,l,p⟩
 .subst t p;obtain⟨z,hd,S,j,dd⟩:=UL I.hok e;have C:S.length<=sizeLine:=by rw[<-j.length];exact z
  have x:(vK i k v).length<=sizeLine:=by have:=yP i k v;lia
  refine wpAny_setItem_pairs (hsz:=C) (AV M) dd λG m B=>h _ ?_;have R:∃q,G.get? a=Wp q:=let⟨q,_,_,n,_⟩:=m;⟨q,n⟩
  exact zF I (by rw[e];exact bv) B R<|Xk x hd (j.put k J) m
 subst t p;cases(show u=bR b from M);obtain⟨z,hd,V,j,dd⟩:=aao I.hok e;have C:V.length<=sizeLine:=by rw[<-Af j];exact z
 have x:(vK i k v).length<=sizeLine:=by have:=yP i k v;lia
 refine wpAny_setItem_heap (hsz:=C) (xD hu) (rT I.hok O) dd λG m B=>h _ ?_;obtain⟨q,Y,U,n,D,F,K,_,P⟩:=m;refine zF I (by rw[e];exact bv) B ⟨q,n⟩ ⟨x,hd,_,(j.put k O J).keeps λc W T=>?_,q,Y,U,n,D,F,K,P⟩;rw[jx<|Ux T e (λz=>nomatch z)];exact T
end
def Qi{P:jh}{w:jc}{T:Hp}(h:jb)(a:bX<h.objs.size):A5 P w T (h.push {cls:=.type "dict",data:=.dict #[]}) h.objs.size (.dK []):=
 ⟨mq _,BH.mpr<|oX<|kx a,[],.nil,Heap.DictOf.new h⟩
def Vp:TE:=λ_ T Q=>∀p,T p=J->Q (.ref p) (upd T p<|.dK [])
section
variable {X:Cx}{b:br}
def Ot:PE X (.Dict [] [] b) Vp:=λc s d O Q T h=>wpAny_Dict_empty ⟨.ref s.heap.objs.size,_,T.laid (a:=s.heap.objs.size) (o:=.dK []) (t':=s.toks) (λ_ _ q=>jW _ q) (jZ _)<|Qi s.heap T.big,rfl,h _ (T.hok.fresh<|jZ _)⟩
end
end L2
namespace PX
open L2 PySem.SeqAt TS
noncomputable def vP:D->Option Key
 |.int i=>Y<|.inl i
 |.str x=>Y<|.inr x
 |_=>J
def BV:List D->Option (List Key)
 |[]=>Y []
 |d::l=>(vP d).bind λk=>(BV l).map (k:: ·)
def ze:D->Option (List Key)
 |.tup l=>BV l
 |_=>J
def pF(h:vP d=Y k):d=lM k:=by
 cases d<;>simp[vP]at h<;>subst h<;>rfl
def Pm:∀{l:List D}{a:List Key},BV l=Y a->l=a.map lM:=by
 intro e
 induction e with
 |nil=>intro a h;cases h;rfl
 |cons d l c=>intro a h;rw[BV]at h;obtain⟨k,h1,h⟩:=iM h;obtain⟨m,b,rfl⟩:=jw h;rw[pF h1,c b];rfl
def tQ(h:ze d=Y a):d=.tup (a.map lM):=by
 cases d with
 |tup l=>rw[Pm (show BV l=Y a from h)]
 |_=>cases h
def ue(a b:Key):D.AI (lM a) (lM b)=decide (a=b):=by
 cases a with
 |inl i=>cases b with
  |inl j=>simp only[lM,D.AI,Pl]
  |inr y=>simp only[lM,D.AI,Pk]
 |inr x=>cases b with
  |inl j=>simp only[lM,D.AI,Pj]
  |inr y=>simp;rfl
theorem uF:∀a b:List Key,D.Bc (a.map lM) (b.map lM)=decide (a=b)
 |[],[]=>by simp[D.Bc]
 |[],_::_=>by simp[D.Bc]
 |_::_,[]=>by simp[D.Bc]
 |x::a,y::b=>by simp only[kc];rw[D.Bc,ue,uF a b];simp
def mw:List D->List D->D->Option D
 |a::b,v::c,k=>if D.AI a k=C then Y v else mw b c k
 |_,_,_=>J
def Au:List D->List D->D->D->List D
 |b::c,v::a,k,w=>(if D.AI b k=C then w else v)::Au c a k w
 |_,a,_,_=>a
def yn(a b:List D)(k w:D):List D×List D:=if a.any (D.AI · k)=C then(a,Au a b k w)else(a++[k],b++[w])
def qt(a:List D)(k:D):Bool:=((vP k).isSome&&a.all λx=>(vP x).isSome)||((ze k).isSome&&a.all λx=>(ze x).isSome)
section
variable {K:ji}{H:Hp}{O:AA}
def FC(h:Rep K H O (lM k) v):v=kV k:=by
 cases k with
 |inl i=>exact Rep.int h
 |inr x=>exact Rep.str h
def ae6:∀{b:List Key}{a:List V},YP K H O (b.map lM) a->a=b.map kV:=by
 intro e
 induction e with
 |nil=>intro a h;rw[oW,YP]at h;exact h
 |cons k b d=>intro a h;rw[kc,YP]at h;obtain⟨v,r,rfl,h1,c⟩:=h;rw[FC h1,d c];rfl
def qZ(hk:vP d=Y k)(h:kb K H O d v):v=kV k:=by
 rw[pF hk]at h;rcases h with h|⟨a,rfl,h⟩
 .exact FC h
 cases k<;>exact h.elim
def pE(hk:ze d=Y c)(h:kb K H O d v):∃b,v=.ref b/\H b=Y (.tup<|c.map kV):=by
 rw[tQ hk]at h;rcases h with h|⟨a,rfl,h⟩
 .obtain⟨b,xs,rfl,q,r⟩:=h.tup;rw[ae6 r]at q;exact⟨b,rfl,q.1⟩
 exact h.elim
def YT(a b:List Key):D.AI (.tup<|a.map lM) (.tup<|b.map lM)=decide (a=b):=by rw[D.AI,uF]
theorem AQ{j:Type}[DecidableEq j]{f:j->D}{k:j}(l:∀a b,D.AI (f a) (f b)=decide (a=b)):∀{c:List (j×V)}{g:List D},YP K H O g (c.map (·.2))->(∀d,mw (c.map λp=>f p.1) g (f k)=Y d->∃v,uJ c k=Y v/\Rep K H O d v)/\(mw (c.map λp=>f p.1) g (f k)=J->uJ c k=J)
 |[],g,_=>⟨λd h=>by cases g<;>simp[mw]at h,λ_=>rfl⟩
 |(i,v)::c,[],h=>by rw[kc,YP]at h;cases h
 |(i,v)::c,t::g,h=>by
  rw[kc,YP]at h;obtain⟨w,r,e,h1,m⟩:=h;obtain⟨rfl,rfl⟩:=sZ e;obtain⟨q,s⟩:=AQ l m;simp only[kc,mw,l];by_cases hk:i=k
  .simp only[hk,ng];exact⟨λd h=>by cases h;exact⟨v,wy (p:=(k,v)) I,h1⟩,λh=>by cases h⟩
  simp only[hk,kX,mB];refine⟨λd h=>?_,λh=>?_⟩
  .obtain⟨u,n,o⟩:=q d h;exact⟨u,by rw[tL (p:=(i,v)) hk];exact n,o⟩
  rw[tL (p:=(i,v)) hk];exact s h
end
section
variable {P:jh}{w:jc}{H H':Hp}{h:jb}{a:iG}
def UN(x:A5 P w H h a (.dT [])):A5 P w H' h a (.dK []):=by
 obtain⟨z,y,k,r,o,b,c,h1,d,f,g,j⟩:=x;cases r
 have:b= #[]:=by
  have:b.toList=[]:=by simpa using g
  exact XN.mp this
 subst this;refine⟨z,y,[],.nil,o,#[],c,h1,d,f,?_,?_,mZ⟩
 .first|exact λe i=>by simp at i|(intro;simp)
 first|exact .nil|trivial|simp
def UO(x:A5 P w H h a (.dK [])):A5 P w H' h a (.dT []):=by
 obtain⟨z,y,n,r,o,c,d,h1,f,g,k,b,m⟩:=x;cases r
 have:c= #[]:=by
  have j:(X0 c.toList)=0:=by
   first
    |simpa using (X0 b)
    |simpa using(Af b)
    |(
      cases i:c.toList with
      |nil=>rfl
      |cons e l=>rw[i]at b;cases b)
  exact XN.mp<|Uc.mp j
 subst this;exact⟨z,y,[],.nil,o,#[],d,h1,f,g,rfl,mZ⟩
end
section
variable {X:Cx}{g:jF}{i:L2.St}{H:Hp}{s:iL}
def af3{A:je}{E:jB}(T:Inv X g i H s){H':Hp}{a:iG}{k:Key}{u:iQ}{Q:jB}(x:A5 X.prog X.w H' s.heap a (.dK []))(d:RelV (kV k) u)(b:Bool)(h:∀e,Inv X g i H e->Q (.bool b) e):
  ag (ah X.prog X.w) A (aw (if b=C then .NotIn else .In) u<|.ref a) Q E s:=by
 obtain⟨z,hd,f,c,dd⟩:=x;cases c
 cases b
 .exact Sr (AV d) hd dd.mapOf<|h _ (T.tok _)
 exact C2 (AV d) hd dd.mapOf<|h _ (T.tok _)
def af2{A:je}{E:jB}(e:A.units+1<aV)(T:Inv X g i H s){H':Hp}{a b:iG}{k:List Key}{Q:jB}(x:A5 X.prog X.w H' s.heap a (.dT []))(d:H b=Y (.tup<|k.map kV))(c:Bool)(h:∀f,Inv X g i H f->Q (.bool c) f):
  ag (ah X.prog X.w) A (aw (if c=C then .NotIn else .In) (.ref b)<|.ref a) Q E s:=by
 obtain⟨z,hd,u,r,o,l,j,h1,m,n,p,q⟩:=x;cases r;have dd:s.heap.DictOfH (cA<|lq X.prog X.w) a []:=⟨o,l,j,h1,m,n,p,(λx (t:x∈[])=>by simp at t),q⟩
 cases c
 .exact IN (xD e) (rT T.hok d) hd dd<|h _ (T.tok _)
 exact wP (xD e) (rT T.hok d) hd dd<|h _ (T.tok _)
def rp(h:qt d k=C):(∃e,vP k=Y e/\∀x∈d,∃c,vP x=Y c)\/(∃f,ze k=Y f/\∀x∈d,∃c,ze x=Y c):=by
 unfold qt at h;rw[xM,ma,ma,mh,mh]at h;rcases h with⟨h1,a⟩|⟨h1,a⟩
 .exact .inl ⟨_,(Ko.mp h1).choose_spec,λx b=>Ko.mp<|a x b⟩
 exact .inr ⟨_,(Ko.mp h1).choose_spec,λx b=>Ko.mp<|a x b⟩
def D5{a:List Key}{c:Key}(h:vP (.tup<|a.map lM)=Y c):False:=by cases h
def AU(h:ze (lM k)=Y c):False:=by cases k<;>cases h
def UM(B:A.units+1<aV)(I:Inv X g i H s)(q:Bs X.K (H a) .dct ks o us)(r:YP X.K H O o us)(hk:qt ks k=C)(G:kb X.K H O k y)(x:RelV y u)(m:Bool)
  (h:∀l,Inv X g i H l->Q (.bool<|xor m (mw ks o k).isSome) l):ag (ah X.prog X.w) A (aw (if m=C then .NotIn else .In) u<|.ref a) Q E s:=by
 have nil:∀o:List D,mw [] o k=WF:=λo=>by cases o<;>rfl
 rcases q with⟨j,e,rfl,rfl⟩|⟨j,e,rfl,rfl⟩
 .rcases rp hk with⟨C',h1,_⟩|⟨L,h1,M⟩
  .have:=qZ h1 G;subst this;have R:=pF h1;subst R;obtain⟨F,P⟩:=AQ (f:=lM) (k:=C') ue r
   have Y:(uJ j C').isSome=(mw (j.map λp=>lM p.1) o<|lM C').isSome:=by
    cases z:mw (j.map λp=>lM p.1) o (lM C')with
    |none=>rw[P z];rfl
    |some d=>obtain⟨v,N,_⟩:=F d z;rw[N];rfl
   rw[<-Y]at h
   cases m
   .exact aap B I (FK.k e) x λl n=>by simpa using h l n
   exact J9 B I (FK.k e) x λl n=>by simpa using h l n
  have J:j=[]:=by
   cases j with
   |nil=>rfl
   |cons p j=>obtain⟨c,U⟩:=M (lM p.1) (by simp);exact(AU U).elim
  subst J;obtain⟨b,rfl,T⟩:=pE h1 G;cases x;rw[oW,nil]at h;exact af2 B I (UO (H':=H)<|I.hok a _ e) T m λl n=>by simpa using h l n
 rcases rp hk with⟨C',h1,M⟩|⟨L,h1,_⟩
 .have J:j=[]:=by
   cases j with
   |nil=>rfl
   |cons p j=>obtain⟨c,U⟩:=M (.tup<|p.1.map lM) (by simp);exact(D5 U).elim
  subst J;have:=qZ h1 G;subst this;rw[oW,nil]at h;exact af3 I (UN (H':=H)<|I.hok a _ e) x m λl n=>by simpa using h l n
 obtain⟨b,rfl,T⟩:=pE h1 G;have R:=tQ h1;subst R;obtain⟨F,P⟩:=AQ (f:=λk:List Key=>D.tup<|k.map lM) (k:=L) YT r
 have Y:(uJ j L).isSome=(mw (j.map λp=>.tup (p.1.map lM)) o<|.tup<|L.map lM).isSome:=by
  cases z:mw (j.map λp=>.tup (p.1.map lM)) o (.tup<|L.map lM)with
  |none=>rw[P z];rfl
  |some d=>obtain⟨v,N,_⟩:=F d z;rw[N];rfl
 rw[<-Y]at h
 cases m
 .exact aap B I (FK.t e T) x λl n=>by simpa using h l n
 exact J9 B I (FK.t e T) x λl n=>by simpa using h l n
def Xl(J:A.units+1<aV)(I:Inv X g i H s)(q:Bs X.K (H a) .dct M n us)(r:YP X.K H O n us)(hk:qt M k=WP)(l:mw M n k=Y d)(U:kb X.K H O k y)(N:RelV y u)
  (h:∀v w m,Inv X g i H m->Rep X.K H O d v->RelV v w->Q w m):ag (ah X.prog X.w) A (d1 (.ref a) u) Q E s:=by
 have nil:∀n:List D,mw [] n k=WF:=λn=>by cases n<;>rfl
 rcases q with⟨j,e,rfl,rfl⟩|⟨j,e,rfl,rfl⟩
 .rcases rp hk with⟨G,h1,_⟩|⟨Y',h1,x⟩
  .have:=qZ h1 U;subst this;have T:=pF h1;subst T;obtain⟨v,z,B⟩:=(AQ (f:=lM) (k:=G) ue r).1 d l;refine C5 J I (v:=v) (y:=kV G) ?_ N λw m o L=>h v w m o B L;rw[<-z];exact FK.k e
  cases j with
  |nil=>rw[oW,nil]at l;cases l
  |cons p j=>obtain⟨c,C⟩:=x (lM p.1) (by simp);exact(AU C).elim
 rcases rp hk with⟨G,h1,x⟩|⟨Y',h1,_⟩
 .cases j with
  |nil=>rw[oW,nil]at l;cases l
  |cons p j=>obtain⟨c,C⟩:=x (.tup<|p.1.map lM) (by simp);exact(D5 C).elim
 obtain⟨b,rfl,F⟩:=pE h1 U;have T:=tQ h1;subst T;obtain⟨v,z,B⟩:=(AQ (f:=λk:List Key=>D.tup<|k.map lM) (k:=Y') YT r).1 d l;refine C5 J I (v:=v) (y:=.ref b) ?_ N λw m o L=>h v w m o B L;rw[<-z];exact FK.t e F
end
def Ib(d k:D):Option (D×Bool):=match d with
 |.AF .dct a b=>if qt a k=C then(mw a b k).map λv=>(v,U)else J
 |_=>BY d k
def Lz(d e:D):Option Bool:=match e with
 |.AF .dct a b=>if qt a d=C then Y (mw a b d).isSome else J
 |_=>NQ d e
def Ic(d e:D):Option (D×Bool):=(Lz d e).map λb=>(.bl b,U)
def uC(d e:D):Option (D×Bool):=(Lz d e).map λb=>(.bl (!b),U)
section
variable {X:Cx}
def Sk(p:X.A.units+62<aV):BP X (aw .In) (rD X.K Ic):=by
 intro c s t N x y v u Q T l m h;obtain⟨O,d,e,z,np,h1,j,g,G⟩:=h;by_cases k:∃f i,e=.AF .dct f i
 .obtain⟨f,i,rfl⟩:=k;obtain⟨b,o,rfl⟩:=jw g;obtain⟨hk,rfl⟩:=jm (show(if qt f d=C then Y (mw f i d).isSome else J)=Y b from o);obtain⟨a,B,rfl,q,r⟩:=nh j;cases m;exact UM (by lia) T q r hk h1 l U λw n=>⟨.bl _,N,n,by simp[L2.RelV],G.bl⟩
 have:Ic d e=WX d e:=by
  unfold Ic Lz WX;split
  .exact absurd ⟨_,_,rfl⟩ k
  rfl
 rw[this]at g;exact Sj p c s t N x y v u Q T l m ⟨O,d,e,z,np,h1,j,g,G⟩
def aek(p:X.A.units+62<aV):BP X (aw .NotIn) (rD X.K uC):=by
 intro c s t N x y v u Q T l m h;obtain⟨O,d,e,z,np,h1,j,g,G⟩:=h;by_cases k:∃f i,e=.AF .dct f i
 .obtain⟨f,i,rfl⟩:=k;obtain⟨b,o,rfl⟩:=jw g;obtain⟨hk,rfl⟩:=jm (show(if qt f d=C then Y (mw f i d).isSome else J)=Y b from o);obtain⟨a,B,rfl,q,r⟩:=nh j;cases m;exact UM (by lia) T q r hk h1 l C λw n=>⟨.bl _,N,n,by simp[L2.RelV],G.bl⟩
 have:uC d e=EC d e:=by
  unfold uC Lz EC;split
  .exact absurd ⟨_,_,rfl⟩ k
  rfl
 rw[this]at g;exact aej p c s t N x y v u Q T l m ⟨O,d,e,z,np,h1,j,g,G⟩
def ZT(T:X.A.units+1<aV):Nn X (rD X.K Ib):=by
 intro c b f s C H x y v u Q I p t h o;obtain⟨O,d,e,z,np,h1,m,j,G⟩:=h;by_cases hd:∃i l,d=.AF .dct i l
 .obtain⟨i,l,rfl⟩:=hd;have k:(if qt i e=WP then(mw i l e).map λv=>(v,W1)else WF)=Wp z:=j;split at k
  case isFalse=>cases k
  rename_i hk;obtain⟨w,J,rfl⟩:=jw k;obtain⟨a,U,rfl,q,r⟩:=nh h1;cases p;have n:s.TypeIs (.ref a) "dict":=AE I q;unfold ib;refine iI ?_;rw[getitemInPython_of_ne n.not_modules];refine iI<|vf n PySem.F.slot_dict_getitem.lookup ?_
  have fin:ag (ah X.prog X.w) X.A (n7 b W1 (.ref a) u) (λr g=>ag (ah X.prog X.w) X.A (letTemporaryGo c (.ref a) r>>=λ_=>pure r) (EP X f C Q) X.xe g) X.xe s:=by rw[o];exact wpAny_operating<|Xl T I q r hk J m t λB Y N E L M=>iI<|wpAny_letTemporaryGo<|iX ⟨B,H,E,M,G B H (λ_ _ e=>e) L⟩
  first
   |exact iX<|iI fin
   |exact iI<|iX<|iI fin
   |exact iI fin
 have:Ib d e=BY d e:=by
  unfold Ib;split
  .exact absurd ⟨_,_,rfl⟩ hd
  rfl
 rw[this]at j;exact UB c b f s C H x y v u Q I p t ⟨O,d,e,z,np,h1,m,j,G⟩ o
noncomputable def UJ:F:=λa=>Y ((.AF .dct [] [],C),a)
end
section
variable {K:ji}{T:AA}{b:L2.St}{c:Dn}{H:Hp}{i:Nat}{d e:D}{a:iG}{o:HO}
end
section
variable {X:Cx}{c:jF}{d:L2.St}{H:Hp}{s:iL}{a:iG}
def VC(T:Inv X c d H s)(e:H a=Y (.dT [])):Inv X c d (upd H a<|.dK []) s:=by have:=zF (t':=s.toks) (h':=s.heap) T (by rw[e];exact bv) (DR a s.heap) (by obtain⟨z,y,g,r,o,f,b,h1,_⟩:=(show A5 X.prog X.w H s.heap a (.dT [])from T.hok a _ e);exact⟨o,h1⟩)<|UN (H':=upd H a<|.dK [])<|T.hok a _ e;exact this
def VB(T:Inv X c d H s)(e:H a=Y (.dK [])):Inv X c d (upd H a<|.dT []) s:=by have:=zF (t':=s.toks) (h':=s.heap) T (by rw[e];exact bv) (DR a s.heap) (by obtain⟨z,y,g,r,o,f,b,h1,_⟩:=(show A5 X.prog X.w H s.heap a (.dK [])from T.hok a _ e);exact⟨o,h1⟩)<|UO (H':=upd H a<|.dT [])<|T.hok a _ e;exact this
def Zp:T9:=λo i v H Q=>∃a,o=.ref a/\((∃e,HL H a i v e/\Q e)\/(∃f,H a=Y (.dT [])/\i=kV f/\Q (upd H a<|.dK [(f,v)]))\/
 (∃g b,H a=Y (.dK [])/\i=.ref b/\H b=Y (.tup<|g.map kV)/\Q (upd H a<|.dT [(g,v)])))
def agj(j:X.A.units+1<aV):XB X Zp:=by
 intro c s d H o i v E T u Q O x l m h;obtain⟨a,rfl,h⟩:=h;cases x;rcases h with⟨r,g,q⟩|⟨y,e,rfl,q⟩|⟨B,b,e,rfl,n,q⟩
 .exact yF j O g l m λp f=>⟨r,f,q⟩
 .refine yF j (VC O e) (HL.k (k:=y) (v:=v) jv<|by rw[ku];decide) l m λp f=>⟨_,f,?_⟩
  rw[IY];exact q
 have w:b≠a:=Ux n e (λz=>nomatch z);refine yF j (VB O e) (HL.t (k:=B) (v:=v) (b:=b) jv (by rw[jx w];exact n)<|by rw[ku];decide) l m λp f=>⟨_,f,?_⟩
 rw[IY];exact q
end
section
variable {K:ji}{H:Hp}{O:AA}
theorem NP{g:Type}[DecidableEq g]{f:g->D}(hd:∀a b,D.AI (f a) (f b)=decide (a=b)){k:g}{w:D}{v:V}(j:Rep K H O w v):∀{c:List (g×V)}{d:List D},YP K H O d (c.map (·.2))->YP K H O (Au (c.map λp=>f p.1) d (f k) w) ((c.map λi=>if i.1=k then(i.1,v)else i).map (·.2))
 |[],d,h=>by cases d<;>simpa[Au]using h
 |(l,u)::c,[],h=>by rw[kc,YP]at h;cases h
 |(l,u)::c,n::d,h=>by
  rw[kc,YP]at h;obtain⟨x,r,e,h1,m⟩:=h;obtain⟨rfl,rfl⟩:=sZ e;simp only[kc,Au,hd];refine YP.cons ?_<|NP hd j m;by_cases hk:l=k
  .simp only[hk,ng];exact j
  simp only[hk,kX,mB];exact h1
def Jq{c:Type}[DecidableEq c]{kd:c->D}(hd:∀a b,D.AI (kd a) (kd b)=decide (a=b)){k:c}{w:D}{v:V}(e:Rep K H O w v){kvs:List (c×V)}{d:List D}(h:YP K H O d (kvs.map (·.2))):
  (yn (kvs.map λp=>kd p.1) d (kd k) w).1=(vK kvs k v).map (λp=>kd p.1)/\YP K H O (yn (kvs.map λp=>kd p.1) d (kd k) w).2 ((vK kvs k v).map (·.2)):=by
 have f:(kvs.map λp=>kd p.1).any (D.AI · (kd k))=kvs.any λg=>decide (g.1=k):=by rw[fH];congr 1;funext p;exact hd _ _
 unfold yn vK;rw[f];split
 .refine⟨?_,NP hd e h⟩;rw[kG];apply pL;intro p _;simp;split<;>rfl
 exact⟨by simp,by rw[nQ];exact h.append<|YP.one e⟩
end
def NK(i:Nat)(f:F)(g:FO):FS:=λc=>(f c).bind λp=>match p.2[i]? with
 |some (Y _)=>(g p.2).bind λq=>match res q.2 q.1,q.2[i]? with
  |some k,Y (Y (.AF .dct a b,C))=>if qt a k=C/\(X0 a)<10000 then Y (.nx<|q.2.set i<|Y (.AF .dct (yn a b k p.1.1).1 (yn a b k p.1.1).2,C))else J
  |_,_=>J
 |_=>J
section
variable {X:Cx}{e c:iR}{f:F}{d:FO}{b h a g:br}{i:Nat}{x:ax}{A:ki}{L:LL}{j:Hp}
end
end PX
namespace TT
open PySem.SeqAt
structure HK(h:jb)(d:iG)(es:Array j8)(ep:Nat):Prop where
 at_:∃o,h.get? d=Wp o/\o.ExactDict/\o.data=.dict es ep
def HK.BC{d b a}(x:HK h d b a)(k:∀o,h.get? d=Y o->c.get? d=Y o):HK c d b a:=let⟨o,h1,r⟩:=x.at_;⟨o,k _ h1,r⟩
section
variable {c:jh}{w:jc}{A:je}{E:jB}{s:iL}
def HK.typeIs{d b a}(x:HK s.heap d b a):s.TypeIs (.ref d) "dict":=let⟨o,h1,r,_⟩:=x.at_;⟨o,h1,r.1⟩
def afY(hd:(d==bX)=U)(e:HK s.heap d h g)
  (i:Q (.ref s.heap.objs.size) {s with heap:=s.heap.push {cls:=.type "dict_keyiterator",data:=.fields #[.ref d,.int 0 0,.int h.size 0,.int g 0]}}):ag (ah c w) A (c7<|.ref d) Q E s:=by
 have a:=e.typeIs;obtain⟨o,f,j,b⟩:=e.at_;refine GG a Mu<|qj Mu a PySem.F.entry_dict_iter ?_<|PySem.F.args_dict_iter_1 _;unfold ba.«dict.__iter__»;refine iI ?_;unfold z8;refine iI<|Mt a ?_;change ag _ _ (pure<|bR d) _ _ s;refine iX ?_;change ag _ _ (fY d>>=_) _ _ s;unfold fY;rw[jo<|by rw[hd];exact kR];refine iI<|iX ?_;refine iI<|uu f b ?_;refine iI<|y4 f b ?_;refine iI<|oF<|iX ⟨_,rfl,"dict_keyiterator",_,⟨_,kE _ rfl,rfl⟩,Mi.lookup,?_⟩;simpa[ce]using i
def CC(x:A.handled=J){it d:iG}{i k:Nat}{g:Array j8}{Q:Ci}(f:s.heap.IsKeyIter it d i g.size k)(z:HK s.heap d g k)(B:i<=g.size)
  (u:∀e,g[i]?=Y e->∀h,h.IsKeyIter it d (i+1) g.size k->aE it s.heap h->Q (Y e.key) {s with heap:=h})
  (t:i=g.size->∀h,eJ it s.heap h->Q J {s with heap:=h}):ag (ah c w) A (cp<|.ref it) Q E s:=by
 obtain⟨o,l,v,hd⟩:=id f;obtain⟨N,j,O,p⟩:=z.at_;unfold cp;refine iI<|rM<|tH (name:=bC "__next__") f.typeIs Mi<|qj Mi f.typeIs PySem.F.entry_dict_keyiterator_next ?_<|PySem.F.args_dict_keyiterator_next_1 _;refine iI<|iX ?_;refine iI ?_;refine iI ?_;refine iI<|GC f.typeIs<|iX ?_;refine iI<|wpAny_fieldsOf l hd ?_;have q:Builtin.Dict_items.ownsTuple "dict_keyiterator"=U:=by decide
 simp -iota only[kX,mB];change ag _ _ (if(bR d==au)=C then _ else _) _ _ s;rw[jo (show ¬((bR d==au)=C)from kR)];refine iI<|iX ?_;refine iI<|uu j p ?_;rw[jo<|by simp];refine iI<|iX ?_;refine iI<|y4 j p ?_;rw[jo<|by simp];refine iX ?_;dsimp only;simp -iota;by_cases y:i<g.size
 .have r:g[i]?=Y g[i]:=qJ y;simp -iota only[r];refine iI ?_;refine iI<|GC f.typeIs<|iX ?_;refine iI<|Mr f.typeIs ?_;change ag _ _ (oC (.ref it) 1 (ce<|(i:Int)+1)>>=_) _ _ s;refine iI (vz l hd (by simp) ?_)
  have n:(s.heap.update it (gK (·.setIfInBounds 1 (ce<|(i:Int)+1)))).IsKeyIter it d (i+1) g.size k:=
   ⟨_,tE _ l (DO<|uU hd _),(DN ..).trans v,by rw[uU hd];simp[ce]⟩
  refine iI<|md ?_;refine iI (Mr (s:={s with heap:=s.heap.update it (gK (·.setIfInBounds 1 (ce<|(i:Int)+1)))}) n.typeIs ?_);change ag _ _ (pure g[i].key) _ _ _;exact iX<|iX ⟨_,rfl,iX<|u _ r _ n (si ..)⟩
 obtain rfl:i=g.size:=by lia
 simp -iota;refine iI ?_;refine iI<|GC f.typeIs<|iX ?_;change ag _ _ (oC (.ref it) 0 .none>>=_) _ _ s;refine iI<|vz l hd (by simp) ?_;change ag _ _ (l6 (.type "StopIteration") []>>=_) _ _ _;refine iI ?_;simp -iota only[l6];refine iI<|oF ?_ (by size_fits);refine iI (m:=gO _ _)<|wg (a:=au) (by first|rfl|(simp -iota;rfl)) ?_;refine oF ?_ (by size_fits);simp -iota only[EQ];refine iI<|G5 ?_;rw[show A.in1.handled=J from x];refine iI<|iX<|G4 ?_;refine iI<|xX (T:="StopIteration") (b:=C) ⟨_,kE _ rfl,rfl⟩ DJ ?_;exact iX<|t I _ (((si ..).extBut.push _).push _)
def aeH(m:A.handled=J)(T d:iG)(r:T≠d)(g:Array j8)(l:Nat):Tl c w A T [T,d] [T] g.size (λi v=>∃e,g[i]?=Y e/\v=e.key) (λi h=>h.IsKeyIter T d i g.size l/\HK h d g l) where
 sub:=λb a=>by simp at a;simp[a]
 frame:=λ_ _ _ st hk=>⟨st.1.at λo e=>hk T (by simp) o e,st.2.BC λo e=>hk d (by simp) o e⟩
 item:=λi s Q E n st f=>by refine CC m st.1 st.2 (wm n) (λe u j p k=>?_) λz=>absurd z<|kx n;exact f _ j s.toks ⟨_,u,rfl⟩ ⟨p,st.2.BC λo e=>k.extBut d o (λh=>r h.symm) e⟩ λb o a e=>k.extBut b o (λh=>a<|by simp[h]) e
 done:=λs Q E st f=>CC m st.1 st.2 (jZ _) (λe t=>absurd (Mh.mp t).1<|ql _) λ_ j q=>f j s.toks λb o a e=>q b o (λh=>a<|by simp[h]) e
 self:=λ_ _ _ _ st f=>wpAny_pyIter_keyiter st.1 f
def Q3(hd:(a==bX)=U)(p:A.handled=J)(S:HK s.heap a d n)(q:d.size<=sizeLine)
  (j:∀h r,(∀b o,s.heap.get? b=Y o->h.get? b=Y o)->Q (d.toList.map (·.key)) {s with heap:=h,toks:=r}):ag (ah c w) A (f5<|.ref a) Q E s:=by
 have g:a<s.heap.objs.size:=let⟨_,h1,_⟩:=S.at_;kh h1;refine yV (.inr ⟨rfl,rfl⟩) g (λx k=>(S.BC k).typeIs) (aeH (by show A.handled=J;exact p) (s.heap.objs.size+1) a (qk<|we g) d n) q (λi v ⟨e,m,hv⟩=>?_) (by rw[ke,mf]) (λl t k=>?_) j
 .rw[kQ,nK,m,hv];rfl
 have f:HK (s.heap.push l) a d n:=S.BC λo e=>jW _ e;have ext:∀(u:eZ) b o,(s.heap.push l).get? b=Y o->((s.heap.push l).push u).get? b=Y o:=λu b o e=>jW _ e;refine afY (s:={s with heap:=s.heap.push l}) hd f ?_;have z:(s.heap.push l).objs.size=s.heap.objs.size+1:=qO _ _;have:=k _ ⟨show((s.heap.push l).push {cls:=.type "dict_keyiterator",data:=.fields #[.ref a,.int 0 0,.int d.size 0,.int n 0]}).IsKeyIter (s.heap.objs.size+1) a 0 d.size n from⟨_,by rw[<-z];exact kE _ rfl,rfl,rfl⟩,f.BC λo e=>ext _ _ _ e⟩ (ext _);rw[<-z]at this;exact this
end
end TT
namespace PX
open L2 PySem.SeqAt TS
def mK(d:D):Option (D×Bool):=match d with
 |.AF .dct a b=>if(a.all λk=>(vP k).isSome)=C/\a≠[]then lE a else J
 |_=>tV d
section
variable {X:Cx}
def aff{P:jh}{w:jc}{e:List j8}{f:List (Key×iQ)}{a:List (Key×V)}(h:Pairs (lq P w) e f)(q:KV a f):Vals (a.map λp=>kV p.1) (e.map (·.key)):=by
 induction h generalizing a with
 |nil=>cases q;exact .nil
 |cons h1 j t g=>
  obtain _|⟨r,q⟩:=q;refine .cons ?_<|g q;dsimp only;rw[r.1];rcases lr (show AS _ _=C from h1)with⟨i,d,b,c⟩|⟨x,d,b,c⟩
  .rw[b,c];exact⟨d,rfl⟩
  rw[b,c];exact⟨d,rfl⟩
theorem Cv{K:ji}{T:Hp}{O:AA}:∀(a:List (Key×V)),YP K T O (a.map λp=>lM p.1)<|a.map λp=>kV p.1
 |[]=>YP.nil
 |(k,v)::a=>by
  refine YP.cons ?_<|Cv a
  cases k with
  |inl i=>exact Rep.mkInt
  |inr x=>exact Rep.mkStr
def Zx{X:Cx}{id:String}{g f:D->Option (D×Bool)}(i:kI X (.builtin id) (Fp X.K<|g1 f)){c:jF}{s:iL}{e:L2.St}{N:Hp}{x:V}{u:iQ}{Q:VK}{O:AA}{d:D}{z:D×Bool}(T:Inv X c e N s)(k:L2.RelV x u)(np:∀p,¬Ow (N p)->¬O p)(hd:kb X.K N O d x)(h:f d=Y z)(G:Gen X.K N O z Q):
  ag (ah X.prog X.w) X.A (call (.builtin id) [u]) (EP X c e Q) X.xe s:=
 i c s e N [x] [u] Q T (.cons k .nil) ⟨O,[d],z,np,rfl,(λj l m a b=>by
   cases j with
   |zero=>simp at a b;subst a;subst b;exact hd
   |succ j=>simp at a),h,G⟩
def adG(j:X.calm=WP)(n:X.A.units+62<aV):kI X (.builtin "sorted") (Fp X.K<|g1 mK):=oR λt s σ H x u Q O d z I v np hd l G=>by
 by_cases m:∃f w,d=.AF .dct f w
 .obtain⟨f,w,rfl⟩:=m;have h:(if(f.all λk=>(vP k).isSome)=WP/\f≠[]then lE f else WF)=Wp z:=l;split at h
  .rename_i c;obtain⟨a,us,rfl,q,r⟩:=nh hd;cases v;rcases q with⟨b,e,rfl,rfl⟩|⟨b,e,rfl,rfl⟩
   .obtain⟨zl,B,D,i,o,V,S,h1,E,L,W,T,Z⟩:=UL I.hok e;have y:=aff T i;have N:=y.length;simp at N;have M:X.A.handled=WF:=I.ok.hd j;exact ur n I (Cv (O:=O) b) y h G λR P F U J=>TT.Q3 B (by rw[U];exact M) ⟨o,h1,E,L⟩ (by lia) λC Y k=>J C Y k
   exfalso
   cases b with
   |nil=>exact c.2 XV
   |cons p b=>have:=mh.mp c.1 (.tup<|p.1.map lM) (by simp);simp[vP]at this
  cases h
 have:mK d=tV d:=by
  unfold mK;split
  .exact absurd ⟨_,_,rfl⟩ m
  rfl
 exact Zx (g:=mK) (adF j n) I v np hd (by rw[<-this];exact l) G
def RL(a:Gl X x)(b:X.mg x=Y (.int i t))(hd:(x==("__debug__":ax))=U):PX X (.Name x pos) (fC<|.int i):=PX.imp (Jv (v:=.int i) a b ⟨t,rfl⟩ hd) λf O Q h=>by obtain⟨d,T,r,c,E,e,k⟩:=h;cases e;exact k _ _ (B8.val .refl E Rep.mkInt)
noncomputable def Ee:FS:=λ_=>J
end
noncomputable def xa(i:Nat)(f:F):F:=λδ=>match δ[i]? with
 |some (Y (.lst _,C))=>(f δ).bind λp=>match p.1,p.2[i]? with
  |(.lst m,C),Y (Y (.lst l,C))=>if (X0 l)+X0 m<=sizeLine then Y ((.A7,U),p.2.set i<|Y (.lst<|l++m,C))else J
  |_,_=>J
 |_=>J
section
variable {X:Cx}{e:iR}{f:F}{b d a c:br}{i:Nat}{x:ax}
end
structure PXs(X:Cx)(es:kD)(fs:List F):Prop where
 pa:PA X es (tA X.K<|fs.map iY)
section
variable {X:Cx}{e:iR}{b:kD}{f:F}{fs:List F}{a:br}
end
structure QX(X:Cx)(e:iR)(f:F):Prop where
 h:PX X e f
structure QO(X:Cx)(e:iR)(f:FO):Prop where
 h:PX.PO X e f
structure QA(X:Cx)(es:kD)(fs:List FO):Prop where
 h:PA X es (tA X.K fs)
structure QL(X:Cx)(es:kD)(fs:List F):Prop where
 h:PXs X es fs
structure QT(X:Cx)(e:iR)(f:FT):Prop where
 h:OX X e f
structure QW(X:Cx)(e:iR)(f:FT):Prop where
 h:PWX X e f
structure QG(X:Cx)(A:ki)(e:iR)(t:Tg):Prop where
 h:LQ X A e t
structure QI(X:Cx)(B:SB)(tg e:iR)(f:Cb):Prop where
 h:L9 X B tg e f
structure QF(X:Cx)(es:kD)(f:FT):Prop where
 h:KR X es (tT X.K f)
structure QB(X:Cx)(A:ki)(d:iG)(e:iR)(n:Nat)(f:FB):Prop where
 h:PB X (jX e n (.ref d) X.env) (IC W1 X.K A d f)
structure QS(X:Cx)(A:ki)(L:LL)(H0:Hp)(st:bc)(f:FS):Prop where
 h:Lw X A L H0 st f
structure QQ(X:Cx)(A:ki)(L:LL)(H0:Hp)(st:List bc)(f:FS):Prop where
 h:IG X A L H0 st f
structure QC(X:Cx)(v:iQ)(g:List D->Option (D×Bool)):Prop where
 h:kI X v (Fp X.K g)
structure QP(X:Cx)(o:yJ)(g:D->D->Option (D×Bool)):Prop where
 h:BP X o (rD X.K g)
abbrev SE(X:Cx)(e:iR)(a:kD):Prop:=aa (e::a) X.env=(U,aX e X.env)::aa a X.env
abbrev BA(X:Cx)(p:br)(a:kD):Prop:=(aK p<|aa a X.env).any (·.1)=U
abbrev DB(x:ax):Prop:=(x==("__debug__":ax))=U
abbrev un(A:je)(n:Nat):Prop:=A.units+n<aV
structure ZZ where
 P:jh
 w:jc
 K:ji
 mg:ax->Option iQ
 base:jb
def Oz(Z:ZZ)(k:Nat)(x:ax)(b:jr)(c:AL):Prop:= ∃f a,Bn Z.P Z.w Z.K Z.mg Z.base Fx k f a b (Iv Z.K c)/\Z.mg x=Y (.ref f)/\bP Z.K (.ref f)=C/\Binds Z.K a b []
def Oz.up{Z:ZZ}{k j:Nat}{x:ax}{d:jr}{c:AL}(o:Oz Z k x d c)(h:k<=j:=by decide):Oz Z j x d c:=let⟨f,e,a,b⟩:=o;⟨f,e,a.mono h,b⟩
noncomputable abbrev zX(X:Cx):ZZ:=⟨X.prog,X.w,X.K,X.mg,X.base⟩
def tgN:Expr->List ax
 |.Name x _=>[x]
 |.Tuple [.Name x _,.Name y _] _ _=>[x,y]
 |_=>[]
def cN(N:jr)(a:jQ)(b:pK):List Str:=a.filterMap (N[·]?)++b.flatMap λg=>tgN g.target
noncomputable def KD:List (ax×iQ):=[("len",.builtin "len"),("abs",.builtin "abs"),("int",.type "int"),("tuple",.type "tuple"),("list",.type "list"),("bool",.type "bool"),("max",.builtin "max"),("min",.builtin "min"),("all",.builtin "all"),("any",.builtin "any"),("sorted",.builtin "sorted"),("set",.type "set")]
def btA{c:lI}(T:Tx c):∀p∈KD,c p.1=J/\aB p.1=Y p.2:=by
 have h:∀p∈KD,aB p.1=Y p.2:=by decide+kernel
 intro p b;refine⟨?_,h p b⟩;have a:p∈KD:=b;unfold KD at a;simp only[nS,sf,or_false]at a;rcases a with rfl|rfl|rfl|rfl|rfl|rfl|rfl|rfl|rfl|rfl|rfl|rfl
 .exact T.n_len
 .exact T.n_abs
 .exact T.n_int
 .exact T.n_tuple
 .exact T.n_list
 .exact T.n_bool
 .exact T.n_max
 .exact T.n_min
 .exact T.n_all
 .exact T.n_any
 .exact T.n_sorted
 exact T.n_set
theorem HU{z:ax}{v:iQ}:∀{l:List (ax×iQ)},l.lookup z=Y v->(z,v)∈l
 |[],h=>by cases h
 |(y,u)::l,h=>by
  rw[qi]at h;split at h
  .rename_i q;cases h;rw[sU q];exact .head _
  exact .tail _ (HU h)
def LK{a:lI}{z:ax}{v:iQ}(T:Tx a)(h:KD.lookup z=Y v):a z=J:=(btA T _ (HU h)).1
def Lr{z:ax}{v:iQ}(h:KD.lookup z=Y v):aB z=Y v:=(show ∀p∈KD,aB p.1=Y p.2 from by decide+kernel) _ (HU h)
section
variable {X:Cx}{x z:ax}{e a b c st lo J:iR}{M:kD}{U fb fc fo fl fh:FO}{f g:F}{ft fu:FT}{p p2 p3 G c9 apos:br}{A:ki}{L:LL}{B:SB}{H0:Hp}{fs:List FO}{bU:List F}{i j k:Nat}{tg:iR}{S:bc}{Ss Ts:List bc}{u v:FS}
def xV(h1:X.N[i]?=Y x:=by rfl)(l:Lv X.env.scope x:=by first|exact bo rfl|exact bh (bo I)|exact bh<|bh I)(m:DB x:=by decide)(n:(x==("__classdict__":ax))=W1:=by decide):QO X (.Name x G) (iJ i):=⟨PE.imp' (AB h1 l m n) λw O Q h=>by
 obtain⟨r,T,o,s,E,e,k⟩:=h;unfold iJ at e
 cases J:r[i]? with
 |none=>rw[J]at e;cases e
 |some q=>
  cases q with
  |none=>rw[J]at e;cases e
  |some p=>obtain⟨d,b⟩:=p;rw[J]at e;obtain⟨rfl,rfl⟩:=jn e;obtain⟨t,v,h1,l⟩:=E.freeze J;exact⟨v,h1,k v O ⟨.refl,E,h1⟩⟩⟩
def xW(h1:X.N[i]?=Y x:=by rfl)(l:Lv X.env.scope x:=by first|exact bo rfl|exact bh (bo I)|exact bh<|bh I)(n:DB x:=by decide)(q:(x==("__classdict__":ax))=W1:=by decide):QX X (.Name x G) (jS i):=⟨PX.imp (AB h1 l n q) λw O Q h=>by
 obtain⟨s,T,r,t,E,e,k⟩:=h;unfold jS at e
 cases J:s[i]? with
 |none=>rw[J]at e;cases e
 |some o=>
  cases o with
  |none=>rw[J]at e;cases e
  |some p=>obtain⟨d,b⟩:=p;rw[J]at e;cases e;obtain⟨m,v,h1,l⟩:=E.freeze J;exact⟨v,h1,k v O<|B8.val .set m l⟩⟩
def xO(h:QX X e f):QO X e (iY f):=⟨PX.po h.h⟩
def x1{j}:QX X (.Constant .none j G) (fC .A7):=⟨PX.imp Wd λl O Q h=>by obtain⟨δ,T,r,d,E,e,k⟩:=h;cases e;exact k _ _ (B8.val .refl E (by first|exact Rep.mkInt|exact Rep.Ht|exact Rep.Gu|exact Rep.mkStr))⟩
def x2{i j}:QX X (.Constant (.bool i) j G) (fC<|.bl i):=⟨Us⟩
def x3{i j}:QX X (.Constant (.int i) j G) (fC<|.int i):=⟨PX.imp Oo λl O Q h=>by obtain⟨δ,T,r,d,E,e,k⟩:=h;cases e;exact k _ _ (B8.val .refl E (by first|exact Rep.mkInt|exact Rep.Ht|exact Rep.Gu|exact Rep.mkStr))⟩
def x4{i j}:QX X (.Constant (.str i) j G) (fC<|.str i):=⟨PX.imp Wa λl O Q h=>by obtain⟨δ,T,r,d,E,e,k⟩:=h;cases e;exact k _ _ (B8.val .refl E (by first|exact Rep.mkInt|exact Rep.Ht|exact Rep.Gu|exact Rep.mkStr))⟩
def x5{i:Int}(h:∃t,X.mg x=Y (.int i t))(g:Gl X x:=by rfl)(d:DB x:=by decide):QX X (.Name x G) (fC<|.int i):=let⟨_,h⟩:=h;⟨RL g h d⟩
def x7:QX X (.Dict [] [] G) UJ:=⟨PX.imp Ot λn O Q h=>by obtain⟨δ,T,m,l,E,e,k⟩:=h;cases e;intro p d;have B:=Ops.nil E;exact(B.done k) p _ d (lO d) ⟨[],.inl ⟨[],jv,rfl,rfl⟩,YP.nil⟩⟩
def aa7{d:Operator}{g:D->D->Option (D×Bool)}(o:QP X (bL d) g)(l:QO X a U)(m:QO X b fb):QX X (.BinOp a d b G) (jf g U fb):=⟨OI<|Zv o.h l.h m.h⟩
def aa0(d:QO X a U):QX X (.UnaryOp .USub a G) (lX yz U):=⟨px1<|Zu Rm d.h⟩
def aaZ(q:QX X a f):QX X (.UnaryOp .Not a G) (Xd f):=⟨PX.imp (Wc q.h) λN H Q s=>by obtain⟨w,T,r,y,E,e,k⟩:=s;obtain⟨p,h1,e⟩:=iM e;obtain⟨c,O,n,m⟩:=iW e;obtain⟨o,rfl⟩:=Bx n;obtain⟨rfl,rfl⟩:=jn m;refine⟨w,T,_,_,E,h1,λv l P=>?_⟩;obtain⟨d,t⟩:=P.rep E;exact⟨c,t.bl,k _ l (B8.val P.1 d Rep.Ht)⟩⟩
def aa6{d:cC}{g:D->D->Option (D×Bool)}(o:QP X (aw d) g)(l:QO X a U)(m:QO X b fb)(n:dy d b=W1:=by first|exact OM _|with_unfolding_all rfl):QX X (.Compare a [d] [b] G) (jf g U fb):=⟨OI<|R6 o.h l.h m.h n⟩
def abl{d:cC}{g:D->D->Option (D×Bool)}(o:QP X (aw d) g)(l:QO X a U)(m:QO X b fb)(n:dy d b=W1:=by first|exact OM _|with_unfolding_all rfl):QT X (.Compare a [d] [b] G) (fT<|jf g U fb):=⟨
 PT.imp' (RS o.h l.h m.h n) λr T Q q=>Sv Zq<|Ui q⟩
def xCh{d l:cC}(m:QO X a U)(n:QO X b fb)(o:QO X c fc)(s:CN d:=by first|exact .inl rfl|exact .inr (.inl I)|exact .inr (.inr<|.inl I)|exact .inr<|.inr<|.inr I)(t:CN l:=by first|exact .inl rfl|exact .inr (.inl I)|exact .inr (.inr<|.inl I)|exact .inr<|.inr<|.inr I)(q:lastMarks [d,l] [b,c]=W1:=by with_unfolding_all rfl):QX X (.Compare a [d,l] [b,c] G) (Bj d l U fb fc):=⟨
 PX.imp (Ou (JC s) (JC t) m.h n.h o.h q) λw T Q r=>afF r⟩
def xBo{op}(d:QX X a f):QX X (.BoolOp op [a] G) f:=⟨Wb d.h⟩
def aa9(C:QX X a f)(I:QX X (.BoolOp .And (b::M) G) g):QX X (.BoolOp .And (a::b::M) G) (zk f g):=⟨PX.imp (Wf C.h I.h) λD H Q O=>by
 obtain⟨Y,T,r,l,E,e,k⟩:=O;obtain⟨p,h1,e⟩:=iM e;obtain⟨c,m,y,d⟩:=iW e;obtain⟨o,rfl⟩:=Bx y;refine⟨Y,T,_,_,E,h1,λv q P=>?_⟩;obtain⟨n,N⟩:=P.rep E;refine⟨c,N.bl,?_⟩
 cases c with
 |true=>rw[iZ XV]at d;rw[iZ XV];exact⟨m,T,r,l,n,d,λw s t=>k w s<|t.pre P.1⟩
 |false=>rw[jo kR]at d;rw[jo kR];obtain⟨rfl,rfl⟩:=jn d;exact k _ q (B8.val P.1 n Rep.Ht)⟩
def abb(w:QT X a ft)(y:QW X (.BoolOp .And (b::M) G) fu):QW X (.BoolOp .And (a::b::M) G) (yS ft fu):=⟨PW.imp' (VT w.h y.h) λO H Q N=>by
 obtain⟨I,T,c,l,E,e,k⟩:=N;obtain⟨o,d,h1,e⟩:=iW e;refine⟨I,T,o,d,E,h1,λr n m=>?_⟩
 cases o with
 |true=>rw[iZ XV]at e;rw[iZ XV];exact⟨d,T,c,l,m,e,λs t q=>k s (n.trans t) q⟩
 |false=>rw[jo kR]at e;rw[jo kR];obtain⟨rfl,rfl⟩:=jn e;exact k r n m⟩
def wOr(w:QT X a ft)(y:QW X (.BoolOp .Or (b::M) G) fu):QW X (.BoolOp .Or (a::b::M) G) (Qc ft fu):=⟨PW.imp' (Zt w.h y.h) λO H Q N=>by
 obtain⟨I,T,c,l,E,e,k⟩:=N;obtain⟨o,d,h1,e⟩:=iW e;refine⟨I,T,o,d,E,h1,λr n m=>?_⟩
 cases o with
 |true=>rw[iZ XV]at e;rw[iZ XV];obtain⟨rfl,rfl⟩:=jn e;exact k r n m
 |false=>rw[jo kR]at e;rw[jo kR];exact⟨d,T,c,l,m,e,λs t q=>k s (n.trans t) q⟩⟩
def YS(d:QT X a ft):QW X (.BoolOp .And [a] G) ft:=⟨RO d.h⟩
def aba(d:QT X a ft):QW X (.BoolOp .Or [a] G) ft:=⟨VS d.h⟩
def tW{op}(h:QW X (.BoolOp op M G) ft):QT X (.BoolOp op M G) ft:=⟨PW.pt h.h⟩
def LZ(m:QT X a ft):QT X (.UnaryOp .Not a G) (rA ft):=⟨PT.imp' (VY m.h) λr O Q n=>by obtain⟨o,T,c,q,E,e,k⟩:=n;obtain⟨l,d,h1,e⟩:=iW e;obtain⟨rfl,rfl⟩:=jn e;exact⟨o,T,l,d,E,h1,k⟩⟩
def abd(h:QX X e f)(l:∀d,isTrue e X.env d=(do let v <-d;dv e.pos;b5 [v] (truthy v)):=by intro _;rfl):QT X e (fT f):=⟨PT.imp' (VX h.h l) λn T Q m=>Ui m⟩
def xIf(y:QT X c ft)(s:QX X a f)(t:QX X b g):QX X (.IfExp c a b G) (Ky ft f g):=⟨PX.imp (Oq y.h s.h t.h) λN H Q C=>by
 obtain⟨I,T,r,l,E,e,k⟩:=C;obtain⟨c,d,h1,e⟩:=iW e;refine⟨I,T,c,d,E,h1,λO q o=>?_⟩
 cases c with
 |true=>rw[iZ XV]at e;rw[iZ XV];exact⟨d,T,r,l,o,e,λw m n=>k w m<|n.pre q⟩
 |false=>rw[jo kR]at e;rw[jo kR];exact⟨d,T,r,l,o,e,λw m n=>k w m<|n.pre q⟩⟩
def xIx(d:QO X a U)(l:QO X b fb)(m:E5 b:=by exact λ_ _=>rfl):QX X (.Subscript a b G) (jf BY U fb):=⟨OI<|Uv UB d.h l.h m⟩
def aa2(n:un X.A 1)(d:QO X a U)(l:QO X b fb)(m:E5 b:=by exact λ_ _=>rfl):QX X (.Subscript a b G) (jf Ib U fb):=⟨OI<|Uv (ZT n) d.h l.h m⟩
def aaW(r:QO X a U)(s:QO X J fh):QX X (.Subscript a (.Slice WF (Wp J) WF p2) G) (CW U fh):=⟨
 PX.imp (Om abo r.h RX<|RW s.h) λK H Q w=>by
  obtain⟨O,T,F,N,E,e,k⟩:=w;unfold CW at e;obtain⟨o,d,h1,e⟩:=iW e;obtain⟨I,m,q,e⟩:=iW e;dsimp only at e;split at e
  .rename_i i J;obtain⟨x,y,e⟩:=iM e;obtain⟨z,C,e⟩:=iM e;obtain⟨rfl,rfl⟩:=jn e;refine⟨O,T,o,d,E,h1,λv Y l=>⟨d,EZ T o v,I,m,l.er E,q,λu D n=>?_⟩⟩;have B:=Ops.cons E l<|Ops.cons (l.er E) n<|Ops.nil<|n.er<|l.er E;exact⟨i,jH<|B.view (j:=1) XV XV J,_,x,z,λp t=>B.np t,B.view (j:=0) XV XV y,C,B.done k⟩
  cases e⟩
def xL0:QL X [] []:=⟨⟨wD⟩⟩
def xL(d:QX X e f)(l:QL X M bU)(m:SE X e M:=by rfl):QL X (e::M) (f::bU):=⟨⟨rn (PX.po d.h) l.h.pa m⟩⟩
def xA0:QA X [] []:=⟨wD⟩
def xA(d:QO X e U)(l:QA X M fs)(m:SE X e M:=by rfl):QA X (e::M) (U::fs):=⟨rn d.h l.h m⟩
def aaU{k}(h:QL X M bU):QX X (.Tuple M k G) (nO bU):=⟨VJ h.h.pa⟩
def aa1(h:QL X M bU):QX X (.List M G) (oP bU):=⟨VQ h.h.pa⟩
def xB{id:String}{g:List D->Option (D×Bool)}(T:Tx X.mg)(hv:KD.lookup z=Y (.builtin id))(n:QC X (.builtin id) g)(m:QA X (e::M) fs)(q:Gl X z:=by rfl)(r:z≠"__name__":=by decide)(l:DB z:=by decide)(o:SE X e M:=by rfl)(d:BA X G M:=by rfl):QX X (.Call (.Name z p) (e::M) [] G) (jl g fs):=⟨Jn n.h q (LK T hv) (Lr hv) m.h r l o d⟩
def xT{id:String}{g:List D->Option (D×Bool)}(T:Tx X.mg)(hv:KD.lookup z=Y (.type id))(n:QC X (.type id) g)(m:QA X (e::M) fs)(q:Gl X z:=by rfl)(r:z≠"__name__":=by decide)(l:DB z:=by decide)(o:SE X e M:=by rfl)(d:BA X G M:=by rfl):QX X (.Call (.Name z p) (e::M) [] G) (jl g fs):=⟨Jl n.h q (LK T hv) (Lr hv) m.h r l o d⟩
def xI{t:Ty}(T:Tx X.mg)(d:KD.lookup z=Y (.type t.n))(q:QO X e U)(r:Gl X "isinstance":=by rfl)(l:Gl X z:=by rfl)(s:z≠"__name__":=by decide)(o:DB z:=by decide)
  (s1:SE X e [.Name z p2]:=by rfl)(w:SE X (.Name z p2) []:=by rfl)(m:BA X G [.Name z p2]:=by rfl):
  QX X (.Call (.Name "isinstance" p) [e,.Name z p2] [] G) (lX (wQ [t]) U):=⟨VR q.h r T.n_isinstance l (LK T d) (Lr d) s o oE s1 w m⟩
def xI2{t r:Ty}{d:ax}{m:br}{l}(T:Tx X.mg)(q:KD.lookup z=Wp (.type t.n))(o:KD.lookup d=Wp (.type r.n))(I:QO X e U)(O:Gl X "isinstance":=by rfl)(s:Gl X z:=by rfl)(Q:z≠"__name__":=by decide)(H:DB z:=by decide)(y:Gl X d:=by rfl)(w:d≠"__name__":=by decide)(C:DB d:=by rfl)
  (s1:SE X e [.Tuple [.Name z p2,.Name d p3] l m]:=by rfl)(N:SE X (.Tuple [.Name z p2,.Name d p3] l m) []:=by rfl)
  (Y:SE X (.Name z p2) [.Name d p3]:=by rfl)(s4:SE X (.Name d p3) []:=by rfl)
  (E:BA X G [.Tuple [.Name z p2,.Name d p3] l m]:=by rfl):
  QX X (.Call (.Name "isinstance" p) [e,.Tuple [.Name z p2,.Name d p3] l m] [] G) (lX (wQ [t,r]) U):=⟨RK I.h O T.n_isinstance s (LK T q) (Lr q) Q H y (LK T o) (Lr o) w C oE s1 N Y s4 E⟩
def xU{k:Nat}{y:jr}{d:AL}(t:B7 k X.A)(O:Oz (zX X) k x y d)(o:QA X (e::M) fs)(r:Gl X x:=by rfl)(n:DB x:=by decide)
  (q:SE X e M:=by rfl)(m:BA X G M:=by rfl):QX X (.Call (.Name x p) (e::M) [] G) (ja d fs):=
 let⟨_,_,ok,s,w,l⟩:=O;⟨RI ok t r s w l o.h n q m⟩
def aaX{T:String}{mk:List D->D}{o:Bool}(d:Tx X.mg)(hv:KD.lookup z=Y (.type T))(s:QA X [a,b] [U,fb])(r:(T="list"/\mk=.lst/\o=C)\/(T="tuple"/\mk=.tup/\o=W1):=by first|exact .inl ⟨rfl,rfl,rfl⟩|exact .inr ⟨rfl,rfl,rfl⟩)(t:X.calm=C:=by rfl)(w:Gl X z:=by rfl)(y:z≠"__name__":=by decide)(q:DB z:=by decide)(n:Gl X "range":=by rfl)
  (s1:SE X (.Call (.Name "range" p2) [a,b] [] p3) []:=by rfl)(Q:SE X a [b]:=by rfl)
  (m:BA X G []:=by rfl)(l:BA X p3 [b]:=by rfl):
  QX X (.Call (.Name z p) [.Call (.Name "range" p2) [a,b] [] p3] [] G) (jl (K8 mk o) [U,fb]):=⟨VL r t w (LK d hv) (Lr hv) y q n d.n_range s.h s1 Q m l⟩
def aa8(hv:QO X (.Name x c9) (iJ i))(he:QX X e f)(i8:Ma X (.Name x c9) "append":=by rfl)
  (k8:Ly X G [e]:=by rfl)
  (i6:(apos.endLine==G.line)=WP:=by rfl)(C:SE X e []:=by rfl)(c8:BA X G []:=by rfl):QX X (.Call (.Attribute (.Name x c9) "append" apos) [e] [] G) (lK i f):=⟨
 PX.imp (Jy Dt PySem.F.slot_list_append PySem.F.type_list_append afQ hv.h (lP he.h oM C) i8 k8 i6 C c8) λσ H Q R=>by
 obtain⟨n,T,rr,δ',E,e,k⟩:=R;unfold lK at e;split at e
 .rename_i l0 t;obtain⟨r,o,h1,e⟩:=iW e;dsimp only at e;split at e
  .rename_i l w;obtain⟨V,e⟩:=jm e;obtain⟨rfl,rfl⟩:=uW e;refine⟨n,T,.slot i,n,E,by unfold iJ;rw[t],λv H1 P=>?_⟩;obtain⟨Y,m,d⟩:=P;obtain⟨a,g1,K,g2,g3⟩:=m.own i _ t;rw[d]at g1;cases g1;refine⟨.inl ⟨rfl,K,Ej.of g2⟩,n,T,r,o,m,h1,λy H2 s=>?_⟩;obtain⟨q,Z⟩:=s.rep m;obtain⟨a',I,xs,W,O⟩:=q.own i _ w;rw[d]at I;cases I;refine⟨_,xs,y,rfl,rfl,W,by rw[O.length];exact V,?_⟩;obtain⟨N,D⟩:=q.write w d<|O.append<|YP.one Z;exact k _ _ (B8.val ((Y.trans s.1).trans D) N Rep.Gu)
  cases e
 cases e⟩
def aa4(hv:QO X (.Name x c9) (iJ i))(he:QX X e f)(i8:Ma X (.Name x c9) "extend":=by rfl)
  (k8:Ly X G [e]:=by rfl)
  (i6:(apos.endLine==G.line)=WP:=by rfl)(I:SE X e []:=by rfl)(c8:BA X G []:=by rfl):QX X (.Call (.Attribute (.Name x c9) "extend" apos) [e] [] G) (xa i f):=⟨
 PX.imp (Jy Dt PySem.F.slot_list_extend PySem.F.type_list_extend afP hv.h (lP he.h oM I) i8 k8 i6 I c8) λσ H Q hw=>by
 obtain⟨s,T,rr,δ',E,e,k⟩:=hw;unfold xa at e;split at e
 .rename_i l0 w;obtain⟨r,n,h1,e⟩:=iW e;dsimp only at e;split at e
  .rename_i m l C;obtain⟨hz,e⟩:=jm e;obtain⟨rfl,rfl⟩:=uW e;refine⟨s,T,.slot i,s,E,by unfold iJ;rw[w],λv H1 P=>?_⟩;obtain⟨W,o,d⟩:=P;obtain⟨a,g1,bZ,g2,g3⟩:=o.own i _ w;rw[d]at g1;cases g1;refine⟨.inl ⟨rfl,bZ,Ej.of g2⟩,s,T,_,n,o,h1,λy V q=>?_⟩;obtain⟨t,ry⟩:=q.rep o;obtain⟨p,rfl,hp,eI,D,o1,O⟩:=q.2;obtain⟨a',N,xs,q2,Y⟩:=t.own i _ C;rw[d]at N;cases N;have gu:YP X.K V (λb=>A1 σ n b\/T b) m D:=YP.mono (λ_ _ e _=>e) (λb _ z=>z.elim bo λz=>bh<|bo z) O;refine⟨_,p,xs,D,rfl,rfl,q2,o1,by rw[Y.length,O.length];exact hz,?_⟩;obtain⟨R,Z⟩:=t.write C d<|Y.append gu;exact k _ _ (B8.val ((W.trans q.1).trans Z) R Rep.Gu)
  cases e
 cases e⟩
def aaY(hv:QO X (.Name x c9) (iJ i))(he:QO X e fo)(i8:Ma X (.Name x c9) "pop":=by rfl)
  (k8:Ly X G [e]:=by rfl)
  (i6:(apos.endLine==G.line)=WP:=by rfl)(hs:SE X e []:=by rfl)(c8:BA X G []:=by rfl):QX X (.Call (.Attribute (.Name x c9) "pop" apos) [e] [] G) (Bi i fo):=⟨
 PX.imp (Jy Dt PySem.F.slot_list_pop PySem.F.type_list_pop agI hv.h (lP he.h oM hs) i8 k8 i6 hs c8) λσ H Q hw=>by
 obtain⟨C,T,rr,δ',E,e,k⟩:=hw;unfold Bi at e;split at e
 .rename_i l0 N;obtain⟨o,q,h1,e⟩:=iW e;dsimp only at e;split at e
  .rename_i R l hk Y;split at e
   case isFalse=>cases e
   rename_i D;obtain⟨j,hj,e⟩:=iM e;obtain⟨d,hd,e⟩:=iM e;obtain⟨rfl,rfl⟩:=jn e;refine⟨C,T,.slot i,C,E,by unfold iJ;rw[N],λv H1 P=>?_⟩;obtain⟨K1,r,m⟩:=P;obtain⟨a,g1,bZ,g2,g3⟩:=r.own i _ N;rw[m]at g1;cases g1;refine⟨.inl ⟨rfl,bZ,Ej.of g2⟩,C,T,o,q,r,h1,λy H2 O=>?_⟩;have B:=Ops.cons r O<|Ops.nil<|O.er r;have vy:=jH<|B.view (j:=0) XV XV hk;have I:ER X.K H2 T σ q:=B.er.mono (λ_ _ e _=>e) (λb _ z=>B.tt b z) λa z=>B.er.dom a<|B.tt a z;obtain⟨a',V,W,q2,t⟩:=I.own i _ Y;rw[m]at V;cases V;obtain⟨w,w1,w2⟩:=t.get hd;have hl:=t.length;have ej:FU W.length R=Wp j:=by rw[hl];exact hj
   obtain⟨s1,s2,s3,s4⟩:=Ey ej;obtain⟨Z,s⟩:=I.write Y m<|YP.erase j t;refine⟨_,W,R,j,w,rfl,by rw[vy],q2,D.1,D.2,s1,w1,?_⟩;exact k _ _ (B8.val ((K1.trans B.keep).trans s) Z<|Rep.mono (λb o e n=>s.kp b o e λz=>n<|.inl z) (λb _ z=>z.imp (s.ow b) id) w2)
  cases e
 cases e⟩
def iR1(T:Tx X.mg)(t:QA X [a] [U])(w:Gl X "range":=by rfl)(C:aa [a] X.env=[(W1,aX a X.env)]:=by rfl):QI X B tg (.Call (.Name "range" p) [a] [] G) (uN U):=⟨PI.imp' (aeR w T.n_range t.h C) λD H R I=>by
 obtain⟨O,T,Y,Q,E,e,k⟩:=I;obtain⟨os,l,h1,e⟩:=iW e;refine⟨O,T,os,l,E,h1,λn o N B=>?_⟩;dsimp only at e;split at e
 .rename_i j m;obtain⟨⟨q,s⟩,e⟩:=jm e;obtain⟨rfl,rfl⟩:=uW e;have hv:=um B m (j:=0) XV;obtain⟨y,_⟩:=pQ m
  have:n=[.int j]:=by
   have d:=B.len
   cases n with
   |nil=>simp at hv
   |cons v r=>
    cases r with
    |nil=>simp at hv;rw[hv]
    |cons _ _=>simp at y d;lia
  exact⟨j,this,q,s,k _ o B.keep (B.er.mono (λ_ _ e _=>e) (λb _ z=>B.tt b z) λa z=>B.er.dom a<|B.tt a z) (AX 0 j.toNat)⟩
 cases e⟩
def iR2(T:Tx X.mg)(w:QA X [a,b] [U,fb])(C:Gl X "range":=by rfl)(O:aa [a,b] X.env=[(W1,aX a X.env),(W1,aX b X.env)]:=by rfl)(s:aa [b] X.env=[(W1,aX b X.env)]:=by rfl):QI X B tg (.Call (.Name "range" p) [a,b] [] G) (zf U fb):=⟨PI.imp' (afd C T.n_range w.h O s) λK H R Q=>by
 obtain⟨N,T,F,Y,E,e,k⟩:=Q;obtain⟨os,n,h1,e⟩:=iW e;refine⟨N,T,os,n,E,h1,λo q D B=>?_⟩;dsimp only at e;split at e
 .rename_i i j m;obtain⟨t,e⟩:=jm e;obtain⟨rfl,rfl⟩:=uW e;have hv:=um B m (j:=0) XV;have l:=um B m (j:=1) XV;obtain⟨I,_⟩:=pQ m
  have:o=[.int i,.int j]:=by
   have d:=B.len
   match o,hv,l with
   |[x,y],hv,l=>simp at hv l;rw[hv,l]
   |x::y::z::r,_,_=>simp at I d;lia
  exact⟨i,j,this,t,k _ q B.keep (B.er.mono (λ_ _ e _=>e) (λb _ z=>B.tt b z) λa z=>B.er.dom a<|B.tt a z) (AX i (j-i).toNat)⟩
 cases e⟩
def iE{d:kD}{r:Nat}{q:br}(T:Tx X.mg)(l:QX X a f)(m:Gl X "enumerate":=by rfl)(n:aa [a] X.env=[(W1,aX a X.env)]:=by rfl)(s0:SE X a []:=by rfl):QI X B (.Tuple d r q) (.Call (.Name "enumerate" p) [a] [] G) (yx 0 f):=⟨PI.imp' (Of m T.n_enumerate (rn (PX.po l.h) wD s0) n) λs Q R o=>Gj o⟩
def iS(h:QX X e f):QI X B tg e (jJ f):=⟨PI.imp' (FG (B:=B) (PX.po h.h) Ru) λq T R l=>by
 have:jJ f=AW (iY f):=funext λm=>by
  unfold jJ AW iY
  cases f m with
  |none=>rfl
  |some p=>obtain⟨⟨d,o⟩,n⟩:=p;cases d<;>rfl
 rwa [this]at l⟩
def iSV(h:QO X e (iJ i))(d:B i:=by decide):QI X B tg e (AW<|iJ i):=⟨FG h.h<|Ea d⟩
def iZV{d:kD}{y:Nat}{w:br}(T:Tx X.mg)(q:QO X a (iJ i))(r:QO X b (iJ j))(l:B i:=by decide)(m:B j:=by decide)(s:Gl X "zip":=by rfl)(t:SE X a [b]:=by rfl)(n:SE X b []:=by rfl)(o:BA X G [b]:=by rfl):
  QI X B (.Tuple d y w) (.Call (.Name "zip" p) [a,b] [] G) (yw (iJ i)<|iJ j):=⟨agR s T.n_zip q.h r.h (Ea l) (Ea m) t n o⟩
def gN(l:X.N.Nodup)(J:X.N[i]?=Y x:=by rfl)(q:Loc X.env.scope x:=by first|exact bo rfl|exact bh I)(n:X.fn x=C\/X.env.scope.names.lookup x=Y .local:=by first|exact bo rfl|exact bh I)(m:A i:=by decide):QG X A (.Name x G) (iK i):=⟨PG.imp' (Jt l J q n) λv w O Q o=>by obtain⟨t,T,d,s,E,r,e,k⟩:=o;obtain⟨J,rfl⟩:=jm e;obtain⟨h1,h⟩:=Ao (A:=A) (r:=(d,W1)) (v:=v) E (B8.val .refl E r) J m;exact k _ h1 h⟩
def gT{d l:Tg}{k:Nat}(h1:QG X A a d)(m:QG X A b l)(n:X.calm=C:=by rfl)(r:(bb [a,b] X.env).map (·.2)=cu a X.env::(bb [b] X.env).map (·.2):=by rfl)(s:(bb [b] X.env).map (·.2)=cu b X.env::(bb [] X.env).map (·.2):=by rfl)
  (o:(bb [a,b] X.env).length=2:=by rfl)(q:(bb [a,b] X.env).findIdx? (·.1)=WF:=by rfl):QG X A (.Tuple [a,b] k G) (Am [d,l]):=⟨R3 n (Cw h1.h (Cw m.h Og s) r) o I q⟩
def f0:QF X [] jK:=⟨λd s m N Q O h=>by obtain⟨n,T,b,l,E,e,k⟩:=h;cases e;exact RZ d s m N Q O<|k N .refl E⟩
def f1(h:QT X e ft):QF X [e] ft:=⟨RY h.h⟩
def bE{m:pK}{sc:jI}{d:iG}{n:Nat}(Y:QX X e f)(hn:m[n+1]?=WF:=by rfl):QB X A d (.ListComp e m sc p) n (jN f):=⟨PB.imp' (R8 hn Y.h) λw H N D=>by
 obtain⟨I,T,Q,Z,W,B,e,k⟩:=D;obtain⟨r,l,h1,e⟩:=iW e;obtain⟨K,e⟩:=jm e;obtain⟨rfl,rfl⟩:=uW e;refine⟨I,T,r,l,B.er,h1,λv q P=>?_⟩;obtain⟨y,V⟩:=P.rep B.er;have C:SK A w I H w l q:=P.1.sk;have O:=B.step C y;obtain⟨t,F,E⟩:=O.at';refine⟨t,F,by rw[E.length];exact K,k w _ ?_ ?_⟩
 .have:KH A d w l q w l (upd q d<|.lst<|t++[v]):=⟨λa o e n R=>by rw[jx R];exact e,λi a z=>.inl z,λa z=>by
   by_cases s:a=d
   .subst s;rw[jv];simp
   rw[jx s];exact z,λ_ _=>rfl⟩
  exact C.La.trans this
 have hk:∀b o,q b=Wp o->¬T b->upd q d (.lst<|t++[v]) b=Wp o:=λb o e n=>by rw[jx<|by intro z;subst z;exact n B.td];exact e
 have hd:∀a,T a->Ow (upd q d (.lst<|t++[v]) a):=λa z=>by
  by_cases s:a=d
  .subst s;rw[jv];trivial
  rw[jx s];exact y.dom a z
 refine⟨y.mono hk (λ_ _ z=>z) hd,B.td,t++[v],jv,?_⟩;exact YP.mono (λb o e n=>hk b o e λz=>n<|.inr z) (λ_ _ z=>z)<|E.append<|YP.one V⟩
def bF{l:pK}{q:jI}{d:iG}{n:Nat}{c:pJ}{o:Cb}{tt:Tg}{fb:FB}(y:l[n+1]?=Y c)(O:QI X (λ_=>False) c.target c.iter o)(Q:QG X A c.target tt)(s:QF X c.ifs ft)(N:QB X A d (.ListComp e l q p) (n+1) fb)(r:X.xe=λ_ _=>False:=by rfl)(w:X.calm=C:=by rfl)
  (t:c.is_async=0:=by rfl)(E:∀m,l[n+1+1]?=Y m->m.is_async=0:=by intro m h;cases h;try rfl)(T:∀x,aG c.iter X.env x=pure x:=by intro _;rfl):QB X A d (.ListComp e l q p) n (Ce o tt ft fb):=⟨R7 r w (bo ⟨_,_,_,_,rfl⟩) y t E T O.h Q.h s.h N.h⟩
abbrev Blk(X:Cx)(d:jQ)(o:pK)(r:jI)(P:Cx->Prop):Prop:= ∀(m:kW)(T:iG)(q:iL)(l:Hp)(n:kP)(h:jF),
 (X.comp (cN X.N d o) r m T q l n h).N.Nodup->P (X.comp (cN X.N d o) r m T q l n h)
def xC{c:pJ}{m:pK}{n:iR}{scope:jI}{r:Cb}{tt:Tg}{s:FT}{fb:FB}{l:jQ}(T:QI X (λi=>i∉l) c.target c.iter r)
  (s9:Blk X l (c::m) scope λY'=>QG Y' (λi=>X0 l<=i) c.target tt/\QF Y' c.ifs s/\∀d,QB Y' (λi=>X0 l<=i) d (.ListComp n (c::m) scope G) 0 fb)
  (C:uG X.N X.env.scope scope (cN X.N l (c::m)) l k=WP:=by kernel_rfl)(Q:decide (cN X.N l (c::m)).Nodup=WP:=by kernel_rfl)
  (H:X.calm=WP:=by rfl)(E:c.is_async=0:=by rfl)(O:∀q,m[0]?=Y q->q.is_async=0:=by intro q h;cases h;try rfl)(I:∀x,aG c.iter X.env x=pure x:=by intro _;rfl):QX X (.ListComp n (c::m) scope G) (jD l k r tt s fb):=⟨RM (EN XV XV C) H E O I T.h λw C D t y o=>let⟨a,b,c⟩:=s9 w C D t y o<|Dy Q;⟨a.h,b.h,λd=>(c d).h⟩⟩
def sC{c:pJ}{m:pK}{n:iR}{scope:jI}{s:Cb}{tt:Tg}{w:FT}{fb:FB}{l:jQ}{t r:br}(Q:X.N.Nodup)(pi:QI X (λi=>i∉l) c.target c.iter s)
  (s9:Blk X l (c::m) scope λY'=>QG Y' (λi=>X0 l<=i) c.target tt/\QF Y' c.ifs w/\∀d,QB Y' (λi=>X0 l<=i) d (.ListComp n (c::m) scope G) 0 fb)
  (C:uG X.N X.env.scope scope (cN X.N l (c::m)) l k=WP:=by kernel_rfl)(nd:decide (cN X.N l (c::m)).Nodup=WP:=by kernel_rfl)
  (E:bQ (.ListComp n (c::m) scope G) (Y<|.Name x t) r.line X.env=pure WP:=by rfl)(J:X.N[i]?=Y x:=by rfl)(hx:X.env.scope.names.lookup x=Y .local:=by rfl)(hf:X.fn x=WP:=by rfl)(O:A i:=by decide)
  (hc:X.calm=WP:=by rfl)(T:c.is_async=0:=by rfl)(j4:∀q,m[0]?=Y q->q.is_async=0:=by intro q h;cases h;try rfl)(hs:∀x,aG c.iter X.env x=pure x:=by intro _;rfl):QS X A L H0 (.Assign [.Name x t] (.ListComp n (c::m) scope G) r) (kj i<|jD l k s tt w fb):=⟨aga E (EN XV XV C) hc T j4 hs pi.h (Jt Q J (bo hx)<|bo hf) O λH C D y I o=>let⟨a,b,c⟩:=s9 H C D y I o<|Dy nd;⟨a.h,b.h,λd=>(c d).h⟩⟩
def s0:QQ X A L H0 [] jk:=⟨HF.imp' Jr λD h Q d=>by obtain⟨δ,T,out,E,fi,e,k⟩:=d;cases e;exact k h Q .refl E⟩
def s1(h:QS X A L H0 S u)(y:QQ X A L H0 Ss v):QQ X A L H0 (S::Ss) (iP u v):=⟨HF.imp' (tM h.h y.h) λD Q H N=>by
 obtain⟨δ,T,out,E,s,e,k⟩:=N;obtain⟨o,w,e⟩:=iM e;refine⟨δ,T,o,E,s,w,?_⟩
 cases o with
 |nx δ1=>
  intro I O q t;refine⟨δ1,T,out,t,s.step q,e,?_⟩
  cases out with
  |nx δ2=>exact λd l m n=>k d l (q.trans m) n
  |bk δ2=>exact λd l m n=>k d l (q.trans m) n
  |ct δ2=>exact λd l m n=>k d l (q.trans m) n
  |rt r δ2=>exact λv d l m R2=>k v d l (q.trans m) R2
 |rt r δ1=>cases e;exact k
 |bk δ1=>cases e;exact k
 |ct δ1=>cases e;exact k⟩
def sX:QS X A L H0 S Ee:=⟨λd s n O D Q h=>by obtain⟨m,T,out,E,l,e,k⟩:=h;cases e⟩
def sR(h:QX X e f):QS X A L H0 (.Return (Y e) G) (kN f):=⟨PS.imp' (N4 h.h) λD y Q s=>by
 obtain⟨t,T,out,E,n,e,k⟩:=s;obtain⟨p,l,e⟩:=iM e;cases e;refine⟨t,T,p.1,p.2,E,l,λv m P=>k v y m P.1.sk ?_⟩;obtain⟨⟨d,o⟩,w⟩:=p
 cases o
 .exact P.2
 obtain⟨q,h1,r,l⟩:=P.2;exact⟨q,h1,n.fresh r,l⟩⟩
def sRV{n:Nat}(q:∀i,L.p i->i<n)(hq:n<=i:=by decide)(h1:X.N[i]?=Wp x:=by rfl)(y:Lv X.env.scope x:=by first|exact bo rfl|exact bh (bo XV)|exact bh<|bh XV)(h3:DB x:=by decide)(h4:(x==("__classdict__":ax))=W1:=by decide):QS X A L H0 (.Return (Wp<|.Name x p) G) (qp i):=⟨PS.imp' (N4<|AB h1 y h3 h4) λD s H hw=>by
 have Z: ¬L.p i:=λh=>absurd (q _ h)<|M6.2 hq;obtain⟨r,T,out,E,V,e,k⟩:=hw;unfold qp at e
 cases J:r[i]? with
 |none=>rw[J]at e;cases e
 |some q=>
  cases q with
  |none=>rw[J]at e;cases e
  |some p=>
   obtain⟨d,b⟩:=p;have W:i<(X0 r):=(uj.mp J).1
   cases b with
   |false=>rw[J]at e;cases e;obtain⟨v,h1,y⟩:=E.val i d J;exact⟨v,h1,k v s H .refl ⟨E,y⟩⟩
   |true=>
    rw[J]at e;cases e;obtain⟨a,h1,y⟩:=E.own i d J
    have l:∀j b,AK s (r.set i WF) j b->i≠j/\AK s r j b:=λj b a'=>by
     obtain⟨o,g1,g2⟩:=a'
     rcases nX g1 with⟨_,_,q⟩|⟨ne,q⟩
     .cases q
     exact⟨ne,o,q,g2⟩
    have m:∀b,A1 s (r.set i WF) b->A1 s r b/\b≠a:=λb a'=>by
     obtain⟨j,o,g1,g2⟩:=a'
     obtain⟨ne,I,Y,F⟩:=l j b ⟨o,g1,g2⟩;exact⟨⟨j,I,Y,F⟩,λz=>ne<|by subst z;exact E.inj i j d I _ J Y h1 F⟩
    have K:A1 s r a:=⟨i,d,J,h1⟩
    have sub:∀b,H b≠WF->(A1 s (r.set i WF) b\/(T b\/b=a))->(A1 s r b\/T b):=λb _ z=>by
     rcases z with z|z|z
     .exact .inl (m b z).1
     .exact .inr z
     subst z;exact .inl K
    refine⟨.ref a,h1,k (.ref a) s H ⟨λ_ _ e _=>e,λj b z=>.inl (l j b z).2,λ_ z=>z,λ_ _=>rfl⟩ ⟨a,rfl,?_,?_,y.mono (λ_ _ e _=>e) sub λ_ e=>e⟩⟩
    .rcases V.ow i a ⟨d,J,h1⟩with z|z
     .exact absurd z Z
     exact z
    refine⟨by rw[tD];exact E.len,λj o C=>?_,λj o C=>?_,λj k o R b C hk g1 g2=>?_,λb z t=>?_,λb z=>?_⟩
    .rcases nX C with⟨_,_,q⟩|⟨ne,q⟩
     .cases q
     obtain⟨w,O,Q⟩:=E.val j o q;exact⟨w,O,Rep.mono (λ_ _ e _=>e) sub Q⟩
    .rcases nX C with⟨_,_,q⟩|⟨ne,q⟩
     .cases q
     obtain⟨w,O,Q⟩:=E.own j o q;exact⟨w,O,Q.mono (λ_ _ e _=>e) sub λ_ e=>e⟩
    .obtain⟨_,I,q1,q2⟩:=l j b ⟨o,C,g1⟩;obtain⟨_,P,q3,q4⟩:=l k b ⟨R,hk,g2⟩;exact E.inj j k I P b q1 q3 q2 q4
    .obtain⟨z1,z2⟩:=m b z;rcases t with t|t
     .exact E.nT b z1 t
     exact z2 t
    rcases z with z|z
    .exact E.dom b z
    subst z;exact E.Iw K⟩
def sE(h:QX X e f)(m:bQ e WF G.line X.env=pure W1:=by rfl):QS X A L H0 (.Expr e G) (nj f):=⟨PS.imp' (Js h.h m) λD q Q n=>by obtain⟨o,T,out,E,r,e,k⟩:=n;obtain⟨p,l,e⟩:=iM e;cases e;exact⟨o,T,p.1,p.2,E,l,λv d P=>k q d P.1.sk (P.rep E).1⟩⟩
def sI(m:QT X c ft)(d:QQ X A L H0 Ss u)(l:QQ X A L H0 Ts v):QS X A L H0 (.If c Ss Ts G) (EF ft u v):=⟨VZ m.h d.h l.h⟩
def sW{n:Nat}(l:QT X c ft)(d:QQ X A L H0 Ss u)(m:fv (ah X.prog X.w) X.A X.env X.xe:=by exact PassesOwn.never):QS X A L H0 (.While c Ss [] G) (pX ft u n):=⟨ae9 m l.h d.h⟩
def sF{d:Cb}{t:Tg}(J:QI X (λ_=>False) tg e d)(n:QG X A tg t)(l:QQ X A L H0 Ss u)(o:fv (ah X.prog X.w) X.A X.env X.xe:=by exact PassesOwn.never)(m:X.calm=C:=by rfl)(q:∀x,aG e X.env x=pure x:=by intro _;rfl):QS X A L H0 (.For tg e Ss [] G) (mE d t u):=⟨RT o m J.h n.h l.h q⟩
def sS(o:X.N.Nodup)(s:QX X e f)(J:X.N[i]?=Y x:=by rfl)(C:Loc X.env.scope x:=by first|exact bo rfl|exact bh XV)(t:X.fn x=WP\/X.env.scope.names.lookup x=Y .local:=by first|exact bo rfl|exact bh XV)(q:A i:=by decide)(w:bQ e (Y<|.Name x p) G.line X.env=pure W1:=by rfl):QS X A L H0 (.Assign [.Name x p] e G) (kj i f):=⟨PS.imp' (N3 o J C s.h w t) λD Q H y=>by obtain⟨I,T,out,E,O,e,k⟩:=y;obtain⟨r,d,n,e⟩:=iW e;obtain⟨J,rfl⟩:=jm e;refine⟨I,T,r,d,E,n,λv l P=>?_⟩;obtain⟨h1,m⟩:=Ao (A:=A) E P J q;exact k _ l h1 m⟩
def sT{t:Tg}{pt:br}(C:QX X e f)(I:QG X A (.Tuple M k pt) t)(O:fO [.Tuple M k pt] e G.line X.env=pure W1:=by rfl)(l:fP [.Tuple M k pt] e X.env=pure WF:=by rfl)(h1:(bb [.Tuple M k pt] X.env).map (·.2)=[cu (.Tuple M k pt) X.env]:=by rfl):QS X A L H0 (.Assign [.Tuple M k pt] e G) (Vw t f):=⟨PS.imp' (HG C.h I.h O l h1) λD F H l=>by obtain⟨N,T,out,E,Y,e,k⟩:=l;obtain⟨r,d,h1,e⟩:=iW e;obtain⟨m,y,e⟩:=iM e;cases e;refine⟨N,T,r,d,E,h1,λv s P=>?_⟩;obtain⟨q,Q⟩:=P.rep E;exact⟨d,T,r.1,m,q,Q,y,λn w o=>k n s (P.1.sk.trans w) o⟩⟩
def BL{m:br}(hv:QO X (.Name x c9) (iJ i))(he:QX X e f)(J:QO X a fo)
  (ha:∀v,cu (.Subscript (.Name x c9) a m) X.env v=(do
   let w <-b5 [v] (aX (.Name x c9) X.env)
   let C' <-b5 [v,w] (aX a X.env)
   dv m
   b5 [v,w,C'] (ll w C' v)
   M2 [v,w,C'] []):=by intro _;rfl)
  (hs:fO [.Subscript (.Name x c9) a m] e G.line X.env=pure W1:=by rfl)(y:fP [.Subscript (.Name x c9) a m] e X.env=pure WF:=by rfl)
  (h1:(bb [.Subscript (.Name x c9) a m] X.env).map (·.2)=[cu (.Subscript (.Name x c9) a m) X.env]:=by rfl):QS X A L H0 (.Assign [.Subscript (.Name x c9) a m] e G) (qx i f fo):=⟨PS.imp' (HG he.h (Oi hv.h J.h agi ha) hs y h1) λD I H y=>by
 obtain⟨F,T,out,E,fi,e,k⟩:=y;obtain⟨r,d,h1,e⟩:=iW e;dsimp only at e;split at e
 case h_2=>cases e
 rename_i y0 Z;obtain⟨o,t,h2,e⟩:=iW e;dsimp only at e;split at e
 .rename_i kk l hk Q;obtain⟨j,hj,e⟩:=iM e;cases e;refine⟨F,T,r,d,E,h1,λv R n=>⟨d,LN T r v,.slot i,d,n.er E,by unfold iJ;rw[Z],λv2 H2 q=>⟨d,LN T r v,o,t,q.er<|n.er E,h2,λv3 V P3=>?_⟩⟩⟩;have iz:Em X.K T I F H (.val r) d v R:=n;have B:=Ops.cons E iz<|Ops.cons (n.er E) q<|Ops.cons (q.er<|n.er E) P3<|Ops.nil<|P3.er<|q.er<|n.er E;have O:ER X.K V T I t:=B.er.mono (λ_ _ e _=>e) (λb _ z=>B.tt b z) λa z=>B.er.dom a<|B.tt a z;have s:I[i]?=Wp (Wp v2):=q.2.2;obtain⟨a,N,xs,q2,Y⟩:=O.own i _ Q;rw[s]at N;cases N;have vk:=jH<|B.view (j:=2) XV XV hk;have rv:=B.rep E (j:=0) (r:=r) XV XV;refine⟨a,xs,kk,j,rfl,vk,q2,by rw[Y.length];exact hj,?_⟩;obtain⟨P,W⟩:=O.write Q s<|YP.set rv j Y;exact k _ _ (B.keep.trans W).sk P
 cases e⟩
def sDP{s:br}(hu:un X.A 1)(hv:QO X (.Name x c9) (iJ i))(he:QX X e f)(J:QO X a fo)
  (ha:∀v,cu (.Subscript (.Name x c9) a s) X.env v=(do
   let ov <-b5 [v] (aX (.Name x c9) X.env)
   let iv <-b5 [v,ov] (aX a X.env)
   dv s
   b5 [v,ov,iv] (ll ov iv v)
   M2 [v,ov,iv] []):=by intro _;rfl)
  (hs:fO [.Subscript (.Name x c9) a s] e G.line X.env=pure W1:=by rfl)(hw:fP [.Subscript (.Name x c9) a s] e X.env=pure WF:=by rfl)
  (h1:(bb [.Subscript (.Name x c9) a s] X.env).map (·.2)=[cu (.Subscript (.Name x c9) a s) X.env]:=by rfl):QS X A L H0 (.Assign [.Subscript (.Name x c9) a s] e G) (NK i f fo):=⟨PS.imp' (HG he.h (Oi hv.h J.h (agj hu) ha) hs hw h1) λD O H hw=>by
 obtain⟨δ,T,out,E,fi,e,k⟩:=hw;obtain⟨r,d,h1,e⟩:=iW e;dsimp only at e;split at e
 case h_2=>cases e
 rename_i y0 h0;obtain⟨o,l,h2,e⟩:=iW e;dsimp only at e;split at e
 .rename_i P R V hk h3;obtain⟨⟨F,m⟩,e⟩:=jm e;cases e;refine⟨δ,T,r,d,E,h1,λv H1 Q=>⟨d,LN T r v,.slot i,d,Q.er E,by unfold iJ;rw[h0],λv2 H2 Y=>⟨d,LN T r v,o,l,Y.er<|Q.er E,h2,λv3 N P3=>?_⟩⟩⟩;have iz:Em X.K T O δ H (.val r) d v H1:=Q;have B:=Ops.cons E iz<|Ops.cons (Q.er E) Y<|Ops.cons (Y.er<|Q.er E) P3<|Ops.nil<|P3.er<|Y.er<|Q.er E;have E3:ER X.K N T O l:=B.er.mono (λ_ _ e _=>e) (λb _ z=>B.tt b z) λa z=>B.er.dom a<|B.tt a z;have y:O[i]?=Wp (Wp v2):=Y.2.2;obtain⟨a,q1,us,q2,Z⟩:=E3.own i _ h3;rw[y]at q1;cases q1;have vk:=B.view (j:=2) XV XV hk;have rv:=B.rep E (j:=0) (r:=r) XV XV;have oa:A1 O l a:=⟨i,_,h3,y⟩
  have kp:∀(q:HO) b u,N b=Wp u->¬(A1 O l b\/T b)->upd N a q b=Wp u:=λq b u e n=>by rw[jx<|by intro z;subst z;exact n<|.inl oa];exact e
  have ks10:10000<sizeLine:=by rw[ku];decide
  have fin:∀q W,Bs X.K (Wp q) .dct (yn R V P r.1).1 (yn R V P r.1).2 W->YP X.K N (λa=>A1 O l a\/T a) (yn R V P r.1).2 W->D.nx O (upd N a q):=λq W g1 g2=>by obtain⟨E4,K4⟩:=E3.EW (o:=q) (d':=.AF .dct (yn R V P r.1).1 (yn R V P r.1).2) h3 y ⟨W,by rw[jv];exact g1,YP.mono (kp q) (λ_ _ z=>z) g2⟩;exact k _ _ (B.keep.trans K4).sk E4
  refine⟨a,rfl,?_⟩;rcases q2 with⟨kvs,eH,rfl,rfl⟩|⟨kvs,eH,rfl,rfl⟩
  .rw[ke]at m;rcases rp F with⟨κ,g1,_⟩|⟨τ,g1,g2⟩
   .have w:=qZ g1 vk;have I:=pF g1;subst I;obtain⟨C,p2⟩:=Jq ue (k:=κ) rv Z;refine .inl ⟨_,by rw[w];exact HL.k eH<|by lia,fin _ _ (.inl ⟨_,rfl,C,rfl⟩) p2⟩
   have cM:kvs=[]:=by
    cases kvs with
    |nil=>rfl
    |cons p kvs=>obtain⟨c,hc⟩:=g2 (lM p.1) (by simp);exact(AU hc).elim
   subst cM;obtain⟨b,w,eb⟩:=pE g1 vk;have I:=tQ g1;subst I;obtain⟨C,p2⟩:=Jq (kd:=λk=>.tup (k.map lM)) uF (k:=τ) (kvs:=[]) rv Z;exact .inr<|.inr ⟨τ,b,eH,w,eb,fin _ _ (.inr ⟨[(τ,v)],rfl,C,rfl⟩) p2⟩
  rw[ke]at m;rcases rp F with⟨κ,g1,g2⟩|⟨τ,g1,_⟩
  .have cM:kvs=[]:=by
    cases kvs with
    |nil=>rfl
    |cons p kvs=>obtain⟨c,hc⟩:=g2 (.tup<|p.1.map lM) (by simp);exact(D5 hc).elim
   subst cM;have w:=qZ g1 vk;have I:=pF g1;subst I;obtain⟨C,p2⟩:=Jq ue (k:=κ) (kvs:=[]) rv Z;exact .inr<|.inl ⟨κ,eH,w,fin _ _ (.inl ⟨[(κ,v)],rfl,C,rfl⟩) p2⟩
  obtain⟨b,w,eb⟩:=pE g1 vk;have I:=tQ g1;subst I;obtain⟨C,p2⟩:=Jq (kd:=λk=>.tup (k.map lM)) uF (k:=τ) rv Z;refine .inl ⟨_,by rw[w];exact HL.t eH eb<|by lia,fin _ _ (.inr ⟨_,rfl,C,rfl⟩) p2⟩
 cases e⟩
end
def Fz(K:ji)(b:lI)(x:ax)(st:bc):Prop:= ∃f a,b x=Y (.ref f)/\Ii K x x st f a
def fz{K:ji}{h:jb}{e:lI}{x:ax}{st:bc}{f:iG}{i:iQ}{j an:Option iG}{g:yI}{kV b m d ct:iQ}(X:K.In h)(G:h.Ns aj e)(a:aU K aj x=Y (Y<|.ref f))
  (l:K.lookup f=Y ⟨i,j,.func<|bG x x (qv st) (mn st) (iT st) .none kV b m an d ct,g⟩)(c:dn K d x=C)(k:bP K (.ref f)=C):Fz K e x st:=⟨f,_,nb X G a,PY l c k⟩
def LA(x:ax)(st:bc)(c:jr):Prop:= ∀(kV a e:iQ)(an:Option iG)(d ct:iQ)(b:jP),X0 b=X0 c->fj (bG x x (qv st) (mn st) (iT st) .none kV a e an d ct) ⟨b,[]⟩=pure (c.zip b)
def OG{N P:jr}{a:jI}(h1:a.kind=.function:=by rfl)(b:a.isCoroutine=U:=by rfl)(c:a.isGenerator=U:=by rfl)(d:N.Nodup:=by decide+kernel)(e:N.take P.length=P:=by rfl)(f:∀x∈P,a.names.lookup x=Y .local\/a.names.lookup x=Y .cell:=by decide+kernel)(g:∀y∈a.names,y.2≠ .free:=by decide+kernel):AJ N P a:=⟨h1,b,c,d,e,f,g⟩
abbrev Bd(Z:ZZ)(k:Nat)(x:ax)(st:bc)(N d:jr)(c:jQ)(fs:FS):Prop:= ∀(f:iG)(b:iQ)(A:je)(a:List dI)(s:iL)(T:Hp)(E:XK)(L:LL),(∀i,L.p i->i<X0 d)->B7 k (A.deeper<|aZ x (iT st) s.heap.objs.size f b)->
 un (A.deeper<|aZ x (iT st) s.heap.objs.size f b) 60->un (A.deeper<|aZ x (iT st) s.heap.objs.size f b) 1->un (A.deeper<|aZ x (iT st) s.heap.objs.size f b) 62->un (A.deeper<|aZ x (iT st) s.heap.objs.size f b) 90->N.Nodup->
 QQ (sd Fx Z.P Z.w Z.K Z.mg Z.base N x (iT st) f b A a s T E).IE (λi=>i∈c) L T (mn st) fs
def fnB{Z:ZZ}{k:Nat}{x:ax}{st:bc}{N c:jr}{b:jQ}{fs:FS}{f:iG}{d:mG}(F:Ii Z.K x x st f d)(S:AJ N c (iT st))(j:Bd Z k x st N c b fs):Bn Z.P Z.w Z.K Z.mg Z.base Fx (k+1) f d c (Iv Z.K<|AG (X0 N) (X0 c) b fs):=
 WY F S λg A a s T E L i e=>by have:=e.un;exact(j f g A a s T E L i e (by unfold un;omega) (by unfold un;omega) (by unfold un;omega) (by unfold un;omega) S.nd).h
def ozB{Z:ZZ}{k:Nat}{x:ax}{st:bc}{N d:jr}{c:jQ}{fs:FS}(a:Fz Z.K Z.mg x st)(S:AJ N d (iT st))(b:LA x st d)(g:Bd Z k x st N d c fs):Oz Z (k+1) x d (AG (X0 N) (X0 d) c fs):=
 let⟨f,e,m,F⟩:=a;⟨f,e,fnB F S g,m,F.kp,F.binds b⟩
def Mc{P:List iQ->Prop}(h:P []):∀b:List iQ,X0 b=0->P b:=λb e=>by cases b with|nil=>exact h|cons a l=>cases e
def Lk{P:List iQ->Prop}{n:Nat}(h:∀a,∀b:List iQ,X0 b=n->P (a::b)):∀b:List iQ,X0 b=n+1->P b:=λb e=>by cases b with|nil=>cases e|cons a l=>exact h a l<|Nat.succ.inj e
def oz0{Z:ZZ}{x:ax}{st:bc}{c:jr}(a:Fz Z.K Z.mg x st)(b:LA x st c):Oz Z 0 x c (λ_=>J):=
 let⟨f,d,m,F⟩:=a;⟨f,d,Tj,m,F.kp,F.binds b⟩
def mgI{K:ji}{h:jb}{b:lI}{x:ax}{i:Int}{t:tz}(X:K.In h)(G:h.Ns aj b)(a:aU K aj x=Y (Y<|.int i t)):∃t,b x=Y (.int i t):=⟨t,nb X G a⟩
def txK{K:ji}{h:jb}{g:lI}(X:K.In h)(G:h.Ns aj g)(i:aU K aj "len"=Y J)(j:aU K aj "abs"=Y J)(k:aU K aj "int"=Y J)(l:aU K aj "tuple"=Y J)(m:aU K aj "list"=Y J)(n:aU K aj "range"=Y J)(o:aU K aj "isinstance"=Y J)(p:aU K aj "bool"=Y J)(q:aU K aj "max"=Y J)(r:aU K aj "min"=Y J)(a:aU K aj "all"=Y J)(b:aU K aj "any"=Y J)(c:aU K aj "sorted"=Y J)(d:aU K aj "enumerate"=Y J)(e:aU K aj "zip"=Y J)(f:aU K aj "set"=Y J):Tx g:=⟨oS X G i,oS X G j,oS X G k,oS X G l,oS X G m,oS X G n,oS X G o,oS X G p,oS X G q,oS X G r,oS X G a,oS X G b,oS X G c,oS X G d,oS X G e,oS X G f⟩
noncomputable abbrev Lg(i:Int):Int:=if i<0 then -i else i
section
variable {d:jh}{w:jc}{A:je}{E:jB}{s:iL}
def agf{a:iG}{f:jP}{r:iO}{n:Nat}{P:zn->Shared->Prop}(M:s.heap.get? a=Wp (bj "list" f.toArray n))(hi:d7 f r)(h64:f.length<64)
  (h:∀g y out c,(∀b o,b≠a->s.heap.get? b=Wp o->g.get? b=Wp o)->g.get? a=Wp (bj "list" out c)->KskOut W1 (r.map Lg) f out.toList->P (.done<|.ret .none) {s with heap:=g,toks:=y}):
  ag (ah d w) A (ksk_tree a (.builtin "abs") W1) P E s:=by
 have ha:a<s.heap.objs.size:=kh M;have V:=hi.length;have T:∀k,k<=f.length->k<=sizeLine:=λk hk=>by rw[ku];omega
 unfold ksk_tree;refine iI<|GV M XV<|iI<|vp M XV ?_ (T _ (by simp))<|mq _;obtain⟨C,Z⟩:∃C,(s.heap.update a<|aQ λ_=>(#[]:Array iQ)).get? a=Wp (bj "list" #[] C):=⟨_,xN M λ_=> #[]⟩
 refine iI<|zQ Z XV<|iI<|DM ?_<|T _ (by simp);refine iI<|DD ?_<|mq _;refine md ?_
 let h1:=qo s.heap a f
 let m:Addr:=((s.heap.update a<|aQ λ_=>(#[]:Array iQ)).push<|bj "tuple" f.toArray 0).objs.size
 have hk:m=s.heap.objs.size+1:=by show _=_;simp -iota only[m];rw[size_push',Heap.size_update]
 have L:a≠m:=by rw[hk];exact kx<|we ha
 have old:∀b o,b≠a->s.heap.get? b=Wp o->h1.get? b=Wp o:=λb o z e=>jW _ (jW _ (by rw[GU _ _ _ _ z];exact e));have F:h1.get? a=Wp (bj "list" #[] C):=jW _ (jW _ Z);have dq:h1.get? m=Wp (bj "list" #[] 0):=kE _ rfl;show ag (ah d w) A (ksk_rest a (.builtin "abs") W1 f.toArray C<|.ref m) P E {s with heap:=h1};unfold ksk_rest;refine iI<|sQ ?_;rw[List.forIn_toArray];refine iI<|ksk_fold (λi U=>∃g y l e,U={s with heap:=g,toks:=y}/\(∀b o,b≠m->h1.get? b=Wp o->g.get? b=Wp o)/\g.get? m=Wp (bj "list" l e)/\d7 l.toList ((r.map Lg).take i)) f 0 _ ⟨h1,s.toks,#[],0,rfl,λ_ _ _ e=>e,dq,.nil⟩ (λj x U X D=>?_) λU D=>?_
 .obtain⟨g,y,l,e,rfl,N,G,p⟩:=D;have S:j<f.length:=(uj.mp X).1;obtain⟨t,W⟩:=hi.get j r[j]<|jT (by omega);rw[X]at W;cases W
  have q:l.size<=f.length:=by have:=p.length;rw[mf,uX]at this;omega
  refine iI<|rM<|Q1 λu fR=>?_;dsimp only;have s1:=si g m (aQ (·.push (.int (Lg r[j]) u)));refine iI<|vp (s:={s with heap:=g,toks:=fR}) G XV ?_ (T _ q)<|lN (wT (Array.size_push ..)) (by rw[ku];omega);refine iX ⟨rfl,_,_,l.push<|.int (Lg r[j]) u,_,rfl,λb o z e=>(s1.2 b z).trans<|N b o z e,xN G _,?_⟩;rw[DE,List.take_add_one,kQ,jT (show j<r.length by omega),fq];rw[DE]at p;exact p.append<|.cons _ _ .nil
 obtain⟨g,y,l,e,rfl,N,G,p⟩:=D;have p:d7 l.toList (r.map Lg):=by rwa [DE,ek<|by simp;omega]at p
 have q:l.size=f.length:=by have:=p.length;rw[mf,ke]at this;omega
 have J:(l.zip f.toArray).size=f.length:=by rw[rd,q,kH,Nat.min_self]
 refine iI<|GV (s:={s with heap:=g,toks:=y}) G XV ?_
 have v:∀st:sL,(fW st).Perm (l.zip f.toArray)->SortedTo (fW st) (fW st).size->gf st=WF->ag (ah d w) A (ksk_tail a W1 C (.ref m) st) P E {s with heap:=g,toks:=y}:=λst O R K=>by
  have s1:=si g m<|aQ λ_=>(#[]:Array iQ);have Y:(g.update m<|aQ λ_=>(#[]:Array iQ)).get? a=Wp (bj "list" #[] C):=(s1.2 a L).trans<|N a _ L F;have s2:=si (g.update m<|aQ λ_=>(#[]:Array iQ)) a (aQ λ_=>(fW st).map (·.2));unfold ksk_tail;simp -iota;refine iI<|vp (s:={s with heap:=g,toks:=y}) G XV ?_ (T _ (by omega))<|mq _;refine iI (DL (iI (zQ Y XV (iI (vp Y XV ?_ (mq _) (nt (show((fW st).map (·.2)).size<=sizeLine from T _ (by rw[ro,O.size_eq,J];exact jZ _))))))));rw[K];simp -iota;refine iX<|h _ _ _ _ (λb o z e=>?_) (xN Y _) (ksk_out (b:=W1) p O R);have I:b≠m:=by rw[hk];exact kx<|we<|kh e
  exact(s2.2 b z).trans ((s1.2 b I).trans<|N b o I<|old b o z e)
 unfold ksk_end;simp -iota only[mB];by_cases H:f.toArray.size<2
 .rw[iZ H,iZ H];refine iI<|iX ?_;rw[GZ];refine iI<|iX<|v _ (Array.Perm.refl _) (λi j k7 S=>?_) rfl;have dr:j<(l.zip f.toArray).size:=S;rw[J]at dr;rw[kH]at H;have:i=j:=by omega
  subst this;exact Int.le_refl _
 rw[jo H,jo H];rw[kH]at H;rw[ksk_kind p<|by rw[q];omega];refine iI (iX ?_)
 refine iI (oq (wpS_sortRuns (a₀:=l.zip f.toArray) (st:=SortSt.mk' G0 (l.zip f.toArray) #[] 7 WF) (Q:=λ_ B=>(fW B).Perm (l.zip f.toArray)/\gf B=WF/\SortedTo (fW B) (l.zip f.toArray).size)
  (ksk_intKeys p) ⟨Array.Perm.refl _,rfl,rfl,rfl⟩ (by rw[J];omega) (by rw[J];exact h64) λB a1 a2 a3=>⟨a1,a2,a3⟩) ?_ λ_ _ e=>e)
 rintro⟨⟨⟩,B⟩ U ⟨rfl,O,K,R⟩;exact v B O (by rw[O.size_eq];exact R) K
end
def aD:D->Int
 |.int i=>Lg i
 |_=>0
noncomputable def Ln:D->Bool
 |.int _=>C
 |_=>U
def IA(x y:D):Bool:=decide<|aD x<aD y
def yy:D->Option (D×Bool)
 |.lst l=>if l.all Ln=C/\(l.map aD).Nodup/\(X0 l)<64 then Y (.lst<|nU IA l,C)else J
 |_=>J
def Pz{x:D}:∀{l:List D},l.Pairwise (λa b=>aD a<=aD b)->(Ez IA x l).Pairwise λa b=>aD a<=aD b:=by
 intro g
 induction g with
 |nil=>intro _;simp[Ez]
 |cons y l f=>
  intro h;obtain⟨h1,e⟩:=Fb.mp h;unfold Ez;by_cases d:aD y<aD x
  .rw[iZ<|by simpa[IA]using d];refine Fb.mpr ⟨λz c=>?_,f e⟩;rcases nS.mp ((uA IA x l).mem_iff.mp c)with rfl|c
   .omega
   exact h1 z c
  rw[jo<|by simpa[IA]using d];refine Fb.mpr ⟨λz c=>?_,h⟩;rcases nS.mp c with rfl|c
  .omega
  have:=h1 z c;omega
def Cq:∀l:List D,(nU IA l).Pairwise λa b=>aD a<=aD b:=by
 intro d
 induction d with
 |nil=>exact .nil
 |cons _ l c=>exact Pz<|c
theorem CB:∀{l:List D},(l.map aD).Nodup->∀a∈l,∀b∈l,aD a=aD b->a=b
 |x::l,h,a,d,b,f,e=>by
  rw[kc,BF]at h;rcases nS.mp d with h1|h1<;>rcases nS.mp f with c|c
  .rw[h1,c]
  .exact absurd (h1▸e▸rK c) h.1
  .exact absurd (c▸e▸rK h1) h.1
  exact CB h.2 a h1 b c e
def agh{l m:List D}(c:m.Perm l)(g:m.Pairwise λa b=>aD a<=aD b)(f:(l.map aD).Nodup):m=nU IA l:=by refine(c.trans (lb IA l).symm).eq_of_pairwise (le:=λa b=>aD a<=aD b) (λa b d e x y=>CB f a (c.mem_iff.mp d) b ((lb IA l).mem_iff.mp e)<|by omega) g (Cq l)
section
variable {X:Cx}{f:jF}{g:L2.St}{H:Hp}{s:iL}
def Zj{O:AA}:∀{l:List D}{j:List V}{c:jP},l.all Ln=C->YP X.K H O l j->Vals j c->∃e:List Int,l=e.map .int/\d7 c e:=by
 intro n
 induction n with
 |nil=>intro j c _ r v;rw[YP]at r;subst r;cases v;exact⟨[],rfl,.nil⟩
 |cons d l m=>
  intro j c h r v;rw[YP]at r;obtain⟨x,q,rfl,o,p⟩:=r;rw[tx,ma]at h
  cases d with
  |int i=>
   cases v with
   |cons a b=>obtain⟨e,rfl,k⟩:=m h.2 p b;rw[jH<|.inl o]at a;obtain⟨t,rfl⟩:=a;exact⟨i::e,rfl,.cons _ _ k⟩
  |_=>exact absurd h.1 (by simp[Ln])
theorem XR:∀{l:List D}{a:iO}{xs:List V}{its:jP},l=a.map .int->X0 xs=X0 l->X0 its=X0 l->(a.map Lg).zip its=(l.zip<|xs.zip its).map λt=>(aD t.1,t.2.2)
 |[],[],_,_,_,_,_=>by simp
 |d::l,i::a,x::xs,u::its,h,h1,b=>by obtain⟨rfl,c⟩:=sZ h;have:=XR (xs:=xs) (its:=its) c (by simpa using h1) (by simpa using b);simp -iota only[kc,sY,this];rfl
def aev{u:iQ}{Q:VK}{O:AA}{d:D}{z:D×Bool}{x:V}(I:Inv X f g H s)(ru:RelV x u)(np:∀p,¬Ow (H p)->¬O p)(hd:kb X.K H O d x)(M:yy d=Wp z)(G:Gen X.K H O z Q):
  ag (ah X.prog X.w) X.A (call (.builtin "sorted") [u] [(bC "key",.builtin "abs")]) (EP X f g Q) X.xe s:=by
 cases d with
 |lst l=>
  obtain⟨⟨hI,hn,hz⟩,rfl⟩:=jm M;obtain⟨p,xs,rfl,q,E⟩:=lh hd;cases ru;obtain⟨j,v,pl,_⟩:=I.list q;have e1:=E.length;have e2:=v.length;obtain⟨ns,S,r⟩:=Zj hI E v;have hl:j.length<=sizeLine:=by rw[ku];omega
  obtain⟨o,ho,hc,n,R⟩:=pl.isList;refine call_function_entry_kw V0 P1 P2 (ksk_s1 _ _) ?_;unfold ba.«sorted»;refine iI (m:=checkCount "sorted" 1 1 _)<|iX ?_;refine iI<|GS p (.inl XV) ho hc R (λh1 k1=>?_) (by rw[kH];omega);rw[List.toList_toArray];refine iI<|DD ?_ hl;have T:(h1.push<|bj "list" j.toArray 0).get? h1.objs.size=Wp (bj "list" j.toArray 0):=kE _ rfl;have L:Inv X f g H {s with heap:=h1}:=I.kept k1;refine iI<|md<|wpAny_call_entry_kw (s:={s with heap:=h1.push (bj "list" j.toArray 0)}) Gc ⟨_,T,rfl⟩ A2 ?body<|ksk_l1 _ _
  case body=>
   show ag _ _ (ba.«list.sort» ⟨[.ref h1.objs.size],[(bC "key",.builtin "abs")]⟩) _ _ _;rw[ksk_t4];refine agf (s:={s with heap:=h1.push (bj "list" j.toArray 0)}) T r (by omega) λh' tk out c k2 k3 ko=>⟨_,rfl,iX ⟨_,rfl,?_⟩⟩
   obtain⟨ps,U,k,Y⟩:=ko;rw[XR S (by omega)<|by omega]at U;obtain⟨a,F,rfl⟩:=nk _ U _ rfl;rw[kG]at k
   have W:∀t∈a,Rep X.K H O t.1 t.2.1/\RelV t.2.1 t.2.2:=λt hm=>by obtain⟨i,hi⟩:=sj<|F.mem_iff.mp hm;obtain⟨B,Z⟩:=E8.mp hi;obtain⟨y,C⟩:=E8.mp Z;obtain⟨w,P,w2⟩:=v.get y;rw[C]at P;cases P;exact⟨E.views B y,w2⟩
   have J:a.map (·.1)=nU IA l:=by
    refine agh ?_ (by rw[rJ]at Y ⊢;exact Y.imp λh=>by simpa using h) hn;have:=F.map (·.1)
    rwa [nP<|by simp;omega]at this
   have hR:∀a:List (D×V×iQ),(∀t∈a,Rep X.K H O t.1 t.2.1/\RelV t.2.1 t.2.2)->YP X.K H O (a.map (·.1)) (a.map (·.2.1))/\Vals (a.map (·.2.1)) (a.map (·.2.2)):=λa=>by
    induction a with
    |nil=>exact λ_=>⟨.nil,.nil⟩
    |cons t a ih=>intro h;obtain⟨i1,i2⟩:=ih λx hx=>h x<|jU _ hx;exact⟨.cons (h t la).1 i1,.cons (h t la).2 i2⟩
   obtain⟨r1,r2⟩:=hR a W;have keep:∀b o,h1.get? b=Wp o->h'.get? b=Wp o:=λb o e=>k2 b o (kx<|kh e)<|jW _ e;have N:a.length=l.length:=by have:=oo c3 J;rw[(lb IA l).length_eq,ke]at this;exact this
   refine⟨.ref h1.objs.size,_,L.laid (t':=tk) keep (jZ _) (show A5 X.prog X.w _ _ _ (.lst (a.map (·.2.1)))from⟨by rw[ke,ku];omega,out.toList,c,?_,?_⟩),rfl,?_⟩
   .rw[k];exact r2
   .rw[Array.toArray_toList];exact k3
   refine G.lst L.fresh ?_;rw[<-J];exact r1
 |_=>cases M
def Ol{a:iR}{i:TA}{p b w v:br}(c:Gl X "sorted")(r:X.mg "sorted"=J)(l:Gl X "abs")(m:X.mg "abs"=J)(n:PA X [a] i)
  (o:aK b (aa [a] X.env)=(U,aX a X.env)::aK b (aa [] X.env))(j:(aK b<|aa [a] X.env).any (·.1)=U):
  PE X (.Call (.Name "sorted" p) [a] [⟨Y "key",.Name "abs" w,v⟩] b) (N0 (Fp X.K<|g1 yy) i):=by
 intro f s g H Q N h;refine tJ<|qy N c r af4<|callWith_kw (B6 (n b f s g H _ N h) λT s1 ⟨E,B,e,y,t⟩=>kws_cons<|qy e l m Xr<|kws_nil ?_) o j I I;obtain⟨O,k,z,np,q,hv,c,G⟩:=t
 match k,c with
 |[d],c=>obtain⟨x,rfl⟩:=JD q I;obtain⟨u,rfl,A⟩:=qm y;exact aev e A np (hv 0 d x I I) c G
def ago{a:iR}{c:FO}{p b n m:br}(k:Gl X "sorted")(l:X.mg "sorted"=J)(e:Gl X "abs")(h:X.mg "abs"=J)(i:PA X [a] (tA X.K [c]))
  (j:aK b (aa [a] X.env)=(U,aX a X.env)::aK b (aa [] X.env))(d:(aK b<|aa [a] X.env).any (·.1)=U):
  PX X (.Call (.Name "sorted" p) [a] [⟨Y "key",.Name "abs" n,m⟩] b) (jl (g1 yy) [c]):=pxn<|Ol k l e h i j d
end
section
variable {X:Cx}{x:ax}{i:Nat}{c a b:br}
end
section
variable {X:Cx}
variable {a:iR}{c:FO}{p b e f g d:br}{x:ax}{i:Nat}
def xSA(T:Tx X.mg)(l:QA X [a] [c])(n:Gl X "sorted":=by rfl)(k:Gl X "abs":=by rfl)(m:aK b (aa [a] X.env)=(U,aX a X.env)::aK b (aa [] X.env):=by rfl)(j:BA X b [a]:=by rfl):
  QX X (.Call (.Name "sorted" p) [a] [⟨Y "key",.Name "abs" e,f⟩] b) (jl (g1 yy) [c]):=⟨ago n (LK T (z:="sorted") I) k (LK T (z:="abs") I) l.h m j⟩
end
section
variable {X:Cx}{a:jF}{b:L2.St}{H:Hp}{s:iL}
end
section
variable {X:Cx}
end
section
variable {a:jh}{w:jc}{A:je}{E:jB}{I:iG}{c b:kP}{n:Nat}{P:Nat->iQ->Prop}{St:Nat->jb->Prop}
end
section
variable {X:Cx}{A:ki}{a:br}{c:kD}{b:List Tg}
end
section
variable {X:Cx}{A:ki}{a b:iR}{g:br}
variable {e j:iR}{f:F}{x z:ax}{p o l m:br}{i k:Nat}{L:LL}{q:Hp}
def xLS{c:pJ}{scope:jI}{t:Cb}{tt:Tg}{u:FT}{n:jQ}{r:br}(T:Tx X.mg)(G:QI X (λi=>i∉n) c.target c.iter t)
  (M:Blk X n [c] scope λY'=>QG Y' (λi=>X0 n<=i) c.target tt/\QF Y' c.ifs u/\QX Y' j f)
  (C:uG X.N X.env.scope scope (cN X.N n [c]) n k=WP:=by kernel_rfl)(Q:decide (cN X.N n [c]).Nodup=WP:=by kernel_rfl)
  (H:X.calm=WP:=by rfl)(E:c.is_async=0:=by rfl)(O:∀x,aG c.iter X.env x=pure x:=by intro _;rfl)(I:Gl X "len":=by rfl)
  (h1:aa [.SetComp j [c] scope g] X.env=(W1,aX (.SetComp j [c] scope g) X.env)::aa [] X.env:=by rfl)(y:(aK r<|aa [] X.env).any (·.1)=W1:=by rfl):
  QX X (.Call (.Name "len" p) [.SetComp j [c] scope g] [] r) (uD n k t tt u<|ET f):=
 ⟨ae8 (EN XV XV C) H E (by intro U h;cases h) O G.h (λw C J v B s=>let⟨a,b,c⟩:=M w C J v B s<|Dy Q;⟨a.h,b.h,λd=>aeS XV c.h⟩) I T.n_len Xq (by decide) (by decide) h1 y⟩
def iE1{B:SB}{d:kD}{y:Nat}{w:br}{c:Int}{n:Nat}(T:Tx X.mg)(s:QX X a f)(t:bn c=C:=by decide)(v:Gl X "enumerate":=by rfl)(s0:SE X a []:=by rfl)
  (u:aK g (aa [a] X.env)=(U,aX a X.env)::aK g (aa [] X.env):=by rfl)(r:(aK g<|aa [a] X.env).any (·.1)=U:=by rfl):
  QI X B (.Tuple d y w) (.Call (.Name "enumerate" p) [a] [⟨Y "start",.Constant (.int c) n l,m⟩] g) (yx c f):=⟨afc v T.n_enumerate s.h t s0 u r⟩
end
section
variable {X:Cx}{a:jF}{b:L2.St}{H:Hp}{s:iL}
end
end PX
namespace TT
open PySem.SeqAt
def C3:gP u3 "dict.update.loop"=Y ba.«dict.update.loop»:=entryFor_of_tree (by kernel_rfl)
def uy:plainId "dict.update.loop"=C:=by decide+kernel
section
variable {prog:jh}{w:jc}{A:je}{R:ms->Shared->Prop}{I:iG}{c a:kP}{G:Array eF->Array eF->Prop}{n:Nat}{P:Nat->iQ->Prop}{St:Nat->Shared->Prop}
def afB(W:WalksS prog w A.in1 I c a G n P St)(S:iG)(B:S∉c)(s0:iL)(j:Nat->jb->Prop)(BC:∀i h f,j i h->(∀o,h.get? S=Wp o->f.get? S=Wp o)->j i f)
  (step:∀i v (d:iL),i<n->P i v->j i d.heap->o9 (S::a) G s0 d->∃p k x,v=.ref p/\d.heap.IsTuple p #[k,x]/\∀(Q:Unit->Shared->Prop)(E:jB),(∀f z,d.toks<=z->aE S d.heap f->j (i+1) f->Q () {d with heap:=f,toks:=z})->ag (ah prog w) A.in1 (NL S k x) Q E d):
  ∀(k i:Nat)(s:iL),n-i=k->i<=n->St i s->j i s.heap->o9 (S::a) G s0 s->(∀d,o9 (S::a) G s0 d->j n d.heap->R (.ok<|.ret .none) d)->
   ca (ah prog w) A (.builtin "dict.update.loop" ⟨[.ref S,.ref I,ce i,.none],[]⟩) R s:=by
 have H:S∉a:=λh=>B<|W.sub _ h;have O:∀b∈a,b∈S::a:=λb l=>jU _ l;intro k
 induction k with
 |zero=>
  intro i s hk X y u q t;have Y:i=n:=by lia
  subst Y;refine qL C3 ?_;rw[uV uy _];show ag _ A.in1 (cp (.ref I)>>=_) _ _ s;refine iI<|W.done s _ _ y λd m=>?_;show ag _ A.in1 (z9 S []>>=λ_=>ret au) _ _ d;exact iI<|iX<|iX<|t d (Du W.gtrans q<|m.mono O)<|BC _ _ _ u λo e=>m.heap S o H e
 |succ k ih=>
  intro i s hk X y u q t;have r:i<n:=by lia
  refine qL C3 ?_;rw[uV uy _];show ag _ A.in1 (cp (.ref I)>>=_) _ _ s;refine iI<|W.item i s _ _ r y λv d D N m=>?_;have C:=Du W.gtrans q<|m.mono O;obtain⟨p,T,x,rfl,Z,g⟩:=step i v d r D (BC _ _ _ u λo e=>m.heap S o H e) C;show ag _ A.in1 (b5 [.ref p] _>>=_) _ _ d;refine iI<|md ?_;obtain⟨o,L,V,n',U⟩:=Z;have F:d.TypeIs (.ref p) "tuple":=⟨o,L,V⟩
  refine iI<|CK ?_;unfold z7;refine iI<|wj F ?_;show ag _ _ (seqItems? (.ref p)>>=_) _ _ _;refine iI<|rN L U ?_;refine iX ?_;show ag _ _ (b5 [T,x]<|NL S T x) _ _ _;refine md<|g _ _ λf z M J K=>?_;refine iX ⟨tu uy _,ih (i+1) _ (by lia) r (W.frame _ d _ _ N M λb l o e=>?_) K (C.then_heap M λb o l e=>?_) t⟩
  .rw[J.2 b λh:b=S=>B<|by rw[<-h];exact l];exact e
  rw[J.2 b λh:b=S=>l<|by rw[h];exact la];exact e
end
end TT
namespace PX
open L2 PySem.SeqAt TS
section
variable {prog:jh}{w:jc}{A:je}{E:jB}{s:iL}
def Sz:gL (.type "list") "keys"=pure J:=by rw[GJ,GI];kernel_rfl
def Wx{a:iG}{o:eZ}{q:nB}{k:Nat}{Q:Ci}(n:s.heap.get? a=Y o)(m:o.cls=.type "list")(f:o.data=.seq q k)(hd:o.dict=J)(t:A.handled=J)
  (h:∀b p e,Heap.NewExcOf s.heap b e "AttributeError"->Q J {s with heap:=b,toks:=p}):ag (ah prog w) A (Fa (.ref a) "keys") Q E s:=by
 obtain⟨c,dct,r,v⟩:=o;simp only at m f hd;subst m f hd;obtain⟨u,g,d,p,os⟩:=s;have l:∀j,(⟨u,g,d,j,os⟩:Shared).TypeIs (.ref a) "list":=λ_=>⟨_,n,rfl⟩
 have f1:=sub_AttributeError;have x:=Q4.lookup;have y:=Q4.bind<|.ref a;have z:=am_list_getattr_none;unfold Fa getAttrBy? getAttrBy
 repeat (any_goals (first|assumption|exact l _|((with_reducible show ag _ _ (call (cb "list.__getattribute__") _ _) _ _ _);refine yd Q4 (l _) am_entry_list_getattribute (F.args_list_getattribute_2 _ _) (meets_getattribute_miss_list a q k v "keys" _ Sz (by decide+kernel)) ⟨n,t,λb j e i=>?_⟩)|wp_step))
 obtain⟨T,O,B⟩:=i.there;show ag _ _ (tf _ _ _ _ _ _ _) _ _ _;unfold tf
 repeat (any_goals (first|assumption|wp_step))
 exact h _ _ _ i.of
end
end PX
namespace TT
open PySem.SeqAt
section
variable {prog:jh}{w:jc}{A:je}{E:jB}{s:iL}
noncomputable abbrev Io:Obj:={cls:=.type "dict",data:=.dict #[]}
def UP{l:iG}{items:nB}{n:Nat}{m:eZ}{Q:jB}(O:A.handled=WF)(T:s.heap.get? l=Wp m)(t:m.cls=.type "list")(z:m.data=.seq items n)(gz:m.dict=WF)(g:Nat->jb->Prop)
  (BC:∀i h c,g i h->(∀o,h.get? s.heap.objs.size=Wp o->c.get? s.heap.objs.size=Wp o)->g i c)
  (oZ:∀c,c.get? s.heap.objs.size=Wp Io->g 0 c)
  (step:∀i v (a:iL) (B:je),B.units<=A.units+20->items[i]?=Wp v->g i a.heap->(∀b o,s.heap.get? b=Wp o->a.heap.get? b=Wp o)->a.gens=s.gens->a.drawn=s.drawn->a.os=s.os->
   ∃p k x,v=.ref p/\a.heap.IsTuple p #[k,x]/\∀(Q:Unit->Shared->Prop)(E:jB),(∀c q,a.toks<=q->aE s.heap.objs.size a.heap c->g (i+1) c->Q () {a with heap:=c,toks:=q})->ag (ah prog w) B (NL s.heap.objs.size k x) Q E a)
  (h:∀(c:jb)(q:Nat),g items.size c->(∀b o,s.heap.get? b=Wp o->c.get? b=Wp o)->Q (.ref s.heap.objs.size) {s with heap:=c,toks:=q}):
  ag (ah prog w) A (call (.type "dict") [.ref l]) Q E s:=by
 refine F0 (Q₁:=λobj f=>obj=.ref s.heap.objs.size/\f={s with heap:=s.heap.push Io}) F.kt_called_dict (F.kt_typeCall_dict_1 _) F.entry_dict_init (kt_code_dict_new _ ⟨rfl,rfl⟩) ?_;rintro obj f ⟨rfl,rfl⟩;have H:(s.heap.push Io).get? s.heap.objs.size=Wp Io:=kE _ rfl;have L:dH {s with heap:=s.heap.push Io} (.ref s.heap.objs.size) "dict":=⟨_,H,rfl⟩
 have r:(s.heap.push Io).get? l=Wp m:=jW _ T;have y:dH {s with heap:=s.heap.push Io} (.ref l) "list":=⟨_,r,t⟩
 refine⟨L,F.args_dict_init_2 _ _,?_⟩;unfold ba.«dict.__init__»;refine iI ?_;unfold z0;refine iI<|Mt L ?_;show ag _ _ (pure (s.heap.objs.size,[bR l])) _ _ _;refine iX ?_;show ag _ _ (fN "dict.__init__" s.heap.objs.size (.ref l) [] .none) _ _ _;unfold fN;refine iI<|wj y ?_;rw[iZ<|by decide];refine iI<|PX.Wx r t z gz (by simp[O]) λh1 eK e1 u=>?_;have j:h1.IsList l items:=⟨_,u.keeps _ _ r,t,n,z⟩
 have C:=u.keeps _ _ H;have gB:l<s.heap.objs.size:=kh T;have I:s.heap.objs.size<h1.objs.size:=kh C;have M:l≠h1.objs.size:=by lia
 have N:s.heap.objs.size∉[h1.objs.size,l]:=by simp;lia
 have R:A.in1.in1.handled=WF:=by simp[O]
 have W:=DP (prog:=prog) (w:=w) R h1.objs.size l M items;show ag _ _ (rule _>>=λ_=>c7 (.ref l)>>=λit=>again<|.builtin "dict.update.loop" ⟨[.ref s.heap.objs.size,it,ce 0,.none],[]⟩) _ _ _;refine iI<|sQ ?_;refine iI<|yh j ?_;refine iX ⟨tu uy _,?_⟩
 have ext:∀{G:Array eF->Array eF->Prop}{s0 a:iL},(∀b o,h1.get? b=Wp o->s0.heap.get? b=Wp o)->o9 (s.heap.objs.size::[h1.objs.size]) G s0 a->∀b o,s.heap.get? b=Wp o->a.heap.get? b=Wp o:=λ{G s0 a} V d b o e=>by have hb:=kh e;exact d.heap b o (by simp;lia)<|V _ _ (u.keeps _ _ (jW _ e))
 refine afB W.toS s.heap.objs.size N _ g BC ?st (items.size-0) 0 _ (by lia) (mq _) ⟨⟨_,kE _ rfl,rfl,rfl⟩,j.push _⟩ (oZ _ (jW _ C)) (wr λ_=>rfl) ?hR
 case st=>exact λi v a hi X Z d=>step i v a _ (by show A.units+1+1<=A.units+20;lia) X Z (ext (λ_ _ e=>jW _ e) d) d.gens d.drawn d.os
 case hR=>intro a d w6;have ex:=ext (λ_ _ e=>jW _ e) d;obtain⟨c,S,Y,J,U⟩:=a;have K:S=s.gens:=d.gens;have D:Y=s.drawn:=d.drawn;have P:U=s.os:=d.os;subst K;subst D;subst P;exact⟨rfl,h c J w6 ex⟩
end
end TT
namespace PX
open L2 PySem.SeqAt
def kyT:D->Option (List Key)
 |.tup [k,.bl C]=>ze k
 |_=>J
def Ll:List D->Option (List<|List Key)
 |[]=>Y []
 |d::l=>(kyT d).bind λk=>(Ll l).map (k:: ·)
def yA:D->Option (D×Bool)
 |.lst l=>(Ll l).bind λa=>if (X0 a)<=1000/\a.Nodup then Y (.AF .dct (a.map λk=>.tup (k.map lM))<|a.map λ_=>.bl C,C)else J
 |_=>J
noncomputable abbrev NI(a:List (List Key)):List (List Key×V):=a.map λk=>(k,V.bl C)
def SV:∀{l:List D}{a:List (List Key)},Ll l=Y a->X0 l=X0 a/\∀(i:Nat) k,a[i]?=Y k->∃d,ze d=Y k/\l[i]?=Y (.tup [d,.bl C]):=by
 intro j
 induction j with
 |nil=>intro a h;cases h;exact⟨rfl,λi p h=>by simp at h⟩
 |cons d l g=>
  intro a h;obtain⟨p,h1,h⟩:=iM h;obtain⟨m,f,rfl⟩:=jw h;obtain⟨c,e⟩:=g f;refine⟨by simp[c],λi q b=>?_⟩
  cases i with
  |zero=>
   simp at b;subst b;unfold kyT at h1;split at h1
   .exact⟨_,h1,rfl⟩
   cases h1
  |succ i=>simpa using e i q (by simpa using b)
def ZS{P:jh}{w:jc}{T:Hp}{h:jb}(ok:EV P w T h):∀{l:List (List Key×V)}{m:List (List Key×iG×iQ)},L2.KT T l m->∀x∈m,(cA<|lq P w).is h x.1 x.2.1:=by
 intro l m q
 induction q with
 |nil=>intro x a;exact nomatch a
 | @cons p q d f b t c=>
  intro x a;rcases nS.mp a with e|a
  .subst e;exact rT ok (by rw[<-b.1];exact b.2.1)
  exact c x a
def JS{T:Hp}{l:List (List Key×V)}{m:List (List Key×iG×iQ)}(q:L2.KT T l m):m.map (·.1)=l.map (·.1):=by
 induction q with
 |nil=>rfl
 |cons a t b=>rw[kc,kc,b,a.1]
def SW{T:Hp}{l:List (List Key×V)}{m:List (List Key×iG×iQ)}{p q}(h:L2.KT T l m)(a:p.1=q.1/\T q.2.1=Y (.tup<|p.1.map kV)/\RelV p.2 q.2.2):L2.KT T (l++[p]) (m++[q]):=by
 induction h with
 |nil=>exact .cons a .nil
 |cons h t b=>exact .cons h b
def SY{T b:Hp}{l:List (List Key×V)}{m:List (List Key×iG×iQ)}(c:∀a u,T a=Y u->b a=Y u)(h:L2.KT T l m):L2.KT b l m:=by
 induction h with
 |nil=>exact .nil
 |cons h t d=>exact .cons ⟨h.1,c _ _ h.2.1,h.2.2⟩ d
def VD{K:ji}{T:Hp}{O:AA}:∀a:List (List Key),YP K T O (a.map λ_=>.bl C) ((NI a).map (·.2)):=by
 intro c
 induction c with
 |nil=>exact YP.nil
 |cons _ a b=>exact YP.cons Rep.Ht<|b
def DIs(P:jh)(w:jc)(T:Hp)(S:iG)(c:List (List Key))(h:jb):Prop:= ∃m:List (List Key×iG×iQ),L2.KT T (NI c) m/\∃o a b,h.get? S=Y o/\o.ExactDict/\o.data=.dict a b/\a.toList=m.map (entryOfKey<|cA<|lq P w)/\(m.map (·.1)).Nodup
section
variable {X:Cx}
def aeQ(hu:X.A.units+62<aV)(hc:X.calm=WP):kI X (.type "dict") (Fp X.K<|g1 yA):=oR λE s σ H x u Q O d z I ru np hd L G=>by
 cases d with
 |lst l=>
  obtain⟨f,F,L⟩:=iM L;obtain⟨⟨hz,fA⟩,rfl⟩:=jm L;obtain⟨p,xs,rfl,q,r⟩:=lh hd;cases ru;obtain⟨n,v,⟨ol,nn,dh,eh,gz,fF⟩,_⟩:=I.list q;obtain⟨e0,y⟩:=SV F;have e1:=r.length;have e2:=v.length;have hh:X.A.handled=WF:=I.ok.hd hc;have R:=I.fresh
  refine TT.UP hh dh eh fF gz (λi h=>DIs X.prog X.w H s.heap.objs.size (f.take i) h)
   (λi h h' ⟨m,k,o,N,M,e,c⟩ st=>⟨m,k,o,N,M,st _ e,c⟩) (λh' e=>⟨[],.nil,_,#[],0,e,⟨rfl,rfl,rfl⟩,rfl,rfl,mZ⟩) (λi w s' B hB hi ⟨m,hk,hd⟩ T eg ed eo=>?_) (λh' tk ⟨m,hk,hd⟩ T=>?_)
  .have hil:i<n.length:=by have:=(Mh.mp hi).1;simpa using this
   have hw:n[i]?=Wp w:=by simpa using hi
   have C:f[i]?=Wp f[i]:=jT (by lia);have W:xs[i]?=Wp xs[i]:=jT (by lia);obtain⟨w',w1,w2⟩:=v.get W;rw[hw]at w1;cases w1;obtain⟨dk,Y,gA⟩:=y i _ C;have cE:Rep X.K H O (.tup [dk,.bl WP]) xs[i]:=r.views gA W;obtain⟨h1,g1,dr1,eK,os1⟩:=s';dsimp only at T eg ed eo hd;subst eg;subst ed;subst eo;have J:Inv X E σ H {s with heap:=h1,toks:=eK}:=I.kept T;obtain⟨a,ys,ea,sq,g⟩:=lV<|.inl cE;rw[ea]at w2;cases w2;obtain⟨b8,v2,de,_⟩:=J.tuple sq;rw[YP]at g;obtain⟨y1,r1,rfl,p1,g⟩:=g;rw[YP]at g;obtain⟨y2,r2,rfl,p2,g⟩:=g;rw[YP]at g;subst g;obtain⟨b,rfl,hb⟩:=pE Y<|.inl p1;rw[Rep]at p2;subst p2;obtain⟨u1,u2,rfl,S,V⟩:=wx v2;cases S;refine⟨a,_,_,rfl,de,λQ' E' hq=>?_⟩;obtain⟨o,N,M,g1,g2,g3,g4,g5⟩:=hd
   have hm:f[i]∉m.map (·.1):=by rw[JS hk];intro Z;rw[kG]at Z;obtain⟨x,hx,e⟩:=jd Z;obtain⟨j,D,e3⟩:=DH hx;rw[uX]at D;rw[List.getElem_take]at e3;have h9:=QZ.mp fA j i (by lia) (by lia) (by lia);exact h9<|e3.trans e
   have gY:gC m f[i]=WF:=atKey_none_of_get λj p' D=>hm<|wa.mpr ⟨_,nL D,rfl⟩
   have hml:m.length<=1000:=by have:=oo c3<|JS hk;simp at this;lia
   refine wpAny_dictSet_heap (knd:=cA<|lq X.prog X.w) (k:=f[i]) (show(cA<|lq X.prog X.w).room B from(by show B.units<aV;lia)) (rT J.hok hb) (xs:=m) ⟨o,N,M,g1,g2,g3,g4,ZS J.hok hk,g5⟩ (λh2 t t6=>hq h2 _ (Nat.le_add_right _ _) t6 ?_) (by rw[ku];lia);rw[storedH_new gY]at t;obtain⟨o',U,eE,k1,k2,k3,k4,_,k5⟩:=t;refine⟨_,?_,o',U,eE,k1,k2,k3,k4,k5⟩;rw[DF,C];show L2.KT H (cV _ (f.take i++[f[i]])) _;rw[nQ];exact SW hk ⟨rfl,hb,V⟩
  have P:n.toArray.size=f.length:=by simp;lia
  rw[P,nF]at hk;refine⟨.ref s.heap.objs.size,upd H s.heap.objs.size<|.dT<|NI f,I.laid T (jZ _) ⟨?_,?_,m,SY (λa u e=>by rw[jx<|lD e R];exact e) hk,hd⟩,rfl,?_⟩
  .rw[ke,ku];lia
  .have:=I.big;simp
   lia
  refine G s.heap.objs.size _ R (lO R) ⟨(NI f).map (·.2),.inr ⟨NI f,jv,?_,rfl⟩,?_⟩
  .rw[kG];rfl
  exact VD _
 |_=>cases L
variable {a:iR}{g:FO}{p f:br}
def aa5(k:X.A.units+62<aV)(j:X.mg "dict"=J)(c:QA X [a] [g])(d:X.calm=C:=by rfl)(i:Gl X "dict":=by rfl)(e:SE X a []:=by rfl)(b:BA X f []:=by rfl):QX X (.Call (.Name "dict" p) [a] [] f) (jl (g1 yA) [g]):=
 ⟨Jl (aeQ k d) i j (by decide+kernel) c.h (by decide) (by decide) e b⟩
end
end PX
namespace L2
open PySem.W
structure Li(P:jh)(w:jc)(outer:List dI)(H:Hp)(s:iL)(C:iG)(H':Hp)(ea:iG)(s':iL)(h0 B:jb)(F:kP):Prop where
 os:s'.os=s.os
 bare:ef s'.gens
 un:Un (Eg outer) [] H H' s.heap h0
 hok:EV P w H' h0
 fr:∀b∈F,H' b=WF/\(b∈Eg outer\/s.heap.objs.size<=b)
 st:∀b o,h0.get? b=Wp o->b∉F->B.get? b=Wp o
 fl:∃a0,Heap.FlyingW B outer ea (.ref C) a0 s'.heap
 up:h0.UpToSlots s'.heap
 ne:h0.get? ea=WF
inductive Hx(P:jh)(w:jc)(outer:List dI)(H:Hp)(s:iL)(E:XK)(e:iQ)(s':iL):Prop where
 |mk (C:iG) (H':Hp) (ea:iG) (h0 B:jb) (F:kP) (_:e=.ref ea) (_:Li P w outer H s C H' ea s' h0 B F) (_:E (.ref C) WF H')
section
variable {P:jh}{w:jc}{c:List dI}{H h:Hp}{s s':iL}{C i:iG}{g B d:jb}{F:kP}
def Li.end(f:Li P w c H s C h i s' g B F)(t:∀b∈Eg c,∃o,s.heap.get? b=Y o/\(∀O,o.data≠ .fields O)/\H b=J)(E:B.StaysIn d)(v:g.UpToSlots d):Un (Eg c) [] H h s.heap d/\EV P w h d:=by
 have keep:∀b o,g.get? b=Y o->b∉F->d.get? b=Y o:=λb o e n=>E b o<|f.st b o e n
 have x:∀b o,s.heap.get? b=Y o->b∉Eg c->b∉F:=λb o e n z=>by
  rcases(f.fr b z).2 with q|q
  .exact n q
  exact absurd (kh e) (M6.mpr q)
 refine⟨⟨λb o e n j k=>keep b o (f.un.keep b o e n j k)<|x b o e j,λb o e n j k=>?_,f.un.free,λb o e k=>?_,f.un.tups,f.un.frzs,f.un.tbls⟩,λa o e=>?_⟩
 .obtain⟨T,m,r,_⟩:=t b j;rw[e]at m;cases m;obtain⟨L,l⟩:=f.un.slot b o e n j k;obtain⟨A,p⟩:=v b _ l r;exact⟨A,p⟩
 .by_cases j:b∈Eg c
  .obtain⟨T,m,r,n⟩:=t b j;rw[e]at m;cases m;obtain⟨L,l⟩:=f.un.slot b o e n j k;obtain⟨A,p⟩:=v b _ l r;exact⟨_,p⟩
  obtain⟨y,l⟩:=f.un.there b o e k;exact⟨y,keep b y l<|x b o e j⟩
 refine(f.hok a o e).BC (λb u j q=>keep b u q λz=>?_) (λ_ q=>q) λ_ _ q=>q;have:=(f.fr b z).1;rcases j with rfl|j
 .rw[e]at this;cases this
 rw[j]at this;cases this
end
section
variable {X:Cx}{g:jF}{k:St}{H:Hp}{s s':iL}{C j:iG}
def Inv.NS(T:Inv X g k H s):∀b∈Eg X.stack,∃o,s.heap.get? b=Y o/\(∀d,o.data≠ .fields d)/\H b=J:=λb a=>by obtain⟨_,o,c,hd⟩:=T.stack.mem a;exact⟨o,c,hd,T.Fm b a⟩
def FV(X:Cx)(P:jh)(w:jc)(d:List dI)(i:Hp)(s0:iL)(E:XK):Prop:=X.prog=P/\X.w=w/\X.stack=X.env::d/\X.outer=d/\X.H₀=i/\X.s₀=s0/\X.ex=[]/\X.env.frame=Y X.env.locals/\
 ∀e s',ag (ah P w) X.A (NE X.env e) (λ_ a=>Hx P w d i s0 E e a) (λb a=>Hx P w d i s0 E b a) s'->X.xe e s'
def afe{P:jh}{w:jc}{K:ji}{a:lI}{base:jb}{N:jr}{qual:ax}{scope:jI}{f:iG}{cd:iQ}{A:je}{d:List dI}{s:iL}{H:Hp}{E:XK}:
  FV (sd (Hx P w) P w K a base N qual scope f cd A d s H E) P w d H s E:=⟨rfl,rfl,rfl,rfl,rfl,rfl,rfl,rfl,λ_ _ h=>h⟩
variable {P:jh}{w:jc}{d:List dI}{i:Hp}{s0:iL}{E:XK}
def afh{r:Hp}{u:jb}{L:iG}(a:Un (Eg d) [] i H s0.heap s.heap)(b:Un (L::Eg d) [] H r s.heap u)(A:s0.heap.objs.size<=L):Un (Eg d) [] i r s0.heap u where
 keep:=λc o q n h e=>b.keep c o (a.keep c o q n h e) (a.free c o q n e) (λz=>(nS.mp z).elim (λz=>by subst z;exact absurd (kh q)<|M6.mpr A) h) e
 slot:=λc o q n h e=>by obtain⟨Q,f⟩:=a.slot c o q n h e;obtain⟨y,m⟩:=b.slot c _ f (a.free c o q n e) (jU _ h) e;exact⟨y,m⟩
 free:=λc o q n e=>by obtain⟨p,f⟩:=a.there c o q e;exact b.free c p f (a.free c o q n e) e
 there:=λc o q e=>by obtain⟨p,f⟩:=a.there c o q e;exact b.there c p f e
 tups:=λc l q=>b.tups c l<|a.tups c l q
 frzs:=λc o l q=>b.frzs c o l<|a.frzs c o l q
 tbls:=λc O q=>by obtain⟨B,f⟩:=a.tbls c O q;obtain⟨T,m⟩:=b.tbls c _ f;exact⟨B++T,by rw[m,Hn]⟩
def Be{a:dI}{L:iG}(h:a.frame=Y L):Eg (a::d)=L::Eg d:=by unfold Eg;rw[sV,h]
def FV.made(x:FV X P w d i s0 E)(T:Inv X g k H s){r:jb}{f:jP}(p:Heap.MadeExcOf s.heap r j (.ref C) f)(q:E (.ref C) J H):X.xe (.ref j) {s with heap:=r}:=by
 obtain⟨rfl,rfl,c,B,rfl,rfl,hex,u,v⟩:=x;refine v _ _ (wpAny_leaves_madeW (base:=hideAll s.heap<|Eg X.stack) (h:=s.heap) (L:=X.env.locals) (T.ok.frames.trans<|by rw[c]) u (λb o e=>of_hideAll _ e) ?_ p λO t y _ _ up=>?_)
 .rw[<-c];exact funFrames_hide T.stack λm A a z=>M4.mpr ⟨m,A,z⟩
 refine⟨C,H,j,s.heap,_,Eg X.stack,rfl,⟨T.os,T.bare,?_,T.hok,λb l=>⟨T.Fm b l,?_⟩,λb o e n=>hideAll_get _ e n,⟨_,y⟩,(Heap.UpToSlots.of_keeps p.keeps).trans up,p.new⟩,q⟩
 .have:=T.base;unfold Cx.fs at this
  rwa [B,hex]at this
 rw[c,Be u]at l;rcases nS.mp l with rfl|l
 .exact .inr T.ok.above
 exact .inl l
def FV.pass(x:FV X P w d i s0 E):E6 (Hx P w) X E:=λg k H s e s' T h=>by
 obtain⟨rfl,rfl,c,v,rfl,rfl,hex,l,r⟩:=x;obtain⟨C,o,j,u,B,F,rfl,f,q⟩:=h;obtain⟨p,m⟩:=f.fl;rw[c]at m;refine r _ _ (wpAny_leaves_onW (L:=X.env.locals) (T.ok.frames.trans<|by rw[c]) l m λy t up=>?_);refine⟨C,o,j,u,B,F,rfl,⟨f.os.trans T.os,f.bare,?_,f.hok,λb n=>⟨(f.fr b n).1,?_⟩,f.st,⟨p,t⟩,f.up.trans up,f.ne⟩,q⟩
 .have a:=T.base;unfold Cx.fs at a;rw[v,hex]at a;have b:=f.un;rw[c,Be l]at b;exact afh a b T.ok.above
 rcases(f.fr b n).2 with z|z
 .rw[c,Be l]at z;rcases nS.mp z with rfl|z
  .exact .inr T.ok.above
  exact .inl z
 exact .inr (lN T.sz z)
end
abbrev Nv:List Value:=[.type "ValueError",.type "Exception",.type "BaseException",.type "object"]
def TM{K:Frag}{h:jb}{T:iG}{b:jP}{e:String}(c:K.In h)(q:excIn K T b e=C):
  ∃a N nm g bs hd sn sub ab col dd k0 k1 k2 k3 k5 j,h.get? T=Y (excClassObj nm g T N bs a hd sn sub ab col dd k0 k1 k2 k3 k5 e)/\h.Ns N j/\j "__init__"=J/\OwnTail h b a:=by
 unfold excIn at q;split at q
 case h_2=>cases q
 rename_i dd cd i lk;split at q
 case h_2=>cases q
 rename_i y a k0 k1 k2 k3 n k5 p r;rw[ma,ma,ma,ma,ma]at q;obtain⟨⟨⟨⟨⟨t,u⟩,v⟩,w⟩,k⟩,x⟩:=q;cases Gx.mp t;cases Gx.mp u;obtain⟨nm,bs,f,s,g,hd,sn,sub,ab,col,d⟩:=cd;have l:f=.ref T::a:=p;have m:d=U:=by simpa using v
 obtain⟨i⟩:=i;have o:i=[k0,k1,k2,k3,Y<|.builtin e,k5]:=r;subst l m o;exact⟨a,s,nm,g,bs,hd,sn,sub,ab,col,dd,k0,k1,k2,k3,k5,_,c _ _ lk,.of_isNs<|isNs_of_in c k,nsMap_none_of_in c k<|Gx.mp x,tail_of_in c w⟩
section
variable {X:Cx}{P:jh}{w:jc}{b:List dI}{g:Hp}{s0:iL}{E:XK}{x:ax}{C:iG}{a:iR}{d:TE}{np f c:br}
def agc(T:FV X P w b g s0 E)(z:X.calm=WP)(t:excIn X.K C Nv "ValueError.__new__"=WP)(B:X.mg x=Y (.ref C))(A:Gl X x)(y:PE X a d)(hd:(x==("__debug__":ax))=U)
  (n:aa [a] X.env=[(U,aX a X.env)]):PS X (.Raise (Y<|.Call (.Name x np) [a] [] f) WF c) (λD k H'=>d k H' λ_ l=>E (.ref C) WF l):=by
 intro i s k H' D I h;obtain⟨G,N,nm,Q,bs,o,sn,sub,ab,col,dd,k0,k1,k2,k3,k5,M,h1,p,r,m⟩:=TM I.ok.mod.kin t;have L:(aK f<|aa [a] X.env).any (·.1)=U:=by rw[n];rfl
 refine wpAny_Raise_call_subT (nm:=nm) (q:=Q) (N:=N) (bs:=bs) (hdct:=o) (sn:=sn) (sub:=sub) (ab:=ab) (col:=col) (dd:=dd) (k0:=k0) (k1:=k1) (k2:=k2) (k3:=k3) (k5:=k5) PySem.F.excBase_ValueError (m.hasType<|by decide) (I.ok.hd z) L r<|wM I A B ⟨rfl,?_⟩ hd;rw[n];refine MU<|Hj (B6 (y i s k H' _ I h) λu s1 a'=>by obtain⟨v,l,j,U',O⟩:=a';exact Hk ⟨rfl,(show 1<=sizeLine by decide),j.bk _ _ h1,p.keeps j.bk,m.keeps j.bk,λJ e mk=>T.made j mk O⟩)
end
def yv(q:ax):HO:=.tbl #[.str q 0]
structure LU(TB:List (iG×ax))(H:Hp):Prop where
 one:∀b,H b=WF\/(∃o xs,H b=Wp (.BZ o<|.lst xs))\/∃q,(b,q)∈TB/\H b=Wp (yv q)
 all:∀p∈TB,H p.1=Wp (yv p.2)
def afT{P:jh}{w:jc}{K:ji}{C mb:lI}{CX:Iu}{k:Nat}{fa a:iG}{fd:mG}{x:ax}{sp:Sp}{c:iL}{O:jP}{Q:iO}{TB:List (iG×ax)}
  (KX:K.In c.heap)(aq:c.heap.Ns aj C)(g:c.heap.Ns gS mb)(hbb:∀x:ax,x≠"__name__"->mb x=aB x)(Y:c.heap.NoLimit)(hg:c.gens= #[])
  (M:∀p∈TB,c.heap.get? p.1=Wp (tabObj #[]))(fL:∀p∈TB,K.lookup p.1=WF)(fK:∀p∈TB,isCodeTable c.heap p.1)(eC:(TB.map (·.1)).Nodup)(U:∀p∈TB,c.heap.BuiltinsAt C p.1)
  (N:c.heap.get? a=Wp {cls:=.type "list",data:=.seq O.toArray})(hi:d7 O Q)(hl:Q.length<=sizeLine)(hr:B7 k f6)
  (F:∀base:jb,K.In base->base.Ns aj C->(∀p∈TB,base.BuiltinsAt C p.1)->Bn P w K C base CX k fa fd [x] sp)(k9:∀(s:iL)(u:iQ),gc s fd ⟨[u],[]⟩ [(x,u)])
  (cB:∀H8:Hp,LU TB H8->Ej K H8 a (Q.map V.int)->sp [.ref a] H8 (λv H'=>v=.bl WP/\∀p∈TB,H' p.1=Wp (yv p.2)) λ_ _ _=>False)
  (hCX:∀H8 e j,CX [] H8 c (λ_ _ _=>False) e j->False):
  ca (ah P w) f6 (.call (.ref fa) ⟨[.ref a],[]⟩) (λr j=>r=.ok (.ret<|.bool WP)/\OldK c.heap j.heap/\j.os=c.os/\ef j.gens) c:=by
 have rv:=afg hi;have R:=hi.length
 have Z:∀p∈TB,p.1≠a:=λp f e=>by have:=M p f;rw[e,N]at this;cases this
 have t:∀H8:Hp,LU TB H8->Ej K H8 a (Q.map V.int)->EV P w H8 c.heap->(∀b,H8 b≠WF->b=a\/∃p∈TB,b=p.1)->(H8 a≠WF->K.lookup a=WF)->
   ca (ah P w) f6 (.call (.ref fa) ⟨[.ref a],[]⟩) (λr j=>r=.ok (.ret<|.bool WP)/\OldK c.heap j.heap/\j.os=c.os/\ef j.gens) c:=by
  intro H8 hO hS D hA hK;have n8:∀{b:iG}{o:eZ},c.heap.get? b=Wp o->H8 b=WF->(BW c.heap H8).get? b=Wp o:=λe n=>PH e n
  have bf:∀{b:iG}{o:eZ},c.heap.get? b=Wp o->(∀its n,o.data≠ .seq its n)->(∀I,o.data≠ .fields I)->H8 b=WF:=λ{b o} e d d2=>by
   cases q:H8 b with
   |none=>rfl
   |some u=>
    rcases hA b (by rw[q];simp)with rfl|⟨p,f,rfl⟩
    .rw[N]at e;cases e;exact absurd XV<|d _ _
    rw[M p f]at e;cases e;exact absurd XV<|d2 _
  have X:∀{b:iG}{m:lI},c.heap.Ns b m->(BW c.heap H8).Ns b m:=λ{b m} ⟨o,es,ep,e,d,r⟩=>⟨o,es,ep,n8 e (bf e (λ_ _ z=>by rw[d]at z;cases z) λ_ z=>by rw[d]at z;cases z),d,r⟩
  have J:K.In (BW c.heap H8):=λb o e=>n8 (KX b o e) (by
   cases q:H8 b with
   |none=>rfl
   |some u=>
    rcases hA b (by rw[q];simp)with rfl|⟨p,f,rfl⟩
    .rw[hK<|by rw[q];simp]at e;cases e
    rw[fL p f]at e;cases e)
  have hBA:∀p∈TB,(BW c.heap H8).BuiltinsAt C p.1:=λp f=>by obtain⟨bm,o,h1,h2,h3,h4,h5,h6,h7,h8⟩:=U p f;exact⟨bm,o,h1,h2,h3,h4,n8 h5 (bf h5 (λ_ _ z=>by rw[h8]at z;cases z) λ_ z=>by rw[h8]at z;cases z),h6,h7,h8⟩
  have hM:Mod K C (BW c.heap H8):=⟨J,X aq,⟨mb,X g,hbb⟩,let⟨mc,h1,h2⟩:=Y;⟨mc,X h1,h2⟩⟩
  have e0:Ir P w K C (BW c.heap H8) f6 [] c H8:=⟨rfl,hM,λb o e=>Sy e,wT<|afs _ _,trivial,λb g=>absurd (show b∈([]:List iG)from g)<|by simp,D,.of_eq hg⟩
  refine sy ((F _ J (X aq) hBA).run f6 [] c H8 ⟨[.ref a],[]⟩ [.ref a] [.ref a] _ _ hr e0 (k9 c<|.ref a) (.cons XV .nil) (cB H8 hO hS)) λr j h=>?_
  cases r with
  |error e=>exact(hCX H8 e j h).elim
  |ok fl=>
   cases fl with
   |next=>exact aW h
   |brk=>exact aW h
   |cont=>exact aW h
   |ret u=>
    obtain⟨v,H',os,T,un,B,r',q,L⟩:=h;subst q;obtain rfl:u=cF WP:=r'
    have W:∀p∈TB,∃I,j.heap.get? p.1=Wp (tabObj I):=λp f=>by
     obtain⟨_,_,I,_,e,_⟩:=(show A5 P w H' j.heap p.1 (.tbl #[.str p.2 0])from B _ _ (L p f))
     exact⟨I,e⟩
    have keep:∀b o,c.heap.get? b=Wp o->(∀p∈TB,b≠p.1)->j.heap.get? b=Wp o:=λb o e n=>by
     cases q:H8 b with
     |none=>exact un.keep b o e q (by intro z;exact absurd (show b∈([]:List iG)from z)<|by simp) (by simp)
     |some u=>
      rcases hO.one b with z|⟨ob,xs,z⟩|⟨qq,hm,z⟩
      .rw[q]at z;cases z
      .have z2:=un.frzs b ob _ z;obtain⟨e1,_⟩:=D b _ z;obtain⟨G,_⟩:=B b _ z2;rw[e]at e1;cases e1;exact G
      exact absurd XV (n _ hm)
    refine⟨rfl,⟨λb o e=>?_,λb o e=>?_⟩,os,T⟩
    .by_cases g:∃p∈TB,b=p.1
     .obtain⟨p,f,rfl⟩:=g;obtain⟨I,G⟩:=W p f;rw[M p f]at e;cases e;refine .inr<|.inl ⟨fK p f,rfl,#[],I,rfl,?_⟩;rw[G];simp
     exact .inl (keep b o e λp f z=>g ⟨p,f,z⟩)
    by_cases g:∃p∈TB,b=p.1
    .obtain⟨p,f,rfl⟩:=g;obtain⟨I,G⟩:=W p f;exact⟨_,G⟩
    exact⟨o,keep b o e λp f z=>g ⟨p,f,z⟩⟩
 have A:∀{b q},TB.lookup b=Wp q->(b,q)∈TB:=λh=>by
  revert h;generalize TB=l
  induction l with
  |nil=>intro h;simp at h
  |cons x l ih=>
   intro h;rw[qi]at h;split at h
   .rename_i g;cases h;rw[Gx.mp g];exact la
   exact jU _ (ih h)
 have S:∀p∈TB,TB.lookup p.1=Wp p.2:=by
  clear A t Z cB fL fK U F M
  induction TB with
  |nil=>intro p f;simp at f
  |cons x l ih=>
   intro p f;rw[kc,BF]at eC;rw[qi];rcases nS.mp f with rfl|f
   .simp
   have:(p.1==x.1)=W1:=by rw[BH];exact λe=>eC.1 (e▸rK f)
   rw[this];exact ih eC.2 p f
 have E:∀(H8:Hp)(b:iG)(q:ax),(b,q)∈TB->A5 P w H8 c.heap b (yv q):=λH8 b q hm=>⟨q,0,#[],rfl,M _ hm,trivial,λpos cv z=>by simp[eD]at z⟩
 cases hk:K.lookup a with
 |some o=>
  have e:=KX a o hk;rw[N]at e;cases e;refine t (λb=>(TB.lookup b).map yv) ⟨λb=>?_,λp f=>by rw[S p f];rfl⟩ (.inr ⟨_,O.toArray,_,hk,rfl,rfl,rfl,by rw[kH,R];exact hl,by simpa using rv⟩) (λb u z=>?_) (λb z=>?_) λz=>?_
  .cases q:TB.lookup b with
   |none=>exact .inl XV
   |some y=>exact .inr<|.inr ⟨y,A q,rfl⟩
  .have i:(TB.lookup b).map yv=Wp u:=z
   cases q:TB.lookup b with
   |none=>rw[q]at i;cases i
   |some y=>rw[q]at i;cases i;exact E _ b y (A q)
  .have i:(TB.lookup b).map yv≠WF:=z
   cases q:TB.lookup b with
   |none=>rw[q]at i;exact absurd XV i
   |some y=>exact .inr ⟨_,A q,rfl⟩
  have i:(TB.lookup a).map yv≠WF:=z
  cases q:TB.lookup a with
  |none=>rw[q]at i;exact absurd XV i
  |some y=>exact absurd XV<|Z _ (A q)
 |none=>
  have gY:∀p∈TB,(if p.1=a then Wp (HO.BZ {cls:=.type "list",data:=.seq O.toArray}<|.lst<|Q.map V.int)else(TB.lookup p.1).map yv)=Wp (yv p.2):=λp f=>by rw[jo<|Z p f,S p f];rfl
  refine t (λb=>if b=a then Wp (.BZ {cls:=.type "list",data:=.seq O.toArray}<|.lst<|Q.map V.int)else(TB.lookup b).map yv) ⟨λb=>?_,gY⟩ (.inl<|.inr ⟨{cls:=.type "list",data:=.seq O.toArray},iZ XV⟩) (λb u z=>?_) (λb z=>?_) λ_=>hk
  .by_cases g:b=a
   .exact .inr (.inl ⟨_,_,iZ g⟩)
   cases q:TB.lookup b with
   |none=>exact .inl (by simp[g])
   |some y=>exact .inr<|.inr ⟨y,A q,by simp[g]⟩
  .by_cases g:b=a
   .have i:=(iZ g).symm.trans z;cases i;subst g;exact⟨N,by rw[ke];exact hl,O,_,rv,N⟩
   have i:=(jo g).symm.trans z
   cases q:TB.lookup b with
   |none=>rw[q]at i;cases i
   |some y=>rw[q]at i;cases i;exact E _ b y (A q)
  by_cases g:b=a
  .exact .inl g
  cases q:TB.lookup b with
  |none=>exact absurd (by simp[g,q]) z
  |some y=>exact .inr ⟨_,A q,rfl⟩
end L2
namespace PX
open L2
def SO{TB:List (iG×ax)}{K:ji}{k:AL}{T:Hp}{a:iG}{f:iO}(m:∀p∈TB,T p.1=Y (yv p.2))(l:Ej K T a (f.map V.int)){o:Bool}{c:Dn}(h:k [(.lst<|f.map .int,U)]=Y ((.bl C,o),c)):Iv K k [.ref a] T (λv g=>v=.bl C/\∀p∈TB,g p.1=Y (yv p.2)) λ_ _ _=>False:=by
 have no:∀b,¬A1 [Y<|V.ref a] [Y (D.lst<|f.map .int,U)] b:=λb Q=>by
  obtain⟨i,d,h1,q⟩:=Q
  cases i with
  |zero=>simp at h1
  |succ i=>simp at h1
 refine⟨λ_=>False,[(.lst<|f.map .int,U)],_,c,⟨rfl,λi d hd=>?_,λi d hd=>?_,λi j d e b h1=>?_,λb z=>absurd z<|no b,λb z=>z.elim⟩,h,λv g P=>?_⟩
 .cases i with
  |zero=>simp at hd;subst hd;refine⟨_,rfl,Rep.NB (a:=a) (xs:=f.map V.int) ?_<|ae5 f⟩;exact l.imp (λz=>⟨z,λz=>z.elim (no a) id⟩) id
  |succ i=>simp at hd
 .cases i with
  |zero=>simp at hd
  |succ i=>simp at hd
 .cases i with
  |zero=>simp at h1
  |succ i=>simp at h1
 refine⟨?_,λp n=>P.1.kp _ _ (m p n) (no _)⟩
 cases o
 .exact P.2.2.bl
 obtain⟨p,_,_,_,ok⟩:=P.2;exact ok.elim
end PX
namespace L2
open PySem.W
theorem wz{a b:Int}{t u:Nat}{c:iQ}:∀l:List iQ,j3 l->j3 (l++[.int a t,.int b u,c])
 |[],_=>trivial
 |.int _ _:: .int _ _::_::rest,h=>wz rest h
theorem Bz{a b:Int}{t u:Nat}{e:br}{c f:iQ}:∀l:List iQ,j3 l->eD e (l++[.int a t,.int b u,c])=Y f->eD e l=Y f\/f=c
 |[],_,h=>by
  simp only[se,eD]at h;split at h
  .exact .inr (kT h).symm
  cases h
 |.int i _:: .int j _::d::rest,h0,h=>by
  simp only[List.cons_append,eD]at h ⊢;split at h
  .rename_i q;rw[iZ q];exact .inl h
  rename_i q;rw[jo q];exact Bz rest h0 h
structure HQ(q:ax)(params:bB)(body:iR)(scope:jI)(b6:kW)(H:Hp)(h:jb)(fl:iG):Prop where
 fn:∃pm c' l4,h.get? fl=Wp (kla_obj "<lambda>" q params body scope b6 pm c' l4)/\∃ob u vs t,H c'=Wp (.BZ ob u)/\ob.data=.fields vs/\vs[1]?=Wp (.str q t)
 un:H fl=WF
section
variable {X:Cx}{i:jF}{m:St}{H:Hp}{s:iL}{P c:iG}{f:bB}{g:iR}{scope:jI}{j:kW}{l:br}
def Uw{h:jb}{a:iG}(e:h.objs.size<=a):h.get? a=J:=by
 cases q:h.get? a with
 |none=>rfl
 |some o=>exact absurd (kh q)<|M6.mpr e
def Pf{M:f8}{A:je}{E:jB}{Q:jB}(I:Inv X i m H s){more:nB}(N:H P=Wp (.tbl (#[.str (X.env.qual++"<lambda>") 0]++more)))(hc:X.env.code=.ref c)(C:CodeHd X.base c P)(hB:X.base.BuiltinsAt X.mg P)(gG:aj≠P)
  (l5:tv scope X.env=pure j)(aR:tp f X.env=([],[]))
  (k:∀s1 T fl,Inv X i m T s1->(∀b o,H b=Wp o->T b=Wp o)->HQ (X.env.qual++"<lambda>") f g scope j T s1.heap fl->(∀b o,s.heap.get? b=Wp o->H b=WF->s1.heap.get? b=Wp o)->(∀b o,s.heap.get? b=Wp o->H b=WF->T b=WF)->s.heap.get? fl=WF->Q (.ref fl) s1):
  ag M A (aX (.Lambda f g scope l) X.env) Q E s:=by
 refine kla_eval aR ?_;obtain⟨qq,tq,ps,J,B,Y,hm⟩:=(show A5 X.prog X.w H s.heap P (.tbl (#[.str (X.env.qual++"<lambda>") 0]++more))from I.hok P _ N)
 have W:qq=X.env.qual++"<lambda>":=by rw[Array.getElem?_append_left<|by simp]at J;simp at J;exact J.1.symm
 subst W;have u6:s.heap.BuiltinsAt X.mg P:=let⟨bm,o,h1,F,K,R,h5,h6⟩:=hB;⟨bm,o,h1,F,K,R,I.bk _ _ h5,h6⟩
 have hg:s.heap.Ns aj X.mg:=I.ok.mod.glob.keeps I.bk
 cases S:eD l ps.toList with
 |some cv=>refine kla_makeFunctionHit l5 I.ok.glob hg hc (C.keeps I.bk) B Y S u6 λh v D p sz=>?_;obtain⟨a,ob,u,vs,t,rfl,F,K,R⟩:=hm l cv S;have bz:∀b o,s.heap.get? b=Wp o->(v.push<|kla_obj "<lambda>" (X.env.qual++"<lambda>") f g scope j ((X.mg "__name__").getD .none) a h).get? b=Wp o:=λb o e=>jW _ (p b o e);exact k _ H _ (I.kept (t':=D) bz) (λ_ _ e=>e) ⟨⟨_,a,h,kE _ rfl,ob,u,vs,t,F,K,R⟩,I.hok.fresh sz⟩ (λb o e _=>bz b o e) (λ_ _ _ n=>n) (Uw sz)
 |none=>
  refine kla_makeFunction l5 I.ok.glob hg hc (C.keeps I.bk) B Y S gG u6 λa h v D ex G x cr tb=>?_;obtain⟨c0,r,vs,t,ec,dX,dG,hq⟩:=cr;cases ec;have nc:H a=WF:=I.hok.fresh G;have p:∀b o,b≠P->s.heap.get? b=Wp o->(v.push<|kla_obj "<lambda>" (X.env.qual++"<lambda>") f g scope j ((X.mg "__name__").getD .none) a h).get? b=Wp o:=λb o n e=>jW _ (ex b o n e);have up:∀b o,H b=Wp o->upd H a (.BZ r<|.own 0) b=Wp o:=λb o e=>by rw[jx<|lD e nc];exact e
  have Z:∀b,H b=WF->b≠P:=λb n z=>by rw[z,N]at n;cases n
  have y:=jW (kla_obj "<lambda>" (X.env.qual++"<lambda>") f g scope j ((X.mg "__name__").getD .none) a h) tb
  have un:Un (Eg X.stack) [] H (upd H a<|.BZ r<|.own 0) s.heap (v.push<|kla_obj "<lambda>" (X.env.qual++"<lambda>") f g scope j ((X.mg "__name__").getD .none) a h):=
   ⟨λb o e n _ _=>p b o (Z b n) e,λb o e n _ _=>⟨o.slots,p b o (Z b n) e⟩,λb o e n _=>by rw[jx<|kx<|ot (kh e) G];exact n,λb o e _=>by
    by_cases z:b=P
    .subst z;exact⟨_,y⟩
    exact⟨o,p b o z e⟩,λb xs e=>up b _ e,λb o xs e=>up b _ e,λb ps e=>⟨#[],by rw[up b _ e];simp⟩⟩
  have V:EV X.prog X.w (upd H a<|.BZ r<|.own 0) (v.push<|kla_obj "<lambda>" (X.env.qual++"<lambda>") f g scope j ((X.mg "__name__").getD .none) a h):=λb u e=>by
   by_cases U:b=a
   .subst U;rw[jv]at e;cases e;exact⟨jW _ dX,⟨r,jW _ dX⟩⟩
   rw[jx U]at e;by_cases L:b=P
   .subst L;rw[N]at e;cases e;refine⟨_,tq,_,J,y,?_,λO cv z=>?_⟩
    .rw[Mq];exact wz _ Y
    rw[Mq]at z;rcases Bz _ Y z with z|z
    .obtain⟨x,ob,u,vs,t,r1,r2,r3,r4⟩:=hm O cv z;exact⟨x,ob,u,vs,t,r1,up _ _ r2,r3,r4⟩
    exact⟨a,r,_,vs,t,z,jv,dG,hq⟩
   refine(I.hok b u e).BC (λd w hd q=>p d w (λz=>?_) q) (λd q=>up d _ q) (λd xs q=>up d _ q) λd _ _ q=>up d _ q;subst z;rcases hd with z|z
   .exact L z.symm
   rw[N]at z;cases z
  have I1:Inv X i m (upd H a<|.BZ r<|.own 0) {s with heap:=v.push<|kla_obj "<lambda>" (X.env.qual++"<lambda>") f g scope j ((X.mg "__name__").getD .none) a h,toks:=D}:=I.call (g':=s.gens) (d':=s.drawn) (t':=D) un V I.bare λb U=>absurd U (by simp);refine k _ _ _ I1 up ⟨⟨_,a,h,kE _ rfl,r,_,vs,t,jv,dG,hq⟩,?_⟩ (λb o e n=>p b o (Z b n) e) (λb o e n=>un.free b o e n<|by simp) (Uw<|wm<|zN G x);rw[jx<|qk x];exact I.hok.fresh<|wm<|zN G x
end
def Bm(q:ax)(scope:jI)(L fl:iG)(cd:iQ)(a:kW):Env:=
 newEnv scope L aj a (q++".<locals>.") (Y fl) cd J gS
def uf(CX:Iu)(P:jh)(w:jc)(K:Frag)(d:lI)(base:jb)(N:jr)(q:ax)(scope:jI)(fl:iG)(cd:iQ)(b:kW)(A:je)(a:List dI)(s:iL)(T:Hp)(E:XK):Cx where
 prog:=P
 w:=w
 K:=K
 mg:=d
 base:=base
 A:=A.deeper<|Bm q scope s.heap.objs.size fl cd b
 N:=N
 s₀:=s
 H₀:=T
 env:=Bm q scope s.heap.objs.size fl cd b
 outer:=a
 stack:=Bm q scope s.heap.objs.size fl cd b::a
 ex:=[]
 calm:=C
 fn:=λ_=>U
 pn:=[]
 xe:=λe h=>ag (ah P w) (A.deeper<|Bm q scope s.heap.objs.size fl cd b) (NE (Bm q scope s.heap.objs.size fl cd b) e) (λ_ c=>CX a T s E e c) (λg c=>CX a T s E g c) h
structure EM(scope:jI):Prop where
 kind:scope.kind=.function
 co:scope.isCoroutine=W1
 gen:scope.isGenerator=W1
 cell:∀y∈scope.names,y.2≠ .cell
structure Bb(N:jr)(scope:jI)(b6:kW)(σ:St)(H:Hp)(h:jb):Prop where
 inj:∀x y c,b6.lookup x=Wp c->b6.lookup y=Wp c->x=y
 has:∀x,scope.names.lookup x=Wp .free->∃c,b6.lookup x=Wp c
 cell:∀x c,b6.lookup x=Wp c->(∃v,h.IsCell c v)/\H c=WF
 val:∀(i:Nat)(x:ax)(v:V),N[i]?=Wp x->σ[i]?=Wp (Wp v)->scope.names.lookup x=Wp .free/\∃c u,b6.lookup x=Wp c/\h.IsCell c (Wp u)/\RelV v u
 len:(X0 σ)=(X0 N)
section
variable {CX:Iu}{P:jh}{w:jc}{K:Frag}{g:lI}{base:jb}{N:jr}{q:ax}{scope:jI}{fl:iG}{cd:iQ}{d:kW}{A:je}{a:List dI}{s:iL}{H:Hp}{E:XK}{f:St}
def S9(S:EM scope)(hd:A.handled=J)(e:Ir P w K g base A a s H)(T:Bb N scope d f H s.heap){h1:jb}{t1:Nat}(l:h1.Ns s.heap.objs.size (λ_=>J))(hk:∀b o,s.heap.get? b=Y o->h1.get? b=Y o):
  Inv (uf CX P w K g base N q scope fl cd d A a s H E) [] f H {s with heap:=h1,toks:=t1}:=by
 have k:∀b:iG,b∉(uf CX P w K g base N q scope fl cd d A a s H E).ex:=λb z=>absurd (show b∈([]:List iG)from z) (by simp)
 refine⟨⟨e.mod,S.kind,rfl,rfl,jZ _,T.inj,λy j=>?_,λy c z _=>absurd z<|by simp[uf],λ_=>hd,MZ e.frames,.inr ⟨rfl,rfl⟩,λb z=>absurd z<|k b,e.bs,e.bsz,λb _ _=>k b,λb z=>absurd z<|k b,e.Ed,e.frf⟩,
  rfl,e.bare,Un.kept hk,⟨_,l,λi y v h1 m _=>?_⟩,λy c h=>?_,e.hok.fresh<|jZ _,λy c h=>(T.cell y c h).2,λp x=>absurd (show p∈([]:List (iG×eZ))from x)<|by simp,e.hok.kept hk,T.len⟩
 .have j:scope.names.lookup y=Y .cell\/scope.names.lookup y=Y .free:=j;rcases j with j|j
  .exact absurd I (S.cell _ (qV j))
  exact T.has y j
 .obtain⟨t,c,u,n,B,r⟩:=T.val i y v h1 m;exact⟨u,r,.inr ⟨.inr t,c,n,B.keeps hk⟩⟩
 obtain⟨⟨v,hv⟩,_⟩:=T.cell y c h;exact⟨v,hv.keeps hk⟩
def SR{h:bB}{c:iR}{k:Nat}{t:TE}{Q:VK}(S:EM scope)(n:B7 (k+1) A)(m:Ir P w K g base A a s H)(C:Bb N scope d f H s.heap)(L:HQ q h c scope d H s.heap fl)
  (k9:∀B i z,fj (kla_fn "<lambda>" q h c scope d B (.ref i) z) ⟨[],[]⟩=pure [])
  (Y:∀i:iG,B7 k (A.deeper<|Bm q scope s.heap.objs.size fl (.ref i) d)->PE (uf CX P w K g base N q scope fl (.ref i) d A a s H E) c t)(ht:t f H Q):
  ca (ah P w) A (.call (.ref fl) ⟨[],[]⟩) (CR CX a P w H s Q E) s:=by
 obtain⟨B,i,z,D,V,u,vs,tk,h1,M,U⟩:=L.fn;have R:s.heap.CodeRec (.ref i) q:=⟨i,V,vs,tk,rfl,(m.hok i _ h1).1,M,U⟩
 have r:s.heap.NoLimit:=m.mod.nolimit.keeps λb o e=>(m.bs b o e).1;refine kla_callFunE n.depth D XV S.co S.gen XV R ?_;rw[k9];refine iX<|wpAny_newFunctionEnv S.cell (by intro y F;simp at F) (λl G O=>⟨r.fresh _ O,?_⟩) S.kind;show ca _ _ (.expr c<|Bm q scope s.heap.objs.size fl (.ref i) d) _ _;have j:∀b o,s.heap.get? b=Wp o->l.get? b=Wp o:=λb o e=>O.extBut b o (kx<|kh e)<|jW _ e;have I:=S9 (CX:=CX) (q:=q) (fl:=fl) (cd:=.ref i) (E:=E) (t1:=s.toks+([]:List (ax×iQ)).length) S n.hd m C (by simpa using G) j;refine kla_codeExpr<|oq (Y i (n.deeper _) [] _ f H Q I ht) (λv Z p=>?_) λe Z p=>p;obtain⟨x,T,J,X,W⟩:=p;exact⟨x,T,J.os,J.bare,J.base,J.hok,X,W⟩
end
open PySem.Calls Builtin Builtin.ObjectAttr Builtin.Getset_descriptor
structure Lj(K:Frag)(C:iG):Prop where
 ga:findIn K (.ref C) "__getattribute__"=Wp (Wp<|.builtin "BaseException.__getattribute__")
 gb:findIn K (.ref C) "__getattr__"=Wp WF
 mrB:mroIn K C (.type "BaseException")=Wp WP
 dct:hasDictIn K C=WP
 fnd:findIn K (.ref C) "__class__"=Wp (Wp<|.builtin "object.__class__")
 spc:specialIn K (.builtin "object.__class__") "__get__"=Wp (Wp<|.builtin "getset_descriptor.__get__")
 tks:takesIn K (.builtin "object.__class__")=Wp WP
 mro:mroIn K C (.type "object")=Wp WP
section
variable {K:Frag}{C x:iG}{o:eZ}
def P8{M:f8}{h:jb}(Z:Lj K C)(X:K.In h):Looks M h (find (.ref x) (.ref C) "__class__") (.bind (.builtin "getset_descriptor.__get__")<|.builtin "object.__class__"):=by have a:=looks_takesIn (M:=M) X Z.tks;exact(looks_findIn X Z.fnd).andThen ((show Looks M h (getOf<|Y<|.builtin "object.__class__") _ from looks_specialIn X Z.spc).andThen<|(show Looks M h (dataDescriptor? (Y<|.builtin "object.__class__")<|Y<|.builtin "getset_descriptor.__get__") (Y (.builtin "getset_descriptor.__get__",.builtin "object.__class__"))from a.andThen .now).andThen<|Looks.tag .now)
def Ph(Z:Lj K C)(v:o.cls=.ref C):KitX K (.ref x) (.ref C) λh=>h.get? x=Wp o:=by
 have ty:∀(M:f8)(h:jb),h.get? x=Wp o->Looks M h (sK<|.ref x) (.ref C):=λM h e=>v▸(Looks.ld e).andThen .now;obtain⟨r,f,_⟩:=any_some Z.dct;unfold clsIn at f;split at f
 case h_2=>cases f
 rename_i U Y p D i;refine⟨λM h _ e=>ty M h e,λM h X _=>?_,λh I dd B n S X m=>?_,λ{a w A E Q s} X e k=>?_⟩
 .intro L N O R H q;unfold isType loadHead;exact iI<|wpAny_loadPart (H _ _ (X _ _ i))<|iX q
 .refine na.mpr λq=>?_;have e:C=I:=Value.ref.inj<|Gx.mp q;subst e;have z:=(X _ _ i).symm.trans m;cases z
 obtain⟨y,g,d,t,os⟩:=s;have T0:=ty (ah a w) y e;have j:=looks_findIn (M:=ah a w) X Z.ga;have l:=looks_findIn (M:=ah a w) X Z.gb;have T:=P8 (x:=x) (M:=ah a w) Z X;have G:=looks_mroIn (M:=ah a w) X Z.mro;unfold Fa getAttrBy? getAttrBy;refine iI<|wpAny_mkText<|iI<|rM<|md<|iI<|T0.at<|iI<|j.at ?_;have J:=looks_mroIn (M:=ah a w) X Z.mrB;have u:(cb "BaseException.__getattribute__"==cb "object.__getattribute__")=W1:=by decide+kernel
 show ag _ _ (if onTheHeap (bR C)&&cb "BaseException.__getattribute__"==cb "object.__getattribute__" then _ else y8 _ _ _ _ _ _) _ _ _;rw[jo<|by rw[u];simp];unfold y8;refine iI<|(show Looks _ _ (hookBefore<|.ref C) WF from l).at<|iI<|rM<|md ?_;show ag _ _ (F2 (.builtin "BaseException.__getattribute__") (.ref x)<|.str "__class__" _) _ _ _;unfold F2;rw[show bindSpecial (.builtin "BaseException.__getattribute__") (.ref x)=pure (.builtin "BaseException.__getattribute__",[.ref x])from XM.ga.bind _];refine iI<|iX<|yg<|zV XM.ga.plain F.entry_bexc_ga ?_;have hk:builtinKind "BaseException.__getattribute__"=Wp .slot:=by decide+kernel
 have b:splitId "BaseException.__getattribute__"=Wp ("BaseException","__getattribute__"):=by decide+kernel
 have P:=F.args_bexc_ga (.ref x)<|.str "__class__" t;simp only[dc,hk,b];refine iI ?_;unfold te
 repeat lk
 refine wpAny_run (h:=WF) (c:=.call (.builtin "getset_descriptor.__get__") ⟨[.builtin "object.__class__",.ref x,.ref C],[]⟩) ?_;refine zV KF.slot_gs.plain KF.entry_gs<|KF.slot_gs.check _ _ _ _ _ _ _ _ (show dH _ (.builtin "object.__class__") "getset_descriptor" from KF.type_class) (KF.args_gs _ _ _) ?_;unfold ba.«getset_descriptor.__get__» descrGet;rw[dga_obj];refine iI<|iX ?_;unfold descrGetter descrCheckInstance descrNameAndClass te;simp only[KF.owner_class]
 repeat lk
 refine⟨G3 _ (by decide+kernel),qL KF.entry_class ?_⟩;unfold ba.«object.__class__» shownTypeOf
 repeat lk
 exact k
end
section
variable {X:Cx}{f:jF}{h g:St}{H:Hp}{s:iL}{a:iG}{o:eZ}{j:jb}
def Inv.Md(N:Inv X f h H s)(L:H a=J)(B:X.s₀.heap.get? a=J)(r:s.heap.get? a=Y o)(T:∀v,o.data≠ .cell v)(E:a≠X.env.locals)(O:∀p∈X.pn++f,p.1≠a):Inv X f h (upd H a<|.BZ o<|.own 0) s:=by
 have up:∀b u,H b=Y u->upd H a (.BZ o<|.own 0) b=Y u:=λb u e=>by rw[jx<|lD e L];exact e
 refine⟨N.ok,N.os,N.bare,⟨N.base.keep,N.base.slot,λb k e n i=>?_,N.base.there,λb y e=>up _ _ (N.base.tups b y e),λb k u e=>up _ _ (N.base.frzs b k u e),λb Q e=>?_⟩,N.loc,N.cell,?_,λx c i=>?_,λp w=>?_,λb u e=>?_,N.len⟩
 .rw[jx (λz=>by subst z;rw[B]at e;cases e)];exact N.base.free b k e n i
 .obtain⟨m,d⟩:=N.base.tbls b Q e;exact⟨m,up _ _ d⟩
 .rw[jx<|oX E];exact N.free
 .rw[jx λz=>?_];exact N.freeC x c i;obtain⟨v,k,d,l⟩:=N.cell x c i;subst z;rw[r]at d;cases d;exact T v l
 .obtain⟨d,l,A⟩:=N.pin p w;exact⟨d,by rw[jx<|O p w];exact l,A⟩
 by_cases t:b=a
 .subst t;rw[jv]at e;cases e;exact⟨r,⟨o,r⟩⟩
 rw[jx t]at e;exact(N.hok b u e).BC (λ_ _ _ q=>q) (λc q=>up c _ q) (λc y q=>up c _ q) λc _ _ q=>up c _ q
def Inv.names(I:Inv X f h H s){t':Nat}(E:aE X.env.locals s.heap j)(U:(X0 g)=X0 h)(w:∀(i:Nat) v,g[i]?=Wp (Wp v)->h[i]?=Wp (Wp v))
  (Y:∀m,s.heap.Ns X.env.locals m->∃B,j.Ns X.env.locals B/\∀(i:Nat) x v,X.N[i]?=Wp x->g[i]?=Wp (Wp v)->B x=m x):Inv X f g H {s with heap:=j,toks:=t'}:=by
 obtain⟨m,D,Q⟩:=id I.loc;obtain⟨B,T,J⟩:=Y m D;have AF:∀b l,b≠X.env.locals->s.heap.get? b=Wp l->j.get? b=Wp l:=λb l n e=>(E.2 b n).trans e;have L:∀{b l},X.s₀.heap.get? b=Wp l->b≠X.env.locals:=λe=>kx<|ot (kh e) I.ok.above;refine⟨I.ok,I.os,I.bare,⟨λb l e n C A=>AF b l (L e)<|I.base.keep b l e n C A,λb l e n C A=>?_,I.base.free,λb l e A=>?_,I.base.tups,I.base.frzs,I.base.tbls⟩,⟨B,T,λi x v t O G=>?_⟩,λx c e=>?_,I.free,I.freeC,λp F=>?_,λb u e=>?_,U.trans I.len⟩
 .obtain⟨R,t⟩:=I.base.slot b l e n C A;exact⟨R,AF b _ (L e) t⟩
 .obtain⟨P,t⟩:=I.base.there b l e A;exact⟨P,AF b _ (L e) t⟩
 .obtain⟨u,r,q⟩:=Q i x v t (w i v O) G;refine⟨u,r,?_⟩;rcases q with⟨k,z⟩|⟨k,c,z,y⟩
  .exact .inl ⟨k,(J i x v t O).trans z⟩
  exact .inr ⟨k,c,z,y.sameBut E<|I.L0 x c z⟩
 .obtain⟨v,z⟩:=I.cell x c e;exact⟨v,z.sameBut E<|I.L0 x c e⟩
 .obtain⟨e,n,ne,K,d⟩:=I.pin p F;exact⟨AF _ _ ne e,n,ne,K,d⟩
 refine(I.hok b u e).BC (λc v M q=>AF c v (λz=>?_) q) (λ_ q=>q) λ_ _ q=>q;subst z;rcases M with z|z
 .subst z;rw[I.free]at e;cases e
 rw[I.free]at z;cases z
def Cx.mark(X:Cx)(e:iQ)(E:jB):Cx:={X with A:=X.A.mark<|Y e,calm:=U,xe:=E}
def Inv.mark(T:Inv X f h H s)(e:iQ)(E:jB):Inv (X.mark e E) f h H s:=
 ⟨⟨T.ok.mod,T.ok.kind,T.ok.glob,T.ok.blt,T.ok.above,T.ok.inj,T.ok.has,T.ok.cab,(λz=>by cases z),T.ok.frames,T.ok.stk,T.ok.exf,T.ok.bs,T.ok.bsz,T.ok.noex,T.ok.exfs,T.ok.Ed,T.ok.frf⟩,T.os,T.bare,T.base,T.loc,T.cell,T.free,T.freeC,T.pin,T.hok,T.len⟩
def Inv.unmark{e:iQ}{E:jB}(T:Inv (X.mark e E) f h H s)(hd:X.calm=C->X.A.handled=J):Inv X f h H s:=
 ⟨⟨T.ok.mod,T.ok.kind,T.ok.glob,T.ok.blt,T.ok.above,T.ok.inj,T.ok.has,T.ok.cab,hd,T.ok.frames,T.ok.stk,T.ok.exf,T.ok.bs,T.ok.bsz,T.ok.noex,T.ok.exfs,T.ok.Ed,T.ok.frf⟩,T.os,T.bare,T.base,T.loc,T.cell,T.free,T.freeC,T.pin,T.hok,T.len⟩
end
def A5.there{P:jh}{w:jc}{Q:Hp}{h:jb}{a:iG}{o:HO}(x:A5 P w Q h a o):∃c,h.get? a=Y c:=by
 cases o with
 |lst d=>obtain⟨_,_,_,_,e⟩:=x;exact⟨_,e⟩
 |tup d=>obtain⟨_,_,_,c,e,_⟩:=x;exact⟨_,e⟩
 |dK b=>obtain⟨_,_,_,_,o,_,_,e,_⟩:=x;exact⟨_,e⟩
 |dT b=>obtain⟨_,_,_,_,o,_,_,e,_⟩:=x;exact⟨_,e⟩
 |set S n=>obtain⟨o,_,_,_,e,_⟩:=x;exact⟨_,e⟩
 |A8 k=>obtain⟨_,_,_,e,_⟩:=x;exact⟨_,e⟩
 |ins T g fs=>obtain⟨_,_,_,e,_⟩:=x;exact⟨_,e⟩
 |own y=>exact x
 |xd fs=>obtain⟨_,⟨_,_,_,e,_⟩,_⟩:=x;exact⟨_,e⟩
 |rng lo i=>obtain⟨_,_,_,e⟩:=x;exact⟨_,e⟩
 |BZ c u=>exact⟨_,x.1⟩
 |tbl j=>obtain⟨_,_,_,_,e,_⟩:=x;exact⟨_,e⟩
 |met f y=>exact⟨_,x⟩
 |ext l=>exact x.2.1
section
variable {X:Cx}{c:jF}{g:St}{H d:Hp}{s s':iL}{C a:iG}{n B h':jb}{F:kP}{r:iQ}
def Li.inv(T:Inv X c g H s)(f:Li X.prog X.w X.stack H s C d a s' n B F)(h:B.StaysIn h')(j:n.UpToSlots h'):Inv X c g d {s' with heap:=h'}:=by obtain⟨un,e⟩:=f.end T.NS h j;exact T.LH (s':={s' with heap:=h'}) f.os un e f.bare λb i=>absurd i (by simp)
def Li.fresh(T:Inv X c g H s)(hex:X.ex=[])(f:Li X.prog X.w X.stack H s C d a s' n B F):d a=J/\X.s₀.heap.get? a=J/\s.heap.get? a=J:=by
 have h:s.heap.get? a=J:=by
  cases e:s.heap.get? a with
  |none=>rfl
  |some o=>obtain⟨i,b⟩:=f.un.there a o e (by simp);rw[f.ne]at b;cases b
 refine⟨?_,?_,h⟩
 .cases e:d a with
  |none=>rfl
  |some o=>obtain⟨j,z⟩:=(f.hok a o e).there;rw[f.ne]at z;cases z
 cases e:X.s₀.heap.get? a with
 |none=>rfl
 |some o=>obtain⟨i,b⟩:=T.base.there a o e (by rw[hex];simp);rw[h]at b;cases b
def ab6{E:XK}{e:iQ}{xr xx t:ax}{CR:iG}{i j:Nat}{D:Ends}{p4 p5 p6 p7 p8:br}(k6:X.stack=X.env::X.outer)(eu:X.env.frame=Y X.env.locals)(hex:X.ex=[])(I:Inv X c g H s)(h:Hx X.prog X.w X.stack H s E e s')
  (hg:Gl X xr)(hm:X.mg xr=Y (.ref CR))(f9:(xr==("__debug__":ax))=U)(cQ:∀C d,E (.ref C) WF d->exmOne X.K (.ref C) (.ref CR)=Y WP)
  (hN:X.N.Nodup)(hi:X.N[i]?=Y xx)(hj:X.N[j]?=Y t)(k7:i≠j)(lx:X.env.scope.names.lookup xx=Y .local)(ln:X.env.scope.names.lookup t=Y .local)(gQ:(t==("__debug__":ax))=U)(eA:(t==("__classdict__":ax))=U)
  (bA:bQ (.Name t p6) (Y<|.Name xx p5) p7.line X.env=pure U)
  (k:∀C d a o,E (.ref C) WF d->d a=WF->o.cls=.ref C->D.nx ((g.set j WF).set i<|Y<|.ref a) (upd d a<|.BZ o<|.own 0)):
  ag (ah X.prog X.w) X.A (io e X.env) (λ_ U'=>ag (ah X.prog X.w) X.A (setFlight e WF) (λ_ Y'=>ag (ah X.prog X.w) X.A (handleBy e X.env [.ExceptHandler (Y<|.Name xr p4) (Y t) [.Assign [.Name xx p5] (.Name t p6) p7] p8]) (SP X c D) X.xe Y') X.xe U') X.xe s':=by
 obtain⟨C,d,a,n,B,F,rfl,f,q⟩:=h;obtain⟨r,V⟩:=f.fl;obtain⟨n1,n2,n3⟩:=f.fresh I hex;rw[k6]at V;have fG:i<(X0 g):=by rw[I.len];exact(uj.mp hi).1
 have gD:j<(X0 g):=by rw[I.len];exact(uj.mp hj).1
 have bK:(X.env.scope.kind== .class||(X.env.scope.kind== .module&&X.env.locals !=X.env.globals))=U:=by rw[I.ok.kind];rfl
 refine wpAny_looks_onW (I.ok.frames.trans<|by rw[k6]) eu V λh2 J aY=>?_;refine wpAny_landsW J λh3 ir dJ=>?_;have I3:Inv X c g d {s' with heap:=h3}:=f.inv I ir.1<|f.up.trans<|aY.trans dJ;obtain⟨ob3,he3,hc3⟩:=ir.there;refine wpAny_handleBy_cons (codeAny_handlers_test ?_) (by intro q;cases q);refine wM (X:=X.mark (.ref a) λ_ _=>False) (I3.mark _ _) hg hm ?_ f9;refine(exm_one (M:=ah X.prog X.w) I3.Eo (hc3▸(Looks.ld he3).andThen .now)<|cQ C d q).here ?_;refine codeAny_handlers_suite_as ?_;obtain⟨g1,g2,g3,g4⟩:=id ir;refine wpAny_setFlight_noneW g1 g3 g4 λh4 k1 k2 k3 k4=>?_;have up4:h3.UpToSlots h4:=λb o hb W=>⟨o.slots,k4 b o hb W⟩
 have I4:Inv X c g d {s' with heap:=h4}:=f.inv I k1<|f.up.trans<|aY.trans<|dJ.trans up4;obtain⟨oe,vs,T,oT,ts,he,⟨y,_⟩,hd,_⟩:=id k3
 have I5:Inv X c g (upd d a<|.BZ oe<|.own 0) {s' with heap:=h4}:=by
  refine I4.Md n1 n2 he (λv z=>by rw[hd]at z;cases z) (λz=>?_) λp hp z=>?_
  .have:=I.lt;obtain⟨m,⟨o,_,_,ho,_⟩,_⟩:=id I.loc;rw[<-z,n3]at ho;cases ho
  obtain⟨S,_⟩:=I.pin p hp;rw[z,n3]at S;cases S
 refine An I5 hN hj (.inl ln) (v:=.ref a) XV (λs6 I6=>?_)<|.inr ln;have ps:=λE0:iQ->Shared->Prop=>tM (X:=X.mark (.ref a) E0) (N3 (X:=X.mark (.ref a) E0) hN hi (.inl lx) (AB (X:=X.mark (.ref a) E0) hj (.inl ln) gQ eA) bA<|.inr lx)<|Jr (X:=X.mark (.ref a) E0);refine B6 (ps _ c s6 _ _ {nx:=λP H7=>P=(g.set j<|Y<|.ref a).set i (Y<|.ref a)/\H7=upd d a (.BZ oe<|.own 0),rt:=λ_ _=>False} (I6.mark (.ref a) _) ⟨.ref a,by rw[oH gD],rfl,rfl⟩) λV s7 Z=>?_
 cases V with
 |ret u=>obtain⟨_,_,_,_,_,z⟩:=Z;exact z.elim
 |brk=>obtain⟨_,_,_,z⟩:=Z;exact z.elim
 |cont=>obtain⟨_,_,_,z⟩:=Z;exact z.elim
 |next=>
  obtain⟨P,H7,R,rfl,rfl⟩:=Z;have R:=R.unmark I.ok.hd;obtain⟨m,W,_⟩:=id R.loc;refine iI<|wpAny_bindName<|M3 ln W (λh₁ L Q=>?_) bK;unfold unbindBehindTheSuite;refine zU ?_;unfold unbindName;refine iI<|G2<|iI ?_;unfold deleteName;have ln':X.env.kindOf t=Y .local:=ln;simp only[ln',bK];rw[jo<|by decide];refine iI<|wpAny_nsDel_keeps L λh₂ v₂ O G=>?_;simp;refine iX<|G2 ⟨(g.set j WF).set i<|Y<|.ref a,_,R.names (Q.trans G) (by simp) (λl v z=>?_) λm0 bI=>?_,k C d a oe q n1 y⟩
  .by_cases hl:l=i
   .subst hl;rw[oH<|by simpa using fG]at z ⊢;exact z
   rw[oG<|oX hl]at z ⊢;by_cases v9:l=j
   .subst v9;rw[oH gD]at z;cases z
   rw[oG<|oX v9]at z ⊢;exact z
  refine⟨_,O,λl x v S e2=>?_⟩
  have hx:x≠t:=λz=>by subst z;have:=AM hN S hj;subst this;rw[oG k7,oH gD]at e2;cases e2
  simp only[hx];obtain⟨o1,bt,ep1,z1,z2,_,z3⟩:=id W;obtain⟨o2,es2,ep2,y1,y2,_,y3⟩:=id bI;rw[z1]at y1;cases y1;rw[z2]at y2;cases y2;exact(z3 x).symm.trans (y3 x)
end
end L2
namespace PX
open L2 PySem.SeqAt PySem.W
abbrev XS:=Dn->Option ax
inductive tZ(K:ji)(mg:lI)(E:XK)(x:XS)(σ:L2.St)(H:Hp):Prop where
 |mk (δ:Dn) (T:AA) (c:ax) (_:ER K H T σ δ) (_:∀a,¬A1 σ δ a) (_:x δ=Wp c) (_:∀H' C,(∀a o,H a=Wp o->H' a=Wp o)->mg c=Wp (.ref C)->E (.ref C) WF H')
def PZ(X:Cx)(E:XK)(st:bc)(x:XS):Prop:=PS X st λ_=>tZ X.K X.mg E x
def LP(X:Cx)(E:XK)(st:List bc)(x:XS):Prop:=HF X st λ_=>tZ X.K X.mg E x
def Lh(X:Cx)(E:XK)(e:iR)(x:XS):Prop:=PE X e λa T _=>tZ X.K X.mg E x a T
inductive tZo(K:ji)(mg:lI)(E:XK)(x:XS)(σ:L2.St)(H:Hp):Prop where
 |mk (δ:Dn) (T:AA) (c:ax) (_:ER K H T σ δ) (_:x δ=Wp c) (_:∀H' C,(∀a o,H a=Wp o->¬A1 σ δ a->H' a=Wp o)->(∀a,H a≠WF->H' a≠WF)->mg c=Wp (.ref C)->E (.ref C) WF H')
def PZo(X:Cx)(E:XK)(e:iR)(x:XS):Prop:=PE X e λa T _=>tZo X.K X.mg E x a T
def N2(K:ji)(f:lI)(h:List D->Option ax):Sp:=λg O _ E=>∃T e c,ER K O T (g.map Y) ((e.map λd=>(d,U)).map Y)/\h e=Y c/\∀Q b,(∀a o,O a=Y o->b a=Y o)->f c=Y (.ref Q)->E (.ref Q) J b
def LX(n np:Nat)(x:XS):List D->Option Str:=λa=>if (X0 a)=np/\np<=n then x (((a.map λd=>(d,U)).map Y)++ai (n-np) J)else J
def Cj(c:List D->Option ax)(fs:List FO):XS:=λd=>(kM fs d).bind λp=>(kz p.2 p.1).bind λb=>if(b.all λa=>!a.2)=C then c (b.map (·.1))else J
def Hr(c:ax)(f:F):XS:=λa=>(f a).bind λ_=>Y c
def Th(a:Dn):Bool:=a.all λx=>match x with
 |some (_,C)=>U
 |_=>C
def Mb(t:FT)(x y:XS):XS:=λa=>(t a).bind λp=>if Th p.2=C then(if p.1=C then x p.2 else y p.2)else J
def zNo:XS:=λ_=>J
def JY{b:Dn}(h:Th b=C)(c:L2.St)(a:iG): ¬A1 c b a:=λT=>by
 obtain⟨i,d,h1,_⟩:=T
 have:=mh.mp h _ (nL h1);simp at this
def JZ{b:List (D×Bool)}(h:(b.all λa=>!a.2)=C):∀a∈b,a=(a.1,U):=λa c=>by
 have:=mh.mp h a c;obtain⟨d,f⟩:=a
 cases f
 .rfl
 cases this
theorem Bf:∀(os:List BN)(as:List (D×Bool)),(∀a∈as,a=(a.1,U))->ju os as=[]
 |[],as,_=>by cases as<;>simp[ju]
 |o::os,[],_=>by simp[ju]
 |o::os,a::as,h=>by have b:=h a la;obtain⟨d,f⟩:=a;cases b;cases o<;>simp[ju,Bf os as λa c=>h a<|jU _ c]
section
variable {X:Cx}{P:jh}{w:jc}{i:List dI}{L:Hp}{s0:iL}{E:XK}{A:ki}{st:bc}{Ij a b:List bc}{x y:XS}{e:iR}{g:br}
def aaM:LP X E Ij zNo:=λc s d Q D T h=>by obtain⟨_,_,_,_,_,e,_⟩:=h;cases e
def V1:HF X Ij λ_ _ _=>False:=λ_ _ _ _ _ _ h=>h.elim
def UT(h:PZ X E st x):LP X E (st::Ij) x:=HF.imp' (tM h V1) λ_ _ _ h=>h
def Ra{z:ax}{N:iG}{a:iR}{f:F}{np n:br}(M:FV X P w i L s0 E)(t:X.calm=C)(p:excIn X.K N Nv "ValueError.__new__"=C)(j:X.mg z=Y (.ref N))(u:Gl X z)(s:PX X a f)(hd:(z==("__debug__":ax))=U)
  (B:aa [a] X.env=[(U,aX a X.env)]):PZ X E (.Raise (Y<|.Call (.Name z np) [a] [] n) J g) (Hr z f):=PS.imp' (agc M t p j u s hd B) λD Q G h=>by
 obtain⟨O,T,c,E0,no,e,k⟩:=h;obtain⟨r,d,h1,e⟩:=iW e;cases e;exact⟨O,T,r,d,E0,h1,λv l m=>k l N (λa o q=>m.1.kp a o q<|no a) j⟩
def aaN{c:iR}{f:FT}(u:OX X c f)(r:LP X E a x)(s:LP X E b y):PZ X E (.If c a b g) (Mb f x y):=PS.imp' (Ut u r s) λD j M h=>by
 obtain⟨O,T,c,E0,no,e,k⟩:=h;obtain⟨t,d,h1,e⟩:=iW e;dsimp only at e;split at e
 case isFalse=>cases e
 rename_i fz;refine⟨O,T,t,d,E0,h1,λn p l=>?_⟩;have fin:∀z:XS,z d=Y c->tZ X.K X.mg E z j n:=λz B=>⟨d,T,c,l,JY fz j,B,λm Q N v=>k m Q (λa o q=>N a o<|p.kp a o q<|no a) v⟩
 cases t
 .exact WN<|fin y (by simpa using e)
 exact WM<|fin x (by simpa using e)
def UU(h:Lh X E e x)(c:bQ e J g.line X.env=pure U):PZ X E (.Expr e g) x:=PS.imp' (Js h c) λ_ _ _ h=>h
variable {k:Nat}{f:iG}{u:mG}{m:jr}{l:List D->Option ax}{j:kD}{fs:List FO}{z:ax}{p:br}
def Rb(xk:FV X P w i L s0 E)(F:Bn X.prog X.w X.K X.mg X.base (Hx P w) k f u m (N2 X.K X.mg l))(hr:B7 k X.A)(hg:Gl X z)(hm:X.mg z=Wp (.ref f))(hk:bP X.K (.ref f)=WP)(hb:Binds X.K u m [])
  (t:PA X (e::j) (tA X.K fs))(Y:(z==("__debug__":ax))=W1)(he:aa (e::j) X.env=(W1,aX e X.env)::aa j X.env)(U:(aK g<|aa j X.env).any (·.1)=W1):
  PZo X E (.Call (.Name z p) (e::j) [] g) (Cj l fs):=PE.imp' (Jx F hr hg hm hk hb (.nil) xk.pass t Y he U) λσ H Q h=>by
 obtain⟨Z,T,c,E0,e,S⟩:=h;obtain⟨os,v,h1,e⟩:=iW e;obtain⟨r,G,e⟩:=iM e;dsimp only at e G;split at e
 case isFalse=>cases e
 rename_i D;refine⟨Z,T,os,v,E0,h1,λV O T1 B=>?_⟩;show N2 X.K X.mg l (V++[]) O Q E;rw[sA];have J:=JZ D
 have s:r=(r.map (·.1)).map λd=>(d,W1):=by
  rw[kG]
  conv=>lhs;rw[<-sN r]
  exact pL λa t=>J a t
 have I:=zG E0 B G (by rw[Bf os r J];exact mZ);rw[s]at I
 exact⟨_,r.map (·.1),c,I,e,λC N M R=>S N C (λa o q n=>M a o<|B.keep.kp a o q n) (λa q=>by
  cases h:O a with
  |none=>exact absurd h<|B.keep.dm a q
  |some o=>rw[M a o h];simp) R⟩
def UW(M:FV X P w i L s0 E)(F:Bn X.prog X.w X.K X.mg X.base (Hx P w) k f u m (N2 X.K X.mg l))(O:B7 k X.A)(I:Gl X z)(d:X.mg z=Y (.ref f))(hk:bP X.K (.ref f)=WP)(v:Binds X.K u m [])
  (t:PA X (e::j) (tA X.K fs))(s:(z==("__debug__":ax))=W1)(B:aa (e::j) X.env=(W1,aX e X.env)::aa j X.env)(r:(aK g<|aa j X.env).any (·.1)=W1):
  Lh X E (.Call (.Name z p) (e::j) [] g) (Cj l fs):=PE.imp' (Rb M F O I d hk v t s B r) λU H Q h=>by
 obtain⟨N,T,c,E0,no,e,G⟩:=h;exact⟨N,T,c,E0,e,λn C J _ d=>G n C (λa o q=>J a o q<|no a) d⟩
end
def Te{P:jh}{w:jc}{K:ji}{j:lI}{base:jb}{x qual:ax}{st:bc}{f:iG}{n:mG}{N b:jr}{k:Nat}{t:XS}(F:Ii K x qual st f n)(S:AJ N b (iT st))
  (L:∀(i:iQ)(A:je)(a:List dI)(s:iL)(H:Hp)(E:XK),B7 k (A.deeper<|aZ qual (iT st) s.heap.objs.size f i)->LP (sd (Hx P w) P w K j base N qual (iT st) f i A a s H E) E (mn st) t):
  Bn P w K j base (Hx P w) (k+1) f n b (N2 K j<|LX (X0 N) (X0 b) t):=by
 obtain⟨U,Y,kV,v,D,an,i,ct,M,e,lk,J⟩:=F.ex;subst e;refine P7 lk J S (λr H Q E h=>?_) λA a s H r Q E I h=>?_
 .obtain⟨T,l,c,E0,e,_⟩:=h;unfold LX at e;split at e
  case isFalse=>cases e
  rename_i q;have:=E0.len;simp at this;rw[this,q.1]
 obtain⟨T,l,c,E0,e,O⟩:=h;unfold LX at e;split at e
 case isFalse=>cases e
 rename_i q;have o:=E0.len;simp at o;refine⟨_,L i A a s H E I,((l.map λd=>(d,W1)).map Wp)++ai (X0 N-X0 b) WF,T,c,?_,?_,e,λu C G y=>O C u G y⟩
 .have:=E0.pad (m:=X0 N-X0 b);unfold L2.oZ;rw[show (X0 r)=(X0 b) by rw[o,q.1]];exact this
 refine JY ?_ _;unfold Th;rw[mh];intro z g;rcases qX.mp g with g|g
 .obtain⟨p,B,rfl⟩:=jd g;obtain⟨d,_,rfl⟩:=jd B;rfl
 rw[(List.mem_replicate.mp g).2]
end PX
namespace L2
open PySem.W
section
variable {fs:kP}{N:jr}{scope:jI}{d:kW}{j:St}{H g:Hp}{h h':jb}{q:ax}{a:bB}{b:iR}{f:iG}
def Bb.keep(T:Bb N scope d j H h)(u:Un fs [] H g h h')(n:∀x c,d.lookup x=Y c->c∉fs):Bb N scope d j g h':=by
 have p:∀{x c v},d.lookup x=Y c->h.IsCell c v->h'.IsCell c v:=λ{x c v} e z=>by obtain⟨o,k,l⟩:=z;exact⟨o,u.keep c o k (T.cell x c e).2 (n x c e)<|by simp,l⟩
 refine⟨T.inj,T.has,λx c e=>?_,λi x v h1 s=>?_,T.len⟩
 .obtain⟨⟨v,o,k,l⟩,y⟩:=T.cell x c e;exact⟨⟨v,p e ⟨o,k,l⟩⟩,u.free c o k y<|by simp⟩
 obtain⟨t,c,w,m,A,r⟩:=T.val i x v h1 s;exact⟨t,c,w,m,p m A,r⟩
def HQ.keep(L:HQ q a b scope d H h f)(u:Un fs [] H g h h')(n:f∉fs):HQ q a b scope d g h' f:=by obtain⟨m,c,k,e,l,w,o,t,h1,i⟩:=L.fn;exact⟨⟨m,c,k,u.keep f _ e L.un n (by simp),l,w,o,t,u.frzs _ _ _ h1,i⟩,u.free f _ e L.un (by simp)⟩
end
section
variable {X:Cx}{N:jr}{scope:jI}{b6:kW}{σl:St}{q:ax}{params:bB}{body:iR}{fl:iG}{k:Nat}{t:XK->TE}
structure LW(X:Cx)(N:jr)(scope:jI)(b6:kW)(σl:St)(q:ax)(params:bB)(body:iR)(fl:iG)(k:Nat)(t:XK->TE):Prop where
 sc:EM scope
 cel:Bb N scope b6 σl X.H₀ X.s₀.heap
 lam:HQ q params body scope b6 X.H₀ X.s₀.heap fl
 nfl:fl∉X.fs
 ncl:∀x c,b6.lookup x=Wp c->c∉X.fs
 bnd:∀pm c' l4,fj (kla_fn "<lambda>" q params body scope b6 pm (.ref c') l4) ⟨[],[]⟩=pure []
 run:∀(E:XK)(c':iG)(s:iL)(H:Hp),B7 k (X.A.deeper<|Bm q scope s.heap.objs.size fl (.ref c') b6)->PE (uf (Hx X.prog X.w) X.prog X.w X.K X.mg X.base N q scope fl (.ref c') b6 X.A X.stack s H E) body (t E)
def V2{g y B b:ax}{CR:iG}{l i j:Nat}{M U Y p4 p5 p6 p7 p8 p9:br}(L:LW X N scope b6 σl q params body fl k t)(k6:X.stack=X.env::X.outer)(eu:X.env.frame=Wp X.env.locals)(hex:X.ex=[])(hr:B7 (k+1) X.A)
  (hc:X.N[l]?=Wp g)(vc:Lv X.env.scope g)(dG:(g==("__debug__":ax))=W1)(fJ:(g==("__classdict__":ax))=W1)
  (T:bQ (.Call (.Name g M) [] [] U) WF Y.line X.env=pure W1)
  (hg:Gl X y)(hm:X.mg y=Wp (.ref CR))(f9:(y==("__debug__":ax))=W1)
  (hN:X.N.Nodup)(hi:X.N[i]?=Wp B)(hj:X.N[j]?=Wp b)(k7:i≠j)(lx:X.env.scope.names.lookup B=Wp .local)(ln:X.env.scope.names.lookup b=Wp .local)(gQ:(b==("__debug__":ax))=W1)(eA:(b==("__classdict__":ax))=W1)
  (bA:bQ (.Name b p6) (Wp<|.Name B p5) p7.line X.env=pure W1):
  PS X (.Try [.Expr (.Call (.Name g M) [] [] U) Y] [.ExceptHandler (Wp<|.Name y p4) (Wp b) [.Assign [.Name B p5] (.Name b p6) p7] p8] [] [] p9)
   (λD c H'=>c[l]?=Wp (Wp<|.ref fl)/\∃E:XK,t E σl H' (λ_ a=>D.nx c a)/\(∀C' a,E (.ref C') WF a->exmOne X.K (.ref C') (.ref CR)=Wp C)/\
    ∀C' a O o,E (.ref C') WF a->a O=WF->o.cls=.ref C'->D.nx ((c.set j WF).set i<|Wp<|.ref O) (upd a O<|.BZ o<|.own 0)):=by
 intro p s c H' D I h;obtain⟨W,E,ht,S,hk⟩:=h;have un:Un X.fs [] X.H₀ H' X.s₀.heap s.heap:=by have:=I.base;rwa [hex]at this
 have C1:=L.cel.keep un L.ncl;have L1:=L.lam.keep un L.nfl;refine wpAny_Try_except ?_;refine v7<|Db ?_ I.quiet T;refine tJ ?_;refine oq (AB (X:=X.IE) hc vc dG fJ p s c H' (λv a=>v=.ref fl/\a=H') (I.Gi _) ⟨.ref fl,W,rfl,rfl⟩) (λf s1 Z=>?_) λ_ _ z=>aW z;obtain⟨v,G,d,rv,rfl,rfl⟩:=Z;cases rv;have d:=d.D4;have x:Un X.fs [] X.H₀ G X.s₀.heap s1.heap:=by have:=d.base;rwa [hex]at this
 have F:=L.cel.keep x L.ncl;have m:=L.lam.keep x L.nfl;obtain⟨pm,J,l4,e,_⟩:=id m.fn;refine callWith_F0 ⟨_,_,_,_,e⟩<|yg<|sy (SR (CX:=Hx X.prog X.w) (E:=E) (t:=t E) (Q:=λ_ a=>D.nx c a) L.sc hr d.Lf F m L.bnd (λJ V=>L.run E J s1 G V) ht) λr s2 n=>?_
 cases r with
 |error e=>exact ab6 k6 eu hex d n hg hm f9 S hN hi hj k7 lx ln gQ eA bA hk
 |ok f=>
  cases f with
  |next=>exact aW n
  |brk=>exact aW n
  |cont=>exact aW n
  |ret u=>obtain⟨v,P,R,_,qq⟩:=d.after n;exact Ae<|Ae ⟨c,P,R,qq⟩
end
end L2
namespace PX
open L2 PySem.SeqAt PySem.W
def sim:D->Bool
 |.A7|.bl _|.int _|.str _=>C
 |_=>U
def Jd{K c:Frag}{T a:Hp}{O e:AA}{d:D}{v:V}(h:sim d=C)(r:Rep K T O d v):Rep c a e d v:=by
 cases d with
 |A7=>rw[Rep]at r ⊢;exact r
 |bl b=>rw[Rep]at r ⊢;exact r
 |int b=>rw[Rep]at r ⊢;exact r
 |str b=>rw[Rep]at r ⊢;exact r
 |_=>cases h
def Co(n i:Nat)(fs:FS)(d:D):Option D:=match fs ((ai n J).set i<|Y (d,U))with
 |some (.rt (r,U) _)=>if sim r=C then Y r else J
 |_=>J
def LJ(e:jQ)(f:F)(x:XS)(n i:Nat)(fs:FS)(h:ax->Option Nat):F:=λg=>(kz g<|e.map .slot).bind λb=>if(b.all λa=>!a.2)=C then
  (match f (b.map Y)with
   |some _=>Co n i fs .A7
   |none=>(x<|b.map Y).bind λc=>(h c).bind λT=>Co n i fs<|.AF (.exc T) [] []).bind λd=>Y ((d,U),g)
 else J
def zw{n i:Nat}{d:D}(c:L2.St)(a:iG): ¬A1 c ((ai n J).set i<|Y (d,U)) a:=λT=>by
 obtain⟨j,e,h1,_⟩:=T
 by_cases b:j=i
 .subst b;rw[Aa]at h1;split at h1
  .split at h1<;>simp at h1
  rename_i z;exact z I
 rw[oG<|oX b,wk]at h1;split at h1<;>cases h1
def Xi{K:Frag}{T:Hp}{f:L2.St}{n i:Nat}{d:D}{v:V}(o:(X0 f)=n)(k:f[i]?=Y (Y v))(r:Rep K T (λ_=>False) d v):ER K T (λ_=>False) f ((ai n J).set i<|Y (d,U)):=by
 have c:∀{j:Nat}{e:D}{b:Bool},((ai n J).set i<|Y (d,U))[j]?=Y (Y (e,b))->j=i/\e=d/\b=U:=λ{j e b} h=>by
  by_cases m:j=i
  .subst m;rw[oH<|by rw[MX,<-o];exact(uj.mp k).1]at h;cases h;exact⟨rfl,rfl,rfl⟩
  rw[oG<|oX m,wk]at h;split at h<;>cases h
 refine⟨by simp[o],λj e h=>?_,λj e h=>?_,λj l e g a h=>?_,λa z=>absurd z<|zw f a,λ_ z=>z.elim⟩
 .obtain⟨rfl,rfl,_⟩:=c h;exact⟨v,k,Rep.mono (λ_ _ e _=>e) (λb _ z=>z.elim (zw f b) id) r⟩
 .obtain⟨_,_,z⟩:=c h;cases z
 obtain⟨_,_,z⟩:=c h;cases z
structure ClK(K:Frag)(C CR:iG):Prop where
 k:Lj K C
 ty:∀n∈["int","bool","str","tuple","list","dict"],kitOne K (.ref C) (.type n)=Wp W1
 up:exmOne K (.ref C) (.ref CR)=Wp WP
def WZ{b:List (D×Bool)}(h:∀a∈b,a=(a.1,U))(f:L2.St)(a:iG): ¬A1 f (b.map Y) a:=λT=>by
 obtain⟨i,d,h1,_⟩:=T
 rw[kQ]at h1;obtain⟨p,c,e⟩:=jw h1;cases e;have:=h _ (nL c);simp at this
section
variable {X:Cx}
def PE.or{e:iR}{t u:TE}(h1:PE X e t)(c:PE X e u):PE X e λb O Q=>t b O Q\/u b O Q:=λa s b O Q T h=>h.elim (h1 a s b O Q T)<|c a s b O Q T
def Qq{T:AA}{g:L2.St}{l:Dn}{Q:Hp}{d:jQ}{f:List (D×Bool)}{K:Frag}(m:ER K Q T g l)(r:kz l (d.map .slot)=Y f):
  ∃vs:List V,yZ d 0 g=vs.map Y/\Ops K T g l Q (d.map BN.slot) vs l Q T:=by
 obtain⟨u,s⟩:=qf r
 have there:∀(i j:Nat),d[i]?=Y j->∃v,g[j]?=Y (Y v):=λi j e=>by
  have t:i<(X0 f):=by have:=(uj.mp e).1;simp at u;lia
  obtain⟨o,q,k⟩:=s i _ (jT t);rw[kQ,e]at q;cases q;have n:=rq k;generalize f[i]=y at n;obtain⟨x,b⟩:=y
  cases b
  .obtain⟨v,h,_⟩:=m.val j x n;exact⟨v,h⟩
  obtain⟨a,h,_⟩:=m.own j x n;exact⟨_,h⟩
 refine⟨d.map λj=>((g[j]?).join).getD .A7,?_,by simp,.refl,m,λ_ z=>z,λj x v e=>?_,λj x v e=>?_,λj i v e hv=>?_⟩
 .unfold yZ;rw[zM,sA];apply zW;intro i;rw[kQ,kQ,kQ]
  cases e:d[i]? with
  |none=>rfl
  |some j=>obtain⟨v,hv⟩:=there i j e;simp[hv]
 .rw[kQ]at e;obtain⟨_,_,z⟩:=jw e;cases z
 .rw[kQ]at e;obtain⟨_,_,z⟩:=jw e;cases z
 rw[kQ]at e;obtain⟨c,p,z⟩:=jw e;cases z;obtain⟨w,k⟩:=there j i p;rw[kQ,p]at hv;simp[k]at hv;rw[k,hv]
end
section
variable {X:Cx}{Pt c:iG}{params:bB}{body:iR}{scope:jI}{pos r6 pf:br}{caps:jQ}{N' NR:jr}{fB:F}{xB:XS}{w9:FS}{CI:ax->Option Nat}{asg:jQ}{st:bc}{fr:iG}{bV:mG}{xf xc xr xx xn:ax}{CR:iG}{i j k:Nat}
structure K0(X:Cx)(st:bc)(NR:jr)(fr:iG)(xf xc xr xx xn:ax)(CR:iG)(i j k:Nat)(asg:jQ)(w9:FS):Prop where
 sc:AJ NR [xc] (iT st)
 as0:0∉asg
 hi:NR[i]?=Wp xx
 hj:NR[j]?=Wp xn
 ij:i≠j
 j0:j≠0
 lc:(iT st).names.lookup xc=Wp .local
 lx:(iT st).names.lookup xx=Wp .local
 ln:(iT st).names.lookup xn=Wp .local
 gl:(iT st).names.lookup xr=Wp .globalImplicit
 mg:X.mg xr=Wp (.ref CR)
 db:(xc==("__debug__":ax))=W1/\(xc==("__classdict__":ax))=W1/\(xn==("__debug__":ax))=W1/\(xn==("__classdict__":ax))=W1/\(xr==("__debug__":ax))=W1
 body:∃p1 p2 p3 p4 p5 p6 p7 p8 p9 S1 rest,mn st=S1:: .Try [.Expr (.Call (.Name xc p1) [] [] p2) p3] [.ExceptHandler (Wp<|.Name xr p4) (Wp xn) [.Assign [.Name xx p5] (.Name xn p6) p7] p8] [] [] p9::rest/\
  ∀(b7:iQ)(A:je)(outer:List dI)(s:iL)(H:Hp)(L:LL),(∀i,L.p i->i<1)->B7 k (A.deeper<|aZ xf (iT st) s.heap.objs.size fr b7)->
   bQ (.Call (.Name xc p1) [] [] p2) WF p3.line (aZ xf (iT st) s.heap.objs.size fr b7)=pure W1/\bQ (.Name xn p6) (Wp<|.Name xx p5) p7.line (aZ xf (iT st) s.heap.objs.size fr b7)=pure W1/\
   Lw (sd Fx X.prog X.w X.K X.mg X.base NR xf (iT st) fr b7 A outer s H L2.E0).IE (λi=>i∈asg) L H S1 (kj i<|fC .A7)/\IG (sd Fx X.prog X.w X.K X.mg X.base NR xf (iT st) fr b7 A outer s H L2.E0).IE (λi=>i∈asg) L H rest w9
def VM{more:nB}(R:K0 X st NR fr xf xc xr xx xn CR i j (k+1) asg w9)(F:Ii X.K xf xf st fr bV)(gX:Binds X.K bV [xc] [])(gF:Gl X xf)(hmf:X.mg xf=Wp (.ref fr))(cR:(xf==("__debug__":ax))=W1)
  (cP:∀x,X.fn x=WP)(hr:B7 (k+2) X.A)(hTb:X.H₀ Pt=Wp (.tbl (#[.str (X.env.qual++"<lambda>") 0]++more)))(m5:X.env.code=.ref c)(C:CodeHd X.base c Pt)(hB:X.base.BuiltinsAt X.mg Pt)(gG:aj≠Pt)
  (CO:Ei X N' scope caps 0)(LS:EM scope)(aR:tp params X.env=([],[]))(k9:∀b6 pm J l4,fj (kla_fn "<lambda>" (X.env.qual++"<lambda>") params body scope b6 pm (.ref J) l4) ⟨[],[]⟩=pure [])
  (he:aa [.Lambda params body scope r6] X.env=(W1,aX (.Lambda params body scope r6) X.env)::aa [] X.env)(d8:(aK pos<|aa [] X.env).any (·.1)=W1)
  (ie:∀z C0,CI z=Wp C0->X.mg z=Wp (.ref C0)/\ClK X.K C0 CR)
  (hb:∀(B:iG)(b6:kW)(J:iG)(A:je)(N:List dI)(s:iL)(H:Hp)(E:XK),B7 k (A.deeper<|Bm (X.env.qual++"<lambda>") scope s.heap.objs.size B (.ref J) b6)->
   PX (uf (Hx X.prog X.w) X.prog X.w X.K X.mg X.base N' (X.env.qual++"<lambda>") scope B (.ref J) b6 A N s H E) body fB/\Lh (uf (Hx X.prog X.w) X.prog X.w X.K X.mg X.base N' (X.env.qual++"<lambda>") scope B (.ref J) b6 A N s H E) E body xB):
  PX X (.Call (.Name xf pf) [.Lambda params body scope r6] [] pos) (LJ caps fB xB (X0 NR) i w9 CI):=by
 intro pins s g H Q I hw;obtain⟨U,T,r,δ',E1,e,kq⟩:=hw;obtain⟨t,ha,e⟩:=iM e;split at e
 case isFalse=>cases e
 rename_i hfz;have dB:=JZ hfz;obtain⟨d,hd,e⟩:=iM e;obtain⟨rfl,rfl⟩:=jn e;obtain⟨vs,gq,B0⟩:=Qq E1 ha;have nd0:=Bf (caps.map BN.slot) t dB;have Ec:=zG E1 B0 ha (by rw[nd0];exact mZ);obtain⟨S,hclo,i5,i7⟩:=vY X.env scope λx hx hf=>I.ok.has x.1<|CO.free x hx hf;obtain⟨more2,hP⟩:=I.base.tbls Pt _ hTb;rw[Hn]at hP;refine tJ<|wM I gF hmf ?_ cR;refine callWith_K (h₀:=X.base) I.ok.mod.kin F.kp ?_ he d8;rw[he];show ag _ _ (u4 ((W1,aX (.Lambda params body scope r6) X.env)::aK pos (aa [] X.env))) _ _ s;refine Hj<|Pf I hP m5 C hB gG hclo aR λs1 Y B P up L kp fr0 new=>?_;refine Hk ⟨P.Eo,?_⟩
 have nst:∀x c,S.lookup x=Wp c->c∉Eg X.stack:=λx c e z=>by
  rcases nS.mp (I.Gq c z)with q|q
  .exact I.L0 x c (i5 x c e) q
  obtain⟨_,o,ho,_⟩:=I.ok.Ed.mem q;exact absurd (kh ho)<|M6.mpr<|I.ok.cab x c (cP x)<|i5 x c e
 have nfl:B∉Eg X.stack:=λz=>by obtain⟨_,o,ho,_⟩:=I.stack.mem z;rw[new]at ho;cases ho
 have LC:Bb N' scope S (vs.map Wp) Y s1.heap:=by
  rw[<-gq];refine⟨λx y c h1 h2=>I.ok.inj x y c (i5 x c h1)<|i5 y c h2,λx hx=>i7 x<|qV hx,λx c h=>⟨P.cell x c<|i5 x c h,P.freeC x c<|i5 x c h⟩,λl x v h1 h2=>?_,CO.N5.len g⟩;obtain⟨hf,jj,hj,hv⟩:=CO.N5.pre g l v x h2 h1;refine⟨hf,?_⟩;obtain⟨m,hn,hl⟩:=P.loc;have i9:=CO.free (x,.free) (qV hf) XV;obtain⟨u,r,q⟩:=hl jj x v hj hv (by rcases i9 with z|z;exact .inr<|.inl z;exact .inr<|.inr z);rcases q with⟨ei,_⟩|⟨_,c,hc,i3⟩
  .have bJ:X.env.scope.names.lookup x=Wp .local:=ei;rcases i9 with z|z<;>(have z':X.env.scope.names.lookup x=_:=z;rw[bJ]at z';cases z')
  obtain⟨J,af⟩:=i7 x<|qV hf;have:=i5 x J af;rw[hc]at this;cases this;exact⟨c,u,af,i3,r⟩
 have noT:∀(g:L2.St)(a:iG),¬A1 g (t.map Wp) a:=WZ dB;obtain⟨oc,od,kV,doc,pm,an,b7,ct,o7,rfl,lkr,hcdr⟩:=F.ex;have hbt:=gX s1 [.ref B] P.Eo XV;refine B6 (yg<|sy (UG (CX:=Fx) (E:=L2.E0) (Q:=λv p=>B8 X.K T g U H (d,W1) U v p) (vs:=[.ref B]) lkr hcdr R.sc hr P.Lf hbt (.cons XV .nil) XV λdf=>?_) (R:=L2.CR Fx X.stack X.prog X.w Y s1 (λv p=>B8 X.K T g U H (d,W1) U v p) L2.E0) λrr s2 hq=>?_) (Q:=EP X pins g λv p=>B8 X.K T g U H (d,W1) U v p) λv s2 ⟨x,G,I2,rx,q⟩=>⟨x,G,I2,rx,kq x G q⟩
 .obtain⟨p1,p2,p3,p4,p5,p6,p7,p8,p9,S1,rest,bM,hq⟩:=R.body;obtain⟨sw1,sw2,fM,Z⟩:=hq b7 X.A X.stack s1 Y ⟨λ_=>False,WF⟩ (λ_ z=>z.elim) df
  have nl:∀{n:Nat}{a:iG}{g:L2.St},¬A1 g (ai n WF) a:=λ{n a g} a'=>by
   obtain⟨l,e,h1,_⟩:=a'
   rw[wk]at h1;split at h1<;>cases h1
  have hlen:(L2.oZ NR [V.ref B]).length=(X0 NR):=by
   have:1<=(X0 NR):=by have:=oo c3 R.sc.pre;rw[uX]at this;simp at this;lia
   unfold L2.oZ;simp;lia
  have fin:∀(z:D)(G:Hp)(O:L2.St)(v0:V),Co (X0 NR) i w9 z=Wp d->(∀a o,Y a=Wp o->G a=Wp o)->(∀a,Y a≠WF->G a≠WF)->X0 O=X0 NR->O[i]?=Wp (Wp v0)->Rep X.K G (λ_=>False) z v0->
    tS X.K (λi=>i∈asg) ⟨λ_=>False,WF⟩ Y w9 {nx:=λ_ p=>B8 X.K T g U H (d,W1) U .A7 p,rt:=λv p=>B8 X.K T g U H (d,W1) U v p} O G:=λz G O v0 ht W dm2 v9 dw rz=>by
   unfold Co at ht;split at ht
   case h_2=>cases ht
   rename_i rr δr hfs;obtain⟨hs,rfl⟩:=jm ht;refine⟨_,λ_=>False,_,Xi v9 dw rz,⟨λl a ⟨d,h1,h2⟩=>absurd ⟨l,d,h1,h2⟩<|zw O a,dm2,λ_ _ z=>z,λ_ h=>nomatch h⟩,hfs,λv σ3 H3 S3 hrv=>?_⟩;have ext:∀a o,H a=Wp o->H3 a=Wp o:=λa o q=>S3.kp a o (W a o<|up a o q)<|zw O a;exact⟨.ext ext,E1.mono (λb o q _=>ext b o q) (λ_ _ z=>z) λa z=>(E1.dom a z).up<|ext a,Jd hs hrv.2⟩
  rw[bM];have Xs:=(sd Fx X.prog X.w X.K X.mg X.base NR xf (iT st) fr b7 X.A X.stack s1 Y L2.E0).IE
  have run:∀(E:XK)(J:iG)(s:iL)(H:Hp),B7 k ((X.A.deeper<|aZ xf (iT st) s1.heap.objs.size fr b7).deeper<|Bm (X.env.qual++"<lambda>") scope s.heap.objs.size B (.ref J) S)->
    PE (uf (Hx X.prog X.w) X.prog X.w X.K X.mg X.base N' (X.env.qual++"<lambda>") scope B (.ref J) S (X.A.deeper<|aZ xf (iT st) s1.heap.objs.size fr b7) (aZ xf (iT st) s1.heap.objs.size fr b7::X.stack) s H E) body (λg H Q=>tF X.K fB g H Q\/tZ X.K X.mg E xB g H):=λE J s H gv=>
   let⟨h1,h2⟩:=hb B S J _ _ s H E gv
   PE.or h1 h2
  have LI:LW (sd Fx X.prog X.w X.K X.mg X.base NR xf (iT st) fr b7 X.A X.stack s1 Y L2.E0).IE N' scope S (vs.map Wp) (X.env.qual++"<lambda>") params body B k (λE g H Q=>tF X.K fB g H Q\/tZ X.K X.mg E xB g H):=⟨LS,LC,L,nfl,nst,k9 S,run⟩
  have h0:NR[0]?=Wp xc:=by have:=oo (λl=>l[0]?) R.sc.pre;simpa using this
  have pt:=V2 (p4:=p4) (p8:=p8) (p9:=p9) LI XV XV XV df h0 (.inl R.lc) R.db.1 R.db.2.1 sw1 R.gl R.mg R.db.2.2.2.2 R.sc.nd R.hi R.hj R.ij R.lx R.ln R.db.2.2.1 R.db.2.2.2.1 sw2;refine⟨_,(tM fM<|tM pt Z).IE,?_⟩;have gE:i<(X0 NR):=(uj.mp R.hi).1;refine⟨ai (X0 NR) WF,λ_=>False,.nx<|(ai (X0 NR) WF).set i<|Wp (.A7,W1),⟨by simp[hlen],λl d h=>?_,λl d h=>?_,λl m d e a h=>?_,λa z=>absurd z nl,λ_ z=>z.elim⟩,⟨λl a ⟨d,h1,h2⟩=>absurd ⟨l,d,h1,h2⟩ nl,λ_ z=>z,λ_ _ z=>z,λ_ h=>nomatch h⟩,?_,λσ1 G K1 ER1=>?_⟩
  .rw[wk]at h;split at h<;>cases h
  .rw[wk]at h;split at h<;>cases h
  .rw[wk]at h;split at h<;>cases h
  .show(if i<(ai (X0 NR) (WF:Sl)).length then Wp (Out.nx _)else WF)=_;rw[iZ<|by simpa using gE]
  have W:∀a o,Y a=Wp o->G a=Wp o:=λa o q=>K1.kp a o q nl;have av:(X0 σ1)=(X0 NR):=by have:=ER1.len;simpa using this
  have hs0:σ1[0]?=Wp (Wp<|V.ref B):=by rw[K1.as 0 R.as0];unfold L2.oZ;rfl
  have Ec2:ER X.K G (Tc T g U vs t) (vs.map Wp) (t.map Wp):=Ec.mono (λb o q _=>W b o<|up b o q) (λ_ _ z=>z) λa z=>(Ec.dom a z).up λo q=>W a o<|up a o q;split at hd
  ·
   rename_i z hz;refine⟨hs0,λ_ _ _=>False,.inl ⟨_,_,z.1,z.2,Ec2,hz,λv H3 P3=>?_⟩,λ_ _ z=>z.elim,λ_ _ _ _ z=>z.elim⟩;obtain⟨v0,fm,dN⟩:=ER1.val i .A7 (by rw[oH<|by simpa using gE]);refine fin .A7 H3 σ1 v0 hd (λa o q=>P3.1.kp a o (W a o q)<|noT _ a) (λa q=>P3.1.dm a<|K1.dm a q) av fm<|Jd XV dN
  
  obtain⟨cn,hx,hd⟩:=iM hd;obtain⟨C0,hC0,hd⟩:=iM hd;obtain⟨hmC,ck⟩:=ie cn C0 hC0;refine⟨hs0,λcls _ p=>cls=.ref C0/\∀a o,G a=Wp o->p a=Wp o,.inr ⟨_,_,cn,Ec2,noT _,hx,λp C' eV fD=>?_⟩,λC' p ⟨q,_⟩=>?_,λC' p ea o ⟨q,eV⟩ hn ho=>?_⟩
  .rw[hmC]at fD;cases fD;exact⟨rfl,eV⟩
  .cases q;exact ck.up
  cases q;have dJ:∀a M,p a=Wp M->upd p ea (.BZ o<|.own 0) a=Wp M:=λa M q=>by rw[jx<|lD q hn];exact q
  refine fin (.AF (.exc C0) [] []) _ _ (.ref ea) hd (λa M q=>dJ a M<|eV a M<|W a M q) (λa q=>?_) (by simp[av]) (by rw[oH<|by simpa[av]using gE]) (Rep.LF (us:=[]) (λz=>z) ⟨⟨rfl,rfl,rfl⟩,o,jv,ho,λa=>Ph ck.k ho,ck.ty⟩ YP.nil)
  cases hh:Y a with
  |none=>exact absurd hh q
  |some M=>rw[dJ a M<|eV a M<|W a M hh];simp
 cases rr with
 |error e=>exact aW hq
 |ok f=>
  cases f with
  |ret u=>exact P.after hq
  |_=>exact aW hq
end
def iD:D->Int
 |.int i=>i
 |_=>0
def WU:D->Option (D×Bool)
 |.lst l=>if l.all Ln=C then Y (.int<|l3 (λj=>iD<|l.getD j .A7)<|X0 l,U)else J
 |_=>J
theorem AY:∀{c:jP}{b:iO},d7 c b->∃a:List (Int×tz),c=a.map (λp=>gH p.1 p.2)/\b=a.map (·.1)
 |_,_,.nil=>⟨[],rfl,rfl⟩
 |_,_,.cons n t r=>let⟨a,h1,d⟩:=AY r;⟨(n,t)::a,by rw[h1];rfl,by rw[d];rfl⟩
theorem yM{f g:Nat->Int}:∀n,(∀j,j<n->f j=g j)->l3 f n=l3 g n
 |0,_=>rfl
 |n+1,h=>by rw[l3,l3,yM n λj a=>h j<|by lia,h n<|by lia]
section
variable {X:Cx}
def afG(i:X.calm=C):kI X (.builtin "sum") (Fp X.K<|g1 WU):=oR λe s N H x u Q O d z I B np hd b G=>by
 cases d with
 |lst l=>
  obtain⟨h,rfl⟩:=jm b;obtain⟨p,T,rfl,q,r⟩:=lh hd;cases B;obtain⟨t,v,y,_⟩:=I.list q;obtain⟨L,c,n⟩:=Zj h r v;obtain⟨f,g,a⟩:=AY n;have k:X.A.handled=J:=I.ok.hd i
  have o:s.heap.IsList p (intItems f.toArray):=by have:=y.isList;rw[g]at this;simpa[intItems]using this
  refine sum_intListG k o λE M t' w=>?_;refine⟨.int<|l3 (λj=>iD<|l.getD j .A7)<|X0 l,H,I.kept (t':=M) w,⟨t',?_⟩,G.int⟩;have:(X0 l)=(X0 f):=by rw[c,a];simp
  rw[this,kH]
  congr 1
  refine yM _ λj m=>?_;rw[c,a];simp[numAt,iD,m]
 |_=>cases b
def W0(l:List D):Option Nat:=(pB l).bind λbs=>bs.findIdx? id
def TF(i:Nat):F:=λa=>match a[i]? with
 |some (Y (.lst l,C))=>(W0 l).bind λj=>if (X0 l)<=1000 then Y ((.int j,U),a)else J
 |_=>J
def ab1(x:V)(b:List V)(T:Hp)(Q:VK):Prop:= ∃(l:iG)(a:List V)(bs:List Bool)(j:Nat),x=.ref l/\b=[.bl C]/\T l=Y (.lst a)/\a=bs.map V.bl/\bs.findIdx? id=Y j/\(X0 bs)<=1000/\Q (.int j) T
theorem IV:∀{bs:List Bool}{a:jP},Vals (bs.map V.bl) a->a=bs.map cF
 |[],_,.nil=>rfl
 |b::bs,_,.cons r t=>by cases r;rw[IV t];rfl
def agJ:Oc X "list.index" ab1:=by
 intro c s N H x T v O Q I M B h;obtain⟨l,G,bs,j,rfl,rfl,i,rfl,o,E,q⟩:=h;cases M;obtain⟨u,rfl,w⟩:=B.one;cases w;obtain⟨z,t,n,r,a,e⟩:=I.K6 i;have k:=IV r;subst k;obtain⟨h1,f,g⟩:=List.findIdx?_eq_some_iff_getElem.mp o
 refine yd F.slot_list_index ⟨_,e,rfl⟩ F.entry_list_index (F.args_list_index_2 _ _)
  (list_indexAt l (bs.map cF).toArray n J #[] (.bool C) (λy=>match y with|.bool b=>b|_=>U) j (by simpa using h1) (by lia) (by simpa using f) (λm L d=>?_)) ⟨e,λy p=>?_,⟨.int j,H,I.tok _,⟨_,rfl⟩,q⟩⟩
 .have:=g m d;simpa using this
 obtain⟨b,_,rfl⟩:=jd<|List.mem_toArray.mp p;have:=EqAt.bool_bool (A:=X.A.in1) (s:=s) b C;cases b<;>simpa using this
variable {B w c o f:br}{i:Nat}{x:ax}{g:Nat}
theorem Jg{K:ji}{T:Hp}{O:AA}:∀{l:List D}{bs:List Bool}{a:List V},pB l=Y bs->YP K T O l a->a=bs.map V.bl
 |[],bs,a,h,r=>by cases h;rw[YP]at r;exact r
 |.bl b::l,bs,a,h,r=>by obtain⟨d,h1,rfl⟩:=jw h;rw[YP]at r;obtain⟨v,k,rfl,e,j⟩:=r;rw[e.bl,Jg h1 j];rfl
theorem Dg:∀{l:List D}{bs:List Bool},pB l=Y bs->X0 bs=X0 l
 |[],_,h=>by cases h;rfl
 |.bl b::l,_,h=>by obtain⟨a,h1,rfl⟩:=jw h;simp[Dg h1]
def agp(hv:PO X (.Name x w) (iJ i))(G:Ma X (.Name x w) "index")
  (J:Ly X o [.Constant (.bool WP) g f])
  (O:(c.endLine==o.line)=WP)(s:aa [.Constant (.bool WP) g f] X.env=(W1,aX (.Constant (.bool WP) g f) X.env)::aa [] X.env)(A:(aK o<|aa [] X.env).any (·.1)=W1):
  PX X (.Call (.Attribute (.Name x w) "index" c) [.Constant (.bool WP) g f] [] o) (TF i):=
 PX.imp (Jy Dt PySem.F.slot_list_index PySem.F.type_list_index agJ hv (lP Us oM s) G J O s A) λZ H Q I=>by
 obtain⟨d,T,W,D,E,e,k⟩:=I;unfold TF at e;split at e
 .rename_i l m;obtain⟨j,n,e⟩:=iM e;obtain⟨bs,r,n⟩:=iM n;obtain⟨C,e⟩:=jm e;obtain⟨rfl,rfl⟩:=uW e;refine⟨d,T,.slot i,d,E,by unfold iJ;rw[m],λv K P=>?_⟩;obtain⟨u,h,b⟩:=P;obtain⟨a,g1,z,g2,V⟩:=h.own i _ m;rw[b]at g1;cases g1;refine⟨.inl ⟨rfl,z,Ej.of g2⟩,d,T,_,d,h,rfl,λy R q=>?_⟩;obtain⟨p,U⟩:=q.rep h;have L:=U.bl;subst L;obtain⟨S,t,Y,M,N⟩:=p.own i _ m;rw[b]at t;cases t;refine⟨_,Y,bs,j,rfl,rfl,M,Jg r N,n,by rw[Dg r];exact C,?_⟩;exact k _ _ (B8.val (u.trans q.1) p Rep.mkInt)
 cases e
end
def zh(a:jQ)(b:Nat):D->Option (D×Bool)
 |.AF (.exc T) _ _=>if a.contains T=C then Y (.bl<|T==b,U)else J
 |_=>J
def WW(a:jQ):D->Option (D×Bool)
 |.AF (.exc T) _ _=>if a.contains T=C then Y (.bl C,U)else J
 |_=>J
section
variable {X:Cx}{e:iR}{fa:FO}{pos p p2:br}{z:ax}{CL:jQ}{D0:Nat}
def WQ{g:D->Option (D×Bool)}{f:iQ}{i:V}(M:RelV i f)(B:∀l,RelV i l->l=f)(A:∀d t,g d=Wp t->∃C' b j m,d=.AF (.exc C') j m/\t=(.bl b,W1)/\kitOne X.K (.ref C') f=Wp b):
  kI X (.builtin "isinstance") (λn H' Q=>∃(O:AA)(d:D)(x:V)(b:Bool),n=[x,i]/\kb X.K H' O d x/\g d=Wp (.bl b,W1)/\Q (.bl b) H'):=by
 intro k s Y H' n T Q I r h;obtain⟨O,d,x,b,rfl,hd,c,q⟩:=h;obtain⟨u,U,rfl,L,E⟩:=wx r;have:=B _ E;subst this;obtain⟨C',G,j,m,rfl,v,hk⟩:=A _ _ c;cases v;obtain⟨a,T,rfl,AF,_⟩:=nh hd;cases L;obtain⟨_,o,e,h1,y,J⟩:=AF;exact kia_one (y a) I.Eo (show A5 X.prog X.w H' s.heap a (.BZ o<|.own 0)from I.hok a _ e).1 hk (λz=>nomatch z) λN=>⟨.bl _,H',I.tok _,rfl,q⟩
def Jm{g:D->Option (D×Bool)}{w2:V}{h:iQ}{a:iR}(y:PO X e fa)(c:PE X a (tC w2))(f:RelV w2 h)(I:∀s,RelV w2 s->s=h)(q:∀d i,g d=Y i->∃C' b r t,d=.AF (.exc C') r t/\i=(.bl b,U)/\kitOne X.K (.ref C') h=Y b)
  (w:Gl X "isinstance")(A:X.mg "isinstance"=WF)(hv:aB "isinstance"=Y (.builtin "isinstance"))(s1:aa [e,a] X.env=(U,aX e X.env)::aa [a] X.env)(L:aa [a] X.env=(U,aX a X.env)::aa [] X.env)(u:(aK pos<|aa [a] X.env).any (·.1)=U):
  PX X (.Call (.Name "isinstance" p) [e,a] [] pos) (lX g fa):=by
 refine PX.imp (tN (WQ (X:=X) f I q) w A hv (lP y (lP c oM L) s1) (by decide) (by decide) s1 u) λN H Q f=>?_;obtain⟨O,T,M,G,E,e,k⟩:=f;obtain⟨o,l,h1,e⟩:=iW e;obtain⟨x,c,e⟩:=iM e;obtain⟨i,n,e⟩:=iM e;obtain⟨rfl,rfl⟩:=jn e;obtain⟨C',b,r,t,rfl,rfl,hk⟩:=q _ _ n;refine⟨O,T,o,l,E,h1,λv J m=>?_⟩;have B:=Ops.cons E m<|Ops.nil<|m.er E;exact⟨_,_,v,b,rfl,B.view (j:=0) XV XV c,n,(B.done k).bl⟩
structure ClT(K:Frag)(mg:lI)(CL:jQ)(D0:Nat)(z:ax):Prop where
 mg:mg z=Wp (.ref D0)
 is:∀C∈CL,kitOne K (.ref C) (.ref D0)=Wp (C==D0)
def xE(T:Tx X.mg)(c:ClT X.K X.mg CL D0 z)(i:QO X e fa)(f:Gl X "isinstance":=by rfl)(a:Gl X z:=by rfl)(g:DB z:=by decide)(s1:aa [e,.Name z p2] X.env=(U,aX e X.env)::aa [.Name z p2] X.env:=by rfl)(l:SE X (.Name z p2) []:=by rfl)(b:BA X pos [.Name z p2]:=by rfl):
  QX X (.Call (.Name "isinstance" p) [e,.Name z p2] [] pos) (lX (zh CL D0) fa):=⟨Jm (w2:=.ref D0) i.h (Jv a c.mg I g) I (λu h=>by cases h;rfl) (λd n h=>by
 unfold zh at h;split at h
 .rename_i Q k m;obtain⟨j,rfl⟩:=jm h;exact⟨Q,_,k,m,rfl,rfl,c.is Q<|by simpa using j⟩
 cases h) f T.n_isinstance oE s1 l b⟩
def xEV(T:Tx X.mg)(c:X.mg "ValueError"=J)(hk:∀Q∈CL,kitOne X.K (.ref Q) (.type "ValueError")=Y C)(g:QO X e fa)(f:Gl X "isinstance":=by rfl)(a:Gl X "ValueError":=by rfl)(s1:aa [e,.Name "ValueError" p2] X.env=(U,aX e X.env)::aa [.Name "ValueError" p2] X.env:=by rfl)(k:SE X (.Name "ValueError" p2) []:=by rfl)(b:BA X pos [.Name "ValueError" p2]:=by rfl):
  QX X (.Call (.Name "isinstance" p) [e,.Name "ValueError" p2] [] pos) (lX (WW CL) fa):=⟨Jm (w2:=.ty "ValueError") g.h (zr (v:=.ty "ValueError") a c (by decide+kernel) I (by decide)<|by decide) I (λu h=>by cases h;rfl) (λd m h=>by
 unfold WW at h;split at h
 .rename_i Q j l;obtain⟨i,rfl⟩:=jm h;exact⟨Q,_,j,l,rfl,rfl,hk Q<|by simpa using i⟩
 cases h) f T.n_isinstance oE s1 k b⟩
variable {x:ax}{i kk:Nat}{c9 apos:br}{a:iR}{f:F}
def aa3(hv:QO X (.Name x c9) (iJ i))(g:Ma X (.Name x c9) "index":=by rfl)
  (j:Ly X pos [.Constant (.bool C) kk p2]:=by rfl)
  (d:(apos.endLine==pos.line)=C:=by rfl)(c:SE X (.Constant (.bool C) kk p2) []:=by rfl)(b:BA X pos []:=by rfl):QX X (.Call (.Attribute (.Name x c9) "index" apos) [.Constant (.bool C) kk p2] [] pos) (TF i):=⟨agp hv.h g j d c b⟩
end
def Oy(Z:ZZ)(k:Nat)(x:ax)(b:jr)(c:List D->Option ax):Prop:= ∃f a,Bn Z.P Z.w Z.K Z.mg Z.base (Hx Z.P Z.w) k f a b (N2 Z.K Z.mg c)/\Z.mg x=Y (.ref f)/\keepIn Z.K (.ref f)=C/\Binds Z.K a b []
def Oy.up{Z:ZZ}{k j:Nat}{x:ax}{c:jr}{d:List D->Option ax}(o:Oy Z k x c d)(h:k<=j:=by decide):Oy Z j x c d:=let⟨f,e,a,b⟩:=o;⟨f,e,a.mono h,b⟩
abbrev BdY(Z:ZZ)(k:Nat)(x:ax)(st:bc)(N:jr)(c:XS):Prop:= ∀(f:iG)(b:iQ)(A:je)(a:List dI)(s:iL)(T:Hp)(E:XK),B7 k (A.deeper<|aZ x (iT st) s.heap.objs.size f b)->un (A.deeper<|aZ x (iT st) s.heap.objs.size f b) 60->un (A.deeper<|aZ x (iT st) s.heap.objs.size f b) 1->un (A.deeper<|aZ x (iT st) s.heap.objs.size f b) 62->N.Nodup->
   LP (sd (Hx Z.P Z.w) Z.P Z.w Z.K Z.mg Z.base N x (iT st) f b A a s T E) E (mn st) c
def oyB{Z:ZZ}{k:Nat}{x:ax}{st:bc}{N d:jr}{g:XS}(a:Fz Z.K Z.mg x st)(S:AJ N d (iT st))(b:LA x st d)
  (j:BdY Z k x st N g):Oy Z (k+1) x d (LX (X0 N) (X0 d) g):=
 let⟨f,i,m,F⟩:=a
 ⟨f,i,Te F S λh A c s T E e=>by have:=e.un;exact j f h A c s T E e (by unfold un;omega) (by unfold un;omega) (by unfold un;omega) S.nd,m,F.kp,F.binds b⟩
def ClX(Z:ZZ)(z:ax):Prop:= ∃T,Z.mg z=Y (.ref T)/\excIn Z.K T Nv "ValueError.__new__"=C
section
variable {X:Cx}{P:jh}{w:jc}{g:List dI}{n:Hp}{s0:iL}{E:XK}{A:ki}{st:bc}{Ij b:List bc}{x y:XS}{e:iR}{d p q:br}{f:FS}{z:ax}{a:iR}{m:F}{k:Nat}{o:jr}{j:List D->Option ax}{i:kD}{fs:List FO}{l:FT}{c:iR}
def zR(T:FV X P w g n s0 E)(c:ClX (zX X) z)(s:QX X a m)(t:X.calm=C:=by rfl)(u:Gl X z:=by rfl)(hd:DB z:=by decide)(B:aa [a] X.env=[(U,aX a X.env)]:=by rfl):PZ X E (.Raise (Y<|.Call (.Name z p) [a] [] q) J d) (Hr z m):=
 let⟨_,v,r⟩:=c;Ra T t r v u s.h hd B
def zI(s:QT X c l)(r:LP X E Ij x):PZ X E (.If c Ij b d) (Mb l x zNo):=aaN s.h r aaM
def zC(Q:FV X P w g n s0 E)(M:B7 k X.A)(O:Oy (zX X) k z o j)(t:QA X (e::i) fs)(B:Gl X z:=by rfl)(s:DB z:=by decide)(v:SE X e i:=by rfl)(r:BA X d i:=by rfl)(G:X.prog=P:=by rfl)(L:X.w=w:=by rfl):Lh X E (.Call (.Name z p) (e::i) [] d) (Cj j fs):=by subst G;subst L;obtain⟨f,T,F,N,hk,u⟩:=O;exact UW Q F M B N hk u t.h s v r
def zE(h:Lh X E e x)(r:bQ e J d.line X.env=pure U:=by rfl):PZ X E (.Expr e d) x:=UU h r
end
def agq{P:jh}{w:jc}{K:Frag}{d:lI}{base:jb}{N:jr}{q:ax}{scope:jI}{c:iG}{cd:iQ}{b:kW}{A:je}{a:List dI}{s:iL}{T:Hp}{E:XK}:
  FV (uf (Hx P w) P w K d base N q scope c cd b A a s T E) P w a T s E:=⟨rfl,rfl,rfl,rfl,rfl,rfl,rfl,rfl,λ_ _ h=>h⟩
def T8(q:ax)(a:iG)(T:Hp):Prop:= ∃more,T a=Y (.tbl (#[.str q 0]++more))
def spT(TB:List (iG×ax))(a:Sp):Sp:=λb T Q E=>(∀p∈TB,T8 p.2 p.1 T)/\a b T Q E
structure NY(X:Cx)(Pt:iG):Prop where
 t:T8 (X.env.qual++"<lambda>") Pt X.H₀
 c:∃c,X.env.code=.ref c/\CodeHd X.base c Pt
 b:X.base.BuiltinsAt X.mg Pt
 g:aj≠Pt
def Rf(Z:ZZ)(st:bc)(h:jr)(a f n o m:ax)(i j k:Nat)(c:jQ)(l:FS)(g:ax->Option Nat):Prop:=
 ∃d e CR,Ii Z.K a a st d e/\Binds Z.K e [f] []/\Z.mg a=Y (.ref d)/\(∀X:Cx,zX X=Z->K0 X st h d a f n o m CR i j (k+1) c l)/\∀z b,g z=Y b->Z.mg z=Y (.ref b)/\ClK Z.K b CR
def HY(scope:jI):Bool:=decide (scope.kind=.function)&&!scope.isCoroutine&&!scope.isGenerator&&(scope.names.all λy=>y.2 != .cell)
def ZR{scope:jI}(h:HY scope=C):EM scope:=by unfold HY at h;simp only[ma,mh,wd,Bool.not_eq_true',bne_iff_ne]at h;exact⟨h.1.1.1,h.1.1.2,h.1.2,h.2⟩
def xRf{X:Cx}{Q:iG}{d:bB}{f:iR}{scope:jI}{p C pf:br}{l:jQ}{y:jr}{z:F}{xB:XS}{I:FS}{v:ax->Option Nat}{u:jQ}{st:bc}{r xc xr xx xn:ax}{i j k B:Nat}
  (hr:B7 (k+2) X.A)(R:Rf (zX X) st y r xc xr xx xn i j k u I v)(q:NY X Q)
  (hb:∀(o:iG)(m:kW)(n:iG)(A:je)(e:List dI)(s:iL)(H:Hp)(E:XK),B7 k (A.deeper<|Bm (X.env.qual++"<lambda>") scope s.heap.objs.size o (.ref n) m)->
   QX (uf (Hx X.prog X.w) X.prog X.w X.K X.mg X.base (cN X.N l []) (X.env.qual++"<lambda>") scope o (.ref n) m A e s H E) f z/\Lh (uf (Hx X.prog X.w) X.prog X.w X.K X.mg X.base (cN X.N l []) (X.env.qual++"<lambda>") scope o (.ref n) m A e s H E) E f xB)
  (L:uG X.N X.env.scope scope (cN X.N l []) l 0=WP:=by kernel_rfl)(O:HY scope=WP:=by kernel_rfl)(hl:(X0 y)=B:=by rfl)(Y:Gl X r:=by rfl)(J:DB r:=by decide)(G:∀x,X.fn x=WP:=by exact λ_=>rfl)(T:tp d X.env=([],[]):=by rfl)(k9:∀m pm n l4,fj (kla_fn "<lambda>" (X.env.qual++"<lambda>") d f scope m pm (.ref n) l4) ⟨[],[]⟩=pure []:=by exact λ_ _ _ _=>rfl)
  (he:SE X (.Lambda d f scope C) []:=by rfl)(M:BA X p []:=by rfl):
  QX X (.Call (.Name r pf) [.Lambda d f scope C] [] p) (LJ l z xB B i I v):=by
 subst hl;obtain⟨fr,bV,CR,F,D,W,S,ie⟩:=R;obtain⟨more,Z⟩:=q.t;obtain⟨c,V,P⟩:=q.c;exact⟨VM (S X XV) F D Y W J G hr Z V P q.b q.g (EN XV XV L) (ZR O) T k9 he M ie λo m n A e s H E U=>let⟨a,b⟩:=hb o m n A e s H E U;⟨a.h,b⟩⟩
def walkT{l:OpenLaw}{q:jh}{m:jr}{XP:(ax->Option iQ)->jb->Prop}{E:jc->jb->Prop}{d:DefRec}{K:Params->Frag}{LV:Nat}{x:ax}{Q:AL}{TB:List (iG×ax)}(hk:B7 LV f6)(hn:l.most=Wp 63)(cR:d.params.defaults=[])(hY:∀(w:jc)(h:jb),E w h->(K w.params).In h)
  (L:∀(w:jc)(h:jb),E w h->∀p∈TB,h.get? p.1=Wp (tabObj #[]))(fL:∀(w:jc),∀p∈TB,(K w.params).lookup p.1=WF)(eC:(TB.map (·.1)).Nodup)
  (F:∀(w:jc)(n:lI)(v:iG)(h:jb),(K w.params).In h->h.Ns aj n->n d.name=Wp (.ref v)->∃I':mG,(∀(s:iL)(u:iQ),gc s I' ⟨[u],[]⟩ [(x,u)])/\(∀p∈TB,∃c,codeHdIn (K w.params) c p.1=WP)/\∀base:jb,(K w.params).In base->base.Ns aj n->(∀p∈TB,base.BuiltinsAt n p.1)->Bn l.prog w (K w.params) n base Fx LV v I' [x] (spT TB<|Iv (K w.params) Q))
  (M:∀A:List Int,X0 A<=63->∃o j,Q [(.lst<|A.map .int,W1)]=Wp ((.bl WP,o),j)):WalkO q m XP E l.row.toRowW d [] (λf B=>wl f B):=by
 refine Att.TZ hn cR λw U D n mb v o pm cd S a B A G Y ho hd m5 O R k i hg=>?_;have C:=hY w _ Y;obtain⟨I',hb,fK,hF⟩:=F w n v _ C G.T.g O;have N:=L w _ Y;refine afT (TB:=TB) C G.T.g G.T.b G.T.builtins G.T.nolimit hg N (fL w) (λp t=>?_) eC (λp t=>?_) R k (lN i<|by decide) hk hF hb (λH J hS=>?_) λH e s' z=>z
 .obtain⟨c,hc⟩:=fK p t;obtain⟨o,B,_,_,_,_,_,_,_,V,W,X,Z,_⟩:=codeHd_of_K C hc;exact⟨c,o,B,V,W,X,Z⟩
 .obtain⟨P,ob,h1,h2,r,h4,h5,y⟩:=G.T.bmain;refine⟨P,ob,h1,h2,λz=>?_,λz=>?_,r,h4,h5,y⟩
  .obtain⟨o',es,ep,e,dd,_⟩:=G.T.g;rw[z,e]at r;cases r;rw[dd]at y;cases y
  rw[z,N p t]at r;cases r;cases y
 obtain⟨o,j,e⟩:=M A i;exact⟨λp t=>⟨#[],by rw[J.all p t];rfl⟩,SO J.all hS e⟩
def acr(TB:List (iG×ax))(T:Hp):Prop:= ∀p∈TB,T8 p.2 p.1 T
def fnU{Z:ZZ}{k:Nat}{x:ax}{st:bc}{N d:jr}{c:jQ}{fs:FS}{f:iG}{e:mG}{TB:List (iG×ax)}(F:Ii Z.K x x st f e)(S:AJ N d (iT st))
  (m:∀(b:iQ)(A:je)(a:List dI)(s:iL)(T:Hp)(E:XK)(L:LL),(∀i,L.p i->i<X0 d)->B7 k (A.deeper<|aZ x (iT st) s.heap.objs.size f b)->
   un (A.deeper<|aZ x (iT st) s.heap.objs.size f b) 60->un (A.deeper<|aZ x (iT st) s.heap.objs.size f b) 1->un (A.deeper<|aZ x (iT st) s.heap.objs.size f b) 62->un (A.deeper<|aZ x (iT st) s.heap.objs.size f b) 90->N.Nodup->
   b=e.code->acr TB T->QQ (sd Fx Z.P Z.w Z.K Z.mg Z.base N x (iT st) f b A a s T E).IE (λi=>i∈c) L T (mn st) fs):
  Bn Z.P Z.w Z.K Z.mg Z.base Fx (k+1) f e d (spT TB<|Iv Z.K<|AG (X0 N) (X0 d) c fs):=by
 obtain⟨r,t,kV,j,u,an,b,ct,q,rfl,lk,n⟩:=F.ex;refine P7 lk n S (λo T Q E h=>Jb h.2) λA a s T o Q E g h=>?_;obtain⟨L,h1,l⟩:=Nz h.2;have:=g.un;exact⟨_,((m b A a s T E L h1 g (by unfold un;omega) (by unfold un;omega) (by unfold un;omega) (by unfold un;omega) S.nd I h.1).h).IE,l⟩
def acj{Z:ZZ}{k:Nat}{x q:ax}{st:bc}{N e:jr}{asg:jQ}{fs:FS}{f c d:iG}{g:mG}{TB:List (iG×ax)}(F:Ii Z.K x x st f g)(u:g.code=.ref c)(n:CodeHd Z.base c d)(m:Z.base.BuiltinsAt Z.mg d)(y:aj≠d)(z:(d,q)∈TB)(S:AJ N e (iT st))
  (t:∀(f:iG)(b:iQ)(A:je)(a:List dI)(s:iL)(O:Hp)(E:XK)(L:LL),(∀i,L.p i->i<X0 e)->B7 k (A.deeper<|aZ x (iT st) s.heap.objs.size f b)->
   un (A.deeper<|aZ x (iT st) s.heap.objs.size f b) 60->un (A.deeper<|aZ x (iT st) s.heap.objs.size f b) 1->un (A.deeper<|aZ x (iT st) s.heap.objs.size f b) 62->un (A.deeper<|aZ x (iT st) s.heap.objs.size f b) 90->N.Nodup->
   NY (sd Fx Z.P Z.w Z.K Z.mg Z.base N x (iT st) f b A a s O E).IE d->QQ (sd Fx Z.P Z.w Z.K Z.mg Z.base N x (iT st) f b A a s O E).IE (λi=>i∈asg) L O (mn st) fs)
  (B:∀(L f:iG)(cd:iQ),(aZ x (iT st) L f cd).qual++"<lambda>"=q:=by exact λ_ _ _=>rfl):Bn Z.P Z.w Z.K Z.mg Z.base Fx (k+1) f g e (spT TB<|Iv Z.K<|AG (X0 N) (X0 e) asg fs):=
 fnU F S λb A a s O E L o T h1 h j l Q v r=>t f b A a s O E L o T h1 h j l Q ⟨by show T8 ((aZ x (iT st) s.heap.objs.size f b).qual++"<lambda>") d O;rw[B];exact r _ z,⟨c,v.trans u,n⟩,m,y⟩
def Nt(K:Frag)(d:lI)(x:ax)(st:bc)(b:iG):Prop:= ∃f a c,d x=Y (.ref f)/\Ii K x x st f a/\a.code=.ref c/\codeHdIn K c b=C
def fzT{K:Frag}{h:jb}{g:lI}{x:ax}{st:bc}{f c d:iG}{m:iQ}{n an:Option iG}{j:yI}{kV b o ct:iQ}(X:K.In h)(G:h.Ns aj g)(a:nsIn K aj x=Y (Y<|.ref f))
  (l:K.lookup f=Y ⟨m,n,.func<|fnOf x x (qv st) (mn st) (iT st) .none kV b o an (.ref c) ct,j⟩)(e:codeIn K (.ref c) x=C)(k:keepIn K (.ref f)=C)(i:codeHdIn K c d=C):Nt K g x st d:=⟨f,_,c,mg_of X G a,PY l e k,rfl,i⟩
def Nt.cd{K:Frag}{d:lI}{x:ax}{st:bc}{b:iG}(a:Nt K d x st b):∃c,codeHdIn K c b=C:=let⟨_,_,c,_,_,_,h⟩:=a;⟨c,h⟩
section
variable {X:Cx}{k:Nat}{f:iG}{g:mG}{d:jr}{x:ax}{p b:br}{e a:iR}{j:kD}{i:AL}{fs:List FO}{c:FO}{TB:List (iG×ax)}
def aaV(r:X.mg "sum"=J)(m:QA X [a] [c])(n:X.calm=C:=by rfl)(q:Gl X "sum":=by rfl)(o:SE X a []:=by rfl)(l:BA X b []:=by rfl):QX X (.Call (.Name "sum" p) [a] [] b) (jl (g1 WU) [c]):=
 ⟨Jn (afG n) q r (by decide+kernel) m.h (by decide) (by decide) o l⟩
end
structure EG(K:Frag)(mg:lI)(ct rs:List (ax×Nat))(CR:Nat):Prop where
 m:∀p∈ct,mg p.1=Wp (.ref p.2)
 mr:∀p∈rs,mg p.1=Wp (.ref p.2)
 is:∀p∈rs,∀r∈ct,kitOne K (.ref p.2) (.ref r.2)=Wp (p.2==r.2)
 ve:∀p∈rs,kitOne K (.ref p.2) (.type "ValueError")=Wp WP
 ck:∀p∈rs,ClK K p.2 CR
 ex:∀p∈rs,excIn K p.2 Nv "ValueError.__new__"=WP
 su:mg "sum"=WF
 vm:mg "ValueError"=WF
 re:mg "RiddleError"=Wp (.ref CR)
def aN{a:Type}{P:a->Prop}:∀p∈([]:List a),P p:=λ_ h=>nomatch h
def aC{b:Type}{P:b->Prop}{a:b}{l:List b}(h:P a)(r:∀p∈l,P p):∀p∈a::l,P p:=List.forall_mem_cons.mpr ⟨h,r⟩
def KC(ct:List (ax×Nat))(z:ax):Nat:=(ct.lookup z).getD 0
section
variable {Z:ZZ}{ct a:List (ax×Nat)}{CR:Nat}
def Lm{z:ax}{T:Nat}(h:ct.lookup z=Y T):(z,T)∈ct:=qV h
def EG.x(c:EG Z.K Z.mg ct a CR)(z:ax)(h:(a.lookup z).isSome=C:=by decide):ClX Z z:=by obtain⟨T,b⟩:=Ko.mp h;exact⟨T,c.mr _ (Lm b),c.ex _ (Lm b)⟩
def EG.t{K:Frag}{d:lI}(c:EG K d ct a CR)(z:ax)(h:(ct.lookup z).isSome=C:=by decide):ClT K d (a.map (·.2)) (KC ct z) z:=by
 obtain⟨T,b⟩:=Ko.mp h;have:KC ct z=T:=by unfold KC;rw[b];rfl
 rw[this];refine⟨c.m _ (Lm b),λD e=>?_⟩;obtain⟨p,f,rfl⟩:=jd e;exact c.is p f _ (Lm b)
def EG.v{K:Frag}{e:lI}(c:EG K e ct a CR):∀T∈a.map (·.2),kitOne K (.ref T) (.type "ValueError")=Y C:=λD b=>by obtain⟨p,d,rfl⟩:=jd b;exact c.ve p d
def EG.ci(c:EG Z.K Z.mg ct a CR):∀z b,a.lookup z=Y b->Z.mg z=Y (.ref b)/\ClK Z.K b CR:=λz T h=>⟨c.mr _ (Lm h),c.ck _ (Lm h)⟩
end
def acg{K:Frag}{j:lI}{x y:ax}{st:bc}{i h:iG}(a:Nt K j x st h)(l:j x=Y (.ref i))(b:LA x st [y]):∃d c,Ii K x x st i d/\d.code=.ref c/\codeHdIn K c h=C/\∀(s:iL)(v:iQ),gc s d ⟨[v],[]⟩ [(y,v)]:=by obtain⟨f,d,c,m,F,h1,n⟩:=a;have e:=l.symm.trans m;cases e;refine⟨d,c,F,h1,n,?_⟩;obtain⟨q,r,kV,g,o,an,k,ct,p,e,_⟩:=F.ex;exact λs v=>by subst e;exact .of_eq<|b kV g o an k ct [v] I
section
variable {X:Cx}{x y a b c d:iR}{u v z:ax}{t s r q:FO}{f l k j i h:br}{p o n:Nat}{m g e:cC}
end
end PX
namespace TT
section
variable {a:jh}{w:jc}{A:je}{E:jB}{s:iL}
end
end TT
namespace PX
open L2 PySem.SeqAt
section
variable {X:Cx}{e:iR}{f:F}{c:FO}{b g a d p:br}{i:Nat}{x:ax}
end
open PySem.W
section
variable {X:Cx}{E:XK}{A:ki}{c iter:iR}{a:List bc}{d:Cb}{t:Tg}{e:FS}{x:XS}{b:br}
end
section
variable {X:Cx}{k:iR}{c:FO}{a b:br}{j:Nat}
end
section
variable {X:Cx}{b:jF}{d:L2.St}{H:Hp}{s:iL}
variable {a:iR}{g:FO}{c p:br}{k:iR}{f:FO}{e:br}{j:Nat}
end
section
variable {K:ji}{T g:AA}{d:L2.St}{e c:Dn}{H h i:Hp}{os:List BN}{f:List V}{b:List (D×Bool)}{a:Dn}{r:D×Bool}{v:V}
end
section
variable {X:Cx}{e:iR}{d:kD}{fs:List FO}{a p:br}{k:Nat}{b:jr}{c:AL}{x:ax}
end
section
variable {X:Cx}{P:jh}{w:jc}{a:List dI}{g:Hp}{s0:iL}{E:XK}{k:Nat}{d:jr}{c:List D->Option ax}{e:iR}{f:kD}{fs:List FO}{z:ax}{p b:br}
end
section
variable {X:Cx}{s c:iG}{a:bB}{b:iR}{scope:jI}{d o pf:br}{p:Nat}{u t:jr}{xB:XS}{n:FS}{v:ax->Option Nat}{e:jQ}{st:bc}{q:iG}{r:mG}{l m g f h:ax}{CR:iG}{i j k:Nat}
end
end PX
namespace L2
open PySem.W
section
variable {X:Cx}{b:jF}{f:St}{H:Hp}{s:iL}{P c:iG}{a:bB}{d:List bc}{g q:ax}{ln:Nat}{scope:jI}{h:kW}{e:br}
end
section
variable {h:Iu}{P:jh}{w:jc}{K:Frag}{e:lI}{base:jb}{N:jr}{c d q:ax}{scope:jI}{f:iG}{cd:iQ}{g:kW}{A:je}{a:List dI}{s:iL}{H:Hp}{E:XK}{b:St}{v:V}{u:iQ}
end
end L2
namespace PX
open L2
end PX
namespace L2
open PySem.W
section
variable {fs:kP}{N:jr}{c q:ax}{scope:jI}{f:kW}{H g:Hp}{h d:jb}{a:bB}{b:List bc}{e:iG}
end
end L2
namespace PX
open L2 PySem.SeqAt PySem.W
section
variable {X:Cx}{A:ki}{L:LL}{w:Hp}{N:jr}{f n q e g d:ax}{scope:jI}{v:kW}{h:List V}{a:bB}{b:List bc}{s:iG}{k i j o:Nat}{r:jQ}{t:AL}{z:L2.St}{p m l u c:br}
end
end PX
namespace L2
open PySem.W
end L2
namespace PX
open L2 PySem.SeqAt PySem.W
section
variable {X:Cx}{A:ki}{L:LL}{H:Hp}{B c x:iG}{b:bB}{f:List bc}{scope:jI}{j d y pf v u:br}{e g h:jQ}{E C:jr}{t l:FS}{st:bc}{z:mG}{s p r w q o n:ax}{i a k m:Nat}
end
open PySem.Builtin.Str
section
variable {X:Cx}
end
section
variable {X:Cx}{o e a:iR}{i k:FO}{b v:ax}{d p c l h g f:br}{j:Nat}
end
section
variable {K:ji}{T:AA}{b:L2.St}{c:Dn}{H:Hp}{A:ki}{i j:Nat}{d:D}{a:iG}
end
section
variable {X:Cx}{A:ki}{L:LL}{d:Hp}{b a c:br}{i j:Nat}{x y:ax}
end
end PX
namespace TT
open PySem.SeqAt
section
variable {a:jh}{w:jc}{A:je}{E:jB}{s:iL}
end
end TT
namespace PX
open L2 PySem.SeqAt TS
def okI:D->Bool
 |.int _=>C
 |_=>U
def Sx(h:okI d=C):∃k,d=.int k:=by cases d<;>first|exact⟨_,rfl⟩|cases h
def Wv(h:okI d=C):D.pr d=C:=by obtain⟨k,rfl⟩:=Sx h;rw[D.pr]
section
variable {X:Cx}{a:jF}{b:L2.St}{H:Hp}{s:iL}
def Iz{e:List D}(c:e.all okI=C)(k:Int):e.any (D.AI · (.int k))=C↔ .int k∈e:=by
 rw[Q5];constructor
 .rintro⟨x,d,f⟩;rw[(vW (Wv<|mh.mp c x d)<|by rw[D.pr]).mp f]at d;exact d
 intro h;exact⟨_,h,(vW (by rw[D.pr])<|by rw[D.pr]).mpr I⟩
end
section
variable {X:Cx}
end
end PX
namespace TT
end TT
namespace PX
open L2 PySem.SeqAt
def ack(a:jQ)(k:Nat)(c:Cb)(d:Tg)(e:FT)(b:FB):F:=Qd J a k c d e b
section
variable {X:Cx}{A:ki}{d:iG}{g:iR}{f:F}
variable {c:pJ}{a:pK}{scope:jI}{e:br}{m:jr}{b:jQ}{k:Nat}{j:Cb}{i:Tg}{h:FT}{l:FB}
end
def Xy(f:F):FB:=λa b=>(f b).bind λp=>if a.all EU=C/\EU p.1.1=C/\(X0 a)<500 then Y (qg a p.1.1,p.2)else J
section
variable {X:Cx}{A:ki}{d:iG}{a:iR}{f:F}
end
open PySem.W
section
variable {X:Cx}{A:ki}{L:LL}{H0:Hp}{N:jr}{u H q t v r:ax}{scope:jI}{J:kW}{y:List V}{b:bB}{e:List bc}{Q:iG}{k i j I:Nat}{O:jQ}{T:AL}{z:L2.St}{p C B G h:br}
variable {M:iG}{c pf E:br}{d f g:jQ}{Y U:jr}{x:FS}{l:AL->FS}{st:bc}{w s o n:ax}{a m:Nat}
end
section
variable {X:Cx}
end
open AutoSeq1 (wpAny_loadPart')
section
variable {X:Cx}
end
def KW:bc->ax
 |.FunctionDef n .. =>n
 |_=>""
def KU(s:bc):List Str:=(qv s).args.map (·.arg)
def loS(s:bc):List Str:=(iT s).names.filterMap λp=>match p.2 with|.local|.cell=>Y p.1|_=>J
def qN(k:fX)(a:List b4):=Lean.Syntax.node .none k a.toArray
def qA:=Lean.Syntax.atom .none
def qK:=Lean.Name.str `Lean.Parser.Tactic
def qM(s:String):=qN<|.str `Lean.Parser.Term s
def qH(t s:String)(a:List b4):=qN (qK t) (qA s::a)
def qT(s:String):=qH s s
def qQ(a:List b4):=qN (qK "tacticSeq") [qN (qK "tacticSeq1Indented") [qN `null a]]
def qF(l:List b4):=qT "first" [qN `null (l.map λt=>qN `group [qA "|",t])]
def qP(f:fX)(a:List b4):=if a.isEmpty then(v5 f).raw else qM "app" [v5 f,qN `null a]
def qU:=qM "hole" [qA "_"]
def qY(a:List b4):=qM "byTactic" [qA "by",qQ a]
def qB:=qY [qT "assumption" []]
def qE(f:fX)(a:List b4):=qT "refine" [qP f a]
def qG:Nat->b4
 |1=>qM "syntheticHole" [qA "?",qA "_"]
 |2=>qB
 |3=>qP `rfl []
 |4=>qY [qF [qQ [qE `afe []],qQ [qE `agq []]]]
 |5=>qP `EG.x [qB,qU]
 |6=>qP `EG.t [qB,qU]
 |7=>qP `EG.vm [qB]
 |8=>qP `EG.v [qB]
 |_=>qP `EG.su [qB]
def qD:Nat->Nat->List b4
 |0,_=>[]
 |n+1,k=>if k=0 then[]else qD n (k / 10)++[qG<|k%10]
def Zs(l:List (fX×Nat×List (Nat×List fX))):Lean.Syntax:=
 let r:=qP `rfl []
 let w t:=qH "withReducible" "with_reducible" [qQ [t]]
 let g:=l.map λg=>
  let f:=qF<|g.2.2.flatMap λp=>p.2.map λn=>qQ [qE n<|qD 9 p.1]
  if g.2.1=0 then qQ [qE g.1 [qG 1],qA ";",w f]else qQ [qT "show" [qP g.1<|ai g.2.1 qU],qA ";",f]
 qQ [qT "repeat'" [qQ [qF (qQ [w<|qT "intro" [qN `null [qU]]]::(g++[qE `dV [qG 1,qG 1],qT "assumption" [],qH "tacticRfl" "rfl" [],qE `bo [r],qE `bh [qP `bo [r]],qE `bh [qP `bh [qP `bo [r]]],qE `bh [qP `bh [qP `bh [r]]]].map (λt=>qQ [t])))]]]
end PX
set_option backward.eqns.nonrecursive true
namespace PV
open L2 PX
noncomputable abbrev aaw:Nat:=100000
abbrev RD:Nat:=6
def yR:FS:=iP (kN<|zk (lX (wQ [.int])<|iJ 0)<|Xd<|lX (wQ [.bool])<|iJ 0) jk
def mP:AL:=AG 1 1 [] yR
def rZ:FS:=iP (kN<|zk (ja mP [iJ 0])<|Bj .LtE .LtE (iJ 1) (iJ 0)<|iJ 2) jk
def lL:AL:=AG 3 3 [] rZ
abbrev lC:=iY<|fC<|.int 1
def A9:FS:=iP (kN<|ja lL [iJ 1,lC,iJ 0]) jk
def qa:AL:=AG 2 2 [] A9
abbrev UY:=iY<|jl (g1 BX) [iJ 1]
def vS:FS:=iP (kN<|zk (ja mP [iJ 1])<|ja qa [iJ 0,UY]) jk
def nH:AL:=AG 2 2 [] vS
abbrev lU:=jJ<|jS 1
abbrev Nb:=jl (g1 BX) [iJ 0]
abbrev Nf:=lX (wQ [.tuple])<|iJ 1
abbrev M9:=iY<|jl (g1 A4) [iJ 1]
abbrev Fd:=iP (kN<|fC<|.bl U) jk
def nr:FS:=iP (EF (Qc (rA<|fT Nf)<|fT<|jf HH M9<|iJ 0) Fd jk)<|iP (EF (rA<|fT<|jl (g1 vQ) [iY<|jD [0] 1 lU (iK 1) jK<|jN<|ja nH [iJ 0,iJ 1]]) Fd jk)<|iP (kN<|jf Gv (iY<|uD [] 1 lU (iK 0) jK<|ET Nb)<|iJ 0) jk
def kO:AL:=AG 2 2 [] nr
abbrev oY:=iY<|fC<|.int 0
abbrev X2:=jf (pV .Gt) (iJ 1) oY
abbrev Yb:=fT X2
def yQ:FS:=iP (kN<|Ky Yb (jf BY (iJ 0)<|iY<|jf F1 (iJ 1) lC)<|lX yz<|iY<|jf BY (iJ 0)<|iY<|jf F1 (iY<|lX yz<|iJ 1) lC) jk
def nN:AL:=AG 2 2 [] yQ
abbrev Kq:=iY<|jl (g1 A4) [iJ 0]
def pW:FS:=iP (EF (fT<|jf (pV .Lt) (iJ 1) Kq) (iP (kN<|jf BY (iJ 0)<|iJ 1) jk) jk)<|iP (kN<|fC<|.int 0) jk
def lY:AL:=AG 2 2 [] pW
abbrev Fe:=fC<|.bl C
abbrev Yh:=iY<|jf PL (iY<|fC<|.int 10)<|iY<|fC<|.int 18
def rX:FS:=iP (kj 2<|ja lY [iJ 0,iJ 1])<|iP (EF (fT<|jf (pV .GtE) (iJ 2) Yh) (iP (kN<|oP [jf F1 (iJ 2) Yh,Fe]) jk) jk)<|iP (kN<|oP [jf A0 (iJ 2)<|iY<|fC<|.int 2147483647,fC<|.bl U]) jk
def mT:AL:=AG 3 2 [2] rX
abbrev IJ:=iP (qp 2) jk
abbrev U0:=jf BY (iJ 0) lC
abbrev uI:=iY<|jf BY (iJ 0) oY
def tY:FS:=iP (EF (fT U0) (iP (kj 2<|jf A0 uI<|iJ 1)<|iP (qx 0 (jf PU uI<|iJ 1) oY) IJ) jk)<|iP (qx 0 (jf A0 (iY<|jf nq (iY<|jf sH uI<|iY<|fC<|.int 48271)<|iY<|fC<|.int 29)<|iY<|fC<|.int 2147483647) oY)<|iP (kj 3<|jf A0 (iY<|jf nq (iY<|jf nq (iY<|jf sH uI uI)<|iY<|jf sH (iY<|fC<|.int 39373) uI)<|iY<|fC<|.int 7)<|iY<|fC<|.int 2147483629)<|iP (kj 3<|jf A0 (iY<|jf nq (iY<|jf sH (iJ 3)<|iJ 3)<|iY<|jf sH (iY<|fC<|.int 16807)<|iJ 3)<|iY<|fC<|.int 2147483587)<|iP (kN<|jf A0 (iY<|jf PU (iJ 3)<|iY<|fC<|.int 8)<|iJ 1) jk
def jM:AL:=AG 4 2 [2,3] tY
abbrev Ah:=kj 3<|oP []
abbrev yK:=iY<|fC<|.int 2
abbrev M8:=lX yz lC
abbrev Rh:=iY<|jf nq (iJ 1) lC
abbrev X9:=iP (kN<|jl (g1 oN) [iJ 3]) jk
abbrev Yr:=Bi 2<|iY<|ja jM [iJ 0,iY<|jl (g1 A4) [iJ 2]]
abbrev YE:=jf BY (iY<|oP [fC<|.int 1,M8])<|iY<|ja jM [iJ 0,yK]
abbrev YH:=iY YE
def acP:FS:=iP (kj 2<|jl (K8 .lst C) [lC,Rh])<|iP Ah<|iP (mE (uN<|iJ 1) (iK 4)<|iP (nj<|lK 3<|jf sH (iY Yr) YH) jk) X9
def mO:AL:=AG 5 2 [2,3,4] acP
abbrev X8:=kj 5<|ja jM [iJ 0,iJ 2]
abbrev Ye:=iY<|ja jM [iJ 0,iY<|fC<|.int 3]
abbrev YF:=kj 2<|jf BY (iY<|oP [fC<|.int 3,fC<|.int 4,fC<|.int 6]) Ye
abbrev zC3:=iP X8<|iP (EF (fT<|jf (pV .Lt) (iJ 5) yK) (iP (nj<|lK 3<|jf BY (iY<|oP [jS 4,lX yz<|iJ 4])<|iJ 5) jk) jk) jk
def ac4:FS:=iP YF<|iP Ah<|iP (mE (zf lC Rh) (iK 4) zC3)<|iP (EF (fT<|jf Gv (iJ 3)<|iY<|oP []) (iP (nj<|lK 3<|jf sH YH<|iY<|jf nq lC<|iY<|ja jM [iJ 0,iJ 1]) jk) jk) X9
def ny:AL:=AG 6 2 [2,3,4,5] ac4
abbrev Ym:=iY<|jl (g1 LD) [iY X2]
abbrev Vb:=iY<|jf BY (iJ 0)<|iY<|jf F1 UY lC
def sD:FS:=iP (kN<|jf sH Vb<|iY<|jf BY (iY<|oP [M8,fC<|.int 1]) Ym) jk
def my:AL:=AG 2 2 [] sD
abbrev Na:=jl (g1 BX) [iJ 4]
abbrev YC:=iP (kj 4<|ja my [iJ 0,iJ 3])<|iP (NK 2 (jS 4)<|iY Na) jk
def wU:FS:=iP (kj 2 UJ)<|iP (mE lU (iK 3) YC)<|iP (kN<|jl (g1 oN) [iY<|jD [2] 1 (jJ<|jl (g1 mK) [iJ 2]) (iK 1) jK<|jN<|jf Ib (iJ 0)<|iJ 1]) jk
def kg:AL:=AG 5 2 [2,3,4] wU
abbrev Yg:=iP (kj 3<|jf nq (iJ 3) lC) jk
abbrev Yi:=fT<|jf (pV .Lt) (iJ 3)<|iY<|jl (g1 A4) [iJ 2]
abbrev Yn:=kj 5<|ja kg [iJ 4,iY<|jf BY (iJ 2)<|iJ 3]
abbrev zC9:=iP Yn<|iP (EF (fT<|jf oO (iJ 5)<|iJ 2) (iP (nj<|lK 2<|jS 5) jk) jk) jk
def ac3:FS:=iP (kj 2<|jl (g1 CP) [iJ 0])<|iP (kj 3<|fC<|.int 0)<|iP (pX Yi (iP (mE lU (iK 4) zC9) Yg) aaw) IJ
def oB:AL:=AG 6 2 [2,3,4,5] ac3
abbrev aaO:=iY<|jl (g1 WV) [iJ 6]
abbrev X1:=jf (pV .Gt) (iJ 4) oY
abbrev Rj:=jl (g1 mK) [aaO]
abbrev Yf:=kj 4<|ja jM [iJ 0,iY<|fC<|.int 4]
abbrev Va:=fT<|jf (pV .Gt) (iY<|jl (g1 A4) [iJ 6])<|iY<|fC<|.int 30
abbrev Ys:=iY<|jf nq lC<|iY<|jf A0 (iJ 4) yK
abbrev aaT:=iY<|jD [] 1 (jJ<|jS 0) (iK 0) jK<|jN Nb
abbrev Yv:=iP (kj 6<|CW (iJ 6)<|iY<|ja jM [iJ 0,iY<|fC<|.int 30]) jk
abbrev Vc:=jl (g1 oN) [aaT]
abbrev YB:=jN Vc
abbrev Vd:=jf BY (iY<|oP [fC<|.int 4,fC<|.int 8,fC<|.int 13]) Ye
abbrev YJ:=kj 3<|jf nq (iJ 1)<|iY<|ja jM [iJ 0,iY<|jf nq (iY<|jf F1 (iJ 2)<|iJ 1) lC]
abbrev zC1:=EF (fT<|jf Gv (iJ 4)<|iY<|fC<|.int 3) (iP (kj 7<|jD [] 1 (jJ<|jS 7) (iK 0) jK YB) jk) jk
abbrev zC0:=EF (fT X1) (iP (kj 7<|jD [0,3] 1 (uN Ys) (iK 2) jK<|jN<|ja mO [iJ 0,iJ 1])<|iP zC1<|iP (kj 6<|ja oB [iY<|CW (iY Rj) yK,iJ 7]) jk) jk
def ac2:FS:=iP YJ<|iP Yf<|iP (EF (fT<|jf Gv (iJ 3) oY) (iP (kN<|nO [fC<|.int 0,nO []]) jk) jk)<|iP (kj 5<|ja jM [iJ 0,iY Vd])<|iP (kj 6<|jD [0,3] 1 (uN<|iJ 5) (iK 2) jK<|jN<|ja ny [iJ 0,iJ 1])<|iP zC0<|iP (kj 6 Rj)<|iP (EF Va Yv jk)<|iP (kN<|nO [jS 3,jl (g1 oN) [iJ 6]]) jk
def nv:AL:=AG 8 3 [3,4,5,6,7] ac2
def CU:FS:=iP (kN<|ja lL [iJ 0,oY,lC]) jk
def pG:AL:=AG 1 1 [] CU
def wW:FS:=iP (kN<|zk Nf<|zk (jf Gv M9<|iJ 0)<|jl (g1 vQ) [iY<|jD [] 1 lU (iK 0) jK<|jN<|ja pG [iJ 0]]) jk
def mU:AL:=AG 2 2 [] wW
def Ge:FS:=iP (kN<|jf Gv Vb<|iY<|Ky Yb (fC<|.int 1)<|fC<|.int 0) jk
def pZ:AL:=AG 2 2 [] Ge
def zi:FS:=iP (kN<|jl (g1 Gd) [iY<|jD [0] 1 lU (iK 1) jK<|jN<|ja pZ [iJ 0,iJ 1]]) jk
def lJ:AL:=AG 2 2 [] zi
abbrev Rc:=Am [iK 2,iK 3]
abbrev X5:=Vw Rc<|jS 0
def P0:FS:=iP X5<|iP (kN<|zk (ja mU [iJ 2,iJ 1])<|jl (g1 vQ) [iY<|jD [1] 1 (jJ<|jS 3) (iK 1) jK<|jN<|ja lJ [iJ 0,iJ 1]]) jk
def ud:AL:=AG 4 2 [2,3] P0
abbrev II:=iP (qp 1) jk
abbrev IK:=iY<|nO [jS 1]
abbrev Fh:=kj 1<|oP [nO []]
abbrev UZ:=nO [fC<|.int 0,fC<|.int 1]
abbrev Rg:=jJ UZ
abbrev U5:=jN<|jf nq (iJ 0) IK
abbrev zC8:=iP (kj 1<|jD [] 2 lU (iK 0) jK<|Ce Rg (iK 1) jK U5) jk
def adm:FS:=iP Fh<|iP (mE (uN<|iJ 0) (iK 2) zC8) II
def oj:AL:=AG 3 1 [1,2] adm
abbrev wq:=jN<|jS 1
abbrev U8:=ja oj [uI]
def aeE:FS:=iP (kN<|jD [0] 1 (jJ U8) (iK 1) (fT<|ja ud [iJ 0,iJ 1]) wq) jk
def qb:AL:=AG 1 1 [] aeE
def CS:FS:=iP (kN<|jf Gv Vb Ym) jk
def rC:AL:=AG 2 2 [] CS
def uO:FS:=iP (kN<|jl (g1 Gd) [iY<|jD [0] 1 lU (iK 1) jK<|jN<|ja rC [iJ 0,iJ 1]]) jk
def lj:AL:=AG 2 2 [] uO
abbrev IL:=iP (kj 1<|jS 3) jk
abbrev YL:=iP (nj<|xa 3<|jD [4] 1 Rg (iK 1) jK U5) jk
def vR:FS:=iP Fh<|iP (mE (uN<|iJ 0) (iK 2)<|iP Ah<|iP (mE lU (iK 4) YL) IL) II
def ml:AL:=AG 5 1 [1,2,3,4] vR
abbrev X4:=jJ U0
abbrev X3:=ja lj [iJ 1,iJ 0]
abbrev U4:=fT X3
abbrev Yq:=kj 1<|ja ml [uI]
abbrev YD:=iP (kj 1<|jD [2] 1 lU (iK 1) U4 wq) jk
abbrev zC7:=mE X4 (iK 2) YD
def acR:FS:=iP Yq<|iP zC7 II
def og:AL:=AG 3 1 [1,2] acR
abbrev M7:=Am [iK 0,iK 1]
def nM(ev:AL):FS:=iP (EF (fT<|lX (wQ [.list,.tuple])<|iJ 1) (iP (EF (Qc (fT<|jf HH (iY<|lX (wQ [.list])<|iJ 0)<|iY<|lX (wQ [.list])<|iJ 1)<|fT<|jf HH (iY<|lX (wQ [.tuple])<|iJ 0)<|iY Nf) Fd jk)<|iP (kN<|zk (jf Gv Kq M9)<|jl (g1 vQ) [iY<|jD [] 2 (yw (iJ 0)<|iJ 1) M7 jK<|jN<|ja ev [iJ 0,iJ 1]]) jk) jk)<|iP (kN<|zk (jf Gv (iY<|lX (wQ [.bool])<|iJ 0)<|iY<|lX (wQ [.bool])<|iJ 1)<|jf Gv (iJ 0)<|iJ 1) jk
def lu:Nat->AL
 |0=>λ_=>J
 |m+1=>AG 2 2 []<|nM<|lu m
abbrev Yd:=rA<|fT<|ja kO [iJ 0,iJ 1]
def ox:FS:=iP (EF Yd (iP Ee jk) jk) jk
def lZ:AL:=AG 2 2 [] ox
def adj:FS:=iP (kN<|jl (g1 oN) [iY<|jl (g1 yy) [iY<|jD [1] 1 (jJ<|jS 0) (iK 1) jK<|jN<|ja nN [iJ 0,iJ 1]]]) jk
def oz:AL:=AG 2 2 [] adj
abbrev XZ:=jf (pV .Gt) (iJ 3) oY
abbrev Yj:=jf F1 (iY<|jl (g1 BX) [iJ 3]) lC
abbrev YN:=iP (qx 1 (Ky (fT XZ) (jS 2)<|lX yz<|iJ 2)<|iY Yj) jk
def Tf:FS:=iP (kj 1<|jl (g1 CP) [iJ 0])<|iP (mE (yx 1<|jS 0) Rc YN)<|iP (kN<|jl (g1 oN) [iJ 1]) jk
def uE:AL:=AG 4 1 [1,2,3] Tf
def ac1:FS:=iP (nj<|ja lZ [Kq,iJ 1])<|iP (kN<|jl (g1 oN) [iY<|jD [0] 1 (jJ<|ja uE [iJ 1]) (iK 1) jK<|jN<|Ky (fT<|ja pZ [iJ 0,iJ 1]) (fC<|.int 1)<|fC<|.int 0]) jk
def oA:AL:=AG 2 2 [] ac1
abbrev Fg:=iY<|lX yz<|iJ 0
abbrev Kr:=iY<|jf nq (iJ 0) lC
def adB:FS:=iP (kN<|jD [] 1 (zf Fg Kr) (iK 0) (fT<|jf HH (iJ 0) oY)<|jN<|jS 0) jk
def oi:AL:=AG 1 1 [] adB
abbrev Nd:=jf oO (iJ 2)<|iJ 1
abbrev XY:=jf nq (iJ 1)<|iY<|nO [jS 2]
abbrev aaR:=jf oO (iY<|lX yz<|iJ 2)<|iJ 1
abbrev U7:=fT aaR
def yC:FS:=iP (kN<|jD [0] 2 lU (iK 1) jK<|Ce (jJ<|ja oi [iJ 0]) (iK 2) (yS (fT Nd) U7)<|jN XY) jk
def mR:AL:=AG 2 2 [] yC
abbrev Ff:=jN<|jS 2
abbrev X7:=iY<|ja oz [iJ 2,iJ 1]
abbrev U3:=jJ<|ja mR [iJ 2,iJ 4]
abbrev Yx:=jf Gv (iY<|jl (g1 BX) [iY<|jf BY (iJ 1)<|iY M8])<|iJ 0
abbrev YK:=fT<|jl (g1 vQ) [iY<|jD [0,2] 1 lU (iK 2) jK<|jN<|jf Lp X7<|iJ 0]
abbrev YM:=kj 6<|jD [5] 1 (jJ<|jS 3) (iK 1) (fT Yx) wq
def yD:FS:=iP X5<|iP (kj 4<|oP [nO []])<|iP (mE (zf lC<|iY<|jf nq (iJ 2) lC) (iK 5)<|iP YM<|iP (kj 4<|jD [1,6] 1 U3 (iK 2) YK Ff) jk)<|iP (qp 4) jk
def mS:AL:=AG 7 2 [2,3,4,5,6] yD
abbrev U2:=iY<|jf BY (iJ 1) lC
def adk:FS:=iP (kN<|Ky (fT<|jf Gv (iY<|jl (g1 A4) [iY U0])<|iY<|jl (g1 A4) [U2]) (ja mS [iJ 0,U2])<|oP []) jk
def qc:AL:=AG 2 2 [] adk
def adi:FS:=iP (kN<|ja qc [iJ 0,iJ 0]) jk
def nu:AL:=AG 1 1 [] adi
abbrev Nc:=jf oO (iJ 5)<|iJ 4
abbrev aaQ:=jf oO (iY<|lX yz<|iJ 5)<|iJ 4
abbrev U6:=fT aaQ
abbrev zC6:=iP (EF (yS (fT Nc) U6) (iP (nj<|lK 3<|jf nq (iJ 4)<|iY<|nO [jS 5]) jk) jk) jk
def uP:FS:=iP Fh<|iP (mE (uN<|iJ 0) (iK 2)<|iP Ah<|iP (mE lU (iK 4)<|iP (mE (jJ<|jf nq (iY<|jl (K8 .lst C) [Fg,oY])<|iY<|jl (K8 .lst C) [lC,Kr]) (iK 5) zC6) jk) IL) II
def lS:AL:=AG 6 1 [1,2,3,4,5] uP
abbrev UX:=iP (kN Fe) jk
abbrev Yk:=jf uC (iY<|ja kg [iJ 0,iJ 3])<|iJ 2
abbrev YG:=iP (EF (fT Yk) Fd jk) jk
def rY:FS:=iP (mE lU (iK 3) YG) UX
def pA:AL:=AG 4 3 [3] rY
abbrev U1:=jN<|nO [jS 0,Fe]
abbrev Yu:=ja pA [iJ 2,U2,iJ 0]
def wR:FS:=iP (kj 1<|jl (g1 yA) [iY<|jD [] 1 X4 (iK 0) jK U1])<|iP (kN<|jD [1,0] 1 (jJ<|ja lS [uI]) (iK 2) (fT Yu) Ff) jk
def mC:AL:=AG 2 1 [1] wR
abbrev X6:=fT<|ja lJ [iJ 1,iJ 0]
def vU:FS:=iP (kN<|jD [1] 1 (jJ<|ja qb [iJ 0]) (iK 1) (rA X6) wq) jk
def lG:AL:=AG 2 2 [] vU
abbrev XW:=ja oA [iJ 0,iJ 1]
def adA:FS:=iP (kN<|jf (pV .LtE) (iJ 0)<|iY XW) jk
def oh:AL:=AG 2 2 [] adA
abbrev Yw:=iP (EF (fT<|ja oh [iJ 2,iJ 0]) Fd jk) jk
def afu:FS:=iP (mE lU (iK 2) Yw) UX
def rB:AL:=AG 3 2 [2] afu
abbrev aaS:=jf F1 (iY Na) lC
abbrev U9:=iY aaS
abbrev zC4:=jf BY (iY<|oP [jf F1 lC<|iY<|jf BY (iJ 1)<|iJ 3,jf BY (iJ 1)<|iJ 3])<|iY<|jl (g1 LD) [iY X1]
def wV:FS:=iP (kj 2<|jl (g1 CP) [iJ 1])<|iP (mE (yx 0<|jS 0) (Am [iK 3,iK 4])<|iP (qx 2 zC4 U9) jk)<|iP (kN<|jl (g1 oN) [iJ 2]) jk
def mD:AL:=AG 5 2 [2,3,4] wV
def vT:FS:=iP (kN<|jl (g1 mK) [iY<|ack [0] 1 lU (iK 1) jK<|Xy XW]) jk
def nI:AL:=AG 2 2 [] vT
def tX:FS:=iP (kN<|jl (g1 oN) [iY<|ja nI [iJ 0,iJ 1]]) jk
def uc:AL:=AG 2 2 [] tX
def CT:List (ax×Nat):=[("NoName",37),("NoBit",49),("NoTurning",61),("NoAnswer",73),("NoNumber",85),("NoClause",97),("NoPutting",109),("TooMany",121),("NoRiddle",133),("BadNote",145)]
abbrev aaP:=jf (pV .Gt) (iJ 0)<|iY<|fC<|.int 4
abbrev Ri:=fT aaP
def nE:FS:=iP (EF Ri (iP Ee jk) jk) jk
def ky:AL:=AG 1 1 [] nE
def nC:XS:=Mb Ri (Hr "TooMany" (fC<|.str "the riddle has more than four names")) zNo
def nD:List D->Option Str:=LX 1 1 nC
def mM(ct a:List (ax×Nat)):FS:=(iP (EF (fT<|jf gIs (iJ 1)<|iY<|fC .A7) (iP (kN<|fC .A7) jk) jk) (iP (kj 3 (oP [(lX (zh (a.map (·.2))<|KC ct "NoName")<|iJ 1),(lX (zh (a.map (·.2))<|KC ct "NoBit")<|iJ 1),(lX (zh (a.map (·.2))<|KC ct "NoTurning")<|iJ 1)])) (iP (kj 3 (jf nq (iJ 3) (iY (oP [(lX (zh (a.map (·.2))<|KC ct "NoAnswer")<|iJ 1),(lX (zh (a.map (·.2))<|KC ct "NoNumber")<|iJ 1),(lX (zh (a.map (·.2))<|KC ct "NoClause")<|iJ 1)])))) (iP (kj 3 (jf nq (iJ 3) (iY (oP [(lX (zh (a.map (·.2))<|KC ct "NoPutting")<|iJ 1),(lX (zh (a.map (·.2))<|KC ct "TooMany")<|iJ 1),(lX (zh (a.map (·.2))<|KC ct "NoRiddle")<|iJ 1)])))) (iP (nj (lK 3 (lX (zh (a.map (·.2))<|KC ct "BadNote")<|iJ 1))) (iP (EF (Qc (rA (fT (lX (WW (a.map (·.2)))<|iJ 1)))<|fT<|jf HH (iY<|jl (g1 WU) [iY<|jD [] 1 (AW<|iJ 3) (iK 0) jK<|jN<|jl (g1 LD) [iJ 0]]) lC) (iP (kN M8) jk) jk)<|iP (kN<|TF 3) jk))))))
def adl:FS:=iP Fh<|iP (mE (zf lC Kr) (iK 2)<|iP (kj 1<|jD [2] 2 lU (iK 1) jK<|Ce (jJ<|nO [nO [],nO [lX yz<|iJ 0],nO [jS 0]]) (iK 2) jK<|jN<|jf nq (iJ 1)<|iJ 2) jk)<|iP (kN<|jl (g1 rW) [iY<|jD [] 1 lU (iK 0) (fT<|jf HH (iJ 0)<|iY<|nO [])<|jN<|jS 0]) jk
def qd:AL:=AG 3 1 [1,2] adl
abbrev Yt:=iP (EF (fT<|ja rB [iJ 2,iJ 1]) IJ jk) jk
def nY:FS:=iP (mE (jJ<|jS 0) (iK 2) Yt)<|iP (kN<|fC .A7) jk
def kZ:AL:=AG 3 2 [2] nY
def yB:FS:=iP (kN<|jD [] 1 (jJ<|ja qd [iJ 0]) (iK 0) (fT<|jf (pV .LtE) Kq yK)<|jN<|jS 0) jk
def lz:AL:=AG 1 1 [] yB
abbrev Yc:=iY<|ja lG [iJ 0,iJ 3]
abbrev zC2:=iP (kj 4<|ja kZ [iJ 1,Yc])<|iP (EF (fT<|jf ED (iJ 4)<|iY<|fC .A7) (iP (nj<|lK 2<|nO [jS 3,jS 4]) jk) jk) jk
def zj:FS:=iP (nj<|ja ky [uI])<|iP (kj 1<|ja nu [iJ 0])<|iP (kj 2<|oP [])<|iP (mE (jJ<|ja lz [uI]) (iK 3) zC2) IJ
def lg:AL:=AG 5 1 [1,2,3,4] zj
def oJ:XS:=Cj nD [uI]
def mv:List D->Option Str:=LX 5 1 oJ
def zo:List (ax×Nat):=[("TooMany",121)]
def adz:FS:=iP (kj 1<|jf nq (iY<|jl (K8 .lst C) [Fg,oY])<|iY<|jl (K8 .lst C) [lC,Kr])<|iP (kj 2<|jD [] 1 lU (iK 0) jK<|jN<|nO [jS 0])<|iP (mE lU (iK 3)<|iP (nj<|xa 2<|jD [3] 1 lU (iK 1) (fT<|jf (pV .Gt) UY<|iY Nb)<|jN<|nO [jS 0,jS 1]) jk)<|iP (kN<|jl (g1 rW) [iJ 2]) jk
def pz:AL:=AG 4 1 [1,2,3] adz
abbrev Ng:=Am [iK 1,iK 2]
abbrev Yl:=jf (pV .Lt) (iY<|ja mD [iJ 0,iJ 1])<|iJ 1
abbrev Yy:=fT<|jl (g1 vQ) [iY<|jD [2] 1 (jJ<|jS 0) (iK 1) jK<|jN<|jf Ic (iJ 1)<|iJ 0]
abbrev Yz:=jl (g1 yA) [iY<|jD [] 1 (jJ<|jS 4) (iK 0) jK U1]
abbrev YA:=jD [6] 1 lU (iK 1) (rA U4) wq
abbrev YI:=jD [3] 1 lU (iK 1) (fT Yl) wq
abbrev Ve:=iP (EF (fT<|jf HH (iJ 8)<|iY<|oP []) (iP (nj<|lK 5<|nO [jS 6,jf BY (iJ 8) oY]) jk) jk) jk
def acQ:FS:=iP (kj 1<|ja og [iJ 0])<|iP (kj 2<|oP [])<|iP (mE (jJ<|ja mC [iJ 0]) (iK 3)<|iP (kj 4 YI)<|iP (nj<|lK 2<|nO [jS 3,Yz]) jk)<|iP (kj 5<|oP [])<|iP (mE (jJ<|ja pz [uI]) (iK 6)<|iP (kj 7 YA)<|iP (kj 8<|jD [7] 2 (jJ<|jS 2) Ng Yy wq) Ve)<|iP (qp 5) jk
def nZ:AL:=AG 9 1 [1,2,3,4,5,6,7,8] acQ
abbrev XU:=kj 4<|ja nZ [iJ 3]
abbrev XX:=ja (lu RD) [iJ 6,iJ 4]
abbrev Ya:=kj 2<|ja mT [iJ 0,iJ 1]
abbrev Yp:=kj 3<|ja nv [iJ 2,oY,iY<|fC<|.int 4]
abbrev Yo:=kj 7<|ja nv [iJ 2,iY<|fC<|.int 5,iY<|fC<|.int 5]
abbrev zC5:=iP (kj 6<|ja lg [iJ 3])<|iP (EF (rA<|fT XX) Fd jk)<|iP (nj<|lK 6<|nO []) jk
def A6:FS:=iP (mE (uN<|iY<|jl (g2 PQ) [lC,iY<|jl (g2 PN) [Kq,iY<|fC<|.int 5]]) (iK 1)<|iP Ya<|iP Yp<|iP XU<|iP (mE (uN yK) (iK 5) zC5)<|iP Yo<|iP (EF (fT<|jf HH (iY<|LJ [7] (ja lg [iJ 0]) (Cj mv [iJ 0]) 4 1 (mM CT zo) λz=>zo.lookup z)<|iY<|fC<|.int 7) Fd jk) jk) UX
def vb:AL:=AG 8 1 [1,2,3,4,5,6,7] A6
end PV
namespace K73
open L2 PX PV
noncomputable def top(i:Nat):Stmt:=PySem.Challenge.pw_twinriddles_k73_all_puttings.main.body.getD i<|.Pass ⟨0,0,0,0⟩
abbrev TB73:List (iG×ax):=[(458,"law.<locals>.<lambda>")]
abbrev AZ(Z:ZZ)(i:Nat):Prop:=Fz Z.K Z.mg (KW<|top i)<|top i
abbrev Ow(Z:ZZ)(k i:Nat)(a:AL):Prop:=Oz Z k (KW<|top i) (KU<|top i) a
abbrev OY(Z:ZZ)(k i:Nat)(a:List D->Option ax):Prop:=Oy Z k (KW<|top i) (KU<|top i) a
def aS:Lean.Syntax:=Zs [(`QO,3,[(0,[`xV]),(1,[`xO])]),(`QX,3,[(231,[`aaX,`xI]),(211,[`xLS,`aa2]),(0,[`x3,`xW,`x2,`x1,`x4,`x7]),(221,[`xU,`aa5]),(111,[`aa7,`aa6,`xIf,`xCh]),(2311,[`xB,`xT]),(11,[`xIx,`xC,`aa8,`aa9,`aaW,`aa4,`aaY]),(1,[`aa1,`aaU,`aa0,`xBo,`aaZ,`aa3]),(261,[`xE]),(2,[`x5]),(21,[`xSA]),(2781,[`xEV]),(91,[`aaV]),(2331,[`xI2]),(2221,[`xRf])]),(`QA,3,[(11,[`xA]),(0,[`xA0])]),(`QQ,6,[(11,[`s1]),(0,[`s0])]),(`QS,6,[(1,[`sR,`sE]),(21,[`sS]),(111,[`sI,`sF,`BL]),(211,[`sC]),(2,[`sRV]),(0,[`sX]),(11,[`sT,`sW]),(2111,[`sDP])]),(`QG,4,[(2,[`gN]),(11,[`gT])]),(`QP.mk,0,[(0,[`Sn,`Sd,`Sg,`Si,`Se,`Sm,`aeW,`Wi]),(11,[`Sf]),(1,[`Wk,`Wh,`aeV,`Wj,`aek,`Sk])]),(`QL,3,[(11,[`xL]),(0,[`xL0])]),(`QT,3,[(111,[`abl]),(1,[`abd,`LZ,`tW])]),(`QC.mk,0,[(0,[`afn,`afr,`ad8,`afo,`aeN]),(1,[`afq,`xj,`afp,`aeM,`aeL]),(11,[`adG,`afH])]),(`QI,5,[(1,[`iS,`iSV]),(21,[`iR1,`iR2,`iE1,`iE]),(211,[`iZV])]),(`QW,3,[(11,[`wOr,`abb]),(1,[`aba,`YS])]),(`QF,3,[(1,[`f1]),(0,[`f0])]),(`QB,6,[(1,[`bE]),(31111,[`bF])]),(`LP,4,[(1,[`UT])]),(`PZ,4,[(11,[`zI]),(451,[`zR]),(1,[`zE])]),(`Lh,4,[(4221,[`zC])])]
def qS{P:Prop}(h:autoParam P aS):P:=h
def BQ{Z:ZZ}{k:Nat}{st:bc}{c:jQ}{fs:FS}(a:Fz Z.K Z.mg (KW st) st)(_:Tx Z.mg)(N:List Str:=loS st)(d:Bd Z k (KW st) st N (KU st) c fs:=by exact qS)(S:AJ N (KU st) (iT st):=by exact OG)(b:LA (KW st) st (KU st):=by intro _ _ _ _ _ _;repeat' (first|exact Mc rfl|refine Lk λ_=>?_)):Oz Z (k+1) (KW st) (KU st) (AG (X0 N) (KU st).length c fs):=ozB a S b d
def oyS{Z:ZZ}{k CR:Nat}{st:bc}{c:XS}(a:Fz Z.K Z.mg (KW st) st)(_:Tx Z.mg)(_:EG Z.K Z.mg CT zo CR)(N:List Str:=loS st)(d:BdY Z k (KW st) st N c:=by exact qS)(S:AJ N (KU st) (iT st):=by exact OG)(b:LA (KW st) st (KU st):=by intro _ _ _ _ _ _;repeat' (first|exact Mc rfl|refine Lk λ_=>?_)):Oy Z (k+1) (KW st) (KU st) (LX (X0 N) (KU st).length c):=oyB a S b d
section
variable {Z:ZZ}{k:Nat}
def adZ(a:AZ Z 14)(T:Tx Z.mg):Ow Z (k+1) 14 mP:=BQ a T
def adR(a:AZ Z 15)(T:Tx Z.mg)(b:Ow Z k 14 mP):Ow Z (k+1) 15 lL:=BQ a T
def afL(a:AZ Z 16)(T:Tx Z.mg)(b:Ow Z k 15 lL):Ow Z (k+1) 16 pG:=BQ a T
def aeo(a:AZ Z 17)(T:Tx Z.mg)(b:Ow Z k 15 lL):Ow Z (k+1) 17 qa:=BQ a T
def aen(a:AZ Z 18)(T:Tx Z.mg)(b:Ow Z k 14 mP)(c:Ow Z k 17 qa):Ow Z (k+1) 18 nH:=BQ a T
def acY(a:AZ Z 19)(T:Tx Z.mg):Ow Z (k+1) 19 qd:=BQ a T
def vE{CR:Nat}(a:AZ Z 20)(T:Tx Z.mg)(b:EG Z.K Z.mg CT zo CR)(c:∃t,Z.mg "FEW_NAMES"=Y (.int 4 t)):OY Z (k+1) 20 nD:=oyS a T b
def vN(a:AZ Z 20)(T:Tx Z.mg)(b:∃t,Z.mg "FEW_NAMES"=Y (.int 4 t)):Ow Z (k+1) 20 ky:=BQ a T
def adS(a:AZ Z 21)(T:Tx Z.mg)(b:Ow Z k 16 pG):Ow Z (k+1) 21 mU:=BQ a T
def agC(a:AZ Z 22)(T:Tx Z.mg):Ow Z (k+1) 22 pZ:=BQ a T
def zb(a:AZ Z 23)(T:Tx Z.mg)(b:Ow Z k 22 pZ):Ow Z (k+1) 23 lJ:=BQ a T
def OF(a:AZ Z 24)(T:Tx Z.mg)(c:Ow Z k 21 mU)(b:Ow Z k 23 lJ):Ow Z (k+1) 24 ud:=BQ a T
def acZ(a:AZ Z 25)(T:Tx Z.mg):Ow Z (k+1) 25 oj:=BQ a T
def aep(a:AZ Z 26)(T:Tx Z.mg)(b:Ow Z k 25 oj)(c:Ow Z k 24 ud):Ow Z (k+1) 26 qb:=BQ a T
def vO(a:AZ Z 27)(T:Tx Z.mg)(c:Ow Z k 26 qb)(b:Ow Z k 23 lJ):Ow Z (k+1) 27 lG:=BQ a T
def adf(a:AZ Z 29)(T:Tx Z.mg)(b:Ow Z k 18 nH):Ow Z (k+1) 29 kO:=BQ a T
def yt(a:AZ Z 30)(T:Tx Z.mg)(b:Ow Z k 29 kO):Ow Z (k+1) 30 lZ:=BQ a T
def adX(a:AZ Z 31)(T:Tx Z.mg):Ow Z (k+1) 31 nN:=BQ a T
def ac8(a:AZ Z 32)(T:Tx Z.mg)(b:Ow Z k 31 nN):Ow Z (k+1) 32 oz:=BQ a T
def Sw(a:AZ Z 34)(T:Tx Z.mg):Ow Z (k+1) 34 uE:=BQ a T
def ac9(a:AZ Z 33)(T:Tx Z.mg)(b:Ow Z k 30 lZ)(d:Ow Z k 34 uE)(c:Ow Z k 22 pZ):Ow Z (k+1) 33 oA:=BQ a T
def adT(a:AZ Z 36)(T:Tx Z.mg):Ow Z (k+1) 36 oi:=BQ a T
def yp(a:AZ Z 37)(T:Tx Z.mg)(b:Ow Z k 36 oi):Ow Z (k+1) 37 mR:=BQ a T
def yq(a:AZ Z 38)(T:Tx Z.mg)(b:Ow Z k 37 mR)(c:Ow Z k 32 oz):Ow Z (k+1) 38 mS:=BQ a T
def acX(a:AZ Z 39)(T:Tx Z.mg)(b:Ow Z k 38 mS):Ow Z (k+1) 39 qc:=BQ a T
def ac7(a:AZ Z 40)(T:Tx Z.mg)(b:Ow Z k 39 qc):Ow Z (k+1) 40 nu:=BQ a T
def adQ(a:AZ Z 42)(T:Tx Z.mg)(b:Ow Z k 33 oA):Ow Z (k+1) 42 oh:=BQ a T
def afJ(a:AZ Z 43)(T:Tx Z.mg)(b:Ow Z k 42 oh):Ow Z (k+1) 43 rB:=BQ a T
def wI(a:AZ Z 44)(T:Tx Z.mg)(b:Ow Z k 43 rB):Ow Z (k+1) 44 kZ:=BQ a T
def yo(a:AZ Z 46)(T:Tx Z.mg)(b:Ow Z k 19 qd):Ow Z (k+1) 46 lz:=BQ a T
def yX{CR:Nat}(a:AZ Z 47)(T:Tx Z.mg)(h:EG Z.K Z.mg CT zo CR)(c:Ow Z k 20 ky)(g:Ow Z k 40 nu)(f:Ow Z k 46 lz)(b:Ow Z k 27 lG)(e:Ow Z k 44 kZ)(d:OY Z k 20 nD):OY Z (k+1) 47 mv:=oyS a T h
def zc(a:AZ Z 47)(T:Tx Z.mg)(c:Ow Z k 20 ky)(f:Ow Z k 40 nu)(e:Ow Z k 46 lz)(b:Ow Z k 27 lG)(d:Ow Z k 44 kZ):Ow Z (k+1) 47 lg:=BQ a T
def acV(a:AZ Z 49)(T:Tx Z.mg):Ow Z (k+1) 49 lY:=BQ a T
def adN(a:AZ Z 50)(T:Tx Z.mg)(b:Ow Z k 49 lY):Ow Z (k+1) 50 mT:=BQ a T
def adY(a:AZ Z 51)(T:Tx Z.mg):Ow Z (k+1) 51 jM:=BQ a T
abbrev uZ(Z:ZZ)(k:Nat):Prop:=Rf Z (top 52) ["_law_call","_law_error","e","_law_sorts"] "_law_refused" "_law_call" "RiddleError" "_law_error" "e" 1 2 k [1,2,3] (mM CT zo) (λz=>zo.lookup z)
def adq:LA "_law_refused" (top 52) ["_law_call"]:=λ_ _ _ _ _ _=>Lk λ_=>Mc I
def acU{CR:Nat}(a:AZ Z 52)(T:Tx Z.mg)(c:EG Z.K Z.mg CT zo CR):uZ Z k:=by
 have S:AJ ["_law_call","_law_error","e","_law_sorts"] ["_law_call"] (iT<|top 52):=OG;obtain⟨f,e,m,F⟩:=a;refine⟨f,e,CR,F,F.binds adq,m,λX g=>?_,c.ci⟩;subst g;refine⟨S,by decide,rfl,rfl,by decide,by decide,rfl,rfl,rfl,rfl,c.re,by decide,_,_,_,_,_,_,_,_,_,_,_,rfl,λd A b s Q L l i=>?_⟩;have j:=S.nd;have n:=i.un;have o:un (A.deeper<|aZ "_law_refused" (iT<|top 52) s.heap.objs.size f d) 60:=by unfold un;omega
 refine⟨rfl,rfl,QS.h (show QS _ _ _ _ _ _ from(sS j x1)),QQ.h (show QQ _ _ _ _ _ (mM CT zo)from qS)⟩
def ade(a:AZ Z 53)(T:Tx Z.mg)(b:Ow Z k 51 jM):Ow Z (k+1) 53 ny:=BQ a T
def acT(a:AZ Z 54)(T:Tx Z.mg)(b:Ow Z k 51 jM):Ow Z (k+1) 54 mO:=BQ a T
def za(a:AZ Z 55)(T:Tx Z.mg):Ow Z (k+1) 55 my:=BQ a T
def wG(a:AZ Z 56)(T:Tx Z.mg)(b:Ow Z k 55 my):Ow Z (k+1) 56 kg:=BQ a T
def wH(a:AZ Z 57)(T:Tx Z.mg):Ow Z (k+1) 57 mD:=BQ a T
def adb(a:AZ Z 58)(T:Tx Z.mg)(b:Ow Z k 56 kg):Ow Z (k+1) 58 oB:=BQ a T
def ada(a:AZ Z 59)(T:Tx Z.mg)(e:Ow Z k 51 jM)(c:Ow Z k 53 ny)(b:Ow Z k 54 mO)(d:Ow Z k 58 oB):Ow Z (k+1) 59 nv:=BQ a T
def afK(a:AZ Z 60)(T:Tx Z.mg):Ow Z (k+1) 60 rC:=BQ a T
def uL(a:AZ Z 61)(T:Tx Z.mg)(b:Ow Z k 60 rC):Ow Z (k+1) 61 lj:=BQ a T
def vM(a:AZ Z 62)(T:Tx Z.mg):Ow Z (k+1) 62 ml:=BQ a T
def acW(a:AZ Z 63)(T:Tx Z.mg)(c:Ow Z k 62 ml)(b:Ow Z k 61 lj):Ow Z (k+1) 63 og:=BQ a T
def uM(a:AZ Z 64)(T:Tx Z.mg):Ow Z (k+1) 64 lS:=BQ a T
def adP(a:AZ Z 65)(T:Tx Z.mg)(b:Ow Z k 56 kg):Ow Z (k+1) 65 pA:=BQ a T
def wF(a:AZ Z 66)(T:Tx Z.mg)(d:Z.mg "dict"=J)(b:Ow Z k 64 lS)(c:Ow Z k 65 pA):Ow Z (k+1) 66 mC:=BQ a T
def aea:LA "_law_same" (top 67) ["_law_found","_law_due_here"]:=λ_ _ _ _ _ _=>Lk λ_=>Lk λ_=>Mc I
def adM{c:AL}(a:AZ Z 67)(T:Tx Z.mg)(b:Ow Z k 67 c):Ow Z (k+1) 67 (AG 2 2 []<|nM c):=BQ a T
theorem yO(a:AZ Z 67)(T:Tx Z.mg):∀m,Ow Z m 67<|lu m
 |0=>oz0 a aea
 |m+1=>adM a T<|yO a T m
def adO(a:AZ Z 68)(T:Tx Z.mg):Ow Z (k+1) 68 pz:=BQ a T ["_law_names","_law_signs","_law_found","_law_sign"]
def aem(a:AZ Z 69)(T:Tx Z.mg)(g:Z.mg "dict"=J)(e:Ow Z k 63 og)(d:Ow Z k 66 mC)(c:Ow Z k 57 mD)(f:Ow Z k 68 pz)(b:Ow Z k 61 lj):Ow Z (k+1) 69 nZ:=BQ a T
def Xx:LA "law" (top 70) ["_law_script"]:=λ_ _ _ _ _ _=>Lk λ_=>Mc I
def Wt{f c:iG}{m:mG}(F:Ii Z.K "law" "law" (top 70) f m)(p:m.code=.ref c)(o:PySem.W.CodeHd Z.base c 458)(n:Z.base.BuiltinsAt Z.mg 458)(T:Tx Z.mg)(h:Ow Z (k+2) 50 mT)(g:Ow Z (k+2) 59 nv)(l:Ow Z (k+2) 69 nZ)(a:Ow Z k 47 lg)(i:Ow Z (k+2) 67 (lu RD))(e:uZ Z k)(d:OY Z k 47 mv):Bn Z.P Z.w Z.K Z.mg Z.base Fx (k+3) f m ["_law_script"] (spT TB73<|Iv Z.K vb):=by have S:AJ ["_law_script","_law_k","_law_state_here","_law_riddle_here","_law_due_here","_law_turn","_law_found","_law_great"] ["_law_script"] (iT<|top 70):=OG;have b:=a.up (j:=k+2) (by omega);refine acj (q:="law.<locals>.<lambda>") (asg:=[1,2,3,4,5,6,7]) (fs:=A6) F p o n (by decide) (by decide) S λ_ _ _ _ _ _ _ _ _ _ _ _ _ _ _ _=>?_;exact qS
end
def all_mk{l:PySem.W.OpenLaw}{w:jc}{K:ji}{a:lI}{fa:iG}(dB:a "law"=Wp (.ref fa))(T:Tx a)
  (a0:Fz K a "is_whole" (top 14))
  (a1:Fz K a "is_number" (top 15))
  (a2:Fz K a "is_bit" (top 16))
  (a3:Fz K a "is_name" (top 17))
  (a4:Fz K a "is_sign" (top 18))
  (a5:Fz K a "all_clauses" (top 19))
  (a6:Fz K a "check_few_names" (top 20))
  (a7:Fz K a "is_answer" (top 21))
  (a8:Fz K a "is_so" (top 22))
  (a9:Fz K a "keeps_clause" (top 23))
  (a10:Fz K a "keeps" (top 24))
  (a11:Fz K a "all_answers" (top 25))
  (a12:Fz K a "answers" (top 26))
  (a13:Fz K a "answers_against" (top 27))
  (a14:Fz K a "is_turning" (top 29))
  (a15:Fz K a "check_turning" (top 30))
  (a16:Fz K a "led_sign" (top 31))
  (a17:Fz K a "led_clause" (top 32))
  (a18:Fz K a "back" (top 34))
  (a19:Fz K a "led_answer" (top 33))
  (a20:Fz K a "all_signs" (top 36))
  (a21:Fz K a "longer_by_one" (top 37))
  (a22:Fz K a "leading_among" (top 38))
  (a23:Fz K a "all_leading" (top 39))
  (a24:Fz K a "likenesses" (top 40))
  (a25:Fz K a "keeps_row" (top 42))
  (a26:Fz K a "lowers" (top 43))
  (a27:Fz K a "first_lowering" (top 44))
  (a28:Fz K a "short_clauses" (top 46))
  (i:Fz K a "all_puttings" (top 47))
  (a30:Fz K a "_law_cell_at" (top 49))
  (a31:Fz K a "_law_state" (top 50))
  (a32:Fz K a "_law_take" (top 51))
  (a33:Fz K a "_law_refused" (top 52))
  (a34:Fz K a "_law_clause" (top 53))
  (a35:Fz K a "_law_turning" (top 54))
  (a36:Fz K a "_law_led_sign" (top 55))
  (a37:Fz K a "_law_led_clause" (top 56))
  (a38:Fz K a "_law_led_answer" (top 57))
  (a39:Fz K a "_law_closed" (top 58))
  (a40:Fz K a "_law_riddle" (top 59))
  (a41:Fz K a "_law_so" (top 60))
  (a42:Fz K a "_law_keeps_clause" (top 61))
  (a43:Fz K a "_law_all_answers" (top 62))
  (a44:Fz K a "_law_answers" (top 63))
  (a45:Fz K a "_law_all_turnings" (top 64))
  (a46:Fz K a "_law_leads" (top 65))
  (a47:Fz K a "_law_likenesses" (top 66))
  (a48:Fz K a "_law_same" (top 67))
  (a49:Fz K a "_law_short" (top 68))
  (a50:Fz K a "_law_due" (top 69))
  (j:Nt K a "law" (top 70) 458)
  (n9:a "dict"=WF)
  (n:EG K a CT zo 24)
  (g0:∃t,a "FEW_NAMES"=Wp (.int 4 t))
  :∃m:mG,(∀(s:iL)(v:iQ),gc s m ⟨[v],[]⟩ [("_law_script",v)])/\(∀p∈TB73,∃c,PySem.W.codeHdIn K c p.1=WP)/\∀base:jb,K.In base->base.Ns aj a->(∀p∈TB73,base.BuiltinsAt a p.1)->Bn l.prog w K a base Fx 14 fa m ["_law_script"] (spT TB73<|Iv K vb):=by
 obtain⟨m,c,F,hc,hC,hb⟩:=acg j dB Xx;refine⟨m,hb,aC j.cd<|aN,λbase KB _ BB=>?_⟩
 let z:ZZ:=⟨l.prog,w,K,a,base⟩
 have O0:=adZ (Z:=z) (k:=0) a0 T;have O1:=adR (Z:=z) (k:=1) a1 T O0.up;have O2:=afL (Z:=z) (k:=2) a2 T O1.up;have O3:=aeo (Z:=z) (k:=2) a3 T O1.up;have O4:=aen (Z:=z) (k:=3) a4 T O0.up O3.up;have O5:=acY (Z:=z) (k:=0) a5 T;have O6:=vN (Z:=z) (k:=0) a6 T g0;have Y6:=vE (Z:=z) (k:=0) a6 T n g0;have O7:=adS (Z:=z) (k:=3) a7 T O2.up;have O8:=agC (Z:=z) (k:=0) a8 T;have O9:=zb (Z:=z) (k:=1) a9 T O8.up;have o:=OF (Z:=z) (k:=4) a10 T O7.up O9.up;have q:=acZ (Z:=z) (k:=0) a11 T;have r:=aep (Z:=z) (k:=5) a12 T q.up o.up;have b:=vO (Z:=z) (k:=6) a13 T r.up O9.up;have u:=adf (Z:=z) (k:=4) a14 T O4.up;have x:=yt (Z:=z) (k:=5) a15 T u.up;have y:=adX (Z:=z) (k:=0) a16 T;have A:=ac8 (Z:=z) (k:=1) a17 T y.up;have B:=Sw (Z:=z) (k:=0) a18 T;have C:=ac9 (Z:=z) (k:=6) a19 T x.up B.up O8.up;have E:=adT (Z:=z) (k:=0) a20 T;have H:=yp (Z:=z) (k:=1) a21 T E.up;have I:=yq (Z:=z) (k:=2) a22 T H.up A.up;have L:=acX (Z:=z) (k:=3) a23 T I.up;have d:=ac7 (Z:=z) (k:=4) a24 T L.up;have O:=adQ (Z:=z) (k:=7) a25 T C.up;have Q:=afJ (Z:=z) (k:=8) a26 T O.up;have e:=wI (Z:=z) (k:=9) a27 T Q.up;have f:=yo (Z:=z) (k:=1) a28 T O5.up;have G:=zc (Z:=z) (k:=10) i T O6.up d.up f.up b.up e.up;have Y29:=yX (Z:=z) (k:=10) i T n O6.up d.up f.up b.up e.up Y6.up;have J:=acV (Z:=z) (k:=0) a30 T;have M:=adN (Z:=z) (k:=1) a31 T J.up;have iA:=adY (Z:=z) (k:=0) a32 T;have N:=acU (Z:=z) (k:=11) a33 T n;have U:=ade (Z:=z) (k:=1) a34 T iA.up;have Y:=acT (Z:=z) (k:=1) a35 T iA.up;have D:=za (Z:=z) (k:=0) a36 T;have g:=wG (Z:=z) (k:=1) a37 T D.up;have P:=wH (Z:=z) (k:=0) a38 T;have R:=adb (Z:=z) (k:=2) a39 T g.up;have S:=ada (Z:=z) (k:=3) a40 T iA.up U.up Y.up R.up;have V:=afK (Z:=z) (k:=0) a41 T;have h:=uL (Z:=z) (k:=1) a42 T V.up;have X:=vM (Z:=z) (k:=0) a43 T;have O44:=acW (Z:=z) (k:=2) a44 T X.up h.up;have O45:=uM (Z:=z) (k:=0) a45 T;have O46:=adP (Z:=z) (k:=2) a46 T g.up;have O47:=wF (Z:=z) (k:=3) a47 T n9 O45.up O46.up;have O48:=yO (Z:=z) a48 T RD;have O49:=adO (Z:=z) (k:=0) a49 T;have O50:=aem (Z:=z) (k:=4) a50 T n9 O44.up O47.up P.up O49.up h.up;exact Wt (Z:=z) (k:=11) F hc (PySem.W.codeHd_of_K KB hC) (BB _ la) T M.up S.up O50.up G.up O48.up N Y29.up
end K73
namespace PV
open L2 PX
@[simp] theorem acN(d:D)(a:Dn):fC d a=Y ((d,U),a):=rfl
@[simp] theorem abJ(f:F)(a:Dn):iY f a=(f a).bind λp=>Y (.val p.1,p.2):=rfl
@[simp] theorem aaG(x:D×Bool)(a:Dn):iJ 0 (Y x::a)=Y (.slot 0,Y x::a):=rfl
@[simp] theorem aaF(a:Sl)(x:D×Bool)(b:Dn):iJ 1 (a::Y x::b)=Y (.slot 1,a::Y x::b):=rfl
@[simp] theorem aaE(a b:Sl)(x:D×Bool)(c:Dn):iJ 2 (a::b::Y x::c)=Y (.slot 2,a::b::Y x::c):=rfl
@[simp] theorem aaD(a b c:Sl)(x:D×Bool)(d:Dn):iJ 3 (a::b::c::Y x::d)=Y (.slot 3,a::b::c::Y x::d):=rfl
@[simp] theorem aaC(a b c d:Sl)(x:D×Bool)(e:Dn):iJ 4 (a::b::c::d::Y x::e)=Y (.slot 4,a::b::c::d::Y x::e):=rfl
@[simp] theorem aaB(a b c d e:Sl)(x:D×Bool)(f:Dn):iJ 5 (a::b::c::d::e::Y x::f)=Y (.slot 5,a::b::c::d::e::Y x::f):=rfl
@[simp] theorem aaA(a b c d e f:Sl)(x:D×Bool)(g:Dn):iJ 6 (a::b::c::d::e::f::Y x::g)=Y (.slot 6,a::b::c::d::e::f::Y x::g):=rfl
@[simp] theorem aaz(a b c d e f g:Sl)(x:D×Bool)(h:Dn):iJ 7 (a::b::c::d::e::f::g::Y x::h)=Y (.slot 7,a::b::c::d::e::f::g::Y x::h):=rfl
@[simp] theorem aay(a b c d e f g h:Sl)(x:D×Bool)(i:Dn):iJ 8 (a::b::c::d::e::f::g::h::Y x::i)=Y (.slot 8,a::b::c::d::e::f::g::h::Y x::i):=rfl
@[simp] theorem Aw(δ:Dn)(r:D×Bool):res δ (.val r)=Y r.1:=rfl
@[simp] theorem abH(x:D×Bool)(a:Dn):res (Y x::a) (.slot 0)=Y x.1:=rfl
@[simp] theorem abG(a:Sl)(x:D×Bool)(b:Dn):res (a::Y x::b) (.slot 1)=Y x.1:=rfl
@[simp] theorem abF(a b:Sl)(x:D×Bool)(c:Dn):res (a::b::Y x::c) (.slot 2)=Y x.1:=rfl
@[simp] theorem abE(a b c:Sl)(x:D×Bool)(d:Dn):res (a::b::c::Y x::d) (.slot 3)=Y x.1:=rfl
@[simp] theorem abD(a b c d:Sl)(x:D×Bool)(e:Dn):res (a::b::c::d::Y x::e) (.slot 4)=Y x.1:=rfl
@[simp] theorem abC(a b c d e:Sl)(x:D×Bool)(f:Dn):res (a::b::c::d::e::Y x::f) (.slot 5)=Y x.1:=rfl
@[simp] theorem abB(a b c d e f:Sl)(x:D×Bool)(g:Dn):res (a::b::c::d::e::f::Y x::g) (.slot 6)=Y x.1:=rfl
@[simp] theorem abA(a b c d e f g:Sl)(x:D×Bool)(h:Dn):res (a::b::c::d::e::f::g::Y x::h) (.slot 7)=Y x.1:=rfl
@[simp] theorem abz(a b c d e f g h:Sl)(x:D×Bool)(i:Dn):res (a::b::c::d::e::f::g::h::Y x::i) (.slot 8)=Y x.1:=rfl
@[simp] theorem abT(g:D->Option (D×Bool))(a:FO)(b:Dn):lX g a b=(a b).bind λp=>(res p.2 p.1).bind λx=>(g x).bind λz=>Y (z,p.2):=rfl
@[simp] theorem abS(g:D->D->Option (D×Bool))(a b:FO)(c:Dn):jf g a b c=(a c).bind λp=>(b p.2).bind λq=>(res q.2 p.1).bind λx=>(res q.2 q.1).bind λy=>(g x y).bind λz=>Y (z,q.2):=rfl
@[simp] theorem Zl(a:Dn):kM [] a=Y ([],a):=rfl
@[simp] theorem aaJ(f:FO)(fs:List FO)(a:Dn):kM (f::fs) a=(f a).bind λp=>(kM fs p.2).bind λq=>Y (p.1::q.1,q.2):=rfl
@[simp] theorem RC(a:Dn):vJ a []=Y []:=rfl
@[simp] theorem VE(a:Dn)(o:BN)(os:List BN):vJ a (o::os)=(res a o).bind λd=>(vJ a os).bind λl=>Y (d::l):=rfl
@[simp] theorem aaI(g:List D->Option (D×Bool))(fs:List FO)(a:Dn):jl g fs a=(kM fs a).bind λp=>(vJ p.2 p.1).bind λb=>(g b).bind λz=>Y (z,p.2):=rfl
@[simp] theorem aax:qw []=Y []:=rfl
@[simp] theorem abq(r:D×Bool)(os:List BN):qw (.val r::os)=(qw os).map (r.1:: ·):=rfl
@[simp] theorem VG(fs:List F)(b:Dn):nO fs b=(kM (fs.map iY) b).bind λp=>(qw p.1).bind λa=>if (X0 a)<=sizeLine then Y ((.tup a,U),p.2)else J:=rfl
@[simp] theorem VH(fs:List F)(b:Dn):oP fs b=(kM (fs.map iY) b).bind λp=>(qw p.1).bind λa=>if (X0 a)<=sizeLine then Y ((.lst a,C),p.2)else J:=rfl
@[simp] theorem acG(b o:Bool)(a:Dn):LM ((.bl b,o),a)=Y (b,a):=rfl
@[simp] theorem acM(f:F)(a:Dn):fT f a=(f a).bind LM:=rfl
@[simp] theorem aaK(f g:FT)(a:Dn):yS f g a=(f a).bind λp=>if p.1=C then g p.2 else Y (U,p.2):=rfl
@[simp] theorem abR(f g:FT)(a:Dn):Qc f g a=(f a).bind λp=>if p.1=C then Y (C,p.2)else g p.2:=rfl
@[simp] theorem aaH(f:FT)(a:Dn):rA f a=(f a).bind λp=>Y (!p.1,p.2):=rfl
@[simp] theorem NX(f g:F)(a:Dn):zk f g a=(f a).bind λp=>(LM p).bind λq=>if q.1=C then g q.2 else Y ((.bl U,U),q.2):=rfl
@[simp] theorem abU(f:F)(a:Dn):Xd f a=(f a).bind λp=>(LM p).bind λq=>Y ((.bl (!q.1),U),q.2):=rfl
@[simp] theorem Uq(t:FT)(f g:F)(δ:Dn):Ky t f g δ=(t δ).bind λp=>if p.1=C then f p.2 else g p.2:=rfl
@[simp] theorem abx(a:Dn):jk a=Y (.nx a):=rfl
noncomputable def nxt(g:FS):Out->Option Out
 |.nx a=>g a
 |o=>Y o
@[simp] theorem abL(g:FS)(a:Dn):nxt g (.nx a)=g a:=rfl
@[simp] theorem abK(g:FS)(r:D×Bool)(a:Dn):nxt g (.rt r a)=Y (.rt r a):=rfl
@[simp] theorem NW(f g:FS)(a:Dn):iP f g a=(f a).bind (nxt g):=by
 unfold iP
 cases f a with
 |none=>rfl
 |some o=>cases o<;>rfl
@[simp] theorem Jh(f:F)(δ:Dn):nj f δ=(f δ).bind λp=>Y (.nx p.2):=rfl
@[simp] theorem abw(f:F)(a:Dn):kN f a=(f a).bind λp=>Y (.rt p.1 p.2):=rfl
@[simp] theorem acy(t:FT)(f g:FS)(a:Dn):EF t f g a=(t a).bind λp=>if p.1=C then f p.2 else g p.2:=rfl
@[simp] theorem abv(i:Nat)(f:F)(a:Dn):kj i f a=(f a).bind λp=>if i<(X0 p.2)then Y (.nx<|p.2.set i<|Y p.1)else J:=rfl
@[simp] theorem abu(b:Tg)(f:F)(c:Dn):Vw b f c=(f c).bind λp=>(b p.1.1 p.2).bind λa=>Y (.nx a):=rfl
@[simp] theorem acL(g:D->Option (D×Bool))(d:D):g1 g [d]=g d:=rfl
@[simp] theorem acK(g:D->D->Option (D×Bool))(d e:D):g2 g [d,e]=g d e:=rfl
@[simp] theorem Zn(i j:Int):nq (.int i) (.int j)=Y (.int<|i+j,U):=rfl
@[simp] theorem acx(i j:Int):PX.F1 (.int i) (.int j)=Y (.int<|i-j,U):=rfl
@[simp] theorem acz(i:Int):yz (.int i)=Y (.int (-i),U):=rfl
@[simp] theorem acH(i:Int):BX (.int i)=Y (.int (if i<0 then -i else i),U):=rfl
@[simp] theorem VF(l:List D):A4 (.tup l)=Y (.int<|X0 l,U):=rfl
@[simp] theorem abO(l:List D):A4 (.lst l)=Y (.int<|X0 l,U):=rfl
@[simp] theorem abt(l:List D):oN (.lst l)=Y (.tup l,U):=rfl
@[simp] theorem abr(l:List D):oN (.tup l)=Y (.tup l,U):=rfl
@[simp] theorem abM(l:List D):CP (.tup l)=Y (.lst l,C):=rfl
@[simp] theorem abN(l:List D):CP (.lst l)=Y (.lst l,C):=rfl
@[simp] theorem abQ(b:Bool):LD (.bl b)=Y (.int (if b then 1 else 0),U):=rfl
@[simp] theorem abP(b:Int):LD (.int b)=Y (.int b,U):=rfl
@[simp] theorem acD(i j:Int):PQ (.int i) (.int j)=Y (.int (if j>i then j else i),U):=rfl
@[simp] theorem acC(i j:Int):PN (.int i) (.int j)=Y (.int (if j<i then j else i),U):=rfl
@[simp] theorem acE(a:List Ty)(d:D):wQ a d=Y (.bl<|a.any<|Hu d,U):=rfl
@[simp] theorem Ur(i j:Int):Gv (.int i) (.int j)=Y (.bl<|i==j,U):=by unfold Gv;rw[iZ<|by simp[D.dep]];simp[D.AI]
@[simp] theorem acA(i j:Int):HH (.int i) (.int j)=Y (.bl (!(i==j)),U):=by unfold HH;rw[iZ<|by simp[D.dep]];simp[D.AI]
@[simp] theorem acF(i j:Bool):Gv (.bl i) (.bl j)=Y (.bl<|i==j,U):=by unfold Gv;rw[iZ<|by simp[D.dep]];simp[D.AI]
@[simp] theorem acB(i j:Bool):HH (.bl i) (.bl j)=Y (.bl (!(i==j)),U):=by unfold HH;rw[iZ<|by simp[D.dep]];simp[D.AI]
@[simp] theorem Zk(i j:Int):pV .Lt (.int i) (.int j)=Y (.bl<|decide<|i<j,U):=by kernel_rfl
@[simp] theorem acI(i j:Int):pV .LtE (.int i) (.int j)=Y (.bl<|decide<|i<=j,U):=by kernel_rfl
@[simp] theorem KQ(i j:Int):pV .Gt (.int i) (.int j)=Y (.bl<|decide<|i>j,U):=by kernel_rfl
@[simp] theorem acJ(i j:Int):pV .GtE (.int i) (.int j)=Y (.bl<|decide<|i>=j,U):=by kernel_rfl
@[simp] theorem Ji(f:F)(δ:Dn):jJ f δ=(f δ).bind λp=>match p.1.1 with|.lst l=>Y (l,p.2)|.tup l=>Y (l,p.2)|_=>J:=rfl
@[simp] theorem aby(b:Cb)(c:Tg)(a:FS)(d:Dn):mE b c a d=(b d).bind λp=>lF c a p.1 p.2:=rfl
@[simp] theorem Jj(a:Dn):jK a=Y (C,a):=rfl
@[simp] theorem Jk(f:F)(a:List D)(b:Dn):jN f a b=(f b).bind λp=>if (X0 a)<sizeLine then Y (a++[p.1.1],p.2)else J:=rfl
def Eb(h:n<=10000):n<=sizeLine:=by rw[ku];lia
def uv(h:n<=10000):n<sizeLine:=by rw[ku];lia
noncomputable abbrev enc(t:iO):D×Bool:=(.tup<|t.map .int,U)
noncomputable abbrev ii(n:Int):Sl:=Y (.int n,U)
abbrev eN(t:iO):Sl:=Y<|enc t
noncomputable abbrev pI(n:Int):D×Bool:=(.int n,U)
noncomputable abbrev pS(a:Int)(b:Bool):D×Bool:=(.lst [.int a,.bl b],C)
def KY(i:Nat):([i]:List Nat).Nodup:=by simp
noncomputable abbrev A8(a:Int)(b:Bool):Sl:=Y (.lst [.int a,.bl b],C)
noncomputable abbrev Al(l:iO):Sl:=Y (.lst<|l.map .int,C)
@[simp] theorem RE(b:AL)(fs:List FO)(c:Dn):ja b fs c=(kM fs c).bind λp=>(kz p.2 p.1).bind λa=>if(ju p.1 a).Nodup then(b a).bind λq=>Y (q.1,wb p.1 a q.2 p.2)else J:=rfl
@[simp] theorem ux(δ:Dn):kz δ []=Y []:=rfl
@[simp] theorem Zm(b:Dn)(o:BN)(os:List BN):kz b (o::os)=(By b o).bind λa=>(kz b os).bind λl=>Y (a::l):=rfl
@[simp] theorem abV(a:Dn)(r:D×Bool):By a (.val r)=Y (r.1,U):=rfl
@[simp] theorem abW(a:Dn)(i:Nat):By a (.slot i)=(a[i]?).join:=rfl
def yk(a:Int)(b:Bool)(m:Int)(c:0<m)(d:m<1073741824):
  ∃v e,0<=v/\v<m/\jM [pS a b,pI m]=Y ((.int v,U),[Y (.lst [.int e,.bl b],C),ii m]):=by
 cases b
 .have h1:∀x:Int, -18446744073709551616<x%2147483647/\x%2147483647<18446744073709551616:=λx=>by lia
  have f:∀x:Int, -18446744073709551616<x%2147483629/\x%2147483629<18446744073709551616:=λx=>by lia
  simp only[jM,tY];simp[AG,BY,Hv,FU,A0,gI,PU,sH,PL,qx,qp,jy,ju,wb,Mf,E7,EK,c,d,h1,f];exact⟨GN _ (by lia),GO _ c⟩
 simp only[jM,tY];simp[AG,BY,Hv,FU,A0,gI,PU,sH,PL,qx,qp,jy,ju,wb,Mf,E7,EK,c,d];exact⟨GN _ (by lia),GO _ c⟩
theorem uH(x y:Int):(x==y)=decide (x=y):=rfl
def kn{g:List D->Option (D×Bool)}{fs:List FO}{δ a:Dn}{os:List BN}{ds:List D}{z:D×Bool}(h1:kM fs δ=Y (os,a))(b:vJ a os=Y ds)(c:g ds=Y z):jl g fs δ=Y (z,a):=by unfold jl;rw[h1];simp;rw[b];simp;rw[c];rfl
def jY(h1:(X0 args)=np/\np<=n/\(args.zipIdx.all λp=>!(p.1.2&&asg.contains p.2))=C)(a:f (args.map Y++ai (n-np) J)=Y (.rt r δ)):AG n np asg f args=Y (r,jy args δ):=by unfold AG;rw[iZ h1,a]
def iN(h:f δ=Y (.nx δ1)):iP f g δ=g δ1:=by unfold iP;rw[h];rfl
def jz{r}(h:f δ=Y (.rt r δ1)):iP f g δ=Y (.rt r δ1):=by unfold iP;rw[h];rfl
def lH{r}(h:f δ=Y (r,δ1)):kN f δ=Y (.rt r δ1):=by unfold kN;rw[h];rfl
def jL{r}(h:f δ=Y (r,δ1))(a:i<X0 δ1):kj i f δ=Y (.nx<|δ1.set i<|Y r):=by unfold kj;rw[h];simp only[kF];rw[iZ a]
def kY(h:f δ=Y ((.bl b,o),δ1)):fT f δ=Y (b,δ1):=by unfold fT;rw[h];rfl
def jA{r}(h:f δ=Y (r,δ1)):iY f δ=Y (.val r,δ1):=by unfold iY;rw[h];rfl
def kK(h1:a δ=Y (o1,δ1))(c:b δ1=Y (o2,δ2))(d:res δ2 o1=Y x)(e:res δ2 o2=Y y)(f:g x y=Y z):jf g a b δ=Y (z,δ2):=by unfold jf;rw[h1];simp;rw[c];simp;rw[d,e];simp;rw[f];rfl
def km{b:AL}{fs:List FO}{δ δ1:Dn}{os:List BN}{args:List (D×Bool)}{r:D×Bool}{a:Dn}(h1:kM fs δ=Y (os,δ1))(c:kz δ1 os=Y args)(d:(ju os args).Nodup)(e:b args=Y (r,a)):ja b fs δ=Y (r,wb os args a δ1):=by unfold ja;rw[h1];simp;rw[c];simp only[kF];rw[iZ d,e];rfl
def wZ(h:f δ=Y (b,δ1)):rA f δ=Y (!b,δ1):=by unfold rA;rw[h];rfl
def pd(h:t δ=Y (U,δ1)):EF t f g δ=g δ1:=by unfold EF;rw[h];rfl
def pP(h:t δ=Y (C,δ1)):EF t f g δ=f δ1:=by unfold EF;rw[h];rfl
def pY{a b:FO}{δ δ1 δ2:Dn}{o1 o2:BN}(h1:a δ=Y (o1,δ1))(c:b δ1=Y (o2,δ2)):kM [a,b] δ=Y ([o1,o2],δ2):=by simp;rw[h1];simp;rw[c];rfl
def qz{a:FO}{δ δ1:Dn}{o1:BN}(h1:a δ=Y (o1,δ1)):kM [a] δ=Y ([o1],δ1):=by simp;rw[h1];rfl
def kf(h:fi δ=Y (ds,δ1)):mE fi tg fb δ=lF tg fb ds δ1:=by unfold mE;rw[h];rfl
def aeG{os}(h1:b δ=Y (d,δ1))(c:kM fs δ1=Y (os,a)):kM (b::fs) δ=Y (d::os,a):=by simp;rw[h1];simp;rw[c];rfl
def TN(a:iO)(k:Nat):∃c,lY [(.lst<|a.map .int,U),pI k]=Y ((.int c,U),[Y (.lst<|a.map .int,U),ii k]):=by
 by_cases hk:k<X0 a
 .refine⟨a[k],?_⟩;simp[lY,pW,AG,BY,Hv,FU,jy,hk]
 refine⟨0,?_⟩;simp[lY,pW,AG,jy,hk]
def Uu:PL (.int 10) (.int 18)=ii 1000000000000000000:=by
 have:E7 10 18:=by unfold E7;decide+kernel
 show((if E7 10 18 then Y (D.int (10^(18:Int).toNat))else J).map λz=>(z,U))=_;rw[iZ this];rfl
def agz(d:iO)(k:Nat):∃a b,mT [(.lst<|d.map .int,U),pI k]=Y ((.lst [.int a,.bl b],C),[Y (.lst<|d.map .int,U),ii k]):=by
 obtain⟨c,e⟩:=TN d k;by_cases h:c>=1000000000000000000
 .refine⟨c-1000000000000000000,C,?_⟩;simp[mT,rX,AG,e,ju,wb,Uu,h,ku,jy]
 refine⟨c%2147483647,U,?_⟩;simp[mT,rX,AG,e,ju,wb,Uu,h,ku,jy,A0,gI]
noncomputable def st(n:Nat):List Int:=(ap n).map λ(k:Nat)=>(1+(k:Int))
def Vr(n:Nat):(st n).map D.int=jq 1 n:=by simp[st,jq]
noncomputable def pT:Nat->List Int->List Int->List (List Int)
 |0,_,f=>[f]
 |k+1,r,f=>(ap<|X0 r).flatMap λv=>pT k (r.eraseIdx v) (f++[r.getD v 0*1])++pT k (r.eraseIdx v) (f++[r.getD v 0* -1])
theorem CY(f:Int->D):∀(l:iO)(k:Nat),(l.map f).eraseIdx k=(l.eraseIdx k).map f
 |[],k=>by simp
 |x::l,0=>by kernel_rfl
 |x::l,k+1=>by simp[CY f l k]
def afx{i:Nat}{f:FO}{a δ1:Dn}{o:BN}{n l:List D}{k:Int}{j:Nat}{d:D}(b:a[i]?=Y (Y (.lst n,C)))(h1:f a=Y (o,δ1))(c:res δ1 o=Y (.int k))(e:δ1[i]?=Y (Y (.lst l,C)))(g: -(2^63)<=k/\k<2^63)(h:FU (X0 l) k=Y j)(m:l[j]?=Y d):
  Bi i f a=Y ((d,U),δ1.set i<|Y (.lst<|l.eraseIdx j,C)):=by
 unfold Bi;rw[b];simp only[];rw[h1];simp only[kF];rw[c,e];simp only[];rw[iZ g,h];simp;rw[m];rfl
def nG{i:Nat}{f:F}{δ δ1:Dn}{r:D×Bool}{l0 l:List D}(a:δ[i]?=Y (Y (.lst l0,C)))(h1:f δ=Y (r,δ1))(b:δ1[i]?=Y (Y (.lst l,C)))(c:(X0 l)<sizeLine):
  lK i f δ=Y ((.A7,U),δ1.set i<|Y (.lst<|l++[r.1],C)):=by
 unfold lK;rw[a];simp;rw[h1];simp;rw[b];simp only[];rw[iZ c]
def nW{r}(h:f δ=Y (r,δ1)):nj f δ=Y (.nx δ1):=by unfold nj;rw[h];rfl
abbrev aal:F:=Yr
abbrev aak:F:=YE
abbrev fbT:FS:=iP (nj<|lK 3<|jf sH (iY aal)<|iY aak) jk
def V5(a:Int)(b:Bool)(n:Sl)(r f:iO)(x:Sl)(i:0<X0 r)(l:(X0 r)<=5):∃v c,v<X0 r/\aal [A8 a b,n,Al r,Al f,x]=Y ((.int<|r.getD v 0,U),[A8 c b,n,Al<|r.eraseIdx v,Al f,x]):=by
 obtain⟨v,c,h,hv,e⟩:=yk a b (X0 r) (by lia) (by lia);have d:v.toNat<(X0 r):=by lia
 refine⟨v.toNat,c,d,?_⟩;have g:(Al (r.eraseIdx v.toNat):Sl)=Y (.lst<|(r.map D.int).eraseIdx v.toNat,C):=by rw[CY]
 rw[g];refine afx (k:=v) (δ1:=[A8 c b,n,Al r,Al f,x]) I (jA (r:=(.int v,U))<|km (δ1:=[A8 a b,n,Al r,Al f,x]) (os:=[.slot 0,.val (.int<|X0 r,U)]) (args:=[pS a b,pI<|X0 r]) ?_ I (show([0]:List Nat).Nodup from by decide) e) I I ⟨by lia,by lia⟩ (j:=v.toNat) ?_ ?_
 .show Y ([BN.slot 0,BN.val (D.int ((r.map D.int).length:Nat),U)],_)=_;rw[ke]
 .unfold FU;rw[iZ h,iZ<|by simpa using hv]
 simp[d]
def Vu(a:Int)(b:Bool)(n y z x:Sl):∃s c,(s=1\/s= -1)/\aak [A8 a b,n,y,z,x]=Y ((.int s,U),[A8 c b,n,y,z,x]):=by obtain⟨v,c,f,hv,e⟩:=yk a b 2 (by lia) (by lia);have d:∀δ:Dn,oP [fC<|.int 1,M8] δ=Y ((.lst [.int 1,.int (-1)],C),δ):=λδ=>rfl;refine⟨if v=0 then 1 else -1,c,by split<;>simp,?_⟩;refine kK (δ1:=[A8 a b,n,y,z,x]) (jA<|d _) (jA (δ1:=[A8 c b,n,y,z,x])<|km (δ1:=[A8 a b,n,y,z,x]) (os:=[.slot 0,.val (.int 2,U)]) (args:=[pS a b,pI 2]) I I (show([0]:List Nat).Nodup from by decide) e) I I ?_;rcases(show v=0\/v=1 by lia)with rfl|rfl<;>rfl
def W3(a:Int)(b:Bool)(n:Sl)(r f:iO)(x:Sl)(j:0<X0 r)(k:(X0 r)<=5)(m:(X0 f)<=5):∃v s c,v<X0 r/\(s=1\/s= -1)/\fbT [A8 a b,n,Al r,Al f,x]=Y (.nx [A8 c b,n,Al<|r.eraseIdx v,Al<|f++[r.getD v 0*s],x]):=by
 obtain⟨v,a1,hv,e⟩:=V5 a b n r f x j k;obtain⟨s,d,q,g⟩:=Vu a1 b n (Al<|r.eraseIdx v) (Al f) x;refine⟨v,s,d,hv,q,?_⟩
 have p:sH (.int<|r.getD v 0) (.int s)=ii (r.getD v 0*s):=by have:EK (r.getD v 0) s:=.inr (by lia);show((if EK (r.getD v 0) s then Y (D.int<|r.getD v 0*s)else J).map λz=>(z,U))=_;rw[iZ this];rfl
 have o:(f.map D.int).length<sizeLine:=by rw[ke];exact zN m (by decide)
 have h:=nG (i:=3) (δ:=[A8 a b,n,Al r,Al f,x]) (l0:=f.map .int) I (kK (jA e) (jA g) I I p) (l:=f.map .int) I o;refine(iN<|nW h).trans ?_;simp
def Z6(b:Bool)(n:Sl):∀(c:List D)(a:Int)(r f:iO)(x:Sl),X0 c=X0 r->X0 f+X0 r<=5->
  ∃g t i j,t∈pT (X0 c) r f/\lF (iK 4) fbT c [A8 a b,n,Al r,Al f,x]=Y (.nx [A8 g b,n,Al i,Al t,j]):=by
 intro p
 induction p with
 |nil=>intro a r f x _ _;exact⟨a,f,r,x,by simp[pT],rfl⟩
 |cons d c o=>
  intro a r f x h q;simp at h;obtain⟨v,s,a1,hv,m,e⟩:=W3 a b n r f (Y (d,U)) (by lia) (by lia) (by lia);obtain⟨g,t,i,j,k,l⟩:=o a1 (r.eraseIdx v) (f++[r.getD v 0*s]) (Y (d,U)) (by rw[Dv,iZ hv];lia) (by rw[Dv,iZ hv,nR];simp only[nJ,zO];lia);refine⟨g,t,i,j,?_,?_⟩
  .simp only[nJ,pT,wo,qX,uY];refine⟨v,hv,?_⟩;rcases m with rfl|rfl
   .exact .inl k
   exact .inr k
  unfold lF;rw[show iK 4 d [A8 a b,n,Al r,Al f,x]=Y [A8 a b,n,Al r,Al f,Y (d,U)]from I];simp only[kF];rw[e];simp;exact l
def NM(n:Nat)(b:n<=5):K8 .lst C [.int 1,.int<|(n:Int)+1]=Y (.lst<|(st n).map .int,C):=by
 have:n=0\/n=1\/n=2\/n=3\/n=4\/n=5:=by lia
 have h1:Eh 1 ((n:Int)+1):=by rcases this with rfl|rfl|rfl|rfl|rfl|rfl<;>decide+kernel
 have a:((n:Int)+1-1).toNat=n:=by lia
 show(if Eh 1 ((n:Int)+1)then Y (D.lst<|jq 1 ((n:Int)+1-1).toNat,C)else J)=_;rw[iZ h1,a,<-Vr]
def pk{f:FO}{δ δ1:Dn}{o:BN}{n:Nat}(h1:f δ=Y (o,δ1))(a:res δ1 o=Y (.int n))(e:n<=63):uN f δ=Y (jq 0 n,δ1):=by
 have d:(-(2^62)<=(n:Int)/\(n:Int)<2^62):=⟨by lia,by lia⟩
 have b:kM [f] δ=Y ([o],δ1):=by simp[h1]
 have c:vJ δ1 [o]=Y [.int n]:=by simp[a]
 unfold uN;rw[b];simp only[kF];rw[c];simp only[];rw[iZ d];rfl
def aes(a:Int)(b:Bool)(n:Nat)(f:n<=5):∃d t,t∈pT n (st n) []/\mO [pS a b,pI n]=Y (enc t,[A8 d b,ii n]):=by
 have c:(jq 0 n).length=n:=by simp[jq]
 have h:(st n).length=n:=by simp[st]
 obtain⟨d,t,j,k,g,e⟩:=Z6 b (ii n) (jq 0 n) a (st n) [] J (by rw[c,h]) (by rw[h];simpa using f);rw[c]at g;refine⟨d,t,g,?_⟩;refine jY (δ:=[A8 d b,ii n,Al j,Al t,k]) ⟨rfl,by decide,rfl⟩ ?_;refine(iN (δ1:=[A8 a b,ii n,Al<|st n,J,J])<|jL (i:=2) (δ1:=[A8 a b,ii n,J,J,J]) (kn (os:=[.val (.int 1,U),.val (.int<|(n:Int)+1,U)]) I I<|NM n f) (show 2<5 by decide)).trans ?_;refine(iN (δ1:=[A8 a b,ii n,Al<|st n,Al [],J]) I).trans ?_;refine(iN<|(kf<|pk (o:=.slot 1) I I<|by lia).trans e).trans ?_;exact jz<|lH<|kn (os:=[.slot 3]) I I I
def aeU:∀(k:Nat)(r f t:iO),X0 r=k->t∈pT k r f->X0 t=X0 f+k:=by
 intro c
 induction c with
 |zero=>intro r f t _ h;simp[pT]at h;subst h;simp
 |succ k b=>
  intro r f t d h;simp only[pT,wo,qX,uY]at h;obtain⟨v,hv,h⟩:=h;have a:(r.eraseIdx v).length=k:=by rw[Dv,iZ hv];lia
  rcases h with h|h
  .have:=b _ _ t a h;simp at this;lia
  have:=b _ _ t a h;simp at this;lia
def agw{n:Nat}{t:iO}(h:t∈pT n (st n) []):(X0 t)=n:=by have:=aeU n (st n) [] t (by simp[st]) h;simpa using this
def xg:∀t:List Int,D.BI (t.map .int)=0:=by
 intro b
 induction b with
 |nil=>simp[D.BI]
 |cons s t a=>simp[D.BI,D.dep,a]
theorem Bk:∀a b:List Int,D.Bc (a.map .int) (b.map .int)=decide (a=b)
 |[],[]=>by kernel_rfl
 |[],_::_=>by kernel_rfl
 |_::_,[]=>by kernel_rfl
 |x::a,y::b=>by simp[D.Bc,D.AI,Bk a b,uH]
@[simp] theorem CQ(a b:iO):Gv (.lst<|a.map .int) (.lst<|b.map .int)=Y (.bl<|decide<|a=b,U):=by unfold Gv;rw[iZ<|by simp[D.dep,xg]];simp[D.AI,Bk]
def Ep:∀(l m:iO),l.Nodup->(∀x∈l,x∈m)->X0 m<=X0 l->l.Perm m:=by
 intro k
 induction k with
 |nil=>intro m _ _ h;have:m=[]:=Uc.mp (by simpa using h);subst this;exact vo _
 |cons x l j=>
  intro m a c h;rw[BF]at a;have i:=c x la;have b:=Mp i;refine((j (m.erase x) a.2 (λy d=>?_) ?_).cons x).trans b.symm
  .have f:=c y<|jU _ d;have g:y≠x:=λe=>a.1<|e▸d;exact(GL g).mpr f
  have:=b.length_eq;simp at this h
  lia
def Kz:x∈st n↔1<=x/\x<=n:=by
 simp only[st,wa,uY];constructor
 .rintro⟨k,h,rfl⟩;lia
 rintro⟨h1,a⟩;exact⟨(x-1).toNat,by lia,by lia⟩
def Y9(n:Nat):(st n).Pairwise (· < ·):=by simp only[st];rw[rJ];exact Q6.imp λh=>by lia
def Uk(n:Nat):(st n).Nodup:=(Y9 n).imp λh=>by lia
def Ju{n:Nat}{l:iO}:l.Perm (st n)↔(X0 l)=n/\(∀x∈l,1<=x/\x<=n)/\l.Nodup:=by
 constructor
 .intro h;refine⟨by rw[h.length_eq];simp[st],λx a=>Kz.mp<|h.mem_iff.mp a,h.symm.nodup<|Uk n⟩
 rintro⟨h1,b,c⟩;exact Ep l (st n) c (λx a=>Kz.mpr<|b x a) (by simp[st,h1])
def wO{l:iO}{m:List D}(h:m.Perm (l.map D.int)):∃k:List Int,m=k.map .int:=by
 refine⟨m.map λd=>match d with|D.int i=>i|_=>0,?_⟩;rw[kG]
 symm
 rw[pL (g:=id),sN];intro d hd;obtain⟨i,_,rfl⟩:=jd<|h.mem_iff.mp hd;rfl
def ad6(l:iO):oK (l.map .int)=C:=by
 unfold oK
 cases l with
 |nil=>rfl
 |cons x l=>rw[xM];right;simp;simp[lW,D.pr,D.dep,show ∀i j:Int,oQ .Lt (.int i) (.int j)=Y (mF .Lt i j)from λ_ _=>rfl]
def ae2:∀l:List Int,(∀k,(ou<|l.reverse.map .int).1 k=decide (k∈l.reverse))/\(ou<|l.reverse.map .int).2<=X0 l/\((ou<|l.reverse.map .int).2=(X0 l)↔l.Nodup):=by
 intro e
 induction e with
 |nil=>exact⟨λk=>by simp[ou],by simp[ou],by simp[ou]⟩
 |cons x l d=>
  obtain⟨h1,f,c⟩:=d;rw[List.reverse_cons,nQ,kc,oW,Cr];refine⟨λk=>?_,?_,?_⟩
  .dsimp only;rw[h1 k];by_cases a:k∈l.reverse<;>by_cases b:k=x<;>simp_all
  .dsimp only;rw[nJ];split<;>lia
  dsimp only;rw[h1 x,BF];by_cases a:x∈l
  .simp only[dM,a,decide_true,ng,not_true_eq_false,false_and,iff_false,nJ];lia
  simp only[dM,a,decide_false,kX,mB,not_false_eq_true,true_and,nJ];rw[<-c];lia
def Ry(l:iO):(ou<|l.map .int).2=(X0 l)↔l.Nodup:=by have:=(ae2 l.reverse).2.2;rw[List.reverse_reverse,MH,zT l |>.nodup_iff]at this;exact this
def IZ(pre:Dn)(x:Sl)(d:D):iK (X0 pre) d (pre++[x])=Y (pre++[Y (d,U)]):=by unfold iK;rw[iZ<|by simp];simp
def Qx{f:FB}{g:D->D}{pre:Dn}{N:Nat}:∀(l b:List D)(x:Sl),(∀d∈l,∀a:List D,X0 a<N->f a (pre++[Y (d,U)])=Y (a++[g d],pre++[Y (d,U)]))->X0 b+X0 l<=N->
  ∃c,kr (iK<|X0 pre) jK f l b (pre++[x])=Y (b++l.map g,pre++[c]):=by
 intro n
 induction n with
 |nil=>exact λb x _ _=>⟨x,by simp[kr]⟩
 |cons d l m=>intro b x h i;obtain⟨c,e⟩:=m (b++[g d]) (Y (d,U)) (λj k=>h j<|jU _ k) (by simp at i ⊢;lia);refine⟨c,?_⟩;rw[kr,IZ];simp;rw[h d la b<|by simp at i;lia];simp;rw[e];simp
def Bu(f:F)(g:D->D)(pre:Dn):∀(l b:List D)(x:Sl),(∀d∈l,∃o,f (pre++[Y (d,U)])=Y ((g d,o),pre++[Y (d,U)]))->X0 b+X0 l<=sizeLine->
  ∃i,kr (iK<|X0 pre) jK (jN f) l b (pre++[x])=Y (b++l.map g,pre++[i]):=λl b x h=>Qx l b x λd hd a c=>by
 obtain⟨o,e⟩:=h d hd;show(f _).bind _=_;rw[e];exact iZ c
def Xt(f:F)(g:D->Int)(pre:Dn):∀(l b:List D)(x:Sl),(∀d∈l,∃o,f (pre++[Y (d,U)])=Y ((.int<|g d,o),pre++[Y (d,U)]))->X0 b+X0 l<=1000->
  ∃i,kr (iK<|X0 pre) jK (ET f) l b (pre++[x])=Y (b++l.map λd=>.int (g d),pre++[i]):=λl b x h=>Qx l b x λd hd a c=>by
 obtain⟨o,e⟩:=h d hd;show(f _).bind _=_;rw[e];exact iZ (show (X0 a)+1<il from Ab (Nat.succ_lt_succ c)<|by decide)
def Df(p:D->Bool):∀l:List D,pB (l.map λd=>.bl (p d))=Y (l.map p):=by
 intro b
 induction b with
 |nil=>exact I
 |cons d l a=>simp[pB,a]
def xv(p:D->Bool)(l:List D):vQ (.lst<|l.map λd=>.bl (p d))=Y (.bl<|l.all p,U):=by simp[vQ,Df,en]
def af5(p:D->Bool)(l:List D):Gd (.lst<|l.map λd=>.bl (p d))=Y (.bl<|l.any p,U):=by simp[Gd,Df,fH]
noncomputable def ab(s:Int):Int:=if s<0 then -s else s
noncomputable def wh:D->Bool
 |.int _=>C
 |_=>U
def sg(n:Int):D->Bool
 |.int s=>decide (1<=ab s)&&decide (ab s<=n)
 |_=>U
noncomputable def BR:D->Int
 |.int s=>s
 |_=>0
def wt(d:D):mP [(d,U)]=Y ((.bl<|wh d,U),[Y (d,U)]):=by
 cases d<;>(first|rfl|simp[mP,yR,AG,jy,wh,Hu])
def Cz(d:D)(lo a:Int):lL [(d,U),(.int lo,U),(.int a,U)]=Y ((.bl (match d with|.int s=>decide (lo<=s)&&decide (s<=a)|_=>U),U),[Y (d,U),Y (.int lo,U),Y (.int a,U)]):=by
 cases d with
 |int s=>by_cases h:lo<=s<;>simp[lL,rZ,AG,jy,wt,wh,ju,wb,Bj,mF,h]
 |_=>(first|rfl|simp[lL,rZ,AG,jy,wt,wh,ju,wb])
def JF(d:D)(n:Int):qa [(.int n,U),(d,U)]=Y ((.bl (match d with|.int s=>decide (1<=s)&&decide (s<=n)|_=>U),U),[Y (.int n,U),Y (d,U)]):=by simp[qa,A9,AG,jy,Cz,ju]
def Rv(n:Int)(d:D):nH [pI n,(d,U)]=Y ((.bl<|sg n d,U),[ii n,Y (d,U)]):=by
 cases d with
 |int s=>simp[nH,vS,AG,jy,wt,JF,wh,ju,wb,sg,ab];rfl
 |_=>(first|rfl|simp[nH,vS,AG,jy,wt,JF,wh,ju,wb,sg,ab])
def HB(h:sg n d=C):d=.int (BR d):=by cases d<;>simp_all [sg,BR]
def Vj(h:wh d=C):d=.int (BR d):=by cases d<;>simp_all [wh,BR]
def tB(n:Nat):D->Bool
 |.tup l=>decide (X0 l=n)&&(l.all (sg n)&&decide ((l.map λd=>ab<|BR d).Nodup))
 |_=>U
def lB(n:Nat):D->Bool
 |.tup l=>l.all wh&&decide ((l.map λd=>ab<|BR d).Perm<|st n)
 |_=>U
def Y7(n:Nat)(d:D):tB n d=lB n d:=by
 cases d with
 |tup l=>
  rw[tB,lB,Ds];simp only[ma,wd,mh,Ju,ke,wa];constructor
  .rintro⟨h1,a,b⟩;refine⟨λd hd=>?_,h1,?_,b⟩
   .rw[HB<|a d hd];rfl
   rintro x ⟨d,hd,rfl⟩;have:=a d hd;rw[HB this]at this;simpa[sg]using this
  rintro⟨h1,a,b,c⟩;refine⟨a,λd hd=>?_,c⟩;have:=b _ ⟨d,hd,rfl⟩;rw[Vj<|h1 d hd];simpa[sg]using this
 |_=>rfl
def ac0(n:Nat)(d:D)(hd:∀l,d=.tup l->X0 l<=60):kO [pI n,(d,U)]=Y ((.bl<|tB n d,U),[ii n,Y (d,U)]):=by
 cases d with
 |tup l=>
  have i:=hd l I;by_cases h1:(X0 l)=n
  .obtain⟨x1,b⟩:=Bu (ja nH [iJ 0,iJ 1]) (λd=>.bl (sg n d)) [ii n] l [] J (λd _=>⟨U,by simp[Rv,ju,wb]⟩) (by rw[ku];simp;lia);simp at b;by_cases a:l.all (sg n)=C
   .have h:∀d∈l,∃o,jl (g1 BX) [iJ 0] ([]++[Y (d,U)])=Y ((.int<|ab<|BR d,o),([]++[Y (d,U)]:Dn)):=λd hd=>⟨U,by rw[mh]at a;rw[HB<|a d hd];rfl⟩
    obtain⟨x2,c⟩:=Xt (jl (g1 BX) [iJ 0]) (λd=>ab<|BR d) [] l [] J h (by simp;lia);simp at c
    have e:(ou<|l.map λd=>D.int<|ab<|BR d).2=(X0 l)↔(l.map λd=>ab<|BR d).Nodup:=by have:=Ry<|l.map λd=>ab<|BR d;rw[kG,ke]at this;exact this
    have g:(((ou<|l.map λd=>D.int<|ab<|BR d).2:Int)==(n:Int))=decide ((l.map λd=>ab<|BR d).Nodup):=by
     rw[uH,<-h1];by_cases q:(l.map λd=>ab<|BR d).Nodup
     .rw[oV q,e.mpr q];simp
     rw[lT q];simp only[decide_eq_false_iff_not,sx];exact λz=>q<|e.mp z
    simp[kO,nr,AG,Hu,h1,jD,uD,jS,b,c,xv,a,jy,ju,wb,tB,g]
   have f:l.all (sg n)=U:=by simpa using a
   simp[kO,nr,AG,Hu,h1,jD,uD,jS,b,xv,f,jy,ju,wb,tB]
  have: ¬(((X0 l):Int)=(n:Int)):=by lia
  simp[kO,nr,AG,Hu,this,h1,jy,ju,wb,tB]
 |_=>(first|rfl|simp[kO,nr,AG,Hu,jy,tB])
def Ob(d:D):Prop:= ∀l,d=.tup l->X0 l<=60
def ixl(a:0<=v)(h:v<L.length):BY (.lst L) (.int v)=Y (L.getD v.toNat .A7,U):=by
 have h1:v.toNat<L.length:=by lia
 simp[BY,Hv,FU,a,h]
def OL{t:iO}{v:Int}(a:0<=v)(h:v<X0 t):BY (.tup<|t.map .int) (.int v)=ii (t.getD v.toNat 0):=by
 have h1:v.toNat<(X0 t):=by lia
 simp[BY,Hv,FU,a,h]
def ZU{t:iO}{v:Int}(a:0<=v)(h:v<X0 t):BY (.lst<|t.map .int) (.int v)=ii (t.getD v.toNat 0):=by
 have h1:v.toNat<(X0 t):=by lia
 simp[BY,Hv,FU,a,h]
inductive TkI(m:Int)(P:Int->Int->Prop):Prop where
 |mk (v a:Int) (_:0<=v) (_:v<m) (_:P v a)
def ph(a:Int)(b:Bool)(m:Int)(j:0<m)(f:m<1073741824):TkI m λv c=>∀(d:FO)(δ:Dn)(o:BN),d (A8 a b::δ)=Y (o,A8 a b::δ)->By (A8 a b::δ) o=ii m->ja jM [iJ 0,d] (A8 a b::δ)=Y ((.int v,U),A8 c b::δ):=by
 obtain⟨v,c,g,h1,e⟩:=yk a b m j f;refine⟨v,c,g,h1,λd δ o h i=>?_⟩;refine(km (os:=[.slot 0,o]) (args:=[pS a b,pI m]) (pY I h) ?_ ?_ e).trans ?_
 .simp[i]
 .cases o<;>simp[ju]
 cases o<;>kernel_rfl
noncomputable def led(u:iO)(s:Int):Int:=if 0<s then u.getD (s-1).toNat 0 else -(u.getD (-s-1).toNat 0)
def WC(u:iO)(s:Int)(a:s≠0)(h1: -((X0 u):Int)<=s)(b:s<=X0 u):
  nN [enc u,pI s]=Y ((.int<|led u s,U),[eN u,ii s]):=by
 simp only[nN,yQ];by_cases h:0<s
 .have:=OL (t:=u) (v:=s-1) (by lia) (by lia);simp only[AG];simp[h,led,this,jy]
 have:=OL (t:=u) (v:= -s-1) (by lia) (by lia);simp only[AG];simp[h,led,this,jy]
def ab4(x:Int):sH (.int x) (.int 1)=ii x:=by have:EK x 1:=.inr (by lia);show((if EK x 1 then Y (D.int<|x*1)else J).map λz=>(z,U))=_;rw[iZ this,Hm];rfl
def ab3(x:Int):sH (.int x) (.int (-1))=ii (-x):=by have:EK x (-1):=.inr (by lia);show((if EK x (-1)then Y (D.int<|x*(-1))else J).map λz=>(z,U))=_;rw[iZ this,Int.mul_neg,Hm];rfl
def AH(n:Nat)(c:iO):Prop:=c≠[]/\(c.map ab).Pairwise (· < ·)/\∀s∈c,1<=ab s/\ab s<=n
def CA(j:Int)(c:iO):Prop:=(c.map ab).Pairwise (· < ·)/\∀s∈c,1<=ab s/\ab s<j
def qI(h:0<=i):ab i=i:=by unfold ab;rw[jo<|by lia]
def EX(h:0<=i):ab (-i)=i:=by unfold ab;split<;>lia
def CA.snoc{j s:Int}{c:iO}(h:CA j c)(h1:ab s=j)(e:1<=j):CA (j+1) (c++[s]):=by
 refine⟨?_,λx a=>?_⟩
 .rw[nQ,ui];refine⟨h.1,by simp,λx a y b=>?_⟩;obtain⟨z,d,rfl⟩:=jd a;simp at b;subst b;have:=h.2 z d;lia
 rcases qX.mp a with a|a
 .have:=h.2 x a;lia
 simp at a;subst a;lia
def CA.up(h:CA j c):CA (j+1) c:=⟨h.1,λx a=>by have:=h.2 x a;lia⟩
abbrev fbC:FS:=zC3
def vV{i:Nat}{f:F}{δ δ1:Dn}{r:D×Bool}{l0 l:List D}(a:δ[i]?=Y (Y (.lst l0,C)))(h1:f δ=Y (r,δ1))(b:δ1[i]?=Y (Y (.lst l,C)))(c:(X0 l)<=10000):
  iP (nj<|lK i f) jk δ=Y (.nx<|δ1.set i<|Y (.lst<|l++[r.1],C)):=
 (iN<|nW<|nG a h1 b<|uv c).trans rfl
def Xb(a:Int)(b:Bool)(n w:Int)(p:0<w)(q:w<100)(j:Int)(o:1<=j)(c:iO)(m:CA j c)(t:(X0 c)<=10)(x:Sl):∃d f s,CA (j+1) f/\(X0 f)<=X0 c+1/\fbC [A8 a b,ii n,ii w,Al c,ii j,x]=Y (.nx [A8 d b,ii n,ii w,Al f,ii j,s]):=by
 obtain⟨v,d,u,y,e⟩:=ph a b w p (by lia)
 have s1:∀g,iP X8 g [A8 a b,ii n,ii w,Al c,ii j,x]=g [A8 d b,ii n,ii w,Al c,ii j,ii v]:=λg=>iN<|jL (i:=5) (δ1:=[A8 d b,ii n,ii w,Al c,ii j,x]) (e _ [ii n,ii w,Al c,ii j,x] (.slot 2) rfl rfl) (show 5<6 by decide)
 by_cases h:v<2
 .have k:BY (.lst [.int j,.int (-j)]) (.int v)=ii (if v=0 then j else -j):=by rcases(show v=0\/v=1 by lia)with rfl|rfl<;>rfl
  refine⟨d,c++[if v=0 then j else -j],ii v,m.snoc (by split;exact qI (by lia);exact EX<|by lia) o,by simp,?_⟩;refine(s1 _).trans ((iN<|(pP (δ1:=[A8 d b,ii n,ii w,Al c,ii j,ii v])<|by simp[h]).trans<|vV (δ1:=[A8 d b,ii n,ii w,Al c,ii j,ii v]) (r:=(.int (if v=0 then j else -j),U)) (l0:=c.map .int) (l:=c.map .int) I (by simp[jS,ku,k]) I<|by simp;lia).trans ?_);simp
 refine⟨d,c,ii v,m.up,by lia,?_⟩;exact(s1 _).trans ((iN<|(pd<|by simp[h]).trans I).trans I)
def aci(b:Bool)(n w:Int)(t:0<w)(g:w<100):∀(m:Nat)(j:Nat)(a:Int)(c:iO)(x4 x5:Sl),1<=j->CA j c->X0 c+m<=10->∃e d h i,CA (j+m:Nat) d/\(X0 d)<=10/\lF (iK 4) fbC ((bp j m).map λ(k:Nat)=>D.int (k:Int)) [A8 a b,ii n,ii w,Al c,x4,x5]=Y (.nx [A8 e b,ii n,ii w,Al d,h,i]):=by
 intro v
 induction v with
 |zero=>intro j a c x4 x5 r f s;exact⟨a,c,x4,x5,by simpa using f,by lia,rfl⟩
 |succ m u=>intro j a c x4 x5 r f s;obtain⟨a1,l,x1,h1,y,o⟩:=Xb a b n w t g j (by lia) c f (by lia) x5;obtain⟨e,d,h,i,q,x,p⟩:=u (j+1) a1 l (ii j) x1 (by lia) (by simpa using h1) (by lia);refine⟨e,d,h,i,by rw[show j+(m+1)=j+1+m by lia];exact q,x,?_⟩;rw[vt,kc];unfold lF;rw[show iK 4 (.int (j:Int)) [A8 a b,ii n,ii w,Al c,x4,x5]=Y [A8 a b,ii n,ii w,Al c,ii j,x5]from I];simp only[kF];rw[o];simp;exact p
def JW(h1:f δ=Y (o1,δ1))(a:g δ1=Y (o2,δ2))(b:res δ2 o1=Y (.int i))(c:res δ2 o2=Y (.int j))(d:0<=i/\i<=1000)(e:0<=j/\j<=1000):zf f g δ=Y (jq i (j-i).toNat,δ2):=by unfold zf;rw[pY h1 a];simp only[kF,VE,RC,b,c];rw[iZ ⟨by lia,by lia,by lia,by lia⟩]
def afE(a:Int)(b:Bool)(n:Nat)(h1:1<=n)(J:n<=5):∃A c,AH n c/\ny [pS a b,pI n]=Y (enc c,[A8 A b,ii n]):=by
 obtain⟨v,a1,T,G,B⟩:=ph a b 3 (by lia) (by lia)
 let m:List Int:=[3,4,6]
 let w:=m.getD v.toNat 0
 have y:0<w/\w<100:=by rcases(show v=0\/v=1\/v=2 by lia)with rfl|rfl|rfl<;>decide
 obtain⟨d,c,x4,x5,t,M,C⟩:=aci b n w y.1 y.2 n 1 a1 [] WF WF (by lia) ⟨by simp,by simp⟩ (by simp;lia)
 have Q:zf lC Rh [A8 a1 b,ii n,ii w,Al [],WF,WF]=Y ((bp 1 n).map λ(k:Nat)=>D.int (k:Int),[A8 a1 b,ii n,ii w,Al [],WF,WF]):=by
  rw[JW (o1:=.val (.int 1,W1)) (o2:=.val (.int<|(n:Int)+1,W1)) (i:=1) (j:=(n:Int)+1) XV XV XV XV (by lia)<|by lia];rw[show((n:Int)+1-1).toNat=n by lia]
  congr 2
  unfold jq;rw[Mn,kG];apply pL;intro k _;simp
 have pre:∀g,(iP YF<|iP Ah<|iP (mE (zf lC Rh) (iK 4) fbC) g) [A8 a b,ii n,WF,WF,WF,WF]=g [A8 d b,ii n,ii w,Al c,x4,x5]:=by
  intro g;refine(iN (δ1:=[A8 a1 b,ii n,ii w,WF,WF,WF]) ?_).trans ?_
  .refine jL (i:=2) (δ1:=[A8 a1 b,ii n,WF,WF,WF,WF]) (kK (o1:=.val (.lst<|m.map .int,WP)) (o2:=.val (.int v,W1)) (jA (δ1:=[A8 a b,ii n,WF,WF,WF,WF])<|by kernel_rfl) (jA<|B _ [ii n,WF,WF,WF,WF] _ rfl rfl) XV XV<|ZU T<|by simpa[m]using G) (show 2<6 by decide)
  refine(iN (δ1:=[A8 a1 b,ii n,ii w,Al [],WF,WF])<|by kernel_rfl).trans ?_;exact iN<|(kf Q).trans C
 by_cases h:c=[]
 .subst h;obtain⟨s,p,s0,s1,E⟩:=ph d b 2 (by lia) (by lia);obtain⟨i,f,N,U,H⟩:=ph p b n (by lia) (by lia);refine⟨f,[if s=0 then 1+i else -(1+i)],?_,?_⟩
  .refine⟨by simp,by simp,λx z=>?_⟩;simp at z;subst z;split
   .rw[qI<|by lia];lia
   rw[show -(1+i)= -(1+i)from XV,EX<|by lia];lia
  refine jY (δ:=[A8 f b,ii n,ii w,Al [if s=0 then 1+i else -(1+i)],x4,x5]) ⟨rfl,by decide,rfl⟩ ((pre _).trans ?_)
  have I:∀q,BY (.lst [.int 1,.int (-1)]) (.int s)=Y q->sH q.1 (.int (1+i))=ii (if s=0 then 1+i else -(1+i)):=by
   intro q u;have L:EK 1 (1+i):=by unfold EK;lia
   have O:EK (-1) (1+i):=by unfold EK;lia
   rcases(show s=0\/s=1 by lia)with rfl|rfl
   .cases u;simp[sH,gI,L]
   cases u;simp[sH,gI,O]
  have e:BY (.lst [.int 1,.int (-1)]) (.int s)=ii (if s=0 then 1 else -1):=by rcases(show s=0\/s=1 by lia)with rfl|rfl<;>rfl
  refine(iN<|(pP (δ1:=[A8 d b,ii n,ii w,Al [],x4,x5])<|kY<|kK (o1:=.slot 3) (o2:=.val (.lst [],WP)) (δ2:=[A8 d b,ii n,ii w,Al [],x4,x5]) XV (jA<|by kernel_rfl) XV XV<|CQ [] []).trans<|vV (r:=(.int (if s=0 then 1+i else -(1+i)),W1)) (δ1:=[A8 f b,ii n,ii w,Al [],x4,x5]) (l0:=[]) (l:=[]) XV ?_ XV<|by simp).trans ?_
  .refine kK (δ1:=[A8 p b,ii n,ii w,Al [],x4,x5]) (jA<|kK (δ1:=[A8 d b,ii n,ii w,Al [],x4,x5]) (o1:=.val (.lst [.int 1,.int (-1)],WP)) (jA<|by kernel_rfl) (jA<|E _ _ _ rfl rfl) XV XV e) (jA<|kK (o1:=.val (.int 1,W1)) XV (jA<|H _ _ (.slot 1) rfl rfl) XV XV XV) XV XV (I _ e)
  exact jz (lH<|kn (os:=[.slot 3]) XV XV XV)
 refine⟨d,c,⟨h,t.1,λs e=>by have:=t.2 s e;lia⟩,?_⟩;refine jY (δ:=[A8 d b,ii n,ii w,Al c,x4,x5]) ⟨rfl,by decide,rfl⟩<|(pre _).trans ?_;refine(iN<|(pd (δ1:=[A8 d b,ii n,ii w,Al c,x4,x5])<|kY (o:=W1)<|kK (o1:=.slot 3) (o2:=.val (.lst [],WP)) (δ2:=[A8 d b,ii n,ii w,Al c,x4,x5]) XV (jA<|by kernel_rfl) XV XV<|(CQ c []).trans<|by rw[lT h]).trans XV).trans ?_;exact jz<|lH<|kn (os:=[.slot 3]) XV XV XV
noncomputable def Ij(n:Nat):List Int:=(ap n).map λ(k:Nat)=>(-(n:Int)+(k:Int))
def VA(n:Nat)(b:n<=5):K8 .lst C [.int (-(n:Int)),.int 0]=Y (.lst<|(Ij n).map .int,C):=by
 have:n=0\/n=1\/n=2\/n=3\/n=4\/n=5:=by lia
 have h1:Eh (-(n:Int)) 0:=by rcases this with rfl|rfl|rfl|rfl|rfl|rfl<;>decide+kernel
 have a:(0- -(n:Int)).toNat=n:=by lia
 show(if Eh (-(n:Int)) 0 then Y (D.lst<|jq (-(n:Int)) (0- -(n:Int)).toNat,C)else J)=_;rw[iZ h1,a];simp[Ij,jq]
def kL(h:f δ=Y ((.lst l,o),δ1)):jJ f δ=Y (l,δ1):=by unfold jJ;rw[h];rfl
def AN{b:Type}[BEq b][LawfulBEq b]:∀(l m:List b),l.Nodup->(∀x∈l,x∈m)->X0 l<=(X0 m):=by
 intro n
 induction n with
 |nil=>intro m _ _;exact mq _
 |cons x l k=>
  intro m a c;rw[BF]at a;have j:=c x la;have i:=Mp j
  have:=k (m.erase x) a.2 (λy d=>by have f:=c y<|jU _ d;have h:y≠x:=λe=>a.1<|e▸d;exact(GL h).mpr f)
  have g:=i.length_eq;simp at g ⊢
  lia
def Jo{l:iO}(h:l.Pairwise (· < ·)):l.Nodup:=h.imp λh=>by lia
def AH.len{n:Nat}{c:iO}(h:AH n c):(X0 c)<=n:=by
 have:=AN (c.map ab) (st n) (Jo h.2.1) (λx b=>by obtain⟨s,a,rfl⟩:=jd b;exact Kz.mpr<|h.2.2 s a)
 simpa[st]using this
def Ie(n:Nat)(t:iO):Prop:=X0 t=n/\∀x∈t,1<=ab x/\ab x<=n
theorem mp0:BY (.lst [.int (-1),.int 1]) (.int 0)=ii (-1):=rfl
theorem mp1:BY (.lst [.int (-1),.int 1]) (.int 1)=ii 1:=rfl
def ZN(u:iO)(s:Int)(b:s≠0)(h1: -((X0 u):Int)<=s)(c:s<=X0 u):
  my [enc u,pI s]=Y ((.int<|led u s,U),[eN u,ii s]):=by
 simp only[my,sD];by_cases h:0<s
 .have:=OL (t:=u) (v:=s-1) (by lia) (by lia);have a: ¬s<0:=by lia
  simp only[AG];simp[h,a,led,this,jy,ku,mp1,ab4]
 have:=OL (t:=u) (v:= -s-1) (by lia) (by lia);have a:s<0:=by lia
 simp only[AG];simp[h,a,led,this,jy,ku,mp0,ab3]
def pH(i:Int):ab (-i)=ab i:=by unfold ab;split<;>split<;>lia
def ly{l:iO}{k:Nat}(h:k<X0 l):l.getD k 0∈l:=by rw[oU,jT h];exact Dw h
def HW{n:Nat}{t:iO}(b:Ie n t){s:Int}(h1:1<=ab s)(a:ab s<=n):1<=ab (led t s)/\ab (led t s)<=n:=by
 unfold led;unfold ab at h1 a;have c:=b.1;split
 .rename_i h;rw[jo<|by omega]at h1 a;exact b.2 _ (ly<|by omega)
 rename_i h;rw[pH];split at h1
 .rw[iZ<|by assumption]at a;exact b.2 _ (ly<|by omega)
 omega
def dD(a:iO):D:=.AF .dct (a.map λw=>.int (ab w)) (a.map .int)
def Ay(a:iO)(w:Int):List Int:=if ab w∈a.map ab then a.map λx=>if ab x=ab w then w else x else a++[w]
def Xz(w:Int):∀a:List Int,((a.map λw=>D.int<|ab w).any (D.AI · (.int<|ab w)))=decide (ab w∈a.map ab):=by
 intro c
 induction c with
 |nil=>kernel_rfl
 |cons x a b=>
  simp only[kc,tw,b,D.AI];by_cases h:ab x=ab w
  .simp[h]
  have: ¬ab w=ab x:=λe=>h e.symm;simp[h,this]
def RB(w:Int):∀a:List Int,Au (a.map λw=>D.int<|ab w) (a.map .int) (.int<|ab w) (.int w)=(a.map λx=>if ab x=ab w then w else x).map .int:=by
 intro c
 induction c with
 |nil=>kernel_rfl
 |cons x a b=>simp only[kc,Au,b,D.AI];by_cases h:ab x=ab w<;>simp[h]
def VW(a:iO)(w:Int):D.AF .dct (yn (a.map λw=>.int (ab w)) (a.map .int) (.int<|ab w)<|.int w).1 (yn (a.map λw=>.int (ab w)) (a.map .int) (.int<|ab w)<|.int w).2=dD (Ay a w):=by
 unfold yn Ay dD;rw[Xz];by_cases h:ab w∈a.map ab
 .rw[iZ<|by simpa using h,iZ h,RB]
  congr 1
  show(a.map λw=>D.int<|ab w)=cV (λw=>D.int<|ab w) (a.map λx=>if ab x=ab w then w else x);rw[kG];apply pL;intro x _;simp;split
  .rename_i e;rw[e]
  rfl
 rw[jo<|by simpa using h,jo h];simp
def DW(n:Nat)(a:iO):Prop:=(a.map ab).Nodup/\∀w∈a,1<=ab w/\ab w<=n
def DW.put(h:DW n ws)(h1:1<=ab w/\ab w<=n):DW n (Ay ws w):=by
 unfold Ay;split
 .rename_i c;refine⟨?_,λx a=>?_⟩
  .have:((ws.map λx=>if ab x=ab w then w else x).map ab)=ws.map ab:=by
    rw[kG];apply pL;intro x _;simp;split
    .rename_i e;rw[e]
    rfl
   rw[this];exact h.1
  obtain⟨y,b,rfl⟩:=jd a;split
  .exact h1
  exact h.2 y b
 rename_i c;refine⟨?_,λx a=>?_⟩
 .rw[nQ,zL];refine⟨h.1,by simp,λx a y b e=>?_⟩;simp at b;subst b;subst e;exact c a
 rcases qX.mp a with a|a
 .exact h.2 x a
 simp at a;subst a;exact h1
def RQ(a:iO)(w:Int):Ay a w≠[]:=by
 unfold Ay;split
 .rename_i h
  cases a with
  |nil=>simp at h
  |cons=>simp
 simp
def DW.len(h:DW n ws):(X0 ws)<=n:=by
 have:=AN (ws.map ab) (st n) h.1 (λx b=>by obtain⟨s,a,rfl⟩:=jd b;exact Kz.mpr<|h.2 s a)
 simpa[st]using this
def JK(k:Int):∀a:List Int,k∈a.map ab->∃w∈a,ab w=k/\mw (a.map λw=>D.int<|ab w) (a.map .int) (.int k)=Y (.int w):=by
 intro f
 induction f with
 |nil=>intro h;simp at h
 |cons x a d=>
  intro h;simp only[kc,mw,D.AI];by_cases e:ab x=k
  .exact⟨x,by simp,e,by simp[e]⟩
  have:k∈a.map ab:=by
   simp only[kc,nS]at h;rcases h with h|h
   .exact absurd h.symm e
   exact h
  obtain⟨w,c,h1,b⟩:=d this;exact⟨w,by simp[c],h1,by simp[e,b]⟩
def F6(a:iO)(k:Int):qt (a.map λw=>D.int<|ab w) (.int k)=C:=by simp[qt,vP]
abbrev OQ:FS:=YC
def Qa{n:Nat}{t:iO}(f:Ie n t)(j:n<=5){s:Int}(h1:1<=ab s/\ab s<=n){a:iO}(g:DW n a)(b x4:Sl):OQ [eN t,b,Y (dD a,C),ii s,x4]=Y (.nx [eN t,b,Y (dD<|Ay a<|led t s,C),ii s,ii<|led t s]):=by
 have h:=f.1
 have c:s≠0/\ -((X0 t):Int)<=s/\s<=(X0 t):=by have:=h1;unfold ab at this;split at this<;>lia
 refine(iN (δ1:=[eN t,b,Y (dD a,C),ii s,ii<|led t s]) ?_).trans ?_
 .exact jL (i:=4) (δ1:=[eN t,b,Y (dD a,C),ii s,x4]) (km (δ1:=[eN t,b,Y (dD a,C),ii s,x4]) (os:=[.slot 0,.slot 3]) (args:=[enc t,pI s]) I I mZ<|ZN t s c.1 c.2.1 c.2.2) (show 4<5 by decide)
 refine(iN (δ1:=[eN t,b,Y (dD<|Ay a<|led t s,C),ii s,ii<|led t s]) ?_).trans I;have d:jS 4 [eN t,b,Y (dD a,C),ii s,ii<|led t s]=Y ((.int<|led t s,U),[eN t,b,Y (dD a,C),ii s,ii<|led t s]):=rfl;have e:iY Na [eN t,b,Y (dD a,C),ii s,ii<|led t s]=Y (.val (.int<|ab<|led t s,U),[eN t,b,Y (dD a,C),ii s,ii<|led t s]):=rfl;unfold NK;rw[d];simp only[kF,vg];rw[e];simp only[kF,Aw,zP,vg,dD];rw[iZ ⟨F6 a _,by have:=g.len;simp;lia⟩,VW];rfl
def aac{n:Nat}{t:iO}(k:Ie n t)(m:n<=5)(d:Sl):∀(c a:iO)(x3 x4:Sl),(∀s∈c,1<=ab s/\ab s<=n)->DW n a->∃b j i,DW n b/\(a≠[]\/c≠[]->b≠[])/\lF (iK 3) OQ (c.map .int) [eN t,d,Y (dD a,C),x3,x4]=Y (.nx [eN t,d,Y (dD b,C),j,i]):=by
 intro q
 induction q with
 |nil=>intro a x3 x4 _ f;exact⟨a,x3,x4,f,λh=>h.elim id λh=>absurd I h,rfl⟩
 |cons s c p=>intro a x3 x4 h f;have g:=h s la;obtain⟨b,j,i,h1,l,e⟩:=p (Ay a<|led t s) (ii s) (ii<|led t s) (λx o=>h x<|jU _ o)<|f.put<|HW k g.1 g.2;refine⟨b,j,i,h1,λ_=>l<|.inl<|RQ _ _,?_⟩;rw[kc];unfold lF;rw[show iK 3 (.int s) [eN t,d,Y (dD a,C),x3,x4]=Y [eN t,d,Y (dD a,C),ii s,x4]from I];simp only[kF];rw[Qa k m g f];simp;exact e
def Vs{l k:iO}(m:l.Nodup)(h:nU Bo (l.map .int)=k.map .int):k.Perm l/\k.Pairwise (· < ·):=by
 have f:=lb Bo<|l.map D.int;rw[h]at f;have c:=(f.map λd=>match d with|D.int i=>i|_=>0)
 simp at c;have e:((λd=>match d with|D.int i=>i|_=>0)∘D.int)=id:=rfl;rw[e,sN,sN]at c;refine⟨c,?_⟩;have g:=rg<|l.map D.int;rw[h,rJ]at g;have j:=c.symm.nodup m;have:=g.and j;refine this.imp λ{a b} h=>?_;have h1:=h.1;rw[CD]at h1;simp only[cT]at h1;by_cases q:b<a
 .simp[q]at h1
 have:=h.2;lia
def afU(a:iO):∀k:List Int,(∀x∈k,x∈a.map ab)->∃c:List Int,c.map ab=k/\(∀w∈c,w∈a)/\k.map (λx=>(mw (a.map λw=>D.int<|ab w) (a.map .int)<|.int x).getD .A7)=c.map .int:=by
 intro l
 induction l with
 |nil=>intro _;exact⟨[],rfl,by simp,rfl⟩
 |cons x k j=>intro h;obtain⟨w,g,h1,f⟩:=JK x a<|h x la;obtain⟨c,b,d,e⟩:=j λy i=>h y<|jU _ i;exact⟨w::c,by simp[h1,b],by simp[g];exact d,by simp[f,e]⟩
def JR{n:Nat}(T:n<=5){t c a:iO}{x3 x4:Sl}(l:DW n a)(u:a≠[])(e:lF (iK 3) OQ (c.map .int) [eN t,eN c,Y (dD [],C),J,J]=Y (.nx [eN t,eN c,Y (dD a,C),x3,x4])):
  ∃b,((b.map ab).Pairwise (· < ·)/\(∀w∈b,w∈a)/\(b.map ab).Perm (a.map ab))/\kg [enc t,enc c]=Y (enc b,[eN t,eN c]):=by
 have j:=l.len;obtain⟨k,hk⟩:=wO<|lb Bo<|(a.map ab).map D.int;obtain⟨f,z⟩:=Vs l.1 hk;obtain⟨b,i,o,p⟩:=afU a k λx h=>f.mem_iff.mp h;refine⟨b,⟨by rw[i];exact z,o,by rw[i];exact f⟩,?_⟩
 have m:(X0 k)<=5:=by have:=f.length_eq;simp at this;lia
 have s1:mK (dD a)=Y (.lst<|k.map .int,C):=by
  unfold mK dD;have q:((a.map λw=>D.int<|ab w).all λk=>(vP k).isSome)=C:=by simp[vP]
  have B:(a.map λw=>D.int<|ab w)≠[]:=by simpa using u
  simp only;rw[iZ ⟨q,B⟩];have r:(a.map λw=>D.int<|ab w)=(a.map ab).map D.int:=by rw[kG];rfl
  unfold lE;rw[r,iZ ⟨ad6 _,by rw[ku];simp;lia⟩,hk]
 obtain⟨E,g⟩:=Bu (jf Ib (iJ 0)<|iJ 1) (λd=>match d with|.int x=>(mw (a.map λw=>D.int<|ab w) (a.map .int)<|.int x).getD .A7|_=>.A7) [Y (dD a,C)] (k.map .int) [] J (by intro d hd;obtain⟨x,h,rfl⟩:=jd hd;obtain⟨w,v,h1,s⟩:=JK x a<|f.mem_iff.mp h;refine⟨U,kK (o1:=.slot 0) (o2:=.slot 1) I I I I ?_⟩;simp only[Ib,dD];rw[iZ<|F6 a x,s];rfl) (by rw[ku];simp;lia)
 have A:((k.map D.int).map λd=>match d with|.int x=>(mw (a.map λw=>D.int<|ab w) (a.map .int)<|.int x).getD .A7|_=>.A7)=b.map .int:=by rw[kG,<-p];rfl
 rw[A]at g;simp at g;refine jY (δ:=[eN t,eN c,Y (dD a,C),x3,x4]) ⟨rfl,by decide,rfl⟩ ?_;refine(iN (δ1:=[eN t,eN c,Y (dD [],C),J,J]) I).trans ?_;refine(iN<|(kf (ds:=c.map .int) (δ1:=[eN t,eN c,Y (dD [],C),J,J]) I).trans e).trans ?_;refine jz<|lH<|kn (os:=[.val (.lst<|b.map .int,C)]) (qz<|jA ?_) I I;have y:jJ (jl (g1 mK) [iJ 2]) [eN t,eN c,Y (dD a,C),x3,x4]=Y (k.map .int,[eN t,eN c,Y (dD a,C),x3,x4]):=kL<|kn (os:=[.slot 2]) I I s1;unfold jD;rw[y];simp only[kF,kc,oW];rw[show kz [eN t,eN c,Y (dD a,C),x3,x4] [.slot 2]=Y [(dD a,C)]from I];simp only[kF];rw[iZ (show(ju [BN.slot 2] [(dD a,C)]).Nodup from(KY 2))];rw[show(cV Y [(dD a,C)]++ai 1 J:Dn)=[Y (dD a,C),J]from I,g];rfl
def adh{n:Nat}(f:n<=5){t c:iO}(k:Ie n t)(d:AH n c):∃a,AH n a/\kg [enc t,enc c]=Y (enc a,[eN t,eN c]):=by obtain⟨l,x3,x4,g,b,e⟩:=aac k f (eN c) c [] J J d.2.2 ⟨by simp,by simp⟩;have b:=b<|.inr d.1;obtain⟨a,⟨h1,h,i⟩,e⟩:=JR f g b e;refine⟨a,⟨λz=>b ?_,h1,λs j=>g.2 s<|h s j⟩,e⟩;have:=i.length_eq;rw[z]at this;exact Uc.mp (by simpa using this.symm)
noncomputable abbrev cD(c:iO):D:=.tup (c.map .int)
def vX(c:iO):D.dep (cD c)=1:=by simp[D.dep,xg]
def J8:∀a:List (List Int),D.BI (a.map cD)<=1:=by
 intro d
 induction d with
 |nil=>simp[D.BI]
 |cons c a b=>have:=b;simp only[kc,D.BI,vX];lia
def Qg(a b:iO):D.AI (cD a) (cD b)=decide (a=b):=by simp[D.AI,Bk]
def QD(c:iO):∀a:List (List Int),(a.map cD).any (λd=>D.AI d<|cD c)=decide (c∈a):=by
 intro f
 induction f with
 |nil=>kernel_rfl
 |cons x a b=>
  simp only[kc,tw,b,Qg];by_cases h:x=c
  .simp[h]
  have: ¬c=x:=λe=>h e.symm;simp[h,this]
def FP(c:iO)(a:jg):oO (cD c) (.lst<|a.map cD)=Y (.bl (!decide (c∈a)),U):=by
 have:inD (cD c) (.lst<|a.map cD)=Y (decide<|c∈a):=by have hd:=J8 a;show(if D.BI (a.map cD)<=50/\(cD c).dep<=50 then Y ((a.map cD).any λd=>D.AI d<|cD c)else J)=_;rw[iZ ⟨by lia,by rw[vX];lia⟩,QD]
 unfold oO;rw[this];rfl
noncomputable def BD:Nat->List (List Int)
 |0=>[[]]
 |k+1=>BD k++((BD k).map λc=>c++[(k:Int)+1])++((BD k).map λc=>c++[-((k:Int)+1)])
def QH:∀(k:Nat)(c:iO),(c.map ab).Pairwise (· < ·)->(∀s∈c,1<=ab s/\ab s<=k)->c∈BD k:=by
 intro j
 induction j with
 |zero=>
  intro c _ h
  cases c with
  |nil=>simp[BD]
  |cons s c=>have:=h s la;lia
 |succ k f=>
  intro c b h;simp only[BD,qX,wa];by_cases d:c=[]
  .subst d;exact .inl<|.inl<|f [] (by simp) (by simp)
  have hd:=Mm d;generalize c.dropLast=i at hd;generalize c.getLast d=s at hd;subst hd;rw[nQ,ui]at b;have l:=h s (by simp);have g:∀x∈i,1<=ab x/\ab x<ab s:=λx a=>⟨(h x<|by simp[a]).1,b.2.2 (ab x) (rK a) (ab s)<|by simp⟩
  by_cases q:ab s<=k
  .refine .inl (.inl<|f _ ?_ λx a=>?_)
   .rw[nQ,ui];exact b
   rcases qX.mp a with a|a
   .have:=g x a;lia
   simp at a;subst a;lia
  have e:ab s=(k:Int)+1:=by lia
  have hk:=f i b.1 λx a=>by have:=g x a;lia
  unfold ab at e;split at e
  .exact .inr ⟨i,hk,by rw[show s= -((k:Int)+1) by lia]⟩
  exact .inl (.inr ⟨i,hk,by rw[show s=((k:Int)+1) by lia]⟩)
def af7:∀(k:Nat)(n:Nat),n<=k->(BD n).length<=(BD k).length:=by
 intro b
 induction b with
 |zero=>intro n h;rw[show n=0 by lia];exact jZ _
 |succ k a=>
  intro n h;by_cases e:n=k+1
  .subst e;exact jZ _
  have:=a n (by lia);simp only[BD,nR,ke];lia
def EE(n:Nat)(a:jg):Prop:=a.Nodup/\∀c∈a,AH n c
def EE.len(b:n<=5)(h:EE n cs):(X0 cs)<=243:=by
 have h1:=AN cs (BD n) h.1 λc a=>QH n c (h.2 c a).2.1 (h.2 c a).2.2;have d:=af7 5 n b;have e:(BD 5).length=243:=by decide
 lia
def EE.snoc{n:Nat}{b:jg}{c:iO}(h:EE n b)(f:AH n c)(g:c∉b):EE n (b++[c]):=by
 refine⟨?_,λx a=>?_⟩
 .rw[zL];exact⟨h.1,by simp,λx a y d e=>by simp at d;subst d;subst e;exact g a⟩
 rcases qX.mp a with a|a
 .exact h.2 x a
 simp at a;subst a;exact f
abbrev FR(a:jg):Sl:=Y (.lst<|a.map cD,C)
abbrev W4:FS:=zC9
def ixc{a:jg}{i:Nat}(h:i<X0 a):BY (.lst<|a.map cD) (.int i)=Y (cD<|a.getD i [],U):=by
 have:(i:Int)<(X0 a):=by lia
 simp[BY,Hv,FU,h]
def aft{a:jg}{i:Nat}(h:i<X0 a):a.getD i []∈a:=by rw[oU,jT h];exact Dw h
def Tp{n:Nat}(p:n<=5){t:iO}(s:Ie n t){a:jg}(f:EE n a){i:Nat}(m:i<X0 a)(c d x5:Sl):∃j u,EE n j/\(X0 a)<=X0 j/\W4 [c,d,FR a,ii i,eN t,x5]=Y (.nx [c,d,FR j,ii i,eN t,u]):=by
 obtain⟨b,q,e⟩:=adh p s<|f.2 _ (aft m);have v:=f.len p
 have s1:∀g,iP Yn g [c,d,FR a,ii i,eN t,x5]=g [c,d,FR a,ii i,eN t,eN b]:=λg=>iN<|jL (i:=5) (δ1:=[c,d,FR a,ii i,eN t,x5]) (km (δ1:=[c,d,FR a,ii i,eN t,x5]) (os:=[.slot 4,.val<|enc<|a.getD i []]) (args:=[enc t,enc<|a.getD i []]) (pY I<|jA<|kK (o1:=.slot 2) (o2:=.slot 3) I I I I<|ixc m) I mZ e) (show 5<6 by decide)
 have k:(fT<|jf oO (iJ 5)<|iJ 2) [c,d,FR a,ii i,eN t,eN b]=Y (!decide (b∈a),[c,d,FR a,ii i,eN t,eN b]):=
  kY (o:=U) (kK (o1:=.slot 5) (o2:=.slot 2) I I I I<|FP b a)
 by_cases h:b∈a
 .refine⟨a,eN b,f,jZ _,(s1 _).trans<|(iN<|(pd ?_).trans I).trans I⟩;rw[k,oV h];rfl
 refine⟨a++[b],eN b,f.snoc q h,by simp,(s1 _).trans ?_⟩;rw[lT h]at k;refine(iN<|(pP k).trans<|vV (δ1:=[c,d,FR a,ii i,eN t,eN b]) (r:=enc b) (l0:=a.map cD) (l:=a.map cD) I I I<|by simp;lia).trans ?_;simp
def Z7{n:Nat}(q:n<=5)(i:Nat)(b c:Sl):∀(h:jg)(a:jg)(x4 x5:Sl),(∀t∈h,Ie n t)->EE n a->i<X0 a->∃d f g,EE n d/\(X0 a)<=X0 d/\lF (iK 4) W4 (h.map cD) [b,c,FR a,ii i,x4,x5]=Y (.nx [b,c,FR d,ii i,f,g]):=by
 intro v
 induction v with
 |nil=>intro a x4 x5 _ e j;exact⟨a,x4,x5,e,jZ _,rfl⟩
 |cons t h s=>intro a x4 x5 k e j;obtain⟨o,w,h1,x,l⟩:=Tp q (k t la) e j b c x5;obtain⟨d,f,g,p,y,m⟩:=s o (eN t) w (λu r=>k u<|jU _ r) h1 (by lia);refine⟨d,f,g,p,by lia,?_⟩;rw[kc];unfold lF;rw[show iK 4 (cD t) [b,c,FR a,ii i,x4,x5]=Y [b,c,FR a,ii i,eN t,x5]from I];simp only[kF];rw[l];simp;exact m
abbrev ftW:FT:=Yi
abbrev fbW:FS:=iP (mE lU (iK 4) W4) Yg
def Vi{n:Nat}(w:n<=5)(d:Sl)(c:jg)(y:∀t∈c,Ie n t):∀(m a i:Nat)(o:Bool)(b:jg)(x4 x5:Sl),i+m=243->m<a->EE n b->∃j r p q s,EE n j/\(X0 b)<=X0 j/\pX ftW fbW a [d,Y (.lst<|c.map cD,o),FR b,ii i,x4,x5]=Y (.nx [d,Y (.lst<|c.map cD,r),FR j,ii p,q,s]):=by
 intro m
 induction m with
 |zero=>
  intro a i o b x4 x5 l T g;have O:=g.len w;obtain⟨f,rfl⟩:∃f,a=f+1:=⟨a-1,by lia⟩
  refine⟨b,o,i,x4,x5,g,jZ _,?_⟩;have h: ¬((i:Int)<X0 b):=by lia
  have e:ftW [d,Y (.lst<|c.map cD,o),FR b,ii i,x4,x5]=Y (U,[d,Y (.lst<|c.map cD,o),FR b,ii i,x4,x5]):=
   kY (o:=U) (kK (o1:=.slot 3) (o2:=.val (.int<|X0 b,U)) I (jA<|kn (os:=[.slot 2]) I I<|by simp) I I<|by rw[Zk,lT h])
  unfold pX;rw[e];rfl
 |succ m E=>
  intro a i o b x4 x5 l T g;obtain⟨f,rfl⟩:∃f,a=f+1:=⟨a-1,by lia⟩
  have e:ftW [d,Y (.lst<|c.map cD,o),FR b,ii i,x4,x5]=Y (decide<|(i:Int)<X0 b,[d,Y (.lst<|c.map cD,o),FR b,ii i,x4,x5]):=
   kY (o:=U) (kK (o1:=.slot 3) (o2:=.val (.int<|X0 b,U)) I (jA<|kn (os:=[.slot 2]) I I<|by simp) I I<|by rw[Zk])
  by_cases h:((i:Int)<X0 b)
  .rw[oV h]at e;obtain⟨k,u,v,h1,Q,z⟩:=Z7 w i d (Y (.lst<|c.map cD,U)) c b x4 x5 y g (by lia);obtain⟨j,r,p,q,s,B,L,A⟩:=E f (i+1) U k u v (by lia) (by lia) h1;refine⟨j,r,p,q,s,B,by lia,?_⟩;unfold pX;rw[e];simp only[kF]
   have x:fbW [d,Y (.lst<|c.map cD,o),FR b,ii i,x4,x5]=Y (.nx [d,Y (.lst<|c.map cD,U),FR k,ii (i+1:Nat),u,v]):=by refine(iN<|(kf (ds:=c.map cD) (δ1:=[d,Y (.lst<|c.map cD,U),FR b,ii i,x4,x5]) I).trans z).trans ?_;refine(iN<|jL (i:=3) (δ1:=[d,Y (.lst<|c.map cD,U),FR k,ii i,u,v]) (kK (o1:=.slot 3) (o2:=.val (.int 1,U)) I I I I I) (show 3<6 by decide)).trans ?_;simp
   rw[x];simp;exact A
  rw[lT h]at e;refine⟨b,o,i,x4,x5,g,jZ _,?_⟩;unfold pX;rw[e];rfl
def afD{n:Nat}(i:n<=5){b a:jg}(f:∀t∈b,Ie n t)(h:EE n a)(o:Bool):∃c m,EE n c/\(X0 a)<=X0 c/\oB [(.lst<|a.map cD,U),(.lst<|b.map cD,o)]=Y ((.lst<|c.map cD,C),[Y (.lst<|a.map cD,U),m]):=by
 obtain⟨c,d,j,k,p,g,l,e⟩:=Vi i (Y (.lst<|a.map cD,U)) b f 243 aaw 0 o a J J (by lia) (by decide) h;refine⟨c,if o=C then Y (.lst<|b.map cD,d)else Y (.lst<|b.map cD,o),g,l,?_⟩;refine(jY (r:=(.lst<|c.map cD,C)) (δ:=[Y (.lst<|a.map cD,U),Y (.lst<|b.map cD,d),J,ii j,k,p]) ⟨rfl,(show 2<=6 by decide),by cases o<;>rfl⟩ ?_).trans ?_
 .refine(iN (δ1:=[Y (.lst<|a.map cD,U),Y (.lst<|b.map cD,o),FR a,J,J,J]) I).trans ?_;refine(iN (δ1:=[Y (.lst<|a.map cD,U),Y (.lst<|b.map cD,o),FR a,ii 0,J,J]) I).trans ?_;exact(iN e).trans (jz I)
 cases o<;>rfl
noncomputable def Cf(a:jg)(c:iO):List (List Int):=if c∈a then a else a++[c]
def dd(a:jg):List (List Int):=a.foldl Cf []
def T6(a:jg)(c:iO):qg (a.map cD) (cD c)=(Cf a c).map cD:=by unfold qg Cf;rw[show(a.map cD).any (D.AI · (cD c))=decide (c∈a)from QD c a];by_cases h:c∈a<;>simp[h]
def Qm:∀(b a:jg),(b.map cD).foldl qg (a.map cD)=(b.foldl Cf a).map cD:=by
 intro e
 induction e with
 |nil=>intro a;exact I
 |cons c b d=>intro a;rw[kc,xR,xR,T6,d]
def QM:x∈Cf a c↔x∈a\/x=c:=by
 unfold Cf;by_cases h:c∈a
 .rw[iZ h];constructor
  .exact .inl
  rintro(h1|rfl)
  .exact h1
  exact h
 rw[jo h];simp
def afw:∀(b a:jg)(x:iO),x∈b.foldl Cf a↔x∈a\/x∈b:=by
 intro e
 induction e with
 |nil=>intro a x;simp
 |cons c b d=>intro a x;rw[xR,d,QM,nS,or_assoc]
def T7(h:f.Nodup):(Cf f c).Nodup:=by
 unfold Cf;split
 .exact h
 rename_i b;rw[zL];exact⟨h,by simp,λx d y a e=>by simp at a;subst a;subst e;exact b d⟩
def P6:∀(b a:jg),a.Nodup->(b.foldl Cf a).Nodup:=by
 intro e
 induction e with
 |nil=>intro a h;exact h
 |cons c b d=>intro a h;rw[xR];exact d _ (T7 h)
def rl:∀l:List Int,D.Hz (l.map .int)=C:=by
 intro b
 induction b with
 |nil=>simp[D.Hz]
 |cons x l a=>simp[D.Hz,D.pr,a]
def Wu(c:iO):EU (cD c)=C:=by simp[EU,rl,xg]
def OH(a:jg):(a.map cD).all EU=C:=by rw[mh];intro d hd;obtain⟨c,_,rfl⟩:=jd hd;exact Wu c
theorem yH(c:cC):∀a b:List Int,(oI c (a.map .int)<|b.map .int).isSome=C
 |[],b=>by kernel_rfl
 |x::a,[]=>by kernel_rfl
 |x::a,y::b=>by
  simp only[kc,oI];split
  .exact yH c a b
  simp[oQ]
def ae0(a:jg)(h:∀c∈a,c≠[]):oK (a.map cD)=C:=by
 have hk:∀c:List Int,c≠[]->lW (cD c)=Y 1:=λc i=>by
  cases c with
  |nil=>exact absurd I i
  |cons=>rfl
 unfold oK
 cases a with
 |nil=>rfl
 |cons c a=>
  rw[xM];right;simp only[kc];rw[ma,ma,hk c<|h c la];refine⟨⟨rfl,?_⟩,?_⟩
  .rw[mh];intro d hd;rw[<-kc (f:=cD)]at hd;obtain⟨x,g,rfl⟩:=jd hd;rw[hk x<|h x g,vX];simp[D.pr,rl]
  rw[mh];intro d hd;rw[mh];intro e b;rw[<-kc (f:=cD)]at hd b;obtain⟨x,g,rfl⟩:=jd hd;obtain⟨y,j,rfl⟩:=jd b;simp only[oQ];rw[iZ<|.inl trivial];exact yH _ _ _
def Hy:D->List Int
 |.tup l=>l.map BR
 |_=>[]
def mI(c:iO):Hy (cD c)=c:=by simp only[Hy,kG];rw[pL (g:=id),sN];intro x _;rfl
def aeJ(h:m.Perm (cs.map cD)):∃a:List (List Int),m=a.map cD/\a.Perm cs:=by
 refine⟨m.map Hy,?_,?_⟩
 .rw[kG]
  symm
  rw[pL (g:=id),sN];intro d hd;obtain⟨c,_,rfl⟩:=jd<|h.mem_iff.mp hd;simp only[cz,mI];rfl
 have:=h.map Hy;rw[kG]at this;rw[show cV (Hy∘cD) cs=cV id cs from pL λc _=>mI c,sN]at this;exact this
def Ip(c:jg):Prop:=c.Pairwise λa b=>Bo (cD b) (cD a)=U
def Za{n:Nat}{a:jg}(j:∀c∈a,AH n c)(l:(X0 a)<500):∃k b:List (List Int),EE n b/\Ip b/\(∀c,c∈b↔c∈a)/\(X0 b)<=X0 a/\WV (.lst<|a.map cD)=Y (.AF .set []<|k.map cD,C)/\mK (.AF .set []<|k.map cD)=Y (.lst<|b.map cD,C):=by
 have f:∀c,c∈dd a↔c∈a:=λc=>by unfold dd;rw[afw];simp
 have i:(dd a).Nodup:=P6 a [] (by simp);obtain⟨b,e,g⟩:=aeJ<|lb Bo<|(dd a).map cD;have d:(dd a).length<=(X0 a):=AN _ _ i λc h=>(f c).mp h;refine⟨dd a,b,⟨g.symm.nodup i,λc h=>j c<|(f c).mp<|g.mem_iff.mp h⟩,?_,λc=>g.mem_iff.trans<|f c,by rw[g.length_eq];exact d,?_,?_⟩
 .have:=rg<|(dd a).map cD;rw[e,rJ]at this;exact this
 .show(if(a.map cD).all EU=C/\(a.map cD).length<500 then Y (D.AF .set []<|om<|a.map cD,C)else J)=_;rw[iZ ⟨OH a,by simpa using l⟩];unfold om;rw[show([]:List D)=([]:List (List Int)).map cD from I,Qm];rfl
 show(if((dd a).map cD).all EU=C then lE ((dd a).map cD)else J)=_;rw[iZ<|OH _];unfold lE;rw[iZ ⟨ae0 _ λc h=>(j c<|(f c).mp h).1,by rw[ku];simp;lia⟩,e]
def aeT:∀(k:Nat)(r f t:iO),t∈pT k r f->∀x∈t,x∈f\/∃y∈r,x=y*1\/x=y* -1:=by
 intro e
 induction e with
 |zero=>intro r f t h x a;simp[pT]at h;subst h;exact .inl a
 |succ k d=>
  intro r f t h x a;simp only[pT,wo,qX,uY]at h;obtain⟨v,hv,h⟩:=h
  have key:∀s:Int,(s=1\/s= -1)->t∈pT k (r.eraseIdx v) (f++[r.getD v 0*s])->x∈f\/∃y∈r,x=y*1\/x=y* -1:=by
   intro s b h;rcases d _ _ t h x a with h1|⟨y,c,h1⟩
   .rcases qX.mp h1 with h1|h1
    .exact .inl h1
    simp at h1;refine .inr ⟨r.getD v 0,ly hv,?_⟩;rw[oU];rcases b with rfl|rfl<;>simp[h1]
   exact .inr ⟨y,List.mem_of_mem_eraseIdx c,h1⟩
  rcases h with h|h
  .exact key 1 (.inl I) h
  exact key (-1) (.inr I) h
def agx{n:Nat}{t:iO}(h:t∈pT n (st n) []):Ie n t:=by
 refine⟨agw h,λx a=>?_⟩;rcases aeT n _ _ t h x a with h1|⟨y,b,h1⟩
 .simp at h1
 have:=Kz.mp b;unfold ab;rcases h1 with rfl|rfl<;>split<;>omega
def Ie.abs(h:Ie n t):Ie n (t.map ab):=by refine⟨by simpa using h.1,λx a=>?_⟩;obtain⟨y,b,rfl⟩:=jd a;have:=h.2 y b;rw[qI (i:=ab y)<|by lia];exact this
def Qw(l:AL)(P:List Int->Prop)(b:Bool)(n:Int)(h:∀a,∃i c,P c/\l [pS a b,pI n]=Y (enc c,[A8 i b,ii n])):∀(k:List D)(f:jg)(a:Int)(x:Sl),(∀c∈f,P c)->X0 f+X0 k<=1000->
  ∃(i:Int)(j:jg)(o:Sl),(∀c∈j,P c)/\(X0 j)=X0 f+X0 k/\kr (iK 2) jK (jN<|ja l [iJ 0,iJ 1]) k (f.map cD) [A8 a b,ii n,x]=Y (j.map cD,[A8 i b,ii n,o]):=by
 intro A
 induction A with
 |nil=>intro f a x m _;exact⟨a,f,x,m,by simp,rfl⟩
 |cons d k w=>
  intro f a x m p;obtain⟨a1,z,v,r⟩:=h a
  obtain⟨i,j,o,t,q,e⟩:=w (f++[z]) a1 (Y (d,U)) (λy g=>by
   rcases qX.mp g with g|g
   .exact m y g
   simp at g;subst g;exact v) (by simp at p ⊢;lia)
  refine⟨i,j,o,t,by simp at q ⊢;lia,?_⟩;have u:(f.map cD).length<sizeLine:=by rw[ku];simp at p ⊢;lia
  have s:ja l [iJ 0,iJ 1] [A8 a b,ii n,Y (d,U)]=Y (enc z,[A8 a1 b,ii n,Y (d,U)]):=
   km (δ1:=[A8 a b,ii n,Y (d,U)]) (os:=[.slot 0,.slot 1]) (args:=[pS a b,pI n]) rfl rfl (KY 0) r
  rw[kr,show iK 2 d [A8 a b,ii n,x]=Y [A8 a b,ii n,Y (d,U)]from I];simp only[kF,Jj,Jk];rw[s];simp only[kF];rw[iZ u];rw[nQ]at e;exact e
def Br(l:AL)(P:List Int->Prop)(b:Bool)(n:Int)(h:∀a,∃f c,P c/\l [pS a b,pI n]=Y (enc c,[A8 f b,ii n]))(k:List D)(hd:(X0 k)<=1000)(a:Int)(g i:Sl)(d:Dn)(o:Cb)(m:o (A8 a b::g::i::ii n::d)=Y (k,A8 a b::g::i::ii n::d)):
  ∃(f:Int)(j:jg),(∀c∈j,P c)/\(X0 j)=X0 k/\jD [0,3] 1 o (iK 2) jK (jN<|ja l [iJ 0,iJ 1]) (A8 a b::g::i::ii n::d)=Y ((.lst<|j.map cD,C),A8 f b::g::i::ii n::d):=by
 obtain⟨f,j,q,h1,p,e⟩:=Qw l P b n h k [] a J (by simp) (by simpa using hd);refine⟨f,j,h1,by simpa using p,?_⟩;unfold jD;rw[m];simp only[kF,kc,oW];rw[show kz (A8 a b::g::i::ii n::d) [.slot 0,.slot 3]=Y [pS a b,pI n]from I];simp only[kF];rw[iZ (show(ju [BN.slot 0,BN.slot 3] [(D.lst [.int a,.bl b],C),pI n]).Nodup from(KY 0))];rw[show(cV Y [(D.lst [.int a,.bl b],C),(D.int n,U)]++ai 1 J:Dn)=[A8 a b,ii n,J]from I];rw[show([]:List D)=([]:List (List Int)).map cD from I,e];rfl
def Qn(a:jg)(v:Nat):∃m,m<=v/\PX.C6 (a.map cD) J (Y (v:Int))=(a.take m).map cD:=by refine⟨min v<|X0 a,by lia,?_⟩;unfold PX.C6;rw[HT.XE,HT.Zh,t7,ke,List.drop_zero,Nat.sub_zero]
def Ip.take(h:Ip a)(m:Nat):Ip (a.take m):=xl (yf m a) h
def EE.take(h:EE n a)(m:Nat):EE n (a.take m):=⟨List.Nodup.sublist (yf m a) h.1,λc b=>h.2 c<|xS b⟩
def QR(t:iO)(a:(X0 t)<=100):Vc [Y (cD t,U)]=Y ((cD<|t.map ab,U),[Y (cD t,U)]):=by
 obtain⟨b,e⟩:=Bu (jl (g1 BX) [iJ 0]) (λd=>.int (ab<|BR d)) [] (t.map .int) [] J (by intro d hd;obtain⟨i,_,rfl⟩:=jd hd;exact⟨U,rfl⟩) (by rw[ku];simp;lia)
 simp at e;refine kn (os:=[.val (.lst<|(t.map ab).map .int,C)]) (qz<|jA ?_) I I;unfold jD;rw[show jJ (jS 0) [Y (cD t,U)]=Y (t.map .int,[Y (cD t,U)])from I];simp only[kF,oW,ux,ju,mZ,ng,se,du,zM];rw[e,kG];rfl
def aaq{f:F}{c:Cb}{e a:Dn}{b d:List D}{h:Sl}(h1:c e=Y (b,a))(g:kr (iK 0) jK (jN f) b [] [J]=Y (d,[h])):jD [] 1 c (iK 0) jK (jN f) e=Y ((.lst d,C),a):=by unfold jD;rw[h1];simp only[kF,oW,ux,ju,mZ,ng,se,du,zM];rw[g];rfl
def af8(a:jg)(m:(X0 a)<=1000)(l:∀t∈a,X0 t<=100)(b c f g i j k:Sl)(o:Bool):jD [] 1 (jJ<|jS 7) (iK 0) jK YB [b,c,f,g,i,j,k,Y (.lst<|a.map cD,o)]=Y ((.lst<|(a.map<|cV ab).map cD,C),[b,c,f,g,i,j,k,Y (.lst<|a.map cD,U)]):=by
 obtain⟨n,e⟩:=Bu Vc (λd=>cD<|(Hy d).map ab) [] (a.map cD) [] J (by intro d hd;obtain⟨t,h,rfl⟩:=jd hd;refine⟨U,?_⟩;rw[mI];exact QR t<|l t h) (by rw[ku];simp;lia)
 simp at e;have:(a.map<|(λd=>cD<|(Hy d).map ab)∘cD)=a.map (cD∘cV ab):=pL λt _=>by simp only[cz,mI]
 rw[this]at e;rw[kG];exact aaq I e
def qh(n:Nat)(a:jg):Prop:=n<=5/\EE n a/\Ip a/\(X0 a)<=30
abbrev HM(n:Nat)(a:jg):D:=.tup [.int n,.tup<|a.map cD]
abbrev rS(n:Nat)(a:jg):Sl:=Y (HM n a,U)
noncomputable abbrev lv(L:List D):Sl:=Y (.lst L,C)
def aeF(h:kM fs δ=kM b a):ja ev fs δ=ja ev b a:=by unfold ja;rw[h]
def Cu(a:Int)(b:Bool)(lo d:Nat)(h1:lo<=d)(h5:d<=5):∃Y' n h,qh n h/\lo<=n/\n<=d/\nv [pS a b,pI lo,pI d]=Y ((HM n h,W1),[A8 Y' b,ii lo,ii d]):=by
 obtain⟨v,a1,v0,v1,e1⟩:=ph a b ((d:Int)-lo+1) (by lia) (by lia);obtain⟨w,s,w0,w1,e2⟩:=ph a1 b 4 (by lia) (by lia);obtain⟨n,hn⟩:∃n:Nat,(lo:Int)+v=n:=⟨(lo+v).toNat,by lia⟩
 have pre:∀g,iP YJ (iP Yf g) [A8 a b,ii lo,ii d,WF,WF,WF,WF,WF]=g [A8 s b,ii lo,ii d,ii n,ii w,WF,WF,WF]:=by
  intro g;refine(iN (δ1:=[A8 a1 b,ii lo,ii d,ii n,WF,WF,WF,WF]) ?_).trans ?_
  .refine jL (i:=3) (δ1:=[A8 a1 b,ii lo,ii d,WF,WF,WF,WF,WF]) (kK (o1:=.slot 1) (o2:=.val (.int v,W1)) XV (jA<|e1 _ _ _ rfl rfl) XV XV ?_) (show 3<8 by decide);rw[Zn,hn]
  exact iN (jL (i:=4) (δ1:=[A8 s b,ii lo,ii d,ii n,WF,WF,WF,WF]) (e2 _ [ii lo,ii d,ii n,WF,WF,WF,WF] _ rfl rfl) (show 4<8 by decide))
 by_cases hz:n=0
 .subst hz;refine⟨s,0,[],⟨by lia,⟨by simp,by simp⟩,c4,by simp⟩,by lia,by lia,?_⟩;refine jY (δ:=[A8 s b,ii lo,ii d,ii (0:Nat),ii w,WF,WF,WF]) ⟨rfl,by decide,rfl⟩<|(pre _).trans ?_;refine jz ((pP (δ1:=[A8 s b,ii lo,ii d,ii (0:Nat),ii w,WF,WF,WF])<|by kernel_rfl).trans<|jz<|lH ?_)
  kernel_rfl
 have n1:1<=n:=by lia
 have G:n<=5:=by lia
 obtain⟨u,I,u0,u1,e3⟩:=ph s b 3 (by lia) (by lia)
 let Z:List Int:=[4,8,13]
 let m:=Z.getD u.toNat 0
 have hm:0<m/\m<=13:=by rcases(show u=0\/u=1\/u=2 by lia)with rfl|rfl|rfl<;>decide
 obtain⟨c,L,q0,q1,e4⟩:=ph I b m hm.1 (by lia);obtain⟨f,rfl⟩:∃f:Nat,c=f:=⟨c.toNat,by lia⟩
 have i1:uN (iJ 5) [A8 L b,ii lo,ii d,ii n,ii w,ii f,WF,WF]=Y (jq 0 f,[A8 L b,ii lo,ii d,ii n,ii w,ii f,WF,WF]):=pk (o:=.slot 5) XV XV (by lia);obtain⟨C,l,cU,l5,e5⟩:=Br ny (AH n) b n (λa=>afE a b n n1 G) (jq 0 f) (by simp[jq];lia) L (ii lo) (ii d) [ii w,ii f,WF,WF] (uN<|iJ 5) i1;have i7:(X0 l)<13:=by simp[jq]at l5;lia
 have H:∃(j:Int)(A:jg)(q:Sl),(∀c∈A,AH n c)/\(X0 A)<500/\zC0 [A8 C b,ii lo,ii d,ii n,ii w,ii f,lv<|l.map cD,WF]=Y (.nx [A8 j b,ii lo,ii d,ii n,ii w,ii f,lv<|A.map cD,q]):=by
  by_cases hw:0<w
  .obtain⟨k,hk,bJ⟩:∃k:Nat,(1:Int)+w%2=k/\k<=2:=⟨(1+w%2).toNat,by lia,by lia⟩
   have i2:uN Ys [A8 C b,ii lo,ii d,ii n,ii w,ii f,lv<|l.map cD,WF]=Y (jq 0 k,[A8 C b,ii lo,ii d,ii n,ii w,ii f,lv<|l.map cD,WF]):=by
    refine pk (o:=.val (.int k,W1)) (jA ?_) XV (by lia);rw[<-hk]
    kernel_rfl
   obtain⟨j,B,F,W,e6⟩:=Br mO (Ie n) b n (λa=>by obtain⟨Y',t,O,e⟩:=aes a b n G;exact⟨Y',t,agx O,e⟩) (jq 0 k) (by simp[jq];lia) C (ii lo) (ii d) [ii w,ii f,lv<|l.map cD,WF] _ i2
   have Q:(X0 B)<=1000:=by simp[jq]at W;lia
   have th:∃x:List (List Int),(∀t∈x,Ie n t)/\∀g,iP zC1 g [A8 j b,ii lo,ii d,ii n,ii w,ii f,lv<|l.map cD,lv<|B.map cD]=g [A8 j b,ii lo,ii d,ii n,ii w,ii f,lv<|l.map cD,lv<|x.map cD]:=by
    by_cases h3:w=3
    .refine⟨B.map<|cV ab,λt O=>?_,λg=>?_⟩
     .obtain⟨t',V,rfl⟩:=jd O;exact(F t' V).abs
     refine iN ((pP (δ1:=[A8 j b,ii lo,ii d,ii n,ii w,ii f,lv<|l.map cD,lv<|B.map cD])<|kY (o:=W1)<|kK (o1:=.slot 4) (o2:=.val (.int 3,W1)) XV XV XV XV<|by rw[Ur,h3];rfl).trans<|(iN<|jL (i:=7) (δ1:=[A8 j b,ii lo,ii d,ii n,ii w,ii f,lv<|l.map cD,Y (.lst<|B.map cD,W1)]) (af8 B Q (λt O=>by have:=(F t O).1;lia) _ _ _ _ _ _ _ WP) (show 7<8 by decide)).trans XV)
    refine⟨B,F,λg=>iN<|(pd (δ1:=[A8 j b,ii lo,ii d,ii n,ii w,ii f,lv<|l.map cD,lv<|B.map cD])<|kY (o:=W1)<|kK (o1:=.slot 4) (o2:=.val (.int 3,W1)) XV XV XV XV<|by rw[Ur,uH,lT h3]).trans XV⟩
   obtain⟨x,T,th⟩:=th;obtain⟨vs,h,N,P,S,R,D,X⟩:=Za cU (by lia);obtain⟨y,gx,ct⟩:=Qn h 2;obtain⟨A,q,M,_,e7⟩:=afD G T (N.take y) WP;refine⟨j,A,q,M.2,by have:=M.len G;lia,?_⟩;refine(pP (δ1:=[A8 C b,ii lo,ii d,ii n,ii w,ii f,lv<|l.map cD,WF])<|kY (o:=W1)<|kK (o1:=.slot 4) (o2:=.val (.int 0,W1)) XV XV XV XV<|by rw[KQ,oV (show w>0 from hw)]).trans ?_;refine(iN<|jL (i:=7) e6 (show 7<8 by decide)).trans ((th _).trans<|(iN<|jL (i:=6) (δ1:=[A8 j b,ii lo,ii d,ii n,ii w,ii f,lv<|l.map cD,q]) (km (δ1:=[A8 j b,ii lo,ii d,ii n,ii w,ii f,lv<|l.map cD,lv<|x.map cD]) (os:=[.val (.lst<|(h.take y).map cD,WP),.slot 7]) (args:=[(.lst<|(h.take y).map cD,W1),(.lst<|x.map cD,WP)]) (pY (δ1:=[A8 j b,ii lo,ii d,ii n,ii w,ii f,lv<|l.map cD,lv<|x.map cD]) (jA ?_) XV) XV (KY 7) e7) (show 6<8 by decide)).trans XV)
   have f1:Rj [A8 j b,ii lo,ii d,ii n,ii w,ii f,lv<|l.map cD,lv<|x.map cD]=Y ((.lst<|h.map cD,WP),[A8 j b,ii lo,ii d,ii n,ii w,ii f,lv<|l.map cD,lv<|x.map cD]):=
    kn (os:=[.val (.AF .set []<|vs.map cD,WP)]) (qz<|jA<|kn (os:=[.slot 6]) XV XV D) rfl X
   unfold CW;rw[jA f1];simp only[kF];rw[show yK [A8 j b,ii lo,ii d,ii n,ii w,ii f,lv<|l.map cD,lv<|x.map cD]=Y (.val (.int 2,W1),[A8 j b,ii lo,ii d,ii n,ii w,ii f,lv<|l.map cD,lv<|x.map cD])from XV];simp only[kF,Aw];rw[show OP WF (Y 2) (.lst<|h.map cD)=Y (.lst<|PX.C6 (h.map cD) WF<|Y 2,WP)from XV];simp only[kF];rw[show PX.C6 (h.map cD) WF (Y 2)=(h.take y).map cD from ct]
  refine⟨C,l,WF,cU,by lia,?_⟩;exact(pd (δ1:=[A8 C b,ii lo,ii d,ii n,ii w,ii f,lv<|l.map cD,WF])<|kY (o:=W1)<|kK (o1:=.slot 4) (o2:=.val (.int 0,W1)) XV XV XV XV<|by rw[KQ,lT (show ¬w>0 from hw)]).trans XV
 obtain⟨j,A,q,M,v9,H⟩:=H;obtain⟨vs,h,N,P,S,R,D,X⟩:=Za M v9
 have f1:Rj [A8 j b,ii lo,ii d,ii n,ii w,ii f,lv<|A.map cD,q]=Y ((.lst<|h.map cD,WP),[A8 j b,ii lo,ii d,ii n,ii w,ii f,lv<|A.map cD,q]):=
  kn (os:=[.val (.AF .set []<|vs.map cD,WP)]) (qz<|jA<|kn (os:=[.slot 6]) XV XV D) rfl X
 have last:∃(z:Int)(E:jg),EE n E/\Ip E/\(X0 E)<=30/\EF Va Yv jk [A8 j b,ii lo,ii d,ii n,ii w,ii f,lv<|h.map cD,q]=Y (.nx [A8 z b,ii lo,ii d,ii n,ii w,ii f,lv<|E.map cD,q]):=by
  have U:Va [A8 j b,ii lo,ii d,ii n,ii w,ii f,lv<|h.map cD,q]=Y (decide<|((X0 h):Int)>30,[A8 j b,ii lo,ii d,ii n,ii w,ii f,lv<|h.map cD,q]):=
   kY (o:=W1) (kK (o1:=.val (.int<|X0 h,W1)) (o2:=.val (.int 30,W1)) (jA<|kn (os:=[.slot 6]) XV XV<|by simp) XV XV XV<|KQ _ _)
  by_cases hb:((X0 h):Int)>30
  .obtain⟨p,z,p0,p1,e8⟩:=ph j b 30 (by lia) (by lia);obtain⟨J,rfl⟩:∃J:Nat,p=J:=⟨p.toNat,by lia⟩
   obtain⟨y,gx,ct⟩:=Qn h J;refine⟨z,h.take y,N.take y,P.take y,by rw[uX];lia,?_⟩;rw[oV hb]at U;refine(pP U).trans ((iN<|jL (i:=6) (δ1:=[A8 z b,ii lo,ii d,ii n,ii w,ii f,lv<|h.map cD,q]) (r:=(.lst<|(h.take y).map cD,WP)) ?_ (show 6<8 by decide)).trans XV);unfold CW;rw[show iJ 6 [A8 j b,ii lo,ii d,ii n,ii w,ii f,lv<|h.map cD,q]=Y (.slot 6,[A8 j b,ii lo,ii d,ii n,ii w,ii f,lv<|h.map cD,q])from XV];simp only[kF];rw[jA<|e8 _ [ii lo,ii d,ii n,ii w,ii f,lv<|h.map cD,q] _ rfl rfl];simp only[kF,Aw];rw[show res (A8 z b::[ii lo,ii d,ii n,ii w,ii f,lv<|h.map cD,q]) (.slot 6)=Y (.lst<|h.map cD)from XV];simp only[kF];rw[show OP WF (Y (J:Int)) (.lst<|h.map cD)=Y (.lst<|PX.C6 (h.map cD) WF<|Y (J:Int),WP)from XV,ct];rfl
  rw[lT hb]at U;exact⟨j,h,N,P,by lia,(pd U).trans XV⟩
 obtain⟨z,E,k1,k2,k3,last⟩:=last;refine⟨z,n,E,⟨G,k1,k2,k3⟩,by lia,by lia,?_⟩;refine jY (δ:=[A8 z b,ii lo,ii d,ii n,ii w,ii f,lv<|E.map cD,q]) ⟨rfl,by decide,rfl⟩<|(pre _).trans ?_;refine(iN<|(pd (δ1:=[A8 s b,ii lo,ii d,ii n,ii w,WF,WF,WF])<|by simp[hz]).trans XV).trans ?_;refine(iN (δ1:=[A8 L b,ii lo,ii d,ii n,ii w,ii f,WF,WF]) ?_).trans ?_
 .refine jL (i:=5) (δ1:=[A8 L b,ii lo,ii d,ii n,ii w,WF,WF,WF]) ?_ (show 5<8 by decide)
  have em:iY Vd [A8 s b,ii lo,ii d,ii n,ii w,WF,WF,WF]=Y (.val (.int m,W1),[A8 I b,ii lo,ii d,ii n,ii w,WF,WF,WF]):=
   jA (kK (o1:=.val (.lst<|Z.map .int,WP)) (o2:=.val (.int u,W1)) (jA (δ1:=[A8 s b,ii lo,ii d,ii n,ii w,WF,WF,WF])<|by kernel_rfl) (jA<|e3 _ [ii lo,ii d,ii n,ii w,WF,WF,WF] _ rfl rfl) XV XV<|ZU u0<|by simpa[Z]using u1)
  have K:=e4 (λ_=>Y (.val (.int m,W1),[A8 I b,ii lo,ii d,ii n,ii w,WF,WF,WF])) [ii lo,ii d,ii n,ii w,WF,WF,WF] (.val (.int m,W1)) XV XV
  have hf:kM [iJ 0,iY Vd] [A8 s b,ii lo,ii d,ii n,ii w,WF,WF,WF]=kM [iJ 0,λ_=>Y (.val (.int m,W1),[A8 I b,ii lo,ii d,ii n,ii w,WF,WF,WF])] (A8 I b::[ii lo,ii d,ii n,ii w,WF,WF,WF]):=by rw[pY (o1:=.slot 0) XV em];rfl
  exact(aeF hf).trans K
 refine(iN<|jL (i:=6) e5 (show 6<8 by decide)).trans ?_;refine(iN H).trans ?_;refine(iN<|jL (i:=6) f1 (show 6<8 by decide)).trans ?_;refine(iN last).trans (jz<|lH ?_)
 kernel_rfl
noncomputable abbrev BZ(a:List D):Dn:=a.map λd=>Y (d,U)
theorem wJ:∀(os:List BN)(a:List D),ju os (a.map λd=>(d,U))=[]
 |[],_=>by simp[ju]
 |_::_,[]=>by simp[ju]
 |o::os,d::a=>by cases o<;>simp[ju,wJ os a]
theorem IU:∀(os:List BN)(b:List D)(a c:Dn),wb os (b.map λd=>(d,U)) a c=c
 |[],_,_,_=>by simp[wb]
 |_::_,[],_,_=>by kernel_rfl
 |_::_,_::_,[],_=>by kernel_rfl
 |o::os,d::b,x::xs,c=>by cases o<;>simp[wb,IU os b xs]
def Xu{f:F}{ti:FT}{g:D->D}{p:D->Bool}{pre:Dn}:∀(l a:List D)(x:Sl),(∀d∈l,ti (pre++[Y (d,U)])=Y (p d,pre++[Y (d,U)])/\(p d=C->∃o,f (pre++[Y (d,U)])=Y ((g d,o),pre++[Y (d,U)])))->X0 a+X0 l<=sizeLine->
  ∃b,kr (iK<|X0 pre) ti (jN f) l a (pre++[x])=Y (a++(l.filter p).map g,pre++[b]):=by
 intro r
 induction r with
 |nil=>intro a x _ _;exact⟨x,by simp[kr]⟩
 |cons d l m=>
  intro a x h j;obtain⟨h1,n⟩:=h d la;have q:(X0 a)<sizeLine:=by simp at j;lia
  rw[kr,IZ];simp;rw[h1]
  cases k:p d
  .obtain⟨b,e⟩:=m a (Y (d,U)) (λc i=>h c<|jU _ i) (by simp at j ⊢;lia);exact⟨b,by simp[e,k]⟩
  obtain⟨o,hd⟩:=n k;obtain⟨b,e⟩:=m (a++[g d]) (Y (d,U)) (λc i=>h c<|jU _ i) (by simp at j ⊢;lia);refine⟨b,?_⟩;simp;rw[hd];simp;rw[iZ q];simp;rw[e];simp[k]
def ug{caps:jQ}{fi:Cb}{f:F}{ti:FT}{δ δ1:Dn}{l args:List D}(g:D->D)(p:D->Bool)(h1:fi δ=Y (l,δ1))(a:kz δ1 (caps.map .slot)=Y (args.map λd=>(d,U)))(b:(X0 args)=X0 caps)
  (h:∀d∈l,ti (BZ args++[Y (d,U)])=Y (p d,BZ args++[Y (d,U)])/\(p d=C->∃o,f (BZ args++[Y (d,U)])=Y ((g d,o),BZ args++[Y (d,U)])))(c:(X0 l)<=10000):
  jD caps 1 fi (iK<|X0 caps) ti (jN f) δ=Y ((.lst<|(l.filter p).map g,C),δ1):=by
 obtain⟨i,e⟩:=Xu (f:=f) (ti:=ti) (g:=g) (p:=p) (pre:=BZ args) l [] J h (by rw[ku];simp;lia);unfold jD;rw[h1];simp only[kF];rw[a];simp only[kF,wJ,ng,kG,IU];rw[show iK (X0 caps)=iK (BZ args).length from by rw[ke,b]];rw[show((args.map<|Y∘λd=>(d,U))++ai 1 J:Dn)=BZ args++[J]from I,e];simp
def yG{caps:jQ}{fi:Cb}{f:F}{δ δ1:Dn}{l args:List D}(g:D->D)(h1:fi δ=Y (l,δ1))(a:kz δ1 (caps.map .slot)=Y (args.map λd=>(d,U)))(b:(X0 args)=X0 caps)
  (h:∀d∈l,∃o,f (BZ args++[Y (d,U)])=Y ((g d,o),BZ args++[Y (d,U)]))(c:(X0 l)<=10000):
  jD caps 1 fi (iK<|X0 caps) jK (jN f) δ=Y ((.lst<|l.map g,C),δ1):=by
 rw[ug g (λ_=>C) h1 a b (λd hd=>⟨rfl,λ_=>h d hd⟩) c,XD.mpr λ_ _=>rfl]
def xh{caps:jQ}{fi:Cb}{f:F}{δ δ1:Dn}{l args:List D}(p:D->Bool)(h1:fi δ=Y (l,δ1))(a:kz δ1 (caps.map .slot)=Y (args.map λd=>(d,U)))(b:(X0 args)=X0 caps)
  (h:∀d∈l,∃o,f (BZ args++[Y (d,U)])=Y ((.bl<|p d,o),BZ args++[Y (d,U)]))(c:(X0 l)<=10000):
  jl (g1 vQ) [iY<|jD caps 1 fi (iK<|X0 caps) jK<|jN f] δ=Y ((.bl<|l.all p,U),δ1):=
 kn (qz<|jA<|yG (λd=>.bl (p d)) h1 a b h c) rfl (xv p l)
def Qo{caps:jQ}{fi:Cb}{f:F}{δ a:Dn}{l args:List D}(p:D->Bool)(h1:fi δ=Y (l,a))(b:kz a (caps.map .slot)=Y (args.map λd=>(d,U)))(c:(X0 args)=X0 caps)
  (h:∀d∈l,∃o,f (BZ args++[Y (d,U)])=Y ((.bl<|p d,o),BZ args++[Y (d,U)]))(e:(X0 l)<=10000):
  jl (g1 Gd) [iY<|jD caps 1 fi (iK<|X0 caps) jK<|jN f] δ=Y ((.bl<|l.any p,U),a):=
 kn (qz<|jA<|yG (λd=>.bl (p d)) h1 b c h e) rfl (af5 p l)
def aco{f:F}{c:Cb}{g:D->D->D}{m:List D}(r:∀d y,c [Y (d,U),y]=Y (m,[Y (d,U),y])):∀(l a:List D)(x y:Sl),(∀d∈l,∀e∈m,∃o,f [Y (d,U),Y (e,U)]=Y ((g d e,o),[Y (d,U),Y (e,U)]))->X0 a+(X0 l)*(X0 m)<=sizeLine->
  ∃v b,kr (iK 0) jK (Ce c (iK 1) jK<|jN f) l a [x,y]=Y (a++l.flatMap λd=>m.map<|g d,[v,b]):=by
 intro u
 induction u with
 |nil=>intro a x y _ _;exact⟨x,y,by simp[kr]⟩
 |cons d l t=>
  intro a x y h s;have A:(X0 a)+X0 m+(X0 l)*(X0 m)<=sizeLine:=by simp[f3]at s;omega
  obtain⟨b,j⟩:=Bu f (g d) [Y (d,U)] m a y (λe q=>h d la e q) (by omega);obtain⟨x2,w,k⟩:=t (a++m.map (g d)) (Y (d,U)) b (λi n=>h i<|jU _ n) (by simp;omega);refine⟨x2,w,?_⟩;rw[kr];rw[show iK 0 d [x,y]=Y [Y (d,U),y]from I];simp;unfold Ce;rw[r];simp;rw[show kr (iK 1) jK (jN f) m a [Y (d,U),y]=_ from j];simp only[kF];rw[show kr (iK 0) jK (λa z=>(c z).bind λp=>kr (iK 1) jK (jN f) p.1 a p.2) l (a++m.map (g d)) ([Y (d,U)]++[b])=_ from k];simp
def Xm{fi fi2:Cb}{f:F}{δ δ1:Dn}{l m:List D}(g:D->D->D)(h1:fi δ=Y (l,δ1))(a:∀d y,fi2 [Y (d,U),y]=Y (m,[Y (d,U),y]))(h:∀d∈l,∀e∈m,∃o,f [Y (d,U),Y (e,U)]=Y ((g d e,o),[Y (d,U),Y (e,U)]))(b:(X0 l)*(X0 m)<=10000):
  jD [] 2 fi (iK 0) jK (Ce fi2 (iK 1) jK<|jN f) δ=Y ((.lst<|l.flatMap λd=>m.map<|g d,C),δ1):=by
 obtain⟨c,i,e⟩:=aco (f:=f) (g:=g) a l [] J J h (by rw[ku];simp;lia);unfold jD;rw[h1];simp only[kF,oW,ux,ju,mZ,ng,se,du,zM];rw[e];simp[wb]
inductive FIv(P:Dn->Prop)(x:Option Out):Prop where
 |mk (δ:Dn) (_:P δ) (_:x=Wp (.nx δ))
def pv{tg:Tg}{fb:FS}(T:List D->Dn->Prop)(step:∀d ds δ,T (d::ds) δ->∃δ1 δ2,tg d δ=Y δ1/\fb δ1=Y (.nx δ2)/\T ds δ2):∀(ds:List D)(δ:Dn),T ds δ->FIv (T []) (lF tg fb ds δ):=by
 intro i
 induction i with
 |nil=>intro δ h;exact⟨δ,h,rfl⟩
 |cons d ds g=>intro δ h;obtain⟨δ1,δ2,h1,b,c⟩:=step d ds δ h;obtain⟨a,e,f⟩:=g δ2 c;refine⟨a,e,?_⟩;unfold lF;rw[h1];simp;rw[b];exact f
def xb{caps:jQ}{k:Nat}{fi:Cb}{d:Tg}{ti:FT}{c:FB}{δ δ1 b:Dn}{l a:List D}{args:List (D×Bool)}(h1:fi δ=Y (l,δ1))(e:kz δ1 (caps.map .slot)=Y args)(f:(ju (caps.map .slot) args).Nodup)(g:kr d ti c l [] (args.map Y++ai k J)=Y (a,b)):
  jD caps k fi d ti c δ=Y ((.lst a,C),wb (caps.map .slot) args (jy args b) δ1):=by
 unfold jD;rw[h1];simp;rw[e];simp only[kF];rw[iZ f,g];rfl
noncomputable def Qy:D->Bool
 |.int i=>decide (0<=i)&&decide (i<=1)
 |_=>U
def Xv(d:D):pG [(d,U)]=Y ((.bl<|Qy d,U),[Y (d,U)]):=by
 cases d<;>(first|rfl|simp[pG,CU,AG,jy,Cz,ju,wb,Qy])
def isA(n:Nat):D->Bool
 |.tup l=>decide (X0 l=n)&&l.all Qy
 |_=>U
def EI(h:f δ=Y ((.bl C,o),δ1)):zk f g δ=g δ1:=by rw[NX,h];rfl
def Qe(h:f δ=Y ((.bl U,o),δ1)):zk f g δ=Y ((.bl U,U),δ1):=by rw[NX,h];rfl
def af6(n:Nat)(d:D)(hd:Ob d):mU [pI n,(d,U)]=Y ((.bl<|isA n d,U),[ii n,Y (d,U)]):=by
 cases d with
 |tup l=>
  have c:=xh (caps:=[]) (fi:=jJ<|jS 1) (f:=ja pG [iJ 0]) (δ:=[ii n,Y (.tup l,U)]) (l:=l) (args:=[]) Qy I I I (λd _=>⟨U,by simp[Xv,ju,wb]⟩) (by have:=hd l I;lia)
  have e:jf Gv M9 (iJ 0) [ii n,Y (.tup l,U)]=Y ((.bl<|decide<|X0 l=n,U),[ii n,Y (.tup l,U)]):=by simp[uH,sx]
  refine jY (δ:=[ii n,Y (.tup l,U)]) ⟨rfl,by decide,rfl⟩<|jz<|lH<|(EI I).trans ?_;rw[isA];by_cases h:(X0 l)=n
  .rw[oV h]at e ⊢;exact(EI e).trans c
  rw[lT h]at e ⊢;exact Qe e
 |_=>(first|rfl|simp[mU,wW,AG,jy,Hu,isA])
noncomputable def uK:D->List D
 |.tup l=>l
 |.lst l=>l
 |_=>[]
def KS(t:iO)(s:Int):Bool:=t.getD ((ab s).toNat-1) 0==(if s>0 then 1 else 0)
def ZV(t:iO)(s:Int)(h:1<=ab s/\ab s<=X0 t):BY (.tup<|t.map .int) (.int<|ab s-1)=ii (t.getD ((ab s).toNat-1) 0):=by
 have h1:0<=ab s-1:=by lia
 have b:ab s-1<((t.map D.int).length:Int):=by simp;lia
 have c:(ab s-1).toNat=(ab s).toNat-1:=by lia
 have d:(ab s).toNat-1<(X0 t):=by lia
 have a:FU (t.map D.int).length (ab s-1)=Y ((ab s).toNat-1):=by unfold FU;rw[iZ h1,iZ b,c]
 rw[ke]at a;simp[BY,Hv,a,d]
def Um(t:iO)(s:Int)(h:1<=ab s/\ab s<=X0 t):pZ [enc t,pI s]=Y ((.bl<|KS t s,U),[eN t,ii s]):=by have:=ZV t s h;unfold ab at this;by_cases a:s>0<;>simp[pZ,Ge,AG,jy,this,a,KS,ab]
def Wy(t:iO)(s:Int)(h:1<=ab s/\ab s<=X0 t):rC [enc t,pI s]=Y ((.bl<|KS t s,U),[eN t,ii s]):=by have:=ZV t s h;unfold ab at this;by_cases a:s>0<;>simp[rC,CS,AG,jy,this,a,KS,ab]
def kC(t c:iO):Bool:=c.any<|KS t
def Iz(p:Int->Bool)(c:iO):(c.map D.int).any (λd=>p<|BR d)=c.any p:=by simp[uR,BR]
def UA(n:Nat)(i:n<=5)(t c:iO)(j:(X0 t)=n)(g:AH n c)(a:AL)(b:∀s,1<=ab s/\ab s<=X0 t->a [enc t,pI s]=Y ((.bl<|KS t s,U),[eN t,ii s])):
  AG 2 2 [] (iP (kN<|jl (g1 Gd) [iY<|jD [0] 1 lU (iK 1) jK<|jN<|ja a [iJ 0,iJ 1]]) jk) [enc t,enc c]=Y ((.bl<|kC t c,U),[eN t,eN c]):=by
 have e:=Qo (caps:=[0]) (fi:=jJ<|jS 1) (f:=ja a [iJ 0,iJ 1]) (δ:=[eN t,eN c]) (l:=c.map .int) (args:=[cD t]) (λd=>KS t<|BR d) I I I (λd hd=>⟨U,by obtain⟨s,h,rfl⟩:=jd hd;have:=g.2.2 s h;simp[b s<|by lia,ju,wb,BR]⟩) (by have:=AH.len g;simp;lia)
 rw[Iz]at e;exact jY ⟨rfl,by decide,rfl⟩<|jz<|lH e
def Po{n:Nat}(b:n<=5){t c:iO}(d:(X0 t)=n)(a:AH n c):lJ [enc t,enc c]=Y ((.bl<|kC t c,U),[eN t,eN c]):=UA n b t c d a _ λs h=>Um t s h
def JN{n:Nat}(b:n<=5){t c:iO}(d:(X0 t)=n)(a:AH n c):lj [enc t,enc c]=Y ((.bl<|kC t c,U),[eN t,eN c]):=UA n b t c d a _ λs h=>Wy t s h
def kB(n:Nat)(a:jg)(d:D):Bool:=isA n d&&a.all (kC<|(uK d).map BR)
def S7(h:isA n d=C):∃t:List Int,d=cD t/\(X0 t)=n:=by
 cases d with
 |tup l=>
  rw[isA,ma,wd,mh]at h;refine⟨l.map BR,?_,by simp[h.1]⟩;rw[cD,kG]
  congr 1
  rw[pL (g:=id),sN];intro x a;have:=h.2 x a;cases x<;>simp[Qy,BR]at this ⊢
 |_=>cases h
def T3{n:Nat}(k:n<=5){a:jg}(hk:∀c∈a,AH n c)(j:(X0 a)<=30){t:iO}(m:(X0 t)=n){b:AL}(e:∀c,AH n c->b [enc t,enc c]=Y ((.bl<|kC t c,U),[eN t,eN c])){fi:Cb}{δ:Dn}{i:Nat}(h:δ[i]?=Y (eN t))(h1:fi δ=Y (a.map cD,δ)):
  jl (g1 vQ) [iY<|jD [i] 1 fi (iK 1) jK<|jN<|ja b [iJ 0,iJ 1]] δ=Y ((.bl<|a.all<|kC t,U),δ):=by
 have:=xh (caps:=[i]) (fi:=fi) (f:=ja b [iJ 0,iJ 1]) (δ:=δ) (l:=a.map cD) (args:=[cD t]) (λd=>kC t<|(uK d).map BR) h1 (by simp[h]) I (λd hd=>⟨U,by obtain⟨c,g,rfl⟩:=jd hd;simp[e c<|hk c g,ju,wb,uK,uR,BR]⟩) (by simp;lia)
 refine this.trans ?_;simp[uR,uK,BR]
def Pn{n:Nat}{a:jg}(h:qh n a)(d:D)(hd:Ob d):ud [(HM n a,U),(d,U)]=Y ((.bl<|kB n a d,U),[rS n a,Y (d,U)]):=by
 let δ:Dn:=[rS n a,Y (d,U),ii n,Y (.tup<|a.map cD,U)]
 have e:ja mU [iJ 2,iJ 1] δ=Y ((.bl<|isA n d,U),δ):=km (os:=[.slot 2,.slot 1]) (args:=[pI n,(d,U)]) I I mZ<|af6 n d hd;refine jY (δ:=δ) ⟨rfl,by decide,rfl⟩<|(iN (δ1:=δ) I).trans<|jz<|lH ?_;rw[kB]
 cases b:isA n d with
 |false=>rw[b]at e;exact Qe e
 |true=>rw[b]at e;refine(EI e).trans ?_;obtain⟨t,rfl,f⟩:=S7 b;refine(T3 h.1 h.2.1.2 h.2.2.2 f (λc g=>Po h.1 f g) (i:=1) I I).trans ?_;simp[uK,uR,BR]
noncomputable def lA:Nat->List (List Int)
 |0=>[[]]
 |n+1=>(lA n).flatMap λt=>[t++[0],t++[1]]
theorem Dm:∀n:Nat,(lA n).length=2^n
 |0=>rfl
 |n+1=>by
  rw[lA,List.length_flatMap,uS,<-Dm n];generalize lA n=L
  induction L with
  |nil=>rfl
  |cons t L a=>simp at a ⊢;lia
def rG:∀{n:Nat}{t:iO},t∈lA n->X0 t=n/\∀x∈t,x=0\/x=1:=by
  intro e
  induction e with
  |zero=>intro t h;simp[lA]at h;simp[h]
  |succ n d=>
    intro t h;rw[lA,wo]at h;obtain⟨u,c,h⟩:=h;obtain⟨h1,b⟩:=d c;simp at h
    rcases h with rfl|rfl<;>
      (refine⟨by simp[h1],λx a=>?_⟩
       rcases qX.mp a with a|a
       · exact b x a
       · simp at a;simp[a])
def BE{n:Nat}(a:n<=5):(lA n).length<=32:=by rw[Dm];exact xG (n:=2) (by decide) a
noncomputable abbrev Ml:List D:=[.int 0,.int 1]
def IF(d e:D):D:=.tup (uK d++[e])
def QN(L:jg):(L.map cD).flatMap (λd=>Ml.map<|IF d)=(L.flatMap λt=>[t++[0],t++[1]]).map cD:=by simp[List.flatMap_map,List.map_flatMap,IF,uK,cD]
def Kl(t:iO)(a:(X0 t)<=100)(e:D):jf nq (iJ 0) IK [Y (cD t,U),Y (e,U)]=Y ((IF (cD t) e,U),[Y (cD t,U),Y (e,U)]):=by
 have:=ku;have h:(X0 t)<=16777215:=by lia
 simp[jS,this,nq,IF,uK,h]
def C7(δ:Dn):Rg δ=Y (Ml,δ):=by kernel_rfl
abbrev fbA:FS:=zC8
def ac5{n:Nat}(k:n<=5):oj [pI n]=Y ((.lst<|(lA n).map cD,C),[ii n]):=by
 let z:Sl:=ii n
 obtain⟨i,⟨j,x,a,rfl⟩,e⟩:=pv (tg:=iK 2) (fb:=fbA) (λb δ=>∃j x,j+X0 b=n/\δ=[z,Y (.lst<|(lA j).map cD,C),x]) (λd b δ g=>by
  obtain⟨j,x,a,e⟩:=g;subst e
  have c:=Xm (fi:=jJ<|jS 1) (fi2:=jJ UZ) (f:=jf nq (iJ 0) IK) (δ:=[z,Y (.lst<|(lA j).map cD,C),Y (d,U)]) (δ1:=[z,Y (.lst<|(lA j).map cD,U),Y (d,U)]) (l:=(lA j).map cD) (m:=Ml) IF I (λd y=>C7 _) (λd hd e _=>by obtain⟨t,h,rfl⟩:=jd hd;exact⟨U,Kl t (by have:=(rG h).1;simp at a;lia) e⟩) (by have:=BE (n:=j) (by lia);simp;lia)
  rw[QN]at c;exact⟨_,_,rfl,(iN<|jL c (show 1<3 by decide)).trans I,j+1,_,by simp at a;lia,rfl⟩) (jq 0 n) [z,Y (.lst<|(lA 0).map cD,C),J] ⟨0,J,by simp[jq],rfl⟩
 have:j=n:=by simpa using a
 subst this;exact jY (δ:=[z,J,x]) ⟨rfl,by decide,rfl⟩<|(iN (δ1:=[z,Y (.lst<|(lA 0).map cD,C),J]) I).trans<|(iN<|(kf<|pk (o:=.slot 0) I I<|by lia).trans e).trans<|jz I
abbrev W6:FS:=YL
abbrev aah:FS:=iP Ah<|iP (mE lU (iK 4) W6) IL
def Tv(z x1 x2:Sl)(L:jg)(d:(X0 L)<=100)(t:iO)(b:(X0 t)<=100):W6 [z,x1,x2,lv<|L.map cD,Y (cD t,U)]=Y (.nx [z,x1,x2,lv<|(L++[t++[0],t++[1]]).map cD,Y (cD t,U)]):=by
 have c:=yG (caps:=[4]) (fi:=jJ UZ) (f:=jf nq (iJ 0) IK) (δ:=[z,x1,x2,lv<|L.map cD,Y (cD t,U)]) (l:=Ml) (args:=[cD t]) (IF<|cD t) (C7 _) I I (λe _=>⟨U,Kl t b e⟩) (by simp);have h1:=ku;have a:(X0 L)+2<=16777216:=by lia
 refine(iN ?_).trans rfl;rw[Jh];unfold xa;simp;rw[show jD [4] 1 Rg (iK 1) jK U5 [z,x1,x2,lv<|L.map cD,Y (cD t,U)]=_ from c];simp[h1,a,IF,uK,cD]
noncomputable abbrev ext(t:iO):List (List Int):=[t++[0],t++[1]]
def zd{n:Nat}(w:n<=5):∃o,ml [pI n]=Y ((.lst<|(lA n).map cD,o),[ii n]):=by
 let z:Sl:=ii n
 obtain⟨m,⟨j,o,x2,x3,x4,h,rfl⟩,e⟩:=pv (tg:=iK 2) (fb:=aah) (λc δ=>∃j o x2 x3 x4,j+X0 c=n/\δ=[z,Y (.lst<|(lA j).map cD,o),x2,x3,x4]) (λd c δ i=>by
  obtain⟨j,o,x2,x3,x4,h,e⟩:=i;subst e;have k:j<=5:=by simp at h;lia
  have q:=BE k
  obtain⟨m,⟨b,a,l,h1,f,rfl⟩,e⟩:=pv (tg:=iK 4) (fb:=W6) (λc δ=>∃b a l,b++a=lA j/\c=a.map cD/\δ=[z,Y (.lst<|(lA j).map cD,U),Y (d,U),lv<|(b.flatMap ext).map cD,l]) (λt c δ i=>by
   obtain⟨b,a,l,h1,f,p⟩:=i;subst p
   cases a with
   |nil=>cases f
   |cons u a=>
    obtain⟨rfl,rfl⟩:=sZ f;have s:u∈lA j:=by rw[<-h1];simp
    have hd:(X0 b)<=32:=by have:=oo c3 h1;simp at this;lia
    refine⟨_,_,rfl,Tv z _ _ (b.flatMap ext) ?_ u (by have:=(rG s).1;lia),b++[u],a,Y (cD u,U),by simp[<-h1],rfl,?_⟩
    .have:∀L:List (List Int),(L.flatMap ext).length=2*(X0 L):=λL=>by
      induction L with
      |nil=>rfl
      |cons t L v=>simp at v ⊢;lia
     rw[this];lia
    simp) ((lA j).map cD) [z,Y (.lst<|(lA j).map cD,U),Y (d,U),lv [],x4] ⟨[],lA j,x4,rfl,rfl,rfl⟩
  have r:a=[]:=by simpa using f.symm
  subst r;rw[sA]at h1;subst h1;exact⟨_,_,rfl,(iN (δ1:=[z,Y (.lst<|(lA j).map cD,o),Y (d,U),lv [],x4]) I).trans<|(iN<|(kf<|kL (o:=U) I).trans e).trans I,j+1,U,_,_,_,by simp at h;lia,rfl⟩) (jq 0 n) [z,Y (.lst<|(lA 0).map cD,C),J,J,J] ⟨0,C,J,J,J,by simp[jq],rfl⟩
 have:j=n:=by simpa using h
 subst this
 have pre:∀g,iP Fh (iP (mE (uN<|iJ 0) (iK 2) aah) g) [z,J,J,J,J]=g [z,Y (.lst<|(lA j).map cD,o),x2,x3,x4]:=λg=>(iN (δ1:=[z,Y (.lst<|(lA 0).map cD,C),J,J,J]) I).trans<|iN<|(kf<|pk (o:=.slot 0) I I<|by lia).trans e
 refine⟨o,?_⟩
 cases o
 .exact jY (δ:=[z,Y (.lst<|(lA j).map cD,U),x2,x3,x4]) ⟨rfl,by decide,rfl⟩<|(pre _).trans<|jz I
 exact jY (δ:=[z,J,x2,x3,x4]) ⟨rfl,by decide,rfl⟩<|(pre _).trans<|jz I
def mX(n:Nat)(a:jg):List (List Int):=(lA n).filter λt=>a.all<|kC t
def S8{n:Nat}{t:iO}(h:t∈lA n):isA n (cD t)=C:=by obtain⟨h1,a⟩:=rG h;simp only[isA,ke,h1,decide_true,gJ,en,mh,cz];intro x b;rcases a x b with rfl|rfl<;>rfl
def WK{n:Nat}{a:jg}{t:iO}(h:t∈lA n):kB n a (cD t)=a.all (kC t):=by rw[kB,S8 h];simp[uK,uR,BR]
def ZH{t:iO}(h:(X0 t)<=60):Ob (cD t):=λl e=>by cases e;simpa using h
def oy(p:D->Bool)(L:jg):((L.map cD).filter p).map (λd=>d)=(L.filter λt=>p<|cD t).map cD:=by rw[vw,GB];rfl
def aeA{n:Nat}{a:jg}(h:qh n a):qb [(HM n a,U)]=Y ((.lst<|(mX n a).map cD,C),[rS n a]):=by
 have h1:jJ U8 [rS n a]=Y ((lA n).map cD,[rS n a]):=
  kL (km (os:=[.val (.int n,U)]) (args:=[pI n]) I I mZ<|ac5 h.1)
 have c:=ug (caps:=[0]) (fi:=jJ U8) (f:=jS 1) (ti:=fT<|ja ud [iJ 0,iJ 1]) (δ:=[rS n a]) (l:=(lA n).map cD) (args:=[HM n a]) (λd=>d) (kB n a) h1 I I (λd hd=>by obtain⟨t,b,rfl⟩:=jd hd;have:=(rG b).1;have e:=h.1;exact⟨kY<|km (os:=[.slot 0,.slot 1]) (args:=[(HM n a,U),(cD t,U)]) I I mZ<|Pn h _ (ZH<|by lia),λ_=>⟨U,rfl⟩⟩) (by have:=BE h.1;simp;lia)
 rw[oy,GA λt b=>WK b]at c;exact jY ⟨rfl,by decide,rfl⟩<|jz<|lH c
def adW{n:Nat}{j:jg}(h:qh n j):∃o,og [(HM n j,U)]=Y ((.lst<|(mX n j).map cD,o),[rS n j]):=by
 obtain⟨o0,p⟩:=zd h.1
 let z:Sl:=rS n j
 let cond (b:jg):List (List Int):=(lA n).filter λt=>b.all<|kC t
 obtain⟨x,⟨b,a,o,x2,h1,k,rfl⟩,e⟩:=pv (tg:=iK 2) (fb:=YD) (λm δ=>∃b a o x2,b++a=j/\m=a.map cD/\δ=[z,Y (.lst<|(cond b).map cD,o),x2]) (λd m δ r=>by
  obtain⟨b,a,o,x2,h1,k,q⟩:=r;subst q
  cases a with
  |nil=>cases k
  |cons u a=>
   obtain⟨rfl,rfl⟩:=sZ k;have w:AH n u:=h.2.1.2 u (by rw[<-h1];simp)
   have c:=ug (caps:=[2]) (fi:=jJ<|jS 1) (f:=jS 1) (ti:=fT X3) (δ:=[z,Y (.lst<|(cond b).map cD,o),Y (cD u,U)]) (δ1:=[z,Y (.lst<|(cond b).map cD,U),Y (cD u,U)]) (l:=(cond b).map cD) (args:=[cD u]) (λd=>d) (λd=>kC ((uK d).map BR) u) (kL (o:=U) I) I I (λd hd=>by obtain⟨t,v,rfl⟩:=jd hd;have:=(rG (Fc.mp v).1).1;refine⟨kY (o:=U) ?_,λ_=>⟨U,rfl⟩⟩;rw[show((uK<|cD t).map BR)=t by simp[uK,uR,BR]];exact km (os:=[.slot 1,.slot 0]) (args:=[enc t,enc u]) I I mZ<|JN h.1 this w) (by rw[ke];exact lN (lN (uQ _ _)<|BE h.1)<|by decide)
   rw[oy]at c;refine⟨_,_,rfl,(iN<|jL c (show 1<3 by decide)).trans I,b++[u],a,C,Y (cD u,U),by simp[<-h1],rfl,?_⟩
   simp[cond,uK,uR,BR,Bool.and_comm]) (j.map cD) [z,Y (.lst<|(lA n).map cD,o0),J] ⟨[],j,o0,J,rfl,rfl,by rw[show cond []=lA n from XD.mpr λ_ _=>rfl]⟩
 have s:a=[]:=by simpa using k.symm
 subst s;rw[sA]at h1;subst h1
 have pre:∀g,iP Yq (iP zC7 g) [z,J,J]=g [z,Y (.lst<|(mX n b).map cD,o),x2]:=λg=>(iN (δ1:=[z,Y (.lst<|(lA n).map cD,o0),J])<|jL (i:=1) (δ1:=[z,J,J]) (km (os:=[.val (.int n,U)]) (args:=[pI n]) I I mZ p) (show 1<3 by decide)).trans<|iN<|(kf I).trans e
 refine⟨o,?_⟩
 cases o
 .exact jY (δ:=[z,Y (.lst<|(mX n b).map cD,U),x2]) ⟨rfl,by decide,rfl⟩<|(pre _).trans<|jz I
 exact jY (δ:=[z,J,x2]) ⟨rfl,by decide,rfl⟩<|(pre _).trans<|jz I
def aav(x:Int)(c:iO):(c.map D.int).any (λd=>D.AI d<|.int x)=c.contains x:=by
 induction c with
 |nil=>rfl
 |cons y c a=>rw[kc,tw,a,List.contains_cons];simp[D.AI,uH,eq_comm]
def zv(x:Int)(c:iO):oO (.int x) (cD c)=Y (.bl (!c.contains x),U):=by
 have:inD (.int x) (cD c)=Y (c.contains x):=by show(if D.BI (c.map .int)<=50/\(D.int x).dep<=50 then Y ((c.map D.int).any λd=>D.AI d<|.int x)else J)=_;rw[iZ ⟨by rw[xg];lia,by simp[D.dep]⟩,aav]
 unfold oO;rw[this];rfl
def ZW(c:iO)(a:jg):Lp (cD c) (.lst<|a.map cD)=Y (.bl<|decide<|c∈a,U):=by
 have h:=FP c a;unfold oO at h;unfold Lp
 cases d:inD (cD c) (.lst<|a.map cD)with
 |none=>rw[d]at h;cases h
 |some b=>rw[d]at h;simp at h ⊢;cases b<;>simp at h ⊢ <;>exact h
def PR{d:D}(h:d.dep<=50):Gv d d=Y (.bl C,U):=by unfold Gv;rw[iZ ⟨h,h⟩,D.Ca]
def PM{d:D}(h:d.dep<=50):HH d d=Y (.bl U,U):=by unfold HH;rw[iZ ⟨h,h⟩,D.Ca];rfl
def TJ(L:jg):(D.lst<|L.map cD).dep<=50:=by have:=J8 L;rw[D.dep];lia
def TT(n:Nat)(t:iO):Prop:=(t.map ab).Perm<|st n
def SG(n:Nat)(s:Int):Prop:=1<=ab s/\ab s<=n
def KP(t u:iO):List Int:=t.map<|led u
def TT.len{n:Nat}{t:iO}(h:TT n t):(X0 t)=n:=by simpa using(Ju.mp h).1
def TT.sg{n:Nat}{t:iO}(h:TT n t){x:Int}(a:x∈t):SG n x:=(Ju.mp h).2.1 _ (rK a)
def TT.tok{n:Nat}{t:iO}(h:TT n t):Ie n t:=⟨h.len,λx a=>h.sg a⟩
def Ze{n:Nat}{s:Int}(h:SG n s):s≠0:=by rintro rfl;have:=h.1;simp[ab]at this
def Vv{n:Nat}{s:Int}(h:SG n s):SG n (-s):=by unfold SG;rw[pH];exact h
def ni{n:Nat}{s:Int}(h:SG n s):∃k:Nat,k<n/\(s=(k:Int)+1\/s= -((k:Int)+1)):=by
 have:=h;unfold SG ab at this;split at this
 .exact⟨(-s-1).toNat,by omega,.inr<|by omega⟩
 exact⟨(s-1).toNat,by omega,.inl<|by omega⟩
def NF{n k:Nat}(h:k<n):SG n ((k:Int)+1):=by unfold SG;rw[qI<|by lia];lia
def lR(t:iO)(k:Nat):led t ((k:Int)+1)=t.getD k 0:=by unfold led;rw[iZ<|by lia,show((k:Int)+1-1).toNat=k by lia]
def mx(t:iO)(k:Nat):led t (-((k:Int)+1))= -t.getD k 0:=by unfold led;rw[jo<|by lia,show(- -((k:Int)+1)-1).toNat=k by lia]
def zy{n:Nat}(t:iO){s:Int}(h:SG n s):led t (-s)= -led t s:=by
 obtain⟨k,_,rfl|rfl⟩:=ni h
 .rw[lR,mx]
 rw[B4,lR,mx,B4]
def EY{n:Nat}{t:iO}(a:(X0 t)=n){s:Int}(h:SG n s):ab (led t s)=(t.map ab).getD ((ab s).toNat-1) 0:=by
 obtain⟨k,hk,rfl|rfl⟩:=ni h
 .rw[lR,qI (i:=(k:Int)+1)<|by lia,show(((k:Int)+1).toNat-1)=k by lia];simp[a,hk]
 rw[mx,pH,EX<|by lia,show(((k:Int)+1).toNat-1)=k by lia];simp[a,hk]
def TT.led{n:Nat}{t:iO}(h:TT n t){s:Int}(a:SG n s):SG n (led t s):=HW h.tok a.1 a.2
def Eu{n:Nat}{t:iO}(h:TT n t)(u:iO){s:Int}(b:SG n s):PV.led (KP t u) s=PV.led u (PV.led t s):=by
 obtain⟨k,hk,rfl|rfl⟩:=ni b
 .rw[lR,lR];simp[KP,h.len,hk]
 have a:t.getD k 0∈t:=ly (by rw[h.len];exact hk);rw[mx,mx,zy u<|h.sg a];simp[KP,h.len,hk]
def TT.KP{n:Nat}{t u:iO}(h:TT n t)(a:TT n u):TT n (KP t u):=by
 unfold TT
 have e:(PV.KP t u).map ab=(t.map ab).map λj=>(u.map ab).getD (j.toNat-1) 0:=by unfold PV.KP;rw[kG,kG];refine pL λx d=>?_;exact EY a.len<|h.sg d
 rw[e];refine(h.map _).trans (hW (Q2 ?_) a);apply xY
 .simp[st,a.len]
 intro i h1 f;have c:i<n:=by simpa[st]using h1
 have b:((1:Int)+(i:Int)).toNat-1=i:=by lia
 simp only[st,kG,List.getElem_map,List.getElem_range,cz,b];simp[oU,a.len,c]
def zA{n:Nat}{t:iO}(h:TT n t){s r:Int}(g:SG n s)(f:SG n r)(e:PV.led t s=PV.led t r):s=r:=by
 have k:=(Ju.mp h).2.2
 have c:∀{i j:Nat},i<n->j<n->ab (t.getD i 0)=ab (t.getD j 0)->i=j:=λ{i j} a b e=>by
  have l:=h.len
  have:=(DY (xs:=t.map ab) (i:=i) (j:=j) (h₀:=by simpa[l]using a) (h₁:=by simpa[l]using b) k).mp (by simp;simpa[oU,l,a,b]using e)
  exact this
 have d:∀{i:Nat},i<n->t.getD i 0≠0:=λ{i} a=>Ze<|h.sg<|ly (by rw[h.len];exact a);obtain⟨i,a,rfl|rfl⟩:=ni g<;>obtain⟨j,b,rfl|rfl⟩:=ni f
 .rw[lR,lR]at e;rw[c a b<|by rw[e]]
 .rw[lR,mx]at e;have:=c a b (by rw[e,pH]);subst this;exact absurd (show t.getD i 0=0 by lia)<|d a
 .rw[lR,mx]at e;have:=c a b (by rw[<-e,pH]);subst this;exact absurd (show t.getD i 0=0 by lia)<|d a
 rw[mx,mx]at e;rw[c a b<|by rw[show t.getD i 0=t.getD j 0 by lia]]
def Et{n:Nat}{t u:iO}(h1:(X0 t)=n)(a:(X0 u)=n)(h:∀s,SG n s->PV.led t s=PV.led u s):t=u:=by apply xY (by rw[h1,a]);intro i b c;have:=h _ (NF (n:=n) (k:=i)<|by lia);rw[lR,lR]at this;simpa[oU,b,c]using this
def D6(n:Nat):(st n).length=n:=by simp[st]
def Ul(n:Nat):TT n (st n):=by
 have:(st n).map ab=st n:=by
  conv=>rhs;rw[<-sN (st n)]
  refine pL λx a=>?_;have:=Kz.mp a;exact qI (by lia)
 unfold TT;rw[this]
def AR{n:Nat}{s:Int}(h:SG n s):PV.led (st n) s=s:=by
 obtain⟨k,hk,rfl|rfl⟩:=ni h
 .rw[lR];simp[st,hk];lia
 rw[mx];simp[st,hk];lia
def BK(n:Nat)(t w:iO):Prop:=X0 w=n/\∀s,SG n s->PV.led w (PV.led t s)=s
def BK.tt{n:Nat}{t w:iO}(h:BK n t w)(f:TT n t):TT n w:=by
 refine(Ep (st n) (w.map ab) (Uk n) (λx g=>?_)<|by simp[D6,h.1]).symm;have i:=Kz.mp g;have c:SG n x:=by unfold SG;rw[qI<|by lia];lia
 have e:=h.2 x c;have a:=f.led c;have b:ab (PV.led w<|PV.led t x)=x:=by rw[e,qI<|by lia]
 rw[EY h.1 a]at b;rw[<-b];have d:(ab<|PV.led t x).toNat-1<(w.map ab).length:=by have:=a.2;have:=a.1;rw[ke,h.1];lia
 exact ly d
def BK.sym{n:Nat}{t w:iO}(h:BK n t w)(b:TT n t):BK n w t:=by refine⟨b.len,λs a=>?_⟩;have c:=h.tt b;exact zA c (b.led<|c.led a) a<|h.2 _ (c.led a)
def ID(n:Nat)(t:iO):Nat->List Int
 |0=>st n
 |k+1=>KP (ID n t k) t
theorem pR{n:Nat}{t:iO}(h:TT n t):∀k,TT n<|ID n t k
 |0=>Ul n
 |k+1=>(pR h k).KP h
theorem zq{n:Nat}{t:iO}(h:TT n t)(i:Nat){s:Int}(a:SG n s):∀j,PV.led (ID n t<|i+j) s=PV.led (ID n t j) (PV.led (ID n t i) s)
 |0=>by rw[show ID n t 0=st n from I,AR<|(pR h i).led a];rfl
 |j+1=>by show PV.led (PV.KP (ID n t<|i+j) t) s=PV.led (PV.KP (ID n t j) t) _;rw[Eu (pR h _) t a,Eu (pR h j) t<|(pR h i).led a,zq h i a j]
theorem Jp{n:Nat}{t:iO}(h:TT n t){d:Nat}{s:Int}(a:SG n s)(e:PV.led (ID n t d) s=s):∀q,PV.led (ID n t<|d*q) s=s
 |0=>AR a
 |q+1=>by rw[Nat.mul_succ,zq h _ a,Jp h a e q,e]
def V6{c:Type}[DecidableEq c](f:Nat->c)(m:List c):∀k:Nat,(∀i,i<=k->f i∈m)->X0 m<=k->∃i j,i<j/\j<=k/\f i=f j:=λk l s=>by
 apply Classical.byContradiction;intro o
 have q:((ap<|k+1).map f).Nodup:=by rw[gi,rJ];refine(Q6 (n:=k+1)).imp_of_mem λ{a b} r g d e=>o ⟨a,b,d,?_,e⟩;have:=uY.mp g;lia
 have:=AN _ m q λx p=>by obtain⟨i,h,rfl⟩:=jd p;exact l i (by have:=uY.mp h;lia)
 simp at this;lia
def Zz{n:Nat}(f:n<=5){t:iO}(h:TT n t){s:Int}(a:SG n s):∃d,1<=d/\d<=10/\PV.led (ID n t d) s=s:=by
 obtain⟨i,j,g,c,e⟩:=V6 (λi=>PV.led (ID n t i) s) (st n++(st n).map λx=> -x) 10 (λi _=>by
  have:=(pR h i).led a;rw[qX,wa];obtain⟨k,hk,e|e⟩:=ni this
  .left;rw[e];exact Kz.mpr (by lia)
  right;exact⟨(k:Int)+1,Kz.mpr<|by lia,by rw[e]⟩) (by simp[D6];lia)
 refine⟨j-i,by lia,by lia,?_⟩;have b:=zq h (j-i) a i;rw[show j-i+i=j by lia]at b;exact zA (pR h i) ((pR h _).led a) a (by rw[<-b];exact e.symm)
def VU{n:Nat}(b:n<=5){t:iO}(h:TT n t):ID n t 2520=st n:=by
 refine Et (n:=n) (pR h _).len (D6 n) λs a=>?_;obtain⟨d,h1,c,e⟩:=Zz b h a
 have hd:d*(2520 / d)=2520:=by
  have:d=1\/d=2\/d=3\/d=4\/d=5\/d=6\/d=7\/d=8\/d=9\/d=10:=by lia
  rcases this with rfl|rfl|rfl|rfl|rfl|rfl|rfl|rfl|rfl|rfl<;>rfl
 rw[<-hd,Jp h a e,AR a]
def RP{n:Nat}{t:iO}(h:TT n t):ID n t 1=t:=
 Et (n:=n) (pR h 1).len h.len λs a=>by rw[show ID n t 1=PV.KP (st n) t from I,Eu (Ul n) t a,AR a]
def lc(t c:iO):List Int:=(nU IA<|(c.map<|led t).map D.int).map BR
def Lx(t c d:iO):Prop:=d.Perm (c.map<|led t)/\(d.map ab).Pairwise (· < ·)
def F8{m:List D}{l:iO}(h:m.Perm (l.map D.int)):m=(m.map BR).map D.int/\(m.map BR).Perm l:=by
 obtain⟨k,rfl⟩:=wO h;have e:(k.map D.int).map BR=k:=by rw[kG];exact sN k
 rw[e];refine⟨rfl,?_⟩;have:=h.map BR
 rwa [e,kG,show cV (BR∘D.int) l=l from sN l]at this
def Dp{n:Nat}{t c:iO}(g:TT n t)(h1:(c.map ab).Nodup)(f:∀s∈c,SG n s):((c.map<|led t).map ab).Nodup:=by
 rw[kG,gi,rJ];rw[gi,rJ]at h1;refine h1.imp_of_mem λ{a b} j k i e=>i ?_;have e:ab (led t a)=ab (led t b):=e;have h:=f a j;have d:=f b k;by_cases q:led t a=led t b
 .rw[zA g h d q]
 have:led t a=led t (-b):=by rw[zy t d];unfold ab at e;split at e<;>split at e<;>lia
 rw[zA g h (Vv d) this,pH]
def SM{n:Nat}{t c:iO}(j:TT n t)(g:AH n c):Lx t c (lc t c)/\(nU IA<|(c.map<|led t).map D.int)=(lc t c).map D.int:=by
 obtain⟨e,i⟩:=F8<|lb IA<|(c.map<|led t).map D.int;refine⟨⟨i,?_⟩,e⟩;have k:=Dp j (Jo g.2.1) λs d=>g.2.2 s d;have f:((lc t c).map ab).Nodup:=(i.map ab).symm.nodup k;have d:=Cq<|(c.map<|led t).map D.int;rw[e,rJ]at d;rw[rJ];rw[gi,rJ]at f;refine(d.and f).imp λ{a b} h=>?_;have h1:ab a<=ab b:=h.1;have l:ab a≠ab b:=h.2
 lia
def Lx.uniq{n:Nat}{t c d e:iO}(h1:Lx t c d)(f:Lx t c e):d=e:=by have g:=h1.2;have h:=f.2;rw[rJ]at g h;refine(h1.1.trans f.1.symm).eq_of_pairwise (le:=λa b=>ab a<ab b) (λa b _ _ x y=>absurd x<|by lia) g h
def xy(n:Nat)(a:iO):Prop:=X0 a=n/\∀x∈a,x=0\/x=1
def XJ:∀{n:Nat}{a:iO},a∈lA n↔xy n a:=λ{n a}=>by
 constructor
 .exact λh=>rG h
 intro h
 induction n generalizing a with
 |zero=>rw[Uc.mp h.1];simp[lA]
 |succ n f=>
  have b:a≠[]:=λe=>by have:=h.1;rw[e]at this;simp at this
  have e:=Mm b;have c:=h.2 _ (List.getLast_mem b);have:=f (a:=a.dropLast) ⟨by rw[List.length_dropLast,h.1];rfl,λx d=>h.2 x<|List.dropLast_subset _ d⟩;simp only[lA,wo];refine⟨a.dropLast,this,?_⟩;rcases c with z|z
  .rw[z]at e;rw[e];simp
  rw[z]at e;rw[e];simp
def KZ(w a:iO):List Int:=w.map λs=>if KS a s=C then 1 else 0
def T4:∀n:Nat,n<6->(lA n).Nodup:=by decide+kernel
def RJ(b:FO)(a:Dn)(d:D):Prop:= ∃o,b a=Y (o,a)/\res a o=Y d
def FJ(a:FO)(δ:Dn)(d:D):Prop:= ∃o,a δ=Y (o,δ)/\res δ o=Y d/\By δ o=Y (d,U)
def FJ.r{c:FO}{δ:Dn}{d:D}(h:FJ c δ d):RJ c δ d:=let⟨o,a,b,_⟩:=h;⟨o,a,b⟩
def jV{i:Nat}{δ:Dn}{d:D}(h:δ[i]?=Y (Y (d,U))):FJ (iJ i) δ d:=⟨.slot i,by unfold iJ;rw[h],by unfold res;simp[h],by simp[h]⟩
def jR{i:Nat}{δ:Dn}{d:D}{b:Bool}(h:δ[i]?=Y (Y (d,b))):RJ (iJ i) δ d:=⟨.slot i,by unfold iJ;rw[h],by unfold res;simp[h]⟩
def jE{f:F}{δ:Dn}{d:D}{b:Bool}(h:f δ=Y ((d,b),δ)):FJ (iY f) δ d:=⟨.val (d,b),jA h,rfl,rfl⟩
def KO{c:AL}{e:FO}{δ:Dn}{a:D}{r:D×Bool}{b:Dn}(h:c [(a,U)]=Y (r,b))(g:FJ e δ a):ja c [e] δ=Y (r,δ):=by obtain⟨o,h1,_,f⟩:=g;refine(km (qz h1) (args:=[a].map λd=>(d,U)) (by simp[f]) (by rw[wJ];exact mZ) h).trans ?_;rw[IU]
def Ia{c:AL}{e fb:FO}{δ:Dn}{a b:D}{r:D×Bool}{outs:Dn}(h:c [(a,U),(b,U)]=Y (r,outs))(g:FJ e δ a)(i:FJ fb δ b):ja c [e,fb] δ=Y (r,δ):=by obtain⟨o,h1,_,f⟩:=g;obtain⟨l,j,_,k⟩:=i;refine(km (pY h1 j) (args:=[a,b].map λd=>(d,U)) (by simp[f,k]) (by rw[wJ];exact mZ) h).trans ?_;rw[IU]
def jO{g:D->D->Option (D×Bool)}{c d:FO}{δ:Dn}{a b:D}{r:D×Bool}(h:g a b=Y r)(f:RJ c δ a)(i:RJ d δ b):jf g c d δ=Y (r,δ):=by obtain⟨o,h1,e⟩:=f;obtain⟨l,j,k⟩:=i;exact kK h1 j e k h
def jC{g:D->Option (D×Bool)}{b:FO}{δ:Dn}{a:D}{r:D×Bool}(h:g a=Y r)(d:RJ b δ a):jl (g1 g) [b] δ=Y (r,δ):=by obtain⟨o,h1,c⟩:=d;exact kn (ds:=[a]) (qz h1) (by simp[c]) h
def NN{f:F}{np:Nat}{args:List (D×Bool)}{r:D×Bool}{δ:Dn}(h1:(X0 args)=np/\np<=np/\(args.zipIdx.all λp=>!(p.1.2&&([]:List Nat).contains p.2))=C)(a:f (args.map Y++ai (np-np) J)=Y (r,δ)):AG np np [] (iP (kN f) jk) args=Y (r,jy args δ):=
 jY h1 (jz<|lH a)
def Zf{n:Nat}{s:Int}(h:SG n s):s≠0/\ -(n:Int)<=s/\s<=n:=by obtain⟨k,hk,rfl|rfl⟩:=ni h<;>lia
def ab5{n:Nat}{u:iO}(d:(X0 u)=n){s:Int}(h:SG n s):nN [enc u,pI s]=Y ((.int<|led u s,U),[eN u,ii s]):=by obtain⟨a,b,c⟩:=Zf h;exact WC u s a (by rw[d];exact b) (by rw[d];exact c)
def agM(f:Int->Int)(l:iO):(l.map D.int).map (λd=>D.int<|f<|BR d)=(l.map f).map D.int:=by rw[kG,kG];rfl
def C9{a:jQ}{fi:Cb}{f:F}{δ b:Dn}{l:iO}{args:List D}(g:Int->Int)(h1:fi δ=Y (l.map D.int,b))(c:kz b (a.map .slot)=Y (args.map λd=>(d,U)))(e:(X0 args)=X0 a)
  (h:∀x∈l,∃o,f (BZ args++[ii x])=Y ((.int<|g x,o),BZ args++[ii x]))(i:(X0 l)<=10000):
  jD a 1 fi (iK<|X0 a) jK (jN f) δ=Y ((.lst<|(l.map g).map D.int,C),b):=by
 rw[yG (λd=>.int (g<|BR d)) h1 c e (λd hd=>by obtain⟨x,j,rfl⟩:=jd hd;exact h x j)<|by simpa using i,agM]
def ad4{n:Nat}(b:n<=5){t:iO}(a:TT n t):kO [pI n,enc t]=Y ((.bl C,U),[ii n,eN t]):=by
 have h:tB n (cD t)=C:=by rw[Y7];simp only[lB,ma,mh,wd,kG];refine⟨λd hd=>?_,a⟩;obtain⟨x,_,rfl⟩:=jd hd;rfl
 rw[ac0 n (cD t) (λl e=>by cases e;rw[ke,a.len];lia),h]
def Qp{n:Nat}(a:n<=5){t:iO}(b:TT n t):lZ [pI n,enc t]=Y ((.A7,U),[ii n,eN t]):=by
 have:EF Yd (iP Ee jk) jk [ii n,eN t]=Y (.nx [ii n,eN t]):=
  (pd<|wZ<|kY<|Ia (ad4 a b) (jV I)<|jV I).trans rfl
 have e:ox [ii n,eN t]=Y (.nx [ii n,eN t]):=(iN this).trans I;simp only[lZ,AG];rw[iZ ⟨rfl,by decide,rfl⟩];show(match ox [ii n,Y<|enc t]with|some (.rt r δ)=>Y (r,jy _ δ)|some (.nx δ)=>Y ((D.A7,U),jy _ δ)|_=>J)=_;rw[e];rfl
noncomputable def L4(t:iO)(j:Nat):Int:=if t.getD j 0>0 then(j:Int)+1 else -((j:Int)+1)
def Np(n:Nat)(t:iO)(k:Nat)(w:iO):Prop:=X0 w=n/\∀j,j<k->w.getD ((ab<|t.getD j 0).toNat-1) 0=L4 t j
def Pq{n:Nat}{t w:iO}(a:TT n t)(h:Np n t n w):BK n t w:=by
 refine⟨h.1,λs g=>?_⟩
 have one:∀j,j<n->led w (t.getD j 0)=(j:Int)+1:=λj b=>by
  have c:=a.sg<|ly (l:=t) (k:=j) (by rw[a.len];exact b);have e:=h.2 j b;unfold L4 at e;unfold led;unfold SG at c;by_cases d:t.getD j 0>0
  .rw[iZ d]at e ⊢;rw[qI<|by lia]at e;rw[show(t.getD j 0-1).toNat=(t.getD j 0).toNat-1 by lia,e]
  have f:ab (t.getD j 0)= -t.getD j 0:=by unfold ab;split<;>lia
  rw[jo d]at e ⊢;rw[f]at e c;rw[show(-t.getD j 0-1).toNat=(-t.getD j 0).toNat-1 by lia,e]
  lia
 obtain⟨k,hk,rfl|rfl⟩:=ni g
 .rw[lR];exact one k hk
 rw[zy t<|NF hk,zy w<|a.led<|NF hk,lR,one k hk]
def Pp{n:Nat}{t w:iO}(a:TT n t){k:Nat}(hk:k<n)(h:Np n t k w):Np n t (k+1) (w.set ((ab<|t.getD k 0).toNat-1)<|L4 t k):=by
 have b:∀j,j<n->1<=ab (t.getD j 0)/\ab (t.getD j 0)<=n:=λj c=>a.sg<|ly (l:=t) (k:=j) (by rw[a.len];exact c);refine⟨by simp[h.1],λj c=>?_⟩;have d:=b k hk;have f:=b j (by lia);by_cases e:j=k
 .subst e;rw[oU,oH<|by rw[h.1];lia];rfl
 have ne:ab (t.getD j 0)≠ab (t.getD k 0):=λq=>e (by
  have l:=a.len
  have:=(DY (xs:=t.map ab) (i:=j) (j:=k) (h₀:=by simp[l];lia) (h₁:=by simp[l];lia) (Ju.mp a).2.2).mp (by simp;simpa[oU,l,hk,show j<n by lia]using q)
  exact this)
 rw[oU,oG<|by lia,<-oU];exact h.2 j (by lia)
abbrev fbB:FS:=YN
def Xc{n:Nat}{t w:iO}(c:TT n t){k:Nat}(hk:k<n)(f:(X0 w)=n):fbB [eN t,Al w,ii<|(k:Int)+1,ii<|t.getD k 0]=Y (.nx [eN t,Al<|w.set ((ab<|t.getD k 0).toNat-1)<|L4 t k,ii<|(k:Int)+1,ii<|t.getD k 0]):=by
 have b:=c.sg<|ly (l:=t) (k:=k) (by rw[c.len];exact hk)
 have d:Ky (fT XZ) (jS 2) (lX yz<|iJ 2) [eN t,Al w,ii<|(k:Int)+1,ii<|t.getD k 0]=Y ((.int<|L4 t k,U),[eN t,Al w,ii<|(k:Int)+1,ii<|t.getD k 0]):=by
  rw[Uq,kY (o:=U)<|jO (KQ _ _) (jV I).r (jE I).r];simp only[kF];unfold L4;by_cases a:t.getD k 0>0
  .rw[iZ<|by simpa using a,iZ a];rfl
  rw[jo<|by simpa using a,jo a];rfl
 have e:iY Yj [eN t,Al w,ii<|(k:Int)+1,ii<|t.getD k 0]=Y (.val (.int<|ab (t.getD k 0)-1,U),[eN t,Al w,ii<|(k:Int)+1,ii<|t.getD k 0]):=rfl
 have g:FU (w.map D.int).length (ab (t.getD k 0)-1)=Y ((ab<|t.getD k 0).toNat-1):=by
  have:=b.1;have:=b.2;unfold FU;rw[ke,f,iZ<|by lia,iZ<|by lia]
  congr 1;lia
 refine(iN (δ1:=[eN t,Al<|w.set ((ab<|t.getD k 0).toNat-1)<|L4 t k,ii<|(k:Int)+1,ii<|t.getD k 0]) ?_).trans rfl;unfold qx;rw[d];simp only[kF,vg];rw[e];simp only[kF,Aw,zP,vg];rw[g];simp
def aad{n:Nat}{t:iO}(f:TT n t):∀(m k:Nat)(w:iO)(x y:Sl),k+m=n->Np n t k w->∃b c d,Np n t n b/\lF Rc fbB ((bp k m).map λ(j:Nat)=>.tup [.int<|(j:Int)+1,.int<|t.getD j 0]) [eN t,Al w,x,y]=Y (.nx [eN t,Al b,c,d]):=by
 intro i
 induction i with
 |zero=>intro k w x y h a;exact⟨w,x,y,by rw[show k=n by lia]at a;exact a,rfl⟩
 |succ m g=>intro k w x y h a;obtain⟨b,c,d,h1,e⟩:=g (k+1) _ (ii<|(k:Int)+1) (ii<|t.getD k 0) (by lia) (Pp f (by lia) a);refine⟨b,c,d,h1,?_⟩;rw[vt,kc];unfold lF;rw[show Rc (.tup [.int<|(k:Int)+1,.int<|t.getD k 0]) [eN t,Al w,x,y]=Y [eN t,Al w,ii<|(k:Int)+1,ii<|t.getD k 0]from I];simp only[kF];rw[Xc f (by lia) a.1];exact e
def Xj(t:iO):(((t.map D.int).zipIdx).map λq=>D.tup [.int (1+q.2),q.1])=(bp 0<|X0 t).map λ(j:Nat)=>.tup [.int<|(j:Int)+1,.int<|t.getD j 0]:=by
 apply xY
 .simp
 intro i h1 b;have a:i<(X0 t):=by simpa using h1
 simp[a,Int.add_comm]
def TU{n:Nat}{t:iO}(b:TT n t):∃w,BK n t w/\uE [enc t]=Y (enc w,[eN t]):=by
 obtain⟨w,x,y,h,e⟩:=aad b n 0 t J J (by lia) ⟨b.len,λj c=>absurd c<|by lia⟩;refine⟨w,Pq b h,?_⟩;refine jY (δ:=[eN t,Al w,x,y]) ⟨rfl,by decide,rfl⟩ ?_;refine(iN (δ1:=[eN t,Al t,J,J]) I).trans ((iN<|(kf (δ1:=[eN t,Al t,J,J]) (ds:=(bp 0 n).map λ(j:Nat)=>.tup [.int<|(j:Int)+1,.int<|t.getD j 0]) ?_).trans e).trans ?_)
 .show Y (((t.map D.int).zipIdx).map λq=>D.tup [.int (1+q.2),q.1],([eN t,Al t,J,J]:Dn))=_;rw[Xj,b.len]
 exact jz (lH<|jC (a:=.lst (w.map D.int)) I<|jR I)
def BK.uniq{n:Nat}{t w v:iO}(c:TT n t)(h1:BK n t w)(a:BK n t v):w=v:=
 Et h1.1 a.1 λs b=>by have e:=(h1.sym c).2 s b;have:=a.2 _ ((h1.tt c).led b);rw[e]at this;exact this.symm
def TV{n:Nat}{t w:iO}(a:TT n t)(b:BK n t w):uE [enc t]=Y (enc w,[eN t]):=by obtain⟨v,h1,e⟩:=TU a;rw[b.uniq a h1];exact e
def ZP{n:Nat}{t:iO}(h:(X0 t)=n):A4 (cD t)=ii n:=by rw[VF,ke,h]
def SH{n:Nat}(g:n<=5){t w a:iO}(c:TT n t)(e:BK n t w)(d:xy n a):oA [enc a,enc t]=Y (enc<|KZ w a,[eN a,eN t]):=by
 have f:=e.tt c;refine jY (δ:=[eN a,eN t]) ⟨rfl,by decide,rfl⟩ ?_;refine(iN<|nW<|Ia (Qp g c) (jE<|jC (ZP d.1) (jV I).r)<|jV I).trans (jz<|lH<|jC (a:=.lst ((KZ w a).map D.int)) I (jE (b:=C)<|C9 (args:=[cD a]) (λs=>if KS a s=C then 1 else 0) (fi:=jJ<|ja uE [iJ 1]) (l:=w) ?_ I I (λx h=>⟨U,?_⟩)<|by rw[f.len];lia).r)
 .rw[Ji,KO (TV c e)<|jV I];rfl
 rw[Uq,kY<|Ia (Um a x (by have:=f.sg h;rw[d.1];exact this)) (jV I)<|jV I];cases KS a x<;>rfl
def ae7(n:Nat):jq 1 n=(bp 1 n).map λ(k:Nat)=>D.int (k:Int):=by unfold jq;rw[Mn,kG];exact pL λk _=>by simp
def dC(a:jg):D:=.AF .dct (a.map cD) (a.map λ_=>.bl C)
theorem CJ:∀l:List Int,(BV<|l.map .int).isSome=C
 |[]=>rfl
 |x::l=>by
  have:=CJ l;simp only[kc,BV]
  cases h:BV (l.map D.int)with
  |none=>rw[h]at this;cases this
  |some k=>rfl
def JU(c:iO):(ze<|cD c).isSome=C:=CJ c
def S0(a:jg):((a.map cD).all λk=>(ze k).isSome)=C:=by rw[mh];intro d hd;obtain⟨c,_,rfl⟩:=jd hd;exact JU c
def F5(a:jg)(c:iO):qt (a.map cD) (cD c)=C:=by unfold qt;rw[JU,S0];kernel_rfl
theorem Er(c:iO):∀a:List (List Int),(mw (a.map cD) (a.map λ_=>.bl C)<|cD c).isSome=decide (c∈a)
 |[]=>rfl
 |x::a=>by
  simp only[kc,mw,Qg];by_cases h:x=c
  .simp[h]
  have: ¬c=x:=λe=>h e.symm;simp[h,this,Er c a]
def Tb(fs:jg):HH (.lst<|fs.map cD) (.lst [])=Y (.bl (!decide (fs=[])),U):=by unfold HH;rw[iZ ⟨TJ fs,by decide⟩];cases fs<;>kernel_rfl
def ab2{a b:D}{c fb:FO}{δ:Dn}(h:a=b)(hd:a.dep<=50)(d:RJ c δ a)(e:RJ fb δ b):fT (jf HH c fb) δ=Y (U,δ):=by subst h;exact kY (o:=U)<|jO (PM hd) d e
def no{t:FT}{f:FS}{δ:Dn}(g:FS)(h:t δ=Y (U,δ)):iP (EF t f jk) g δ=g δ:=iN<|(pd h).trans I
def XT{t:FT}{x y:XS}{a:Dn}(h:t a=Y (C,a))(b:Th a=C):Mb t x y a=x a:=by unfold Mb;rw[h];simp only[kF];rw[iZ b];rfl
def Gh{n np:Nat}{a:jQ}{f:FS}{args:List (D×Bool)}(h:f (args.map Y++ai (n-np) J)=J):AG n np a f args=J:=by
 unfold AG;split
 .rw[h]
 rfl
def TC{b:jQ}{f:F}{x:XS}{n i:Nat}{fs:FS}{e:ax->Option Nat}{δ:Dn}{args:List (D×Bool)}{c:ax}{T:Nat}{d:D}(h1:kz δ (b.map .slot)=Y args)(g:(args.all λa=>!a.2)=C)(h:f (args.map Y)=J)(j:x (args.map Y)=Y c)(k:e c=Y T)(l:Co n i fs (.AF (.exc T) [] [])=Y d):LJ b f x n i fs e δ=Y ((d,U),δ):=by unfold LJ;rw[h1];simp only[kF];rw[iZ g,h];simp;rw[j];simp;rw[k];simp;rw[l];rfl
def Bh{a:AL}{fs:List FO}{δ δ1:Dn}{os:List BN}{args:List (D×Bool)}(h1:kM fs δ=Y (os,δ1))(b:kz δ1 os=Y args)(c:a args=J):ja a fs δ=J:=by rw[RE,h1];simp only[kF];rw[b];simp only[kF];rw[c];split<;>rfl
def Dq(ev:AL)(d:D):Prop:= ∀b c,ev [(d,b),(d,c)]=Y ((.bl C,U),[Y (d,b),Y (d,c)])
theorem Ki{ev:AL}:∀(l a:List D)(x y:Sl),(∀d∈l,Dq ev d)->X0 a+X0 l<=10000->∃b c,kr M7 jK (jN<|ja ev [iJ 0,iJ 1]) ((l.zip l).map λp=>.tup [p.1,p.2]) a [x,y]=Y (a++l.map λ_=>.bl C,[b,c])
 |[],a,x,y,_,_=>⟨x,y,by simp[kr]⟩
 |d::l,a,x,y,h,f=>by
  obtain⟨b,c,e⟩:=Ki l (a++[.bl C]) (Y (d,U)) (Y (d,U)) (λg i=>h g<|jU _ i) (by simp at f ⊢;lia);refine⟨b,c,?_⟩;have j:(X0 a)<sizeLine:=by rw[ku];simp at f;lia
  simp only[sY,kc,kr];rw[show M7 (.tup [d,d]) [x,y]=Y [Y (d,U),Y (d,U)]from I];simp only[kF,Jj,ng,Jk];rw[km (os:=[.slot 0,.slot 1]) (args:=[(d,U),(d,U)]) I I mZ<|h d la U U];simp;rw[iZ j];simp;rw[show wb [.slot 0,.slot 1] [(d,U),(d,U)] [Y (d,U),Y (d,U)] [Y (d,U),Y (d,U)]=[Y (d,U),Y (d,U)]from I,e];simp
def As{ev:AL}{l:List D}{d:D}(hd:d=.lst l\/d=.tup l)(h:∀d∈l,Dq ev d)(k:(X0 l)<=1000):Dq (AG 2 2 []<|nM ev) d:=λb c=>by
 obtain⟨m,o,e⟩:=Ki (ev:=ev) l [] J J h (by simp;lia)
 have i:jD [] 2 (yw (iJ 0)<|iJ 1) M7 jK (jN<|ja ev [iJ 0,iJ 1]) [Y (d,b),Y (d,c)]=Y ((.lst<|l.map λ_=>.bl C,C),[Y (d,b),Y (d,c)]):=by unfold jD;rw[show yw (iJ 0) (iJ 1) [Y (d,b),Y (d,c)]=Y ((l.zip l).map λp=>.tup [p.1,p.2],[Y (d,b),Y (d,c)])from by rcases hd with rfl|rfl<;>rfl];simp only[kF,oW,ux,ju,mZ,ng,se,du,zM];rw[e];rfl
 have g:jl (g1 vQ) [iY<|jD [] 2 (yw (iJ 0)<|iJ 1) M7 jK<|jN<|ja ev [iJ 0,iJ 1]] [Y (d,b),Y (d,c)]=Y ((.bl C,U),[Y (d,b),Y (d,c)]):=
  kn (qz<|jA i) rfl (by rw[show g1 vQ [.lst<|l.map λ_=>.bl C]=vQ (.lst<|l.map λ_=>.bl C)from I,xv λ_=>C];simp)
 have a:jf Gv Kq M9 [Y (d,b),Y (d,c)]=Y ((.bl C,U),[Y (d,b),Y (d,c)]):=by rcases hd with rfl|rfl<;>simp
 have j:jy [(d,b),(d,c)] [Y (d,b),Y (d,c)]=[Y (d,b),Y (d,c)]:=by cases b<;>cases c<;>rfl
 have:=jY (args:=[(d,b),(d,c)]) (np:=2) (n:=2) (asg:=[]) (f:=nM ev) (δ:=[Y (d,b),Y (d,c)]) (r:=(.bl C,U)) ⟨rfl,by decide,by simp⟩ (by refine jz<|(pP (δ1:=[Y (d,b),Y (d,c)]) (by rcases hd with rfl|rfl<;>rfl)).trans ?_;refine(iN<|(pd (δ1:=[Y (d,b),Y (d,c)]) ?_).trans I).trans (jz<|lH<|(EI a).trans g);rcases hd with rfl|rfl<;>kernel_rfl)
 rwa [j]at this
def Zg(ev:AL)(i:Int):Dq (AG 2 2 []<|nM ev) (.int i):=λb c=>by
 cases b<;>cases c<;>simp[nM,AG,jy,Hu]
def PT(n m:Nat)(p:iO):Prop:=X0 p=m/\(∀x∈p,SG n x)/\(p.map ab).Nodup
def PT.tt{n:Nat}{t:iO}(h:PT n n t):TT n t:=Ju.mpr ⟨by simp[h.1],λx a=>by obtain⟨y,b,rfl⟩:=jd a;exact h.2.1 y b,h.2.2⟩
def Ww{n m:Nat}{p c:iO}(h:PT n m p)(d:AH m c):((c.map<|led p).map ab).Nodup:=by
 rw[kG];have f:=Jo d.2.1;rw[List.nodup_iff_pairwise_ne]at f ⊢;rw[rJ]at f ⊢;refine xz ?_ f;intro a b g i l e;simp at e;rw[EY h.1<|d.2.2 a g,EY h.1<|d.2.2 b i]at e;have h1:=d.2.2 a g;have o:=d.2.2 b i;have j:(ab a).toNat-1<(p.map ab).length:=by simp[h.1];lia
 have k:(ab b).toNat-1<(p.map ab).length:=by simp[h.1];lia
 simp only[oU,jT j,jT k]at e;have:=(DY h.2.2).mp e
 lia
def SN(p c:iO):nU IA ((c.map<|led p).map D.int)=(lc p c).map D.int:=(F8<|lb IA _).1
def WB{n m:Nat}(l:m<=5){p c:iO}(h:PT n m p)(e:AH m c):oz [enc c,enc p]=Y (enc<|lc p c,[eN c,eN p]):=by
 have k:=e.len
 have i:yy (.lst<|(c.map<|led p).map D.int)=Y (.lst<|(lc p c).map D.int,C):=by
  show(if((c.map<|led p).map D.int).all Ln=C/\(((c.map<|led p).map D.int).map aD).Nodup/\((c.map<|led p).map D.int).length<64 then Y (D.lst<|nU IA<|(c.map<|led p).map D.int,C)else J)=_
  have f:((c.map<|led p).map D.int).all Ln=C:=by rw[mh];intro d hd;obtain⟨x,_,rfl⟩:=jd hd;rfl
  have g:(((c.map<|led p).map D.int).map aD).Nodup:=by rw[kG];exact Ww h e
  rw[iZ ⟨f,g,by simp;lia⟩,SN]
 refine NN ⟨rfl,by decide,rfl⟩<|jC (a:=.lst ((lc p c).map D.int)) I (jE (b:=C)<|jC i (jE (b:=C)<|C9 (args:=[cD p]) (led p) I I I (λx j=>⟨U,?_⟩)<|by lia).r).r;exact Ia (ab5 h.1<|e.2.2 x j) (jV I)<|jV I
def SJ{m:Nat}{p:iO}(a:(X0 p)=m)(r:iO){s:Int}(h:SG m s):led (p++r) s=led p s:=by
 obtain⟨k,hk,rfl|rfl⟩:=ni h
 .rw[lR,lR];simp[sv (show k<(X0 p) by lia)]
 rw[mx,mx];simp[sv (show k<(X0 p) by lia)]
def WE{m:Nat}{p c:iO}(b:(X0 p)=m)(r:iO)(a:AH m c):lc (p++r) c=lc p c:=by unfold lc;rw[pL λs d=>SJ b r<|a.2.2 s d]
noncomputable def K5(n:Nat):List Int:=((ap (2*n+1)).map λ(k:Nat)=> -(n:Int)+k).filter λs=>!(s==0)
def L6(n:Nat)(t:iO):List Int:=(K5 n).filter λs=>!t.contains s&&!t.contains (-s)
def HN(n:Nat)(L:jg):List (List Int):=L.flatMap λt=>(L6 n t).map λs=>t++[s]
def mV(n:Nat):Nat->List (List Int)
 |0=>[[]]
 |m+1=>HN n<|mV n m
def Zd{n:Nat}{s:Int}:s∈K5 n↔SG n s:=by
 unfold K5 SG;simp only[Fc,wa,uY];constructor
 .rintro⟨⟨k,hk,rfl⟩,b⟩;unfold ab;simp at b;split<;>lia
 rintro⟨h1,a⟩;unfold ab at h1 a;refine⟨⟨(s+n).toNat,by split at a<;>lia,by split at a<;>lia⟩,by simp;split at h1<;>lia⟩
def rF{n:Nat}:∀{m:Nat}{t:iO},t∈mV n m->PT n m t:=by
 intro r
 induction r with
 |zero=>intro t h;simp[mV]at h;subst h;exact⟨rfl,λx c=>by simp at c,mZ⟩
 |succ m q=>
  intro t h;simp only[mV,HN,wo,wa]at h;obtain⟨p,o,s,d,rfl⟩:=h;obtain⟨h1,j,k⟩:=q o;unfold L6 at d;simp at d;obtain⟨d,f,g⟩:=d;have sg:=Zd.mp d;refine⟨by simp[h1],λx c=>?_,?_⟩
  .rcases qX.mp c with c|c
   .exact j x c
   simp at c;subst c;exact sg
  rw[nQ,zL];refine⟨k,by simp,λa l b i e=>?_⟩;simp at i;subst i;subst e;obtain⟨x,c,e⟩:=jd l;unfold ab at e;have:x=s\/x= -s:=by split at e<;>split at e<;>lia
  rcases this with rfl|rfl
  .exact f c
  exact g c
def xw:∀n,n<6->∀m,m<6->(mV n m).length<=3840:=by decide+kernel
def WO{f g:FO}{δ δ1 δ2:Dn}{o1 o2:BN}{i j:Int}(h1:f δ=Y (o1,δ1))(a:g δ1=Y (o2,δ2))(b:res δ2 o1=Y (.int i))(c:res δ2 o2=Y (.int j))(d: -1000<=i/\i<=1000)(e: -1000<=j/\j<=1000):zf f g δ=Y (jq i (j-i).toNat,δ2):=by unfold zf;rw[pY h1 a];simp only[kF,vJ,b,c];rw[iZ<|by lia]
def adJ{n:Nat}(b:n<=5):oi [pI n]=Y ((.lst<|(K5 n).map .int,C),[ii n]):=by
 have e:=ug (caps:=[]) (fi:=zf Fg Kr) (f:=jS 0) (ti:=fT<|jf HH (iJ 0) oY) (δ:=[ii n]) (δ1:=[ii n]) (l:=jq (-(n:Int)) (2*n+1)) (args:=[]) (λd=>d) (λd=>!(BR d==0)) ?_ I I (λd hd=>?_) (by simp[jq];lia)
 .have a:((jq (-(n:Int)) (2*n+1)).filter λd=>!(BR d==0)).map (λd=>d)=(K5 n).map .int:=by rw[vw];unfold jq K5;rw[show(λ(k:Nat)=>D.int (-(n:Int)+k))=D.int∘(λ(k:Nat)=> -(n:Int)+k)from I,<-kG,GB];rfl
  rw[a]at e;exact NN ⟨rfl,by decide,rfl⟩ e
 .rw[WO (o1:=.val (.int (-n),U)) (o2:=.val (.int<|n+1,U)) (δ1:=[ii n]) (δ2:=[ii n]) I I I I (by lia)<|by lia,show((n:Int)+1- -n).toNat=2*n+1 by lia]
 obtain⟨k,_,rfl⟩:=jd hd;exact⟨by kernel_rfl,λ_=>⟨U,rfl⟩⟩
abbrev Me:FT:=yS (fT Nd) U7
abbrev fE:F:=XY
def Vm(n:Nat)(t:iO)(s:Int):Me [ii n,eN t,ii s]=Y (!t.contains s&&!t.contains (-s),[ii n,eN t,ii s]):=by
 have h1:fT Nd [ii n,eN t,ii s]=Y (!t.contains s,[ii n,eN t,ii s]):=kY<|jO (zv s t) (jV I).r (jV I).r;have a:U7 [ii n,eN t,ii s]=Y (!t.contains (-s),[ii n,eN t,ii s]):=kY<|jO (zv (-s) t) (jE (b:=U) I).r (jV I).r;unfold Me yS;rw[h1];simp only[kF];cases t.contains s
 .simp only[gk,gJ];exact a
 rfl
def aan(n:Nat)(t:iO)(a:(X0 t)<=100)(s:Int):fE [ii n,eN t,ii s]=Y ((cD<|t++[s],U),[ii n,eN t,ii s]):=by refine jO (b:=.tup [.int s]) ?_ (jV I).r (jE (b:=U)<|by kernel_rfl).r;show nq (.tup<|t.map .int) (.tup [.int s])=_;simp only[nq];rw[iZ<|Eb<|by simp;lia,<-kA,<-nQ]
theorem Qv{n:Nat}(e:n<=5):∀(L:jg)(a:List D)(x y:Sl),(∀t∈L,X0 t<=100)->X0 a+10*(X0 L)<=sizeLine->
  ∃u b,kr (iK 1) jK (Ce (jJ<|ja oi [iJ 0]) (iK 2) Me<|jN fE) (L.map cD) a [ii n,x,y]=Y (a++(HN n L).map cD,[ii n,u,b])
 |[],a,x,y,_,_=>⟨x,y,by simp[kr,HN]⟩
 |t::L,a,x,y,h,o=>by
  have q:(K5 n).length<=10:=by have:=uQ (λs:Int=>!(s==0))<|(ap (2*n+1)).map λ(k:Nat)=> -(n:Int)+k;rcases(show n=0\/n=1\/n=2\/n=3\/n=4\/n=5 by lia)with rfl|rfl|rfl|rfl|rfl|rfl<;>decide
  simp at o
  obtain⟨b,c⟩:=Xu (f:=fE) (ti:=Me) (g:=λd=>cD<|t++[BR d]) (p:=λd=>!t.contains (BR d)&&!t.contains (-(BR d))) (pre:=[ii n,eN t]) ((K5 n).map .int) a y (λd hd=>by obtain⟨s,_,rfl⟩:=jd hd;exact⟨Vm n t s,λ_=>⟨U,aan n t (h t la) s⟩⟩) (by simp;lia)
  have j:(((K5 n).map D.int).filter λd=>!t.contains (BR d)&&!t.contains (-(BR d))).map (λd=>cD<|t++[BR d])=((L6 n t).map λs=>t++[s]).map cD:=by rw[GB,kG,kG];rfl
  rw[j]at c
  have m:((L6 n t).map λs=>t++[s]).length<=10:=by rw[ke];exact lN (uQ _ _) q
  obtain⟨x2,v,i⟩:=Qv e L (a++((L6 n t).map λs=>t++[s]).map cD) (eN t) b (λr l=>h r<|jU _ l) (by rw[nR,ke];lia);refine⟨x2,v,?_⟩;rw[kc,kr];rw[show iK 1 (cD t) [ii n,x,y]=Y [ii n,eN t,y]from I];simp;unfold Ce;rw[kL<|KO (adJ e)<|jV I];simp;rw[show kr (iK 2) Me (jN fE) ((K5 n).map .int) a [ii n,eN t,y]=_ from c];simp only[kF];refine(show _=_ from i).trans ?_;simp[HN]
def afS{n:Nat}(a:n<=5)(L:jg)(h:∀t∈L,X0 t<=100)(b:(X0 L)<=4000):mR [pI n,(.lst<|L.map cD,C)]=Y ((.lst<|(HN n L).map cD,C),[ii n,Y (.lst<|L.map cD,U)]):=by obtain⟨c,d,e⟩:=Qv a L [] J J h (by rw[ku];simp;lia);refine jY (δ:=[ii n,Y (.lst<|L.map cD,U)]) ⟨rfl,by decide,rfl⟩<|jz<|lH ?_;exact(xb (caps:=[0]) (l:=L.map cD) (δ1:=[ii n,Y (.lst<|L.map cD,U)]) (args:=[pI n]) (kL (o:=U) I) I mZ e).trans I
def ln(c:iO):Nat:=(ab<|c.getLastD 0).toNat
def JM{n:Nat}{c:iO}(h:AH n c):1<=ln c/\ln c<=n/\AH (ln c) c:=by
 obtain⟨b,h1,d⟩:=h;rcases DI c with rfl|⟨l,x,rfl⟩
 .exact absurd I b
 rw[GX]at b h1 d ⊢;have e:ln (l++[x])=(ab x).toNat:=by simp[ln]
 have f:=d x (by simp);rw[e];refine⟨by lia,by lia,b,h1,λs a=>⟨(d s a).1,?_⟩⟩;rcases qX.mp a with a|a
 .rw[nQ,ui]at h1;have:=h1.2.2 (ab s) (rK a) (ab x) (by simp)
  lia
 simp at a;subst a;lia
def AH.up{n m:Nat}{c:iO}(h:AH n c)(b:n<=m):AH m c:=⟨h.1,h.2.1,λs a=>by have:=h.2.2 s a;lia⟩
def SQ{n:Nat}{c:iO}(h:AH n c):BY (cD c) (.int (-1))=ii (c.getLastD 0):=by
 rcases DI c with rfl|⟨l,x,rfl⟩
 .exact absurd I h.1
 simp;simp[BY,Hv,FU];rw[iZ<|by lia,show(-1+(((X0 l):Int)+1)).toNat=(X0 l) by lia];simp
def WS(c:iO)(a:jg):Lp (cD c) (.tup<|a.map cD)=Y (.bl<|decide<|c∈a,U):=ZW c a
def FN(js a:jg)(m:Nat)(t:iO):Bool:=a.all λc=>!decide (ln c<=m)||decide (lc t c∈js)
def KL(a:jg)(m:Nat):List (List Int):=a.filter λc=>ln c==m
theorem CV{d e:Type}{P:d->Bool}{Q R:e->Bool}{f:d->List e}:∀L:List d,(∀t∈L,∀u∈f t,R u=(P t&&Q u))->((L.filter P).flatMap f).filter Q=(L.flatMap f).filter R
 |[],_=>rfl
 |t::L,h=>by
  have g:=CV L λt b=>h t<|jU _ b;have b:=h t la;rw[Gz,kS,<-g]
  cases a:P t with
  |true=>
   rw[zK a,Gz,kS]
   congr 1
   exact GA λu c=>by rw[b u c,a];rfl
  |false=>
   rw[zJ<|by rw[a];decide];have:(f t).filter R=[]:=List.filter_eq_nil_iff.mpr λu c=>by rw[b u c,a,eL];exact kR
   rw[this];rfl
def agD{n m:Nat}{b a:jg}(hk:∀c∈a,AH n c){t:iO}(f:(X0 t)=m)(s:Int):FN b a (m+1) (t++[s])=(FN b a m t&&(KL a<|m+1).all λc=>decide<|lc (t++[s]) c∈b):=by
 unfold FN KL
 induction a with
 |nil=>rfl
 |cons c a g=>
  have e:=JM<|hk c la;rw[tx,tx,g λc h=>hk c<|jU _ h];by_cases h1:ln c=m+1
  .rw[zK<|by simp[h1],tx,oV (show ln c<=m+1 by lia),lT (show ¬ln c<=m by lia)];simp;cases decide (lc (t++[s]) c∈b)<;>cases(a.all λc=>!decide (ln c<=m)||decide (lc t c∈b))<;>rfl
  rw[zJ<|by simpa using h1];by_cases d:ln c<=m
  .rw[oV (show ln c<=m+1 by lia),oV d,WE f [s]<|e.2.2.up d,gn]
  rw[lT (show ¬ln c<=m+1 by lia),lT d,gn];rfl
def Qf{n m:Nat}{js a:jg}(hk:∀c∈a,AH n c):(HN n<|(mV n m).filter<|FN js a m).filter (λu=>(KL a<|m+1).all λc=>decide<|lc u c∈js)=(mV n<|m+1).filter (FN js a<|m+1):=by refine CV _ λt b u d=>?_;obtain⟨s,_,rfl⟩:=jd d;exact agD hk (rF b).1 s
def ZJ{n:Nat}{js a:jg}(hk:∀c∈a,AH n c)(t:iO):FN js a 0 t=C:=mh.mpr λc b=>by rw[lT (by have:=(JM<|hk c b).1;lia)];rfl
def ZI{n:Nat}{js a:jg}(hk:∀c∈a,AH n c)(t:iO):FN js a n t=a.all λc=>decide (lc t c∈js):=by unfold FN;rw[Ds,mh,mh];refine Dr λc=>Dr λb=>?_;rw[oV (JM<|hk c b).2.1];rfl
abbrev Rq:FT:=YK
abbrev aag:FS:=iP YM<|iP (kj 4<|jD [1,6] 1 U3 (iK 2) Rq Ff) jk
abbrev B9(L:jg)(o:Bool):Sl:=Y (.lst<|L.map cD,o)
abbrev Ex(L:jg):Sl:=Y (.tup<|L.map cD,U)
def Ro{n m:Nat}(g:m<=5){js a:jg}(h:∀c∈a,AH m c)(j:(X0 a)<=30){t:iO}(i:PT n m t)(o:Bool):Rq [Ex js,B9 a o,eN t]=Y (a.all λc=>decide<|lc t c∈js,[Ex js,B9 a U,eN t]):=by
 have c:=xh (caps:=[0,2]) (fi:=jJ<|jS 1) (f:=jf Lp X7<|iJ 0) (δ:=[Ex js,B9 a o,eN t]) (δ1:=[Ex js,B9 a U,eN t]) (l:=a.map cD) (args:=[.tup<|js.map cD,cD t]) (λd=>decide<|lc t (Hy d)∈js) (by cases o<;>exact kL (o:=U) I) I I (λd hd=>by obtain⟨c,e,rfl⟩:=jd hd;rw[mI];exact⟨U,jO (b:=.tup (js.map cD)) (WS _ _) (jE (b:=U)<|Ia (WB g i<|h c e) (jV I)<|jV I).r (jV I).r⟩) (by simp;lia)
 rw[show(a.map cD).all (λd=>decide<|lc t (Hy d)∈js)=a.all λc=>decide (lc t c∈js) by rw[en];simp only[uR,mI]]at c;exact kY c
theorem Qt{n m:Nat}(i:m<=5){js b:jg}(j:∀c∈b,AH m c)(g:(X0 b)<=30):∀(L:jg)(a:List D)(o:Bool)(x:Sl),(∀t∈L,PT n m t)->X0 a+X0 L<=sizeLine->
  ∃d f,kr (iK 2) Rq Ff (L.map cD) a [Ex js,B9 b o,x]=Y (a++(L.filter λt=>b.all λc=>decide<|lc t c∈js).map cD,[Ex js,B9 b d,f])
 |[],a,o,x,_,_=>⟨o,x,by simp[kr]⟩
 |t::L,a,o,x,h,r=>by
  have q:=Ro i j g (h t la) (js:=js) o;have k:∀t∈L,PT n m t:=λt s=>h t<|jU _ s;simp at r;rw[kc,kr,show iK 2 (cD t) [Ex js,B9 b o,x]=Y [Ex js,B9 b o,eN t]from I];simp only[kF];rw[q];simp only[kF]
  cases l:b.all λc=>decide (lc t c∈js)with
  |false=>obtain⟨d,f,e⟩:=Qt i j g L a U (eN t) k (by lia);exact⟨d,f,by rw[jo kR,zJ (p:=λt=>b.all λc=>decide<|lc t c∈js)<|by rw[l];exact kR];exact e⟩
  |true=>obtain⟨d,f,e⟩:=Qt i j g L (a++[cD t]) U (eN t) k (by simp;lia);refine⟨d,f,?_⟩;rw[iZ I,zK (p:=λt=>b.all λc=>decide<|lc t c∈js) l];simp;rw[show jS 2 [Ex js,B9 b U,eN t]=Y ((cD t,U),[Ex js,B9 b U,eN t])from I];simp;rw[iZ<|by lia];simp;rw[e];simp
def Xf{t:FT}{f g:F}{δ δ1:Dn}{b:Bool}(h:t δ=Y (b,δ1)):Ky t f g δ=if b=C then f δ1 else g δ1:=by unfold Ky;rw[h];rfl
theorem EJ{n:Nat}(a:n<=5):∀L:List (List Int),(HN n L).length<=10*(X0 L)
 |[]=>by simp[HN]
 |t::L=>by
  have:=EJ a L
  have b:((L6 n t).map λs=>t++[s]).length<=10:=by rw[ke];refine lN (uQ _ _) ?_;rcases(show n=0\/n=1\/n=2\/n=3\/n=4\/n=5 by lia)with rfl|rfl|rfl|rfl|rfl|rfl<;>decide
  unfold HN at*;rw[Gz,nR,nJ]
  lia
section
variable {n:Nat}{g js:jg}(j:n<=5)(hk:∀c∈g,AH n c)(q:g.length<=30)
include j hk q
abbrev Kt(n:Nat)(g js L:jg)(x y:Sl):Dn:=[Y (HM n g,U),Ex js,ii n,Ex g,B9 L C,x,y]
theorem Tu{m:Nat}(G:m+1<=n)(y:Sl):∃Q,aag (Kt n g js ((mV n m).filter<|FN js g m) (ii<|(m:Int)+1) y)=Y (.nx<|Kt n g js ((mV n<|m+1).filter<|FN js g<|m+1) (ii<|(m:Int)+1) Q):=by
 have s:=ug (caps:=[5]) (fi:=jJ<|jS 3) (f:=jS 1) (ti:=fT Yx) (δ:=Kt n g js ((mV n m).filter<|FN js g m) (ii<|(m:Int)+1) y) (δ1:=Kt n g js ((mV n m).filter<|FN js g m) (ii<|(m:Int)+1) y) (l:=g.map cD) (args:=[.int<|(m:Int)+1]) (λd=>d) (λd=>ln (Hy d)==m+1) XV XV XV (λd hd=>by
  obtain⟨c,u,rfl⟩:=jd hd;rw[mI];refine⟨kY (o:=U)<|jO (a:=.int (ab<|c.getLastD 0)) ?_ (jE (b:=U)<|jC XV (jE (b:=U)<|jO (SQ<|hk c u) (jV XV).r (jE (b:=U) XV).r).r).r (jV XV).r,λ_=>⟨U,rfl⟩⟩;have T:0<=ab (c.getLastD 0):=by unfold ab;split<;>lia
  have:(ln c==m+1)=decide (ab (c.getLastD 0)=(m:Int)+1):=by
   unfold ln;generalize ab (c.getLastD 0)=x at*;by_cases h:x=(m:Int)+1
   .rw[oV h,h];simp
   rw[lT h];simp;lia
  rw[this];generalize ab (c.getLastD 0)=x
  kernel_rfl) (by simp;lia)
 rw[oy]at s;have er:(g.filter λt=>ln (Hy<|cD t)==m+1)=KL g (m+1):=by simp only[mI];rfl
 rw[er]at s
 have O:∀c∈KL g (m+1),AH (m+1) c:=λc u=>by obtain⟨h1,w⟩:=Fc.mp u;have:=JM<|hk c h1;rw[Gx]at w;rw[<-w];exact this.2.2
 have A:(KL g<|m+1).length<=30:=lN (uQ _ _) q;have B:∀t∈(mV n m).filter (FN js g m),PT n m t:=λt k=>rF (Fc.mp k).1;have M:((mV n m).filter<|FN js g m).length<=3840:=lN (uQ _ _)<|xw n (by lia) m (by lia)
 have E:∀t∈HN n ((mV n m).filter<|FN js g m),PT n (m+1) t:=λt k=>by refine rF (m:=m+1) ?_;obtain⟨p,I,L⟩:=wo.mp k;exact wo.mpr ⟨p,(Fc.mp I).1,L⟩
 have H:(HN n<|(mV n m).filter<|FN js g m).length<=38400:=by
  have:=EJ j<|(mV n m).filter<|FN js g m
  lia
 obtain⟨v,N,e⟩:=Qt (n:=n) (m:=m+1) (by lia) (js:=js) O A (HN n<|(mV n m).filter<|FN js g m) [] C J E (by rw[ku];simp;lia);rw[se,Qf hk]at e;refine⟨B9 (KL g<|m+1) v,?_⟩
 have z:jD [1,6] 1 U3 (iK 2) Rq Ff (Kt n g js ((mV n m).filter<|FN js g m) (ii<|(m:Int)+1)<|B9 (KL g<|m+1) C)=Y ((.lst<|((mV n<|m+1).filter<|FN js g<|m+1).map cD,C),[rS n g,Ex js,ii n,Ex g,B9 ((mV n m).filter<|FN js g m) U,ii<|(m:Int)+1,B9 (KL g<|m+1) v]):=by
  refine(xb (caps:=[1,6]) (args:=[(.tup<|js.map cD,U),(.lst<|(KL g<|m+1).map cD,C)]) (δ1:=[rS n g,Ex js,ii n,Ex g,B9 ((mV n m).filter<|FN js g m) U,ii<|(m:Int)+1,B9 (KL g<|m+1) C]) (kL (o:=C) ?_) XV (KY 6) e).trans ?_
  .exact km (δ1:=Kt n g js ((mV n m).filter<|FN js g m) (ii<|(m:Int)+1)<|B9 (KL g<|m+1) C) (os:=[.slot 2,.slot 4]) (args:=[pI n,(.lst<|((mV n m).filter<|FN js g m).map cD,C)]) XV XV (KY 4) (afS j _ (λt k=>by have:=(B t k).1;lia) (by lia))
  cases v<;>rfl
 exact(iN<|jL s (show 6<7 by decide)).trans ((iN<|jL (i:=4) z (show 4<7 by decide)).trans XV)
theorem aer:mS [(HM n g,U),(.tup<|js.map cD,U)]=Y ((.lst<|((mV n n).filter λt=>g.all λc=>decide<|lc t c∈js).map cD,C),[rS n g,Ex js]):=by
 obtain⟨_,⟨m,x,y,l,rfl⟩,e⟩:=pv (tg:=iK 5) (fb:=aag) (λds δ=>∃(m:Nat)(x y:Sl),(m<=n/\ds=(bp (m+1)<|n-m).map λ(k:Nat)=>D.int (k:Int))/\δ=Kt n g js ((mV n m).filter<|FN js g m) x y) (λd ds δ T=>by
  obtain⟨m,x,y,⟨h1,a⟩,h⟩:=T
  subst h
  have i:m<n:=by
   rcases wS m n with h|h
   .exact h
   rw[show n-m=0 by lia]at a;cases a
  rw[show n-m=(n-(m+1))+1 by lia,vt,kc]at a;obtain⟨rfl,rfl⟩:=sZ a;obtain⟨o,e⟩:=Tu (js:=js) j hk q (m:=m) (by lia) y
  exact⟨_,_,rfl,e,m+1,_,o,⟨i,rfl⟩,rfl⟩) ((bp 1 n).map λ(k:Nat)=>D.int (k:Int)) (Kt n g js [[]] J J) ⟨0,J,J,⟨mq _,rfl⟩,by rw[XD.mpr λt _=>ZJ hk t];rfl⟩
 obtain⟨p,f⟩:=l
 have b:m=n:=by
  rcases wS m n with h|h
  .rw[show n-m=(n-(m+1))+1 by lia,vt]at f;cases f
  lia
 subst b;rw[GA λt _=>ZI hk t]at e;refine jY (δ:=[rS m g,Ex js,ii m,Ex g,J,x,y]) ⟨rfl,by decide,rfl⟩ ?_;refine(iN (δ1:=[rS m g,Ex js,ii m,Ex g,J,J,J]) I).trans ((iN (δ1:=Kt m g js [[]] J J)<|by kernel_rfl).trans ?_);refine(iN<|(kf (ds:=(bp 1 m).map λ(k:Nat)=>D.int (k:Int)) (δ1:=Kt m g js [[]] J J) ?_).trans e).trans (jz ?_)
 .rw[JW (o1:=.val (.int 1,U)) (o2:=.val (.int<|(m:Int)+1,U)) (δ2:=Kt m g js [[]] J J) I I I I (by lia)<|by lia,show((m:Int)+1-1).toNat=m by lia,ae7]
 rfl
theorem adg:nu [(HM n g,U)]=Y ((.lst<|((mV n n).filter λt=>g.all λc=>decide<|lc t c∈g).map cD,C),[rS n g]):=by
 refine NN ⟨rfl,by decide,rfl⟩<|Ia (b:=HM n g) (outs:=[rS n g,rS n g]) ?_ (jV I)<|jV I;refine NN ⟨rfl,by decide,rfl⟩ (δ:=[rS n g,rS n g])<|(Xf (b:=C) (δ1:=[rS n g,rS n g])<|kY (o:=U)<|jO (a:=.int (X0 g)) (PR<|by simp[D.dep]) (jE (b:=U)<|jC ?_ (jE (b:=U)<|jO I (jV I).r (jE I).r).r).r (jE (b:=U)<|jC ?_ (jE (b:=U)<|jO I (jV I).r (jE I).r).r).r).trans ?_
 .simp
 .simp
 exact Ia (aer j hk q) (jV I) (jE (b:=U)<|jO I (jV I).r (jE I).r)
end
def af9{a:iO}{w:Int}(h:ab w∉a.map ab):Ay a w=a++[w]:=by unfold Ay;rw[jo h]
def aaa{n:Nat}{t:iO}(m:Ie n t)(o:n<=5)(b:Sl):∀(c a:iO)(x3 x4:Sl),(∀s∈c,1<=ab s/\ab s<=n)->DW n a->((a++c.map (led t)).map ab).Nodup->DW n (a++c.map (led t))/\∃j g,lF (iK 3) OQ (c.map .int) [eN t,b,Y (dD a,C),x3,x4]=Y (.nx [eN t,b,Y (dD<|a++c.map (led t),C),j,g]):=by
 intro r
 induction r with
 |nil=>intro a x3 x4 _ d _;simp;exact⟨d,x3,x4,rfl⟩
 |cons s c q=>
  intro a x3 x4 h d i;have f:=h s la
  have u:ab (led t s)∉a.map ab:=by rw[nQ,zL]at i;exact λz=>i.2.2 _ z _ (by simp) rfl
  have l:=af9 u;have k:a++(s::c).map (led t)=(a++[led t s])++c.map (led t):=by simp
  obtain⟨h1,j,g,e⟩:=q (a++[led t s]) (ii s) (ii<|led t s) (λx p=>h x<|jU _ p) (l▸d.put (HW m f.1 f.2))<|k▸i;rw[k];refine⟨h1,j,g,?_⟩;rw[kc];unfold lF;rw[show iK 3 (.int s) [eN t,b,Y (dD a,C),x3,x4]=Y [eN t,b,Y (dD a,C),ii s,x4]from I];simp only[kF];rw[Qa m o f d,l];simp only[kF];exact e
def agH{l:iO}(h:(l.map ab).Nodup):l.Nodup:=xp ab (λ_ _ h e=>h<|oo ab e) h
def agO{n:Nat}(f:n<=5){t c:iO}(b:TT n t)(a:AH n c):kg [enc t,enc c]=Y (enc<|lc t c,[eN t,eN c]):=by
 have h:=Dp b (Jo a.2.1) λs m=>a.2.2 s m;obtain⟨g,x3,x4,e⟩:=aaa b.tok f (eN c) c [] J J a.2.2 ⟨by simp,by simp⟩ (by simpa using h);rw[se]at g e;obtain⟨i,⟨h1,j,d⟩,e⟩:=JR f g (by simpa using a.1) e;rw[e];have k:Lx t c i:=⟨?_,h1⟩
 .rw[Lx.uniq (n:=n) k (SM b a).1]
 have l:=d.length_eq;simp at l;exact Ep _ _ (agH<|d.symm.nodup h) j (by simp;lia)
def Rw:∀n:Nat,n<6->K5 n=Ij n++st n:=by decide
abbrev P9:FS:=zC6
abbrev W5:FS:=iP (mE (jJ<|jf nq (iY<|jl (K8 .lst C) [Fg,oY])<|iY<|jl (K8 .lst C) [lC,Kr]) (iK 5) P9) jk
abbrev aaf:FS:=iP Ah<|iP (mE lU (iK 4) W5) IL
abbrev dS(n:Nat)(a b:Sl)(F:jg)(c d:Sl):Dn:=[ii n,a,b,B9 F C,c,d]
def Tq(n:Nat)(a c:Sl)(F:jg)(g:F.length<=100000){t:iO}(h:(X0 t)<=100)(s:Int):P9 (dS n a c F (eN t)<|ii s)=Y (.nx<|dS n a c (if(!t.contains s&&!t.contains (-s))=C then F++[t++[s]]else F) (eN t)<|ii s):=by
 have h1:fT Nc (dS n a c F (eN t)<|ii s)=Y (!t.contains s,dS n a c F (eN t)<|ii s):=kY<|jO (zv s t) (jV I).r (jV I).r;have f:U6 (dS n a c F (eN t)<|ii s)=Y (!t.contains (-s),dS n a c F (eN t)<|ii s):=kY<|jO (zv (-s) t) (jE (b:=U) I).r (jV I).r
 have d:yS (fT Nc) U6 (dS n a c F (eN t)<|ii s)=Y (!t.contains s&&!t.contains (-s),dS n a c F (eN t)<|ii s):=by
  unfold yS;rw[h1];simp only[kF];cases t.contains s
  .simp only[gk,gJ];exact f
  rfl
 cases e:(!t.contains s&&!t.contains (-s))with
 |false=>rw[e]at d;exact(iN<|(pd d).trans I).trans I
 |true=>
  rw[e]at d;rw[iZ I];refine(iN<|(pP d).trans<|(iN<|nW (r:=(.A7,U)) ?_).trans I).trans I;refine(nG (i:=3) (δ1:=dS n a c F (eN t)<|ii s) (l0:=F.map cD) (l:=F.map cD) (r:=(cD<|t++[s],U)) I ?_ I<|by rw[ku];simp;lia).trans ?_
  .refine jO (b:=.tup [.int s]) ?_ (jV I).r (jE (b:=U)<|by kernel_rfl).r;show nq (.tup<|t.map .int) (.tup [.int s])=_;simp only[nq];rw[iZ<|Eb<|by simp;lia,<-kA,<-nQ]
  simp
def Z8(n:Nat)(a b:Sl){t:iO}(k:(X0 t)<=100):∀(l:iO)(F:jg)(d:Sl),F.length+X0 l<=100000->∃c,lF (iK 5) P9 (l.map .int) (dS n a b F (eN t) d)=Y (.nx<|dS n a b (F++(l.filter λs=>!t.contains s&&!t.contains (-s)).map λs=>t++[s]) (eN t) c):=by
 intro m
 induction m with
 |nil=>intro F d _;exact⟨d,by simp[lF]⟩
 |cons s l i=>
  intro F d h;simp at h;have j:=Tq n a b F (by lia) k s
  have f:∀G c,lF (iK 5) P9 (l.map .int) (dS n a b (if(!t.contains s&&!t.contains (-s))=C then F++[t++[s]]else F) (eN t)<|ii s)=Y (.nx<|dS n a b G (eN t) c)->lF (iK 5) P9 ((s::l).map .int) (dS n a b F (eN t) d)=Y (.nx<|dS n a b G (eN t) c):=λG c e=>by rw[kc];unfold lF;rw[show iK 5 (.int s) (dS n a b F (eN t) d)=Y (dS n a b F (eN t)<|ii s)from I];simp only[kF];rw[j];exact e
  cases g:(!t.contains s&&!t.contains (-s))with
  |true=>rw[g,iZ I]at f;obtain⟨c,e⟩:=i (F++[t++[s]]) (ii s) (by simp;lia);refine⟨c,f _ _ (e.trans ?_)⟩;rw[zK<|by exact g];simp
  |false=>rw[g,jo kR]at f;obtain⟨c,e⟩:=i F (ii s) (by lia);refine⟨c,f _ _ (e.trans ?_)⟩;rw[zJ<|by rw[g];exact kR]
def Tr{n:Nat}(h:n<=5)(c d:Sl){t:iO}(i:(X0 t)<=100)(F:jg)(j:F.length<=90000)(g:Sl):∃f,W5 (dS n c d F (eN t) g)=Y (.nx<|dS n c d (F++(L6 n t).map λs=>t++[s]) (eN t) f):=by
 have k:(K5 n).length<=10:=by rcases(show n=0\/n=1\/n=2\/n=3\/n=4\/n=5 by lia)with rfl|rfl|rfl|rfl|rfl|rfl<;>decide
 obtain⟨f,e⟩:=Z8 n c d i (K5 n) F g (by lia);refine⟨f,(iN<|(kf<|kL (o:=C) ?_).trans e).trans I⟩;rw[Rw n<|by lia,nQ];refine jO (a:=.lst ((Ij n).map .int)) (b:=.lst ((st n).map .int)) ?_ (jE (b:=C) ?_).r (jE (b:=C) ?_).r
 .simp only[nq];rw[iZ<|Eb<|by simp[Ij,D6];lia]
 .exact kn (os:=[.val (.int (-n),U),.val (.int 0,U)]) I I (VA n h)
 exact kn (os:=[.val (.int 1,U),.val (.int<|(n:Int)+1,U)]) I I (NM n h)
def Z9{n:Nat}(k:n<=5)(b c:Sl):∀(L F:jg)(d a:Sl),(∀t∈L,X0 t<=100)->F.length+10*(X0 L)<=80000->∃f i,lF (iK 4) W5 (L.map cD) (dS n b c F d a)=Y (.nx<|dS n b c (F++HN n L) f i):=by
 intro p
 induction p with
 |nil=>intro F d a _ _;exact⟨d,a,by simp[lF,HN]⟩
 |cons t L o=>
  intro F d a h m;simp at m;obtain⟨q,l⟩:=Tr k b c (h t la) F (by lia) a;have j:=EJ k [t];have g:HN n [t]=(L6 n t).map λs=>t++[s]:=by simp[HN]
  rw[g]at j;simp only[yc]at j;obtain⟨f,i,e⟩:=o (F++(L6 n t).map λs=>t++[s]) (eN t) q (λt g=>h t<|jU _ g) (by rw[nR];lia);refine⟨f,i,?_⟩;rw[kc];unfold lF;rw[show iK 4 (cD t) (dS n b c F d a)=Y (dS n b c F (eN t) a)from I];simp only[kF];rw[l];refine(show _=_ from e).trans ?_;simp[HN]
def Tt{n:Nat}(i:n<=5)(L:jg)(h:∀t∈L,X0 t<=100)(j:(X0 L)<=4000)(o:Bool)(a g c d:Sl):∃b f,aaf [ii n,B9 L o,a,g,c,d]=Y (.nx [ii n,B9 (HN n L) U,a,B9 (HN n L) U,b,f]):=by obtain⟨b,f,e⟩:=Z9 i (B9 L U) a L [] c d h (by simp;lia);refine⟨b,f,(iN (δ1:=[ii n,B9 L o,a,B9 [] C,c,d])<|by kernel_rfl).trans<|(iN<|(kf<|kL (o:=U) (by cases o<;>rfl)).trans e).trans I⟩
def aeb{n:Nat}(k:n<=5):∃o,lS [pI n]=Y ((.lst<|(mV n n).map cD,o),[ii n]):=by
 obtain⟨_,⟨m,o,f,a,b,c,i,rfl⟩,e⟩:=pv (tg:=iK 2) (fb:=aaf) (λg δ=>∃(m:Nat)(o:Bool)(f a b c:Sl),(m+X0 g=n)/\δ=[ii n,B9 (mV n m) o,f,a,b,c]) (λd g δ j=>by obtain⟨m,o,f,a,b,c,h1,h⟩:=j;subst h;simp at h1;obtain⟨p,q,e⟩:=Tt k (mV n m) (λt l=>by have:=(rF l).1;lia) (by have:=xw n (by lia) m (by lia);lia) o (Y (d,U)) a b c;exact⟨_,_,rfl,e,m+1,U,_,_,_,_,by lia,rfl⟩) (jq 0 n) [ii n,B9 [[]] C,J,J,J,J] ⟨0,C,J,J,J,J,by simp[jq],rfl⟩
 simp at i;subst i;refine⟨o,?_⟩;cases o
 .refine jY (δ:=[ii m,B9 (mV m m) U,f,a,b,c]) ⟨rfl,by decide,rfl⟩ ((iN (δ1:=[ii m,B9 [[]] C,J,J,J,J])<|by simp[ku]).trans<|(iN<|(kf ?_).trans e).trans<|jz I);exact pk (o:=.slot 0) I I (by lia)
 refine jY (δ:=[ii m,J,f,a,b,c]) ⟨rfl,by decide,rfl⟩ ((iN (δ1:=[ii m,B9 [[]] C,J,J,J,J])<|by simp[ku]).trans<|(iN<|(kf ?_).trans e).trans<|jz I);exact pk (o:=.slot 0) I I (by lia)
abbrev Ig:FS:=YG
def afO(c:iO)(a:jg):uC (cD c) (dC a)=Y (.bl (!decide (c∈a)),U):=by unfold uC Lz dC;simp only;rw[iZ<|F5 a c,Er];rfl
def ach{n:Nat}(q:n<=5){t:iO}(s:TT n t)(a:jg)(b:Bool)(f:Sl):∀(g:jg)(x:Sl),(∀c∈g,AH n c)->∃j,lF (iK 3) Ig (g.map cD) [eN t,f,Y (dC a,b),x]=if(g.all λc=>decide<|lc t c∈a)=C then Y (.nx [eN t,f,Y (dC a,b),j])else Y (.rt (.bl U,U) [eN t,f,Y (dC a,b),j]):=by
 intro v
 induction v with
 |nil=>intro x _;exact⟨x,rfl⟩
 |cons c g u=>
  intro x h;have p:=h c la;have i:fT Yk [eN t,f,Y (dC a,b),eN c]=Y (!decide (lc t c∈a),[eN t,f,Y (dC a,b),eN c]):=kY<|jO (b:=dC a) (afO _ _) (jE (b:=U)<|Ia (agO q s p) (jV I)<|jV I).r<|jR I
  have l:lF (iK 3) Ig ((c::g).map cD) [Y<|enc t,f,Y (dC a,b),x]=(Ig [Y<|enc t,f,Y (dC a,b),Y<|enc c]).bind λo=>match o with
   |.nx d=>lF (iK 3) Ig (g.map cD) d
   |.ct d=>lF (iK 3) Ig (g.map cD) d
   |.bk d=>Y<|.nx d
   |.rt r d=>Y (.rt r d):=rfl
  rw[l,tx];by_cases k:lc t c∈a
  .rw[oV k]at i ⊢;obtain⟨j,e⟩:=u (eN c) λc m=>h c<|jU _ m;refine⟨j,?_⟩;have s1:Ig [eN t,f,Y (dC a,b),eN c]=Y (.nx [eN t,f,Y (dC a,b),eN c]):=(iN<|(pd i).trans I).trans I;rw[s1];exact e
  rw[lT k]at i ⊢;refine⟨eN c,?_⟩;have s1:Ig [eN t,f,Y (dC a,b),eN c]=Y (.rt (.bl U,U) [eN t,f,Y (dC a,b),eN c]):=jz<|(pP i).trans I;rw[s1];rfl
def Pc{n:Nat}(i:n<=5){t:iO}(j:TT n t)(d a:jg)(hk:∀c∈a,AH n c)(b:Bool):pA [enc t,(.tup<|a.map cD,U),(dC d,b)]=Y ((.bl<|a.all λc=>decide<|lc t c∈d,U),[eN t,Ex a,Y (dC d,b)]):=by
 obtain⟨x,e⟩:=ach i j d b (Ex a) a J hk;have h:∀x,jy [enc t,(.tup<|a.map cD,U),(dC d,b)] [eN t,Ex a,Y (dC d,b),x]=[eN t,Ex a,Y (dC d,b)]:=λx=>by cases b<;>rfl
 cases g:a.all λc=>decide (lc t c∈d)with
 |true=>
  rw[g,iZ I]at e;have q:=jY (n:=4) (np:=3) (asg:=[3]) (f:=rY) (args:=[enc t,(.tup<|a.map cD,U),(dC d,b)]) (r:=(.bl C,U)) (δ:=[eN t,Ex a,Y (dC d,b),x]) ⟨rfl,by decide,by cases b<;>rfl⟩<|(iN<|(kf I).trans e).trans<|jz I
  rwa [h]at q
 |false=>
  rw[g,jo kR]at e;have q:=jY (n:=4) (np:=3) (asg:=[3]) (f:=rY) (args:=[enc t,(.tup<|a.map cD,U),(dC d,b)]) (r:=(.bl U,U)) (δ:=[eN t,Ex a,Y (dC d,b),x]) ⟨rfl,by decide,by cases b<;>rfl⟩<|jz<|(kf I).trans e
  rwa [h]at q
def WJ:∀c:List Int,BV (c.map .int)=Y (c.map cK):=by
 intro b
 induction b with
 |nil=>exact I
 |cons x c a=>simp only[kc,BV,kF];rw[a];rfl
def WG:∀a:List (List Int),Ll (a.map λc=>.tup [cD c,.bl C])=Y (a.map λc=>c.map cK):=by
 intro d
 induction d with
 |nil=>exact I
 |cons c a b=>simp only[kc,Ll,kyT];rw[b,show ze (cD c)=Y (c.map cK)from WJ c];rfl
def Gb{d:jg}(h:d.Nodup)(g:(X0 d)<=1000):yA (.lst<|d.map λc=>.tup [cD c,.bl C])=Y (dC d,C):=by
 show((Ll<|d.map λc=>.tup [cD c,.bl C]).bind λd=>if (X0 d)<=1000/\d.Nodup then Y (D.AF .dct (d.map λk=>.tup (k.map lM))<|d.map λ_=>.bl C,C)else J)=_;rw[WG];simp only[kF];have i:(d.map λc=>c.map (cK:Int->Key)).Nodup:=xt _ (λa b f e=>f<|(List.map_inj_right λ_ _ e=>Sum.inl.inj e).mp e) h;rw[iZ ⟨by simpa using g,i⟩];unfold dC;rw[kG,kG]
 have:((λk:List Key=>D.tup<|k.map lM)∘λc:List Int=>c.map cK)=cD:=by funext c;simp only[cz,kG];rfl
 rw[this];rfl
abbrev fDc(i:Nat):F:=jl (g1 yA) [iY<|jD [] 1 (jJ<|jf BY (iJ i) lC) (iK 0) jK U1]
def Xg{n i:Nat}{a:jg}{δ:Dn}(c:δ[i]?=Y (rS n a))(h:a.Nodup)(g:(X0 a)<=1000):fDc i δ=Y ((dC a,C),δ):=by
 refine jC (Gb h g) (jE (b:=C) ?_).r;have e:=yG (caps:=[]) (fi:=jJ<|jf BY (iJ i) lC) (f:=nO [jS 0,Fe]) (δ:=δ) (δ1:=δ) (l:=a.map cD) (args:=[]) (λd=>.tup [d,.bl C]) ?_ I I (λd hd=>⟨U,by kernel_rfl⟩) (by simp;lia)
 .rw[kG]at e;exact e
 rw[Ji,jO (r:=(.tup<|a.map cD,U)) I (jV c).r (jE I).r];rfl
def agN{n:Nat}{a:jg}(h:qh n a):mC [(HM n a,U)]=Y ((.lst<|((mV n n).filter λt=>a.all λc=>decide<|lc t c∈a).map cD,C),[rS n a]):=by
 obtain⟨j,hk,_,u⟩:=h;obtain⟨o,m⟩:=aeb j;have hd:=Xg (n:=n) (i:=0) (δ:=[rS n a,J]) I hk.1 (by lia);have q:=xw n (by lia) n (by lia)
 obtain⟨v,e⟩:=Xu (f:=jS 2) (ti:=fT Yu) (g:=λd=>d) (p:=λd=>a.all λc=>decide<|lc (Hy d) c∈a) (pre:=[Y (dC a,C),rS n a]) ((mV n n).map cD) [] J (λd hd=>by obtain⟨t,s,rfl⟩:=jd hd;rw[mI];have tt:=(rF s).tt;refine⟨kY (o:=U)<|(km (δ1:=[Y (dC a,C),rS n a,eN t]) (os:=[.slot 2,.val (.tup<|a.map cD,U),.slot 0]) (args:=[enc t,(.tup<|a.map cD,U),(dC a,C)]) (aeG I<|pY (jA<|jO I (jV I).r (jE I).r) I) I (KY 0)<|Pc j tt a a hk.2 C).trans I,λ_=>⟨U,rfl⟩⟩) (by rw[ku];simp;lia)
 rw[se,oy]at e;simp only[mI]at e;refine jY (δ:=[rS n a,Y (dC a,C)]) ⟨rfl,by decide,rfl⟩<|(iN<|jL (i:=1) hd (show 1<2 by decide)).trans<|jz<|lH ?_;refine(xb (caps:=[1,0]) (k:=1) (l:=(mV n n).map cD) (δ1:=[rS n a,Y (dC a,C)]) (args:=[(dC a,C),(HM n a,U)]) (kL (o:=o) ?_) I (KY 1) e).trans I;exact KO m<|jE (b:=U)<|jO I (jV I).r (jE I).r
def NJ(t:iO):(uK<|cD t).map BR=t:=mI t
section
variable {n:Nat}{a:jg}(h:qh n a){d:D}(hd:Ob d)
include h hd
end
def pj(t:iO)(k:Nat):Nat:=(ab<|t.getD k 0).toNat-1
noncomputable def vA(t a:iO)(k:Nat):Int:=if t.getD k 0>0 then a.getD k 0 else 1-a.getD k 0
abbrev fvA:F:=zC4
abbrev aaj:FS:=iP (qx 2 fvA U9) jk
def Z4{a:iO}{k:Nat}(h:k<X0 a):BY (cD a) (.int k)=ii (a.getD k 0):=by simp[BY,Hv,FU,h]
section
variable {n:Nat}{t w a:iO}(c:TT n t)(o:xy n a)
include c o
theorem Pg(i:BK n t w){k:Nat}(hk:k<n):(KZ w a).getD (pj t k) 0=vA t a k:=by
 obtain⟨r,_,_,h,_⟩:=aad c n 0 t J J (by lia) ⟨c.len,λj q=>absurd q<|by lia⟩;have e:=i.uniq c<|Pq c h;subst e;have m:=h.2 k hk;have g:=c.sg<|ly (l:=t) (k:=k) (by rw[c.len];exact hk);have f:pj t k<(X0 w):=by have:=g.1;have:=g.2;rw[i.1];unfold pj;lia
 have p:w[pj t k]=L4 t k:=by rw[<-m];simp[pj]at f ⊢;simp[f]
 have b:=o.2 (a.getD k 0)<|ly (by rw[o.1];exact hk);rw[KZ,oU,kQ,jT f,p];simp;unfold KS L4 vA;by_cases d:t.getD k 0>0
 .rw[iZ d,iZ d,qI<|by lia,show((k:Int)+1).toNat-1=k by lia,iZ (show(k:Int)+1>0 by lia)];rcases b with b|b<;>rw[b]<;>rfl
 rw[jo d,jo d,EX<|by lia,show((k:Int)+1).toNat-1=k by lia,jo (show ¬ -((k:Int)+1)>0 by lia)];rcases b with b|b<;>rw[b]<;>rfl
theorem Tz{k:Nat}(hk:k<n){f:iO}(j:(X0 f)=n):aaj [eN t,eN a,Al f,ii k,ii<|t.getD k 0]=Y (.nx [eN t,eN a,Al<|f.set (pj t k)<|vA t a k,ii k,ii<|t.getD k 0]):=by
 let δ:Dn:=[eN t,eN a,Al f,ii k,ii<|t.getD k 0]
 have e:=c.sg<|ly (l:=t) (k:=k) (by rw[c.len];exact hk);have m:=Z4 (a:=a) (k:=k) (by rw[o.1];exact hk);have d:jf BY (iJ 1) (iJ 3) δ=Y ((.int<|a.getD k 0,U),δ):=jO m (jV I).r (jV I).r
 have h:fvA δ=Y ((.int<|vA t a k,U),δ):=by
  refine jO (a:=.lst [.int (1-a.getD k 0),.int<|a.getD k 0]) (b:=.int (if t.getD k 0>0 then 1 else 0)) ?_ (jE (b:=C) ?_).r (jE (b:=U)<|jC (a:=.bl (decide<|t.getD k 0>0)) ?_ (jE<|jO (KQ _ _) (jV I).r (jE I).r).r).r
  .unfold vA;split<;>rfl
  .rw[VH];simp only[kc,oW];rw[pY (jA<|jO (g:=F1) (a:=.int 1) I (jE I).r (jE d).r)<|jA d]
   kernel_rfl
  by_cases q:t.getD k 0>0<;>simp
 have p:FU (f.map D.int).length (ab (t.getD k 0)-1)=Y (pj t k):=by
  have:=e.1;have:=e.2;unfold FU pj;rw[ke,j,iZ<|by lia,iZ<|by lia]
  congr 1;lia
 have i:U9 δ=Y (.val (.int<|ab (t.getD k 0)-1,U),δ):=rfl;refine(iN (δ1:=[eN t,eN a,Al<|f.set (pj t k)<|vA t a k,ii k,ii<|t.getD k 0]) ?_).trans I;unfold qx;rw[h];simp only[kF,δ,vg];rw[i];simp only[kF,Aw,δ,zP,vg];rw[p];simp
theorem agP(v:BK n t w):mD [enc t,enc a]=Y (enc<|KZ w a,[eN t,eN a]):=by
 obtain⟨_,⟨f,k,m,x,y,h1,b,z,g,rfl⟩,e⟩:=pv (tg:=Am [iK 3,iK 4]) (fb:=aaj) (λds δ=>∃f k m x y,k+m=n/\(X0 f)=n/\(∀j,j<k->f.getD (pj t j) 0=vA t a j)/\ds=((bp k m).map λ(j:Nat)=>D.tup [.int j,.int<|t.getD j 0])/\δ=[eN t,eN a,Al f,x,y]) (λd ds δ M=>by
  obtain⟨f,k,m,x,y,h1,b,z,g,H⟩:=M;subst H
  cases m with
  |zero=>cases g
  |succ m=>
   rw[vt,kc]at g;obtain⟨rfl,rfl⟩:=sZ g;refine⟨_,_,rfl,Tz c o (k:=k) (by lia) b,_,k+1,m,_,_,by lia,by simpa using b,?_,rfl,rfl⟩;intro j p;have A:=c.sg<|ly (l:=t) (k:=k) (by rw[c.len];lia);have B:pj t k<(X0 f):=by have:=A.1;have:=A.2;rw[b];unfold pj;lia
   by_cases r:pj t j=pj t k
   .have u:=Pg c o v (k:=k) (by lia);rw[<-r,Pg c o v (k:=j)<|by lia]at u;rw[r,u];simp[B]
   rw[oU,oG<|oX r,<-oU];refine z j ?_;rcases Nat.lt_succ_iff_lt_or_eq.mp p with h|h
   .exact h
   rw[h]at r;exact absurd I r) ((bp 0 n).map λ(j:Nat)=>D.tup [.int j,.int<|t.getD j 0]) [eN t,eN a,Al a,J,J] ⟨a,0,n,J,J,by lia,o.1,λj p=>absurd p<|by lia,rfl,rfl⟩
 have A:m=0:=by
  cases m with
  |zero=>rfl
  |succ m=>rw[vt]at g;cases g
 have hk:k=n:=by lia
 have L:f=KZ w a:=by
  apply xY
  .rw[b,KZ,ke,v.1]
  intro i T G;have:((i:Int)+1)∈t.map ab:=c.mem_iff.mpr<|Kz.mpr (by lia);obtain⟨s,Q,e⟩:=jd this;obtain⟨j,p,rfl⟩:=List.mem_iff_getElem.mp Q;have E:j<n:=by rw[<-c.len];exact p
  have B:pj t j=i:=by unfold pj;simp[p];lia
  have a1:=z j (by lia);have N:=Pg c o v E;rw[B]at a1 N;rw[<-N]at a1;simpa[oU,T,G]using a1
 subst L;refine jY (δ:=[eN t,eN a,Al<|KZ w a,x,y]) ⟨rfl,by decide,rfl⟩ ?_;refine(iN (δ1:=[eN t,eN a,Al a,J,J]) I).trans ((iN<|(kf (δ1:=[eN t,eN a,Al a,J,J]) (ds:=(bp 0 n).map λ(j:Nat)=>.tup [.int j,.int<|t.getD j 0]) ?_).trans e).trans ?_)
 .show Y (((t.map D.int).zipIdx).map λq=>D.tup [.int (0+q.2),q.1],([eN t,eN a,Al a,J,J]:Dn))=_
  congr 2
  apply xY
  .simp[c.len]
  intro i h1 b;have O:i<(X0 t):=by simpa using h1
  simp[O]
 exact jz (lH<|jC (a:=.lst ((KZ w a).map D.int)) I<|jR I)
end
def ZL(a b:iO):pV .Lt (cD a) (cD b)=Y (.bl<|Bo (cD a)<|cD b,U):=by
 have h:∃r,oQ .Lt (cD a) (cD b)=Y r:=by have:=yH .Lt a b;exact Ko.mp this
 obtain⟨r,c⟩:=h;have e:=xi (cD a) (cD b) (by simp[D.pr,rl]) (by simp[D.pr,rl]) r c;unfold pV;rw[iZ ⟨by rw[vX];lia,by rw[vX];lia⟩,c,e];rfl
theorem Uy:∀a b:List Int,∃r,oI .LtE (a.map .int) (b.map .int)=Y (!r)/\oI .Lt (b.map .int) (a.map .int)=Y r
 |[],[]=>⟨U,by kernel_rfl,by kernel_rfl⟩
 |[],y::b=>⟨U,by simp[oI,mF];lia,by simp[oI,mF];lia⟩
 |x::a,[]=>⟨C,by kernel_rfl<;>lia,by simp[oI,mF]<;>lia⟩
 |x::a,y::b=>by
  obtain⟨r,h1,d⟩:=Uy a b;by_cases h:x=y
  .subst h;exact⟨r,by simp[oI,D.AI,h1],by simp[oI,D.AI,d]⟩
  have c: ¬y=x:=λe=>h e.symm;refine⟨decide<|y<x,?_,?_⟩
  .simp only[kc,oI,D.AI,uH,lT h,oQ,mF];simp;by_cases q:y<x
   .have: ¬x<=y:=by lia
    simp[q,this]
   have:x<=y:=by lia
   simp[q,this]
  simp[oI,D.AI,c,oQ,mF]
def ZQ(a b:iO):pV .LtE (cD a) (cD b)=Y (.bl (!Bo (cD b) (cD a)),U):=by obtain⟨r,h1,c⟩:=Uy a b;have e:=xi (cD b) (cD a) (by simp[D.pr,rl]) (by simp[D.pr,rl]) r (by simpa[oQ]using c);unfold pV;rw[iZ ⟨by rw[vX];omega,by rw[vX];omega⟩,show oQ .LtE (cD a) (cD b)=Y (!r)from by simpa[oQ]using h1,e];rfl
def brk(n:Nat)(b:jg)(c:iO):List (List Int):=(mX n b).filter λa=>!kC a c
abbrev Kx(w a:iO):Bool:=Bo (cD<|KZ w a)<|cD a
def zB{n:Nat}{b:jg}{a:iO}(h:a∈mX n b):xy n a:=XJ.mp (Fc.mp h).1
def tR{n:Nat}(a:n<=5)(b:jg):(mX n b).length<=32:=lN (uQ _ _)<|BE a
def TQ{n:Nat}(b:n<=5)(a:jg)(c:iO):(brk n a c).length<=32:=lN (uQ _ _)<|tR b a
def aeB{n:Nat}{a:jg}(h:qh n a){c:iO}(b:AH n c):lG [(HM n a,U),enc c]=Y ((.lst<|(brk n a c).map cD,C),[rS n a,eN c]):=by
 have q:=ug (caps:=[1]) (fi:=jJ<|ja qb [iJ 0]) (f:=jS 1) (ti:=rA X6) (δ:=[rS n a,eN c]) (l:=(mX n a).map cD) (args:=[cD c]) (λd=>d) (λd=>!kC ((uK d).map BR) c) (kL<|KO (aeA h)<|jV I) I I (λd hd=>by obtain⟨t,e,rfl⟩:=jd hd;rw[NJ];exact⟨wZ<|kY (o:=U)<|Ia (Po h.1 (zB e).1 b) (jV I)<|jV I,λ_=>⟨U,rfl⟩⟩) (by have:=tR h.1 a;simp;lia)
 rw[oy]at q;simp only[NJ]at q;exact jY ⟨rfl,by decide,rfl⟩<|jz<|lH q
section
variable {n:Nat}(g:n<=5){t w:iO}(f:TT n t)(d:BK n t w)
include g f d
theorem Vz{a:iO}(c:xy n a):oh [enc a,enc t]=Y ((.bl (!Kx w a),U),[eN a,eN t]):=
 NN ⟨rfl,by decide,rfl⟩ (jO (ZQ _ _) (jV I).r (jE (b:=U)<|Ia (SH g f d c) (jV I)<|jV I).r)
abbrev Ih:FS:=Yw
theorem aab(i:Sl):∀(L:jg)(x:Sl),(∀a∈L,xy n a)->∃k,lF (iK 2) Ih (L.map cD) [eN t,i,x]=if L.all (Kx w)=C then Y (.nx [eN t,i,k])else Y (.rt (.bl U,U) [eN t,i,k]):=by
 intro s
 induction s with
 |nil=>intro x _;exact⟨x,rfl⟩
 |cons a L q=>
  intro x h;have j:fT (ja oh [iJ 2,iJ 0]) [eN t,i,eN a]=Y (!Kx w a,[eN t,i,eN a]):=kY (o:=U)<|Ia (Vz g f d<|h a la) (jV I)<|jV I
  have m:lF (iK 2) Ih ((a::L).map cD) [Y<|enc t,i,x]=(Ih [Y<|enc t,i,Y<|enc a]).bind λo=>match o with
   |.nx b=>lF (iK 2) Ih (L.map cD) b
   |.ct b=>lF (iK 2) Ih (L.map cD) b
   |.bk b=>Y<|.nx b
   |.rt r b=>Y (.rt r b):=rfl
  rw[m,tx];cases l:Kx w a
  .rw[l]at j;refine⟨eN a,?_⟩;have s1:Ih [eN t,i,eN a]=Y (.rt (.bl U,U) [eN t,i,eN a]):=jz<|(pP j).trans I;rw[s1];rfl
  rw[l]at j;obtain⟨k,e⟩:=q (eN a) λc p=>h c<|jU _ p;refine⟨k,?_⟩;have s1:Ih [eN t,i,eN a]=Y (.nx [eN t,i,eN a]):=(iN<|(pd j).trans I).trans I;rw[s1];exact e
theorem afR(L:jg)(c:∀a∈L,xy n a):rB [enc t,(.lst<|L.map cD,U)]=Y ((.bl<|L.all<|Kx w,U),[eN t,Y (.lst<|L.map cD,U)]):=by
 obtain⟨x,e⟩:=aab g f d (Y (.lst<|L.map cD,U)) L J c
 cases b:L.all (Kx w)with
 |true=>rw[b,iZ I]at e;exact jY (δ:=[eN t,Y (.lst<|L.map cD,U),x]) ⟨rfl,by decide,rfl⟩<|(iN<|(kf I).trans e).trans<|jz I
 |false=>rw[b,jo kR]at e;exact jY (δ:=[eN t,Y (.lst<|L.map cD,U),x]) ⟨rfl,by decide,rfl⟩<|jz<|(kf I).trans e
end
section
variable {n:Nat}{a:jg}(h:qh n a)
include h
abbrev Cd(n:Nat)(a:jg):List (List Int):=(mV n n).filter λt=>a.all λc=>decide<|lc t c∈a
theorem JO:(Cd n a).length<=3840:=lN (uQ _ _)<|xw n (by have:=h.1;lia) n (by have:=h.1;lia)
theorem HV{t:iO}(b:t∈Cd n a):TT n t:=(rF (Fc.mp b).1).tt
end
section
variable {n:Nat}{a:jg}(h:qh n a)(h1:1<=n)
include h h1
end
def Xn{n:Nat}(a:n<=5){c:iO}(h:AH n c):(X0 c)<=5:=by have:=h.len;lia
def fTp{f g:F}{δ δ1 δ2:Dn}{a b:D×Bool}(h1:f δ=Y (a,δ1))(c:g δ1=Y (b,δ2)):nO [f,g] δ=Y ((.tup [a.1,b.1],U),δ2):=by rw[VG];simp only[kc,oW];rw[pY (jA h1)<|jA c];simp[ku,qw]
abbrev fr1(t:iO)(s:Int):Bool:=!t.contains s&&!t.contains (-s)
def abp(n:Nat)(t:iO):List Int:=(st n).filter<|fr1 t
abbrev d5(n:Nat)(a b:Sl)(F:jg)(t:iO)(o:Bool):Dn:=dS n a b F (eN t)<|Y (.lst<|(abp n t).map .int,o)
section
variable {d:D}{lo a:Int}
end
section
variable {n m:Nat}{V R:jg}{d:D}
end
section
variable {n:Nat}{L a V R:jg}{d:D}
end
section
variable {a b c:D}
end
section
variable {n:Nat}{d:D}
end
section
variable {n:Nat}{L a c V F:jg}{d:D}{b:iO}
end
section
variable {n:Nat}{c:jg}(h:qh n c)
include h
omit h in
theorem XH:Ri [ii n]=Y (decide<|(n:Int)>4,[ii n]):=kY (o:=U)<|jO (a:=.int n) (b:=.int 4) (KQ _ _) (jV I).r (jE I).r
omit h in
theorem Xo(a:n<=4):ky [pI n]=Y ((.A7,U),[ii n]):=by have e:nE [ii n]=Y (.nx [ii n]):=(no (δ:=[ii n]) _ (XH.trans<|by rw[lT<|by lia])).trans I;simp only[ky,AG];rw[iZ ⟨rfl,by decide,rfl⟩];show(match nE [ii n]with|some (.rt r δ)=>Y (r,jy _ δ)|some (.nx δ)=>Y ((D.A7,U),jy _ δ)|_=>J)=_;rw[e];rfl
end
section
variable {n:Nat}{a:jg}{t u v w:iO}
@[irreducible] def bkF(n:Nat)(t:iO):List Int:=ID n t 2519
def UQ(d:n<=5)(b:TT n t):BK n t (bkF n t):=by unfold bkF;refine⟨(pR b _).len,λs c=>?_⟩;have:=zq b 1 c 2519;rw[VU d b,AR c,RP b]at this;exact this.symm
end
def ac(n:Nat)(t a:iO):List Int:=KZ (bkF n t) a
section
variable {n:Nat}{c:jg}{t u v w a y:iO}(b:n<=5)
include b
end
structure OZ(n:Nat)(ks:jg)(a:iO)(O:jg):Prop where
 nd:O.Nodup
 sr:Ip O
 im:∀y,y∈O↔ ∃t∈Cd n ks,ac n t a=y
section
variable {n:Nat}{b O P:jg}{t u v w a y:iO}(h:qh n b)
include h
end
section
variable {n:Nat}(b:n<=5)(h1:1<=n){L:jg}(c:∀t∈L,TT n t)(a:L.length<=3840)
include b h1 c a
end
section
variable {n:Nat}(b:n<=5)
include b
variable {L:jg}{R:List Int->List (List Int)}(d:∀a∈lA n,(∀c∈R a,c∈lA n)/\(R a).length<=100/\∃o,uc [enc a,(.lst<|L.map cD,W1)]=Wp ((.tup<|(R a).map cD,W1),o))
include d
end
section
variable {n:Nat}{c:jg}{R:List Int->List (List Int)}{a b y:iO}(h:qh n c)(d:∀a∈lA n,OZ n c a<|R a)
include h d
end
section
variable {n:Nat}{b:jg}{R:List Int->List (List Int)}(h:qh n b)(c:∀a∈lA n,OZ n b a<|R a)
include h c
end
section
variable {n:Nat}{b:jg}(h:qh n b)
include h
variable {a:iO}(c:a∈lA n)
include c
end
section
variable {n:Nat}{b:jg}(h:qh n b){R:List Int->List (List Int)}
 (c:∀a∈lA n,OZ n b a (R a)/\(R a).length<=100/\nI [enc a,(.lst<|(Cd n b).map cD,W1)]=Wp ((.lst<|(R a).map cD,WP),[eN a,B9 (Cd n b) W1]))
include h c
end
section
variable {n:Nat}{b:jg}(d:n<=4)(h:qh n b){R:List Int->List (List Int)}
 (c:∀a∈lA n,OZ n b a (R a)/\(R a).length<=100/\nI [enc a,(.lst<|(Cd n b).map cD,W1)]=Wp ((.lst<|(R a).map cD,WP),[eN a,B9 (Cd n b) W1]))
include d h c
end
@[irreducible] def sh(n:Nat):List (List Int):=match lz [pI n]with
 |some ((.lst l,_),_)=>l.map Hy
 |_=>[]
def Zb{n:Nat}(a:n<=4):lz [pI n]=Y ((.lst<|(sh n).map cD,C),[ii n]):=by rcases(show n=0\/n=1\/n=2\/n=3\/n=4 by lia)with rfl|rfl|rfl|rfl|rfl<;>kernel_rfl
def Zc:∀n,n<5->∀c∈sh n,c≠[]/\(c.map ab).Pairwise (· < ·)/\∀s∈c,1<=ab s/\ab s<=n:=by decide+kernel
def HA:∀n,n<5->(sh n).length<=100:=by decide+kernel
def wX{b:Tg}{a:FS}{d:D}{l:List D}{δ δ1 δ2:Dn}{r:Option Out}(h1:b d δ=Y δ1)(c:a δ1=Y (.nx δ2))(e:lF b a l δ2=r):lF b a (d::l) δ=r:=by unfold lF;rw[h1];simp only[kF];rw[c];exact e
def TY{c:Tg}{e:FT}{f:FB}{d:D}{l a:List D}{g δ1 b:Dn}{r:Option (List D×Dn)}(h1:c d g=Y δ1)(h:e δ1=Y (U,b))(i:kr c e f l a b=r):kr c e f (d::l) a g=r:=by rw[kr,h1];simp only[kF];rw[h];exact i
def TX{e:Tg}{g:FT}{f:F}{d:D}{l a:List D}{h δ1 b c:Dn}{z:D×Bool}{r:Option (List D×Dn)}(h1:e d h=Y δ1)(i:g δ1=Y (C,b))(j:f b=Y (z,c))(m:(X0 a)<=10000)(k:kr e g (jN f) l (a++[z.1]) c=r):kr e g (jN f) (d::l) a h=r:=by rw[kr,h1];simp only[kF];rw[i];show((f b).bind _).bind _=_;rw[j];simp only[kF];rw[iZ<|uv m];exact k
def Ti{c:Tg}{b:FS}{d:D}{l:List D}{e δ1 a:Dn}{r:D×Bool}(h1:c d e=Y δ1)(f:b δ1=Y (.rt r a)):lF c b (d::l) e=Y (.rt r a):=by unfold lF;rw[h1];simp only[kF];rw[f];rfl
section
variable {n:Nat}{ks:jg}(h:qh n ks)
abbrev yu(n:Nat)(B:jg)(t:iO):Bool:=B.all<|Kx<|bkF n t
structure GP(n:Nat)(ks:jg)(p:List Int×List Int):Prop where
 cl:AH n p.1
 li:p.2∈Cd n ks
 lo:yu n (brk n ks p.1) p.2=WP
abbrev pD(p:List Int×List Int):D:=.tup [cD p.1,cD p.2]
include h
abbrev W7:FS:=Yt
theorem UC(b:Sl){B:jg}(i:∀a∈B,xy n a):∀(L:jg)(x:Sl),(∀t∈L,TT n t)->∃g,lF (iK 2) W7 (L.map cD) [b,Y (.lst<|B.map cD,U),x]=match L.find? (yu n B)with
  |some t=>Y<|.rt (enc t) [b,Y (.lst<|B.map cD,U),g]
  |none=>Y<|.nx [b,Y (.lst<|B.map cD,U),g]
 |[],x,_=>⟨x,rfl⟩
 |t::L,x,j=>by
  have k:=j t la;have f:fT (ja rB [iJ 2,iJ 1]) [b,Y (.lst<|B.map cD,U),eN t]=Y (yu n B t,[b,Y (.lst<|B.map cD,U),eN t]):=kY (o:=U)<|Ia (afR h.1 k (UQ h.1 k) B i) (jV I)<|jV I
  cases c:yu n B t with
  |true=>rw[c]at f;refine⟨eN t,?_⟩;have s1:W7 [b,Y (.lst<|B.map cD,U),eN t]=Y (.rt (enc t) [b,Y (.lst<|B.map cD,U),eN t]):=jz<|(pP f).trans<|jz I;rw[List.find?_cons_of_pos c];exact Ti (δ1:=[b,Y (.lst<|B.map cD,U),eN t]) (d:=cD t) I s1
  |false=>rw[c]at f;obtain⟨g,e⟩:=UC b i L (eN t) λm l=>j m<|jU _ l;refine⟨g,?_⟩;have s1:W7 [b,Y (.lst<|B.map cD,U),eN t]=Y (.nx [b,Y (.lst<|B.map cD,U),eN t]):=(iN<|(pd f).trans I).trans I;rw[List.find?_cons_of_neg<|by rw[c];exact kR];exact wX (δ1:=[b,Y (.lst<|B.map cD,U),eN t]) (d:=cD t) I s1 e
def oD:Option (List Int)->D
 |some t=>cD t
 |none=>.A7
theorem To{B:jg}(d:∀a∈B,xy n a)(o:Bool):kZ [(.lst<|(Cd n ks).map cD,o),(.lst<|B.map cD,U)]=Y ((oD<|(Cd n ks).find?<|yu n B,U),[Y (.lst<|(Cd n ks).map cD,U),Y (.lst<|B.map cD,U)]):=by
 obtain⟨i,e⟩:=UC h (Y (.lst<|(Cd n ks).map cD,U)) d (Cd n ks) J λt g=>HV h g;have s:jJ (jS 0) [Y (.lst<|(Cd n ks).map cD,o),Y (.lst<|B.map cD,U),J]=Y ((Cd n ks).map cD,[Y (.lst<|(Cd n ks).map cD,U),Y (.lst<|B.map cD,U),J]):=by cases o<;>rfl
 have c:∀x,jy [(.lst<|(Cd n ks).map cD,o),(.lst<|B.map cD,U)] [Y (.lst<|(Cd n ks).map cD,U),Y (.lst<|B.map cD,U),x]=[Y (.lst<|(Cd n ks).map cD,U),Y (.lst<|B.map cD,U)]:=λx=>by cases o<;>rfl
 cases b:(Cd n ks).find? (yu n B)with
 |some t=>
  rw[b]at e;have q:=jY (n:=3) (np:=2) (asg:=[2]) (f:=nY) (args:=[(.lst<|(Cd n ks).map cD,o),(.lst<|B.map cD,U)]) ⟨rfl,by decide,by cases o<;>rfl⟩<|jz<|(kf s).trans e
  rwa [c]at q
 |none=>
  rw[b]at e;have q:=jY (n:=3) (np:=2) (asg:=[2]) (f:=nY) (args:=[(.lst<|(Cd n ks).map cD,o),(.lst<|B.map cD,U)]) (r:=(.A7,U)) ⟨rfl,by decide,by cases o<;>rfl⟩<|(iN<|(kf s).trans e).trans<|jz I
  rwa [c]at q
abbrev pf(n:Nat)(ks:jg)(c:iO):Option (List Int):=(Cd n ks).find?<|yu n<|brk n ks c
abbrev Il(n:Nat)(ks a:jg):List (List Int×List Int):=a.filterMap λc=>(pf n ks c).map λt=>(c,t)
abbrev Tw:FS:=zC2
theorem P4:∀(j:jg)(P:List (List Int×List Int))(o:Bool)(x3 x4:Sl),(∀c∈j,AH n c)->P.length+X0 j<=1000->∃p q m,lF (iK 3) Tw (j.map cD) [rS n ks,B9 (Cd n ks) o,Y (.lst<|P.map pD,C),x3,x4]=Y (.nx [rS n ks,B9 (Cd n ks) p,Y (.lst<|(P++Il n ks j).map pD,C),q,m])
 |[],P,o,x3,x4,_,_=>⟨o,x3,x4,by rw[show P++Il n ks []=P from sA P];rfl⟩
 |c::j,P,o,x3,x4,w,T=>by
  have y:=w c la;rw[nJ]at T;have v:∀c∈j,AH n c:=λc A=>w c<|jU _ A
  let δ:Bool->Sl->Dn:=λo x=>[rS n ks,B9 (Cd n ks) o,Y (.lst<|P.map pD,C),eN c,x]
  have z:ja kZ [iJ 1,Yc] (δ o x4)=Y ((oD<|pf n ks c,U),δ U x4):=
   (km (δ1:=δ o x4) (os:=[.slot 1,.val (.lst<|(brk n ks c).map cD,C)]) (args:=[(.lst<|(Cd n ks).map cD,o),(.lst<|(brk n ks c).map cD,U)]) (pY I<|jA<|Ia (aeB h y) (jV I)<|jV I) I (by cases o<;>simp[ju])<|To h (λa B=>zB (Fc.mp B).1) o).trans (by cases o<;>rfl)
  have s0:Tw (δ o x4)=_:=iN<|jL (i:=4) (δ1:=δ U x4) z (show 4<5 by decide)
  cases s:pf n ks c with
  |none=>rw[s]at s0;obtain⟨p,q,m,e⟩:=P4 j P U (eN c) (Y (.A7,U)) v (by lia);refine⟨p,q,m,?_⟩;have s1:Tw (δ o x4)=Y (.nx [rS n ks,B9 (Cd n ks) U,Y (.lst<|P.map pD,C),eN c,Y (.A7,U)]):=s0.trans I;have u:Il n ks (c::j)=Il n ks j:=List.filterMap_cons_none (by rw[s];rfl);rw[u];exact wX (d:=cD c) (δ1:=δ o x4) I s1 e
  |some t=>
   rw[s]at s0;obtain⟨p,q,m,e⟩:=P4 j (P++[(c,t)]) U (eN c) (eN t) v (by simp;lia);refine⟨p,q,m,?_⟩
   let k:Dn:=[rS n ks,B9 (Cd n ks) U,Y (.lst<|P.map pD,C),eN c,eN t]
   have E:fT (jf ED (iJ 4)<|iY<|fC .A7) k=Y (C,k):=rfl
   have s1:Tw (δ o x4)=Y (.nx [rS n ks,B9 (Cd n ks) U,Y (.lst<|(P++[(c,t)]).map pD,C),eN c,eN t]):=by
    refine s0.trans<|(iN<|(pP (δ1:=k) E).trans<|(iN<|nW<|nG (i:=2) (l0:=P.map pD) (l:=P.map pD) (r:=(pD (c,t),U)) (δ1:=k) I ?_ I<|uv<|by simp;lia).trans I).trans ?_
    .exact fTp (f:=jS 3) (g:=jS 4) (a:=(cD c,U)) (b:=(cD t,U)) (δ:=k) (δ1:=k) (δ2:=k) I I
    rw[nQ];rfl
   have u:Il n ks (c::j)=(c,t)::Il n ks j:=List.filterMap_cons_some (by rw[s];rfl);rw[u,show P++(c,t)::Il n ks j=(P++[(c,t)])++Il n ks j by simp];exact wX (d:=cD c) (δ1:=δ o x4) I s1 e
end
section
variable {n:Nat}{a:jg}(h:qh n a){P:List (List Int×List Int)}(c:∀p∈P,GP n a p)(b:P.length<=30)
include h c b
end
section
variable {n:Nat}{a:jg}(h:qh n a)
include h
end
section
variable {n:Nat}{a:jg}(h:qh n a)
include h
abbrev Nh(n:Nat)(a:jg):List (List Int×List Int):=Il n a<|sh n
omit h in
theorem RU(b:jg):(Il n a b).length<=(X0 b):=List.length_filterMap_le _ _
theorem ND{c:iO}(b:c∈sh n)(d:n<=4):AH n c:=Zc n (by lia) c b
theorem V4(d:n<=4):∀p∈Nh n a,GP n a p:=λp g=>by obtain⟨c,f,e⟩:=M4.mp g;obtain⟨t,b,rfl⟩:=dL.mp e;exact⟨ND h f d,MQ b,rc (p:=yu n<|brk n a c) b⟩
theorem acp(f:n<=4):lg [(HM n a,U)]=Y ((.lst<|(Nh n a).map pD,C),[rS n a]):=by
 obtain⟨k,x3,x4,e⟩:=P4 h (sh n) [] C J J (λc j=>ND h j f) (by have:=HA n (by lia);simp;lia);rw[se]at e
 let d:Dn:=[rS n a,J,J,J,J]
 let δ1:Dn:=[rS n a,B9 (Cd n a) C,Y (.lst [],C),J,J]
 have g:∀{δ:Dn},δ[0]?=Y (rS n a)->FJ uI δ (.int n):=λhd=>jE (b:=U)<|jO I (jV hd).r (jE I).r;refine jY (n:=5) (np:=1) (asg:=[1,2,3,4]) (δ:=[rS n a,B9 (Cd n a) k,J,x3,x4]) ⟨rfl,by decide,rfl⟩<|(iN<|nW<|KO (Xo f)<|g (δ:=d) I).trans<|(iN<|jL (i:=1) (δ1:=d) (KO (adg h.1 h.2.1.2 h.2.2.2)<|jV I) (show 1<5 by decide)).trans<|(iN (δ1:=δ1) I).trans<|(iN<|(kf<|kL<|KO (Zb f)<|g (δ:=δ1) I).trans e).trans<|jz I
variable {P:List (List Int×List Int)}(g:∀p∈P,GP n a p){d:jg}(f:∀c,c∈d↔c∈a\/∃p∈P,p.1=c)
include g f
end
section
variable {n:Nat}{a:jg}(h:qh n a)
include h
end
def Wz{n:Nat}(a:n<=4):pz [pI n]=Y ((.lst<|(sh n).map cD,C),[ii n]):=by rcases(show n=0\/n=1\/n=2\/n=3\/n=4 by lia)with rfl|rfl|rfl|rfl|rfl<;>kernel_rfl
def FL(n:Nat)(a:jg)(t:iO):List (List Int):=(mX n a).filter<|Kx<|bkF n t
abbrev Kv(n:Nat)(a:jg)(t:iO):D:=.tup [cD t,dC<|FL n a t]
abbrev acm:F:=YI
abbrev Xh:F:=Yz
abbrev aai:FS:=iP (kj 4 acm)<|iP (nj<|lK 2<|nO [jS 3,Xh]) jk
abbrev acn:F:=YA
abbrev Xe:FT:=Yy
abbrev aam:F:=jD [7] 2 (jJ<|jS 2) Ng Xe wq
abbrev W9:FS:=iP (kj 7 acn)<|iP (kj 8 aam) Ve
abbrev Ku(n:Nat)(a b:jg)(o:Bool):Sl:=Y (.lst<|b.map<|Kv n a,o)
section
variable {n:Nat}{j:jg}(h:qh n j)
include h
theorem WA(t:iO):(FL n j t).Nodup:=((T4 n (by have:=h.1;lia)).filter _).filter _
theorem JP(t:iO):(FL n j t).length<=32:=lN (uQ _ _)<|tR h.1 j
theorem Xa{t:iO}(u:t∈Cd n j)(k:jg)(z:(X0 k)<=5000)(o:Bool)(x4 x5 m x7 p:Sl):∃w,aai [rS n j,B9 (mX n j) o,Ku n j k C,eN t,x4,x5,m,x7,p]=Y (.nx [rS n j,B9 (mX n j) U,Ku n j (k++[t]) C,eN t,w,x5,m,x7,p]):=by
 have tt:=HV h u;have A:=tR h.1 j
 let δ:Bool->Sl->Dn:=λo x=>[rS n j,B9 (mX n j) o,Ku n j k C,eN t,x,x5,m,x7,p]
 have q:=ug (caps:=[3]) (fi:=jJ<|jS 1) (f:=jS 1) (ti:=fT Yl) (δ:=δ o x4) (δ1:=δ U x4) (l:=(mX n j).map cD) (args:=[cD t]) (λd=>d) (λy=>Kx (bkF n t)<|Hy y) (by cases o<;>rfl) I I (λy v=>by obtain⟨a,s,rfl⟩:=jd v;rw[mI];exact⟨kY (o:=U)<|jO (ZL _ _) (jE (b:=U)<|Ia (agP tt (zB s)<|UQ h.1 tt) (jV I)<|jV I).r (jV I).r,λ_=>⟨U,rfl⟩⟩) (by simp;lia)
 rw[oy]at q;simp only[mI]at q
 have g:Xh (δ U<|B9 (FL n j t) C)=Y ((dC<|FL n j t,C),δ U<|B9 (FL n j t) U):=by have e:=yG (caps:=[]) (fi:=jJ<|jS 4) (f:=nO [jS 0,Fe]) (δ:=δ U<|B9 (FL n j t) C) (δ1:=δ U<|B9 (FL n j t) U) (l:=(FL n j t).map cD) (args:=[]) (λd=>.tup [d,.bl C]) I I I (λd hd=>⟨U,by kernel_rfl⟩) (by have:=JP h t;simp;lia);rw[kG]at e;exact kn (ds:=[.lst<|(FL n j t).map λc=>.tup [cD c,.bl C]]) (qz<|jA e) I<|Gb (WA h t) (by have:=JP h t;lia)
 have f:nO [jS 3,Xh] (δ U<|B9 (FL n j t) C)=Y ((Kv n j t,U),δ U<|B9 (FL n j t) U):=fTp (f:=jS 3) (a:=(cD t,U)) I g;refine⟨B9 (FL n j t) U,(iN<|jL (i:=4) q (show 4<9 by decide)).trans<|(iN<|nW<|nG (i:=2) (l0:=k.map<|Kv n j) (l:=k.map<|Kv n j) I f I<|uv<|by simp;lia).trans ?_⟩;show Y (Out.nx [rS n j,B9 (mX n j) U,Y (.lst<|k.map (Kv n j)++[Kv n j t],C),eN t,B9 (FL n j t) U,x5,m,x7,p])=_;rw[show k.map (Kv n j)++[Kv n j t]=(k++[t]).map (Kv n j) by rw[nQ];rfl]
theorem UE(x5 c x7 e:Sl):∀(b a:jg)(o:Bool)(x3 x4:Sl),(∀t∈b,t∈Cd n j)->X0 a+X0 b<=5000->∃f g i,lF (iK 3) aai (b.map cD) [rS n j,B9 (mX n j) o,Ku n j a C,x3,x4,x5,c,x7,e]=Y (.nx [rS n j,B9 (mX n j) f,Ku n j (a++b) C,g,i,x5,c,x7,e])
 |[],a,o,x3,x4,_,_=>⟨o,x3,x4,by rw[sA];rfl⟩
 |t::b,a,o,x3,x4,l,p=>by rw[nJ]at p;obtain⟨r,m⟩:=Xa h (l t la) a (by lia) o x4 x5 c x7 e;obtain⟨f,g,i,k⟩:=UE x5 c x7 e b (a++[t]) U (eN t) r (λu q=>l u<|jU _ q) (by simp;lia);refine⟨f,g,i,?_⟩;rw[pM]at k;exact wX (d:=cD t) (δ1:=[rS n j,B9 (mX n j) o,Ku n j a C,eN t,x4,x5,c,x7,e]) I m k
omit h in
theorem WT(c:iO)(a:jg):Ic (cD c) (dC a)=Y (.bl<|decide<|c∈a,U):=by unfold Ic Lz dC;simp only;rw[iZ<|F5 a c,Er];rfl
theorem ZY(c t:iO)(b:Bool):Xe [B9 (brk n j c) b,eN t,Y (dC<|FL n j t,U)]=Y (yu n (brk n j c) t,[B9 (brk n j c) U,eN t,Y (dC<|FL n j t,U)]):=by
 have q:=xh (caps:=[2]) (fi:=jJ<|jS 0) (f:=jf Ic (iJ 1)<|iJ 0) (δ:=[B9 (brk n j c) b,eN t,Y (dC<|FL n j t,U)]) (δ1:=[B9 (brk n j c) U,eN t,Y (dC<|FL n j t,U)]) (l:=(brk n j c).map cD) (args:=[dC<|FL n j t]) (λy=>decide<|Hy y∈FL n j t) (by cases b<;>rfl) I I (λy g=>by obtain⟨a,_,rfl⟩:=jd g;rw[mI];exact⟨U,jO (WT _ _) (jV I).r (jV I).r⟩) (by have:=TQ h.1 j c;simp;lia)
 have e:((brk n j c).map cD).all (λy=>decide<|Hy y∈FL n j t)=yu n (brk n j c) t:=by
  rw[en,Ds,mh,mh];refine Dr λa=>Dr λd=>?_;rw[<-Ds];simp only[cz,mI];unfold FL
  cases q:Kx (bkF n t) a
  .exact lT λz=>by have:=(Fc.mp z).2;rw[q]at this;cases this
  exact oV<|Fc.mpr ⟨(Fc.mp d).1,q⟩
 rw[e]at q;exact kY q
theorem Qu(c:iO):∀(d a:jg)(b:Bool)(u v:Sl),X0 a+X0 d<=9000->∃f g i,kr Ng Xe wq (d.map<|Kv n j) (a.map cD) [B9 (brk n j c) b,u,v]=Y ((a++d.filter (yu n<|brk n j c)).map cD,[B9 (brk n j c) f,g,i])
 |[],a,b,u,v,_=>⟨b,u,v,by simp[kr]⟩
 |t::d,a,b,u,v,m=>by
  rw[nJ]at m;have k:=ZY h c t b
  cases l:yu n (brk n j c) t with
  |false=>rw[l]at k;obtain⟨f,g,i,e⟩:=Qu c d a U (eN t) (Y (dC<|FL n j t,U)) (by lia);exact⟨f,g,i,by rw[zJ<|by rw[l];exact kR];exact TY (δ1:=[B9 (brk n j c) b,eN t,Y (dC<|FL n j t,U)]) I k e⟩
  |true=>rw[l]at k;obtain⟨f,g,i,e⟩:=Qu c d (a++[t]) U (eN t) (Y (dC<|FL n j t,U)) (by simp;lia);rw[pM,nQ]at e;exact⟨f,g,i,by rw[zK l];exact TX (δ1:=[B9 (brk n j c) b,eN t,Y (dC<|FL n j t,U)]) (z:=enc t) I k I (by simp;lia) e⟩
abbrev KA(n:Nat)(j:jg)(o p:Bool)(x3 x4:Sl)(P:List (List Int×List Int))(a x7 b:Sl):Dn:=[rS n j,B9 (mX n j) o,Ku n j (Cd n j) p,x3,x4,Y (.lst<|P.map pD,C),a,x7,b]
theorem W8{c:iO}(B:AH n c)(o p:Bool)(x3 x4:Sl)(P:List (List Int×List Int))(I:P.length<=1000)(x7 s:Sl):∃E H',W9 (KA n j o p x3 x4 P (eN c) x7 s)=Y (.nx<|KA n j U U x3 x4 (P++((pf n j c).map λt=>(c,t)).toList) (eN c) E H'):=by
 have O:=tR h.1 j;have Q:=JO h
 have q:=ug (caps:=[6]) (fi:=jJ<|jS 1) (f:=jS 1) (ti:=rA U4) (δ:=KA n j o p x3 x4 P (eN c) x7 s) (δ1:=KA n j U p x3 x4 P (eN c) x7 s) (l:=(mX n j).map cD) (args:=[cD c]) (λd=>d) (λy=>!kC (Hy y) c) (by cases o<;>rfl) XV XV (λy M=>by obtain⟨a,A,rfl⟩:=jd M;rw[mI];exact⟨wZ<|kY (o:=U)<|Ia (JN h.1 (zB A).1 B) (jV XV)<|jV XV,λ_=>⟨U,rfl⟩⟩) (by simp;lia)
 rw[oy]at q;simp only[mI]at q;obtain⟨w,T,N,e⟩:=Qu h c (Cd n j) [] C J J (by simp;lia);rw[se]at e
 let G:=(Cd n j).filter<|yu n<|brk n j c
 have z:aam (KA n j U p x3 x4 P (eN c) (B9 (brk n j c) C) s)=Y ((.lst<|G.map cD,C),KA n j U U x3 x4 P (eN c) (B9 (brk n j c) w) s):=
  (xb (caps:=[7]) (k:=2) (δ1:=KA n j U U x3 x4 P (eN c) (B9 (brk n j c) C) s) (args:=[(.lst<|(brk n j c).map cD,C)]) (by cases p<;>rfl) XV (KY 7) e).trans rfl
 let u:Dn:=KA n j U U x3 x4 P (eN c) (B9 (brk n j c) w)<|B9 G C
 have x:fT (jf HH (iJ 8)<|iY<|oP []) u=Y (!decide (G=[]),u):=kY (o:=U)<|jO (Tb G) (jR XV) (jE (b:=C) XV).r;refine⟨B9 (brk n j c) w,B9 G C,?_⟩;have s0:W9 (KA n j o p x3 x4 P (eN c) x7 s)=Ve u:=(iN<|jL (i:=7) q (show 7<9 by decide)).trans<|iN<|jL (i:=8) z (show 8<9 by decide);rw[s0];have hd:pf n j c=G.head?:=List.head?_filter.symm
 cases m:G with
 |nil=>rw[m,oV XV]at x;rw[hd,m];refine(iN<|(pd x).trans XV).trans ?_;simp only[List.head?_nil,mL,Option.toList_none,sA];rw[<-m];rfl
 |cons t g=>rw[m,lT<|by simp]at x;rw[hd,m];have f:nO [jS 6,jf BY (iJ 8) oY] u=Y ((pD (c,t),U),u):=fTp (f:=jS 6) (a:=(cD c,U)) (b:=(cD t,U)) (δ1:=u) XV<|jO (a:=.lst (G.map cD)) (b:=.int 0) (by rw[m];exact(ixl (L:=(t::g).map cD) (v:=0) (by lia)<|by simp).trans XV) (jR XV) (jE XV).r;refine(iN<|(pP x).trans<|(iN<|nW<|nG (i:=5) (l0:=P.map pD) (l:=P.map pD) (δ1:=u) XV f XV<|uv<|by simp;lia).trans XV).trans ?_;show Y (Out.nx [rS n j,B9 (mX n j) U,Ku n j (Cd n j) U,x3,x4,Y (.lst<|P.map pD++[pD (c,t)],C),eN c,B9 (brk n j c) w,B9 G C])=_;rw[show P.map pD++[pD (c,t)]=(P++[(c,t)]).map pD by rw[nQ];rfl,m];rfl
theorem UD(x3 x4:Sl):∀(a:jg)(P:List (List Int×List Int))(o p:Bool)(e x7 b:Sl),(∀c∈a,AH n c)->P.length+X0 a<=1000->∃f g i k l,lF (iK 6) W9 (a.map cD) (KA n j o p x3 x4 P e x7 b)=Y (.nx<|KA n j f g x3 x4 (P++Il n j a) i k l)
 |[],P,o,p,e,x7,b,_,_=>⟨o,p,e,x7,b,by rw[show P++Il n j []=P from sA P];rfl⟩
 |c::a,P,o,p,e,x7,b,m,u=>by
  rw[nJ]at u;obtain⟨v,w,q⟩:=W8 h (m c la) o p x3 x4 P (by lia) x7 b;have x:((pf n j c).map λt=>(c,t)).toList.length<=1:=by cases pf n j c<;>simp
  obtain⟨f,g,i,k,l,r⟩:=UD x3 x4 a (P++((pf n j c).map λt=>(c,t)).toList) U U (eN c) v w (λd hd=>m d<|jU _ hd) (by rw[nR];lia);refine⟨f,g,i,k,l,?_⟩
  have s:Il n j (c::a)=((pf n j c).map λt=>(c,t)).toList++Il n j a:=by unfold Il;rw[sV];cases pf n j c<;>rfl
  rw[s,<-pM];exact wX (d:=cD c) (δ1:=KA n j o p x3 x4 P (eN c) x7 b) I q r
theorem WD(k:n<=4):nZ [(HM n j,U)]=Y ((.lst<|(Nh n j).map pD,C),[rS n j]):=by
 have w:=JO h;obtain⟨o,m⟩:=adW h;obtain⟨l,a,d,f⟩:=UE h J J J J (Cd n j) [] o J J (λ_ z=>z) (by simp;lia);rw[se]at f;obtain⟨q,s,t,u,v,g⟩:=UD h a d (sh n) [] l C J J J (λc p=>ND h p k) (by have:=HA n (by lia);simp;lia);rw[se]at g
 let e:Dn:=[rS n j,J,J,J,J,J,J,J,J]
 let δ1:Dn:=[rS n j,B9 (mX n j) o,Ku n j [] C,J,J,J,J,J,J]
 refine jY (n:=9) (np:=1) (asg:=[1,2,3,4,5,6,7,8]) (δ:=[rS n j,B9 (mX n j) q,Ku n j (Cd n j) s,a,d,J,t,u,v]) ⟨rfl,by decide,rfl⟩ ?_;refine(iN<|jL (i:=1) (δ1:=e) (KO m<|jV I) (show 1<9 by decide)).trans ((iN (δ1:=δ1) I).trans<|(iN<|(kf<|kL<|KO (agN h)<|jV I).trans f).trans<|(iN (δ1:=KA n j l C a d [] J J J) I).trans<|(iN<|(kf<|kL<|KO (Wz k)<|jE (b:=U)<|jO I (jV I).r (jE I).r).trans g).trans<|jz I)
end
def RA(P:List (List Int×List Int))(g:P.length<=1000)(b:∀p∈P,X0 p.1<=1000/\(X0 p.2)<=1000):Dq (lu RD) (.lst<|P.map pD):=by
 have e:∀c:List Int,X0 c<=1000->Dq (lu 4) (cD c):=λc f=>As (ev:=lu 3) (.inr I) (λd hd=>by obtain⟨i,_,rfl⟩:=jd hd;exact Zg (lu 2) i) (by simpa using f)
 refine As (ev:=lu 5) (.inl I) (λd hd=>?_) (by simpa using g);obtain⟨p,a,rfl⟩:=jd hd;refine As (ev:=lu 4) (.inr I) (λd hd=>?_) (by simp);simp only[nS,sf,or_false]at hd;rcases hd with rfl|rfl
 .exact e _ (b p a).1
 exact e _ (b p a).2
def aau(a:jg):lg [(HM 5 a,U)]=J/\mv [HM 5 a]=Y "TooMany":=by
 have c:Ri [ii 5]=Y (C,[ii 5]):=XH (n:=5);have d:FJ uI [rS 5 a,J,J,J,J] (.int 5):=jE (b:=U)<|jO I (jV I).r (jE I).r;constructor
 .refine Gh ?_;show iP _ _ [rS 5 a,J,J,J,J]=J
  have:ja ky [uI] [rS 5 a,J,J,J,J]=J:=Bh (os:=[.val (.int 5,U)]) (args:=[pI 5]) I I<|Gh (by show iP _ _ [ii 5]=J;rw[NW,pP c];rfl)
  rw[NW,Jh,this];rfl
 show oJ [rS 5 a,J,J,J,J]=Y "TooMany";unfold oJ;show nC [ii 5]=Y "TooMany";unfold nC;rw[XT c I];rfl
def YV:Co 4 1 (mM CT zo) (.AF (.exc 121) [] [])=Y (.int 7):=by kernel_rfl
def Zi:(λz=>zo.lookup z) ("TooMany":ax)=Y 121:=by kernel_rfl
abbrev UH:FS:=zC5
abbrev UI:FS:=iP Ya<|iP Yp<|iP XU<|iP (mE (uN yK) (iK 5) UH)<|iP Yo<|iP (EF (fT<|jf HH (iY<|LJ [7] (ja lg [iJ 0]) (Cj mv [iJ 0]) 4 1 (mM CT zo) λz=>zo.lookup z)<|iY<|fC<|.int 7) Fd jk) jk
def Qb(x:iO)(k:Nat)(B w u c e f:Sl):∃H' I' L d5 s O,UI [Wp (.lst<|x.map .int,W1),ii k,B,w,u,c,e,f]=Wp (.nx [Wp (.lst<|x.map .int,W1),ii k,H',I',L,d5,s,O]):=by
 let h:Sl:=Wp (.lst<|x.map .int,W1)
 let j:Sl:=ii k
 obtain⟨a,b,T⟩:=agz x k;obtain⟨a1,n,g,t,_,z,G⟩:=Cu a b 0 4 (by lia) (by lia);obtain⟨y,m,ds,Y,R,U,J⟩:=Cu a1 b 5 5 (by lia) (by lia);obtain rfl:m=5:=by lia
 obtain⟨f1,N⟩:=aau ds;have A:=acp t z;have C:=WD t z;have gp:=V4 t z;have F:(Nh n g).length<=100:=lN (RU _)<|HA n (by lia);generalize Nh n g=Q at A C gp F
 let δ:Sl->Sl->Dn:=λx5 v=>[h,j,A8 a1 b,rS n g,Wp (.lst<|Q.map pD,WP),x5,v,f]
 have K:=RA Q (by lia) (λp E=>⟨by have:=Xn t.1 (gp p E).cl;lia,by have:=(HV t (gp p E).li).len;have:=t.1;lia⟩) WP WP
 obtain⟨_,⟨d5,s,rfl⟩,M⟩:=pv (tg:=iK 5) (fb:=UH) (λ_ d=>∃x5 v,d=δ x5 v) (λd ds _ a'=>by
  obtain⟨x5,v,q⟩:=a'
  subst q;refine⟨_,δ (Wp (d,W1))<|Wp (.lst<|Q.map pD++[.tup []],WP),rfl,?_,_,_,rfl⟩;have P:fT XX (δ (Wp (d,W1))<|Wp (.lst<|Q.map pD,WP))=Wp (WP,δ (Wp (d,W1))<|Wp (.lst<|Q.map pD,WP)):=kY (o:=W1)<|(km (δ1:=δ (Wp (d,W1))<|Wp (.lst<|Q.map pD,WP)) (os:=[.slot 6,.slot 4]) (args:=[(.lst<|Q.map pD,WP),(.lst<|Q.map pD,WP)]) I I (show([6,4]:List Nat).Nodup by decide) K).trans I;exact(iN<|jL (i:=6) (δ1:=δ (Wp (d,W1)) v) (KO A<|jV I) (show 6<8 by decide)).trans ((iN<|(pd<|wZ P).trans I).trans<|(iN<|nW<|nG (i:=6) (δ1:=δ (Wp (d,W1))<|Wp (.lst<|Q.map pD,WP)) (l0:=Q.map pD) (l:=Q.map pD) (r:=(.tup [],W1)) I I I<|uv<|by simp;lia).trans I)) (jq 0 2) (δ c e) ⟨c,e,rfl⟩
 refine⟨A8 y b,rS n g,Wp (.lst<|Q.map pD,WP),d5,s,rS 5 ds,?_⟩;refine(iN<|jL (i:=2) (δ1:=[h,j,B,w,u,c,e,f]) (Ia T (jV I)<|jV I) (show 2<8 by decide)).trans ?_;refine(iN<|jL (i:=3) (δ1:=[h,j,A8 a1 b,w,u,c,e,f]) ((km (δ1:=[h,j,A8 a b,w,u,c,e,f]) (os:=[.slot 2,.val (.int 0,W1),.val (.int 4,W1)]) (args:=[pS a b,pI (0:Nat),pI (4:Nat)]) I I (KY 2) G).trans I) (show 3<8 by decide)).trans ?_;refine(iN<|jL (i:=4) (δ1:=[h,j,A8 a1 b,rS n g,u,c,e,f]) (KO C<|jV I) (show 4<8 by decide)).trans ?_;refine(iN<|(kf (ds:=jq 0 2)<|pk (n:=2) (o:=.val (.int 2,W1)) I I<|by decide).trans M).trans ?_;refine(iN<|jL (i:=7) (δ1:=[h,j,A8 y b,rS n g,Wp (.lst<|Q.map pD,WP),d5,s,f]) ((km (δ1:=δ d5 s) (os:=[.slot 2,.val (.int 5,W1),.val (.int 5,W1)]) (args:=[pS a1 b,pI (5:Nat),pI (5:Nat)]) I I (KY 2) J).trans I) (show 7<8 by decide)).trans ?_;exact(no (δ:=[h,j,A8 y b,rS n g,Wp (.lst<|Q.map pD,WP),d5,s,rS 5 ds]) _ (ab2 (a:=.int 7) I (by simp[D.dep]) (jE<|TC (args:=[(HM 5 ds,W1)]) I I (Bh (os:=[.slot 0]) (args:=[(HM 5 ds,W1)]) I I f1) N Zi YV).r (jE I).r)).trans I
def XF(a:iO)(w:(X0 a)<=63):∃o b,vb [(.lst<|a.map .int,U)]=Y ((.bl C,o),b):=by
 let c:Sl:=Y (.lst<|a.map .int,U)
 let N:Nat:=if 1<min (X0 a) 5 then min (X0 a) 5 else 1
 obtain⟨m,_,e⟩:=pv (tg:=iK 1) (fb:=UI) (λds δ=>∃n f g i d5 j l,(∀d∈ds,∃k:Nat,d=.int k)/\δ=[c,n,f,g,i,d5,j,l]) (λd ds δ T=>by
  obtain⟨n,f,g,i,d5,j,l,h1,h⟩:=T
  subst h;obtain⟨k,rfl⟩:=h1 d la;obtain⟨g2,r,s,t,u,v,e⟩:=Qb a k f g i d5 j l
  exact⟨_,_,rfl,e,_,_,_,_,_,_,_,λx q=>h1 x<|jU _ q,rfl⟩) (jq 0 N) [c,J,J,J,J,J,J,J] ⟨_,_,_,_,_,_,_,λd hd=>by obtain⟨k,_,rfl⟩:=wa.mp hd;exact⟨k,by simp⟩,rfl⟩
 refine⟨U,_,jY (δ:=m) ⟨rfl,by decide,rfl⟩ ?_⟩;refine(iN<|(kf (ds:=jq 0 N) (δ1:=[c,J,J,J,J,J,J,J]) ?_).trans e).trans (jz I);refine pk (o:=.val (.int N,U)) (jA ?_) I (by simp only[N];split<;>omega)
 have p:(N:Int)=if(if(5:Int)<(X0 a)then 5 else((X0 a):Int))>1 then(if(5:Int)<(X0 a)then 5 else((X0 a):Int))else 1:=by simp only[N];split<;>split<;>split<;>omega
 rw[p];simp[c]
end PV
def K73.main(b:iO)(c:(X0 b)<=63):∃o a,PV.vb [(.lst<|b.map .int,U)]=Y ((.bl C,o),a):=PV.XF b c
structure PySem.W.Fast:Prop where(tw7509113288385004426 tw990820341006942797 tw12005134793091405078 tw5571956141333291992 tw4429213698905259784 tw15999556258654148022 tw7673949185913209702 tw893844044298471706 tw15163608433780679300 tw11698805583837867913 tw2482181465384202080 tw78126645714725159 tw1812161499014528186 tw412121707099598614 tw2008064132411459048 tw3234639459552618670 tw16558354143188102061 tw131248891156440055 tw16010632086254523179 tw10326466610666241619 tw13387316057326771419 tw6872938363775036053 tw3490881040952323847 tw17719780266411504381 tw5866748040376722424 tw10095650056430794422 tw5697692811927757769 tw1375610927830865567 tw10448587983683808014 tw11737406802917482538 tw3232350496542203020 tw7334115378544236501 tw7656942757692278595 tw7484013641000201040 tw9287062134469301969 tw17048433211512911877 tw8447985865419189376 tw3351217731308207322 tw6199984531289259921 tw10451364926481340815 tw2234849588057658630 tw12392435940921935242 tw152479911603221855 tw11818369197154292295 tw15333181526927517359 tw13445949984237701955 tw10974637875533498690 tw8634535908417556529 tw17371652206384547384 tw719083620036485772 tw18384294862528646062 tw12193386287906960093 tw9692061525125241391 tw8137364919249750660 tw12111975991875060056 tw280074618864581008 tw15207409193529459117 tw7204804098677710186 tw3933172056137390054 tw18075800069144284438 tw17124726367235055759 tw4061455390862644814 tw14421340991386934795 tw6323513101555472657 tw14212145895278420648 tw14438202842212570939 tw15939610735642220384 tw13579323153474950703 tw14868165394278396746 tw12617226707137482701 tw6071663701726062260 tw9949844878398104652 tw6592881168550889329 tw8862527190771408499 tw1753222227545667520 tw4833912674850349489 tw11902753366544257216 tw17426530290022417976 tw3000456928094507754 tw9104649265357310253 tw15846891608007030305 tw13564791302878680268 tw1371187637647061964 tw1627554429438657917 tw5729099126033997900 tw17781070618067075216 tw8538628794719779813 tw13341825483752093196 tw1482850823254663815 tw880014357696057766 tw6404388057127136625 tw3700099127012392185 tw14438108538917264198 tw373250955061333030 tw7538269520574705555 tw5609400049868112423 tw8720957463213297759 tw5930182323395825688 tw17435341560302085252 tw17579723246943701969 tw1751095979012584536 tw5235867842510787486 tw3514595270596862355 tw15263920855366455599 tw7813661196579336786 tw7015967245448128440 tw4273032222262009802 tw2522655763393294782 tw6842847527766258075 tw6939126907080365350 tw932753245033387185 tw15682028532480515026 tw4032957881026260020 tw4025830316783522356 tw2580353360451135535 tw16083643346946074675 tw10225889336021448618 tw9710286177783946344 tw7919011990907783276 tw10290724074371122617 tw14836895156133004728 tw10464560783932262449 tw1497641045882015193 tw12344920710645119786 tw5735317271770158904 tw10092631547047951499 tw7095754799406109079 tw257703273524936555 tw3553619032572270704 tw3187244819134816583 tw16062394923564182536 tw12756157259787123746 tw779082944482308809 tw2596850295706587464 tw17657499671129733184 tw7867840387529036599:True)
open PySem PySem.W PyProof.Rows PX
set_option maxRecDepth 100000 in
set_option maxHeartbeats 0 in
theorem PySem.Challenge.cw_twinriddles_k73_all_puttings_holds : PySem.Challenge.rw_twinriddles_k73_all_puttings.Holds := by
  w_on; o_law; k_head; (case hw => w_witness2)
  k_fill
  refine walkT (TB := K73.TB73) (l := PySem.Challenge.rw_twinriddles_k73_all_puttings) (LV := 14) (x := "_law_script") ⟨rfl, by decide, by decide, rfl⟩ rfl rfl (fun w h Y => km_in_of Y) (fun w h Y => aC (km_tabs_of Y _ List.mem_cons_self) aN) (fun w => aC ?K aN) (by decide) ?F K73.main
  case K => show List.lookup 458 _ = none; kernel_rfl
  case F =>
   intro w mg fa h KX G hmg
   refine' K73.all_mk hmg (txK KX G ?_ ?_ ?_ ?_ ?_ ?_ ?_ ?_ ?_ ?_ ?_ ?_ ?_ ?_ ?_ ?_) ?_ ?_ ?_ ?_ ?_ ?_ ?_ ?_ ?_ ?_ ?_ ?_ ?_ ?_ ?_ ?_ ?_ ?_ ?_ ?_ ?_ ?_ ?_ ?_ ?_ ?_ ?_ ?_ ?_ ?_ ?_ ?_ ?_ ?_ ?_ ?_ ?_ ?_ ?_ ?_ ?_ ?_ ?_ ?_ ?_ ?_ ?_ ?_ ?_ ?_ ?_ (fzT KX G ?_ ?_ ?_ ?_ ?_) (mg_none_of KX G ?_) ⟨(aC (mg_of KX G ?_) (aC (mg_of KX G ?_) (aC (mg_of KX G ?_) (aC (mg_of KX G ?_) (aC (mg_of KX G ?_) (aC (mg_of KX G ?_) (aC (mg_of KX G ?_) (aC (mg_of KX G ?_) (aC (mg_of KX G ?_) (aC (mg_of KX G ?_) aN)))))))))),(aC (mg_of KX G ?_) aN),(aC (aC ?_ (aC ?_ (aC ?_ (aC ?_ (aC ?_ (aC ?_ (aC ?_ (aC ?_ (aC ?_ (aC ?_ aN)))))))))) aN),(aC ?_ aN),(aC (show ClK _ 121 24 from ⟨⟨?_,?_,?_,?_,?_,?_,?_,?_⟩,(aC ?_ (aC ?_ (aC ?_ (aC ?_ (aC ?_ (aC ?_ aN)))))),?_⟩) aN),(aC (show excIn _ 121 _ _ = true from ?_) aN),mg_none_of KX G ?_,mg_none_of KX G ?_,mg_of KX G ?_⟩ (mgI KX G ?_)<;>try first|refine' fz KX G ?_ ?_ ?_ ?_<;>try k_is|k_is|kernel_rfl
