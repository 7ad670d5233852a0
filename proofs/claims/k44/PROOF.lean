import PyProof.Rows.All
import Wide.All
import OpenK.AllK
import Wide.FinOn
import PyProof.EqAt
import PyProof.EqKinds
import PyProof.TupleCall
import Lean
import PySem.Challenge.RW_twinriddles_k44_stays_and_lots
set_option Elab.async false
set_option linter.all false
set_option maxRecDepth 100000
set_option maxHeartbeats 8000000
set_option compiler.extract_closed false
set_option backward.eqns.nonrecursive false
noncomputable section
open List renaming length->VP
namespace RfL
theorem r{a:α}:a=a:=rfl
end RfL
open RfL renaming r->H,r->UV
open Option renaming some->Y,some->TW,none->J,none->T2
open Bool renaming true->I,true->Uf,false->C,false->UF
open And renaming intro->dX
open Array renaming length_toList->lU,getElem?_toList->mE,getElem?_eq_getElem->qo,getElem?_eq_some_iff->Kw,getD_eq_getD_getElem?->uY,getElem?_setIfInBounds->Dg,forIn_toList->De,getElem?_eq_none_iff->UL,append_assoc->Hr,getElem?_eq_none->GN,getElem?_replicate->MD,mem_toList_iff->XN,toList_eq_nil_iff->XM,toList_append->Mp,toArray_toList->Mn,toList_push->fj,replicate->f4,size_zip->rk,size_map->ro,toList->th,ext->B1
open Bool renaming false_eq_true->lr,false_ne_true->lH,and_eq_true->mf,not_true->sG,or_eq_true->xo,true_and->dH,false_and->eK,not_false->gr,and_false->gv,and_assoc->gw,eq_false_iff->m7,noConfusion->n7,eq_iff_iff->rd,and_comm->tf
open False renaming elim->aT
open ForInStep renaming yield->bH
open Function renaming comp->cj,comp_def->eU
open Int renaming toNat_natCast->xM,mul_one->Ad,emod_lt_of_pos->GQ,emod_nonneg->GP,fdiv_eq_ediv_of_nonneg->M3,natCast_inj->gm,neg_neg->A2,mul_neg->Bn
open LawfulBEq renaming eq_of_beq->sN
open LawfulMonad renaming bind_assoc->vo,pure_bind->wT
open Lean renaming Syntax->ce,Name->fX,mkIdent->u6
open List renaming map_cons->kM,getElem?_eq_getElem->lq,map_map->ll,length_map->ke,mem_cons_self->kx,mem_cons_of_mem->kE,size_toArray->kH,mem_cons->nH,getElem?_map->kX,getElem?_eq_some_iff->uI,all_eq_true->mC,mem_append->rq,mem_of_getElem?->mZ,mem_map->sh,length_append->nK,pairwise_map->oq,getElem?_set_self->oB,length_cons->oy,getElem?_set_ne->oP,pairwise_append->uh,not_mem_nil->pj,mem_range->vP,append_assoc->pX,lookup_cons->pW,getD_eq_getElem?_getD->pV,map_append->pU,mem_append_right->qv,getElem?_append_right->qt,pairwise_cons->EU,map_congr_left->qm,length_take->se,getElem?_append_left->sd,nodup_nil->rY,map_id->rX,map_nil->sM,getElem?_of_mem->sJ,mem_filter->ES,filterMap_cons->uO,nodup_cons->zp,getElem?_replicate->wa,any_cons->vU,length_set->tw,replicate_succ->tu,foldl_cons->tj,mem_singleton->IL,exists_cons_of_length_pos->sV,take_append_drop->sU,zip_cons_cons->sQ,mem_map_of_mem->sP,length_filter_le->sO,all_cons->vh,getElem?_zip_eq_some->Bz,mem_of_mem_take->vf,length_nil->uX,mem_flatMap->yP,append_nil->xQ,take_sublist->xN,flatten_cons->xK,length_singleton->xH,drop_eq_getElem_cons->xD,ext_getElem?->xy,pairwise_reverse->Ht,length_pos_iff->QR,length_eq_zero_iff->QN,find?_cons->xh,nil_append->xb,getElem?_set->Ab,ext_getElem->Aa,drop_eq_nil_of_le->zZ,range'_succ->zV,reverse_perm->zU,eq_nil_of_length_eq_zero->zT,getElem_of_mem->zS,take_of_length_le->zQ,take_succ->zP,nodup_append->Ca,mem_append_left->DJ,getElem_inj->DI,any_map->Dx,foldl_append->Dv,perm_middle->QD,eq_nil_or_concat->Dl,pairwise_iff_getElem->Qz,mem_of_mem_drop->Dk,getElem_mem->Dd,length_eraseIdx->Dc,filter_map->C8,filter_congr->C7,of_mem_zip->Hm,length_drop->Hf,length_dropLast->Hc,getElem?_zipIdx->Ha,concat_eq_append->G2,drop_sublist->GZ,mem_erase_of_ne->GO,pairwise_lt_range->QK,take_length->GG,dropLast_concat_getLast->GB,flatMap_cons->GA,filter_cons_of_neg->Gz,getElem?_take_of_lt->MZ,length_replicate->MY,eraseIdxIfInBounds_toArray->MR,length_reverse->MJ,pairwise_singleton->MI,perm_append_comm->T4,filterMap_append->MF,perm_append_singleton->ME,dropLast_eq_take->Mm,perm_cons_erase->Ml,filter_eq_self->XI,dropLast_subset->Mk,replicate->ag,range->aj,range'->bG,length->cZ,mem_filterMap->dD,mem_reverse->dJ,isEmpty_nil->dL,getElem?_cons_zero->dO,getElem?_cons_succ->dP,filter_cons_of_pos->dR,range_succ_eq_map->et,forIn_cons->ez,getElem?_drop->e7,foldl->e8,Nodup->e9,all_map->fA,getElem_map->fV,take_take->gn,map->gq,getElem?_eq_none->g9,replicate_zero->ip,zip_nil_right->j7,map_singleton->ka,getElem_range->kl,filter_append->kv,filterMap_map->kA,length_range->m4,zipIdx_cons->nf,map_fst_zip->nw,getLast_mem->nF,cons_append->nP,any_eq_true->n6,map_take->te,map_id'->u5
open List.Pairwise renaming nil->c3,sublist->wv,map->ww,imp_of_mem->wE,imp->wP,and->wS
open List.Perm renaming refl->vb,eq_of_pairwise->GX,append_left->MC,trans->ib,swap->iq,cons->iu,of_eq->agt
open List.cons renaming inj->zN
open Nat renaming le_refl->kg,ne_of_lt->kI,le_trans->lV,zero_le->mn,lt_of_lt_of_le->nY,ne_of_gt->pv,lt_irrefl->pZ,le_of_lt->wc,lt_succ_of_lt->vW,pow_succ->rB,mul_assoc->rA,not_lt->M7,mul_add->va,mul_comm->uZ,le_succ->xJ,add_assoc->xv,mul_one->xm,mod_lt->xj,lt_trans->Ac,min_eq_left->zO,pow_le_pow_right->zL,lt_succ_self->Dw,zero_add->Dj,mul_left_comm->Dh,lt_asymm->Hb,add_sub_cancel_left->G3,add_mul->GU,one_mul->GS,mul_zero->GR,lt_of_le_of_lt->GC,sub_add_cancel->mA,lt_or_eq_of_le->mL,add_sub_cancel->mN,le_succ_of_le->nb,le_of_not_lt->rc,two_pow_pos->r6,mul_add_mod->r8,div_add_mod->r9,lt_or_ge->wf,le_of_eq->wl,add_zero->wn,add_comm->wr,add_mod->A1
open Ne renaming symm->pz
open Option renaming bind_some->ku,isSome_iff_exists->Mh,isSome_map->GF,bind->fK,map_eq_some_iff->gC,isSome_some->ia,getD_none->j5,map->u4
open Option.some renaming inj->lg
open Or renaming inr->bj,inl->bv
open Prod.mk renaming inj->sH
open PyProof.Rows renaming SortSt->sA,listUpdate_at->vd,slot_tuple_getitem->BC,get?_update_seq->xq,seqEpoch_at->zM,boot_range->DG,callWith_type1->DF,listItems_at->GY,entry_tuple_getitem->MX,subscriptTail_builtinR->MW,envOfC->aY,seqObj->br,IntsAre->ek,AllBare->el,Keyed->eS,arrOf->fU,failedOf->gk,subscriptTail->io,IsTup->j3,SortKind->q7,args_tuple_getitem->s9,wpAny_notIn_heap->v9,lt_int->z7,le_int->z8,gt_int->z9,ge_int->At,entry_list_sort->AC,callWith_builtin1->AT,slot_list_sort->F2,slicePart_none->Gc,oneType'->Go,keyLt'->G0,tupleItemsOf_->K3,reverseSlice'->Ls,tuples'->Op,plain_sorted->OO,entry_sorted->Ps,call_abs_int->PP,kind_sorted->TD
open PyProof.Rows.F renaming plain_set_update_loop->GH,entry_set_update_loop->Mx
open PyProof.Rows.IsTup renaming new->DC
open PySem renaming Shared->iT,Program->jq,Around->jm,World->jk,SetTable->mV,Value->iX,Comprehension->oM,FuncData->mD,Heap->jn,Addr->iO,wpAny_bind->iP,wpAny_pure->je,sizeLine_eq->kj,wpAny_holding->mz,wpAny_mono->nX,wpAny_newObj_type->oz,wpAny_field->pk,wpAny_call_entry->pY,mem_of_lookup->qu,codeAny_builtin->qp,codeAny_mono->sf,wpAny_rule->sL,wpAny_setField_rec->uL,wpAny_setState_of->uK,wpAny_typeOf->vZ,call_meets->vY,wpAny_of_eq->vX,wpAny_seqItems->vR,wpAny_attempt->rC,wpAny_standAt->tH,wpAny_Call_Name_kw->tE,wpAny_callSpecial?_slot->tD,plainId_quiet->sZ,wpAny_truthy_bool->vq,wpAny_passesOwn->vp,wpAny_askSetting->vn,wpAny_setField->vg,wpAny_pyIter_list->xR,wpAny_call->xP,codeAny_of_tree->xF,wpAny_isInstance->xw,wpAny_forIn_list->xu,wpAny_specialOf->xi,tupleKind_room_in1->xg,wpAny_execs_nil->Ae,codeAny_call_builtin->zY,wpAny_onRaise->zW,wpAny_load->DH,concat_meets->DD,wpAny_alloc->Dz,wpAny_newTuple->Dr,wpAny_letGo->Dq,isSubtype_stop->Dm,wpAny_newList->Di,wpAny_isSame_ref_self->Df,wpAny_pyHash_int->Hs,wpAny_pyIter_tuple->Hq,noFill_tuple_add->Hl,seq_tuple_add->Hk,seqIndex_of->He,seqIndex_neg->Hd,wpAny_runValue->G9,wpAny_handled->G8,wpAny_throw->G7,wpAny_point->G5,wpAny_collect_seq->GV,typeLookup_type->GL,builtinLookup_eq_fast->GK,isSubtype_type->GJ,wpAny_pyIter_slot->GI,wpAny_typeNameOfWhole_keyiter->GD,wpAny_storeName_local->M5,wpAny_comprehension_free->MQ,weight_type_call_type->ML,wpAny_updateSeq_pair->MK,richCompare_meets_room->MH,wpAny_setEntries_of->Mz,wpAny_notOrdered_dict->Mu,wpAny_isOneOf_keyiter->Mt,starEach->ae,wpAny->ah,model->ai,mainGlobals->ap,Str->av,foldedSetIterable->aw,bootBuiltins->ax,compareOp->ay,backTo->aI,cLine->aV,eval->aX,assignEach->aZ,Builtin->bc,binaryOp->bf,Stmt->bh,Pos->bn,cellsFrom->bz,Arguments->bA,sysModules->bK,swapsWith->bT,clausesOf->bW,holding->cf,codeAny->cg,tupleKind->cp,rawInt->cu,IsPair->cy,pyNext->cA,assign->cE,CmpOp->cK,standAt->cQ,pyIter->c5,checkBuiltinCall->c6,behindInMarks->c9,sliceBounds->dh,keywordEach->dv,NameKind->dz,Env->dG,Sem->dW,ofAClassStatement->d0,getItem->d1,IsPart->ey,codeAmong->eC,GenState->eD,IsEnum->eL,letOwnedTupleGo->eQ,IsZip->eR,Obj->e6,bindArgs->fe,backToKw->fg,PassesOwn->fm,DictEntry->fv,swapsWithSole->fL,swappedStores->fQ,valueAt->f5,collect->f8,callerA->gg,Model->gi,BindsTo->gj,pickOrder->gx,hashByValue->gy,atKey->gA,typeLookup->gR,setsByText->gS,newFunctionEnv->gU,firstArgMember->gV,entryFor->gW,builtinsNs->gX,argsOk->gY,scanBound->iE,noteFrame->iF,list_append->iG,field->iL,compStart->i7,bindL->i8,bindC->jp,TriplesOk->jt,IsEnumOut->j2,typeOf->kS,setItem->k6,setAdd->lf,relabel->li,preSum->lm,newExc->lv,intKind->lw,Result->mo,ItemsOf->mu,unsupported->n8,subscripted->n9,setField->oC,compTurn->o6,ZipApart->o9,Moved->pc,wpAny_Name->sa,typeIs_int->sm,isInstance->ss,getattributeRaised->sx,entryOfKey->sB,defaultsOf->sK,closureFor->s8,wpAny_storeSet_of->tp,wpAny_sequenceKey->tv,wpAny_pyIter_enum->tz,wpAny_dictEntries->t0,table->t8,spliced->t9,slot_list_getitem->ul,searchCouldBeSeen->ut,newList->uu,Tok->u0,Keyword->u3,wpAny_pyIter_zip->u7,wpAny_execs_cons->u8,seqIndex?->vl,eqIsQuiet->vr,call->vu,wpAny_updateSeq->w4,wpAny_loadPart'->xl,wpAny_dictEpoch->xp,theWindowsPlace->xt,size_of_entries->xz,pushCells_keeps->x0,getAttrByItsOwn->x5,Fin->x6,wpAny_notIn_of->B2,wpAny_Expr_any->B4,wants->Ch,slotArgs->CK,raiseNew->C2,newSet->Db,getAttr?->Do,fitsIndex_both->Ev,entryFor_alias->EQ,cellOf->Fa,callType_codes->Fk,boundAndCalled->FM,Meets->F0,wpAny_notedAt->G1,wpAny_in_heap->Ix,setSearchFrom->IN,rangeSize_one->IR,intBits_le_64->IX,evalPart_none->I0,comprehension->I8,checkTypeCall->J4,call_list_seq->KE,unaryOp->L3,setAddHashed->Ms,release->MB,name_of_addr->M0,leaving->M2,dictSet->No,call_range_2->NE,IsRange->NL,wpAny_in_of->P2,interactive->Q1,Walks->Q2,IsRangeIter->Tl
open PySem.Around renaming under_plainId->uN,frames_deeper->M1,under_plain->hZ
open PySem.Builtin renaming bitAnd->b4
open PySem.Builtin.Dict renaming updateFrom->fH,showsAll->f3,selfAndRest->y9,pairItems->zn,dictSlotNone->zx,addKeywords->z0
open PySem.Builtin.Frozenset renaming addrOf->eO,updateFrom->pp,slot0->pw,sizeOf->px,oneOther->pC,newClass->qs
open PySem.Builtin.List renaming listTooLong->b5,listExtendWith->eZ,listSameRef->fy,listLengthHint->y7,listFitsIndex->y8
open PySem.Builtin.Range renaming rangeSize->fw,small->v8
open PySem.Builtin.Slice renaming slicePlaces->bY,sliceAdjust->cS,sliceApplied->eX,slicePartIndex->v6,sliceFields->v7
open PySem.Builtin.SmallTypes renaming nextOf->aP,fitsIndex->bt,ownedTupleHandOut->bw,ownedTupleIsFree->bx
open PySem.Builtin.Tuple renaming tupleHashOf->bi,tupleExact->bq,tupleItemsOf->cO,tupleIsExact->eW,tupleCompareSizes->vw
open PySem.Calls renaming spliced_nil->Ho,spliced_cons->Hn,Name_function_global->M4,callWith_builtin->MV,evalArgs_plain->MU
open PySem.Code renaming quiet_builtin->G6
open PySem.Data renaming cell->fS,fields->hX,seq->K2
open PySem.F renaming called_set->M6,slot_tuple_hash->IK,plainAttrs_list->zJ,slot_enumerate_next->Dp,slot_tuple_add->Hj,entry_tuple_add->Hh,args_tuple_add_2->Hg,called_tuple->QM,slot_dict_keyiterator_next->Mi,slot_list_getattribute->QJ,entry_list_append->MT,args_list_append_2->MS,entry_object_init->MP,slot_tuple_iterator_next->MO,entry_enumerate_next->MN,args_enumerate_next_1->MM,slot_set_iter->MA,plain_list_iadd->My,plain_set_new->Mw,slot_dict_iter->Mv,slot_list_pop->Mr,type_list_pop->Mq,attr_TypeError->XJ
open PySem.Heap renaming get?_push_of_some->kb,lt_size->ki,get?_push_size->kD,size_push->qr,get?_update_self->tx,get?_update_other->DA,get?_update_ne->GW,SameBut->aE,ExtBut->eJ
open PySem.Heap.SameBut renaming update->rZ,refl->Dy
open PySem.Moved renaming trans->C9,refl->vv
open PySem.NameKind renaming free->aK,cell->cJ
open PySem.Obj renaming data_mapFields->uM,isFreed_of_fields->Dt,cls_mapFields->Ds,mapSeq->aO,mapFields->gG,putSet->ms
open PySem.Paired renaming length->vt
open PySem.SetTable renaming below->am,runEnd->aF,insertAt->aH,bits->aM,turns->b3,leap->cH,Probe->c4,sizeAbove->eF,grown->fR,layClean->g8,fresh->j1,slot->l5,laid->me,fits->mi,fill->mj,put->na,tooFull->R1,sameMemory->Sc,relaid->Sr,has->SI,gaveWay->SS,advance->Tk
open PySem.SetTable.layClean renaming free->bJ
open PySem.SetTable.probe renaming go->ef
open PySem.Shared renaming TypeIs->dF
open PySem.Str renaming ofString->bN
open PySem.Value renaming none->au,ref->bU,type->ca,builtin->cP,bool->dV,int->gB,notImplemented->g0,isInt->g7,str->lA,isStrOf->r0
open PySem.W renaming Frag->jr,mg_none_of->oO,kia_one->vT,kia_tup->vS,cellsFrom_some->DE,nsIn->aW,fnOf->bI,keepIn->bP,kitOne->c7,codeIn->c8,kitAny->ew,methodObj->eV,kitx_tuple->gZ,kitx_none->hD,kitx_list->hH,kitx_dict->hL,kitx_bool->hU,kitx_str->ig,kitx_set->ik,kitx_int->il
open PySem.Walks renaming list->Du
open StateT renaming run_pure->G4
open Sum renaming inl->cU,inr->fD
open True renaming intro->bb
open PySem PySem.Spec PyProof.Rows
section
abbrev jG:=iX->Shared->Prop
abbrev jK:=List<|iO×e6
abbrev jL:=List<|List Int
abbrev ja:=List Int
abbrev jW:=List iX
abbrev lJ:=av->Option iX
abbrev jX:=List Nat
abbrev sy:=Array<|Int×iX
abbrev nZ:=Array iX
abbrev jB:=List av
abbrev kr:=List Expr
abbrev sD:=Bool->Shared->Prop
abbrev B9:=Option iX->Shared->Prop
abbrev yy:=iX->iX->dW iX
abbrev vQ:=Array<|Option Nat
abbrev yx:=Array<|Option iX
abbrev lb:=List<|av×iO
abbrev oN:=List oM
abbrev B8:=Array eS
abbrev kB:=Nat->Prop
abbrev kW:=List iO
abbrev jS:=Scope
abbrev iW:=Expr
end
section
open PySem.SeqAt
theorem jh:type_of% @if_pos:=@if_pos
theorem jy:type_of% @if_neg:=@if_neg
def mq:=@decide_eq_false
theorem my:type_of% @if_false:=@if_false
theorem nJ:type_of% @if_true:=@if_true
theorem nI:type_of% @decide_eq_true:=@decide_eq_true
def oA:=@congrArg
theorem vV:type_of% @decide_eq_true_eq:=@decide_eq_true_eq
theorem sY:type_of% @or_false:=@or_false
theorem Gu:type_of% @beq_iff_eq:=@beq_iff_eq
theorem BD:type_of% @beq_eq_false_iff_ne:=@beq_eq_false_iff_ne
theorem xG:type_of% @bne_self_eq_false:=@bne_self_eq_false
def zK:=@of_decide_eq_true
end
namespace TT
noncomputable def LO(mask:Nat)(p:c4):SetTable.Probe:=
 if p.more>0 then {p with j:=p.j+1,more:=p.more-1}else
 {p with j:=(cH mask p.i p.perturb).1,more:=aF mask (cH mask p.i p.perturb).1-(cH mask p.i p.perturb).1,i:=(cH mask p.i p.perturb).1,perturb:=(cH mask p.i p.perturb).2}
noncomputable def AD(mask:Nat)(h:Int):SetTable.Probe:={j:=aM h%(mask+1),more:=aF mask (aM h%(mask+1))-aM h%(mask+1),i:=aM h%(mask+1),perturb:=aM h,dummy:=J}
def pr(mask:Nat)(h:Int):Nat->c4
 |0=>AD mask h
 |n+1=>LO mask<|pr mask h n
structure BQ(hs:ja)(t:mV):Prop where
 pow:∃k,3<=k/\k<=11/\t.mask+1=2^k
 dum:t.dummies= #[]
 len:t.place.size=VP hs
 room:5*(VP hs)<3*t.mask
 ris:t.place.toList.Pairwise (· < ·)
 bd:∀j∈t.place.toList,j<=t.mask
 road:∀(i:Nat)(h:Int)(j:Nat),hs[i]?=TW h->t.place[i]?=TW j->∃n,(pr t.mask h n).j=j/\∀m,m<n->(pr t.mask h m).j∈t.place.toList
end TT
namespace L2
abbrev Key:=Sum Int av
noncomputable def yF:Key->iX->Bool
 |.inl k,v=>g7 k v
 |.inr x,v=>r0 x v
noncomputable def abS(w:jk):Key->Int
 |.inl k=>hashInt k
 |.inr x=>hashStr w x
def lD:∀{k:Key}{v:iX},yF k v=I->(∃i t,k=cU i/\v=gB i t)\/(∃x t,k=fD x/\v=lA x t)
 |.inl i,v,h=>by obtain⟨t,e⟩:=Value.isInt_shape (k:=i) (v:=v) h;exact .inl ⟨i,t,rfl,e⟩
 |.inr x,v,h=>by obtain⟨t,e⟩:=Value.isStrOf_shape (x:=x) (v:=v) h;exact .inr ⟨x,t,rfl,e⟩
def afr(i:Int)(t:u0):yF (.inl i) (.int i t)=I:=by simp[yF,g7]
def afq(x:av)(t:u0):yF (.inr x) (.str x t)=I:=by simp[yF,r0]
def Pd(a b:Int):decide ((cU a:Key)=cU b)=(a==b):=by
 by_cases e:a=b
 .subst e;simp
 have h: ¬(cU a:Key)=cU b:=λq=>e<|Sum.inl.inj q;rw[mq h];exact(BD.mpr e).symm
def WS(a b:av):decide ((fD a:Key)=fD b)=decide (a=b):=by
 by_cases e:a=b
 .subst e;simp
 have h: ¬(fD a:Key)=fD b:=λq=>e<|Sum.inr.inj q;rw[mq h,mq e]
def Pc(a:Int)(b:av):decide ((cU a:Key)=fD b)=C:=mq (λq=>nomatch q)
def Pb(a:av)(b:Int):decide ((fD a:Key)=cU b)=C:=mq (λq=>nomatch q)
def ky(d:jq)(w:jk):PySem.KeyKind d w Key where
 is:=yF
 hash:=abS w
 inj:=λv a b g f=>by
  rcases lD g with⟨i,t,rfl,rfl⟩|⟨x,t,rfl,rfl⟩
  .rcases lD f with⟨j,u,rfl,e⟩|⟨y,u,rfl,e⟩
   .injection e with c _;rw[c]
   exact nomatch e
  rcases lD f with⟨j,u,rfl,e⟩|⟨y,u,rfl,e⟩
  .exact nomatch e
  injection e with c _;rw[c]
 byValue:=λk v h=>by rcases lD h with⟨i,t,rfl,rfl⟩|⟨x,t,rfl,rfl⟩<;>rfl
 pyHash:=λhv h=>by
  rcases lD hv with⟨i,t,rfl,rfl⟩|⟨x,t,rfl,rfl⟩
  .exact Hs h
  exact wpAny_pyHash_str h
 eqBool:=λl hv h=>by
  rcases lD l with⟨i,t,rfl,rfl⟩|⟨x,t,rfl,rfl⟩
  .rcases lD hv with⟨j,u,rfl,rfl⟩|⟨y,u,rfl,rfl⟩
   .rw[Pd]at h;exact wpAny_eqBool_int h
   rw[Pc]at h;exact SeqAt.EqAt.int_str i t y u _ _ _ _ h
  rcases lD hv with⟨j,u,rfl,rfl⟩|⟨y,u,rfl,rfl⟩
  .rw[Pb]at h;exact SeqAt.EqAt.str_int x t j u _ _ _ _ h
  rw[WS]at h;exact wpAny_eqBool_str h
 «strs»:=λk x t v h=>by
  rcases lD h with⟨i,u,rfl,e⟩|⟨y,u,rfl,e⟩
  .exact nomatch e
  injection e with c _
  subst c;cases v<;>rfl
def ady(a:jq)(w:jk)(i:Int)(t:u0):(ky a w).is (.inl i) (.int i t)=I:=afr i t
def adx(a:jq)(w:jk)(x:av)(t:u0):(ky a w).is (.inr x) (.str x t)=I:=afq x t
inductive V where
 |V0|bl(b:Bool)|int(i:Int)|str(x:av)|byt(b:Array UInt8)|flt(b:UInt64)|ref(a:iO)|ty(n:String)
 deriving DecidableEq
def RelV:V->iX->Prop
 |.V0,u=>u=au
 |.bl b,u=>u=dV b
 |.int i,u=>∃t,u=gB i t
 |.str x,u=>∃t,u=lA x t
 |.byt b,u=>∃t,u=Value.bytes b t
 |.flt b,u=>∃t,u=Value.float b t
 |.ref a,u=>u=bU a
 |.ty n,u=>u=ca n
abbrev Vals:List V->List iX->Prop:=Paired RelV
def Vals.length{xs:List V}{us:jW}(r:Vals xs us):(VP xs)=(VP us):=vt r
def Vals.get{xs:List V}{a:jW}{i:Nat}{x:V}(h:Vals xs a)(e:xs[i]?=Y x):∃u,a[i]?=Y u/\RelV x u:=by
 induction h generalizing i with
 |nil=>simp at e
 |cons r t b=>
  cases i with
  |zero=>simp at e;subst e;exact⟨_,rfl,r⟩
  |succ i=>simpa using b (by simpa using e)
theorem Vals.set{x:V}{u:iX}(r:RelV x u):∀{xs:List V}{us:jW}(i:Nat),Vals xs us->Vals (xs.set i x) (us.set i u)
 |_,_,_,.nil=>.nil
 |_,_,0,.cons _ t=>.cons r t
 |_,_,i+1,.cons q t=>.cons q (Vals.set r i t)
def Vals.append{c d:List V}{a b:jW}(h:Vals c a)(s:Vals d b):Vals (c++d) (a++b):=by
 induction h with
 |nil=>exact s
 |cons r t e=>exact .cons r e
theorem Vals.take:∀{xs:List V}{a:jW}(n:Nat),Vals xs a->Vals (xs.take n) (a.take n)
 |_,_,0,_=>.nil
 |_,_,_+1,.nil=>.nil
 |_,_,n+1,.cons r t=>.cons r (Vals.take n t)
theorem Vals.drop:∀{b:List V}{a:jW}(n:Nat),Vals b a->Vals (b.drop n) (a.drop n)
 |_,_,0,r=>r
 |_,_,_+1,.nil=>.nil
 |_,_,n+1,.cons _ t=>Vals.drop n t
def IB:Option V->Option iX->Prop
 |some v,Y u=>RelV v u
 |none,J=>True
 |_,_=>False
def KV{a:Type}:List (a×V)->List (a×iX)->Prop:=Paired λ(p:a×V) (q:a×iX)=>p.1=q.1/\RelV p.2 q.2
noncomputable def kV:Key->V
 |.inl i=>.int i
 |.inr x=>.str x
inductive HO where
 |lst(xs:List V)
 |tup(xs:List V)
 |dK(kvs:List (Key×V))|dT(kvs:List (List Key×V))
 |set (S:Int->Bool) (n:Nat)
 |AD (zs:List (Int×V))
 |ins (C dx:iO) (fs:List (av×V))
 |own (x:iO)
 |xd (fs:List (av×V))
 |met (f x:iO)
 |rng (lo hi:Int)
 |Bq (o:e6) (u:HO)
 |tbl (ps:nZ)
 |ext (φ:jn->Prop)
abbrev Hp:=iO->Option HO
noncomputable def upd(U:Hp)(a:iO)(o:HO):Hp:=λb=>if b=a then Y o else U b
def ju{U:Hp}{a:iO}{o:HO}:upd U a o a=Y o:=by unfold upd;rw[jh H]
def jx{U:Hp}{a b:iO}{o:HO}(h:b≠a):upd U a o b=U b:=by unfold upd;rw[jy h]
def IZ{U:Hp}{a:iO}{o u:HO}:upd (upd U a o) a u=upd U a u:=by funext b;unfold upd;split<;>rfl
def Uq{U:Hp}{a b:iO}{o u:HO}(h:U a=Y o)(c:U b=Y u)(d:o≠u):a≠b:=by intro e;subst e;rw[h]at c;exact d<|lg c
def lI{U:Hp}{a b:iO}{o:HO}(h:U a=Y o)(c:U b=J):a≠b:=by intro e;subst e;rw[h]at c;cases c
section
variable(P:jq)(w:jk)
def AA(Q:Hp)(h:jn)(a:iO):HO->Prop
 |.lst g=>VP g<=sizeLine/\∃(b:jW)(n:Nat),Vals g b/\h.get? a=Y {cls:=.type "list",data:=.seq b.toArray n}
 |.tup g=>VP g<=sizeLine/\∃b:List iX,Vals g b/\j3 h a b.toArray
 |.dK d=>VP d<=sizeLine/\(a==bK)=C/\∃k,KV d k/\h.DictOf (ky P w) a k
 |.dT d=>VP d<=sizeLine/\(a==bK)=C/\∃g:List (List Key×iO×iX),
   Paired (λ(p:List Key×V) (q:List Key×iO×iX)=>p.1=q.1/\Q q.2.1=Y (.tup<|p.1.map kV)/\RelV p.2 q.2.2) d g/\
   ∃o j U,h.get? a=Y o/\o.ExactDict/\o.data=.dict j U/\j.toList=g.map (sB<|cp<|ky P w)/\(g.map (·.1)).Nodup
 |.set S n=>h.SetOf (lw P w) a S n
 |.AD E=>∃(j:sy)(n:Nat)(t:mV),h.get? a=Y {cls:=.type "set",data:=.set j n t}/\Paired (λ(z:Int×V) (e:Int×iX)=>z.1=e.1/\RelV z.2 e.2) E j.toList/\
   TT.BQ (E.map (·.1)) t/\t.plain=I/\t.led=!w.params.followText "set-order"
 |.ins T l fs=>Q l=Y (.own a)/\(VP fs)<=1000/\l≠a/\h.get? a=Y (PySem.W.instObj T l)/\
   ∃i,h.Ns1 l i/\(∀f,IB (fs.lookup f)<|i f)/\PySem.Within i (fs.map (·.1))
 |.own _=>∃o,h.get? a=Y o
 |.xd fs=>∃i,h.Ns1 a i/\∀f,IB (fs.lookup f)<|i f
 |.rng lo L=>∃t u v,h.get? a=Y {cls:=.type "range",data:=.fields #[.int lo t,.int L u,.int 1 v]}
 |.Bq o u=>h.get? a=Y o/\AA Q h a u
 |.tbl O=>∃q t r,O[0]?=Y (.str q t)/\h.get? a=Y {cls:=.none,data:=.fields r}/\jt r.toList/\∀m y,eC m r.toList=Y y->∃c B u k t,y=.ref c/\Q c=Y (.Bq B u)/\B.data=.fields k/\k[1]?=Y (.str q t)
 |.met f x=>h.get? a=Y (eV (.ref f)<|.ref x)
 |.ext s=>s h/\(∃o,h.get? a=Y o)/\∀h1 A:jn,s h1->(∀o,h1.get? a=Y o->A.get? a=Y o)->s A
def Em(U:Hp)(h:jn):Prop:= ∀a o,U a=Y o->AA P w U h a o
end
section
variable {P:jq}{w:jk}{H g:Hp}{h h':jn}{a:iO}{o:HO}
def AA.lt(x:AA P w H h a o):a<h.objs.size:=by
 cases o with
 |lst c=>obtain⟨_,_,_,_,e⟩:=x;exact ki e
 |tup c=>obtain⟨_,_,_,p⟩:=x;exact p.lt
 |dK b=>obtain⟨_,_,_,_,o,_,_,e,_⟩:=x;exact ki e
 |dT b=>obtain⟨_,_,_,_,o,_,_,e,_⟩:=x;exact ki e
 |set S n=>obtain⟨o,_,_,_,e,_⟩:=x;exact ki e
 |AD l=>obtain⟨_,_,_,e,_⟩:=x;exact ki e
 |ins U d fs=>obtain⟨_,_,_,e,_⟩:=x;exact ki e
 |own y=>obtain⟨_,e⟩:=x;exact ki e
 |xd fs=>obtain⟨_,⟨_,_,_,e,_⟩,_⟩:=x;exact ki e
 |rng lo i=>obtain⟨_,_,_,e⟩:=x;exact ki e
 |Bq j u=>obtain⟨e,_⟩:=x;exact ki e
 |tbl k=>obtain⟨_,_,_,_,e,_⟩:=x;exact ki e
 |met f y=>exact ki (show h.get? a=Y _ from x)
 |ext m=>obtain⟨_,⟨_,e⟩,_⟩:=x;exact ki e
def Paired.Nq{e i:Type}{F G:e->i->Prop}{c:List e}{d:List i}(h:Paired F c d)(f:∀a b,F a b->G a b):Paired G c d:=by
 induction h with
 |nil=>exact .nil
 |cons r t j=>exact .cons (f _ _ r) j
def AA.BG(x:AA P w H h a o)(k:∀b u,(b=a\/H b=TW (.own a))->h.get? b=TW u->h'.get? b=TW u)
  (N:∀b,H b=TW (.own a)->g b=TW (.own a))(U:∀b A,H b=TW (.tup A)->g b=TW (.tup A))(Y:∀b i u,H b=TW (.Bq i u)->g b=TW (.Bq i u):=by exact λ_ _ _ q=>q):AA P w g h' a o:=by
 induction o with
 |lst A=>obtain⟨z,s,n,r,e⟩:=x;exact⟨z,s,n,r,k _ _ (.inl UV) e⟩
 |tup A=>obtain⟨z,s,r,i,e,c⟩:=x;exact⟨z,s,r,i,k _ _ (.inl UV) e,c⟩
 |dK B=>obtain⟨z,y,O,r,i,j,l,e,c⟩:=x;exact⟨z,y,O,r,i,j,l,k _ _ (.inl UV) e,c⟩
 |dT B=>obtain⟨z,y,A,r,i,j,l,e,c⟩:=x;exact⟨z,y,A,Paired.Nq r λp q z=>⟨z.1,U _ _ z.2.1,z.2.2⟩,i,j,l,k _ _ (.inl UV) e,c⟩
 |set S n=>obtain⟨i,j,l,t,e,c⟩:=x;exact⟨i,j,l,t,k _ _ (.inl UV) e,c⟩
 |AD zs=>obtain⟨j,n,t,e,c⟩:=x;exact⟨j,n,t,k _ _ (.inl UV) e,c⟩
 |ins C' dx fs=>obtain⟨d,z,ne,e,E,⟨I,j,l,G,c⟩,r⟩:=x;exact⟨N _ d,z,ne,k _ _ (.inl UV) e,E,⟨I,j,l,k _ _ (.inr d) G,c⟩,r⟩
 |own y=>obtain⟨i,e⟩:=x;exact⟨i,k _ _ (.inl UV) e⟩
 |xd fs=>obtain⟨E,⟨I,j,l,e,c⟩,r⟩:=x;exact⟨E,⟨I,j,l,k _ _ (.inl UV) e,c⟩,r⟩
 |rng lo hi=>obtain⟨t,u,v,e⟩:=x;exact⟨t,u,v,k _ _ (.inl UV) e⟩
 |Bq i u ih=>obtain⟨e,q⟩:=x;exact⟨k _ _ (.inl UV) e,ih q⟩
 |tbl ps=>obtain⟨q,t,D,T,e,F,m⟩:=x;exact⟨q,t,D,T,k _ _ (.inl UV) e,F,λL Q z=>let⟨c,i,u,O,t,h1,J',M⟩:=m L Q z;⟨c,i,u,O,t,h1,Y _ _ _ J',M⟩⟩
 |met f y=>have e:h.get? a=TW (eV (.ref f)<|.ref y):=x;show h'.get? a=TW (eV (.ref f)<|.ref y);exact k a _ (.inl UV) e
 |ext φ=>obtain⟨p,⟨o,e⟩,st⟩:=x;exact⟨st _ _ p λo q=>k _ _ (.inl UV) q,⟨o,k _ _ (.inl UV) e⟩,st⟩
def Em.lt(x:Em P w H h)(e:H a=Y o):a<h.objs.size:=(x a o e).lt
def Em.fresh(x:Em P w H h)(e:h.objs.size<=a):H a=J:=by
 cases q:H a with
 |none=>rfl
 |some u=>exact absurd (nY (x.lt q) e)<|pZ _
def Em.kept(x:Em P w H h)(k:∀b u,h.get? b=Y u->h'.get? b=Y u):Em P w H h':=λa o e=>(x a o e).BG (λb u _ q=>k b u q) (λ_ q=>q) λ_ _ q=>q
def Em.laid(x:Em P w H h)(k:∀b u,h.get? b=Y u->h'.get? b=Y u)(i:h.objs.size<=a)(new:AA P w (upd H a o) h' a o):Em P w (upd H a o) h':=λb u e=>by
 have d:=x.fresh i;by_cases f:b=a
 .subst f;rw[ju]at e;cases e;exact new
 rw[jx f]at e;exact(x b u e).BG (λc v _ q=>k c v q) (λc q=>by rw[jx<|lI q d];exact q) (λc xs q=>by rw[jx<|lI q d];exact q) λc _ _ q=>by rw[jx<|lI q d];exact q
end
def Rd(U:Hp)(a:iO)(u:HO):Prop:=U a=Y u\/∃o,U a=Y (.Bq o u)
def Rd.ok{P:jq}{w:jk}{U:Hp}{h:jn}{a:iO}{u:HO}(r:Rd U a u)(x:Em P w U h):AA P w U h a u:=by
 rcases r with r|⟨o,r⟩
 .exact x a u r
 obtain⟨_,q⟩:=x a _ r;exact q
def OH:Option HO->Prop
 |some (.lst _)=>True
 |some (.dK _)=>True
 |some (.dT _)=>True
 |some (.set _ _)=>True
 |some (.AD _)=>True
 |some (.ins _ _ _)=>True
 |some (.ext _)=>True
 |_=>False
section
variable {P:jq}{w:jk}{H:Hp}{h a:jn}{x e:iO}{d:HO}
def Em.write(ok:Em P w H h)(g:OH (H x))(o:e=x\/H e=Y (.own x))(k:∀b u,b≠e->h.get? b=Y u->a.get? b=Y u)(s:∃u,a.get? e=Y u)
  (new:AA P w (upd H x d) a x d):Em P w (upd H x d) a:=λb u q=>by
 have f:∀c y,H c=Y (.own y)->c≠x:=λc y r z=>by subst z;rw[r]at g;exact g
 have i:∀c n,H c=Y (.tup n)->c≠x:=λc n r z=>by subst z;rw[r]at g;exact g
 by_cases l:b=x
 .subst l;rw[ju]at q;cases q;exact new
 rw[jx l]at q;by_cases j:b=e
 .have p:H b=Y (.own x):=by
   rcases o with z|z
   .exact absurd (j.trans z) l
   rw[j];exact z
  rw[q]at p;cases p;obtain⟨v,hv⟩:=s;exact⟨v,by rw[j];exact hv⟩
 refine(ok b u q).BG (λc v m r=>k c v ?_ r) (λc r=>by rw[jx<|f c b r];exact r) (λc n r=>by rw[jx<|i c n r];exact r) λc _ _ r=>by rw[jx λz=>by subst z;rw[r]at g;exact g];exact r
 rcases m with rfl|m
 .exact j
 rintro rfl;rcases o with z|z
 .exact f c b m z
 rw[m]at z;cases z;exact l UV
end
structure Un(fs ex:kW)(H H':Hp)(h h':jn):Prop where
 keep:∀b o,h.get? b=TW o->H b=T2->b∉fs->b∉ex->h'.get? b=TW o
 slot:∀b o,h.get? b=TW o->H b=T2->b∈fs->b∉ex->∃sl,h'.get? b=TW {o with slots:=sl}
 free:∀b o,h.get? b=TW o->H b=T2->b∉ex->H' b=T2
 there:∀b o,h.get? b=TW o->b∉ex->∃o',h'.get? b=TW o'
 tups:∀b xs,H b=TW (.tup xs)->H' b=TW (.tup xs)
 frzs:∀b o u,H b=TW (.Bq o u)->H' b=TW (.Bq o u)
 tbls:∀b ps,H b=TW (.tbl ps)->∃more,H' b=TW (.tbl<|ps++more)
section
variable {fs c ex d:kW}{H f i:Hp}{h h1 g h':jn}{a x e:iO}{o:HO}
def Un.any(u:Un fs ex H f h h1){b:iO}{j:e6}(q:h.get? b=Y j)(n:H b=J)(l:b∉ex):∃m,h1.get? b=Y {j with slots:=m}:=by
 by_cases k:b∈fs
 .exact u.slot b j q n k l
 exact⟨j.slots,u.keep b j q n k l⟩
def Un.kept(k:∀b u,h.get? b=Y u->h'.get? b=Y u):Un fs ex H H h h':=
 ⟨λb j q _ _ _=>k b j q,λb j q _ _ _=>⟨j.slots,k b j q⟩,λ_ _ _ n _=>n,λb j q _=>⟨j,k b j q⟩,λ_ _ q=>q,λ_ _ _ q=>q,λ_ l q=>⟨#[],by rw[q];simp⟩⟩
def Un.refl:Un fs ex H H h h:=Un.kept λ_ _ q=>q
def Un.laid(k:∀b u,h.get? b=Y u->h'.get? b=Y u)(r:h.objs.size<=a)(j:H a=J):Un fs ex H (upd H a o) h h' where
 keep:=λb u q _ _ _=>k b u q
 slot:=λb u q _ _ _=>⟨u.slots,k b u q⟩
 free:=λb u q n _=>by rw[jx<|kI<|nY (ki q) r];exact n
 there:=λb u q _=>⟨u,k b u q⟩
 tups:=λb xs q=>by rw[jx<|lI q j];exact q
 frzs:=λb u xs q=>by rw[jx<|lI q j];exact q
 tbls:=λb s q=>⟨#[],by rw[jx<|lI q j,q];simp⟩
def Un.write(j:OH (H x))(v:e=x\/H e=Y (.own x))(k:∀b u,b≠e->h.get? b=Y u->h'.get? b=Y u)(t:∃u,h'.get? e=Y u):Un fs ex H (upd H x o) h h':=by
 have s:∀b,H b=J->b≠x:=λb n z=>by subst z;rw[n]at j;exact j
 have p:∀b,H b=J->b≠e:=λb n z=>by
  subst z;rcases v with r|r
  .exact s b n r
  rw[n]at r;cases r
 have l:∀b u,H b=Y u->¬OH (Y u)->b≠x:=λb u q w z=>by subst z;rw[q]at j;exact w j
 refine⟨λb u q n _ _=>k b u (p b n) q,λb u q n _ _=>⟨u.slots,k b u (p b n) q⟩,λb u q n _=>by rw[jx<|s b n];exact n,λb u q _=>?_,
  λb y q=>by rw[jx<|l b _ q λz=>z];exact q,λb u y q=>by rw[jx<|l b _ q λz=>z];exact q,λb A q=>⟨#[],by rw[jx<|l b _ q λz=>z,q];simp⟩⟩
 by_cases m:b=e
 .subst m;exact t
 exact⟨u,k b u m q⟩
end
noncomputable def OY(h:jn)(U:Hp):List Addr:=(aj h.objs.size).filter λa=>(U a).isSome
def BN(h:jn)(U:Hp):Heap:=PySem.W.hideAll h<|OY h U
def aeW(h:jn)(U:Hp):(BN h U).objs.size=h.objs.size:=PySem.W.hideAll_size _ _
def Pp{h:jn}{U:Hp}{b:iO}{o:e6}(e:h.get? b=Y o)(n:U b=J):(BN h U).get? b=Y o:=
 PySem.W.hideAll_get _ e λa=>by have q:(U b).isSome=I:=(ES.mp a).2;rw[n]at q;simp at q
def Si{h:jn}{U:Hp}{b:iO}{o:e6}(e:(BN h U).get? b=Y o):h.get? b=Y o/\U b=J:=by
 have a:h.get? b=Y o:=PySem.W.of_hideAll (OY h U) e;refine⟨a,?_⟩
 cases q:U b with
 |none=>rfl
 |some x=>have c:b∈OY h U:=ES.mpr ⟨vP.mpr<|ki a,by simp[q]⟩;have z:(BN h U).get? b=J:=PySem.W.hideAll_none (OY h U) c;rw[z]at e;cases e
structure Mod(K:jr)(mg:lJ)(base:jn):Prop where
 kin:K.In base
 glob:base.Ns ap mg
 blt:∃mb,base.Ns gX mb/\∀x:av,x≠"__name__"->mb x=ax x
 nolimit:base.NoLimit
structure Cx where
 prog:jq
 w:jk
 K:jr
 mg:av->Option iX
 base:jn
 A:jm
 N:List av
 s₀:Shared
 H₀:Hp
 env:dG
 outer:List dG
 stack:List dG
 ex:List iO
 fn:av->Bool
 calm:Bool
 pn:List (iO×e6)
 xe:iX->Shared->Prop
noncomputable def Ex(l:List dG):List Addr:=l.filterMap (·.frame)
abbrev Cx.fs(X:Cx):List Addr:=Ex X.outer
def NG(a:jS)(x:av):Prop:=a.names.lookup x=Y .local\/a.names.lookup x=Y .cell\/a.names.lookup x=Y .free
def Loc(a:jS)(x:av):Prop:=a.names.lookup x=Y .local\/a.names.lookup x=Y .cell
def acf(a:dG)(h:jn)(m:lJ)(x:av)(u:iX):Prop:=
 (a.kindOf x=Y .local/\m x=Y u)\/((a.kindOf x=Y .cell\/a.kindOf x=Y .free)/\∃c,a.cells.lookup x=Y c/\h.IsCell c (Y u))
structure Cx.Ok(X:Cx):Prop where
 mod:Mod X.K X.mg X.base
 kind:X.env.scope.kind=.function
 glob:X.env.globals=ap
 blt:X.env.builtins=gX
 above:X.s₀.heap.objs.size<=X.env.locals
 inj:∀x y c,X.env.cells.lookup x=TW c->X.env.cells.lookup y=TW c->x=y
 has:∀x,(X.env.kindOf x=TW .cell\/X.env.kindOf x=TW .free)->∃c,X.env.cells.lookup x=TW c
 cab:∀x c,X.fn x=Uf->X.env.cells.lookup x=TW c->X.s₀.heap.objs.size<=c
 hd:X.calm=Uf->X.A.handled=T2
 frames:X.A.frames=TW X.stack
 stk:X.stack=X.outer\/(X.stack=X.env::X.outer/\X.env.frame=TW X.env.locals)
 exf:∀b∈X.ex,b≠X.env.locals/\∀x c,X.env.cells.lookup x=TW c->c≠b
 bs:∀b o,X.base.get? b=TW o->X.s₀.heap.get? b=TW o/\X.H₀ b=T2
 bsz:X.base.objs.size<=X.s₀.heap.objs.size
 noex:∀b o,X.base.get? b=TW o->b∉X.ex
 exfs:∀b∈X.ex,b∉X.fs
 Ew:X.s₀.heap.FunFrames X.base X.outer
 frf:∀b∈X.fs,X.H₀ b=T2
structure Inv(X:Cx)(pins:jK)(σ:List (Option V))(H:Hp)(s:iT):Prop where
 ok:X.Ok
 os:s.os=X.s₀.os
 bare:el s.gens
 base:Un X.fs X.ex X.H₀ H X.s₀.heap s.heap
 loc:∃m,s.heap.Ns X.env.locals m/\∀(i:Nat)(x:av)(v:V),X.N[i]?=TW x->σ[i]?=TW (TW v)->NG X.env.scope x->∃u,RelV v u/\acf X.env s.heap m x u
 cell:∀x c,X.env.cells.lookup x=TW c->∃v,s.heap.IsCell c v
 free:H X.env.locals=T2
 freeC:∀x c,X.env.cells.lookup x=TW c->H c=T2
 pin:∀p∈X.pn++pins,s.heap.get? p.1=TW p.2/\H p.1=T2/\p.1≠X.env.locals/\p.1∉X.fs/\∀v,p.2.data≠ .cell v
 hok:Em X.prog X.w H s.heap
 len:(VP σ)=X.N.length
section
variable {X:Cx}{f:jK}{g:List (Option V)}{H H':Hp}{s:iT}{h':jn}
def Cx.Ok.nofr(ok:X.Ok){b:iO}{o:e6}(e:X.base.get? b=Y o):b∉X.fs:=λa=>by have:=(ok.Ew.mem a).1;rw[e]at this;cases this
def Inv.bs(U:Inv X f g H s):∀b o,X.base.get? b=Y o->s.heap.get? b=Y o/\H b=J:=λb o e=>⟨U.base.keep b o (U.ok.bs b o e).1 (U.ok.bs b o e).2 (U.ok.nofr e)<|U.ok.noex b o e,U.base.free b o (U.ok.bs b o e).1 (U.ok.bs b o e).2<|U.ok.noex b o e⟩
def Inv.bk(U:Inv X f g H s):∀b o,X.base.get? b=Y o->s.heap.get? b=Y o:=λb o e=>(U.bs b o e).1
def Inv.mod(U:Inv X f g H s):Mod X.K X.mg X.base:=U.ok.mod
def Inv.FU(U:Inv X f g H s):X.K.In s.heap:=U.ok.mod.kin.keeps U.bk
def Inv.lt(U:Inv X f g H s):X.env.locals<s.heap.objs.size:=let⟨_,a,_⟩:=U.loc;a.lt
def Inv.sz(U:Inv X f g H s):X.s₀.heap.objs.size<=s.heap.objs.size:=lV U.ok.above<|wc U.lt
def Inv.Nl(U:Inv X f g H s){a:iO}(h:s.heap.objs.size<=a):a∉X.fs:=λb=>by obtain⟨_,o,c,_⟩:=U.ok.Ew.mem b;exact absurd (nY (ki c)<|lV U.sz h)<|pZ _
def Inv.LG(U:Inv X f g H s):∀x c,X.env.cells.lookup x=Y c->c≠X.env.locals:=λx c e z=>by obtain⟨v,o,a,hd⟩:=U.cell x c e;obtain⟨m,⟨j,i,h,b,d,_⟩,_⟩:=U.loc;rw[z,b]at a;cases a;rw[d]at hd;cases hd
def Inv.Ew(U:Inv X f g H s):s.heap.FunFrames X.base X.outer:=by
 have all:∀(l:List dG),(∀b∈Ex l,b∈X.fs)->X.s₀.heap.FunFrames X.base l->s.heap.FunFrames X.base l:=by
  intro l
  induction l with
  |nil=>intro _ _;trivial
  |cons i r p=>intro h j;obtain⟨hk,⟨L,o,d,k,m,hd⟩,n⟩:=j;have a:L∈X.fs:=h L (by unfold Ex;rw[uO,d];exact kx);obtain⟨q,e⟩:=U.base.slot L o m (U.ok.frf L a) a λz=>U.ok.exfs L z a;exact⟨hk,⟨L,_,d,k,e,hd⟩,p (λb c=>h b<|by unfold Ex;rw[uO,d];exact kE _ c) n⟩
 exact all X.outer (λ_ c=>c) U.ok.Ew
def Inv.stack(U:Inv X f g H s):s.heap.FunFrames X.base X.stack:=by
 rcases U.ok.stk with e|⟨e,hf⟩
 .rw[e];exact U.Ew
 rw[e];obtain⟨m,a,_⟩:=U.loc;refine .cons (by rw[U.ok.kind];decide) hf a ?_ U.Ew;exact Heap.get?_none_of_le<|lV U.ok.bsz U.ok.above
def Inv.HL(U:Inv X f g H s):∀b∈Ex X.stack,b∈X.env.locals::X.fs:=λb a=>by
 rcases U.ok.stk with e|⟨e,hf⟩
 .rw[e]at a;exact kE _ a
 rw[e]at a;unfold Ex at a;rw[uO,hf]at a;exact a
def Inv.HD(U:Inv X f g H s):∀b∈Ex X.stack,H b=J:=λb a=>by
 rcases nH.mp (U.HL b a)with e|a
 .rw[e];exact U.free
 obtain⟨_,o,c,_⟩:=U.ok.Ew.mem a;exact U.base.free b o c (U.ok.frf b a) λz=>U.ok.exfs b z a
def Inv.step{g':Array eD}{t':Nat}{d':Drawn}{ch:kW}(I:Inv X f g H s)
  (C:∀b∈ch,(b∈X.ex\/X.s₀.heap.objs.size<=b)/\b≠X.env.locals/\(∀x c,X.env.cells.lookup x=TW c->c≠b)/\∀p∈X.pn++f,p.1≠b)
  (keep:∀b o,b≠X.env.locals->b∉X.fs->b∉ch->s.heap.get? b=TW o->H b=T2->h'.get? b=TW o)
  (slot:∀b o,b≠X.env.locals->b∈X.fs->b∉ch->s.heap.get? b=TW o->H b=T2->∃U,h'.get? b=TW {o with slots:=U})(free:∀b o,b∉ch->s.heap.get? b=TW o->H b=T2->H' b=T2)
  (there:∀b o,b∉ch->s.heap.get? b=TW o->∃Q,h'.get? b=TW Q)
  (G:∀b t,H b=TW (.tup t)->H' b=TW (.tup t))(L:∀b o u,H b=TW (.Bq o u)->H' b=TW (.Bq o u))(T:∀b M,H b=TW (.tbl M)->∃more,H' b=TW (.tbl<|M++more))
  (ns:∀m,s.heap.Ns X.env.locals m->h'.Ns X.env.locals m)(N:Em X.prog X.w H' h')(hg:el g'):
  Inv X f g H' {s with heap:=h',gens:=g',drawn:=d',toks:=t'}:=by
 have O:∀b o,X.s₀.heap.get? b=TW o->b≠X.env.locals:=λb o e=>kI<|nY (ki e) I.ok.above
 have J:∀b o,X.s₀.heap.get? b=TW o->b∉X.ex->b∉ch:=λb o e a y=>by
  rcases(C b y).1 with z|z
  .exact a z
  exact absurd (nY (ki e) z) (pZ _)
 have h:∀x c,X.env.cells.lookup x=TW c->∀v,s.heap.IsCell c v->h'.IsCell c v:=λx c e v a'=>by
  obtain⟨o,A,hd⟩:=a'
  have B:c∉ch:=λz=>(C c z).2.2.1 x c e UV;by_cases Y:c∈X.fs
  .obtain⟨U,q⟩:=slot c o (I.LG x c e) Y B A<|I.freeC x c e;exact⟨_,q,hd⟩
  exact⟨o,keep c o (I.LG x c e) Y B A<|I.freeC x c e,hd⟩
 refine⟨I.ok,I.os,hg,⟨λb o e n y a=>?_,λb o e n y a=>?_,λb o e n a=>?_,λb o e a=>?_,λb t e=>G b t<|I.base.tups b t e,λb o t e=>L b o t<|I.base.frzs b o t e,λb M e=>?_⟩,?_,λx c e=>?_,?_,λx c e=>?_,λp D=>?_,N,I.len⟩
 .exact keep b o (O b o e) y (J b o e a) (I.base.keep b o e n y a) (I.base.free b o e n a)
 .obtain⟨U,j⟩:=I.base.slot b o e n y a;obtain⟨P,E⟩:=slot b _ (O b o e) y (J b o e a) j (I.base.free b o e n a);exact⟨P,E⟩
 .obtain⟨Q,j⟩:=I.base.there b o e a;exact free b Q (J b o e a) j<|I.base.free b o e n a
 .obtain⟨Q,j⟩:=I.base.there b o e a;exact there b Q (J b o e a) j
 .obtain⟨V,j⟩:=I.base.tbls b M e;obtain⟨W,E⟩:=T b _ j;exact⟨V++W,by rw[E,Hr]⟩
 .obtain⟨m,S,R⟩:=I.loc;refine⟨m,ns m S,λi x v j E K=>?_⟩;obtain⟨u,r,l⟩:=R i x v j E K;refine⟨u,r,?_⟩;rcases l with l|⟨k,c,e,z⟩
  .exact .inl l
  exact .inr ⟨k,c,e,h x c e _ z⟩
 .obtain⟨v,z⟩:=I.cell x c e;exact⟨v,h x c e v z⟩
 .obtain⟨m,⟨o,_,_,A,_⟩,_⟩:=I.loc;exact free _ o (λz=>(C _ z).2.1 UV) A I.free
 .obtain⟨v,o,A,hd⟩:=I.cell x c e;exact free c o (λz=>(C c z).2.2.1 x c e UV) A<|I.freeC x c e
 obtain⟨e,n,ne,F,d⟩:=I.pin p D;have B:p.1∉ch:=λz=>(C p.1 z).2.2.2 p D UV;exact⟨keep p.1 p.2 ne F B e n,free p.1 p.2 B e n,ne,F,d⟩
def Inv.un{t':Nat}(U:Inv X f g H s)(u:Un X.fs [] H H' s.heap h')(d:Em X.prog X.w H' h'):Inv X f g H' {s with heap:=h',toks:=t'}:=by
 obtain⟨m,⟨o,t,q,i,r⟩,_⟩:=id U.loc;obtain⟨y,k⟩:=u.any i U.free (by simp)
 exact U.step (g':=s.gens) (d':=s.drawn) (ch:=[]) (λ_ z=>nomatch z) (λb o _ c _ e n=>u.keep b o e n c<|by simp) (λb o _ c _ e n=>u.slot b o e n c<|by simp) (λb o _ e n=>u.free b o e n<|by simp) (λb o _ e=>u.there b o e<|by simp) u.tups u.frzs u.tbls (λv l=>by obtain⟨x,a,j,h,p⟩:=l;rw[i]at h;cases h;exact⟨_,a,j,k,p⟩) d U.bare
def Inv.call{g':Array eD}{t':Nat}{d':Drawn}{ch:kW}(U:Inv X f g H s)(u:Un (Ex X.stack) ch H H' s.heap h')(i:Em X.prog X.w H' h')(v:el g')
  (k:∀b∈ch,(b∈X.ex\/X.s₀.heap.objs.size<=b)/\b≠X.env.locals/\(∀x c,X.env.cells.lookup x=Y c->c≠b)/\∀p∈X.pn++f,p.1≠b):
  Inv X f g H' {s with heap:=h',gens:=g',drawn:=d',toks:=t'}:=by
 obtain⟨m,⟨o,T,B,l,r⟩,_⟩:=id U.loc;obtain⟨O,h⟩:=u.any l U.free λz=>(k _ z).2.1 UV
 exact U.step (ch:=ch) k (λb o h t a e n=>u.keep b o e n (λz=>(nH.mp<|U.HL b z).elim h t) a) (λb o _ _ a e n=>u.any e n a) (λb o a e n=>u.free b o e n a) (λb o a e=>u.there b o e a) u.tups u.frzs u.tbls (λE y=>by obtain⟨L,d,q,j,A⟩:=y;rw[l]at j;cases j;exact⟨_,d,q,h,A⟩) i v
def Inv.turned{t':Nat}{it:iO}(U:Inv X f g H s)(k:∀b o,b≠it->s.heap.get? b=Y o->h'.get? b=Y o)(A:H it=J)(h:it≠X.env.locals)
  (h1:it∈X.ex\/X.s₀.heap.objs.size<=it)(l:∀x c,X.env.cells.lookup x=Y c->c≠it)(t:∀p∈X.pn++f,p.1≠it):Inv X f g H {s with heap:=h',toks:=t'}:=by
 have d:∀b u,H b=Y u->b≠it:=λb u e z=>by rw[z,A]at e;cases e
 refine U.step (g':=s.gens) (d':=s.drawn) (ch:=[it]) (λb w=>?_) (λb o _ _ a e _=>k b o (λz=>a<|by simp[z]) e) (λb o _ _ a e _=>⟨o.slots,k b o (λz=>a<|by simp[z]) e⟩) (λ_ _ _ _ n=>n)
  (λb o a e=>⟨o,k b o (λz=>a<|by simp[z]) e⟩) (λ_ _ e=>e) (λ_ _ _ e=>e) (λb T e=>⟨#[],by rw[e];simp⟩) (λm y=>?_) (λb u e=>?_) U.bare
 .have e:b=it:=by simpa using w
  subst e;exact⟨h1,h,l,t⟩
 .obtain⟨o,j,i,B,r⟩:=y;exact⟨o,j,i,k _ o (pz h) B,r⟩
 refine(U.hok b u e).BG (λc v a q=>k c v ?_ q) (λ_ q=>q) λ_ _ q=>q;rcases a with z|z
 .rw[z];exact d b u e
 exact d c _ z
def Inv.tok(U:Inv X f g H s)(t:Nat):Inv X f g H {s with toks:=t}:=U.un (h':=s.heap) (t':=t) Un.refl U.hok
def Inv.kept{t':Nat}(U:Inv X f g H s)(k:∀b u,s.heap.get? b=Y u->h'.get? b=Y u):Inv X f g H {s with heap:=h',toks:=t'}:=U.un (Un.kept k)<|U.hok.kept k
def Inv.laid{a:iO}{o:HO}{t':Nat}(U:Inv X f g H s)(k:∀b u,s.heap.get? b=Y u->h'.get? b=Y u)(c:s.heap.objs.size<=a)(new:AA X.prog X.w (upd H a o) h' a o):
  Inv X f g (upd H a o) {s with heap:=h',toks:=t'}:=U.un (Un.laid k c<|U.hok.fresh c)<|U.hok.laid k c new
def Inv.write{x e:iO}{o:HO}{h:Nat}(U:Inv X f g H s)(d:OH (H x))(c:e=x\/H e=Y (.own x))(k:∀b u,b≠e->s.heap.get? b=Y u->h'.get? b=Y u)(a:∃u,h'.get? e=Y u)
  (new:AA X.prog X.w (upd H x o) h' x o):Inv X f g (upd H x o) {s with heap:=h',toks:=h}:=U.un (Un.write d c k a)<|U.hok.write d c k a new
def Inv.IG{a:jK}(U:Inv X f g H s)(h:∀p∈a,s.heap.get? p.1=Y p.2/\H p.1=J/\p.1≠X.env.locals/\p.1∉X.fs/\∀v,p.2.data≠ .cell v):Inv X a g H s:=
 ⟨U.ok,U.os,U.bare,U.base,U.loc,U.cell,U.free,U.freeC,λp b=>(rq.mp b).elim (λz=>U.pin p<|DJ _ z)<|h p,U.hok,U.len⟩
def AF{N:jB}(e:N.Nodup){i j:Nat}{x:av}(a:N[i]?=Y x)(b:N[j]?=Y x):i=j:=by obtain⟨h1,c⟩:=uI.mp a;obtain⟨h,d⟩:=uI.mp b;exact(DI e).mp (c.trans d.symm)
def aex{M:gi}{A:jm}{E:jG}{i:Nat}{x:av}{v:V}{u:iX}{Q:Unit->Shared->Prop}(I:Inv X f g H s)(hN:X.N.Nodup)(J:X.N[i]?=TW x)(L:Loc X.env.scope x)(r:RelV v u)
  (h:∀s',Inv X f (g.set i<|TW v) H s'->(∃a,aE a s.heap s'.heap/\(a=X.env.locals\/X.env.cells.lookup x=TW a))->Q () s')(hf:X.fn x=Uf\/X.env.scope.names.lookup x=TW .local:=by first|exact .inl rfl|exact .inr rfl|assumption):ah M A (storeName X.env x u) Q E s:=by
 obtain⟨m,P,hl⟩:=id I.loc;have bO:(X.env.scope.kind== .class||(X.env.scope.kind== .module&&X.env.locals !=X.env.globals))=UF:=by rw[I.ok.kind];rfl
 have fJ:i<(VP g):=by rw[I.len];exact(uI.mp J).1
 have LG:=I.LG
 have B:∀{a:iO}{h':jn},(∃o,s.heap.get? a=TW o/\H a=T2)->aE a s.heap h'->Em X.prog X.w H h':=λ{a h'} ha l b ob e=>by
  obtain⟨_,_,k8⟩:=ha;refine(I.hok b ob e).BG (λc D C q=>(l.2 c ?_).trans q) (λ_ q=>q) λ_ _ q=>q;rintro rfl;rcases C with rfl|C
  .rw[k8]at e;cases e
  rw[k8]at C;cases C
 rcases L with hk|hk
 .refine M5 hk P (λh' bp l=>?_) bO;obtain⟨oL,_,_,fG,_⟩:=id P;refine h _ ⟨I.ok,I.os,I.bare,⟨λb o e n T L=>?_,λb o e n T L=>?_,I.base.free,λb o e L=>?_,I.base.tups,I.base.frzs,I.base.tbls⟩,⟨_,bp,λj y v' t O K=>?_⟩,λy c e=>?_,I.free,I.freeC,λp R=>?_,B ⟨oL,fG,I.free⟩ l,by simpa using I.len⟩ ⟨_,l,.inl UV⟩
  .exact(l.2 b<|kI<|nY (ki e) I.ok.above).trans (I.base.keep b o e n T L)
  .obtain⟨sl,t⟩:=I.base.slot b o e n T L;exact⟨sl,(l.2 b<|kI<|nY (ki e) I.ok.above).trans t⟩
  .obtain⟨W,t⟩:=I.base.there b o e L;exact⟨W,(l.2 b<|kI<|nY (ki e) I.ok.above).trans t⟩
  .by_cases G:j=i
   .subst G;rw[J]at t;cases t;rw[oB fJ]at O;cases O;exact⟨u,r,.inl ⟨hk,by simp⟩⟩
   rw[oP<|pz G]at O;obtain⟨u',Z,q⟩:=hl j y v' t O K;refine⟨u',Z,?_⟩;rcases q with⟨k,e⟩|⟨k,c,e,z⟩
   .refine .inl ⟨k,?_⟩;have:y≠x:=λe=>G<|AF hN t<|e▸J;simp[this,e]
   exact .inr ⟨k,c,e,z.sameBut l<|LG y c e⟩
  .obtain⟨D,z⟩:=I.cell y c e;exact⟨D,z.sameBut l<|LG y c e⟩
  obtain⟨e,n,ne,S,d⟩:=I.pin p R;exact⟨(l.2 p.1 ne).trans e,n,ne,S,d⟩
 have F:X.fn x=Uf:=by
  rcases hf with z|z
  .exact z
  rw[z]at hk;cases hk
 obtain⟨c,C⟩:=I.ok.has x<|.inl hk;obtain⟨D,z⟩:=I.cell x c C;refine wpAny_storeName_cell I.ok.kind hk C z λh' cq l=>?_;obtain⟨oc,eh,U⟩:=id z;refine h {s with heap:=h'} ⟨I.ok,I.os,I.bare,⟨λb o e n T L=>?_,λb o e n T L=>?_,I.base.free,λb o e L=>?_,I.base.tups,I.base.frzs,I.base.tbls⟩,⟨m,P.sameBut l<|pz<|LG x c C,λj y v' t O K=>?_⟩,λy Y e=>?_,I.free,I.freeC,λp R=>?_,B ⟨oc,eh,I.freeC x c C⟩ l,by simpa using I.len⟩ ⟨c,l,.inr C⟩
 .exact(l.2 b<|kI<|nY (ki e)<|I.ok.cab x c F C).trans (I.base.keep b o e n T L)
 .obtain⟨sl,t⟩:=I.base.slot b o e n T L;exact⟨sl,(l.2 b<|kI<|nY (ki e)<|I.ok.cab x c F C).trans t⟩
 .obtain⟨W,t⟩:=I.base.there b o e L;exact⟨W,(l.2 b<|kI<|nY (ki e)<|I.ok.cab x c F C).trans t⟩
 .by_cases G:j=i
  .subst G;rw[J]at t;cases t;rw[oB fJ]at O;cases O;exact⟨u,r,.inr ⟨.inl hk,c,C,cq⟩⟩
  rw[oP<|pz G]at O;obtain⟨u',Z,q⟩:=hl j y v' t O K;refine⟨u',Z,?_⟩;rcases q with q|⟨k,Y,e,z'⟩
  .exact .inl q
  refine .inr ⟨k,Y,e,z'.sameBut l ?_⟩;rintro rfl;exact G<|AF hN t<|I.ok.inj _ _ _ e C▸J
 .by_cases fM:Y=c
  .subst fM;exact⟨_,cq⟩
  obtain⟨w2,z2⟩:=I.cell y Y e;exact⟨w2,z2.sameBut l fM⟩
 obtain⟨e,n,ne,S,d⟩:=I.pin p R;refine⟨(l.2 p.1 ?_).trans e,n,ne,S,d⟩;intro q;rw[q,eh]at e;have q':oc=p.2:=lg e;exact d D (by rw[<-q'];exact U)
def Al{M:gi}{A:jm}{E:jG}{i:Nat}{x:av}{v:V}{u:iX}{Q:Unit->Shared->Prop}(U:Inv X f g H s)(c:X.N.Nodup)(e:X.N[i]?=Y x)(j:Loc X.env.scope x)(r:RelV v u)
  (h:∀a,Inv X f (g.set i<|Y v) H a->Q () a)(d:X.fn x=I\/X.env.scope.names.lookup x=Y .local:=by first|exact .inl rfl|exact .inr rfl|assumption):ah M A (storeName X.env x u) Q E s:=
 aex U c e j r (λa b _=>h a b) d
def Inv.Ld{s':iT}{ch:kW}(U:Inv X f g H s)(i:s'.os=s.os)(u:Un (Ex X.stack) ch H H' s.heap s'.heap)(a:Em X.prog X.w H' s'.heap)(h:el s'.gens)
  (d:∀b∈ch,(b∈X.ex\/X.s₀.heap.objs.size<=b)/\b≠X.env.locals/\(∀x c,X.env.cells.lookup x=Y c->c≠b)/\∀p∈X.pn++f,p.1≠b):Inv X f g H' s':=by
 obtain⟨h',g',d',t',j⟩:=s';have e:j=s.os:=i;subst e;exact U.call (g':=g') (t':=t') (d':=d') u a h d
end
abbrev XK:=iX->Option iO->Hp->Prop
abbrev St:=List<|Option V
abbrev VK:=V->Hp->Prop
abbrev TE:=St->Hp->VK->Prop
abbrev TT:=St->Hp->(Bool->Hp->Prop)->Prop
abbrev TA:=St->Hp->(List V->Hp->Prop)->Prop
structure Ends where
 nx:St->Hp->Prop
 rt:VK
 bk:St->Hp->Prop:=λ_ _=>False
 ct:St->Hp->Prop:=λ_ _=>False
abbrev TS:=Ends->St->Hp->Prop
inductive EP(X:Cx)(pins:jK)(σ:St)(Q:VK)(u:iX)(s':iT):Prop where
 |mk (v:V) (H':Hp) (_:Inv X pins σ H' s') (_:RelV v u) (_:Q v H')
inductive TP(X:Cx)(pins:jK)(σ:St)(Q:Bool->Hp->Prop)(b:Bool)(s':iT):Prop where
 |mk (H':Hp) (_:Inv X pins σ H' s') (_:Q b H')
inductive AP(X:Cx)(pins:jK)(σ:St)(Q:List V->Hp->Prop)(us:jW)(s':iT):Prop where
 |mk (vs:List V) (H':Hp) (_:Inv X pins σ H' s') (_:Vals vs us) (_:Q vs H')
def SP(X:Cx)(b:jK)(D:Ends)(f:Flow)(d:iT):Prop:=
 match f with
 |.next=>∃a c,Inv X b a c d/\D.nx a c
 |.brk=>∃a c,Inv X b a c d/\D.bk a c
 |.cont=>∃a c,Inv X b a c d/\D.ct a c
 |.ret u=>∃v a c,Inv X b a c d/\RelV v u/\D.rt v c
def PE(X:Cx)(e:iW)(t:TE):Prop:=
 ∀(a:jK)(s:iT)(b:St)(U:Hp)(Q:VK),Inv X a b U s->t b U Q->ah (ai X.prog X.w) X.A (aX e X.env) (EP X a b Q) X.xe s
def PT(X:Cx)(e:iW)(t:TT):Prop:=
 ∀(a:jK)(s:iT)(b:St)(U:Hp)(Q:Bool->Hp->Prop),Inv X a b U s->t b U Q->ah (ai X.prog X.w) X.A (isTrue e X.env<|aX e X.env) (TP X a b Q) X.xe s
def PW(X:Cx)(e:iW)(t:TT):Prop:=
 ∀(b:dW iX)(a:jK)(s:iT)(c:St)(U:Hp)(Q:Bool->Hp->Prop),Inv X a c U s->t c U Q->ah (ai X.prog X.w) X.A (isTrue e X.env b) (TP X a c Q) X.xe s
def PW.pt{X:Cx}{e:iW}{t:TT}(h:PW X e t):PT X e t:=h _
def PA(X:Cx)(d:kr)(t:TA):Prop:=
 ∀(b:bn)(a:jK)(s:iT)(c:St)(U:Hp)(Q:List V->Hp->Prop),Inv X a c U s->t c U Q->ah (ai X.prog X.w) X.A (t9<|aI b<|ae d X.env) (AP X a c Q) X.xe s
def PS(X:Cx)(st:bh)(t:TS):Prop:=
 ∀(a:jK)(s:iT)(b:St)(U:Hp)(D:Ends),Inv X a b U s->t D b U->ah (ai X.prog X.w) X.A (exec st X.env) (SP X a D) X.xe s
def Hw(X:Cx)(st:List bh)(t:TS):Prop:=
 ∀(a:jK)(s:iT)(b:St)(U:Hp)(D:Ends),Inv X a b U s->t D b U->ah (ai X.prog X.w) X.A (execs st X.env) (SP X a D) X.xe s
def Ak{c:Type}{t:dW c}{Q b:c->Shared->Prop}{M:gi}{A:jm}{E:jG}{s:iT}(h:ah M A t Q E s)(d:∀a s,Q a s->b a s):ah M A t b E s:=nX h d λ_ _ x=>x
section
variable {X:Cx}
def aaZ(i:Nat):TE:=λa U Q=>∃v,a[i]?=Y (Y v)/\Q v U
noncomputable def tC(v:V):TE:=λ_ U Q=>Q v U
def Ax{i:Nat}{x:av}{f:bn}(g:X.N[i]?=Y x)(hv:NG X.env.scope x)(hd:(x==("__debug__":av))=C:=by decide)(n:(x==("__classdict__":av))=C:=by decide):PE X (.Name x f) (aaZ i):=by
 intro a s o T Q U h;obtain⟨v,e,h⟩:=h;obtain⟨m,k,j⟩:=U.loc;obtain⟨u,r,l⟩:=j i x v g e hv;have fin:EP X a o Q u s:=⟨v,T,U,r,h⟩
 rcases l with⟨hk,hm⟩|⟨hk,c,b,d⟩
 .exact sa (wpAny_loadName_local U.ok.kind hk k hm fin) hd
 rcases hk with hk|hk
 .exact sa (wpAny_loadName_cell U.ok.kind hk b d fin) hd
 exact sa (wpAny_loadName_free U.ok.kind hk b d fin n) hd
def D1{i j f}:PE X (.Constant (.int i) j f) (tC<|.int i):=λ_ _ _ T _ U h=>wpAny_Constant_int ⟨.int i,T,U.tok _,⟨_,rfl⟩,h⟩
def Zq{b j f}:PE X (.Constant (.bool b) j f) (tC<|.bl b):=λ_ _ _ T _ U h=>Constant_bool ⟨.bl b,T,U,rfl,h⟩
def Wi{j f}:PE X (.Constant .none j f) (tC .V0):=λ_ _ _ T _ U h=>Constant_none ⟨.V0,T,U,rfl,h⟩
def Wf{x j f}:PE X (.Constant (.str x) j f) (tC<|.str x):=λ_ _ _ T _ U h=>Calls.Constant_str ⟨.str x,T,U.tok _,⟨_,rfl⟩,h⟩
def Gl(X:Cx)(x:av):Prop:=X.env.kindOf x=Y .globalImplicit
def wC{E:jG}{a:jK}{s:iT}{d:St}{T:Hp}{x:av}{u:iX}{f:bn}{Q:jG}(U:Inv X a d T s)(b:Gl X x)(c:X.mg x=Y u)(h:Q u s)
  (hd:(x==("__debug__":av))=C:=by decide):ah (ai X.prog X.w) X.A (aX (.Name x f) X.env) Q E s:=
 M4 U.ok.kind b (Calls.loadGlobal_global (by rw[U.ok.glob];exact U.mod.glob.keeps U.bk) c h) hd
def rJ{E:jG}{a:jK}{s:iT}{g:St}{T:Hp}{x:av}{u:iX}{f:bn}{Q:jG}(U:Inv X a g T s)(c:Gl X x)(d:X.mg x=J)(hv:ax x=Y u)(h:Q u s)
  (e:x≠"__name__":=by decide)(hd:(x==("__debug__":av))=C:=by decide):ah (ai X.prog X.w) X.A (aX (.Name x f) X.env) Q E s:=by
 obtain⟨i,h1,b⟩:=U.mod.blt;exact M4 U.ok.kind c (Calls.loadGlobal_builtin (by rw[U.ok.glob];exact U.mod.glob.keeps U.bk) d (by rw[U.ok.blt];exact h1.keeps U.bk) ((b x e).trans hv) h) hd
def RN{x:av}{v:V}{u:iX}{f:bn}(a:Gl X x)(b:X.mg x=Y u)(r:RelV v u)(hd:(x==("__debug__":av))=C:=by decide):PE X (.Name x f) (tC v):=
 λ_ _ _ T _ U h=>wC U a b ⟨v,T,U,r,h⟩ hd
def zu{x:av}{v:V}{u:iX}{f:bn}(a:Gl X x)(b:X.mg x=J)(hv:ax x=Y u)(r:RelV v u)(c:x≠"__name__":=by decide)(hd:(x==("__debug__":av))=C:=by decide):PE X (.Name x f) (tC v):=
 λ_ _ _ T _ U h=>rJ U a b hv ⟨v,T,U,r,h⟩ c hd
variable {a b:iW}{n tb:TE}{f:bn}
def af6(b:iW){c:cK}(h:c≠ .In)(g:c≠ .NotIn):c9 c b=C:=by
 have d:(c==cK.In)=C:=by cases c<;>first|rfl|exact absurd H h
 have e:(c==CmpOp.NotIn)=C:=by cases c<;>first|rfl|exact absurd H g
 cases b with
 |Set _ k _=>show(k==0&&(c== .In||c== .NotIn)&&_)=C;rw[d,e];simp
 |_=>rfl
noncomputable def tB(t:TE):TT:=λe U Q=>t e U λx d=>∃c,x=.bl c/\Q c d
def V3{e:iW}{t:TE}(h:PE X e t)(j:∀c,isTrue e X.env c=(do let v <-c;cQ e.pos;cf [v] (truthy v)):=by intro _;rfl):PT X e (tB t):=by intro g s o T Q U k;refine isTrue_plain (Ak (h g s o T _ U k) ?_)<|j _;rintro v s1 ⟨x,H1,i,m,l⟩;obtain⟨d,rfl,q⟩:=l;cases m;exact vq ⟨H1,i,q⟩
variable {tA o:TT}{g:kr}
noncomputable def abb(t u:TT):TT:=λe U Q=>t e U λc d=>if c=I then u e d Q else Q C d
noncomputable def tOr(t u:TT):TT:=λe U Q=>t e U λc d=>if c=I then Q I d else u e d Q
noncomputable def Lp(t:TT):TT:=λe U Q=>t e U λc d=>Q (!c) d
def RA(i:PT X a tA):PW X (.BoolOp .And [a] f) tA:=by
 intro wh d s j T Q U h;refine isTrue_and<|Ak (i d s j T Q U h) λc s1 e=>?_
 cases c
 .exact e
 exact isTrue_and_nil e
def VW(i:PT X a tA):PW X (.BoolOp .Or [a] f) tA:=by
 intro wh d s j T Q U h;refine isTrue_or<|Ak (i d s j T Q U h) λc s1 e=>?_
 cases c
 .exact isTrue_or_nil e
 exact e
def VX(k:PT X a tA)(l:PW X (.BoolOp .And (b::g) f) o):PW X (.BoolOp .And (a::b::g) f) (abb tA o):=by
 intro wh d s j T Q U h;refine isTrue_and<|Ak (k d s j T _ U h) ?_;rintro c s1 ⟨H1,e,i⟩
 cases c
 .exact⟨H1,e,i⟩
 exact l wh d s1 j H1 Q e i
def Zn(k:PT X a tA)(l:PW X (.BoolOp .Or (b::g) f) o):PW X (.BoolOp .Or (a::b::g) f) (tOr tA o):=by
 intro wh d s j T Q U h;refine isTrue_or<|Ak (k d s j T _ U h) ?_;rintro c s1 ⟨H1,e,i⟩
 cases c
 .exact l wh d s1 j H1 Q e i
 exact⟨H1,e,i⟩
def V4(j:PT X a tA):PT X (.UnaryOp .Not a f) (Lp tA):=by intro d s l T Q U h;exact isTrue_not (Ak (j d s l T (λc e=>Q (!c) e) U h) λc s1 O=>by obtain⟨e,i,k⟩:=O;exact ⟨e,i,k⟩)
def Y5(n tb:TE):TE:=λe U Q=>n e U λx d=>∃c,x=.bl c/\if c=I then tb e d Q else Q (.bl C) d
def YW(n:TE):TE:=λe U Q=>n e U λx d=>∃c,x=.bl c/\Q (.bl (!c)) d
def Wg{op}{t:TE}(h:PE X a t):PE X (.BoolOp op [a] f) t:=λc s e T Q U d=>BoolOp_one<|h c s e T Q U d
def Wl(k:PE X a n)(l:PE X (.BoolOp .And (b::g) f) tb):PE X (.BoolOp .And (a::b::g) f) (Y5 n tb):=by
 intro d s j T Q U h;refine BoolOp_and<|Ak (k d s j T _ U h) ?_;rintro v s1 ⟨x,H1,i,m,e⟩;obtain⟨c,rfl,e⟩:=e;cases m;refine vq ?_
 cases c
 .exact⟨.bl C,H1,i,rfl,e⟩
 exact l d s1 j H1 Q i e
def Wh(j:PE X a n):PE X (.UnaryOp .Not a f) (YW n):=by intro d s l T Q U h;refine UnaryOp_<|Ak (j d s l T _ U h) ?_;rintro v s1 ⟨x,H1,i,k,e⟩;obtain⟨c,rfl,e⟩:=e;cases k;exact not_of<|vq ⟨.bl (!c),H1,i,rfl,e⟩
noncomputable def tIf(t:TT)(n tb:TE):TE:=λd U Q=>t d U λc e=>if c=I then n d e Q else tb d e Q
def ago{c:iW}(p:PT X c tA)(l:PE X a n)(m:PE X b tb):PE X (.IfExp c a b f) (tIf tA n tb):=by
 intro e s i T Q U h;refine wpAny_IfExp<|Ak (p e s i T _ U h) ?_;rintro d s1 ⟨H1,j,k⟩
 cases d
 .exact m e s1 i H1 Q j k
 exact l e s1 i H1 Q j k
end
def F5(K:jr)(U:Hp)(a:iO)(xs:List V):Prop:=
 Rd U a (.lst xs)\/
  ∃(o:e6)(b:nZ)(n:Nat),K.lookup a=Y o/\o.cls=.type "list"/\o.dict=J/\o.data=.seq b n/\b.size<=sizeLine/\Vals xs b.toList
def HZ(K:jr)(U:Hp)(a:iO)(c:List V):Prop:=
 Rd U a (.tup c)\/
  ∃(o:e6)(b:nZ)(n:Nat),K.lookup a=Y o/\o.cls=.type "tuple"/\o.data=.seq b n/\b.size<=sizeLine/\Vals c b.toList
noncomputable def aca:iX->Option V
 |.none=>Y .V0
 |.bool b=>Y<|.bl b
 |.int i _=>Y<|.int i
 |.str x _=>Y<|.str x
 |.bytes b _=>Y<|.byt b
 |.float b _=>Y<|.flt b
 |.ref a=>Y<|.ref a
 |.type n=>Y<|.ty n
 |_=>J
def RelV.abs{x:V}{u:iX}(r:RelV x u):aca u=Y x:=by
 cases x with
 |V0=>cases r;rfl
 |bl _=>cases r;rfl
 |int _=>obtain⟨t,rfl⟩:=r;rfl
 |str _=>obtain⟨t,rfl⟩:=r;rfl
 |byt _=>obtain⟨t,rfl⟩:=r;rfl
 |flt _=>obtain⟨t,rfl⟩:=r;rfl
 |ref _=>cases r;rfl
 |ty _=>cases r;rfl
def RelV.inj{x y:V}{u:iX}(r:RelV x u)(q:RelV y u):x=y:=lg<|r.abs.symm.trans q.abs
def Vals.inj{b a:List V}{us:jW}(h:Vals b us)(q:Vals a us):b=a:=by
 induction h generalizing a with
 |nil=>cases q;rfl
 |cons r t c=>obtain _|⟨d,e⟩:=q;rw[r.inj d,c e]
section
variable {X:Cx}{pins:jK}{σ:St}{H:Hp}{s:iT}{a:iO}{xs ys:List V}
def F5.of{K:jr}(h:H a=Y (.lst xs)):F5 K H a xs:=.inl (.inl h)
inductive SqI(P:Array iX->Prop)(xs:List V):Prop where
 |mk (its:jW) (_:Vals xs its) (_:P its.toArray) (_:(VP xs)<=sizeLine)
def Inv.list(U:Inv X pins σ H s)(h:F5 X.K H a xs):SqI (PlainL s.heap a) xs:=by
 rcases h with h|⟨o,b,n,hk,c,hd,d,f,r⟩
 .obtain⟨z,b,n,r,e⟩:=h.ok U.hok;exact⟨b,r,⟨_,n,e,rfl,rfl,rfl⟩,z⟩
 refine⟨b.toList,r,⟨o,n,U.FU a o hk,c,hd,by simpa using d⟩,?_⟩;have e:=r.length;simp only[lU]at e
 lia
def Inv.tuple(U:Inv X pins σ H s)(h:HZ X.K H a xs):SqI (j3 s.heap a) xs:=by
 rcases h with h|⟨o,b,n,hk,c,d,f,r⟩
 .obtain⟨z,b,r,p⟩:=h.ok U.hok;exact⟨b,r,p,z⟩
 refine⟨b.toList,r,⟨o,U.FU a o hk,c,n,by simpa using d⟩,?_⟩;have e:=r.length;simp only[lU]at e
 lia
def Inv.FC(U:Inv X pins σ H s)(h:F5 X.K H a xs)(j:F5 X.K H a ys):xs=ys:=by
 obtain⟨c,r,⟨o,n,e,_,_,d⟩,_⟩:=U.list h;obtain⟨b,k,⟨m,l,g,_,_,f⟩,_⟩:=U.list j;rw[e]at g;cases g;rw[d]at f;injection f with i _
 have:c=b:=by simpa using oA th i
 subst this;exact r.inj k
def Inv.Ea(U:Inv X pins σ H s)(h:HZ X.K H a xs)(j:HZ X.K H a ys):xs=ys:=by
 obtain⟨c,r,⟨o,e,_,n,d⟩,_⟩:=U.tuple h;obtain⟨b,k,⟨m,g,_,l,f⟩,_⟩:=U.tuple j;rw[e]at g;cases g;rw[d]at f;injection f with i _
 have:c=b:=by simpa using oA th i
 subst this;exact r.inj k
end
noncomputable abbrev Cx.HK(X:Cx)(E:jG):Cx:={X with xe:=E}
noncomputable abbrev Cx.Iy(X:Cx):Cx:=X.HK λ_ _=>False
def Cx.Ok.HK{X:Cx}(ok:X.Ok)(E:jG):(X.HK E).Ok:=
 ⟨ok.mod,ok.kind,ok.glob,ok.blt,ok.above,ok.inj,ok.has,ok.cab,ok.hd,ok.frames,ok.stk,ok.exf,ok.bs,ok.bsz,ok.noex,ok.exfs,ok.Ew,ok.frf⟩
def Cx.Ok.EB{X:Cx}{E:jG}(ok:(X.HK E).Ok):X.Ok:=
 ⟨ok.mod,ok.kind,ok.glob,ok.blt,ok.above,ok.inj,ok.has,ok.cab,ok.hd,ok.frames,ok.stk,ok.exf,ok.bs,ok.bsz,ok.noex,ok.exfs,ok.Ew,ok.frf⟩
section
variable {X:Cx}{a:jK}{b:St}{H:Hp}{s:iT}{E:jG}
def Inv.HK(U:Inv X a b H s)(E:jG):Inv (X.HK E) a b H s:=⟨U.ok.HK E,U.os,U.bare,U.base,U.loc,U.cell,U.free,U.freeC,U.pin,U.hok,U.len⟩
def Inv.EB(U:Inv (X.HK E) a b H s):Inv X a b H s:=⟨U.ok.EB,U.os,U.bare,U.base,U.loc,U.cell,U.free,U.freeC,U.pin,U.hok,U.len⟩
def SP.EB{D:Ends}{f:Flow}{e:iT}(h:SP (X.HK E) a D f e):SP X a D f e:=by
 cases f with
 |next=>obtain⟨c,d,U,q⟩:=h;exact⟨c,d,U.EB,q⟩
 |brk=>obtain⟨c,d,U,q⟩:=h;exact⟨c,d,U.EB,q⟩
 |cont=>obtain⟨c,d,U,q⟩:=h;exact⟨c,d,U.EB,q⟩
 |ret u=>obtain⟨v,c,d,U,r,q⟩:=h;exact⟨v,c,d,U.EB,r,q⟩
def Hw.Iy{st:List bh}{t:TS}(h:Hw X.Iy st t):Hw X st t:=λa s b H D U c=>nX (h a s b H D (U.HK _) c) (λ_ _ q=>q.EB) λ_ _ z=>aT z
end
section
variable {X:Cx}{st:bh}{j:List bh}{t u:TS}{e:iW}{i:TE}{g:bn}
noncomputable def YX:TS:=λD a U=>D.nx a U
noncomputable def aa2(t u:TS):TS:=λD a U=>t {D with nx:=u D} a U
def Jv:Hw X [] YX:=λ_ _ a T _ U h=>Ae ⟨a,T,U,h⟩
def tL(h1:PS X st t)(k:Hw X j u):Hw X (st::j) (aa2 t u):=by
 intro a s l T D U h;refine u8<|Ak (h1 a s l T {D with nx:=u D} U h) λf s1 q=>?_
 cases f with
 |next=>obtain⟨b,c,d,q⟩:=q;exact k a s1 b c D d q
 |ret v=>exact q
 |brk=>exact q
 |cont=>exact q
def Inv.quiet{a:jK}{b:St}{T:Hp}{s:iT}(U:Inv X a b T s):Q1 X.env=C:=by simp[Q1,U.ok.kind]
noncomputable def YZ(i:TE):TS:=λD a U=>i a U λ_ b=>D.nx a b
def Jw(f:PE X e i)(k:bT e J g.line X.env=pure C:=by rfl):PS X (.Expr e g) (YZ i):=by intro a s b T D U h;exact B4 (Ak (f a s b T _ U h) λv s1 Q=>by obtain⟨x,c,d,m,l⟩:=Q;exact ⟨b,c,d,l⟩) U.quiet k
noncomputable def aa3(i:TE):TS:=λD a U=>i a U D.rt
def N5(f:PE X e i):PS X (.Return (Y e) g) (aa3 i):=by intro a s b T D U h;exact wpAny_Return_some (Ak (f a s b T _ U h) λv s1 Q=>by obtain⟨x,c,d,l,k⟩:=Q;exact ⟨x,b,c,d,l,k⟩)
noncomputable def aa6(c:TT)(t u:TS):TS:=λD a U=>c a U λb d=>if b=I then t D a d else u D a d
def Uk{c:iW}{a b:List bh}{n:TT}(q:PT X c n)(o:Hw X a t)(p:Hw X b u):PS X (.If c a b g) (aa6 n t u):=by
 intro f s k T D U h;refine wpAny_If<|Ak (q f s k T _ U h) ?_;rintro d s1 ⟨H1,l,m⟩
 cases d
 .exact p f s1 k H1 D l m
 exact o f s1 k H1 D l m
end
abbrev TG:=V->St->Hp->(St->Hp->Prop)->Prop
abbrev Lh:=List V->St->Hp->(St->Hp->Prop)->Prop
def PG(X:Cx)(a:iW)(t:TG):Prop:=
 ∀(b:jK)(s:iT)(e:St)(U:Hp)(v:V)(u:iX)(Q:St->Hp->Prop),Inv X b e U s->RelV v u->t v e U Q->
  ah (ai X.prog X.w) X.A (cE a X.env u) (λ_ f=>∃c d,Inv X b c d f/\Q c d) X.xe s
def KW(X:Cx)(h:kr)(t:Lh):Prop:=
 ∀(a:jK)(s:iT)(f:St)(U:Hp)(e:List V)(d:jW)(Q:St->Hp->Prop),Inv X a f U s->Vals e d->t e f U Q->
  ah (ai X.prog X.w) X.A (assignInOrder ((aZ h X.env).map (·.2)) d) (λ_ g=>∃b c,Inv X a b c g/\Q b c) X.xe s
abbrev TZ:=V->V->V->Hp->(Hp->Prop)->Prop
def XA(X:Cx)(t:TZ):Prop:=
 ∀(a:jK)(s:iT)(e:St)(U:Hp)(o i v:V)(d c u:iX)(Q:Hp->Prop),Inv X a e U s->RelV o d->RelV i c->RelV v u->t o i v U Q->
  ah (ai X.prog X.w) X.A (k6 d c u) (λ_ f=>∃b,Inv X a e b f/\Q b) X.xe s
section
variable {X:Cx}{d:bn}
noncomputable def F1(i:Nat):TG:=λv a U Q=>Q (a.set i<|Y v) U
def JA{i:Nat}{x:av}(c:X.N.Nodup)(f:X.N[i]?=Y x)(g:Loc X.env.scope x)(e:X.fn x=I\/X.env.scope.names.lookup x=Y .local:=by first|exact .inl rfl|exact .inr rfl|assumption):PG X (.Name x d) (F1 i):=by intro a s k T v u Q U r h;exact wpAny_assign_Name<|Al U c f g r (λj b=>⟨_,T,b,h⟩) e
noncomputable def ab3:Lh:=λa b U Q=>a=[]/\Q b U
def ZW(t:TG)(u:Lh):Lh:=λc e U Q=>∃v r,c=v::r/\t v e U λa b=>u r a b Q
def RM:KW X [] ab3:=by intro a s b T f c Q U r h;obtain⟨e,h⟩:=h;subst e;cases r;exact assignInOrder_nil ⟨b,T,U,h⟩
def agm{e:iW}{b:kr}{t:TG}{u:Lh}(h1:PG X e t)(i:KW X b u)
  (j:(aZ (e::b) X.env).map (·.2)=cE e X.env::(aZ b X.env).map (·.2):=by rfl):KW X (e::b) (ZW t u):=by
 intro a s m T p n Q U r h;obtain⟨v,o,g,h⟩:=h;subst g
 cases r with
 |cons r l=>rw[j];refine assignInOrder_cons<|Ak (h1 a s m T _ _ _ U r h) ?_;rintro _ s1 ⟨c,H1,f,k⟩;exact i a s1 c H1 _ _ Q f l k
def ab1(K:jr)(n:Nat)(t:Lh):TG:=λv c U Q=>∃a b,v=.ref a/\HZ K U a b/\(VP b)=n/\t b c U Q
def We{f:kr}{k:Nat}{t:Lh}{n:Nat}(q:X.calm=I)(h:KW X f t)
  (x:(aZ f X.env).length=n:=by rfl)(T:(aZ f X.env).findIdx? (·.1)=J:=by rfl):PG X (.Tuple f k d) (ab1 X.K n t):=by
 intro c s j O v u Q U r g;obtain⟨a,E,m,y,w,g⟩:=g;subst m;cases r;obtain⟨B,i,z,L⟩:=U.tuple y;refine assign_Tuple_tuple (U.ok.hd q) z (by simp[x,<-w,i.length]) T λp A=>?_;have l:Inv X c j O {s with heap:=p}:=U.kept (t':=s.toks) λb o e=>A b o (kI<|ki e) e;exact h c _ j O E _ Q l (by simpa using i) g
noncomputable def HQ(to f:TE)(t:TZ):TG:=λv a U Q=>to a U λo b=>f a b λi c=>t o i v c λe=>Q a e
def Oi{o i:iW}{to f:TE}{t:TZ}(q:PE X o to)(p:PE X i f)(w:XA X t)
  (n:∀v,cE (.Subscript o i d) X.env v=(do
   let b <-cf [v] (aX o X.env)
   let c <-cf [v,b] (aX i X.env)
   cQ d
   cf [v,b,c] (k6 b c v)
   MB [v,b,c] []):=by intro _;rfl):PG X (.Subscript o i d) (HQ to f t):=by
 intro a s e O v u Q U r h;rw[n];refine iP<|mz<|Ak (q a s e O _ U h) ?_;rintro b s1 ⟨x,H1,k,T,z⟩;refine iP<|mz<|Ak (p a s1 e H1 _ k z) ?_;rintro c s2 ⟨y,g,l,E,A⟩;refine iP<|tH<|iP<|mz<|Ak (w a s2 e g x y v b c u _ l T E r A) ?_;rintro _ s3 ⟨j,m,B⟩;exact wpAny_release ⟨e,j,m,B⟩
noncomputable def Vm(c:TE)(g:TG):TS:=λD a U=>c a U λx b=>g x a b D.nx
def HM{b e:iW}{c:TE}{g:TG}(j:PE X e c)(k:PG X b g)(l:fL [b] e d.line X.env=pure C:=by rfl)(m:fQ [b] e X.env=pure J:=by rfl)
  (h1:(aZ [b] X.env).map (·.2)=[cE b X.env]:=by rfl):PS X (.Assign [b] e d) (Vm c g):=by
 intro a s f T D U h;refine wpAny_Assign_stores (Ak (j a s f T _ U h) ?_) l m;rintro v s1 ⟨x,H1,i,o,n⟩;rw[h1];exact Ak (k a s1 f H1 x v _ i o n) λ_ p q=>q
def N4{i:Nat}{x:av}{e:iW}{c:TE}{a:bn}(j:X.N.Nodup)(m:X.N[i]?=Y x)(o:Loc X.env.scope x)(k:PE X e c)(n:bT e (Y<|.Name x a) d.line X.env=pure C:=by rfl)(l:X.fn x=I\/X.env.scope.names.lookup x=Y .local:=by first|exact .inl rfl|exact .inr rfl|assumption):
  PS X (.Assign [.Name x a] e d) (Vm c<|F1 i):=by
 intro b s r T D U h;refine wpAny_Assign_Name (Ak (k b s r T _ U h) ?_) n;rintro v s1 ⟨y,H1,f,q,p⟩;exact Al f j m o q (λt g=>⟨_,H1,g,p⟩) l
def Vj(c:TT)(i:TS):TS:=λD a U=>∃W:Nat->St->Hp->Prop,(∃m,W m a U)/\∀m a U,W m a U->
 c a U λb g=>if b=I then ∃N:St->Hp->Prop,(∀e f,N e f->∃h,h<m/\W h e f)/\i {D with nx:=N,ct:=N,bk:=D.nx} a g else D.nx a g
def afB{c:iW}{i:List bh}{E:TT}{C:TS}(B:fm (ai X.prog X.w) X.A X.env X.xe)(Q:PT X c E)(O:Hw X i C):PS X (.While c i [] d) (Vj E C):=by
 intro a s U H D I h;obtain⟨W,⟨T,J⟩,turn⟩:=h;refine wpAny_While<|codeAny_whileLoop (λn G=>∃k u,Inv X a k u G/\W n k u) ?_ T ⟨U,H,I,J⟩;rintro n s1 ⟨g,H1,L,M⟩;refine vp B<|Ak (Q a s1 g H1 _ L (turn n g H1 M)) ?_;rintro b s2 ⟨x,y,l⟩
 cases b with
 |true=>
  obtain⟨N,z,l⟩:=l;rw[jh UV];refine vp B<|Ak (O a s2 g x _ y l) λf Y m=>?_
  cases f with
  |next=>obtain⟨e,j,o,r⟩:=m;obtain⟨q,p,t⟩:=z e j r;exact⟨q,p,e,j,o,t⟩
  |cont=>obtain⟨e,j,o,r⟩:=m;obtain⟨q,p,t⟩:=z e j r;exact⟨q,p,e,j,o,t⟩
  |brk=>exact m
  |ret v=>exact m
 |false=>rw[jy lH];exact Ae ⟨g,x,y,l⟩
end
structure It where
 go:Nat->Hp->Prop
 yld:Nat->Hp->V->Hp->Prop
 stop:Nat->Hp->Prop
def ug(X:Cx)(a:jK)(U:Hp)(b:iO):Prop:=
 U b=J/\b≠X.env.locals/\b∉X.fs/\(b∈X.ex\/X.s₀.heap.objs.size<=b)/\(∀x c,X.env.cells.lookup x=Y c->c≠b)/\∀p∈X.pn++a,p.1≠b
def Inv.KP{X:Cx}{a:jK}{i:St}{T f:Hp}{s:iT}{b:iO}(U:Inv X a i T s)(d:s.heap.objs.size<=b)(g:f b=J):ug X a f b:=by
 refine⟨g,pv<|nY U.lt d,U.Nl d,.inr<|lV U.sz d,λx c e z=>?_,λp h z=>?_⟩
 .obtain⟨v,q⟩:=U.cell x c e;exact absurd (nY q.lt<|by rw[z];exact d)<|pZ _
 exact absurd (nY (ki (U.pin p h).1)<|by rw[z];exact d) (pZ _)
structure Turn(P:jq)(w:jk)(K:jr)(tg:iW)(J:It)(fp:kW)(it:iO)(tn:Nat->jn->Prop):Prop where
 mem:it∈fp
 obj:∀i h,tn i h->∀b∈fp,∃o,h.get? b=TW o/\∀v,o.data≠ .cell v
 keep:∀i h h',tn i h->(∀b∈fp,∀o,h.get? b=TW o->h'.get? b=TW o)->tn i h'
 item:∀(X:Cx),X.prog=P->X.w=w->X.K=K->X.calm=Uf->∀(i:Nat)(pins:jK)(s:iT)(σ:St)(H:Hp)(E:jG),Inv X pins σ H s->(∀b∈fp,ug X pins H b)->tn i s.heap->J.go i H->
  ah (ai P w) X.A (cA<|.ref it) (λr s1=>∃u,r=TW u/\
   ah (ai P w) X.A (eQ tg (.ref it) u) (λ_ s2=>∃x H',Inv X pins σ H' s2/\RelV x u/\J.yld i H x H'/\tn (i+1) s2.heap/\∀b∈fp,H' b=T2) E s1) E s
 done:∀(X:Cx),X.prog=P->X.w=w->X.K=K->X.calm=Uf->∀(i:Nat)(pins:jK)(s:iT)(σ:St)(H:Hp)(E:jG),Inv X pins σ H s->(∀b∈fp,ug X pins H b)->tn i s.heap->J.stop i H->
  ah (ai P w) X.A (cA<|.ref it) (λr s1=>r=T2/\Inv X pins σ H s1) E s
 self:∀(A:jm)(i:Nat)(s:iT)(Q:jG)(E:jG),tn i s.heap->Q (.ref it) s->ah (ai P w) A (c5<|.ref it) Q E s
abbrev TI:=St->Hp->(It->Hp->Prop)->Prop
inductive PIE(X:Cx)(pins:jK)(σ:St)(tg:iW)(R:It->Hp->Prop)(dY:iX)(s2:iT):Prop where
 |mk (it:iO) (fp:kW) (tn:Nat->jn->Prop) (J:It) (H':Hp) (_:dY=.ref it) (_:Inv X pins σ H' s2) (_:Turn X.prog X.w X.K tg J fp it tn) (_:tn 0 s2.heap) (_:∀b∈fp,ug X pins H' b) (_:R J H')
def PI(X:Cx)(tg iter:iW)(c:TI):Prop:=
 ∀(a:jK)(s:iT)(b:St)(U:Hp)(R:It->Hp->Prop),Inv X a b U s->c b U R->
  ah (ai X.prog X.w) X.A (aX iter X.env) (λv s1=>ah (ai X.prog X.w) X.A (c5 v) (PIE X a b tg R) X.xe s1) X.xe s
def Pq{M:gi}{A:jm}{E:jG}{s:iT}{b:iW}{it:iO}{u:iX}{o:e6}{n:String}{c:nZ}{Q:Unit->Shared->Prop}(f:s.heap.get? it=Y o)(d:o.cls=.type n)(hd:o.data=.fields c)
  (e:["enumerate","zip","dict_itemiterator","dict_reverseitemiterator","odict_iterator","itertools.zip_longest","itertools.pairwise"].contains n=C)(a:Q () s):ah M A (eQ b (.ref it) u) Q E s:=by
 unfold eQ
 cases b<;>first
  |exact je a
  |(cases u<;>first
    |exact je a
    |(
      refine iP<|DH f ?_;rw[d,hd];show ah M A (if(["enumerate","zip","dict_itemiterator","dict_reverseitemiterator","odict_iterator","itertools.zip_longest","itertools.pairwise"].contains n&&c[0]?==Y (cu _))=I then _ else _) Q E s;rw[jy (by intro h;rw[e,eK]at h;cases h)];exact je a))
noncomputable def Itl(K:jr)(a:iO):It:=
 ⟨λi U=>∃b x,F5 K U a b/\b[i]?=Y x,λi U x c=>c=U/\∀b,F5 K U a b->b[i]?=Y x,λi U=>∃b,F5 K U a b/\(VP b)<=i⟩
noncomputable def Itt(K:jr)(a:iO):It:=
 ⟨λi U=>∃b x,HZ K U a b/\b[i]?=Y x,λi U x c=>c=U/\∀b,HZ K U a b->b[i]?=Y x,λi U=>∃b,HZ K U a b/\(VP b)<=i⟩
noncomputable def OP(lo:Int)(n:Nat):It:=⟨λi _=>i<n,λi U x a=>a=U/\x=.int (lo+i),λi _=>n<=i⟩
def aev{P:jq}{w:jk}{K:jr}{tg:iW}(a it:iO):Turn P w K tg (Itl K a) [it] it (λi h=>h.IsListIter it a i) where
 mem:=by simp
 obj:=λi h st b g=>by
  have e:b=it:=by simpa using g
  subst e;obtain⟨o,e,c,d⟩:=st;exact⟨o,e,λv z=>by rw[d]at z;cases z⟩
 keep:=λi h j st k=>st.at λo e=>k it (by simp) o e
 item:=by intro X y B t T i f s G H E I l st A;subst y B t;obtain⟨S,x,m,C⟩:=A;obtain⟨L,O,p,D⟩:=I.list m;obtain⟨u,U,F⟩:=O.get C;obtain⟨f0,f1,N,n,q,r⟩:=l it (by simp);refine wpAny_pyNext_list_item st p.isList (x:=u) (by simpa using U) λj Q R=>?_;have J:Inv X f G H {s with heap:=j}:=I.turned (t':=s.toks) (λb o g e=>(R.2 b g).trans e) f0 f1 n q r;obtain⟨o,e,c,d⟩:=id Q;exact⟨u,rfl,Pq (s:={s with heap:=j}) e c d (by decide) ⟨x,H,J,F,⟨rfl,λW Y=>by rw[I.FC Y m];exact C⟩,Q,λb g=>(l b g).1⟩⟩
 done:=by intro X y B t T i f s G H E I l st A;subst y B t;obtain⟨S,m,C⟩:=A;obtain⟨L,O,p,D⟩:=I.list m;obtain⟨f0,f1,N,n,q,r⟩:=l it (by simp);have V:=O.length;exact wpAny_pyNext_list_end (I.ok.hd T) st p.isList (by simp;lia) λj M=>⟨rfl,I.turned (t':=s.toks) (λb o g e=>M b o g e) f0 f1 n q r⟩
 self:=λ_ _ _ _ _ st h=>wpAny_pyIter_listiter st h
def ad1{P:jq}{w:jk}{K:jr}{tg:iW}(a it:iO):Turn P w K tg (Itt K a) [it] it (λi h=>h.IsTupleIter it a i) where
 mem:=by simp
 obj:=λi h st b g=>by
  have e:b=it:=by simpa using g
  subst e;obtain⟨o,e,c,d⟩:=st;exact⟨o,e,λv z=>by rw[d]at z;cases z⟩
 keep:=λi h l st k=>st.at λo e=>k it (by simp) o e
 item:=by intro X A C y T i f s G H E I m st B;subst A C y;obtain⟨S,x,n,L⟩:=B;obtain⟨j,O,p,D⟩:=I.tuple n;obtain⟨u,U,F⟩:=O.get L;obtain⟨f0,f1,N,q,r,t⟩:=m it (by simp);refine wpAny_pyNext_tuple_item st (show s.heap.IsTuple a j.toArray from p) (x:=u) (by simpa using U) λl Q R=>?_;have J:Inv X f G H {s with heap:=l}:=I.turned (t':=s.toks) (λb o g e=>(R.2 b g).trans e) f0 f1 q r t;obtain⟨o,e,c,d⟩:=id Q;exact⟨u,rfl,Pq (s:={s with heap:=l}) e c d (by decide) ⟨x,H,J,F,⟨rfl,λW Y=>by rw[I.Ea Y n];exact L⟩,Q,λb g=>(m b g).1⟩⟩
 done:=by intro X A C y T i f s G H E I m st B;subst A C y;obtain⟨S,n,L⟩:=B;obtain⟨j,O,p,D⟩:=I.tuple n;obtain⟨f0,f1,N,q,r,t⟩:=m it (by simp);have V:=O.length;exact wpAny_pyNext_tuple_end (I.ok.hd T) st (show s.heap.IsTuple a j.toArray from p) (by simp;lia) λl M=>⟨rfl,I.turned (t':=s.toks) (λb o g e=>M b o g e) f0 f1 q r t⟩
 self:=λ_ _ _ _ _ st h=>wpAny_pyIter_tupleiter st h
def ad2{P:jq}{w:jk}{K:jr}{Q:iW}(it:iO)(lo:Int)(n:Nat):Turn P w K Q (OP lo n) [it] it (λi h=>Tl h it (lo+(i:Nat)*1) ((n:Int)-(i:Nat)) 1) where
 mem:=by simp
 obj:=λi h st b c=>by
  have e:b=it:=by simpa using c
  subst e
  exact⟨_,st,λv z=>by have T:hX _=fS v:=z;cases T⟩
 keep:=λi h d st k=>k it (by simp) _ st
 item:=by intro X p u m q i a s A M E U f st r;subst p u m;obtain⟨f0,f1,L,g,j,l⟩:=f it (by simp);have W:=Walks.range (prog:=X.prog) (w:=X.w) (U.ok.hd q) it lo 1 n;refine W.item i s _ _ r st λv d y hv x O=>?_;obtain⟨t,rfl⟩:=hv;have B:Inv X a A M {s with heap:=d,toks:=y}:=U.turned (λb o c e=>O b o (by simpa using c) e) f0 f1 g j l;refine⟨_,rfl,Pq (s:={s with heap:=d,toks:=y}) (n:="range_iterator") x H H (by decide) ⟨.int<|lo+i,M,B,⟨t,?_⟩,⟨rfl,rfl⟩,x,λb c=>(f b c).1⟩⟩;rw[Ad]
 done:=by intro X p u m q i a s A M E U f st r;subst p u m;obtain⟨f0,f1,L,g,j,l⟩:=f it (by simp);exact wpAny_pyNext_range_end (U.ok.hd q) st (by have:n<=i:=r;lia) λd N=>⟨rfl,U.turned (t':=s.toks) (λb o c e=>N b o c e) f0 f1 g j l⟩
 self:=λ_ _ _ _ _ st h=>wpAny_pyIter_rangeiter st h
section
variable {X:Cx}{tg:iW}
def ZS(K:jr)(c:TE):TI:=λe U R=>c e U λx b=>∃a,x=.ref a/\(∃d,F5 K b a d)/\R (Itl K a) b
def ab0(K:jr)(c:TE):TI:=λe U R=>c e U λx b=>∃a,x=.ref a/\(∃d,HZ K b a d)/\R (Itt K a) b
def RK{l:iW}{f:TE}(i:PE X l f):PI X tg l (ZS X.K f):=by
 intro c s r T R U h;refine Ak (i c s r T _ U h) ?_;rintro v s1 ⟨x,H1,d,n,m⟩;obtain⟨a,e,⟨w,j⟩,q⟩:=m;subst e;cases n;obtain⟨k,u,p,t⟩:=d.list j;refine xR p.isList ?_;refine⟨s1.heap.objs.size,[s1.heap.objs.size],_,_,H1,rfl,d.kept (t':=s1.toks) λb o e=>kb _ e,aev a _,⟨_,kD _ rfl,rfl,rfl⟩,λb g=>?_,q⟩;have e:b=s1.heap.objs.size:=by simpa using g
 subst e;exact d.KP (kg _)<|d.hok.fresh<|kg _
def Wd{l:iW}{g:TE}(j:PE X l g):PI X tg l (ab0 X.K g):=by
 intro c s r T R U h;refine Ak (j c s r T _ U h) ?_;rintro v s1 ⟨x,H1,d,n,m⟩;obtain⟨a,e,⟨w,k⟩,q⟩:=m;subst e;cases n;obtain⟨f,u,p,t⟩:=d.tuple k;refine Hq (show s1.heap.IsTuple a f.toArray from p) ?_;refine⟨s1.heap.objs.size,[s1.heap.objs.size],_,_,H1,rfl,d.kept (t':=s1.toks) λb o e=>kb _ e,ad1 a _,⟨_,kD _ rfl,rfl,rfl⟩,λb i=>?_,q⟩;have e:b=s1.heap.objs.size:=by simpa using i
 subst e;exact d.KP (kg _)<|d.hok.fresh<|kg _
def Fp{c:jK}{g:St}{T:Hp}{s:iT}{R:It->Hp->Prop}{E:jG}{lo a:Int}{t u v:u0}{f:Nat}(U:Inv X c g T s)(h1: -(2^62)<=lo)(j:lo<2^62)(k: -(2^62)<=a)(l:a<2^62)
  (q:R (OP lo (a-lo).toNat) T):ah (ai X.prog X.w) X.A (c5<|.ref s.heap.objs.size) (PIE X c g tg R) E {s with heap:=s.heap.push {cls:=.type "range",data:=.fields #[.int lo t,.int a u,.int 1 v]},toks:=f}:=by
 refine wpAny_pyIter_range (IsRange.new ..) (small_one h1 j k l) ?_;have d:Inv X c g T {s with heap:=s.heap.push {cls:=.type "range",data:=.fields #[.int lo t,.int a u,.int 1 v]},toks:=f}:=U.kept λb o e=>kb _ e
 refine⟨(s.heap.push {cls:=.type "range",data:=.fields #[.int lo t,.int a u,.int 1 v]}).objs.size,[(s.heap.push {cls:=.type "range",data:=.fields #[.int lo t,.int a u,.int 1 v]}).objs.size],_,_,T,rfl,
  d.kept (t':=f) λb o e=>kb _ e,ad2 _ lo (a-lo).toNat,?_,λb m=>?_,q⟩
 .have h:lo+((0:Nat):Int)*1=lo:=by simp
  have i:(((a-lo).toNat:Nat):Int)-((0:Nat):Int)=fw lo a 1:=by rw[IR];split<;>lia
  show Tl _ _ (lo+((0:Nat):Int)*1) ((((a-lo).toNat:Nat):Int)-((0:Nat):Int)) 1;rw[h,i];exact kD _ rfl
 have e:b=(s.heap.push {cls:=.type "range",data:=.fields #[.int lo t,.int a u,.int 1 v]}).objs.size:=by simpa using m
 subst e;exact d.KP (kg _)<|d.hok.fresh<|kg _
def ZR(b:TA):TI:=λd U R=>b d U λc a=>∃j:Int,c=[.int j]/\ -(2^62)<=j/\j<2^62/\R (OP 0 j.toNat) a
def ZQ(b:TA):TI:=λd U R=>b d U λc a=>∃i j:Int,c=[.int i,.int j]/\(-(2^62)<=i/\i<2^62/\ -(2^62)<=j/\j<2^62)/\R (OP i (j-i).toNat) a
def afa{a:iW}{f:TA}{p c:bn}(k:Gl X "range")(l:X.mg "range"=J)(i:PA X [a] f)(m:ae [a] X.env=[(C,aX a X.env)]:=by rfl):PI X tg (.Call (.Name "range" p) [a] [] c) (ZR f):=by
 intro b s v T R U h;refine Call_<|rJ U k l DG<|DF (Ak (i c b s v T _ U h) ?_) m H;rintro us s1 ⟨w,H1,g,o,d⟩;obtain⟨j,e,d,n,q⟩:=d;subst e
 cases o with
 |cons r u=>
  cases u;obtain⟨t,rfl⟩:=r;exact call_range_1<|Fp g (by lia) (by lia) d n (by simpa using q)
def ae9{a b:iW}{l:TA}{p d:bn}(o:Gl X "range")(u:X.mg "range"=J)(n:PA X [a,b] l)(v:ae [a,b] X.env=[(C,aX a X.env),(C,aX b X.env)]:=by rfl)(k:ae [b] X.env=[(C,aX b X.env)]:=by rfl):
  PI X tg (.Call (.Name "range" p) [a,b] [] d) (ZQ l):=by
 intro c s B Q R U h;refine Call_<|rJ U o u DG<|DF (Ak (n d c s B Q _ U h) λL s1 N=>?_) (by rw[v,k]) (by rw[k];rfl);obtain⟨O,T,m,A,f⟩:=N;obtain⟨i,j,e,⟨f,w,x,y⟩,q⟩:=f;subst e
 cases A with
 |cons r g=>
  cases g with
  |cons z g=>
   cases g;obtain⟨t,rfl⟩:=r;obtain⟨E,rfl⟩:=z;exact NE<|Fp m f w x y q
def aa7(k:TI)(g:TG)(j:TS):TS:=λD a T=>k a T λU f=>∃W:Nat->Nat->St->Hp->Prop,(∃m,W 0 m a f)/\∀i m a T,W i m a T->
 (U.stop i T/\D.nx a T)\/(U.go i T/\∃N:St->Hp->Prop,(∀c b,N c b->∃e,e<m/\W (i+1) e c b)/\∀x b,U.yld i T x b->g x a b λd h=>j {D with nx:=N,ct:=N,bk:=D.nx} d h)
noncomputable def Av(a:kW)(h:jn):List (iO×e6):=a.filterMap λb=>(h.get? b).map λo=>(b,o)
def rH{a:kW}{h:jn}{b:iO}{o:e6}(c:b∈a)(e:h.get? b=Y o):(b,o)∈Av a h:=dD.mpr ⟨b,c,by rw[e];rfl⟩
def afh{a:kW}{h:jn}{p:iO×e6}(f:p∈Av a h):p.1∈a/\h.get? p.1=Y p.2:=by
 obtain⟨b,d,e⟩:=dD.mp f
 cases q:h.get? b with
 |none=>rw[q]at e;cases e
 |some o=>rw[q]at e;have c:(b,o)=p:=lg e;subst c;exact⟨d,q⟩
def Inv.pinned{a:jK}{h:St}{T:Hp}{s:iT}{c:kW}(U:Inv X a h T s)(j:∀b∈c,ug X a T b)(k:∀b∈c,∃o,s.heap.get? b=Y o/\∀v,o.data≠ .cell v):Inv X (a++Av c s.heap) h T s:=
 U.IG λp l=>(rq.mp l).elim (λz=>U.pin p<|qv _ z) λz=>by obtain⟨g,e⟩:=afh z;obtain⟨f0,f1,i,_⟩:=j p.1 g;obtain⟨o,f,d⟩:=k p.1 g;rw[e]at f;cases f;exact⟨e,f0,f1,i,d⟩
def Inv.EH{a d:jK}{b:St}{T:Hp}{s:iT}(U:Inv X (a++d) b T s):Inv X a b T s:=U.IG λp c=>U.pin p<|qv _ (DJ _ c)
def V8{iter:iW}{y:List bh}{wi:TI}{g:TG}{tb:TS}{Q:bn}(C:fm (ai X.prog X.w) X.A X.env X.xe)(hc:X.calm=Uf)(hi:PI X tg iter wi)(hg:PG X tg g)(l:Hw X y tb)
  (hs:∀x,aw iter X.env x=pure x:=by intro _;rfl):PS X (.For tg iter y [] Q) (aa7 wi g tb):=by
 intro a s Z H D I h;refine wpAny_For (Ak (hi a s Z H _ I h) λv s1 h1=>Ak h1 λdY s2 h2=>?_) hs;obtain⟨it,B,V,J,H2,e,I2,T,aB,P,W,⟨m0,w0⟩,turn⟩:=h2;subst e;have M:∀{t:Hp},(∀b∈B,t b=T2)->∀b∈B,ug X a t b:=λhn b l=>⟨hn b l,(P b l).2⟩
 refine codeAny_forLoop_any (λn R=>∃i p t,Inv X a p t R/\V i R.heap/\(∀b∈B,t b=T2)/\W i n p t) ?_ m0 ⟨0,Z,H2,I2,aB,λb l=>(P b l).1,w0⟩;rintro n S ⟨i,q,L,Y,K,F,w3⟩;rcases turn i n q L w3 with⟨stop,qn⟩|⟨go,N,hN,step⟩
 .refine vp C (Ak (T.done X UV UV UV hc i a S q L X.xe Y (M F) K stop) ?_);rintro r s4 ⟨O,I4⟩;subst O;exact Ae ⟨q,L,I4,qn⟩
 refine vp C (Ak (T.item X UV UV UV hc i a S q L X.xe Y (M F) K go) ?_);rintro r s4 ⟨u,O,h4⟩;subst O;refine vp C<|Ak h4 ?_;rintro _ s5 ⟨x,U,I5,r5,y5,cB,iz⟩;have iN:=I5.pinned (M iz)<|T.obj _ _ cB;refine vp C<|Ak (hg _ s5 q U x u _ iN r5 (step x U y5)) ?_;rintro _ s6 ⟨σ6,H6,I6,q6⟩;refine vp C (Ak (l _ s6 σ6 H6 _ I6 q6) λf G z=>?_)
 have again:∀{c:St}{j:Hp},Inv X (a++Av B s5.heap) c j G->N c j->∃m,m<n/\∃i p t,Inv X a p t G/\V i G.heap/\(∀b∈B,t b=T2)/\W i m p t:=λ{c j} k E=>by obtain⟨m',hm,w7⟩:=hN c j E;refine⟨m',hm,i+1,c,j,k.EH,T.keep _ _ _ cB λb l o e=>(k.pin (b,o)<|qv _ (qv _ (rH l e))).1,λb l=>?_,w7⟩;obtain⟨o,e,d⟩:=T.obj _ _ cB b l;exact(k.pin (b,o)<|qv _ (qv _ (rH l e))).2.1
 cases f with
 |next=>obtain⟨c,j,k,E⟩:=z;exact again k E
 |cont=>obtain⟨c,j,k,E⟩:=z;exact again k E
 |brk=>obtain⟨c,j,k,z⟩:=z;exact⟨c,j,k.EH,z⟩
 |ret v=>obtain⟨x7,c,j,k,r7,z⟩:=z;exact⟨x7,c,j,k.EH,r7,z⟩
end
abbrev R2:=V->V->Hp->VK->Prop
def BY(X:Cx)(f:yy)(r:R2):Prop:=
 ∀(a:jK)(s:iT)(b:St)(U:Hp)(x y:V)(v u:iX)(Q:VK),Inv X a b U s->RelV x v->RelV y u->r x y U Q->
  ah (ai X.prog X.w) X.A (f v u) (EP X a b Q) X.xe s
def Oq(X:Cx)(f:iX->dW iX)(r:V->Hp->VK->Prop):Prop:=
 ∀(a:jK)(s:iT)(b:St)(U:Hp)(x:V)(v:iX)(Q:VK),Inv X a b U s->RelV x v->r x U Q->
  ah (ai X.prog X.w) X.A (f v) (EP X a b Q) X.xe s
def kL(X:Cx)(f:iX)(r:List V->Hp->VK->Prop):Prop:=
 ∀(a:jK)(s:iT)(c:St)(U:Hp)(xs:List V)(b:jW)(Q:VK),Inv X a c U s->Vals xs b->r xs U Q->
  ah (ai X.prog X.w) X.A (call f b) (EP X a c Q) X.xe s
noncomputable def Ln(r:R2)(d e:TE):TE:=λa U Q=>d a U λx b=>e a b λy c=>r x y c Q
def tUn(r:V->Hp->VK->Prop)(b:TE):TE:=λc U Q=>b c U λx a=>r x a Q
def rI(U:Int->Int->Prop)(g:Int->Int->V):R2:=λx y T Q=>∃i j,x=.int i/\y=.int j/\U i j/\Q (g i j) T
def KL(g:Int->Int->V):R2:=λx y U Q=>∃i j,x=.int i/\y=.int j/\Q (g i j) U
def rU(g:Int->V):V->Hp->VK->Prop:=λx U Q=>∃i,x=.int i/\Q (g i) U
section
variable {X:Cx}{a b c:iW}{ta tb tc:TE}{pos:bn}
def Xw(o:PE X a ta)(p:PE X b tb){d:jK}{s:iT}{g:St}{T:Hp}{R:V->V->Hp->Prop}(U:Inv X d g T s)
  (h:ta g T λx l=>tb g l λy e=>R x y e){Q:jG}{f:yy}
  (q:∀v u k x y e,Inv X d g e k->RelV x v->RelV y u->R x y e->ah (ai X.prog X.w) X.A (f v u) Q X.xe k):
  ah (ai X.prog X.w) X.A (aX a X.env) (λv i=>ah (ai X.prog X.w) X.A (aX b X.env) (λu j=>ah (ai X.prog X.w) X.A (f v u) Q X.xe j) X.xe i) X.xe s:=by
 refine Ak (o d s g T _ U h) ?_;rintro v s1 ⟨x,l,m,z,r⟩;refine Ak (p d s1 g l _ m r) ?_;rintro u k ⟨y,e,n,B,t⟩;exact q v u k x y e n z B t
def Zp{e:Operator}{r:R2}(k:BY X (bf e) r)(i:PE X a ta)(j:PE X b tb):PE X (.BinOp a e b pos) (Ln r ta tb):=by intro d s o T Q U h;exact wpAny_BinOp<|Xw i j U h λv u n x y f g l m q=>k d n o f x y v u Q g l m q
def Zo{e:UnaryOp}{r:V->Hp->VK->Prop}(k:Oq X (L3 e) r)(j:PE X a ta):PE X (.UnaryOp e a pos) (tUn r ta):=by intro d s f T Q U h;exact UnaryOp_ (Ak (j d s f T _ U h) λv s1 O=>by obtain⟨x,g,i,m,l⟩:=O;exact k d s1 f g x v Q i m l)
def N1{f:yy}{T:Int->Int->Prop}{g:Int->Int->Int}
  (rule:∀(i j:Int)(t u:u0)(s:iT)(Q:jG)(E:jG),T i j->Q (.int (g i j) s.toks) {s with toks:=s.toks+1}->ah (ai X.prog X.w) X.A (f (.int i t)<|.int j u) Q E s):
  BY X f (rI T λi j=>.int (g i j)):=by
 intro d s n O x y v u Q U k l h;obtain⟨i,j,rfl,rfl,e,q⟩:=h;obtain⟨t,rfl⟩:=k;obtain⟨m,rfl⟩:=l;exact rule i j t m s _ _ e ⟨.int<|g i j,O,U.tok _,⟨_,rfl⟩,q⟩
def WC{f:yy}{g:Int->Int->Int}
  (rule:∀(i j:Int)(t u:u0)(s:iT)(Q:jG)(E:jG),Q (.int (g i j) s.toks) {s with toks:=s.toks+1}->ah (ai X.prog X.w) X.A (f (.int i t)<|.int j u) Q E s):
  BY X f (KL λi j=>.int (g i j)):=by
 intro d s m T x y v u Q U e k h;obtain⟨i,j,rfl,rfl,q⟩:=h;obtain⟨t,rfl⟩:=e;obtain⟨l,rfl⟩:=k;exact rule i j t l s _ _ ⟨.int<|g i j,T,U.tok _,⟨_,rfl⟩,q⟩
def Se{f:yy}{g:Int->Int->Bool}
  (rule:∀(i j:Int)(t u:u0)(s:iT)(Q:jG)(E:jG),Q (.bool<|g i j) s->ah (ai X.prog X.w) X.A (f (.int i t)<|.int j u) Q E s):
  BY X f (KL λi j=>.bl (g i j)):=by
 intro d s m T x y v u Q U e k h;obtain⟨i,j,rfl,rfl,q⟩:=h;obtain⟨t,rfl⟩:=e;obtain⟨l,rfl⟩:=k;exact rule i j t l s _ _ ⟨.bl<|g i j,T,U,rfl,q⟩
def Mf(i j:Int):Prop:=0<j/\j<1073741824
def wY(i j:Int):Prop:=0<=j/\j<=1000000/\i.natAbs<2^64
def FL(i j:Int):Prop:=(-(2^64)<i/\i<2^64)\/(-(2^64)<j/\j<2^64)
def FL.ok{i j:Int}(h:FL i j):IntMulOk i j:=by
 rcases h with⟨h1,d⟩|⟨h1,d⟩
 .exact .of_left (IX h1 d)
 exact .of_right (IX h1 d)
def adZ(k:Nat):(0:Int)<=2^k:=by rw[two_pow_cast];exact Int.natCast_nonneg _
def WB:BY X (bf .Add) (KL λi j=>.int (i+j)):=WC λ_ _ _ _ _ _ _ q=>add_int q
def Ws:BY X (bf .Sub) (KL λi j=>.int (i-j)):=WC λ_ _ _ _ _ _ _ q=>sub_int q
def Wx:BY X (bf .Mult) (rI FL λi j=>.int (i*j)):=N1 λ_ _ _ _ _ _ _ d q=>mul_int q d.ok
def Sb:BY X (bf .FloorDiv) (rI Mf λi j=>.int (i / j)):=N1 λi j _ _ _ _ _ d q=>by have h1:(0:Int)<j:=d.1;have e:j<1073741824:=d.2;exact floordiv_int (by lia) (by rw[M3 i<|by lia];exact q)<|.inl<|PyProof.noPylong_small (by lia)
def Wy:BY X (bf .Mod) (rI (λ_ j=>0<j) λi j=>.int (i%j)):=N1 λi j _ _ _ _ _ d q=>by have h1:(0:Int)<j:=d;exact mod_int' (by lia) (by rw[Int.fmod_eq_emod_of_nonneg i<|by lia];exact q)
def Wv:BY X (bf .Pow) (rI wY λi j=>.int (i^j.toNat)):=N1 λ_ _ _ _ _ _ _ d q=>pow_int_small d.1 d.2.1 d.2.2 q
def Wu:BY X (bf .LShift) (rI wY λi j=>.int (i*2^j.toNat)):=N1 λ_ _ _ _ _ _ _ d q=>lshift_int_small d.1 d.2.1 d.2.2 q
def Wt:BY X (bf .RShift) (rI (λ_ j=>0<=j) λi j=>.int (i / 2^j.toNat)):=N1 λi j _ _ _ _ _ d q=>rshift_int d (by rw[M3 i<|adZ _];exact q)
def WA:BY X (bf .BitAnd) (KL λi j=>.int (b4 i j)):=WC λ_ _ _ _ _ _ _ q=>and_int q
def unI{f:iX->dW iX}{g:Int->Int}
  (rule:∀(i:Int)(t:u0)(s:iT)(Q:jG)(E:jG),Q (.int (g i) s.toks) {s with toks:=s.toks+1}->ah (ai X.prog X.w) X.A (f<|.int i t) Q E s):
  Oq X f (rU λi=>.int (g i)):=by
 intro d s j T x v Q U e h;obtain⟨i,rfl,q⟩:=h;obtain⟨t,rfl⟩:=e;exact rule i t s _ _ ⟨.int<|g i,T,U.tok _,⟨_,rfl⟩,q⟩
def Vg:Oq X (L3 .USub) (rU λi=>.int (-i)):=unI λ_ _ _ _ _ q=>neg_int q
def Ey{d:jK}{g:St}{T:Hp}{s:iT}{Q:VK}{k f:Bool}(U:Inv X d g T s)(q:Q (.bl k) T)(e:k=f):EP X d g Q (.bool f) s:=by subst e;exact⟨.bl k,T,U,rfl,q⟩
def Zt:BY X (ay .Lt) (KL λi j=>.bl (decide<|i<j)):=Se λ_ _ _ _ _ _ _ q=>lt_int q
def Zu:BY X (ay .LtE) (KL λi j=>.bl (decide<|i<=j)):=Se λ_ _ _ _ _ _ _ q=>le_int q
def Zv:BY X (ay .Gt) (KL λi j=>.bl (decide<|j<i)):=Se λ_ _ _ _ _ _ _ q=>gt_int q
def Zw:BY X (ay .GtE) (KL λi j=>.bl (decide<|j<=i)):=Se λ_ _ _ _ _ _ _ q=>ge_int q
def OB:BY X (ay .Is) (λx y T Q=>y=.V0/\Q (.bl<|decide<|x=.V0) T):=by
 intro d s g T x y v u Q U e f h;obtain⟨rfl,q⟩:=h;cases f;refine is_none_gen<|Ey U q ?_
 cases x<;>first
  |(cases e;rfl)
  |(obtain⟨t,rfl⟩:=e;rfl)
def JF:BY X (ay .IsNot) (λx y T Q=>y=.V0/\Q (.bl (!decide (x=.V0))) T):=by
 intro d s g T x y v u Q U e f h;obtain⟨rfl,q⟩:=h;cases f;refine isnot_none_gen<|Ey U q ?_
 cases x<;>first
  |(cases e;rfl)
  |(obtain⟨t,rfl⟩:=e;rfl)
def OI(b:iW){d:cK}(h:d≠ .In:=by decide)(e:d≠ .NotIn:=by decide):c9 d b=C:=af6 b h e
def RP{e:cK}{r:R2}(l:BY X (ay e) r)(i:PE X a ta)(j:PE X b tb)(k:c9 e b=C):PE X (.Compare a [e] [b] pos) (Ln r ta tb):=by intro d s p T Q U h;exact wpAny_Compare1 (Xw i j U h λv u o x y f g m n q=>l d o p f x y v u Q g m n q) k
def YU(t:TE):TT:=λe U Q=>t e U λx d=>∃k,x=.bl k/\Q k d
def RE{g:cK}{r:R2}(A:BY X (ay g) r)(q:PE X a ta)(t:PE X b tb)(w:c9 g b=C):PT X (.Compare a [g] [b] pos) (YU<|Ln r ta tb):=by intro d s i H Q U h;refine wpAny_isTrue_Compare1 (Ak (q d s i H _ U h) λv s1 f=>?_) w;obtain⟨x,j,n,L,B⟩:=f;refine Ak (t d s1 i j _ n B) λu G f=>?_;obtain⟨y,l,o,O,N⟩:=f;refine Ak (A d G i l x y v u _ o L O N) λc M f=>?_;obtain⟨z,m,p,T,k,e,E⟩:=f;subst e;cases T;exact vq ⟨m,p,E⟩
def Nr(r i:R2)(ta tb tc:TE):TE:=λd U Q=>ta d U λx f=>tb d f λy g=>r x y g λz e=>∃k,z=.bl k/\
 (if k=I then tc d e λj h=>i y j h Q else Q (.bl C) e)
def agq{j l:cK}{r p:R2}(M:BY X (ay j) r)(L:BY X (ay l) p)(O:PE X a ta)(T:PE X b tb)(G:PE X c tc)
  (J:lastMarks [j,l] [b,c]=UF:=by with_unfolding_all rfl):PE X (.Compare a [j,l] [b,c] pos) (Nr r p ta tb tc):=by
 intro f s i H Q I h;refine Compare_chain (Ak (O f s i H _ I h) λv s1 g=>?_) J;obtain⟨x,t,B,D,N⟩:=g;refine chain_link<|Ak (T f s1 i t _ B N) λu K g=>?_;obtain⟨y,w,C,q,U⟩:=g;refine Ak (M f K i w x y v u _ C D q U) λd P g=>?_;obtain⟨z,m,n,F,k,e,o⟩:=g;subst e;cases F;refine vq ?_
 cases k
 .exact ite_ff ⟨.bl UF,m,n,rfl,o⟩
 exact ite_tt<|chain_last (Ak (G f P i m _ n o) λw' s4 a'=>by obtain⟨z',A,E,r4,Y'⟩:=a';exact L f s4 i A y z' u w' Q E q r4 Y')
def Ee:(sizeLine:Nat)<2^63:=by rw[kj];decide
def adU:BY X (bf .Add) (λx y T Q=>∃i j,x=.str i/\y=.str j/\i.length+j.length<=sizeLine/\Q (.str<|i++j) T):=by intro d s l T x y v u Q U f g h;obtain⟨i,j,rfl,rfl,e,q⟩:=h;obtain⟨t,rfl⟩:=f;obtain⟨t',rfl⟩:=g;exact add_str (λt' k=>⟨.str<|i++j,T,U.tok _,⟨_,rfl⟩,q⟩) e
inductive Vl1(x:V)(us:jW):Prop where
 |mk (u:iX) (_:us=[u]) (_:RelV x u)
inductive Vl2(x y:V)(us:jW):Prop where
 |mk (u w:iX) (_:us=[u,w]) (_:RelV x u) (_:RelV y w)
def qy{x:V}{d:jW}(r:Vals [x] d):Vl1 x d:=by
 cases r with
 |cons e f=>cases f;exact⟨_,rfl,e⟩
def uP{x y:V}{d:jW}(r:Vals [x,y] d):Vl2 x y d:=by
 cases r with
 |cons e f=>
  cases f with
  |cons g h=>cases h;exact⟨_,_,rfl,e,g⟩
def Qi:kL X (.builtin "abs") (λe T Q=>∃i,e=[.int i]/\Q (.int (if i<0 then -i else i)) T):=by intro d s j T e g Q U r h;obtain⟨i,rfl,q⟩:=h;obtain⟨u,rfl,t,rfl⟩:=qy r;exact PP λu f=>⟨.int (if i<0 then -i else i),T,U.tok _,⟨_,rfl⟩,q⟩
def aeL(g:X.calm=I):kL X (.builtin "max") (λf T Q=>∃i j,f=[.int i,.int j]/\Q (.int (if j>i then j else i)) T):=by
 intro e s v T f o Q U r h;obtain⟨i,j,rfl,q⟩:=h;obtain⟨u,p,rfl,⟨t,rfl⟩,⟨m,rfl⟩⟩:=uP r;refine max_two_ints (U.ok.hd g) λl n k=>⟨_,T,U.kept k,?_,q⟩
 by_cases d:j>i
 .rw[jh d,jh d];exact⟨_,rfl⟩
 rw[jy d,jy d];exact⟨_,rfl⟩
def aeK(g:X.calm=I):kL X (.builtin "min") (λf T Q=>∃i j,f=[.int i,.int j]/\Q (.int (if j<i then j else i)) T):=by
 intro e s v T f o Q U r h;obtain⟨i,j,rfl,q⟩:=h;obtain⟨u,p,rfl,⟨t,rfl⟩,⟨m,rfl⟩⟩:=uP r;refine min_two_ints (U.ok.hd g) λl n k=>⟨_,T,U.kept k,?_,q⟩
 by_cases d:j<i
 .rw[jh d,jh d];exact⟨_,rfl⟩
 rw[jy d,jy d];exact⟨_,rfl⟩
def CS:kL X (.type "int") (λd T Q=>(∃i,d=[.int i]/\Q (.int i) T)\/∃k,d=[.bl k]/\Q (.int (if k then 1 else 0)) T):=by
 intro e s j T d g Q U r h;rcases h with⟨i,rfl,q⟩|⟨k,rfl,q⟩
 .obtain⟨u,rfl,t,rfl⟩:=qy r;exact call_int_int ⟨.int i,T,U,⟨_,rfl⟩,q⟩
 obtain⟨u,rfl,f⟩:=qy r;cases f;exact call_int_bool ⟨.int (if k then 1 else 0),T,U.tok _,⟨_,rfl⟩,q⟩
end
section
variable {a:jq}{w:jk}{A:jm}{E:jG}{s:iT}{K:jr}{x d C f:iO}{c:lJ}{b:av}{v:iX}
end
def IB.some_of{v:V}{o:Option iX}(r:IB (Y v) o):∃u,o=Y u/\RelV v u:=by
 cases o with
 |none=>exact(show False from r).elim
 |some u=>exact⟨u,rfl,r⟩
section
variable {P:jq}{w:jk}{H e:Hp}{h c:jn}{a C d:iO}{fs b:List (av×V)}
end
section
variable {X:Cx}{b:jK}{c:St}{H:Hp}{s:iT}{a C d:iO}{fs:List (av×V)}{f:av}{v:V}{A:jm}{E:jG}
end
section
variable {X:Cx}{o e a:iW}{f:av}{c b h:bn}{g d:TE}
end
section
variable {X:Cx}{a:jK}{d:St}{H:Hp}{s:iT}{A:jm}{E:jG}{Q:jG}{c:iX}{b:Bool}
end
structure BH(k:Nat)(A:jm):Prop where
 hd:A.handled=T2
 dp:A.depth+3*k+5<recursionLimit
 un:A.units+16*k+200<aV
 gd:A.guards=TW []:=by rfl
def BH.mono{j k:Nat}{A:jm}(r:BH k A)(h:j<=k):BH j A:=⟨r.hd,by have:=r.dp;lia,by have:=r.un;lia,r.gd⟩
def BH.deeper{k:Nat}{A:jm}(r:BH (k+1) A)(a:dG):BH k (A.deeper a):=
 ⟨r.hd,by have:=r.dp;show A.depth+1+3*k+5<_;lia,by have:=r.un;show A.units+3+16*k+200<_;lia,r.gd⟩
def BH.depth{k:Nat}{A:jm}(r:BH k A):A.depth<recursionLimit:=by have:=r.dp;lia
noncomputable def aa4:TA:=λ_ U Q=>Q [] U
noncomputable def Y1(d:TE)(e:TA):TA:=λa U Q=>d a U λx b=>e a b λf c=>Q (x::f) c
section
variable {X:Cx}{e:iW}{c:kr}{d:TE}{t:TA}{a:bn}
def oI:PA X [] aa4:=λ_ _ _ _ T Q U h=>Ho ⟨[],T,U,.nil,h⟩
def lS(k:PE X e d)(l:PA X c t)(m:ae (e::c) X.env=(C,aX e X.env)::ae c X.env:=by rfl):PA X (e::c) (Y1 d t):=by intro a b s f T Q U h;rw[m];show ah _ _ (t9 ((C,aX e X.env)::aI a (ae c X.env))) _ _ s;refine Hn<|Ak (k b s f T _ U h) ?_;rintro u s1 ⟨x,H1,i,p,n⟩;exact Ak (l a b s1 f H1 _ i n) λw v ⟨r,g,j,q,o⟩=>⟨x::r,g,j,.cons p q,o⟩
def aa1(t:TA):TE:=λg U Q=>t g U λf b=>VP f<=sizeLine/\∀p,b p=J->Q (.ref p) (upd b p<|.tup f)
def aa5(t:TA):TE:=λg U Q=>t g U λf b=>VP f<=sizeLine/\∀p,b p=J->Q (.ref p) (upd b p<|.lst f)
def Oj{x1}(h:PA X c t):PE X (.Tuple c x1 a) (aa1 t):=by intro f s n T Q U k;refine wpAny_Tuple_spliced<|Ak (h a f s n T _ U k) λl s1 ⟨m,g,i,r,z,q⟩=>⟨by rw[<-r.length];exact z,?_⟩;have j:g s1.heap.objs.size=J:=i.hok.fresh<|kg _;refine⟨.ref s1.heap.objs.size,upd g s1.heap.objs.size<|.tup m,i.laid (t':=s1.toks) (λb u e=>kb _ e) (kg _) ?_,rfl,q _ j⟩;exact⟨z,l,r,⟨_,kD _ rfl,rfl,_,rfl⟩⟩
def Wj(h:PA X c t):PE X (.List c a) (aa5 t):=by intro f s n T Q U k;refine wpAny_List_spliced<|Ak (h a f s n T _ U k) λl s1 ⟨m,g,i,r,z,q⟩=>⟨by rw[<-r.length];exact z,?_⟩;have j:g s1.heap.objs.size=J:=i.hok.fresh<|kg _;refine⟨.ref s1.heap.objs.size,upd g s1.heap.objs.size<|.lst m,i.laid (t':=s1.toks) (λb u e=>kb _ e) (kg _) ?_,rfl,q _ j⟩;exact⟨z,l,0,r,kD _ rfl⟩
end
abbrev Sp:=List V->Hp->VK->XK->Prop
abbrev KD:=List dG->Hp->Shared->XK->iX->Shared->Prop
structure KC(P:jq)(w:jk)(K:jr)(mg:lJ)(base:jn)(A:jm)(outer:List dG)(s:iT)(H:Hp):Prop where
 frames:A.frames=TW outer
 mod:Mod K mg base
 bs:∀b o,base.get? b=TW o->s.heap.get? b=TW o/\H b=T2
 bsz:base.objs.size<=s.heap.objs.size
 Ew:s.heap.FunFrames base outer
 frf:∀b∈Ex outer,H b=T2
 hok:Em P w H s.heap
 bare:el s.gens
inductive CE(outer:List dG)(P:jq)(w:jk)(H:Hp)(s:iT)(Q:VK)(u:iX)(s':iT):Prop where
 |mk (v:V) (H':Hp) (_:s'.os=s.os) (_:el s'.gens) (_:Un (Ex outer) [] H H' s.heap s'.heap) (_:Em P w H' s'.heap) (_:RelV v u) (_:Q v H')
def CR(CX:KD)(a:List dG)(P:jq)(w:jk)(U:Hp)(s:iT)(Q:VK)(E:XK)(r:mo)(b:iT):Prop:=
 match r with
 |.ok (.ret u)=>CE a P w U s Q u b
 |.ok _=>False
 |.error e=>CX a U s E e b
structure D9(P:jq)(w:jk)(K:jr)(mg:lJ)(base:jn)(CX:KD)(k:Nat)(f:iO)(fd:mD)(ps:jB)(sp:Sp):Prop where
 len:∀vs H Q E,sp vs H Q E->VP vs=VP ps
 run:∀(A:jm)(outer:List dG)(s:iT)(H:Hp)(args:Args)(us:jW)(vs:List V)(Q:VK)(E:XK),BH k A->KC P w K mg base A outer s H->gj s fd args (ps.zip us)->Vals vs us->sp vs H Q E->
  cg (ai P w) A (.call (.ref f) args) (CR CX outer P w H s Q E) s
def D9.mono{P:jq}{w:jk}{K:jr}{d:lJ}{base:jn}{CX:KD}{j k:Nat}{f:iO}{c:mD}{e:jB}{g:Sp}(F:D9 P w K d base CX j f c e g)(h:j<=k):
  D9 P w K d base CX k f c e g:=⟨F.len,λA a s U b us vs Q E i=>F.run A a s U b us vs Q E<|i.mono h⟩
section
variable {X:Cx}{a:jK}{c:St}{H:Hp}{s e:iT}
def Inv.Lx(U:Inv X a c H s):KC X.prog X.w X.K X.mg X.base X.A X.stack s H:=
 ⟨U.ok.frames,U.ok.mod,U.bs,lV U.ok.bsz U.sz,U.stack,U.HD,U.hok,U.bare⟩
def Inv.after{Q:VK}{u:iX}(U:Inv X a c H s)(h:CE X.stack X.prog X.w H s Q u e):EP X a c Q u e:=by obtain⟨v,j,os,f,un,i,r,q⟩:=h;obtain⟨l,g,d,t,k⟩:=e;obtain rfl:k=s.os:=os;exact⟨v,j,U.call (h':=l) (g':=g) (d':=d) (t':=t) (ch:=[]) un i f λb z=>absurd z<|by simp,r,q⟩
end
noncomputable def Y2(c:Sp)(b:List V)(E:XK)(t:TA):TE:=λe U Q=>t e U λd a=>c (d++b) a Q E
def Binds(K:jr)(c:mD)(b:jB)(a:jW):Prop:=
 ∀(s:iT)(us:jW),K.In s.heap->(us++a).length=VP b->gj s c ⟨us,[]⟩ (b.zip<|us++a)
def Binds.all{K:jr}{c:mD}{b:jB}(h:∀a:List iX,VP a=VP b->fe c ⟨a,[]⟩=pure (b.zip a)):Binds K c b []:=λs a _ d=>by rw[xQ]at d ⊢;exact .of_eq<|h a d
def EO(c:KD)(X:Cx)(E:XK):Prop:= ∀(a:jK)(d:St)(U:Hp)(s:iT)(e:iX)(b:iT),Inv X a d U s->c X.stack U s E e b->X.xe e b
section
variable {X:Cx}{l:KD}{k:Nat}{f C:iO}{j:mD}{d:jB}{i:Sp}{c:List V}{b:jW}{E:XK}{x m:av}{p a n:bn}{e o:iW}{g:kr}{v:TE}{t:TA}
def Vx{q:jK}{L:St}{H:Hp}{s:iT}{Q:VK}{y:jW}{B:List V}(F:D9 X.prog X.w X.K X.mg X.base l k f j d i)(M:BH k X.A)(G:Binds X.K j d b)(hd:Vals c b)(N:EO l X E)
  (I:Inv X q L H s)(r:Vals B y)(h:i (B++c) H Q E):ah (ai X.prog X.w) X.A (call (.ref f) y) (EP X q L Q) X.xe s:=by
 have O:Vals (B++c) (y++b):=r.append hd;have J:(y++b).length=d.length:=by rw[<-O.length];exact F.len _ _ _ _ h
 refine xP<|sf (F.run X.A X.stack s H ⟨y,[]⟩ (y++b) (B++c) Q E M I.Lx (G s y I.FU J) O h) λr U z=>?_
 cases r with
 |error e=>exact N q L H s e U I z
 |ok T=>
  cases T with
  |ret u=>exact I.after z
  |next=>exact aT z
  |brk=>exact aT z
  |cont=>exact aT z
def JB(F:D9 X.prog X.w X.K X.mg X.base l k f j d i)(J:BH k X.A)(T:Gl X x)(G:X.mg x=Y (.ref f))(hk:bP X.K (.ref f)=Uf)(L:Binds X.K j d b)(hd:Vals c b)(M:EO l X E)
  (B:PA X (e::g) t)(N:(x==("__debug__":av))=UF:=by decide)(O:ae (e::g) X.env=(UF,aX e X.env)::ae g X.env:=by rfl)(z:(aI a<|ae g X.env).any (·.1)=UF:=by rfl):
  PE X (.Call (.Name x p) (e::g) [] a) (Y2 i c E t):=by
 intro u s U H Q I h;refine tE<|wC I T G ?_ N;refine PySem.W.callWith_K (h₀:=X.base) I.ok.mod.kin hk (Ak (B a u s U H _ I h) λus s1 ⟨vs,Y',y,r,q⟩=>⟨y.FU,?_⟩) O z;exact Vx F J L hd M y r q
end
section
variable {X:Cx}{w:KD}{k:Nat}{f C:iO}{s:mD}{l q:jB}{j:Sp}{E:XK}{x m:av}{p c b a:bn}{e o:iW}{u:kr}{v:List u3}{h i:TE}{t d:TA}{n:Option av}
variable {g:List iX->List iX->List iX}{r:List V->List V->List V}
end
structure AY(N P:jB)(sc:jS):Prop where
 kind:sc.kind=.function
 co:sc.isCoroutine=UF
 gen:sc.isGenerator=UF
 nd:N.Nodup
 pre:N.take P.length=P
 par:∀x∈P,sc.names.lookup x=TW .local\/sc.names.lookup x=TW .cell
 nofree:∀y∈sc.names,y.2≠ .free
theorem CW{kindOf:av->Option dz}{x:av}:∀{binds:List (av×iX)}{m:lJ},(∀v,(x,v)∉binds)->i8 kindOf binds m x=m x
 |[],_,_=>rfl
 |(n,v)::r,m,h=>by
  unfold i8;rw[CW λw a=>h w<|kE _ a];split
  .have:x≠n:=by rintro rfl;exact h v kx
   simp[this]
  rfl
theorem CZ{kindOf:av->Option dz}{x:av}:∀{binds:List (av×iX)}{m:lJ},(∀v,(x,v)∉binds)->jp kindOf binds m x=m x
 |[],_,_=>rfl
 |(n,v)::r,m,h=>by
  unfold jp;rw[CZ λw a=>h w<|kE _ a];split
  .rfl
  have:x≠n:=by rintro rfl;exact h v kx
  simp[this]
theorem CY{kindOf:av->Option dz}{x:av}{v:iX}:∀{P:jB}{a:jW}{i:Nat}{m:lJ},P.Nodup->P[i]?=Y x->a[i]?=Y v->kindOf x=Y .local->
  i8 kindOf (P.zip a) m x=Y v
 |[],_,_,_,_,h,_,_=>by simp at h
 |_::_,[],_,_,_,_,h,_=>by simp at h
 |p::P,w::a,0,m,c,h1,b,hk=>by simp at h1 b;subst h1;subst b;show i8 kindOf ((p,w)::P.zip a) m p=_;unfold i8;rw[CW λv hv=>(zp.mp c).1 (Hm hv).1,jh hk];simp
 |p::P,w::a,i+1,m,c,h1,b,hk=>by show i8 kindOf ((p,w)::P.zip a) m x=_;unfold i8;exact CY (i:=i) (zp.mp c).2 (by simpa using h1) (by simpa using b) hk
theorem C3{kindOf:av->Option dz}{x:av}{v:iX}:∀{P:jB}{a:jW}{i:Nat}{m:lJ},P.Nodup->P[i]?=Y x->a[i]?=Y v->kindOf x≠Y .local->
  jp kindOf (P.zip a) m x=Y v
 |[],_,_,_,_,h,_,_=>by simp at h
 |_::_,[],_,_,_,_,h,_=>by simp at h
 |p::P,w::a,0,m,c,h1,b,hk=>by simp at h1 b;subst h1;subst b;show jp kindOf ((p,w)::P.zip a) m p=_;unfold jp;rw[CZ λv hv=>(zp.mp c).1 (Hm hv).1,jy hk];simp
 |p::P,w::a,i+1,m,c,h1,b,hk=>by show jp kindOf ((p,w)::P.zip a) m x=_;unfold jp;exact C3 (i:=i) (zp.mp c).2 (by simpa using h1) (by simpa using b) hk
noncomputable def oR(N:jB)(vs:List V):St:=vs.map Y++ag (VP N-VP vs) J
noncomputable def rQ(CX:KD)(P:jq)(w:jk)(K:jr)(c:lJ)(base:jn)(N:jB)(qual:av)(scope:jS)(f:iO)(cd:iX)(A:jm)(a:List dG)(s:iT)(U:Hp)(E:XK):Cx where
 prog:=P
 w:=w
 K:=K
 mg:=c
 base:=base
 A:=A.deeper<|aY qual scope s.heap.objs.size f cd
 N:=N
 s₀:=s
 H₀:=U
 env:=aY qual scope s.heap.objs.size f cd
 outer:=a
 stack:=aY qual scope s.heap.objs.size f cd::a
 ex:=[]
 calm:=I
 fn:=λ_=>I
 pn:=[]
 xe:=λe h=>ah (ai P w) (A.deeper<|aY qual scope s.heap.objs.size f cd) (M2 (aY qual scope s.heap.objs.size f cd) e) (λ_ b=>CX a U s E e b) (λg b=>CX a U s E g b) h
def Gh{a:jS}{n:Nat}{x:av}(h:a.names.lookup x=Y .cell):∃c,(bz n a.names []).lookup x=Y c:=by have q:=DE a.names n []<|.inl h;exact Mh.mp q
def aeT{Q:KD}{P:jq}{w:jk}{K:jr}{L:lJ}{base:jn}{N m:jB}{qual:av}{scope:jS}{f:iO}{cd:iX}{A:jm}{d:List dG}{s s1:iT}{H:Hp}{E:XK}{O:jW}{o:List V}
  (S:AY N m scope)(hd:A.handled=T2)(j:KC P w K L base A d s H)(Y:(VP o)=VP m)(r:Vals o O)
  (x:InCallC s s.heap.objs.size (i8 (aY qual scope s.heap.objs.size f cd).kindOf (m.zip O) λ_=>T2) (bz (s.heap.objs.size+1) scope.names []) (jp (aY qual scope s.heap.objs.size f cd).kindOf (m.zip O) λ_=>T2) s1):
  Inv (rQ Q P w K L base N qual scope f cd A d s H E) [] (oR N o) H s1:=by
 have M:(VP m)<=(VP N):=by have:=oA cZ S.pre;rw[se]at this;lia
 obtain⟨h1,D,rfl,hk⟩:=x.done;have I:∀b:iO,b∉(rQ Q P w K L base N qual scope f cd A d s H E).ex:=λb z=>absurd (show b∈([]:List iO)from z) (by simp)
 refine⟨⟨j.mod,S.kind,rfl,rfl,kg _,λy z c h1 g=>?_,λy l=>?_,λy c _ h=>?_,λ_=>hd,M1 j.frames,.inr ⟨rfl,rfl⟩,λb z=>absurd z<|I b,j.bs,j.bsz,λb _ _=>I b,λb z=>absurd z<|I b,j.Ew,j.frf⟩,
  rfl,j.bare,Un.kept hk,⟨_,x.toInCall.ns,λi y v h1 g U=>?_⟩,λy c h=>⟨_,x.cell y c h⟩,j.hok.fresh<|kg _,λy c h=>?_,λp t=>absurd (show p∈([]:List (iO×e6))from t)<|by simp,j.hok.kept hk,?_⟩
 .exact M0 x.apart (qu h1) (qu g)
 .have l:scope.names.lookup y=TW .cell\/scope.names.lookup y=TW .free:=l;rcases l with l|l
  .exact Gh l
  exact absurd UV (S.nofree _ (qu l))
 .exact wc (x.above y c<|qu h)
 .have C:i<(VP o):=by
   unfold oR at g;by_cases C:i<VP o
   .exact C
   rw[qt<|by simpa using C]at g;rw[wa]at g;split at g<;>cases g
  have G:o[i]?=TW v:=by
   unfold oR at g;rw[sd<|by simpa using C,kX]at g
   cases e:o[i]? with
   |none=>rw[e]at g;cases g
   |some a=>rw[e]at g;cases g;rfl
  obtain⟨u,T,J⟩:=r.get G
  have t:m[i]?=TW y:=by rw[<-S.pre,MZ<|by lia];exact h1
  have B:m.Nodup:=by rw[<-S.pre];exact S.nd.sublist<|xN _ _
  refine⟨u,J,?_⟩;rcases S.par y (mZ t)with k|k
  .exact .inl ⟨k,CY B t T k⟩
  obtain⟨c,e⟩:=Gh (n:=s.heap.objs.size+1) k;refine .inr ⟨.inl k,c,e,?_⟩;have q:=x.cell y c e;rw[C3 B t T (by show scope.names.lookup y≠_;rw[k];decide)]at q;exact q
 .exact j.hok.fresh (wc<|x.above y c<|qu h)
 unfold oR;show _=VP N;rw[nK,ke,MY]
 lia
def Uy{CX:KD}{P:jq}{w:jk}{K:jr}{C:lJ}{base:jn}{k:Nat}{f:iO}{j qual:av}{c:bA}{d:List bh}{scope:jS}{Y kV z pm l ct oc:iX}{an od:Option iO}
  {p0:yx}{N L:jB}{A:jm}{a:List dG}{s:iT}{H:Hp}{i:Args}{us:jW}{vs:List V}{Q:VK}{E:XK}(lk:K.lookup f=TW ⟨oc,od,.func<|bI j qual c d scope Y kV z pm an l ct,p0⟩)(n5:c8 K l qual=Uf)(S:AY N L scope)
  (O:BH (k+1) A)(B:KC P w K C base A a s H)(hb:gj s (bI j qual c d scope Y kV z pm an l ct) i (L.zip us))(r:Vals vs us)(hl:(VP vs)=VP L)
  (l4:BH k (A.deeper<|aY qual scope s.heap.objs.size f l)->∃t,Hw (rQ CX P w K C base N qual scope f l A a s H E) d t/\t {nx:=λ_ h=>Q .V0 h,rt:=Q} (oR N vs) H):
  cg (ai P w) A (.call (.ref f) i) (CR CX a P w H s Q E) s:=by
 have U:K.In s.heap:=B.mod.kin.keeps λb o e=>(B.bs b o e).1;have T:s.heap.NoLimit:=B.mod.nolimit.keeps λb o e=>(B.bs b o e).1
 have m:∀y∈L.zip us,scope.names.lookup y.1=TW .local\/(scope.names.lookup y.1=TW .cell/\((bz (s.heap.objs.size+1) scope.names []).lookup y.1).isSome=Uf):=λ⟨n,v⟩ hy=>by
  rcases S.par n (Hm hy).1 with q|q
  .exact .inl q
  exact .inr ⟨q,DE _ _ _ (.inl q)⟩
 refine codeAny_call_function O.depth (U _ _ lk) UV S.co S.gen UV (PySem.W.codeRec_of U n5)<|hb _ _ _ _ ?_;refine wpAny_newFunctionEnv_cells S.kind m λD R s1 x=>?_;subst R;refine⟨T.keeps x.toInCall.keep,codeAny_func ?_⟩;obtain⟨t,Z,X⟩:=l4<|O.deeper _;have I:Inv (rQ CX P w K C base N qual scope f l A a s H E) [] (oR N vs) H s1:=aeT S O.hd B hl r x;refine nX (Z [] s1 (oR N vs) H _ I X) (λF M p=>?_) λe M p=>p
 have fin:∀{g:St}{h:Hp}{v:V}{u:iX},Inv (rQ CX P w K C base N qual scope f l A a s H E) [] g h M->RelV v u->Q v h->CE a P w H s Q u M:=
  λ{g h v u} J G q=>⟨v,h,J.os,J.bare,J.base,J.hok,G,q⟩
 cases F with
 |ret u=>obtain⟨v,g,h,J,G,q⟩:=p;exact fin J G q
 |next=>obtain⟨g,h,J,q⟩:=p;exact fin (v:=V.V0) (u:=au) J UV q
 |brk=>obtain⟨_,_,_,q⟩:=p;exact aT q
 |cont=>obtain⟨_,_,_,q⟩:=p;exact aT q
def PK{l:KD}{P:jq}{w:jk}{K:jr}{o:lJ}{base:jn}{k:Nat}{f:iO}{d qual:av}{b:bA}{c:List bh}{scope:jS}{n kV h p g ct T:iX}{an U:Option iO}
  {L:yx}{N i:jB}{j:Sp}(lk:K.lookup f=Y ⟨T,U,.func<|bI d qual b c scope n kV h p an g ct,L⟩)(B:c8 K g qual=I)(S:AY N i scope)
  (len:∀e O Q E,j e O Q E->VP e=VP i)
  (z:∀(A:jm)(a:List dG)(s:iT)(O:Hp)(e:List V)(Q:VK)(E:XK),BH k (A.deeper<|aY qual scope s.heap.objs.size f g)->j e O Q E->
   ∃t,Hw (rQ l P w K o base N qual scope f g A a s O E) c t/\t {nx:=λ_ u=>Q .V0 u,rt:=Q} (oR N e) O):
  D9 P w K o base l (k+1) f (bI d qual b c scope n kV h p an g ct) i j:=
 ⟨len,λA a s O _ _ e Q E y v x r m=>Uy lk B S y v x r (len _ _ _ _ m) λq=>z A a s O e Q E q m⟩
section
variable {X:Cx}{x:av}{p a:bn}{e:iW}{b:kr}{t:TA}{id T:String}{r:List V->Hp->VK->Prop}
def Nc(r:List V->Hp->VK->Prop)(t:TA):TE:=λf U Q=>t f U λd c=>r d c Q
def tM(k:kL X (.builtin id) r)(m:Gl X x)(n:X.mg x=J)(hv:ax x=Y (.builtin id))(j:PA X (e::b) t)(o:x≠"__name__":=by decide)(q:(x==("__debug__":av))=C:=by decide)
  (l:ae (e::b) X.env=(C,aX e X.env)::ae b X.env:=by rfl)(i:(aI a<|ae b X.env).any (·.1)=C:=by rfl):PE X (.Call (.Name x p) (e::b) [] a) (Nc r t):=by
 intro c s d O Q U h;refine tE<|rJ U m n hv ?_ o q;exact AT (Ak (j a c s d O _ U h) λw s1 N=>by obtain⟨y,f,g,v,u⟩:=N;exact k c s1 d f y w Q g v u) l i
def qO(k:kL X (.type T) r)(m:Gl X x)(n:X.mg x=J)(hv:ax x=Y (.type T))(j:PA X (e::b) t)(o:x≠"__name__":=by decide)(q:(x==("__debug__":av))=C:=by decide)
  (l:ae (e::b) X.env=(C,aX e X.env)::ae b X.env:=by rfl)(i:(aI a<|ae b X.env).any (·.1)=C:=by rfl):PE X (.Call (.Name x p) (e::b) [] a) (Nc r t):=by
 intro c s d O Q U h;refine tE<|rJ U m n hv ?_ o q;exact DF (Ak (j a c s d O _ U h) λw s1 N=>by obtain⟨y,f,g,v,u⟩:=N;exact k c s1 d f y w Q g v u) l i
end
end L2
namespace HT
section
open PySem.SeqAt
open PySem.AutoSeq1 (wpAny_loadPart')
open PySem.MeetsSeq PySem.MeetsSeq2 PySem.MeetsSeq3
end
section
variable {a:jq}{w:jk}{A:jm}{E:jG}{s:iT}
def aaa{t b:iO}{d c:jW}{Q:jG}(y:j3 s.heap t d.toArray)(x:j3 s.heap b c.toArray)(hv:d≠[])
  (h1:c=[]->Q (.ref t) s)(v:c≠[]->Q (.ref s.heap.objs.size) {s with heap:=s.heap.push {cls:=.type "tuple",data:=.seq (d++c).toArray}})
  (l:(VP d)+VP c<=sizeLine):ah (ai a w) A (bf .Add (.ref t)<|.ref b) Q E s:=by
 obtain⟨⟨k,dd,f,q⟩,h,o,n,hd⟩:=id y;obtain⟨⟨z,m,data2,r⟩,j,u,p,g⟩:=id x;simp only at o hd u g;subst o hd u g;have e:d.toArray++c.toArray=(d++c).toArray:=by simp
 by_cases i:c=[]
 .exact DD ⟨_,h,rfl⟩ ⟨_,j,rfl⟩ Hl Hk Hj Hh (Hg _ _)
   (tuple_addW1 t b d.toArray c.toArray n p dd m q r (by simpa using hv)<|by simp[i]) ⟨h,j,h1 i⟩
 refine DD ⟨_,h,rfl⟩ ⟨_,j,rfl⟩ Hl Hk Hj Hh (Hg _ _)
  (tuple_addW2 t b d.toArray c.toArray n p dd m q r (by simpa using hv) (by simpa using i)<|by rw[kH,kH];exact l) ⟨h,j,?_⟩
 rw[e];exact v i
noncomputable def BW(n d:Nat):Option Int->Nat
 |none=>d
 |some v=>if v<0 then(v+(n:Int)).toNat else min v.toNat n
theorem XD(n d:Nat):BW n d J=d:=rfl
def Zb(n d k:Nat):BW n d (Y (k:Int))=min k n:=by show(if(k:Int)<0 then((k:Int)+(n:Int)).toNat else min (k:Int).toNat n)=min k n;rw[jy<|by lia,xM]
def Vw(n d:Nat)(hd:d<=n)(o:Option Int):BW n d o<=n:=by
 cases o with
 |none=>exact hd
 |some v=>
  show(if v<0 then(v+(n:Int)).toNat else min v.toNat n)<=n;by_cases hv:v<0
  .rw[jh hv];lia
  rw[jy hv];exact Nat.min_le_right _ _
def Kl(v:Int)(n d:Nat):(if v<0 then max (v+(n:Int)) 0 else min v (n:Int))=((BW n d (Y v):Nat):Int):=by
 show(if v<0 then max (v+(n:Int)) 0 else min v (n:Int))=(((if v<0 then(v+(n:Int)).toNat else min v.toNat n):Nat):Int)
 by_cases hv:v<0
 .simp only[jh hv];lia
 simp only[jy hv];lia
def aea(lo b:Option Int)(n:Nat):cS lo b 1 (n:Int)=(((BW n 0 lo:Nat):Int),((BW n n b:Nat):Int)):=by
 have h1: ¬((1:Int)<0):=by lia
 unfold cS;simp only[h1,my];refine Prod.ext ?_ ?_
 .cases lo with
  |none=>rfl
  |some v=>exact Kl v n 0
 cases b with
 |none=>rfl
 |some v=>exact Kl v n n
def adP(i j:Nat):bY (i:Int) (j:Int) 1=j-i:=by
 unfold bY;have h1:(1:Int)>0:=by lia
 simp only[h1,nJ,Int.ediv_one];split<;>lia
def Ao{v:iX}{o:Option Int}{Q:Option Int->Shared->Prop}(p:ey v o)(h:Q o s):ah (ai a w) A (v6 v) Q E s:=by
 cases p with
 |none=>exact Gc h
 |int i t=>exact slicePart_int h
def qI{g:iO}{e f:iX}{lo b:Option Int}{n:Nat}{Q:Int×Int×Nat->Shared->Prop}(i:s.heap.IsSliceOf g e f .none)(j:ey e lo)(k:ey f b)
  (h:Q (((BW n 0 lo:Nat):Int),1,BW n n b-BW n 0 lo) s):ah (ai a w) A (eX (.ref g)<|pure (n:Int)) Q E s:=by
 obtain⟨os,c,l,d⟩:=id i;unfold eX v7;refine iP<|iP<|pk c d (x:=e) H<|iP<|pk c d (x:=f) H<|iP<|pk c d (x:=.none) H<|je ?_;refine iP<|Gc ?_;show ah _ _ (if((1:Int)==0)=I then _ else _) _ _ s;rw[jy<|by decide];refine iP<|Ao j<|iP<|Ao k<|iP<|je ?_;show ah _ _ (match cS lo b 1 (n:Int)with|(lo,b)=>pure (lo,(1:Int),bY lo b 1)) _ _ s;rw[aea lo b n];show ah _ _ (pure (((BW n 0 lo:Nat):Int),(1:Int),bY ((BW n 0 lo:Nat):Int) ((BW n n b:Nat):Int) 1)) _ _ s;rw[adP];exact je h
def agj(b:nZ)(i k:Nat):((aj k).filterMap λ(m:Nat)=>b[((i:Int)+(m:Int)*1).toNat]?).toArray=((b.toList.drop i).take k).toArray:=by
 have e:(λ(m:Nat)=>b[((i:Int)+(m:Int)*1).toNat]?)=λm=>b[i+m]?:=by
  funext m;have:((i:Int)+(m:Int)*1).toNat=i+m:=by lia
  rw[this]
 rw[e];have:=pick_run b i k;rw[kA]at this;have c:((λx=>b[x]?)∘λx=>i+x)=λm=>b[i+m]?:=rfl;rw[c]at this;rw[this]
def aed{t e:iO}{items:nZ}{g i:iX}{lo b:Option Int}{Q:jG}(c:j3 s.heap t items)(f:s.heap.IsSliceOf e g i .none)(r:ey g lo)(u:ey i b)
  (o: ¬(BW items.size 0 lo=0/\BW items.size items.size b=items.size))
  (h:Q (.ref s.heap.objs.size) {s with heap:=s.heap.push {cls:=.type "tuple",data:=.seq ((items.toList.drop<|BW items.size 0 lo).take<|BW items.size items.size b-BW items.size 0 lo).toArray}})
  (n:items.size<=sizeLine):ah (ai a w) A (d1 (.ref t)<|.ref e) Q E s:=by
 have d:sizeOk (.seq ((items.toList.drop<|BW items.size 0 lo).take<|BW items.size items.size b-BW items.size 0 lo).toArray):=by show((items.toList.drop<|BW items.size 0 lo).take<|BW items.size items.size b-BW items.size 0 lo).toArray.size<=sizeLine;rw[kH,se,Hf,lU];omega
 have x:BW items.size items.size b<=items.size:=Vw _ _ (kg _) b;obtain⟨os,k,l,v⟩:=id f;have p:s.TypeIs (.ref e) "slice":=⟨os,k,l⟩
 unfold d1
 try with_reducible refine mz ?_
 first|refine iP (je ?_)|skip
 refine iP<|tv c.typeIs (by decide) ?_
 refine iP (tD (name:=bN "__getitem__") c.typeIs BC
  (pY BC c.typeIs MX ?_<|s9 _ _))
 show ah _ _ (cO (.ref t)>>=_) _ _ s;refine iP<|K3 c ?_;refine iP<|vZ p ?_;rw[jh<|by decide];refine iP<|qI f r u ?_
 have j: ¬((((BW items.size 0 lo:Nat):Int)==0&&(1:Int)==1&&(BW items.size items.size b-BW items.size 0 lo)==items.size)=I):=by intro q;rw[mf,mf]at q;have y:((BW items.size 0 lo:Nat):Int)=0:=sN q.1.1;have z:BW items.size items.size b-BW items.size 0 lo=items.size:=sN q.2;exact o ⟨by omega,by omega⟩
 show ah _ _ (if(((BW items.size 0 lo:Nat):Int)==0&&(1:Int)==1&&(BW items.size items.size b-BW items.size 0 lo)==items.size)=I then _ else _) _ _ s;rw[jy j,agj]
 first
  |exact iP (m:=bq _)<|oz (je ⟨_,rfl,je h⟩) d
  |exact iP (m:=bq _)<|oz (iP<|je<|je ⟨_,rfl,je h⟩) d
  |exact iP<|iP (m:=bq _)<|oz (je<|je ⟨_,rfl,je h⟩) d
  |exact iP<|iP (m:=bq _)<|oz (je ⟨_,rfl,je h⟩) d
end
end HT
namespace L2
abbrev TO:=St->Hp->(Option Int->Hp->Prop)->Prop
def PO(X:Cx)(e:Option Expr)(t:TO):Prop:=
 ∀(a:jK)(s:iT)(b:St)(U:Hp)(Q:Option Int->Hp->Prop),Inv X a b U s->t b U Q->
  ah (ai X.prog X.w) X.A (evalPart e X.env) (λu d=>∃o c,Inv X a b c d/\ey u o/\Q o c) X.xe s
noncomputable def Rh:TO:=λ_ U Q=>Q J U
def YV(t:TE):TO:=λb U Q=>t b U λx a=>∃i,x=.int i/\Q (Y i) a
section
variable {X:Cx}{e:iW}{d:TE}{lo c:Option Expr}{f g:TO}{k j:bn}
def Jz:PO X J Rh:=by intro a s b T Q U h;rw[I0];exact je ⟨J,T,U,.none,h⟩
def Jy(h:PE X e d):PO X (Y e) (YV d):=by intro a s o T Q U l;rw[evalPart_some];refine Ak (h a s o T _ U l) ?_;rintro u s1 ⟨x,H1,b,n,m⟩;obtain⟨i,rfl,q⟩:=m;obtain⟨t,rfl⟩:=n;exact⟨Y i,H1,b,.int i t,q⟩
def Ot(X:Cx)(r:V->Option Int->Option Int->Hp->VK->Prop):Prop:=
 ∀(a:jK)(s:iT)(l:St)(U:Hp)(x:V)(v h i:iX)(lo c:Option Int)(b:iO)(Q:VK),Inv X a l U s->RelV x v->s.heap.IsSliceOf b h i .none->ey h lo->ey i c->r x lo c U Q->
  ∃T id,gR (.type T) "__getitem__"=pure (Y<|.builtin id)/\s.TypeIs v T/\ah (ai X.prog X.w) X.A (d1 v<|.ref b) (EP X a l Q) X.xe s
def tSl(r:V->Option Int->Option Int->Hp->VK->Prop)(d:TE)(f g:TO):TE:=λa U Q=>d a U λx b=>f a b λl h=>g a h λu i=>r x l u i Q
def Fv{r:V->Option Int->Option Int->Hp->VK->Prop}(G:Ot X r)(E:PE X e d)(O:PO X lo f)(M:PO X c g):PE X (.Subscript e (.Slice lo c T2 j) k) (tSl r d f g):=by intro a s i H Q I h;refine Subscript_<|Ak (E a s i H _ I h) ?_;rintro v s1 ⟨x,H1,t,r1,U⟩;refine wpAny_Slice<|Ak (O a s1 i H1 _ t U) λm s2 ⟨l,p,y,N,Y'⟩=>Ak (M a s2 i p _ y Y') ?_;rintro n s3 ⟨u,o,z,pu,q3⟩;rw[I0];refine je ?_;have B:Inv X a i o {s3 with heap:=s3.heap.push {cls:=.type "slice",data:=.fields #[m,n,.none]}}:=z.kept (t':=s3.toks) λb D q=>kb _ q;obtain⟨T,id,C,J,L⟩:=G a {s3 with heap:=s3.heap.push {cls:=.type "slice",data:=.fields #[m,n,.none]}} i o x v m n l u s3.heap.objs.size Q B r1 (Heap.IsSliceOf.new ..) N pu q3;show ah (ai X.prog X.w) X.A (io e (.Slice lo c T2 j) v<|.ref s3.heap.objs.size) (EP X a i Q) X.xe {s3 with heap:=s3.heap.push {cls:=.type "slice",data:=.fields #[m,n,.none]}};exact tail_any (ops:=[.ref s3.heap.objs.size,v]) J C L (by with_unfolding_all rfl)
noncomputable def Ge(a:List V)(lo c:Option Int):List V:=(a.drop<|HT.BW (VP a) 0 lo).take<|HT.BW (VP a) (VP a) c-HT.BW (VP a) 0 lo
def yL(a:List V)(lo c:Option Int):(Ge a lo c).length<=(VP a):=by
 unfold Ge;rw[se,Hf]
 lia
def abJ(K:jr):V->Option Int->Option Int->Hp->VK->Prop:=λx lo c U Q=>∃a b,x=.ref a/\HZ K U a b/\
 ¬(HT.BW (VP b) 0 lo=0/\HT.BW (VP b) (VP b) c=VP b)/\∀p,U p=J->Q (.ref p) (upd U p<|.tup<|Ge b lo c)
def Vp:Ot X (abJ X.K):=by
 intro t s T M x v L O lo c E Q U B u z A h;obtain⟨a,l,rfl,y,w,q⟩:=h;cases B;obtain⟨m,r,n,p⟩:=U.tuple y;have i:m.toArray.size=(VP l):=by rw[kH];exact r.length.symm
 refine⟨"tuple",_,BC.lookup,n.typeIs,?_⟩;refine HT.aed n u z A (by rw[i];exact w) ?_ (by rw[i];exact p);rw[i];refine⟨.ref s.heap.objs.size,_,U.laid (t':=s.toks) (o:=.tup (Ge l lo c)) (λb N q=>kb _ q) (kg _) ?_,rfl,q _ (U.hok.fresh<|kg _)⟩;exact⟨lV (yL l lo c) p,_,(r.drop<|HT.BW (VP l) 0 lo).take<|HT.BW (VP l) (VP l) c-HT.BW (VP l) 0 lo,DC _ _⟩
def Zl(K:jr):R2:=λx y U Q=>∃a b i h,x=.ref a/\y=.ref b/\HZ K U a i/\HZ K U b h/\i≠[]/\(VP i)+VP h<=sizeLine/\
 (h=[]->Q (.ref a) U)/\(h≠[]->∀p,U p=J->Q (.ref p) (upd U p<|.tup<|i++h))
def Vals.Ia{b:List V}{a:jW}(r:Vals b a):a=[]↔b=[]:=by
 cases r with
 |nil=>simp
 |cons _ _=>simp
def Sd:BY X (bf .Add) (Zl X.K):=by intro n s N H x y v u Q U L O h;obtain⟨a,b,T,G,rfl,rfl,p,r,t,m,C,E⟩:=h;cases L;cases O;obtain⟨A,l,B,_⟩:=U.tuple p;obtain⟨J,i,j,_⟩:=U.tuple r;refine HT.aaa B j (λz=>t<|l.Ia.mp z) (λz=>⟨.ref a,H,U,rfl,C<|i.Ia.mp z⟩) (λz=>?_) (by rw[<-l.length,<-i.length];exact m);refine⟨.ref s.heap.objs.size,_,U.laid (t':=s.toks) (o:=.tup (T++G)) (λb M q=>kb _ q) (kg _) ?_,rfl,E (λw=>z<|i.Ia.mpr w) _ (U.hok.fresh<|kg _)⟩;exact⟨by rw[nK];exact m,_,l.append i,DC _ _⟩
end
noncomputable def HX(n:Nat)(i:Int):Option Nat:=if 0<=i then(if i<n then Y i.toNat else J)else if -(n:Int)<=i then Y (i+n).toNat else J
def Ij{b:Type}(a:List b)(i:Int):Option b:=(HX (VP a) i).bind λj=>a[j]?
def Ej{n:Nat}{i:Int}{j:Nat}(h:HX n i=Y j):vl i n=Y j/\j<n/\ -(n:Int)<=i/\i<n:=by
 unfold HX at h;by_cases a:0<=i
 .rw[jh a]at h;by_cases h1:i<n
  .rw[jh h1]at h;have e:i.toNat=j:=lg h;exact⟨by rw[He a h1,e],by lia,by lia,h1⟩
  rw[jy h1]at h;cases h
 rw[jy a]at h;by_cases h1: -(n:Int)<=i
 .rw[jh h1]at h;have e:(i+n).toNat=j:=lg h;exact⟨by rw[Hd (by lia) h1,e],by lia,h1,by lia⟩
 rw[jy h1]at h;cases h
def Ks{b:Type}{a:List b}{i:Int}{v:b}(h:Ij a i=Y v):∃j,vl i (VP a)=Y j/\a[j]?=Y v/\j<VP a/\ -((VP a):Int)<=i/\i<(VP a):=by
 unfold Ij at h
 cases e:HX (VP a) i with
 |none=>rw[e]at h;cases h
 |some j=>rw[e]at h;obtain⟨h1,c,d,f⟩:=Ej e;exact⟨j,h1,h,c,d,f⟩
def EN(b:iW):Prop:= ∀o i,n9 b C o i=operate [o,i] (d1 o i)
def OL(X:Cx)(r:R2):Prop:=
 ∀(c a:iW)(b:jK)(s:iT)(d:St)(U:Hp)(x y:V)(v u:iX)(Q:VK),Inv X b d U s->RelV x v->RelV y u->r x y U Q->
  n9 a C v u=operate [v,u] (d1 v u)->ah (ai X.prog X.w) X.A (io c a v u) (EP X b d Q) X.xe s
def MtR(X:Cx)(id:String)(r:V->List V->Hp->VK->Prop):Prop:=
 ∀(a:jK)(s:iT)(d:St)(U:Hp)(x:V)(c:List V)(v:iX)(b:jW)(Q:VK),Inv X a d U s->RelV x v->Vals c b->r x c U Q->
  ah (ai X.prog X.w) X.A (call (.builtin id) (v::b)) (EP X a d Q) X.xe s
section
variable {X:Cx}{a b:iW}{C tb:TE}{B:bn}
def Um{r:R2}(i:OL X r)(f:PE X a C)(g:PE X b tb)(j:EN b):PE X (.Subscript a b B) (Ln r C tb):=by intro c s n T Q U h;exact Subscript_<|Xw f g U h λv u m x y d e k l q=>i a b c m n d x y v u Q e k l q<|j _ _
def abN(K:jr):R2:=λx y U Q=>∃p c i v,x=.ref p/\y=.int i/\F5 K U p c/\Ij c i=Y v/\Q v U
def abM(K:jr):R2:=λx y U Q=>∃p c i v,x=.ref p/\y=.int i/\HZ K U p c/\Ij c i=Y v/\Q v U
def SO:OL X (abN X.K):=by
 intro k g c s o H x y v u Q I M N h n;obtain⟨p,P,i,z,rfl,rfl,G,O,q⟩:=h;cases M;obtain⟨t,rfl⟩:=N;obtain⟨e,r,f,F⟩:=I.list G;obtain⟨j,h1,A,Y,E,L⟩:=Ks O;obtain⟨w,l,J⟩:=r.get A;have T:=r.length;have D:=Ee;have fin:EP X c o Q w s:=⟨z,H,I,J,q⟩
 by_cases m:0<=i
 .have d:i.toNat=j:=by rw[He m L]at h1;exact lg h1
  exact item_listR f.isList m (by lia) (by rw[d];simpa using l) fin n
 have d:(i+(e.toArray.size:Int)).toNat=j:=by rw[Hd (by lia) E]at h1;rw[kH,<-T];exact lg h1
 exact MW (x:=w) f.isList.typeIs ul.lookup
  (wpAny_getItem_list_neg (Q:=λr U=>r=w/\EP X c o Q r U) f.isList (by lia) (by rw[kH]<;>lia) (by lia) (by rw[d];simpa using l) ⟨rfl,fin⟩) n
def WU:OL X (abM X.K):=by
 intro e d c s g H x y v u Q I O T h A;obtain⟨p,D,i,z,rfl,rfl,o,m,q⟩:=h;cases O;obtain⟨t,rfl⟩:=T;obtain⟨E,r,f,Y⟩:=I.tuple o;obtain⟨j,h1,l,J,M,N⟩:=Ks m;obtain⟨w,k,L⟩:=r.get l;have n:=r.length;have U:=Ee;have fin:EP X c g Q w s:=⟨z,H,I,L,q⟩
 exact MW (x:=w) f.typeIs BC.lookup
  (getItem_tuple (j:=j) (Q:=λr G=>r=w/\EP X c g Q r G) f (by lia) (by lia) (by rw[kH,<-n];exact h1) (by simpa using k) ⟨rfl,fin⟩) A
def adY(c:jW)(n j:Nat)(u:iX):aO (·.setIfInBounds j u) {cls:=.type "list",data:=.seq c.toArray n}={cls:=.type "list",data:=.seq (c.set j u).toArray n}:=by simp[aO]
def Inv.lst{d:jK}{f:St}{T:Hp}{s:iT}{p:iO}{xs:List V}(U:Inv X d f T s)(h:T p=Y (.lst xs)):
  ∃(c:jW)(n:Nat),Vals xs c/\s.heap.get? p=Y {cls:=.type "list",data:=.seq c.toArray n}/\(VP xs)<=sizeLine:=by
 obtain⟨z,c,n,r,e⟩:=U.hok p _ h;exact⟨c,n,r,e,z⟩
def Inv.Lu{d:jK}{l:St}{T:Hp}{s:iT}{p:iO}{w j:List V}{g c:jW}{n i:Nat}{f:e6->e6}(U:Inv X d l T s)(h:T p=Y (.lst w))
  (o:s.heap.get? p=Y {cls:=.type "list",data:=.seq g.toArray n})(k:f {cls:=.type "list",data:=.seq g.toArray n}={cls:=.type "list",data:=.seq c.toArray i})(r:Vals j c)(v:(VP j)<=sizeLine)(t:Nat):
  Inv X d l (upd T p<|.lst j) {s with heap:=s.heap.update p f,toks:=t}:=by
 have e:(s.heap.update p f).get? p=Y {cls:=.type "list",data:=.seq c.toArray i}:=by rw[tx f o<|by rw[k]<;>rfl,k]
 refine U.write (x:=p) (e:=p) (by rw[h];trivial) (.inl H) (λb u m q=>(DA _ _ (pz m)).trans q) ⟨_,e⟩ ?_;exact⟨v,c,i,r,e⟩
def Zi:V->V->V->Hp->(Hp->Prop)->Prop:=λo i v U Q=>∃p c k j,o=.ref p/\i=.int k/\U p=Y (.lst c)/\HX (VP c) k=Y j/\Q (upd U p<|.lst<|c.set j v)
def afH:XA X Zi:=by
 intro d s T H o i v N M u Q U E A L h;obtain⟨p,O,k,j,rfl,rfl,x,y,q⟩:=h;cases E;obtain⟨t,rfl⟩:=A;obtain⟨c,n,r,f,z⟩:=U.lst x;obtain⟨h1,G,m,w⟩:=Ej y;have e:=r.length;have J:=Ee
 have g:Inv X d T (upd H p<|.lst<|O.set j v) {s with heap:=s.heap.update p (aO (·.setIfInBounds j u))}:=
  U.Lu x f (adY c n j u) (r.set L j) (by rw[tw];exact z) s.toks
 by_cases l:0<=k
 .have hk:k.toNat=j:=by rw[He l w]at h1;exact lg h1
  exact PySem.W.ki_setAt f l (by lia) (by rw[kH,<-e];exact w) (by rw[hk];exact⟨_,g,q⟩)
 have hk:(k+(c.toArray.size:Int)).toNat=j:=by rw[Hd (by lia) m]at h1;rw[kH,<-e];exact lg h1
 exact PySem.W.ki_setBack f (by lia) (by rw[kH,<-e];exact m) (by lia) (by rw[hk];exact⟨_,g,q⟩)
def ac4(lo c:Option Int)(n:Nat):(dh lo c J n).1=((HT.BW n 0 lo:Nat):Int)/\(dh lo c J n).2.1=((HT.BW n n c:Nat):Int)/\(dh lo c J n).2.2=1:=by
 refine⟨?_,?_,rfl⟩
 .cases lo with
  |none=>simp[dh,HT.BW]
  |some i=>
   simp only[dh,HT.BW,j5,show(1:Int)>0 by decide,nJ];by_cases h:i<0
   .simp only[h,nJ]<;>lia
   simp only[h,my]<;>lia
 cases c with
 |none=>simp[dh,HT.BW]
 |some i=>
  simp only[dh,HT.BW,j5,show(1:Int)>0 by decide,nJ];by_cases h:i<0
  .simp only[h,nJ]<;>lia
  simp only[h,my]<;>lia
def acF(c:jW)(lo d:Option Int):slicePick c.toArray lo d J=((c.drop<|HT.BW (VP c) 0 lo).take<|HT.BW (VP c) (VP c) d-HT.BW (VP c) 0 lo).toArray:=by obtain⟨h1,e,f⟩:=ac4 lo d c.toArray.size;unfold slicePick;rw[h1,e,f];simp only[sliceRange_one,pick_run,kH]<;>rfl
def abK(K:jr):V->Option Int->Option Int->Hp->VK->Prop:=λx lo d U Q=>∃a c,x=.ref a/\F5 K U a c/\∀p,U p=J->Q (.ref p) (upd U p<|.lst<|Ge c lo d)
def Rj:Ot X (abK X.K):=by intro g s z T x v w y lo e u Q U p i m n h;obtain⟨a,c,rfl,j,q⟩:=h;cases p;obtain⟨l,r,f,k⟩:=U.list j;have d:=r.length;refine⟨"list",_,ul.lookup,f.isList.typeIs,?_⟩;refine wpAny_getItem_list_slice f.isList i m n .none (by simp) ?_ (by rw[kH]<;>lia);rw[acF,<-d];refine⟨.ref s.heap.objs.size,_,U.laid (t':=s.toks) (o:=.lst (Ge c lo e)) (λb t q=>kb _ q) (kg _) ?_,rfl,q _ (U.hok.fresh<|kg _)⟩;exact⟨lV (yL c lo e) k,_,0,(r.drop<|HT.BW c.length 0 lo).take<|HT.BW c.length c.length e-HT.BW c.length 0 lo,kD _ rfl⟩
def wV:kL X (.builtin "len") (λk T Q=>∃p d,k=[.ref p]/\(F5 X.K T p d\/HZ X.K T p d)/\Q (.int d.length) T):=by
 intro j s t T k o Q U r h;obtain⟨p,d,rfl,e,q⟩:=h;obtain⟨u,rfl,m⟩:=qy r;cases m;have n:=Ee;rcases e with e|e
 .obtain⟨f,i,g,l⟩:=U.list e;have c:=i.length;exact Calls.call_len_list g.isList (by simp only[kH]<;>lia) ⟨.int d.length,T,U.tok _,⟨s.toks+1,by rw[kH,c]⟩,q⟩
 obtain⟨f,i,g,l⟩:=U.tuple e;have c:=i.length;exact len_tuple g (by simp only[kH]<;>lia) ⟨.int d.length,T,U.tok _,⟨s.toks+1,by rw[kH,c]⟩,q⟩
def wU:kL X (.type "list") (λE N Q=>∃p i,E=[.ref p]/\(F5 X.K N p i\/HZ X.K N p i)/\∀l,N l=J->Q (.ref l) (upd N l<|.lst i)):=by
 intro v s O N E T Q U r h;obtain⟨p,i,rfl,k,q⟩:=h;obtain⟨u,rfl,L⟩:=qy r;cases L
 have fin:∀(c:jW),Vals i c->i.length<=sizeLine->∀(d:jn)(f:Nat),(∀b A,s.heap.get? b=Y A->d.get? b=Y A)->
   d.get? s.heap.objs.size=Y {cls:=.type "list",dict:=J,data:=.seq c.toArray f,slots:= #[]}->EP X v O Q (.ref s.heap.objs.size) {s with heap:=d}:=λc g m d f t e=>
  ⟨.ref s.heap.objs.size,_,U.laid (t':=s.toks) t (kg _) (show AA X.prog X.w _ d _ (.lst i)from⟨m,c,f,g,e⟩),rfl,q _ (U.hok.fresh<|kg _)⟩
 rcases k with k|k
 .obtain⟨c,g,z,m⟩:=U.list k;have j:=g.length;obtain⟨o,y,x,n,hd⟩:=z.isList;exact KE p (.inl H) y x hd (λd f t e=>fin c g m d f t e) (by simp only[kH]<;>omega)
 obtain⟨c,g,z,m⟩:=U.tuple k;have j:=g.length;obtain⟨o,y,x,n,hd⟩:=z;exact KE p (.inr H) y x hd (λd f t e=>fin c g m d f t e) (by simp only[kH]<;>omega)
def uW:kL X (.type "tuple") (λv T Q=>∃p f,v=[.ref p]/\((F5 X.K T p f/\∀l,T l=J->Q (.ref l) (upd T l<|.tup f))\/(HZ X.K T p f/\Q (.ref p) T))):=by
 intro c s x T v E Q U r h;obtain⟨p,f,rfl,h⟩:=h;obtain⟨u,rfl,A⟩:=qy r;cases A;rcases h with⟨i,q⟩|⟨i,q⟩
 .obtain⟨d,k,j,t⟩:=U.list i;have n:=k.length;refine call_tuple_list j.isList (λg z=>?_) (by simp only[kH]<;>lia);have m:Inv X c x T {s with heap:=g}:=U.kept (t':=s.toks) z
  have y:Inv X c x (upd T g.objs.size<|.tup f) {s with heap:=g.push {cls:=.type "tuple",data:=.seq d.toArray}}:=
   m.laid (t':=s.toks) (λb o e=>kb _ e) (kg _) (show AA X.prog X.w _ _ _ (.tup f)from⟨t,d,k,DC _ _⟩)
  exact⟨.ref g.objs.size,_,y,rfl,q _ (m.hok.fresh<|kg _)⟩
 obtain⟨d,k,j,t⟩:=U.tuple i;exact call_tuple_same j ⟨.ref p,T,U,rfl,q⟩
def tyV(K:jr)(T:String)(x:V)(U:Hp):Prop:=match x with
 |.str _=>T="str"
 |.int _=>T="int"
 |.ref p=>(T="list"/\∃d,F5 K U p d)\/(T="tuple"/\∃o,K.lookup p=Y o/\o.cls=.type "tuple"/\o.dict=J)\/
   (T="dict"/\((∃c,U p=Y (.dK c))\/∃c,U p=Y (.dT c)))\/(T="set"/\∃S n,U p=Y (.set S n))
 |_=>False
def Nn{d:jK}{q:St}{Q:Hp}{s:iT}{T:String}{x:V}{v:iX}(U:Inv X d q Q s)(r:RelV x v)(ty:tyV X.K T x Q):
  s.TypeIs v T/\∀a,v=.ref a->∃h,s.heap.get? a=Y h/\h.dict=J:=by
 cases x with
 |str z=>obtain⟨t,rfl⟩:=r;cases(show T="str" from ty);exact⟨typeIs_str s z t,λ_ e=>nomatch e⟩
 |int i=>obtain⟨t,rfl⟩:=r;cases(show T="int" from ty);exact⟨sm s i t,λ_ e=>nomatch e⟩
 |ref p=>
  cases r;rcases ty with⟨rfl,u,l⟩|⟨rfl,o,hk,k,hd⟩|⟨rfl,hk⟩|⟨rfl,S,n,hk⟩
  .obtain⟨m,_,j,_⟩:=U.list l;refine⟨j.isList.typeIs,λa e=>?_⟩;cases e;obtain⟨o,n,e,c,hd,_⟩:=j;exact⟨o,e,hd⟩
  .refine⟨⟨o,U.FU p o hk,k⟩,λa e=>?_⟩;cases e;exact⟨o,U.FU _ o hk,hd⟩
  .have z:∃o,s.heap.get? p=Y o/\o.ExactDict:=by
    rcases hk with⟨g,hk⟩|⟨g,hk⟩
    .obtain⟨_,_,_,_,o,_,_,e,ex,_⟩:=U.hok p _ hk;exact⟨o,e,ex⟩
    obtain⟨_,_,_,_,o,_,_,e,ex,_⟩:=U.hok p _ hk;exact⟨o,e,ex⟩
   obtain⟨o,e,ex⟩:=z;refine⟨⟨o,e,ex.1⟩,λa f=>?_⟩;cases f;exact⟨o,e,ex.2.1⟩
  obtain⟨o,_,_,_,e,ex,_⟩:=U.hok p _ hk;refine⟨⟨o,e,ex.1⟩,λa f=>?_⟩;cases f;exact⟨o,e,ex.2.1⟩
 |_=>exact aT ty
def aba(K:jr)(T:String)(r:V->List V->Hp->VK->Prop)(to:TE):TE:=λd U Q=>to d U λx c=>tyV K T x c/\r x [] c Q
def tBM(K:jr)(T:String)(r:V->List V->Hp->VK->Prop)(to:TE)(t:TA):TE:=λd U Q=>to d U λx c=>tyV K T x c/\t d c λf e=>r x f e Q
variable {o e:iW}{m:kr}{to:TE}{t:TA}{d:av}{g A:bn}{T id:String}{r:V->List V->Hp->VK->Prop}
abbrev NQ(X:Cx)(p:bn)(m:kr):Prop:=((aI p<|ae m X.env).all (λx=>!x.1)&&(fg p<|dv [] X.env).all (λx=>x.1.isSome)&&decide (VP m+([]:List u3).length+(if([]:List u3).isEmpty then 0 else 1)<30))=I
abbrev LU(X:Cx)(o:iW)(d:av):Prop:=attributeBase o d X.env (aX o X.env)=aX o X.env
def Wk(w:PlainAttrs T)(slot:Slot T d id)(k:kS (.builtin id)=pure (.type "method_descriptor"))(p:MtR X id r)(q:PE X o to)
  (u:LU X o d:=by rfl)(n:(g.endLine==A.line)=I:=by rfl):PE X (.Call (.Attribute o d g) [] [] A) (aba X.K T r to):=by
 intro c s j O Q U h;refine wpAny_Call_method0_late u n<|Ak (q c s j O _ U h) ?_;rintro v s1 ⟨x,H1,f,i,ty,y⟩;obtain⟨h1,l⟩:=Nn f i ty;exact⟨T,id,w,slot,k,h1,l,MV H<|PySem.evalArgs_none<|p c s1 j H1 x [] v [] Q f i .nil y⟩
def JC(J:PlainAttrs T)(slot:Slot T d id)(q:kS (.builtin id)=pure (.type "method_descriptor"))(z:MtR X id r)(E:PE X o to)(y:PA X (e::m) t)
  (O:LU X o d:=by rfl)
  (G:NQ X A (e::m):=by rfl)
  (w:(g.endLine==A.line)=Uf:=by rfl)(L:ae (e::m) X.env=(UF,aX e X.env)::ae m X.env:=by rfl)(p:(aI A<|ae m X.env).any (·.1)=UF:=by rfl):
  PE X (.Call (.Attribute o d g) (e::m) [] A) (tBM X.K T r to t):=by
 intro c s f H Q I h;refine wpAny_Call_method_late O G w UV<|Ak (E c s f H _ I h) ?_;rintro v s1 ⟨x,H1,i,k,ty,M⟩;obtain⟨h1,u⟩:=Nn i k ty;refine⟨T,id,J,slot,q,h1,u,?_⟩;have j:=y A c s1 f H1 _ i M;rw[L]at j ⊢;refine MV (by show(UF||(aI A<|ae m X.env).any (·.1))=UF;rw[p]<;>rfl)<|MU ?_;exact Ak j λus Y' ⟨vs,l,n,U,N⟩=>z c Y' f l x vs v us Q n k U N
end
def OJ(X:Cx)(id:String)(r:V->List V->Hp->VK->Prop):Prop:=
 ∀(a:jK)(s:iT)(d:St)(U:Hp)(x:V)(c:List V)(v:iX)(b:jW)(Q:VK),Inv X a d U s->RelV x v->Vals c b->r x c U Q->
  ah (ai X.prog X.w) X.A (call (.builtin id) (v::b)) (EP X a d Q) X.xe s
def Vals.one{x:V}{a:jW}:Vals [x] a->Vl1 x a:=qy
def Vals.zero:∀{a:jW},Vals [] a->a=[]
 |_,.nil=>rfl
def Vals.dropLast{b:List V}{a:jW}(h:Vals b a):Vals b.dropLast a.dropLast:=by
 induction h with
 |nil=>exact .nil
 |cons r t c=>
  cases t with
  |nil=>exact .nil
  |cons q d=>exact .cons r c
theorem Vals.eraseIdx:∀{b:List V}{a:jW}(i:Nat),Vals b a->Vals (b.eraseIdx i) (a.eraseIdx i)
 |_,_,_,.nil=>.nil
 |_,_,0,.cons _ t=>t
 |_,_,i+1,.cons r t=>.cons r (Vals.eraseIdx i t)
theorem Vals.rep{b:List V}{a:jW}(h:Vals b a):∀k:Nat,Vals (ag k b).flatten (ag k a).flatten
 |0=>.nil
 |k+1=>by rw[tu,tu,xK,xK];exact Vals.append h<|Vals.rep h k
def aeh{d:Type}(l:List d):l.eraseIdx (VP l-1)=l.dropLast:=by
 induction l with
 |nil=>rfl
 |cons a r c=>
  cases r with
  |nil=>rfl
  |cons b r=>
   have e:(a::b::r).length-1=((b::r).length-1)+1:=by
    have h1:(a::b::r).length=VP r+2:=rfl;have f:(b::r).length=VP r+1:=rfl
    lia
   rw[e,List.eraseIdx_cons_succ,c]
   all_goals rfl
theorem Cu{a:Type}:∀(l:List a)(i:Nat),(l.eraseIdx i).length<=VP l
 |[],_=>kg _
 |_::_,0=>xJ _
 |_::r,i+1=>Nat.succ_le_succ<|Cu r i
theorem CB(b:jW):∀(k:Nat)(a:jW),
  e8 (λx1 x2=>x1++x2) a.toArray (ag k b.toArray)=(a++(ag k b).flatten).toArray
 |0,a=>by simp
 |k+1,a=>by
  have e:a.toArray++b.toArray=(a++b).toArray:=by simp
  have c:(a++b)++(ag k b).flatten=a++(ag (k+1) b).flatten:=by rw[tu,xK,pX]
  rw[<-c,<-CB b k (a++b),<-e,tu,tj]
section
variable {X:Cx}{pins:jK}{σ:St}{H:Hp}{s:iT}{l b:iO}{xs ys zs:List V}
def Inv.L7{a its':jW}{n:Nat}{f:Array iX->Array iX}{j:Nat}(U:Inv X pins σ H s)(c:H l=Y (.lst xs))
  (e:s.heap.get? l=Y {cls:=.type "list",data:=.seq a.toArray n})(g:f a.toArray=its'.toArray)(hv:Vals ys its')(i:(VP ys)<=sizeLine):
  Inv X pins σ (upd H l<|.lst ys) {s with heap:=s.heap.update l<|aO f,toks:=j}:=by
 have q:=PySem.IsL.update e f;rw[g]at q;refine U.write (x:=l) (e:=l) (by rw[c];exact trivial) (.inl UV) (λk u d h=>(DA s.heap (aO f)<|pz d).trans h) ⟨_,q⟩ ?_;exact⟨i,its',_,hv,q⟩
def Inv.Lv{a:jW}{t':Nat}(U:Inv X pins σ H s)(hv:Vals ys a)(c:(VP ys)<=sizeLine):
  Inv X pins σ (upd H s.heap.objs.size<|.lst ys) {s with heap:=s.heap.push {cls:=.type "list",data:=.seq a.toArray},toks:=t'}:=
 U.laid (λ_ _ q=>kb _ q) (kg _) ⟨c,a,0,hv,kD _ rfl⟩
def Inv.fresh(U:Inv X pins σ H s):H s.heap.objs.size=J:=U.hok.fresh<|kg _
inductive LsM(h:jn)(l:iO)(xs:List V):Prop where
 |mk (_:(VP xs)<=sizeLine) (its:jW) (n:Nat) (_:Vals xs its) (_:(VP xs)=VP its) (_:h.get? l=TW {cls:=.type "list",data:=.seq its.toArray n})
def Inv.K8(U:Inv X pins σ H s)(c:H l=Y (.lst xs)):LsM s.heap l xs:=by obtain⟨z,a,n,r,e⟩:=U.hok l _ c;exact⟨z,a,n,r,r.length,e⟩
def FF{n:Nat}(h:n<=sizeLine):b5 n=C:=by unfold b5;exact mq (by lia)
end
section
variable {X:Cx}
def Ru:V->List V->Hp->VK->Prop:=λx b U Q=>∃l a y,x=.ref l/\b=[y]/\U l=Y (.lst a)/\(VP a)<sizeLine/\Q .V0 (upd U l<|.lst<|a++[y])
def afm:OJ X "list.append" Ru:=by
 intro c s p T x m v k Q U g f h;obtain⟨l,o,y,rfl,rfl,b,j,q⟩:=h;cases g;obtain⟨u,rfl,d⟩:=f.one;obtain⟨z,a,n,r,i,e⟩:=U.K8 b;refine vY F.slot_list_append ⟨_,e,rfl⟩ MT (MS _ _) (iG l a.toArray n u<|by rw[kH];lia) ⟨e,?_⟩;refine⟨.V0,_,U.L7 (its':=a++[u]) b e (by simp) (r.append<|.cons d .nil) ?_,rfl,q⟩;rw[nK,xH]
 lia
def Rt:V->List V->Hp->VK->Prop:=λx d U Q=>∃l b a c,x=.ref l/\d=[.ref b]/\U l=Y (.lst a)/\U b=Y (.lst c)/\(VP a)+VP c<=sizeLine/\Q .V0 (upd U l<|.lst<|a++c)
def afl:OJ X "list.extend" Rt:=by
 intro g s G M x N v B Q U w t h;obtain⟨l,b,L,T,rfl,rfl,f,k,A,q⟩:=h;cases w;obtain⟨u,rfl,p⟩:=t.one;cases p;obtain⟨z,a,n,r,y,e⟩:=U.K8 f;obtain⟨O,c,m,o,E,j⟩:=U.K8 k;have d:a.toArray.size+c.toArray.size<=sizeLine:=by rw[kH,kH];lia
 have i: ¬(!a.toArray.isEmpty&&b5 (a.toArray.size+c.toArray.size))=I:=by rw[FF d,gv];exact lH
 refine vY F.slot_list_extend ⟨_,e,rfl⟩ F.entry_list_extend (F.args_list_extend_2 _ _)
  (AutoSeq1.list_extend_list_list_0 l a.toArray n b c.toArray m i (by rw[kH];lia)<|by lia) ⟨e,j,?_⟩
 refine⟨.V0,_,U.L7 (its':=a++c) f e (by simp) (r.append o) ?_,rfl,q⟩;rw[nK]
 lia
def abL:V->List V->Hp->VK->Prop:=λx b U Q=>∃l a y,x=.ref l/\b=[]/\U l=Y (.lst a)/\a[VP a-1]?=Y y/\Q y (upd U l<|.lst a.dropLast)
def WI:OJ X "list.pop" abL:=by
 intro d s A T x t v p Q U o m h;obtain⟨l,w,y,rfl,rfl,c,j,q⟩:=h;cases o;have b:=m.zero;subst b;obtain⟨z,a,n,r,g,e⟩:=U.K8 c;obtain⟨u,i,k⟩:=r.get j
 have f:a.toArray[a.toArray.size-1]?=Y u:=by show a.toArray[VP a-1]?=Y u;rw[<-mE,<-g];exact i
 refine vY F.slot_list_pop ⟨_,e,rfl⟩ F.entry_list_pop (F.args_list_pop_1 _) (MeetsSeq.list_pop_last l a.toArray n u f<|by rw[kH];lia) ⟨e,?_⟩;refine⟨y,_,U.L7 (its':=a.dropLast) c e ?_ r.dropLast ?_,k,q⟩
 .show a.toArray.eraseIdxIfInBounds (a.toArray.size-1)=a.dropLast.toArray;rw[kH,MR,aeh]
 rw[Hc]
 lia
def VJ:V->List V->Hp->VK->Prop:=λx b U Q=>∃l a i k y,x=.ref l/\b=[.int i]/\U l=Y (.lst a)/\ -(2^63)<=i/\i<2^63/\vl i (VP a)=Y k/\a[k]?=Y y/\Q y (upd U l<|.lst<|a.eraseIdx k)
def af7:OJ X "list.pop" VJ:=by
 intro c s L O x E v T Q U A p h;obtain⟨l,B,i,k,y,rfl,rfl,b,h1,d,hk,j,q⟩:=h;cases A;obtain⟨u,rfl,o⟩:=p.one;obtain⟨t,rfl⟩:=o;obtain⟨z,a,n,r,f,e⟩:=U.K8 b;obtain⟨w,g,m⟩:=r.get j
 refine vY F.slot_list_pop ⟨_,e,rfl⟩ F.entry_list_pop (F.args_list_pop_2 _ _)
  (MeetsSeq.list_pop_at l a.toArray n i t k w (Ev h1 d) (by rw[kH,<-f];exact hk) (by rw[<-mE];exact g)<|by rw[kH];lia) ⟨e,?_⟩
 refine⟨y,_,U.L7 (its':=a.eraseIdx k) b e ?_ (r.eraseIdx k) ?_,m,q⟩
 .show a.toArray.eraseIdxIfInBounds k=(a.eraseIdx k).toArray;rw[MR]
 have:=Cu B k
 lia
def Su{c:Type}(a:List c)(k:Nat):(ag k a).flatten.length=k*(VP a):=by
 induction k with
 |zero=>simp
 |succ k b=>rw[tu,xK,nK,b,Nat.succ_mul,wr]
end
section
variable {a:jq}{w:jk}{A:jm}{E:jG}{s:iT}
end
section
variable {X:Cx}
end
end L2
namespace Att
open PySem.W PySem.Calls
def zd{P:Params}{h:jn}:∀(c:ja)(d:jW),WellAll P h d (c.map WData.int)->ek d c:=by
 intro c
 induction c with
 |nil=>intro d w;rw[sM]at w;cases w;exact .nil
 |cons n c e=>
  intro d w;rw[kM]at w
  cases w with
  |cons a b=>
   cases a;exact .cons _ _ (e _ b)
def aeF{l:OpenLaw}{n:Nat}(v:l.most=Y n){P:Params}{h:jn}{b:List WData}{e:jW}
  (j:l.row.toRowW.claim.pre b=I)(s:WellAll P h e b):
  ∃a m c,e=[bU a]/\b=[WData.list<|c.map WData.int]/\h.get? a=Y {cls:=.type "list",data:=.seq m.toArray}/\ek m c/\(VP c)<=n:=by
 have p:WShape.hasAll [] b [.list .int]=I:=(pre_splitW j).1;have k:l.pre.holds [] {args:=b}=I:=(pre_splitW j).2;obtain⟨d,r,rfl,h1,t⟩:=hasAllW_cons p;obtain rfl:=hasAllW_nil t;obtain⟨A,rfl,u⟩:=hasW_list h1;obtain⟨c,rfl⟩:=items_int u
 have f:(VP c)<=n:=by
  unfold OpenLaw.pre at k
  have g:(WTm.not<|.lt (.lit<|.int (n:Int))<|.len<|.arg 0).holds [] {args:=[.list<|c.map .int]}=I:=by have g:=(holds_andW k).1;rw[v]at g;exact g
  have i:=condW_of g<|w_not<|w_lt w_lit<|w_len_list<|w_arg H;rw[ke]at i;refine rc λq=>?_;have x:(n:Int)<(((VP c):Nat):Int):=by omega
  first
   |(rw[nI x]at i;exact absurd i<|by decide)
   |(simp at i;omega)
 cases s with
 |cons y z=>
  cases z
  cases y with
  |list w o=>exact⟨_,_,c,rfl,rfl,w,zd c _ o,f⟩
def aer(l:OpenLaw)(a:List WData):l.row.toRowW.claim.post a (.bool I) a=I:=
 postW_of (r:=l.row.toRowW) (X:=I==I)
  (show WShape.has [] (.bool I) .bool=I by first|rfl|decide|simp[WShape.has,WShape.arms,WShape.armsAll])
  (show(WTm.eq .res<|.lit<|.bool I).value [] {args:=a,res:=Y<|.bool I,after:=a}=Y (.bool<|I==I)from w_eq_bool (w_res H) w_lit) rfl
def TU{l:OpenLaw}{n:Nat}{q:jq}{c:jB}{x:(av->Option iX)->jn->Prop}{y:jk->jn->Prop}{d:DefRec}
  (hn:l.most=TW n)(L:d.params.defaults=[])
  (call:∀(w:jk)(e b:iT)(m u:lJ)(j:iO)(o:e6)(v cd g:iX)(a:iO)(i:jW)(p:ja),
   Ground q c [] x w e m u b.heap->y w b.heap->
   b.heap.get? j=TW o->o.data=.func (docDef d.name d.params d.body d.scope v cd g)->b.heap.CodeRec cd d.name->m d.name=TW (.ref j)->
   b.heap.get? a=TW {cls:=.type "list",data:=.seq i.toArray}->ek i p->VP p<=n->b.gens= #[]->
   cg (ai l.prog w) gg (.call (.ref j) ⟨[.ref a],[]⟩) (λr s=>r=.ok (.ret<|.bool Uf)/\OldK b.heap s.heap/\s.os=b.os/\el s.gens) b):
  WalkO q c x y l.row.toRowW d [] (λf i=>vu f i):=by
 intro w e b m u G Y j o v cd g I kV D hd P A t M z C as E B K O N;obtain rfl:I=.none:=Dflts.none A L;obtain rfl:kV=.none:=Dflts.noKw A;obtain⟨a,i,p,rfl,rfl,H,h,k⟩:=aeF hn E O;refine enter_call<|sf (call w e b m u j o v cd g a i p G Y D (fd_plain hd) P t H h k M) λr s F=>?_;obtain⟨rfl,Q,T,J⟩:=F;exact⟨.inl ⟨.bool Uf,.bool Uf,[],rfl,λ_=>rfl,.bool Uf,aer l _,λ_=>⟨c3,λ_ U=>(nomatch U)⟩⟩,Q,T,J⟩
section
variable {a:jq}{w:jk}{A:jm}{E:jG}{s:iT}{K:Frag}
end
end Att
namespace L2
def aet{b:jW}{a:ja}(h:ek b a):Vals (a.map V.int) b:=by
 induction h with
 |nil=>exact .nil
 |cons n t h c=>exact .cons ⟨t,rfl⟩ c
noncomputable def qe(s:bh):Arguments:=match s with
 |.FunctionDef _ a _ _ _ _ _ _ _ _=>a
 |_=>{posonlyargs:=[],args:=[],vararg:=J,kwonlyargs:=[],kw_defaults:=[],kwarg:=J,defaults:=[]}
noncomputable def mm(s:bh):List Stmt:=match s with
 |.FunctionDef _ _ b _ _ _ _ _ _ _=>b
 |_=>[]
noncomputable def jb(s:bh):Scope:=match s with
 |.FunctionDef _ _ _ _ _ _ a _ _ _=>a
 |_=>{kind:=.function,names:=[],isGenerator:=C,isCoroutine:=C}
abbrev HJ:KD:=λ_ _ _ _ _ _=>False
abbrev E0:XK:=λ_ _ _=>False
def Zr{X:Cx}:EO HJ X E0:=λ_ _ _ _ _ _ _ h=>h.elim
structure K0(K:jr)(x qual:av)(st:bh)(f:iO)(fd:mD):Prop where
 ex:∃(oc:iX)(od:Option iO)(kV doc pm:iX)(an:Option iO)(b7 ct:iX)(p0:yx),
  fd=bI x qual (qe st) (mm st) (jb st) .none kV doc pm an b7 ct/\K.lookup f=TW ⟨oc,od,.func fd,p0⟩/\c8 K b7 qual=Uf
 kp:bP K (.ref f)=Uf
section
variable {P:jq}{w:jk}{K:jr}{a:lJ}{base:jn}
def K0.ok{x qual:av}{st:bh}{f:iO}{g:mD}{N d:jB}{k:Nat}{e:Sp}(F:K0 K x qual st f g)(S:AY N d (jb st))(len:∀vs U Q E,e vs U Q E->VP vs=VP d)
  (n:∀(c:iX)(A:jm)(b:List dG)(s:iT)(U:Hp)(vs:List V)(Q:VK)(E:XK),BH k (A.deeper<|aY qual (jb st) s.heap.objs.size f c)->e vs U Q E->
   ∃t,Hw (rQ HJ P w K a base N qual (jb st) f c A b s U E).Iy (mm st) t/\t {nx:=λ_ i=>Q .V0 i,rt:=Q} (oR N vs) U):D9 P w K a base HJ (k+1) f g d e:=by
 obtain⟨p,r,kV,l,v,an,c,ct,u,rfl,lk,o⟩:=F.ex;refine PK lk o S len λA b s U vs Q E m j=>?_;obtain⟨t,h,q⟩:=n c A b s U vs Q E m j;exact⟨t,h.Iy,q⟩
def K0.binds{x qual:av}{st:bh}{f:iO}{i:mD}{e:jB}(F:K0 K x qual st f i)
  (h:∀(kV b d:iX)(an:Option iO)(c ct:iX)(g:jW),VP g=VP e->fe (bI x qual (qe st) (mm st) (jb st) .none kV b d an c ct) ⟨g,[]⟩=pure (e.zip g)):Binds K i e []:=by
 obtain⟨k,l,kV,b,d,an,c,ct,m,rfl,lk,j⟩:=F.ex;exact .all<|h kV b d an c ct
def PD{x qual:av}{st:bh}{f:iO}{g:iX}{h an:Option iO}{i:yx}{kV b e d ct:iX}(l:K.lookup f=Y ⟨g,h,.func<|bI x qual (qe st) (mm st) (jb st) .none kV b e an d ct,i⟩)
  (c:c8 K d qual=I)(k:bP K (.ref f)=I):K0 K x qual st f (bI x qual (qe st) (mm st) (jb st) .none kV b e an d ct):=⟨⟨g,h,kV,b,e,an,d,ct,i,rfl,l,c⟩,k⟩
end
section
variable {X:Cx}
end
def WX{A B:Prop}(h:B):if C=I then A else B:=by rw[jy lH];exact h
def WW{A B:Prop}(h:A):if I=I then A else B:=by rw[jh H];exact h
theorem vN(b:dG):∀(l:List (av×dz))(g:lb),(∀x∈l,x.2=.free->∃c,b.cells.lookup x.1=Y c)->(∀x c,g.lookup x=Y c->b.cells.lookup x=Y c)->
  ∃cl,(forIn l g λx r=>if x.2==aK then do let a <-Fa b x.1;pure (bH ((x.1,a)::r))else pure (bH r))=(pure cl:dW (List<|av×iO))/\
   (∀x c,cl.lookup x=Y c->b.cells.lookup x=Y c)/\(∀x,(x,aK)∈l->∃c,cl.lookup x=Y c)/\∀x c,g.lookup x=Y c->∃c,cl.lookup x=Y c
 |[],g,_,m=>⟨g,rfl,m,λx h=>by simp at h,λx c h=>⟨c,h⟩⟩
 |(n,k)::l,g,h,m=>by
  by_cases hk:k=.free
  .subst hk;obtain⟨c,e⟩:=h (n,.free) kx H;have q:b.cells.lookup n=Y c:=e
   obtain⟨cl,h1,o,p,j⟩:=vN b l ((n,c)::g) (λx f=>h x<|kE _ f) (λx d f=>by
    rw[pW]at f
    cases i:x==n with
    |true=>rw[i]at f;have:=sN i;subst this;cases f;exact q
    |false=>rw[i]at f;exact m x d f)
   refine⟨cl,?_,o,λx f=>?_,λx d f=>?_⟩
   .rw[ez];have:Fa b n=pure c:=by unfold Fa;rw[q]
    simp -iota only[this,wT,nJ];exact h1
   .rcases nH.mp f with z|z
    .cases z;exact j n c (by simp)
    exact p x z
   cases i:x==n
   .exact j x d (by rw[pW,i];exact f)
   have:=sN i;subst this;exact j x c (by simp)
  obtain⟨cl,h1,o,p,j⟩:=vN b l g (λx f=>h x<|kE _ f) m;have i:(k==aK)=C:=by simpa using hk
  refine⟨cl,?_,o,λx f=>?_,j⟩
  .rw[ez];simp -iota only[i,my,wT];exact h1
  rcases nH.mp f with z|z
  .cases z;exact absurd H hk
  exact p x z
def vM(b:dG)(scope:jS)(h:∀x∈scope.names,x.2=.free->∃c,b.cells.lookup x.1=Y c):
  ∃cl,s8 scope b=pure cl/\(∀x c,cl.lookup x=Y c->b.cells.lookup x=Y c)/\∀x,(x,aK)∈scope.names->∃c,cl.lookup x=Y c:=by
 obtain⟨cl,h1,d,e,_⟩:=vN b scope.names [] h (λx c f=>by simp at f);refine⟨cl,?_,d,e⟩;unfold s8;have:(forIn scope.names ([]:List (av×iO)) λx r=>if x.2==aK then do let a <-Fa b x.1;pure (bH ((x.1,a)::r))else pure (bH r))=(pure cl:dW (List<|av×iO)):=h1
 first
  |exact(oA (· >>=λr=>pure r) this).trans (wT _ _)
  |(simp -iota;exact this)
  |exact this
theorem nj:∀(names:List (av×dz))(n:Nat)(a:lb),bz n names a=bz n names []++a
 |[],_,_=>rfl
 |(x,k)::r,n,a=>by
  unfold bz;split
  .rw[nj r (n+1) ((x,n)::a),nj r (n+1) [(x,n)],pX];rfl
  exact nj r n a
theorem qk{x:av}{c:iO}:∀(names:List (av×dz))(n:Nat),(x,c)∈bz n names []->(x,cJ)∈names
 |[],_,h=>by simp[bz]at h
 |(y,k)::r,n,h=>by
  unfold bz at h;split at h
  .rename_i hk;rw[nj]at h;rcases rq.mp h with z|z
   .exact kE _ (qk r _ z)
   cases IL.mp z;rw[sN hk];exact kx
  exact kE _ (qk r _ h)
structure OU(cells:lb)(scope:jS)(C:iO)(h:jn)(cl:lb):Prop where
 one:∀x c,cl.lookup x=TW c->(cells.lookup x=TW c/\scope.names.lookup x≠TW .cell)\/(C<c/\scope.names.lookup x=TW .cell/\h.IsCell c T2)
 all:∀x,(x,aK)∈scope.names\/(x,cJ)∈scope.names->∃c,cl.lookup x=TW c
 inj:∀x y c,C<c->cl.lookup x=TW c->cl.lookup y=TW c->(∀z d,cells.lookup z=TW d->d<C)->x=y
 ex:∀x c,cl.lookup x=TW c->cells.lookup x=TW c\/C<c
def Sm{M:gi}{A:jm}{E:jG}{s:iT}{scope:jS}{globals:iO}{a:dG}{cl:lb}{qual:av}{Q:dG->Shared->Prop}(u:∀y∈scope.names,y.2=.cell->scope.names.lookup y.1=Y .cell)
  (m:∀x c,cl.lookup x=Y c->a.cells.lookup x=Y c)(U:∀x,(x,aK)∈scope.names->∃c,cl.lookup x=Y c)
  (B:∀k r,k.Ns s.heap.objs.size (λ_=>J)->(∀b o,s.heap.get? b=Y o->k.get? b=Y o)->OU a.cells scope s.heap.objs.size k r->
   Q {scope,locals:=s.heap.objs.size,globals,cells:=r,qual,func:=J,code:=a.code,frame:=a.frame,builtins:=a.builtins} {s with heap:=k}):
  ah M A (gU scope globals cl [] qual J .none<|Y a) Q E s:=by
 simp -iota only[gU,ia,nJ];refine iP<|Dz ?_;refine iP<|wpAny_layCells _ (λv j i=>by cases n:j==cJ<;>simp[n]) _ _ _ _ ?_;have ok:=cellsFrom_ok scope.names (s.heap.push {cls:=.type "dict",data:=.dict #[]}) (s.heap.objs.size+1) [] ⟨λ_ _ T=>(nomatch T),c3⟩ (by rw[qr];exact kg _);rw[qr]at ok;rw[show({s with heap:=s.heap.push {cls:=.type "dict",data:=.dict #[]}}:Shared).heap.objs.size=s.heap.objs.size+1 from qr ..];simp -iota;have g:∀x,(bz (s.heap.objs.size+1) scope.names cl).lookup x=((bz (s.heap.objs.size+1) scope.names []).lookup x).or (cl.lookup x):=λx=>by rw[nj,List.lookup_append]
 have f:∀x c,(bz (s.heap.objs.size+1) scope.names cl).lookup x=Y c->(cl.lookup x=Y c/\(bz (s.heap.objs.size+1) scope.names []).lookup x=J)\/(x,c)∈bz (s.heap.objs.size+1) scope.names []:=λx c h=>by
  rw[g]at h
  cases p:(bz (s.heap.objs.size+1) scope.names []).lookup x with
  |none=>rw[p]at h;exact .inl ⟨h,rfl⟩
  |some d=>rw[p]at h;cases h;exact .inr<|qu p
 have lo:∀{x:av}{c:iO},(x,c)∈bz (s.heap.objs.size+1) scope.names []->s.heap.objs.size<c:=λ{x c} h=>(ok.empty x c h).2;refine iP<|je<|je<|B _ _ ((Heap.Ns.new s.heap<|.type "dict").keeps<|x0 _ _) (λb o e=>x0 _ _ b o (kb _ e)) ⟨λx c h=>?_,λx h=>?_,λx y c l h1 w t=>?_,λx c h=>?_⟩
 .rcases f x c h with⟨z,O⟩|z
  .refine .inl ⟨m x c z,λe=>?_⟩;have:=DE scope.names (s.heap.objs.size+1) []<|.inl e;rw[O]at this;cases this
  exact .inr ⟨lo z,u _ (qk _ _ z) rfl,(ok.empty x c z).1⟩
 .rcases h with h|h
  .obtain⟨c,l⟩:=U x h;rw[g,l];cases(bz (s.heap.objs.size+1) scope.names []).lookup x<;>exact⟨_,rfl⟩
  have:=DE scope.names (s.heap.objs.size+1) cl<|.inl<|u _ h rfl;exact Mh.mp this
 .rcases f x c h1 with⟨z,_⟩|z
  .exact absurd (t x c<|m x c z) (Hb l)
  rcases f y c w with⟨q,_⟩|q
  .exact absurd (t y c<|m y c q) (Hb l)
  exact M0 ok.apart z q
 rcases f x c h with⟨z,_⟩|z
 .exact .inl (m x c z)
 exact .inr (lo z)
noncomputable def Cx.comp(X:Cx)(d:jB)(scope:jS)(cl:lb)(U:iO)(e:iT)(c:Hp)(fp:kW)(a:jK):Cx:=
 {X with N:=d,s₀:=e,H₀:=c,env:=compEnvC scope cl U X.env,outer:=X.stack,stack:=X.stack,ex:=fp,fn:=λx=>scope.names.lookup x==Y .cell,pn:=X.pn++a,xe:=λ_ _=>False}
abbrev TB:=St->Hp->(St->Hp->Prop)->Prop
def PB(X:Cx)(code:dW Unit)(t:TB):Prop:=
 ∀(a:jK)(s:iT)(c:St)(U:Hp)(N:St->Hp->Prop),Inv X a c U s->t c U N->
  ah (ai X.prog X.w) X.A code (λ_ d=>∃b H',Inv X a b H' d/\N b H') X.xe s
def KS(X:Cx)(b:kr)(t:TT):Prop:=
 ∀(a:jK)(s:iT)(d:St)(U:Hp)(Q:Bool->Hp->Prop),Inv X a d U s->t d U Q->
  ah (ai X.prog X.w) X.A (forIn b I λc r=>if r=I then do let ok <-isTrue c X.env (aX c X.env);pure (bH ok)else pure (bH r)) (TP X a d Q) X.xe s
noncomputable def YT:TT:=λ_ U Q=>Q I U
section
variable {X:Cx}
def RI:KS X [] YT:=λa s b T Q U h=>wpAny_tests_nil ⟨T,U,h⟩
def RH{c:iW}{t:TT}(h:PT X c t):KS X [c] t:=λa s d T Q U b=>wpAny_tests_one<|h a s d T Q U b
noncomputable def jT(e:iW)(depth:Nat)(acc:iX)(a:dG):dW Unit:=
 match(bW e)[depth+1]? with
 |some c=>do
  let x <-aX c.iter a
  cQ c.iter.pos
  let x <-aw c.iter a x
  let _ <-runOwn (.compStart e (depth+1) (<-cf [x] (c5 x)) acc a) a
 |none=>match e with
  |.ListComp b _ _ _=>do let _ <-call (.builtin "list.append") [acc,<-aX b a]
  |.SetComp b _ _ _=>do let v <-aX b a;cQ b.pos;let _ <-call (.builtin "set.add") [acc,v]
  |_=>n8 "no"
def Jc(U:It)(g:TG)(n:TT)(l:TB):TB:=λd T N=>∃W:Nat->Nat->St->Hp->Prop,(∃m,W 0 m d T)/\∀i m d T,W i m d T->
 (U.stop i T/\N d T)\/(U.go i T/\∀x f,U.yld i T x f->g x d f λa j=>n a j λb h=>if b=I then l a h λe k=>∃c,c<m/\W (i+1) c e k else ∃c,c<m/\W (i+1) c a h)
def ade(e:iW)(depth:Nat)(it f:iX)(b:dG)(g:oM)(o:(∃d a i p,e=.ListComp d a i p)\/(∃d a i p,e=.SetComp d a i p))
  (j:(bW e)[depth]?=Y g)(n:g.is_async=0)(k:∀h,(bW e)[depth+1]?=Y h->h.is_async=0):
  o6 e depth it f b=(do
   cQ g.iter.pos
   match <-cA it with
   |none=>pure<|.done .next
   |some v=>
    eQ g.target it v
    cE g.target b v
    let ok <-forIn g.ifs I λc r=>if r=I then do let ok <-isTrue c b (aX c b);pure (bH ok)else pure (bH r)
    if ok=I then jT e depth f b
    again (.compLoop e depth it f b)):=by
 rcases o with⟨d,a,i,p,rfl⟩|⟨d,a,i,p,rfl⟩
 .have l:a[depth]?=Y g:=j;unfold o6 jT;simp only[clausesOf.eq_def]at j k ⊢;rw[l];simp only[n]
  cases m:a[depth+1]? with
  |none=>rfl
  |some h=>
   have:=k h m;simp only[this,xG,lr,my]
   congr 1;funext _;congr 1;funext r
   cases r with
   |none=>rfl
   |some v=>
    dsimp only
    congr 1;funext _;congr 1;funext _;congr 1;funext ok
    cases ok
    .rfl
    simp only[vo];rfl
 have l:a[depth]?=Y g:=j;unfold o6 jT;simp only[clausesOf.eq_def]at j k ⊢;rw[l];simp only[n]
 cases m:a[depth+1]? with
 |none=>rfl
 |some h=>
  have:=k h m;simp only[this,xG,lr,my]
  congr 1;funext _;congr 1;funext r
  cases r with
  |none=>rfl
  |some v=>
   dsimp only
   congr 1;funext _;congr 1;funext _;congr 1;funext ok
   cases ok
   .rfl
   simp only[vo];rfl
def Qa
  (d:(∃b a c p,e=.ListComp b a c p)\/(∃b a c p,e=.SetComp b a c p))
  (h:ah (ai prog w) A ((o6 e depth it acc env).onRaise (λx=>do iF x env;theTreesLotGoes x)) Q E s):
  ah (ai prog w) (A.under<|.compLoop e depth it acc env) ((ai prog w).den<|.compLoop e depth it acc env) Q E s:=by
 rcases d with⟨b,a,c,p,rfl⟩|⟨b,a,c,p,rfl⟩
 .exact h
 exact h
def JP{e:iW}{depth:Nat}{acc:iX}{c:oM}{g:TG}{ti:TT}{tb:TB}{J:It}{y:kW}{it:iO}{tn:Nat->jn->Prop}(aJ:X.xe=λ_ _=>False)(hc:X.calm=Uf)
  (hl:(∃B k sc p,e=.ListComp B k sc p)\/(∃B k sc p,e=.SetComp B k sc p))(hg:(bW e)[depth]?=Y c)(ha:c.is_async=0)(j9:∀g',(bW e)[depth+1]?=Y g'->g'.is_async=0)
  (T:Turn X.prog X.w X.K c.target J y it tn)(pg:PG X c.target g)(bB:KS X c.ifs ti)(pb:PB X (jT e depth acc X.env) tb)
  {a:jK}{s:iT}{σ:St}{H:Hp}{N:St->Hp->Prop}(I:Inv X a σ H s)(f2:∀b∈y,ug X a H b)(st:tn 0 s.heap)(h:Jc J g ti tb σ H N):
  cg (ai X.prog X.w) X.A (.compLoop e depth (.ref it) acc X.env) (λr Y'=>r=.ok .next/\∃f j,Inv X a f j Y'/\(∀b∈y,j b=T2)/\N f j) s:=by
 obtain⟨W,⟨m0,w0⟩,turn⟩:=h;have R:∀{j:Hp},(∀b∈y,j b=T2)->∀b∈y,ug X a j b:=λhn b v=>⟨hn b v,(f2 b v).2⟩
 have D:∀{α:Type}{t:dW α}{Q:α->Shared->Prop}{E:jG}{s:iT},ah (ai X.prog X.w) X.A t Q X.xe s->ah (ai X.prog X.w) X.A t Q E s:=λh=>nX h (λ_ _ x=>x) λ_ _ z=>by rw[aJ]at z;exact z.elim
 refine codeAny_loop UV (λn Y'=>∃i f j,Inv X a f j Y'/\tn i Y'.heap/\(∀b∈y,j b=T2)/\W i n f j) (λn Z hI=>?_) m0 ⟨0,σ,H,I,st,λb v=>(f2 b v).1,w0⟩;refine Qa hl ?_;refine wpAny_noted ?_;rw[ade e depth (.ref it) acc X.env c hl hg ha j9];obtain⟨i,l,G,S,V,F,w3⟩:=hI;refine iP<|tH ?_;rcases turn i n l G w3 with⟨stop,qn⟩|⟨go,step⟩
 .refine iP (Ak (T.done X UV UV UV hc i a Z l G _ S (R F) V stop) ?_);rintro r s4 ⟨P,I4⟩;subst P;exact je ⟨rfl,l,G,I4,F,qn⟩
 refine iP (Ak (T.item X UV UV UV hc i a Z l G _ S (R F) V go) ?_);rintro r s4 ⟨u,P,h4⟩;subst P;refine iP<|Ak h4 ?_;rintro _ s5 ⟨x,H5,I5,r5,y5,cB,iz⟩;have iN:=I5.pinned (R iz)<|T.obj _ _ cB;refine iP<|Ak (D<|pg _ s5 l H5 x u _ iN r5 (step x H5 y5)) ?_;rintro _ s6 ⟨σ6,H6,I6,q6⟩;refine iP<|Ak (D<|bB _ s6 σ6 H6 _ I6 q6) ?_;rintro ok s7 ⟨H7,I7,U⟩
 have again:∀{O:iT}{q:St}{C':Hp},Inv X (a++Av y s5.heap) q C' O->(∃M,M<n/\W (i+1) M q C')->∃m,m<n/\∃i f j,Inv X a f j O/\tn i O.heap/\(∀b∈y,j b=T2)/\W i m f j:=λ{O q C'} L a'=>by
  obtain⟨M,hm,w8⟩:=a'
  refine⟨M,hm,i+1,q,C',L.EH,T.keep _ _ _ cB λb v o e=>(L.pin (b,o)<|qv _ (qv _ (rH v e))).1,λb v=>?_,w8⟩;obtain⟨o,e,d⟩:=T.obj _ _ cB b v;exact(L.pin (b,o)<|qv _ (qv _ (rH v e))).2.1
 cases ok with
 |false=>rw[jy lH]at U;exact je ⟨rfl,again I7 U⟩
 |true=>rw[jh UV]at U;simp -iota;refine iP<|Ak (D<|pb _ s7 σ6 H7 _ I7 U) ?_;rintro _ O ⟨q,C',L,q8⟩;exact je ⟨rfl,again L q8⟩
def YY(d:iO)(e:TE):TB:=λc U N=>e c U λy b=>∃a,b d=Y (.lst a)/\(VP a)<sizeLine/\N c (upd b d<|.lst<|a++[y])
def RS{b:iW}{a:oN}{i:jS}{p:bn}{depth:Nat}{d:iO}{j:TE}(o:a[depth+1]?=J)(m:PE X b j):PB X (jT (.ListComp b a i p) depth (.ref d) X.env) (YY d j):=by
 intro f s k T N U h
 have l:jT (.ListComp b a i p) depth (.ref d) X.env=(do let _ <-call (.builtin "list.append") [.ref d,<-aX b X.env]):=by unfold jT;simp -iota only[clausesOf.eq_def];rw[o]
 rw[l];refine iP<|Ak (m f s k T _ U h) ?_;rintro u s1 ⟨y,H1,g,t,x,hd,w,q⟩;obtain⟨z,c,n,r,v,e⟩:=g.K8 hd;refine iP<|vY F.slot_list_append ⟨_,e,rfl⟩ MT (MS _ _) (iG d c.toArray n u<|by rw[kH];lia) ⟨e,?_⟩;refine je ⟨k,_,g.L7 (its':=c++[u]) hd e (by simp) (r.append<|.cons t .nil) ?_,q⟩;rw[nK,xH]
 lia
def Fe{b:jq}{w:jk}{A:jm}{e:iW}{depth:Nat}{it acc:iX}{d:dG}{R:mo->Shared->Prop}{s:iT}{c:oM}
  (q:(∃g a i p,e=.ListComp g a i p)\/(∃g a i p,e=.SetComp g a i p))(o:(bW e)[depth]?=Y c)(n:c.is_async=0)
  (l:cg (ai b w) A (.compLoop e depth it acc d) R s)
  (j:∀(Q:jG)(E:jG),Q it s->ah (ai b w) A (c5 it) Q E s):
  cg (ai b w) A (.compStart e depth it acc d) R s:=by
 have h:ah (ai b w) A (i7 e depth it acc d) (λfin k=>match fin with|.done f=>R (.ok f) k|.again m=>m.quiet=I/\cg (ai b w) A m R k) (notedBy (ai b w) A d λx k=>R (.error x) k) s:=by
  unfold i7;rw[o];simp only[Option.elim,n,lr,my];refine iP<|vn<|wpAny_ite ?_;split
  .first
    |exact iP<|je<|je<|dX H l
    |exact je<|dX H l
  exact iP (sL<|iP<|tH<|iP<|j _ _ (je<|dX H l))
 rcases q with⟨g,a,i,p,rfl⟩|⟨g,a,i,p,rfl⟩
 .refine xF ?_;show ah _ A ((i7 (.ListComp g a i p) depth it acc d).onRaise (λx=>do iF x d;cQ xt)) _ _ s;exact G1 h
 refine xF ?_;show ah _ A ((i7 (.SetComp g a i p) depth it acc d).onRaise (λx=>do iF x d;cQ xt)) _ _ s;exact G1 h
noncomputable def afW(e:TI)(g:TG)(d:TT)(c:TB):TB:=λa T N=>e a T λU b=>Jc U g d c a b N
def Wm{e:iW}{depth:Nat}{b:iX}{c:oM}{w:TI}{g:TG}{u:TT}{t:TB}(C:X.xe=λ_ _=>False)(U:X.calm=Uf)
  (o:(∃d a j p,e=.ListComp d a j p)\/(∃d a j p,e=.SetComp d a j p))(i:(bW e)[depth+1]?=TW c)(n:c.is_async=0)(j9:∀m,(bW e)[depth+1+1]?=TW m->m.is_async=0)
  (hs:∀x,aw c.iter X.env x=pure x)(pi:PI X c.target c.iter w)(pg:PG X c.target g)(L:KS X c.ifs u)(pb:PB X (jT e (depth+1) b X.env) t):
  PB X (jT e depth b X.env) (afW w g u t):=by
 intro f s P H N I h
 have O:jT e depth b X.env=(do
  let x <-aX c.iter X.env
  cQ c.iter.pos
  let x <-aw c.iter X.env x
  let _ <-runOwn (.compStart e (depth+1) (<-cf [x] (c5 x)) b X.env) X.env):=by
  unfold jT;rw[i]
 rw[O];refine iP<|Ak (pi f s P H _ I h) λv s1 h1=>iP<|tH<|iP<|vX (hs v)<|iP<|mz<|Ak h1 λS K M=>?_;obtain⟨it,V,Z,J,R,rfl,z,T,l,G,F⟩:=M;refine iP<|wpAny_runOwn ?_;refine Fe o i n ?_ λQ E Y=>T.self X.A 0 K Q E l Y;refine sf (JP C U o i n j9 T pg L pb z G l F) λr W D=>?_;obtain⟨rfl,k,y,B,_,q⟩:=D;exact je ⟨k,y,B,q⟩
end
theorem oS{a:dG}:∀{names:List (av×dz)}{x:av},names.lookup x=Y .free->
  (names.map λ(n,k)=>if(k==aK&&a.scope.kind== .function&&a.kindOf n==Y .cell)then(n,cJ)else(n,k)).lookup x=Y .cell\/
  (names.map λ(n,k)=>if(k==aK&&a.scope.kind== .function&&a.kindOf n==Y .cell)then(n,cJ)else(n,k)).lookup x=Y .free
 |[],_,h=>by simp at h
 |(n,k)::r,x,h=>by
  have d:= @oS a r x;rw[kM]
  cases b:x==n with
  |true=>
   simp only[pW,b]at h;cases h;by_cases c:(aK==aK&&a.scope.kind== .function&&a.kindOf n==Y .cell)=I
   .left;simp only[c,nJ,pW,b]
   right;simp only[c,my,pW,b,lr]
  |false=>
   simp only[pW,b]at h;by_cases c:(k==aK&&a.scope.kind== .function&&a.kindOf n==Y .cell)=I
   .simp only[c,nJ,pW,b];exact d h
   simp only[c,my,pW,b,lr];exact d h
theorem lT{a:dG}:∀{names:List (av×dz)}{x:av}{f:dz},
  (names.map λ(n,k)=>if(k==aK&&a.scope.kind== .function&&a.kindOf n==Y .cell)then(n,cJ)else(n,k)).lookup x=Y f->∃k,(x,k)∈names/\(k=f\/k=.free)
 |[],_,_,h=>by simp at h
 |(n,k)::r,x,f,h=>by
  rw[kM]at h
  cases d:x==n
  .by_cases b:(k==aK&&a.scope.kind== .function&&a.kindOf n==Y .cell)=I
   .simp only[b,nJ,pW,d]at h;obtain⟨g,h1,c⟩:=lT h;exact⟨g,kE _ h1,c⟩
   simp only[b,my,pW,d,lr]at h;obtain⟨g,h1,c⟩:=lT h;exact⟨g,kE _ h1,c⟩
  have e:=sN d;subst e;by_cases b:(k==aK&&a.scope.kind== .function&&a.kindOf x==Y .cell)=I
  .refine⟨k,kx,.inr ?_⟩
   have h1:(k==aK)=I:=by
    cases hk:(k==aK)with
    |true=>rfl
    |false=>rw[hk]at b;simp at b
   exact sN h1
  simp only[b,my,pW,lr]at h;exact⟨k,kx,.inl<|by simpa using h⟩
structure E9(X:Cx)(N':jB)(scope:jS)(pre:St->St):Prop where
 cell:∀y∈scope.names,y.2=.cell->scope.names.lookup y.1=TW .cell
 kind:scope.kind=.function
 names:∀y∈scope.names,y.2=.local->scope.names.lookup y.1=TW .local
 free:∀y∈scope.names,y.2=.free->X.env.scope.names.lookup y.1=TW .cell\/X.env.scope.names.lookup y.1=TW .free
 len:∀σ:St,(pre σ).length=VP N'
 pre:∀(σ:St)(i:Nat)(v:V)(x:av),(pre σ)[i]?=TW (TW v)->N'[i]?=TW x->scope.names.lookup x=TW .free/\∃j:Nat,X.N[j]?=TW x/\σ[j]?=TW (TW v)
section
variable {X:Cx}
def Tu{L:jB}{scope:jS}{pre:St->St}(S:E9 X L scope pre){d:jK}{f:iT}{H:St}{t:Hp}{C:kW}{cl:lb}{E:jn}{t':Nat}(I:Inv X d H t f)
  (B:OU X.env.cells scope f.heap.objs.size E cl)
  (A:∀b∈C,ug X d t b)(Q:∀b∈C,b<f.heap.objs.size)
  (J:E.Ns f.heap.objs.size (λ_=>T2))(hk:∀b o,f.heap.get? b=TW o->E.get? b=TW o):
  Inv (X.comp L scope cl f.heap.objs.size f t C d) [] (pre H) t {f with heap:=E,toks:=t'}:=by
 have D:∀b∈Ex X.stack,t b=T2:=I.HD;have w:∀b,b≠X.env.locals->b∉X.fs->b∉Ex X.stack:=λb h1 a z=>(nH.mp<|I.HL b z).elim h1 a;have old:∀x c,X.env.cells.lookup x=TW c->c<f.heap.objs.size:=λx c e=>(I.cell x c e).elim λ_ z=>z.lt
 refine⟨⟨I.ok.mod,?_,I.ok.glob,I.ok.blt,kg _,λx y c h1 a=>?_,λx h=>?_,λx c q e=>?_,I.ok.hd,I.ok.frames,.inl UV,λb g=>?_,
  I.bs,lV I.ok.bsz I.sz,λb o e g=>?_,λb g=>w b (A b g).2.1 (A b g).2.2.1,I.stack,D⟩,rfl,I.bare,Un.kept hk,⟨_,J,λi x v h1 a T=>?_⟩,λx c h=>?_,I.hok.fresh<|kg _,λx c h=>?_,λp R=>?_,I.hok.kept hk,S.len H⟩
 .show(li scope X.env).kind=.function;simp[li,S.kind]
 .rcases B.ex x c h1 with z|z
  .rcases B.ex y c a with s|s
   .exact I.ok.inj x y c z s
   exact absurd (old x c z) (Hb s)
  exact B.inj x y c z h1 a old
 ·
  have M:(li scope X.env).names.lookup x=TW .cell\/(li scope X.env).names.lookup x=TW .free:=h;refine B.all x ?_;rcases M with z|z
  .obtain⟨k,h1,a⟩:=lT z;rcases a with a|a<;>subst a
   .exact .inr h1
   exact .inl h1
  obtain⟨k,h1,a⟩:=lT z;rcases a with a|a<;>(subst a;exact .inl h1)
 .rcases B.one x c e with⟨_,z⟩|⟨z,_⟩
  .exact absurd (sN q) z
  exact wc z
 .refine⟨kI<|Q b g,λx c h=>?_⟩;rcases B.ex x c h with z|z
  .exact(A b g).2.2.2.2.1 x c z
  exact pv (Ac (Q b g) z)
 ·
  have W:b∈C:=g;rcases(A b W).2.2.2.1 with z|z
  .exact I.ok.noex b o e z
  exact absurd (nY (ki e)<|lV I.ok.bsz z) (pZ _)
 .obtain⟨q,j,K,hv⟩:=S.pre H i v x a h1;obtain⟨m,Z,P⟩:=I.loc;have G:=S.free (x,.free) (qu q) UV;obtain⟨u,r,l⟩:=P j x v K hv (by rcases G with z|z;exact .inr<|.inl z;exact .inr<|.inr z);refine⟨u,r,.inr ⟨oS q,?_⟩⟩;rcases l with⟨eA,_⟩|⟨_,c,F,V⟩
  .have Y:X.env.scope.names.lookup x=TW .local:=eA;rcases G with z|z<;>(have s:X.env.scope.names.lookup x=_:=z;rw[Y]at s;cases s)
  obtain⟨N,O⟩:=B.all x<|.inl<|qu q;rcases B.one x N O with⟨this,_⟩|⟨_,z,_⟩
  .rw[F]at this;cases this;exact⟨c,O,V.keeps hk⟩
  rw[q]at z;cases z
 .rcases B.one x c h with⟨z,_⟩|⟨_,_,z⟩
  .obtain⟨v,hv⟩:=I.cell x c z;exact⟨v,hv.keeps hk⟩
  exact⟨_,z⟩
 .rcases B.ex x c h with z|z
  .exact I.freeC x c z
  exact I.hok.fresh (wc z)
 have U:p∈X.pn++d:=by simpa[Cx.comp]using R
 obtain⟨e,n,h1,a,T⟩:=I.pin p U;exact⟨hk _ _ e,n,kI<|ki e,w _ h1 a,T⟩
def Gf{q:jB}{scope:jS}{a:jK}{f g:iT}{n k:St}{i l:Hp}{j:kW}{cl:lb}{m:jn}(U:Inv X a n i f)(h:∀b∈j,ug X a i b)
  (T:Inv (X.comp q scope cl f.heap.objs.size f i j a) [] k l g)(t:aE f.heap.objs.size g.heap m):Inv X a n l {g with heap:=m}:=by
 have K:=U.Ld (s':=g) (ch:=j) T.os T.base T.hok T.bare λb d=>⟨(h b d).2.2.2.1,(h b d).2.1,(h b d).2.2.2.2.1,(h b d).2.2.2.2.2⟩
 have r:X.env.locals<f.heap.objs.size:=U.lt;refine K.turned (it:=f.heap.objs.size) (t':=g.toks) (λb o d e=>by rw[t.2 b d];exact e) T.free (pv r) (.inr U.sz) (λx c u z=>?_) λp s z=>?_
 .obtain⟨v,o,e,_⟩:=U.cell x c u;exact absurd (ki e) (by rw[z];exact pZ _)
 obtain⟨e,_⟩:=U.pin p s;exact absurd (ki e) (by rw[z];exact pZ _)
def Fc(o:HO)(U:It)(g:TG)(c:TT)(b:iO->TB)(pre:St->St)(e:St)(T:Hp)(Q:VK):Prop:=
 ∀d,T d=J->Jc U g c (b d) (pre e) (upd T d o) λ_ a=>Q (.ref d) a
def aa9(U:It)(g:TG)(b:TT)(a:iO->TB)(pre:St->St)(c:St)(T:Hp)(Q:VK):Prop:=Fc (.lst []) U g b a pre c T Q
def CM{e:iW}{o:HO}{l:e6}{c:oM}{s:oN}{scope:jS}{v:jB}{pre:St->St}{g:TG}{ti:TT}{tb:iO->TB}{N:lb}{J:It}{i:kW}{it:iO}{tn:Nat->jn->Prop}
  (hl:(∃U k sc p,e=.ListComp U k sc p)\/∃U k sc p,e=.SetComp U k sc p)(hg:bW e=c::s)
  (S:E9 X v scope pre)(hc:X.calm=I)(ha:c.is_async=0)(j9:∀L,s[0]?=TW L->L.is_async=0)
  (m9:∀(cl:lb)(C:iO)(t:iT)(u:Hp)(i:kW)(a:jK),let I':=X.comp v scope cl C t u i a
   PG I' c.target g/\KS I' c.ifs ti/\∀d,PB I' (jT e 0 (.ref d) I'.env)<|tb d)
  (j8:∀x c,N.lookup x=TW c->X.env.cells.lookup x=TW c)(k7:∀x,(x,aK)∈scope.names->∃c,N.lookup x=TW c)
  {a:jK}{f:iT}{O:St}{m:Hp}{Q:VK}{E:jG}{RR:iX->iO->mo->Shared->Prop}(I2:Inv X a O m f)(T:Turn X.prog X.w X.K c.target J i it tn)(aB:tn 0 f.heap)(f2:∀b∈i,ug X a m b)
  (M:Inv X a O (upd m f.heap.objs.size o) {f with heap:=f.heap.push l})
  (h:Fc o J g ti tb pre O m Q)
  (hRR:∀(d:iO)(cl:lb)(t:iT)(u G:Hp)(σ':St)(s4:iT),Inv X a O u t->(∀b∈i,ug X a u b)->Inv (X.comp v scope cl t.heap.objs.size t u i a) [] σ' G s4->Q (.ref d) G->RR (.ref d) t.heap.objs.size (.ok .next) s4):
  ah (ai X.prog X.w) X.A (gU scope X.env.globals N [] X.env.qual T2 .none<|TW X.env) (λn H'=>
   cg (ai X.prog X.w) X.A (.compStart e 0 (.ref it) (.ref f.heap.objs.size) {n with scope:=li scope X.env}) (RR (.ref f.heap.objs.size) n.locals) H') E {f with heap:=f.heap.push l}:=by
 have R:∀b∈i,b<f.heap.objs.size:=λb j=>by obtain⟨o,e,_⟩:=T.obj _ _ aB b j;exact ki e
 have Y:∀b∈i,ug X a (upd m f.heap.objs.size o) b:=λb j=>⟨by rw[jx<|kI<|R b j];exact(f2 b j).1,(f2 b j).2⟩
 refine Sm S.cell j8 k7 λh1 cl aq P B=>?_;have hk:∀b o,(f.heap.push l).get? b=TW o->h1.get? b=TW o:=P;have F:∀b∈i,b<(f.heap.push l).objs.size:=λb j=>by rw[qr];exact vW<|R b j
 have J0:=Tu (t':=f.toks) S M B Y F aq hk;obtain⟨pg,bB,pb⟩:=m9 cl (f.heap.push l).objs.size {f with heap:=f.heap.push l} (upd m f.heap.objs.size o) i a;have y:tn 0 h1:=T.keep _ _ _ aB λb j o e=>hk b o<|kb _ e;have hw:=h f.heap.objs.size<|I2.hok.fresh<|kg _
 have D:∀b∈i,ug (X.comp v scope cl (f.heap.push l).objs.size {f with heap:=f.heap.push l} (upd m f.heap.objs.size o) i a) []
   (upd m f.heap.objs.size o) b:=λb j=>by
  obtain⟨z1,z2,z3,z4,z5,z6⟩:=Y b j;refine⟨z1,kI<|F b j,λz=>(nH.mp<|M.HL b z).elim z2 z3,.inl j,λx c hx=>(B.ex x c hx).elim (z5 x c) λz=>pv<|Ac (F b j) z,λp hp=>z6 p<|by simpa[Cx.comp]using hp⟩
 have V:(bW e)[0]?=TW c:=by rw[hg];rfl
 refine Fe hl V ha ?_ λQ' Z hq=>T.self X.A 0 _ Q' Z y hq
 refine sf (JP (X:=X.comp v scope cl (f.heap.push l).objs.size {f with heap:=f.heap.push l} (upd m f.heap.objs.size o) i a)
  (depth:=0) (acc:=.ref f.heap.objs.size) rfl hc hl V ha (λL W=>j9 L<|by rw[hg]at W;exact W) T pg bB (pb _) J0 D y hw) λr s4 hr=>?_
 obtain⟨rfl,σ4,G,I4,_,q⟩:=hr;exact hRR _ _ _ _ _ _ _ M Y I4 q
def T9(e:TI)(g:TG)(d:TT)(c:iO->TB)(pre:St->St):TE:=λa T Q=>e a T λU b=>aa9 U g d c pre a b Q
def D2{o:HO}{e:iW}{new:dW iX}{fp:bn}{c:oM}{i:oN}{scope:jS}{O:jB}{pre:St->St}{U:TI}{g:TG}{ti:TT}{tb:iO->TB}
  (S:E9 X O scope pre)(hc:X.calm=Uf)(ha:c.is_async=0)(j9:∀G,i[0]?=Y G->G.is_async=0)
  (hs:∀x,aw c.iter X.env x=pure x)(pi:PI X c.target c.iter U)
  (m9:∀(cl:lb)(C:iO)(N:iT)(z:Hp)(fp:kW)(a:jK),let l:=X.comp O scope cl C N z fp a
   PG l c.target g/\KS l c.ifs ti/\∀d,PB l (jT e 0 (.ref d) l.env)<|tb d)
  (mk:∀(j:iT)(Q E:jG),(∀n,(∀H',AA X.prog X.w H' (j.heap.push n) j.heap.objs.size o)->Q (.ref j.heap.objs.size) {j with heap:=j.heap.push n})->ah (ai X.prog X.w) X.A new Q E j)
  (hl:(∃t f y p,e=.ListComp t f y p)\/∃t f y p,e=.SetComp t f y p)(M:bW e=c::i:=by rfl)(hev:aX e X.env=I8 e scope X.env fp new (c.is_async !=0) (aX c.iter X.env)):
  PE X e (λk H' Q=>U k H' λJ' Y'=>Fc o J' g ti tb pre k Y' Q):=by
 intro a s k H' Q I h;obtain⟨tg,V,u,P⟩:=c;obtain rfl:P=0:=ha;obtain⟨cl,l3,j8,k7⟩:=vM X.env scope λx hx hf=>I.ok.has x.1<|S.free x hx hf;rw[hev];refine MQ (use:=J) (g:=⟨tg,V,u,0⟩) (gs:=i) M hs l3 S.kind S.names<|Ak (pi a s k H' _ I h) λv s1 h1=>Ak h1 λdY j h2=>?_;obtain⟨it,fp,tn,J',H2,rfl,B,T,K,W,hw⟩:=h2;refine mk _ _ _ λn hS=>?_;refine CM (RR:=λr C=>compPost (ai X.prog X.w) X.A X.xe J (EP X a k Q) r C) hl M S hc H j9 m9 j8 k7 B T K W (B.laid (t':=j.toks) (λb n q=>kb _ q) (kg _)<|hS _) hw λd R N z D σ' s4 F Z L q=>?_;obtain⟨m,hn,_⟩:=id L.loc;exact⟨m,hn,λh' n4=>⟨.ref d,D,Gf F Z L n4,rfl,q⟩⟩
def afD{j:iW}{c:oM}{f:oN}{scope:jS}{k i4 l:bn}{N':jB}{pre:St->St}{wi:TI}{g:TG}{ti:TT}{tb:iO->TB}{y:av}{i:Nat}
  (bD:bT (.ListComp j (c::f) scope k) (TW<|.Name y l) i4.line X.env=pure Uf)
  (S:E9 X N' scope pre)(hc:X.calm=Uf)(ha:c.is_async=0)(j9:∀g',f[0]?=TW g'->g'.is_async=0)
  (hs:∀x,aw c.iter X.env x=pure x)(pi:PI X c.target c.iter wi)(gf:PG X (.Name y l) (F1 i))
  (m9:∀(cl:lb)(C:iO)(n:iT)(H3:Hp)(fp:kW)(a:jK),let B:=X.comp N' scope cl C n H3 fp a
   PG B c.target g/\KS B c.ifs ti/\∀d,PB B (jT (.ListComp j (c::f) scope k) 0 (.ref d) B.env)<|tb d):
  PS X (.Assign [.Name y l] (.ListComp j (c::f) scope k) i4) (Vm (T9 wi g ti tb pre)<|F1 i):=by
 intro a s L H D I h;obtain⟨Z,N,u,az⟩:=c;obtain rfl:az=0:=ha;obtain⟨cl,l3,j8,k7⟩:=vM X.env scope λx F hf=>I.ok.has x.1<|S.free x F hf;rw[exec_Assign_Name_used _ _ _ _ bD];refine iP<|tH<|iP ?_;show ah _ X.A (do let _ <-I8 (.ListComp j (⟨Z,N,u,0⟩::f) scope k) scope X.env _ (uu []) UF (aX N X.env) (TW<|cE (.Name y l) X.env)) _ _ s
 refine iP (nX (MQ (use:=TW<|cE (.Name y l) X.env) (g:=⟨Z,N,u,0⟩) (gs:=f) (Q:=λ_ E=>SP X a D .next E) UV hs l3 S.kind S.names
  (Ak (pi a s L H _ I h) λv s1 h1=>Ak h1 λdY s2 h2=>?_)) (λ_ E hq=>je<|je hq) λ_ _ e=>e)
 obtain⟨it,fp,tn,J,H2,rfl,R,T,aB,f2,hw⟩:=h2;refine oz<|CM (RR:=λM C=>compPost (ai X.prog X.w) X.A X.xe (TW<|cE (.Name y l) X.env) (λ_ E=>SP X a D .next E) M C) (.inl ⟨_,_,_,_,rfl⟩) UV S hc UV j9 m9 j8 k7 R T aB f2 (R.Lv (t':=s2.toks) .nil<|by simp) hw λd cl' n H3 O σ' P r ff G q=>?_;obtain⟨m,hn,_⟩:=id G.loc;obtain⟨K,es,ep,ho,hd,hr⟩:=id hn;have V:Inv X a L O P:=Gf r ff G (Dy ..);have t:n.heap.objs.size≠X.env.locals:=pv r.lt;have U:n.heap.objs.size∉X.fs:=λz=>r.Nl (kg _) z
 have IP:Inv X (a++[(n.heap.objs.size,K)]) L O P:=V.IG λp Y=>by
  rcases rq.mp Y with z|z
  .exact V.pin p (qv _ z)
  rcases IL.mp z with rfl
  exact⟨ho,G.free,t,U,λv z=>by rw[hd]at z;cases z⟩
 show ah _ X.A (cE (.Name y l) X.env<|.ref d) _ _ _;refine Ak (gf _ P L O (.ref d) (.ref d) _ IP rfl q) ?_;rintro _ s5 ⟨σ5,H5,I5,q5⟩;have W:=I5.pin (n.heap.objs.size,K) (by simp);refine⟨m,⟨K,es,ep,W.1,hd,hr⟩,λh' n4=>⟨σ5,H5,?_,q5⟩⟩;refine I5.EH.turned (it:=n.heap.objs.size) (t':=s5.toks) (λb o hb e=>by rw[n4.2 b hb];exact e) W.2.1 t (.inr r.sz) (λx c F z=>?_) λp Y z=>?_
 .obtain⟨v,o,e,_⟩:=r.cell x c F;exact absurd (ki e) (by rw[z];exact pZ _)
 obtain⟨e,_⟩:=r.pin p Y;exact absurd (ki e) (by rw[z];exact pZ _)
end
end L2
namespace PX
open L2
inductive OK where
 |dct|set|fn(i:Nat)|exc(c:Nat)
 deriving DecidableEq
inductive D where
 |V0|bl(b:Bool)|int(i:Int)|str(x:av)|tup(l:List D)|lst(l:List D)|AE(k:OK)(ks vs:List D)
mutual
noncomputable def D.hash:D->Int
 |.int i=>hashInt i
 |.tup l=>reduceHash<|bi<|D.FD l
 |_=>0
noncomputable def D.FD:List D->List Int
 |[]=>[]
 |d::l=>D.hash d::D.FD l
end
noncomputable def lO:Key->D
 |.inl i=>.int i
 |.inr x=>.str x
def acg(K:jr)(o:e6)(U:Nat):Prop:=o.cls=.ref U/\(∀a:iO,PySem.W.KitX K (.ref a) (.ref U) λh=>h.get? a=Y o)/\∀n∈["int","bool","str","tuple","list","dict"],c7 K (.ref U) (.type n)=Y C
def D8(K:jr)(h:Option HO)(k:OK)(a c:List D)(b:List V):Prop:=
 match k with
 |.dct=>(∃kvs:List (Key×V),h=Y (.dK kvs)/\a=kvs.map (λp=>lO p.1)/\b=kvs.map (·.2))\/
   (∃kvs:List (List Key×V),h=Y (.dT kvs)/\a=kvs.map (λp=>.tup (p.1.map lO))/\b=kvs.map (·.2))
 |.set=>a=[]/\∃d:List (Int×V),h=Y (.AD d)/\d.Perm ((D.FD c).zip b)
 |.exc U=>(a=[]/\c=[]/\b=[])/\∃o,h=Y (.Bq o<|.own 0)/\acg K o U
 |_=>False
def D8.ex{K h k a vs us}(x:D8 K h k a vs us):∃o,h=Y o:=by
 cases k with
 |dct=>rcases x with⟨_,e,_⟩|⟨_,e,_⟩<;>exact⟨_,e⟩
 |set=>obtain⟨_,_,e,_⟩:=x;exact⟨_,e⟩
 |exc U=>obtain⟨_,_,e,_⟩:=x;exact⟨_,e⟩
 |_=>exact x.elim
def D8.keep{K k a b us}(x:D8 K h k a b us)(c:∀o,h=Y o->h'=Y o):D8 K h' k a b us:=by obtain⟨o,e⟩:=x.ex;rw[c o e,<-e];exact x
abbrev AB:=iO->Prop
def aez(K:jr)(a:iO)(c:List V):Prop:= ∃(o:e6)(b:nZ)(n:Nat),K.lookup a=Y o/\o.cls=.type "list"/\o.dict=J/\o.data=.seq b n/\b.size<=sizeLine/\Vals c b.toList
def HU(K:jr)(U:Hp)(O:AB)(a:iO)(b:List V):Prop:=U a=Y (.tup b)/\¬O a
def HV(K:jr)(U:Hp)(O:AB)(a:iO)(b:List V):Prop:=(Rd U a (.lst b)/\¬O a)\/aez K a b
def HU.sq{K U O a xs}(h:HU K U O a xs):HZ K U a xs:=.inl (.inl h.1)
def HV.sq{K U O a xs}(h:HV K U O a xs):F5 K U a xs:=h.elim (λz=>.inl z.1) .inr
def Rd.mono{a u}(h:Rd U a u)(k:∀o,U a=Y o->H' a=Y o):Rd H' a u:=by
 rcases h with h|⟨o,h⟩
 .exact .inl (k _ h)
 exact .inr ⟨o,k _ h⟩
def HU.mono{K U H'}{a xs}(h:HU K U O a xs)(k:∀b o,U b=Y o->¬O b->H' b=Y o)(c:∀b,U b≠J->O' b->O b):HU K H' O' a xs:=
 ⟨k a _ h.1 h.2,λz=>h.2<|c a (by rw[h.1];simp) z⟩
def HV.mono{K U H'}{a xs}(h:HV K U O a xs)(k:∀b o,U b=Y o->¬O b->H' b=Y o)(c:∀b,U b≠J->O' b->O b):HV K H' O' a xs:=by
 rcases h with⟨r,n⟩|h
 .refine .inl ⟨Rd.mono r λo e=>k a o e n,λz=>n<|c a ?_ z⟩;rcases r with r|⟨_,r⟩<;>(rw[r];simp)
 exact .inr h
inductive LP(S:iO->List V->Prop)(R:List V->Prop)(v:V):Prop where
 |mk (a:iO) (xs:List V) (_:v=.ref a) (_:S a xs) (_:R xs)
inductive MmI{α β:Type}(l:List α)(f:α->β)(b:β):Prop where
 |mk (a:α) (_:a∈l) (_:f a=b)
def ji{c d:Type}{l:List c}{f:c->d}{b:d}(h:b∈l.map f):MmI l f b:=let⟨a,x,y⟩:=sh.mp h;⟨a,x,y⟩
mutual
def Rep(K:jr)(U:Hp)(O:AB):D->V->Prop
 |.V0,v=>v=.V0
 |.bl b,v=>v=.bl b
 |.int i,v=>v=.int i
 |.str x,v=>v=.str x
 |.tup l,v=>LP (HU K U O) (YP K U O l) v
 |.lst l,v=>LP (HV K U O) (YP K U O l) v
 |.AE k c vs,v=>LP (λa us=>¬O a/\D8 K (U a) k c vs us) (YP K U O vs) v
def YP(K:jr)(U:Hp)(O:AB):List D->List V->Prop
 |[],vs=>vs=[]
 |d::l,vs=>∃v r,vs=v::r/\Rep K U O d v/\YP K U O l r
end
mutual
theorem Rep.mono{K U H'}{O O':AB}(k:∀b o,U b=Y o->¬O b->H' b=Y o)(c:∀b,U b≠J->O' b->O b):∀{d:D}{v:V},Rep K U O d v->Rep K H' O' d v
 |.V0,_,h=>h
 |.bl _,_,h=>h
 |.int _,_,h=>h
 |.str _,_,h=>h
 |.tup l,_,h=>by rw[Rep]at h ⊢;obtain⟨a,f,e,s,r⟩:=h;exact⟨a,f,e,s.mono k c,YP.mono k c r⟩
 |.lst l,_,h=>by rw[Rep]at h ⊢;obtain⟨a,f,e,s,r⟩:=h;exact⟨a,f,e,s.mono k c,YP.mono k c r⟩
 |.AE g i vs,_,h=>by rw[Rep]at h ⊢;obtain⟨a,us,e,s,r⟩:=h;exact⟨a,us,e,⟨λz=>s.1<|c a (by obtain⟨o,q⟩:=s.2.ex;rw[q];simp) z,s.2.keep λo q=>k a o q s.1⟩,YP.mono k c r⟩
theorem YP.mono{K U H'}{O O':AB}(k:∀b o,U b=Y o->¬O b->H' b=Y o)(a:∀b,U b≠J->O' b->O b):∀{l:List D}{vs:List V},YP K U O l vs->YP K H' O' l vs
 |[],_,h=>h
 |d::l,_,h=>by rw[YP]at h ⊢;obtain⟨v,r,e,h1,c⟩:=h;exact⟨v,r,e,Rep.mono k a h1,YP.mono k a c⟩
end
def Rep.mkInt{K U O i}:Rep K U O (.int i) (.int i):=by rw[Rep]
def Rep.Ib{K U O i}:Rep K U O (.bl i) (.bl i):=by rw[Rep]
def Rep.HN{K U O}:Rep K U O .V0 .V0:=by rw[Rep]
def Rep.mkStr{K U O i}:Rep K U O (.str i) (.str i):=by rw[Rep]
def Rep.int{K U O i v}(h:Rep K U O (.int i) v):v=.int i:=by rwa [Rep]at h
def Rep.bl{K U O i v}(h:Rep K U O (.bl i) v):v=.bl i:=by rwa [Rep]at h
def Rep.V0{K U O v}(h:Rep K U O .V0 v):v=.V0:=by rwa [Rep]at h
def Rep.str{K U O i v}(h:Rep K U O (.str i) v):v=.str i:=by rwa [Rep]at h
def Rep.tup{K U O l v}(h:Rep K U O (.tup l) v):LP (HU K U O) (YP K U O l) v:=by rwa [Rep]at h
def Rep.lst{K U O l v}(h:Rep K U O (.lst l) v):LP (HV K U O) (YP K U O l) v:=by rwa [Rep]at h
def Rep.AE{K U O k ks vs v}(h:Rep K U O (.AE k ks vs) v):LP (λa us=>¬O a/\D8 K (U a) k ks vs us) (YP K U O vs) v:=by rwa [Rep]at h
def Rep.La{K U O k b vs a us}(n: ¬O a)(h:D8 K (U a) k b vs us)(r:YP K U O vs us):Rep K U O (.AE k b vs) (.ref a):=by rw[Rep];exact⟨a,us,rfl,⟨n,h⟩,r⟩
def Rep.Ip{K U O l a xs}(h:HU K U O a xs)(r:YP K U O l xs):Rep K U O (.tup l) (.ref a):=by rw[Rep];exact⟨a,xs,rfl,h,r⟩
def Rep.Np{K U O l a xs}(h:HV K U O a xs)(r:YP K U O l xs):Rep K U O (.lst l) (.ref a):=by rw[Rep];exact⟨a,xs,rfl,h,r⟩
theorem YP.length{K U O}:∀{l:List D}{vs:List V},YP K U O l vs->VP vs=VP l
 |[],vs,h=>by rw[YP]at h;rw[h];rfl
 |d::l,vs,h=>by rw[YP]at h;obtain⟨v,r,rfl,_,a⟩:=h;simp[YP.length a]
inductive GtI(vs:List V)(i:Nat)(P:V->Prop):Prop where
 |mk (v:V) (_:vs[i]?=TW v) (_:P v)
theorem YP.get{K U O}:∀{l:List D}{a:List V}{i:Nat}{d:D},YP K U O l a->l[i]?=Y d->GtI a i (Rep K U O d)
 |[],_,_,_,_,e=>by simp at e
 |d::l,a,0,b,h,e=>by rw[YP]at h;obtain⟨v,r,rfl,h1,_⟩:=h;simp at e;subst e;exact⟨v,rfl,h1⟩
 |d::l,a,i+1,b,h,e=>by rw[YP]at h;obtain⟨v,r,rfl,_,c⟩:=h;obtain⟨w,f,g⟩:=YP.get (i:=i) c (by simpa using e);exact⟨w,by simpa using f,g⟩
def YP.append{K U O}:∀{l m:List D}{a c:List V},YP K U O l a->YP K U O m c->YP K U O (l++m) (a++c):=by
 intro g
 induction g with
 |nil=>intro _ a _ h b;rw[YP]at h;subst h;exact b
 |cons d l f=>intro _ a _ h b;rw[YP]at h;obtain⟨v,r,rfl,h1,e⟩:=h;show YP K U O (d::(l++_)) _;rw[YP];exact⟨v,_,rfl,h1,f e b⟩
def YP.one{K U O}{d:D}{v:V}(h:Rep K U O d v):YP K U O [d] [v]:=by rw[YP];exact⟨v,[],rfl,h,by rw[YP]⟩
def YP.nil{K U O}:YP K U O [] []:=by rw[YP]
def YP.cons{K U O}{l vs}(h:Rep K U O d v)(h':YP K U O l vs):YP K U O (d::l) (v::vs):=by rw[YP];exact⟨v,vs,rfl,h,h'⟩
theorem YP.take{K U O}:∀{l:List D}{a:List V}(n:Nat),YP K U O l a->YP K U O (l.take n) (a.take n)
 |_,_,0,_=>by simp[YP]
 |[],a,n+1,h=>by rw[YP]at h;subst h;simp[YP]
 |d::l,a,n+1,h=>by rw[YP]at h;obtain⟨v,r,rfl,h1,b⟩:=h;exact YP.cons h1<|YP.take n b
theorem YP.drop{K U O}:∀{l:List D}{a:List V}(n:Nat),YP K U O l a->YP K U O (l.drop n) (a.drop n)
 |_,_,0,h=>h
 |[],a,n+1,h=>by rw[YP]at h;subst h;simp[YP]
 |d::l,a,n+1,h=>by rw[YP]at h;obtain⟨v,r,rfl,h1,b⟩:=h;exact YP.drop n b
theorem YP.set{K U O}{d:D}{v:V}(hv:Rep K U O d v):∀{l:List D}{vs:List V}(i:Nat),YP K U O l vs->YP K U O (l.set i d) (vs.set i v)
 |[],vs,i,h=>by rw[YP]at h;subst h;simp[YP]
 |e::l,vs,0,h=>by rw[YP]at h;obtain⟨w,r,rfl,h1,a⟩:=h;exact YP.cons hv a
 |e::l,vs,i+1,h=>by rw[YP]at h;obtain⟨w,r,rfl,h1,a⟩:=h;exact YP.cons h1<|YP.set hv i a
abbrev Sl:=Option<|D×Bool
abbrev Dn:=List Sl
def X0(b:L2.St)(δ:Dn)(a:iO):Prop:= ∃(i:Nat)(d:D),δ[i]?=Y (Y (d,I))/\b[i]?=Y (Y<|V.ref a)
def D4(K:jr)(U:Hp)(O:AB):D->iO->Prop
 |.lst l,a=>∃d,U a=Y (.lst d)/\YP K U O l d
 |.AE k e c,a=>∃b,D8 K (U a) k e c b/\YP K U O c b
 |_,_=>False
def D4.mono{K U H'}(h:D4 K U O d a)(k:∀b o,U b=Y o->¬O b->H' b=Y o)(c:∀b,U b≠J->O' b->O b)(f:∀o,U a=Y o->H' a=Y o):D4 K H' O' d a:=by
 cases d with
 |lst l=>obtain⟨g,e,r⟩:=h;exact⟨g,f _ e,YP.mono k c r⟩
 |AE i j vs=>obtain⟨us,e,r⟩:=h;exact⟨us,e.keep f,YP.mono k c r⟩
 |_=>exact h
def D4.rep{K U}(h:D4 K U O d a)(f: ¬O' a)(c:∀b,U b≠J->O' b->O b):Rep K U O' d (.ref a):=by
 cases d with
 |lst l=>obtain⟨g,e,r⟩:=h;rw[Rep];exact⟨a,g,rfl,.inl ⟨.inl e,f⟩,YP.mono (λb o e _=>e) c r⟩
 |AE i j m=>obtain⟨k,e,r⟩:=h;exact Rep.La f e<|YP.mono (λb o e _=>e) c r
 |_=>exact h.elim
def Ow:Option HO->Prop
 |none=>False
 |some (.tup _)=>False
 |_=>True
def Ow.ne{o:Option HO}(h:Ow o):o≠J:=λe=>by rw[e]at h;exact h
def Ow.up{o a:Option HO}(h:Ow o)(k:∀x,o=Y x->a=Y x):Ow a:=by
 cases o with
 |none=>exact h.elim
 |some x=>rw[k x H];exact h
def Nm{o:Option HO}(h:o=J): ¬Ow o:=λz=>z.ne h
def Ow.nt{o:Option HO}(h:Ow o)(a:List V):o≠Y (.tup a):=λe=>by rw[e]at h;exact h
def D4.ow{K T}{O:AB}{d:D}{a:iO}(h:D4 K T O d a):Ow (T a):=by
 cases d with
 |lst l=>obtain⟨g,e,_⟩:=h;rw[e];trivial
 |AE k b f=>
  obtain⟨c,e,_⟩:=h
  cases k with
  |dct=>rcases e with⟨_,e,_⟩|⟨_,e,_⟩<;>(rw[e];trivial)
  |set=>obtain⟨_,_,e,_⟩:=e;rw[e];trivial
  |exc U=>obtain⟨_,_,e,_⟩:=e;rw[e];trivial
  |_=>exact e.elim
 |_=>exact h.elim
inductive AtV(σ:L2.St)(i:Nat)(P:V->Prop):Prop where
 |mk (v:V) (_:σ[i]?=TW (TW v)) (_:P v)
inductive AtA(σ:L2.St)(i:Nat)(P:iO->Prop):Prop where
 |mk (a:iO) (_:σ[i]?=TW (TW<|V.ref a)) (_:P a)
structure ER(K:jr)(H:Hp)(T:AB)(σ:L2.St)(δ:Dn):Prop where
 len:(VP σ)=VP δ
 val:∀(i:Nat)(d:D),δ[i]?=TW (TW (d,UF))->AtV σ i (Rep K H (λa=>X0 σ δ a\/T a) d)
 own:∀(i:Nat)(d:D),δ[i]?=TW (TW (d,Uf))->AtA σ i (D4 K H (λa=>X0 σ δ a\/T a) d)
 inj:∀(i j:Nat)(d e:D)(a:iO),δ[i]?=TW (TW (d,Uf))->δ[j]?=TW (TW (e,Uf))->σ[i]?=TW (TW<|V.ref a)->σ[j]?=TW (TW<|V.ref a)->i=j
 nT:∀a,X0 σ δ a->¬T a
 dom:∀a,T a->Ow (H a)
def ER.KH{K U T σ e}(E:ER K U T σ e)(h:X0 σ e a):Ow (U a):=by obtain⟨i,d,h1,f⟩:=h;obtain⟨b,c,g⟩:=E.own i d h1;rw[f]at c;cases c;exact g.ow
def ER.II{K U T σ δ}(E:ER K U T σ δ)(h:X0 σ δ a):U a≠J:=(E.KH h).ne
def ER.mono{K U H' σ δ}(E:ER K U T σ δ)(k:∀b o,U b=Y o->¬T b->H' b=Y o)(f:∀b,U b≠J->T' b->T b)(hd:∀a,T' a->Ow (H' a)):ER K H' T' σ δ where
 len:=E.len
 val:=λi d h=>by obtain⟨v,h1,c⟩:=E.val i d h;exact⟨v,h1,Rep.mono (λb o e n=>k b o e λz=>n<|.inr z) (λb g z=>z.elim .inl λz=>.inr (f b g z)) c⟩
 own:=λi d h=>by obtain⟨a,h1,c⟩:=E.own i d h;exact⟨a,h1,c.mono (λb o e n=>k b o e λz=>n<|.inr z) (λb g z=>z.elim .inl λz=>.inr (f b g z)) λo e=>k a o e<|E.nT a ⟨i,d,h,h1⟩⟩
 inj:=E.inj
 nT:=λa h z=>E.nT a h<|f a (E.II h) z
 dom:=hd
def X0.set(h:X0 σ (δ.set i<|Y (d,C)) a):X0 σ δ a:=by
 obtain⟨j,e,h1,b⟩:=h;rw[Ab]at h1;split at h1
 .split at h1<;>simp at h1
 exact⟨j,e,h1,b⟩
def ER.freeze{K U T σ m}(E:ER K U T σ m){i:Nat}{d:D}{b:Bool}(h:m[i]?=Y (Y (d,b))):ER K U T σ (m.set i<|Y (d,C))/\AtV σ i (Rep K U (λa=>X0 σ (m.set i<|Y (d,C)) a\/T a) d):=by
 have o:i<(VP m):=(uI.mp h).1
 have p:AtV σ i (Rep K U (λa=>X0 σ (m.set i<|Y (d,C)) a\/T a) d):=by
  cases b
  .obtain⟨v,h1,l⟩:=E.val i d h;exact⟨v,h1,Rep.mono (λ_ _ e _=>e) (λb _ z=>z.elim (λz=>.inl z.set) .inr) l⟩
  obtain⟨a,h1,l⟩:=E.own i d h;refine⟨.ref a,h1,l.rep (λz=>?_) λb _ z=>z.elim (λz=>.inl z.set) .inr⟩;rcases z with⟨j,e,n,q⟩|z
  .rw[Ab]at n;split at n
   .first
     |(split at n<;>simp at n)
     |simp at n
   rename_i r;exact r<|E.inj i j d e a h n h1 q
  exact E.nT a ⟨i,d,h,h1⟩ z
 refine⟨⟨by rw[tw];exact E.len,λj e c=>?_,λj e c=>?_,λj k e f a c hk h1 l=>?_,λa z=>E.nT a z.set,E.dom⟩,p⟩
 .by_cases g:i=j
  .subst g;rw[oB o]at c;cases c;exact p
  rw[oP g]at c;obtain⟨v,h1,l⟩:=E.val j e c;exact⟨v,h1,Rep.mono (λ_ _ e _=>e) (λb _ z=>z.elim (λz=>.inl z.set) .inr) l⟩
 .by_cases g:i=j
  .subst g;rw[oB o]at c;cases c
  rw[oP g]at c;obtain⟨a,h1,l⟩:=E.own j e c;exact⟨a,h1,l.mono (λ_ _ e _=>e) (λb _ z=>z.elim (λz=>.inl z.set) .inr) λ_ e=>e⟩
 have g1:m[j]?=Y (Y (e,I)):=by
  by_cases g:i=j
  .subst g;rw[oB o]at c;cases c
  rwa [oP g]at c
 have g2:m[k]?=Y (Y (f,I)):=by
  by_cases g:i=k
  .subst g;rw[oB o]at hk;cases hk
  rwa [oP g]at hk
 exact E.inj j k e f a g1 g2 h1 l
def Aw(b:L2.St)(δ:Dn)(i:Nat)(a:iO):Prop:= ∃d:D,δ[i]?=Y (Y (d,I))/\b[i]?=Y (Y<|V.ref a)
structure BV(σ:L2.St)(δ:Dn)(H:Hp)(δ':Dn)(H':Hp):Prop where
 kp:∀a o,H a=TW o->¬X0 σ δ a->H' a=TW o
 owi:∀i a,Aw σ δ' i a->Aw σ δ i a
 dm:∀a,H a≠T2->H' a≠T2
def BV.ow{σ c U b f}(k:BV σ c U b f)(a:iO)(h:X0 σ b a):X0 σ c a:=by obtain⟨i,d,h1,g⟩:=h;obtain⟨e,j,l⟩:=k.owi i a ⟨d,h1,g⟩;exact⟨i,e,j,l⟩
def BV.refl{σ a U}:BV σ a U a U:=⟨λ_ _ e _=>e,λ_ _ z=>z,λ_ z=>z⟩
def BV.trans{σ δ δ1 δ2 U H1 b}(x:BV σ δ U δ1 H1)(y:BV σ δ1 H1 δ2 b):BV σ δ U δ2 b:=
 ⟨λa o e n=>y.kp a o (x.kp a o e n) λz=>n<|x.ow a z,λi a z=>x.owi i a<|y.owi i a z,λa z=>y.dm a<|x.dm a z⟩
def BV.ext{σ b U H1}(k:∀a o,U a=Y o->H1 a=Y o):BV σ b U b H1:=⟨λa o e _=>k a o e,λ_ _ z=>z,λa z=>by
 cases h:U a with
 |none=>exact absurd h z
 |some o=>rw[k a o h];simp⟩
def Aw.set(h:Aw σ (δ.set i<|Y (d,C)) j a):Aw σ δ j a:=by
 obtain⟨e,h1,b⟩:=h;rw[Ab]at h1;split at h1
 .split at h1<;>simp at h1
 exact⟨e,h1,b⟩
def BV.set{σ δ U i d}:BV σ δ U (δ.set i<|Y (d,C)) U:=⟨λ_ _ e _=>e,λ_ _ z=>z.set,λ_ z=>z⟩
def BF(K:jr)(T:AB)(c:L2.St)(e:Dn)(U:Hp)(r:D×Bool)(b:Dn)(v:V)(H':Hp):Prop:=
 BV c e U b H'/\
 match r with
 |(d,C)=>ER K H' T c b/\Rep K H' (λa=>X0 c b a\/T a) d v
 |(d,I)=>∃p,v=.ref p/\U p=J/\ER K H' (λa=>T a\/a=p) c b/\D4 K H' (λa=>X0 c b a\/T a\/a=p) d p
abbrev F:=Dn->Option ((D×Bool)×Dn)
inductive tF(K:jr)(f:F)(σ:L2.St)(H:Hp)(Q:VK):Prop where
 |mk (δ:Dn) (T:AB) (r:D×Bool) (δ':Dn) (_:ER K H T σ δ) (_:f δ=TW (r,δ')) (_:∀v H',BF K T σ δ H r δ' v H'->Q v H')
def PX(X:Cx)(e:iW)(f:F):Prop:=PE X e<|tF X.K f
noncomputable def Lg(T:AB)(r:D×Bool)(v:V):AB:=λa=>T a\/(r.2=I/\v=.ref a)
section
variable {K:jr}{T:AB}{c:L2.St}{δ δ1 δ2:Dn}{H f g:Hp}{x y:D×Bool}{v u:V}
def BF.er(E:ER K H T c δ)(P:BF K T c δ H x δ1 v f):ER K f (Lg T x v) c δ1:=by
 obtain⟨d,b⟩:=x
 cases b
 .refine P.2.1.mono (λ_ _ e _=>e) (λb _ z=>z.elim id λz=>absurd z.1<|by simp) λa z=>?_;rcases z with z|z
  .exact P.2.1.dom a z
  exact absurd z.1 (by simp)
 obtain⟨p,rfl,i,h,j⟩:=P.2;refine h.mono (λ_ _ e _=>e) (λb _ z=>z.elim .inl λz=>.inr (by have:=z.2;cases this;rfl)) λa z=>?_;rcases z with z|z
 .exact h.dom a (.inl z)
 have:=z.2;cases this;exact h.dom _ (.inr UV)
def BF.rep(E:ER K H T c δ)(P:BF K T c δ H x δ1 v f):ER K f T c δ1/\Rep K f (λa=>X0 c δ1 a\/T a) x.1 v:=by
 obtain⟨d,b⟩:=x
 cases b
 .exact P.2
 obtain⟨p,rfl,i,h,j⟩:=P.2;refine⟨h.mono (λ_ _ e _=>e) (λb _ z=>.inl z) λa z=>h.dom a<|.inl z,j.rep (λz=>?_) λb _ z=>z.elim .inl λz=>.inr (.inl z)⟩;rcases z with z|z
 .exact h.nT p z (.inr UV)
 exact(E.dom p z).ne i
def BF.val(k:BV c δ H δ2 g)(E:ER K g T c δ2)(r:Rep K g (λa=>X0 c δ2 a\/T a) d w):BF K T c δ H (d,C) δ2 w g:=⟨k,E,r⟩
end
def jw{e f:Type}{a c:e}{b d:f}(h:Y (a,b)=Y (c,d)):a=c/\b=d:=by cases h;exact⟨rfl,rfl⟩
noncomputable def fC(d:D):F:=λa=>Y ((d,C),a)
noncomputable def lu(i:Nat):F:=λδ=>match δ[i]? with
 |some (Y (d,_))=>Y ((d,C),δ.set i<|Y (d,C))
 |_=>J
section
variable {X:Cx}{a b c:iW}{d:bn}{m l g:F}
def PX.imp(h:PE X e t)(k:∀j T Q,tF X.K f j T Q->t j T Q):PX X e f:=λi s j T Q U n=>h i s j T Q U<|k j T Q n
def Uj{i j}:PX X (.Constant (.bool i) j d) (fC<|.bl i):=PX.imp Zq λo U Q h=>by obtain⟨n,T,r,f,E,e,k⟩:=h;cases e;exact k _ _ (BF.val .refl E (by first|exact Rep.mkInt|exact Rep.Ib|exact Rep.HN|exact Rep.mkStr))
end
inductive BU where
 |val(r:D×Bool)|slot(i:Nat)
noncomputable def res(a:Dn):BU->Option D
 |.val r=>Y r.1
 |.slot i=>match a[i]? with
  |some (Y (d,_))=>Y d
  |_=>J
def kz(K:jr)(U:Hp)(O:AB)(d:D)(v:V):Prop:=Rep K U O d v\/∃a,v=.ref a/\D4 K U O d a
abbrev FO:=Dn->Option (BU×Dn)
def FH(K:jr)(T:AB)(b:L2.St)(d:Dn)(U:Hp)(o:BU)(a:Dn)(v:V)(c:Hp):Prop:=
 match o with
 |.val r=>BF K T b d U r a v c
 |.slot i=>BV b d U a c/\ER K c T b a/\b[i]?=Y (Y v)
def B7(T:AB)(o:BU)(v:V):AB:=match o with
 |.val r=>Lg T r v
 |.slot _=>T
inductive tO(K:jr)(f:FO)(σ:L2.St)(H:Hp)(Q:VK):Prop where
 |mk (δ:Dn) (T:AB) (o:BU) (δ':Dn) (_:ER K H T σ δ) (_:f δ=TW (o,δ')) (_:∀v H',FH K T σ δ H o δ' v H'->Q v H')
def PO(X:Cx)(e:iW)(f:FO):Prop:=PE X e<|tO X.K f
noncomputable def iU(f:F):FO:=λδ=>(f δ).bind λp=>Y (.val p.1,p.2)
noncomputable def iQ(i:Nat):FO:=λδ=>match δ[i]? with
 |some (Y _)=>Y (.slot i,δ)
 |_=>J
def PE.imp'(h:PE X e t)(k:∀b T Q,d b T Q->t b T Q):PE X e d:=λa s b T Q U c=>h a s b T Q U<|k b T Q c
section
variable {X:Cx}{a:bn}
def PX.po(h:PX X e f):PO X e (iU f):=PE.imp' h λj U Q g=>by
 obtain⟨c,T,o,i,E,e,k⟩:=g;unfold iU at e
 cases h1:f c with
 |none=>rw[h1]at e;cases e
 |some p=>obtain⟨r,b⟩:=p;rw[h1]at e;obtain⟨rfl,rfl⟩:=jw e;exact⟨c,T,r,b,E,h1,λv d P=>k v d P⟩
end
structure Ops(K:jr)(T:AB)(σ:L2.St)(δ:Dn)(H:Hp)(os:List BU)(vs:List V)(δ':Dn)(H':Hp)(T':AB):Prop where
 len:os.length=VP vs
 keep:BV σ δ H δ' H'
 er:ER K H' T' σ δ'
 tt:∀a,T a->T' a
 val:∀(j:Nat)(d:D)(v:V),os[j]?=TW (.val (d,UF))->vs[j]?=TW v->Rep K H' (λa=>X0 σ δ' a\/T a) d v
 tmp:∀(j:Nat)(d:D)(v:V),os[j]?=TW (.val (d,Uf))->vs[j]?=TW v->∃p,v=.ref p/\T' p/\H p=T2/\D4 K H' (λa=>X0 σ δ' a\/T a) d p
 slt:∀(j i:Nat)(v:V),os[j]?=TW (.slot i)->vs[j]?=TW v->σ[i]?=TW (TW v)
section
variable {K:jr}{T T':AB}{b:L2.St}{δ a c:Dn}{H H' e:Hp}{os:List BU}{vs:List V}{o:BU}{v:V}
def Ops.nil(E:ER K H T b δ):Ops K T b δ H [] [] δ H T:=⟨rfl,.refl,E,λ_ z=>z,λj d v h=>by simp at h,λj d v h=>by simp at h,λj i v h=>by simp at h⟩
def FH.keep(P:FH K T b δ H o a v H'):BV b δ H a H':=by
 cases o with
 |val r=>exact P.1
 |slot i=>exact P.1
def FH.er(E:ER K H T b δ)(P:FH K T b δ H o a v H'):ER K H' (B7 T o v) b a:=by
 cases o with
 |val r=>exact BF.er E P
 |slot i=>exact P.2.1
end
def Gen(K:jr)(U:Hp)(O:AB)(z:D×Bool)(Q:VK):Prop:=
 match z with
 |(d,C)=>∀w b,(∀a o,U a=Y o->b a=Y o)->Rep K b O d w->Q w b
 |(d,I)=>∀p b,U p=J->(∀a o,U a=Y o->b a=Y o)->D4 K b (λa=>O a\/a=p) d p->Q (.ref p) b
section
variable {K:jr}{T m:AB}{f:L2.St}{δ δ1 c δ2:Dn}{H s H' h:Hp}{os:List BU}{vs:List V}{o:BU}{v:V}{z:D×Bool}{Q:VK}
def Ops.cons(E:ER K H T f δ)(P:FH K T f δ H o δ1 v s)(B:Ops K (B7 T o v) f δ1 s os vs δ2 h m):Ops K T f δ H (o::os) (v::vs) δ2 h m:=by
 have A:=P.er E;have x:=B.keep.kp;have y:=B.keep.ow
 have t:∀a,T a->B7 T o v a:=λa z=>by
  cases o with
  |val r=>exact .inl z
  |slot i=>exact z
 refine⟨by simp[B.len],P.keep.trans B.keep,B.er,λa z=>B.tt a<|t a z,λj d w h1 g=>?_,λj d w h1 g=>?_,λj i w h1 g=>?_⟩
 .cases j with
  |zero=>simp at h1 g;subst h1;subst g;have q:BF K T f δ H (d,C) δ1 v s:=P;exact Rep.mono (λb k e n=>x b k e λz=>n<|.inl z) (λb _ z=>z.elim (λz=>bv<|y b z) bj) (q.rep E).2
  |succ j=>exact Rep.mono (λ_ _ e _=>e) (λb _ z=>z.elim bv λz=>bj<|t b z)<|B.val j d w (by simpa using h1) (by simpa using g)
 .cases j with
  |zero=>simp at h1 g;subst h1;subst g;have q:BF K T f δ H (d,I) δ1 v s:=P;obtain⟨p,rfl,u,U,ok⟩:=q.2;have l:B7 T (.val (d,I)) (V.ref p) p:=.inr ⟨rfl,rfl⟩;refine⟨p,rfl,B.tt p l,u,ok.mono (λb k e n=>x b k e λz=>n<|.inl z) (λb _ z=>z.elim (λz=>bv<|y b z) λz=>bj<|bv z) λk e=>x p k e λz=>A.nT p z l⟩
  |succ j=>
   obtain⟨p,rfl,l,u,ok⟩:=B.tmp j d w (by simpa using h1) (by simpa using g);refine⟨p,rfl,l,?_,ok.mono (λ_ _ e _=>e) (λb _ z=>z.elim bv λz=>bj<|t b z) λ_ e=>e⟩
   cases O:H p with
   |none=>rfl
   |some k=>exact absurd u<|P.keep.dm p (by rw[O];simp)
 cases j with
 |zero=>simp at h1 g;subst h1;subst g;exact P.2.2
 |succ j=>exact B.slt j i w (by simpa using h1) (by simpa using g)
def Ops.view(B:Ops K T f δ H os vs c H' m){j:Nat}{d:D}(h1:os[j]?=Y o)(n:vs[j]?=Y v)(g:res c o=Y d):kz K H' (λa=>X0 f c a\/T a) d v:=by
 cases o with
 |val r=>
  obtain⟨e,b⟩:=r;have hd:e=d:=lg g;subst hd
  cases b
  .exact .inl<|B.val j e v h1 n
  obtain⟨p,rfl,_,_,ok⟩:=B.tmp j e v h1 n;exact .inr ⟨p,rfl,ok⟩
 |slot i=>
  have u:=B.slt j i v h1 n;unfold res at g;dsimp only at g
  cases l:c[i]? with
  |none=>rw[l]at g;cases g
  |some q=>
   cases q with
   |none=>rw[l]at g;cases g
   |some p=>
    obtain⟨e,b⟩:=p;rw[l]at g;have hd:e=d:=lg g;subst hd
    cases b
    .obtain⟨w,k,t⟩:=B.er.val i e l;rw[u]at k;cases k;exact .inl<|Rep.mono (λ_ _ e _=>e) (λb _ z=>z.elim bv λz=>bj<|B.tt b z) t
    obtain⟨a,k,t⟩:=B.er.own i e l;rw[u]at k;cases k;exact .inr ⟨a,rfl,t.mono (λ_ _ e _=>e) (λb _ z=>z.elim bv λz=>bj<|B.tt b z) λ_ e=>e⟩
def Ops.done(B:Ops K T f δ H os vs c H' m)(k:∀v h,BF K T f δ H z c v h->Q v h):Gen K H' (λa=>X0 f c a\/T a) z Q:=by
 obtain⟨d,b⟩:=z;have i:∀{h:Hp},(∀a o,H' a=Y o->h a=Y o)->∀a,T a->Ow (h a):=λ{h} g a z=>(B.er.dom a<|B.tt a z).up<|g a
 cases b
 .intro w h g r;exact k w h ⟨B.keep.trans<|.ext g,B.er.mono (λb o e _=>g b o e) (λb _ z=>B.tt b z)<|i g,r⟩
 intro p h l g ok
 have j:H p=J:=by
  cases n:H p with
  |none=>rfl
  |some t=>exact absurd l<|B.keep.dm p (by rw[n];simp)
 refine k (.ref p) h ⟨B.keep.trans<|.ext g,p,rfl,j,B.er.mono (λb o e _=>g b o e) (λb q z=>z.elim (B.tt b) λz=>absurd (z▸l) q) λa z=>?_,ok.mono (λ_ _ e _=>e) (λb _ z=>?_) λ_ e=>e⟩
 .rcases z with z|z
  .exact i g a z
  subst z;exact ok.ow
 rcases z with z|z|z
 .exact bv (bv z)
 .exact bv (bj z)
 exact bj z
def Gen.int(g:Gen K H O (.int i,C) Q):Q (.int i) H:=g _ H (λ_ _ e=>e) Rep.mkInt
def Gen.bl(g:Gen K H O (.bl i,C) Q):Q (.bl i) H:=g _ H (λ_ _ e=>e) Rep.Ib
def lM{H:Hp}{p:iO}{o:HO}(b:H p=J):∀a u,H a=Y u->upd H p o a=Y u:=λa u e=>by rw[jx (by intro z;subst z;rw[e]at b;cases b)];exact e
def Gen.lst{O:AB}{l:List D}{xs:List V}{p:iO}(g:Gen K H O (.lst l,I) Q)(a:H p=J)(r:YP K H O l xs):Q (.ref p) (upd H p<|.lst xs):=
 g p _ a (lM a) ⟨xs,ju,YP.mono (λb o e _=>lM a b o e) (λb d z=>z.elim id λz=>absurd (z▸a) d) r⟩
def Gen.tup(g:Gen K H O (.tup l,C) Q)(a:H p=J)(np: ¬O p)(r:YP K H O l xs):Q (.ref p) (upd H p<|.tup xs):=
 g _ _ (lM a) (Rep.Ip ⟨ju,np⟩<|YP.mono (λb o e _=>lM a b o e) (λb d z=>z) r)
def Ops.np(B:Ops K T f δ H os vs c H' m)(a: ¬Ow (H' p)): ¬(X0 f c p\/T p):=λz=>a<|z.elim (λz=>B.er.KH z) λz=>B.er.dom p<|B.tt p z
end
def md(g:D->Option (D×Bool))(a:FO):F:=λδ=>(a δ).bind λp=>(res p.2 p.1).bind λx=>(g x).bind λz=>Y (z,p.2)
def jl(g:D->D->Option (D×Bool))(a fb:FO):F:=λδ=>(a δ).bind λp=>(fb p.2).bind λq=>(res q.2 p.1).bind λx=>(res q.2 q.1).bind λy=>(g x y).bind λz=>Y (z,q.2)
noncomputable def kY:List FO->Dn->Option (List BU×Dn)
 |[],a=>Y ([],a)
 |f::fs,a=>(f a).bind λp=>(kY fs p.2).bind λq=>Y (p.1::q.1,q.2)
def vE(a:Dn):List BU->Option (List D)
 |[]=>Y []
 |o::os=>(res a o).bind λd=>(vE a os).bind λl=>Y (d::l)
def jA(g:List D->Option (D×Bool))(fs:List FO):F:=λδ=>(kY fs δ).bind λp=>(vE p.2 p.1).bind λds=>(g ds).bind λz=>Y (z,p.2)
inductive tA(K:jr)(fs:List FO)(σ:L2.St)(H:Hp)(Q:List V->Hp->Prop):Prop where
 |mk (δ:Dn) (T:AB) (os:List BU) (δ':Dn) (_:ER K H T σ δ) (_:kY fs δ=TW (os,δ')) (_:∀vs H' T',Ops K T σ δ H os vs δ' H' T'->Q vs H')
section
variable {X:Cx}{e a b:iW}{es:kr}{fa fb:FO}{fs:List FO}{pos:bn}
inductive BndS{α β:Type}(x:Option α)(f:α->Option β)(b:β):Prop where
 |mk (a:α) (_:x=TW a) (_:f a=TW b)
inductive BndP{α β γ:Type}(x:Option (α×γ))(f:α×γ->Option β)(b:β):Prop where
 |mk (a:α) (c:γ) (_:x=TW (a,c)) (_:f (a,c)=TW b)
def iY{c d g:Type}{x:Option (c×g)}{f:c×g->Option d}{b:d}(h:x.bind f=Y b):BndP x f b:=by
 cases x with
 |none=>cases h
 |some a=>exact⟨a.1,a.2,rfl,h⟩
def iR{c d:Type}{x:Option c}{f:c->Option d}{b:d}(h:x.bind f=Y b):BndS x f b:=by
 cases x with
 |none=>cases h
 |some a=>exact⟨a,rfl,h⟩
def ace(K:jr)(r:V->Hp->VK->Prop)(g:D->Option (D×Bool)):Prop:=
 ∀x z v U (O:AB) (Q:VK),(∀p,¬Ow (U p)->¬O p)->kz K U O x v->g x=Y z->Gen K U O z Q->r v U Q
def Xz(K:jr)(r:R2)(g:D->D->Option (D×Bool)):Prop:=
 ∀x y z v u U (O:AB) (Q:VK),(∀p,¬Ow (U p)->¬O p)->kz K U O x v->kz K U O y u->g x y=Y z->Gen K U O z Q->r v u U Q
def acd(K:jr)(r:List V->Hp->VK->Prop)(g:List D->Option (D×Bool)):Prop:=
 ∀ds z c U (O:AB) (Q:VK),(∀p,¬Ow (U p)->¬O p)->VP ds=VP c->(∀(j:Nat) d v,ds[j]?=Y d->c[j]?=Y v->kz K U O d v)->g ds=Y z->Gen K U O z Q->r c U Q
def VS{r:V->Hp->VK->Prop}{g:D->Option (D×Bool)}(h:PE X e (tUn r<|tO X.K fa))(n:ace X.K r g):PX X e (md g fa):=PX.imp h λw U Q q=>by obtain⟨s,T,u,t,E,e,k⟩:=q;obtain⟨o,c,h1,e⟩:=iY e;obtain⟨x,i,e⟩:=iR e;obtain⟨z,l,e⟩:=iR e;obtain⟨rfl,rfl⟩:=jw e;refine⟨s,T,o,c,E,h1,λv f d=>?_⟩;have B:=Ops.cons E d<|Ops.nil<|d.er E;exact n x z v f _ Q (λp m=>B.np m) (B.view (j:=0) H H i) l (B.done k)
def VR{r:R2}{g:D->D->Option (D×Bool)}(h:PE X e (Ln r (tO X.K fa)<|tO X.K fb))(w:Xz X.K r g):PX X e (jl g fa fb):=PX.imp h λM H Q A=>by obtain⟨U,T,G,L,E,e,k⟩:=A;obtain⟨o,c,h1,e⟩:=iY e;obtain⟨N,f,m,e⟩:=iY e;obtain⟨x,n,e⟩:=iR e;obtain⟨y,q,e⟩:=iR e;obtain⟨z,s,e⟩:=iR e;obtain⟨rfl,rfl⟩:=jw e;refine⟨U,T,o,c,E,h1,λv O d=>⟨c,B7 T o v,N,f,d.er E,m,λu l i=>?_⟩⟩;have B:=Ops.cons E d<|Ops.cons (d.er E) i<|Ops.nil<|i.er<|d.er E;exact w x y z v u l _ Q (λp t=>B.np t) (B.view (j:=0) UV UV n) (B.view (j:=1) UV UV q) s (B.done k)
def zv:PA X [] (tA X.K []):=λpos c s f O Q U h=>by obtain⟨g,T,os,d,E,e,k⟩:=h;obtain⟨rfl,rfl⟩:=jw e;exact oI pos c s f O Q U<|k [] O T<|Ops.nil E
def tN(n:PO X e fa)(p:PA X es (tA X.K fs))(q:ae (e::es) X.env=(C,aX e X.env)::ae es X.env):PA X (e::es) (tA X.K (fa::fs)):=λpos c s u O Q U h=>by obtain⟨r,T,os,t,E,e,k⟩:=h;unfold kY at e;obtain⟨o,d,h1,e⟩:=iY e;obtain⟨f,g,m,e⟩:=iY e;obtain⟨rfl,rfl⟩:=jw e;exact lS n p q pos c s u O Q U ⟨r,T,o,d,E,h1,λv w i=>⟨d,B7 T o v,f,g,i.er E,m,λx j l B=>k _ j l (Ops.cons E i B)⟩⟩
def pD{g:Dn}:∀{os:List BU}{c:List D},vE g os=Y c->VP c=os.length/\∀(j:Nat) d,c[j]?=Y d->∃o,os[j]?=Y o/\res g o=Y d:=by
 intro p
 induction p with
 |nil=>intro c h;cases h;exact⟨rfl,λj d h=>by simp at h⟩
 |cons o os n=>
  intro c h;unfold vE at h;obtain⟨d,h1,h⟩:=iR h;obtain⟨l,i,h⟩:=iR h;cases h;obtain⟨k,m⟩:=n i;refine⟨by simp[k],λj e f=>?_⟩
  cases j with
  |zero=>simp at f;subst f;exact⟨o,rfl,h1⟩
  |succ j=>obtain⟨q,r,s⟩:=m j e (by simpa using f);exact⟨q,by simpa using r,s⟩
def Rz{r:List V->Hp->VK->Prop}{g:List D->Option (D×Bool)}(h:PE X e (Nc r<|tA X.K fs))(w:acd X.K r g):PX X e (jA g fs):=PX.imp h λO M Q x=>by obtain⟨A,T,L,N,E,e,k⟩:=x;obtain⟨os,f,h1,e⟩:=iY e;obtain⟨l,m,e⟩:=iR e;obtain⟨z,n,e⟩:=iR e;obtain⟨rfl,rfl⟩:=jw e;obtain⟨q,s⟩:=pD m;refine⟨A,T,os,f,E,h1,λy i U B=>?_⟩;refine w l z y i _ Q (λp u=>B.np u) (q.trans B.len) (λj d v hd hv=>?_) n (B.done k);obtain⟨o,t,c⟩:=s j d hd;exact B.view t hv c
end
open PySem.SeqAt
mutual
noncomputable def D.BE:D->D->Bool
 |.V0,e=>match e with|.V0=>I|_=>C
 |.bl a,e=>match e with|.bl b=>a==b|.int b=>(if a then 1 else 0)==b|_=>C
 |.int a,e=>match e with|.bl b=>a==(if b then 1 else 0)|.int b=>a==b|_=>C
 |.str a,e=>match e with|.str b=>a==b|_=>C
 |.tup l,e=>match e with|.tup m=>D.D7 l m|_=>C
 |.lst l,e=>match e with|.lst m=>D.D7 l m|_=>C
 |.AE _ _ _,e=>match e with|.AE _ _ _=>I|_=>C
noncomputable def D.D7:List D->List D->Bool
 |[],m=>m.isEmpty
 |a::l,m=>match m with|b::m=>D.BE a b&&D.D7 l m|[]=>C
end
mutual
noncomputable def D.dep:D->Nat
 |.tup l=>D.BJ l+1
 |.lst l=>D.BJ l+1
 |.AE _ _ _=>20000
 |_=>0
noncomputable def D.BJ:List D->Nat
 |[]=>0
 |d::l=>max (D.dep d)<|D.BJ l
end
mutual
theorem D.E8:∀d:D,D.BE d d=I
 |.V0=>rfl
 |.bl a=>by simp[D.BE]
 |.int a=>by simp[D.BE]
 |.str a=>by simp[D.BE]
 |.tup l=>D.Fh l
 |.lst l=>D.Fh l
 |.AE _ _ _=>rfl
theorem D.Fh:∀l:List D,D.D7 l l=I
 |[]=>rfl
 |d::l=>by show(D.BE d d&&D.D7 l l)=I;rw[D.E8 d,D.Fh l];rfl
end
theorem D.Ei{d:D}:∀{l:List D}{j:Nat},l[j]?=Y d->d.dep<=D.BJ l
 |[],j,h=>by simp at h
 |e::l,0,h=>by simp at h;subst h;rw[D.BJ];exact Nat.le_max_left _ _
 |e::l,j+1,h=>by rw[D.BJ];exact lV (D.Ei<|by simpa using h)<|Nat.le_max_right _ _
def yK(l m:List D)(j:Nat):Bool:=match l[j]?,m[j]? with
 |some d,Y e=>D.BE d e
 |_,_=>I
theorem yt:∀l m:List D,((aj<|min (VP l)<|VP m).all (yK l m)&&(VP l)==VP m)=D.D7 l m
 |[],[]=>rfl
 |[],e::m=>rfl
 |d::l,[]=>rfl
 |d::l,e::m=>by
  show _=(D.BE d e&&D.D7 l m)
  rw[<-yt l m];simp only[oy,Nat.succ_min_succ,et,vh,fA];have a:yK (d::l) (e::m) 0=D.BE d e:=rfl;have h1:(λx=>yK (d::l) (e::m)<|Nat.succ x)=yK l m:=by funext x;simp[yK]
  rw[a];simp only[gw]
  congr 2
  simp
section
variable {X:Cx}{pins:jK}{σ:L2.St}{H:Hp}{s:iT}
def lL(h:kz X.K H O (.tup l) v):LP (HZ X.K H) (YP X.K H O l) v:=by
 rcases h with h|⟨a,rfl,h⟩
 .obtain⟨a,xs,e,q,r⟩:=h.tup;exact⟨a,xs,e,q.sq,r⟩
 exact h.elim
def kU(h:kz X.K H O (.lst l) v):LP (F5 X.K H) (YP X.K H O l) v:=by
 rcases h with h|⟨a,rfl,h⟩
 .obtain⟨a,xs,e,q,r⟩:=h.lst;exact⟨a,xs,e,q.sq,r⟩
 obtain⟨xs,e,r⟩:=h;exact⟨a,xs,rfl,.inl<|.inl e,r⟩
def YP.views{O:AB}{l:List D}{xs:List V}(r:YP X.K H O l xs){j:Nat}{d:D}{v:V}(h1:l[j]?=Y d)(b:xs[j]?=Y v):Rep X.K H O d v:=by obtain⟨w,a,c⟩:=r.get h1;rw[b]at a;cases a;exact c
def Ox(U:Inv X pins σ H s)(h:D8 X.K (H a) k l i us):∃o,s.heap.get? a=Y o/\(o.cls=.type "dict"\/o.cls=.type "set"\/∃T,o.cls=.ref T):=by
 cases k with
 |dct=>
  rcases h with⟨b,e,_⟩|⟨b,e,_⟩
  .obtain⟨_,_,i,_,o,d,g,h1,c,_⟩:=(show AA X.prog X.w H s.heap a (.dK b)from U.hok a _ e)
   exact⟨o,h1,.inl c.1⟩
  obtain⟨_,_,m,_,o,d,g,h1,c,_⟩:=(show AA X.prog X.w H s.heap a (.dT b)from U.hok a _ e)
  exact⟨o,h1,.inl c.1⟩
 |set=>
  obtain⟨_,j,e,_⟩:=h;obtain⟨d,n,t,h1,_⟩:=(show AA X.prog X.w H s.heap a (.AD j)from U.hok a _ e)
  exact⟨_,h1,.inr<|.inl UV⟩
 |exc T=>
  obtain⟨_,o,e,h1,_⟩:=h;obtain⟨f,_⟩:=(show AA X.prog X.w H s.heap a (.Bq o<|.own 0)from U.hok a _ e)
  exact⟨o,f,.inr<|.inr ⟨T,h1⟩⟩
 |_=>exact h.elim
def Fg(U:Inv X pins σ H s)(h1:HZ X.K H a xs)(f:F5 X.K H a k):False:=by obtain⟨g,_,⟨o,e,c,_⟩,_⟩:=U.tuple h1;obtain⟨h,_,⟨j,i,d,b,_⟩,_⟩:=U.list f;rw[e]at d;cases d;rw[c]at b;exact absurd b (by simp)
def RU(U:Inv X pins σ H s)(h1:HZ X.K H a xs)(f:D8 X.K (H a) k h j us):False:=by obtain⟨g,_,⟨o,e,c,_⟩,_⟩:=U.tuple h1;obtain⟨i,d,b⟩:=Ox U f;rw[e]at d;cases d;rw[c]at b;rcases b with b|b|⟨T,b⟩<;>exact absurd b (by simp)
def RW(U:Inv X pins σ H s)(h1:F5 X.K H a xs)(f:D8 X.K (H a) k h j us):False:=by obtain⟨g,_,⟨o,n,e,c,_⟩,_⟩:=U.list h1;obtain⟨i,d,b⟩:=Ox U f;rw[e]at d;cases d;rw[c]at b;rcases b with b|b|⟨T,b⟩<;>exact absurd b (by simp)
mutual
theorem Rep.inj(U:Inv X pins σ H s):∀{d e:D}{v:V},d.dep<20000->Rep X.K H O d v->Rep X.K H u e v->d=e
 |.V0,e,v,i,h,c=>by
  have:=h.V0;subst this
  cases e with
  |V0=>rfl
  |bl b=>have:=c.bl;cases this
  |int b=>have:=c.int;cases this
  |str b=>have:=c.str;cases this
  |tup m=>obtain⟨a,f,z,_⟩:=c.tup;cases z
  |lst m=>obtain⟨a,f,z,_⟩:=c.lst;cases z
  |AE m n o=>obtain⟨a,f,z,_⟩:=c.AE;cases z
 |.bl b,e,v,i,h,c=>by
  have:=h.bl;subst this
  cases e with
  |V0=>have:=c.V0;cases this
  |bl b=>have:=c.bl;cases this;rfl
  |int b=>have:=c.int;cases this
  |str b=>have:=c.str;cases this
  |tup m=>obtain⟨a,f,z,_⟩:=c.tup;cases z
  |lst m=>obtain⟨a,f,z,_⟩:=c.lst;cases z
  |AE m n o=>obtain⟨a,f,z,_⟩:=c.AE;cases z
 |.int b,e,v,i,h,c=>by
  have:=h.int;subst this
  cases e with
  |V0=>have:=c.V0;cases this
  |bl b=>have:=c.bl;cases this
  |int b=>have:=c.int;cases this;rfl
  |str b=>have:=c.str;cases this
  |tup m=>obtain⟨a,f,z,_⟩:=c.tup;cases z
  |lst m=>obtain⟨a,f,z,_⟩:=c.lst;cases z
  |AE m n o=>obtain⟨a,f,z,_⟩:=c.AE;cases z
 |.str b,e,v,i,h,c=>by
  have:=h.str;subst this
  cases e with
  |V0=>have:=c.V0;cases this
  |bl b=>have:=c.bl;cases this
  |int b=>have:=c.int;cases this
  |str b=>have:=c.str;cases this;rfl
  |tup m=>obtain⟨a,f,z,_⟩:=c.tup;cases z
  |lst m=>obtain⟨a,f,z,_⟩:=c.lst;cases z
  |AE m n o=>obtain⟨a,f,z,_⟩:=c.AE;cases z
 |.tup l,e,v,i,h,c=>by
  rw[D.dep]at i;obtain⟨a,f,rfl,q,r⟩:=h.tup
  cases e with
  |V0=>have:=c.V0;cases this
  |bl b=>have:=c.bl;cases this
  |int b=>have:=c.int;cases this
  |str b=>have:=c.str;cases this
  |tup m=>obtain⟨k,p,z,g,j⟩:=c.tup;cases z;have:=U.Ea q.sq g.sq;subst this;rw[YP.inj U (by lia) r j]
  |lst m=>obtain⟨k,p,z,g,j⟩:=c.lst;cases z;exact(Fg U q.sq g.sq).elim
  |AE m n o=>obtain⟨k,t,z,g,j⟩:=c.AE;cases z;exact(RU U q.sq g.2).elim
 |.lst l,e,v,i,h,c=>by
  rw[D.dep]at i;obtain⟨a,f,rfl,q,r⟩:=h.lst
  cases e with
  |V0=>have:=c.V0;cases this
  |bl b=>have:=c.bl;cases this
  |int b=>have:=c.int;cases this
  |str b=>have:=c.str;cases this
  |tup m=>obtain⟨k,p,z,g,j⟩:=c.tup;cases z;exact(Fg U g.sq q.sq).elim
  |lst m=>obtain⟨k,p,z,g,j⟩:=c.lst;cases z;have:=U.FC q.sq g.sq;subst this;rw[YP.inj U (by lia) r j]
  |AE m n o=>obtain⟨k,t,z,g,j⟩:=c.AE;cases z;exact(RW U q.sq g.2).elim
 |.AE _ _ _,e,v,i,h,c=>by rw[D.dep]at i;lia
theorem YP.inj(U:Inv X pins σ H s){O b:AB}:∀{l m:List D}{vs:List V},D.BJ l<20000->YP X.K H O l vs->YP X.K H b m vs->l=m
 |[],m,vs,_,h,a=>by
  rw[YP]at h;subst h
  cases m with
  |nil=>rfl
  |cons e m=>rw[YP]at a;obtain⟨_,_,z,_⟩:=a;cases z
 |d::l,m,vs,i,h,a=>by
  rw[D.BJ]at i;rw[YP]at h;obtain⟨v,r,rfl,h1,c⟩:=h
  cases m with
  |nil=>rw[YP]at a;cases a
  |cons e m=>rw[YP]at a;obtain⟨k,j,z,f,g⟩:=a;cases z;rw[Rep.inj U (by lia) h1 f,YP.inj U (by lia) c g]
end
def wJ(h:kz X.K H O d v)(hd:d.dep=0)(nt:∀l,d≠ .tup l)(b:∀l,d≠ .lst l):Rep X.K H O d v:=by
 rcases h with h|⟨a,rfl,h⟩
 .exact h
 cases d with
 |lst l=>exact absurd UV<|b l
 |AE _ _ _=>rw[D.dep]at hd;lia
 |_=>exact h.elim
inductive Sh(X:Cx)(H:Hp)(s:iT)(O:AB):D->V->iX->Prop
 |V0:Sh X H s O .V0 .V0 .none
 |bl (b:Bool):Sh X H s O (.bl b) (.bl b) (.bool b)
 |int (i:Int) (t:u0):Sh X H s O (.int i) (.int i) (.int i t)
 |str (x:av) (t:u0):Sh X H s O (.str x) (.str x) (.str x t)
 |tup {l:List D} {p:iO} {xs:List V} {its:jW} (q:HZ X.K H p xs) (r:YP X.K H O l xs) (v:Vals xs its) (pl:j3 s.heap p its.toArray):Sh X H s O (.tup l) (.ref p) (.ref p)
 |lst {l:List D} {p:iO} {xs:List V} {its:jW} (q:F5 X.K H p xs) (r:YP X.K H O l xs) (v:Vals xs its) (pl:s.heap.IsList p its.toArray):Sh X H s O (.lst l) (.ref p) (.ref p)
def zq(U:Inv X pins σ H s)(h:kz X.K H O d v)(b:RelV v a)(i:d.dep<20000):Sh X H s O d v a:=by
 cases d with
 |AE m k n=>rw[D.dep]at i;omega
 |tup l=>obtain⟨p,j,rfl,q,r⟩:=lL h;cases b;obtain⟨e,g,f,_⟩:=U.tuple q;exact .tup q r g f
 |lst l=>obtain⟨p,j,rfl,q,r⟩:=kU h;cases b;obtain⟨e,g,f,_⟩:=U.list q;exact .lst q r g f.isList
 |V0=>have:=(wJ h UV (by simp)<|by simp).V0;subst this;cases b;exact .V0
 |bl c=>have:=(wJ h UV (by simp)<|by simp).bl;subst this;cases b;exact .bl c
 |int c=>have:=(wJ h UV (by simp)<|by simp).int;subst this;obtain⟨t,rfl⟩:=b;exact .int c t
 |str c=>have:=(wJ h UV (by simp)<|by simp).str;subst this;obtain⟨t,rfl⟩:=b;exact .str c t
def Tq{A:jm}{y x:iX}{k:Bool}(h:RcAt A s y x k)(f:y=x->k=I)(e:∀b t,y≠ .float b t):EqAt A s y x k:=λa w E Q c=>by
 unfold eqBool;refine mz ?_;refine wpAny_ite_split (λd=>?_) λ_=>?_
 .rw[f<|sN d]at c;exact iP<|sL<|je c
 cases y with
 |float b t=>exact absurd UV<|e b t
 |_=>exact iP<|h a w E _ (vq c)
def P6(I:Inv X pins σ H s){A:jm}{n:Nat}(M:∀(d e:D)(v u:V)(a b:iX)(O Q:AB)(A:jm),kz X.K H O d v->kz X.K H Q e u->RelV v a->RelV u b->d.dep+1<=n->e.dep<20000->A.units+n<aV+1->EqAt A s a b (D.BE d e))(hA:A.units+n<aV):∀(l m:List D)(g h:List V)(c f:jW)(i k:AB),D.BJ l+1<=n->D.BJ m<20000->YP X.K H i l g->YP X.K H k m h->Vals g c->Vals h f->
   ∀j (h1:j<c.toArray.size) (r:j<f.toArray.size),EqAt A.in1 s c.toArray[j] f.toArray[j] (yK l m j):=λl m g h c f i k Z hm y z B C j h1 r=>by
 have P:=B.length;have R:=C.length;have S:=y.length;have W:=z.length;simp at h1 r;have t:g[j]?=TW g[j]:=lq (by omega);have x:h[j]?=TW h[j]:=lq (by omega);have p:l[j]?=TW l[j]:=lq (by omega);have o:m[j]?=TW m[j]:=lq (by omega);obtain⟨w,E,U⟩:=B.get t;obtain⟨N,L,Y⟩:=C.get x
 have G:c.toArray[j]=w:=by have:c[j]?=TW c[j]:=lq (by omega);rw[this]at E;simpa using E
 have J:f.toArray[j]=N:=by have:f[j]?=TW f[j]:=lq (by omega);rw[this]at L;simpa using L
 rw[G,J];have T:yK l m j=D.BE l[j] m[j]:=by unfold yK;rw[p,o]
 rw[T];have F:=D.Ei p;have q:=D.Ei o;exact M _ _ _ _ _ _ i k A.in1 (.inl<|y.views p t) (.inl<|z.views o x) U Y (by omega) (by omega) (by show A.units+1+n<aV+1;omega)
def NT{d e:D}{v u:V}{a b:iX}{O T:AB}{A:jm}(I:Inv X pins σ H s){n:Nat}(ih:∀(d e:D)(v u:V)(a b:iX)(O T:AB)(A:jm),kz X.K H O d v->kz X.K H T e u->RelV v a->RelV u b->d.dep+1<=n->e.dep<20000->A.units+n<aV+1->EqAt A s a b (D.BE d e))(hd:kz X.K H O d v)(he:kz X.K H T e u)(ra:RelV v a)(rb:RelV u b)(Q:d.dep<=n)(M:e.dep<20000)(hA:A.units+n<aV):RcAt A s a b (D.BE d e)/\RcNeAt A s a b (!D.BE d e):=by
 have f:A.units<cLine:=by lia
 have items:=P6 I ih hA;have W:aV=9900:=rfl;have h1:=zq I hd ra (by lia);have E:=zq I he rb M
 cases h1 with
 |V0=>
  cases E with
  |V0=>exact⟨RcAt.none_none,RcNeAt.none_none⟩
  |bl c=>exact⟨RcAt.none_bool c,RcNeAt.none_bool c⟩
  |int c i=>exact⟨RcAt.none_int c i,RcNeAt.none_int c i⟩
  |str c i=>exact⟨RcAt.none_str c i,RcNeAt.none_str c i⟩
  |tup B t x h=>exact⟨RcAt.none_tuple h f,RcNeAt.none_tuple h f⟩
  |lst B t x h=>exact⟨RcAt.none_list h f,RcNeAt.none_list h f⟩
 |bl g=>
  cases E with
  |V0=>exact⟨RcAt.bool_none g,RcNeAt.bool_none g⟩
  |bl c=>exact⟨RcAt.bool_bool g c,RcNeAt.bool_bool g c⟩
  |int c i=>exact⟨RcAt.bool_int g c i,RcNeAt.bool_int g c i⟩
  |str c i=>exact⟨RcAt.bool_str g c i,RcNeAt.bool_str g c i⟩
  |tup B t x h=>exact⟨RcAt.bool_tuple g h f,RcNeAt.bool_tuple g h f⟩
  |lst B t x h=>exact⟨RcAt.bool_list g h f,RcNeAt.bool_list g h f⟩
 |int g k=>
  cases E with
  |V0=>exact⟨RcAt.int_none g k,RcNeAt.int_none g k⟩
  |bl c=>exact⟨RcAt.int_bool g k c,RcNeAt.int_bool g k c⟩
  |int c i=>exact⟨RcAt.int_int g k c i,RcNeAt.int_int g k c i⟩
  |str c i=>exact⟨RcAt.int_str g k c i,RcNeAt.int_str g k c i⟩
  |tup B t x h=>exact⟨RcAt.int_tuple g k h f,RcNeAt.int_tuple g k h f⟩
  |lst B t x h=>exact⟨RcAt.int_list g k h f,RcNeAt.int_list g k h f⟩
 |str g k=>
  cases E with
  |V0=>exact⟨RcAt.str_none g k,RcNeAt.str_none g k⟩
  |bl c=>exact⟨RcAt.str_bool g k c,RcNeAt.str_bool g k c⟩
  |int c i=>exact⟨RcAt.str_int g k c i,RcNeAt.str_int g k c i⟩
  |str c i=>exact⟨RcAt.str_str g k c i,RcNeAt.str_str g k c i⟩
  |tup B t x h=>exact⟨RcAt.str_tuple g k h f,RcNeAt.str_tuple g k h f⟩
  |lst B t x h=>exact⟨RcAt.str_list g k h f,RcNeAt.str_list g k h f⟩
 | @tup l p N o q r L j=>
  cases E with
  |V0=>exact⟨RcAt.tuple_none j f,RcNeAt.tuple_none j f⟩
  |bl c=>exact⟨RcAt.tuple_bool c j f,RcNeAt.tuple_bool c j f⟩
  |int c i=>exact⟨RcAt.tuple_int c i j f,RcNeAt.tuple_int c i j f⟩
  |str c i=>exact⟨RcAt.tuple_str c i j f,RcNeAt.tuple_str c i j f⟩
  | @tup m p2 U C' B t x h=>
   have G:D.BJ l+1<=n:=by rw[D.dep]at Q;exact Q
   have J:D.BJ m<20000:=by rw[D.dep]at M;lia
   have F:=L.length;have P:=x.length;have R:=r.length;have S:=t.length;have w:=items l m N U o C' _ _ G J r t L x;have z:=dX (RcAt.tuples j h f w)<|RcNeAt.tuples j h f w;simp only[kH]at z;rw[show o.length=l.length by lia,show C'.length=m.length by lia,yt]at z;exact z
  |lst B t x h=>exact⟨RcAt.tuple_list j h f,RcNeAt.tuple_list j h f⟩
 | @lst l p N o q r L j=>
  cases E with
  |V0=>exact⟨RcAt.list_none j f,RcNeAt.list_none j f⟩
  |bl c=>exact⟨RcAt.list_bool c j f,RcNeAt.list_bool c j f⟩
  |int c i=>exact⟨RcAt.list_int c i j f,RcNeAt.list_int c i j f⟩
  |str c i=>exact⟨RcAt.list_str c i j f,RcNeAt.list_str c i j f⟩
  |tup B t x h=>exact⟨RcAt.list_tuple j h f,RcNeAt.list_tuple j h f⟩
  | @lst m p2 U C' B t x h=>
   have G:D.BJ l+1<=n:=by rw[D.dep]at Q;exact Q
   have J:D.BJ m<20000:=by rw[D.dep]at M;lia
   have F:=L.length;have P:=x.length;have R:=r.length;have S:=t.length;have Y:=yt l m;by_cases y:l.length=m.length
   .have w:=items l m N U o C' _ _ G J r t L x;have q:o.toArray.size=C'.toArray.size:=by simp;lia
    have z:=dX (RcAt.lists j h q f w)<|RcNeAt.lists j h q f w;simp at z;rw[show o.length=min l.length m.length by lia]at z;show _/\RcNeAt _ _ _ _ (!D.D7 l m);rw[show D.BE (.lst l) (.lst m)=D.D7 l m from UV,<-Y,y];rw[y]at z;simpa using z
   have q:(o.toArray.size !=C'.toArray.size)=Uf:=by simp;lia
   have z:=dX (RcAt.lists_lengths j h q f)<|RcNeAt.lists_lengths j h q f;rw[show D.BE (.lst l) (.lst m)=D.D7 l m from UV,<-Y];rw[show(l.length==m.length)=C by simpa using y];simpa using z
def CG(U:Inv X pins σ H s)(n:Nat)
  (T:∀(d e:D)(v u:V)(a b:iX)(O k:AB)(A:jm),kz X.K H O d v->kz X.K H k e u->RelV v a->RelV u b->d.dep+1<=n->e.dep<20000->A.units+n<aV+1->EqAt A s a b (D.BE d e)):
  ∀(d e:D)(v u:V)(a b:iX)(O k:AB)(A:jm),kz X.K H O d v->kz X.K H k e u->RelV v a->RelV u b->d.dep<=n->e.dep<20000->A.units+n<aV->EqAt A s a b (D.BE d e):=by
 intro d e v u a b O k A hd y N E m B Q;have J:aV=9900:=rfl;have h1:=zq U hd N (by lia);have l:=zq U y E B;refine Tq (NT U T hd y N E m B Q).1 (λL=>?_) λb t z=>by subst z;cases h1
 subst L
 have no:∀{p:iO}{i j:nZ},j3 s.heap p i->s.heap.IsList p j->False:=λ⟨o,a,b,_⟩ ⟨M,c,d,_⟩=>by rw[a]at c;cases c;rw[b]at d;exact absurd d (by decide)
 cases h1 with
 |tup q r G w=>
  cases l with
  |tup g h x f=>have:=U.Ea q g;subst this;rw[YP.inj U (by rw[D.dep]at m;lia) r h,D.E8]
  |lst g h x f=>exact(no w f).elim
 |lst q r G w=>
  cases l with
  |tup g h x f=>exact(no f w).elim
  |lst g h x f=>have:=U.FC q g;subst this;rw[YP.inj U (by rw[D.dep]at m;lia) r h,D.E8]
 |_=>cases l;exact D.E8 _
def Bh(U:Inv X pins σ H s):∀(n:Nat)(d e:D)(v u:V)(a b:iX)(O c:AB)(A:jm),kz X.K H O d v->kz X.K H c e u->RelV v a->RelV u b->d.dep<=n->e.dep<20000->A.units+n<aV->EqAt A s a b (D.BE d e):=by
 intro n
 induction n with
 |zero=>intro d e v u a b O c A hd f i j g h k;exact CG U 0 (λd e v u a b O c A hd f i j g h k=>absurd g<|by lia) d e v u a b O c A hd f i j g h k
 |succ n l=>intro d e v u a b O c A hd f i j g h k;exact CG U (n+1) (λd e v u a b O c A hd f i j g h k=>l d e v u a b O c A hd f i j (by lia) h<|by lia) d e v u a b O c A hd f i j g h k
end
section
variable {X:Cx}{c:jK}{f:L2.St}{H:Hp}{s:iT}
def Ue(U:Inv X c f H s)(hd:kz X.K H O d v)(i:kz X.K H g e u)(l:RelV v a)(m:RelV u b)(j:d.dep<=n)(k:e.dep<20000)(h:A.units+n<aV):RcAt A s a b (D.BE d e)/\RcNeAt A s a b (!D.BE d e):=
 NT U (λd e v u a b O g A x1 x2 x3 x4 p o x7=>Bh U (n-1) d e v u a b O g A x1 x2 x3 x4 (by lia) o<|by lia) hd i l m j k h
def Wz(j:X.A.units+60<aV):BY X (ay .Eq) (λx y H Q=>∃O d e,kz X.K H O d x/\kz X.K H O e y/\(d.dep<=50/\e.dep<=50)/\Q (.bl<|D.BE d e) H):=by intro c s f H x y v u Q U g i h;obtain⟨O,d,e,h1,a,b,q⟩:=h;exact(Ue (A:=X.A) U h1 a g i b.1 (by lia)<|by lia).1 _ _ _ _ ⟨.bl _,H,U,rfl,q⟩
def Ww(j:X.A.units+60<aV):BY X (ay .NotEq) (λx y H Q=>∃O d e,kz X.K H O d x/\kz X.K H O e y/\(d.dep<=50/\e.dep<=50)/\Q (.bl (!D.BE d e)) H):=by intro c s f H x y v u Q U g i h;obtain⟨O,d,e,h1,a,b,q⟩:=h;exact(Ue (A:=X.A) U h1 a g i b.1 (by lia)<|by lia).2 _ _ _ _ ⟨.bl _,H,U,rfl,q⟩
end
def jz{e:Type}{c:Prop}[Decidable c]{a b:e}(h:(if c then Y a else J)=Y b):c/\a=b:=by
 split at h
 .rename_i d;exact⟨d,lg h⟩
 cases h
section
variable {X:Cx}{c:jK}{f:L2.St}{H:Hp}{s:iT}
def Po(I:Inv X c f H s){A:jm}{l:List D}{n:List V}{a:jW}{O B:AB}{b:D}{Q:V}{x:iX}(r:YP X.K H O l n)(v:Vals n a)(hx:kz X.K H B b Q)(rx:RelV Q x)(hn:D.BJ l<=50)(hxn:b.dep<=50)(hA:A.units+60<aV):
  ∃e:iX->Bool,(∀y∈a,EqAt A.in1 s y x<|e y)/\a.any e=l.any λd=>D.BE d b:=by
 let e:iX->Bool:=λy=>match(a.zip l).find? (λp=>p.1==y)with
  |some p=>D.BE p.2 b
  |none=>UF
 have S:=v.length;have W:=r.length
 have key:∀(j:Nat)(h:j<a.length)(g:j<l.length),e a[j]=D.BE l[j] b:=λj h g=>by
  show(match(a.zip l).find? (λp=>p.1==a[j])with|some p=>D.BE p.2 b|none=>UF)=_
  cases q:(a.zip l).find? (λp=>p.1==a[j])with
  |none=>
   have:=List.find?_eq_none.mp q (a[j],l[j]) (by
    have:(a.zip l)[j]?=TW (a[j],l[j]):=by simp[Bz,lq g]
    exact mZ this)
   simp at this
  |some p=>
   have Y:=List.find?_some q;have U:=List.mem_of_find?_eq_some q;obtain⟨i,L⟩:=sJ U;obtain⟨P,p2⟩:=p;rw[Bz]at L;have J:P=a[j]:=sN Y;obtain⟨h1,k⟩:=L;have C:i<n.length:=by have:=(uI.mp h1).1;lia
   obtain⟨w,m,u⟩:=v.get<|lq C;have o:j<n.length:=by lia
   obtain⟨w',T,R⟩:=v.get<|lq o;rw[h1]at m;cases m;rw[lq h]at T;cases T;subst J;have hv:=u.inj R;have a1:=r.views k<|lq C;have G:=r.views (lq g)<|lq o;rw[hv]at a1;have Z:=D.Ei k;have:=Rep.inj I (by lia) a1 G;exact oA (λz=>D.BE z b) this
 refine⟨e,λy F=>?_,?_⟩
 .obtain⟨j,h⟩:=sJ F;have t:=(uI.mp h).1;have o:=(uI.mp h).2;have g:j<l.length:=by lia
  have E:j<n.length:=by lia
  obtain⟨w,m,u⟩:=v.get<|lq E;rw[h]at m;cases m;have hk:=key j t g;rw[o]at hk;rw[hk];have hd:=D.Ei<|lq g;exact Bh I 50 _ _ _ _ _ _ O B A.in1 (.inl<|r.views (lq g)<|lq E) hx u rx (by lia) (by lia) (by show A.units+1+50<aV;lia)
 have:a.map e=l.map λd=>D.BE d b:=by
  apply Aa
  .simp;lia
  intro j h1 k;simp at h1 k;simp;exact key j h1 k
 have M:a.any e=(a.map e).any id:=by rw[Dx];rfl
 have N:(l.any λd=>D.BE d b)=(l.map λd=>D.BE d b).any id:=by rw[Dx];rfl
 rw[M,N,this]
def inD(x:D):D->Option Bool
 |.tup l=>if D.BJ l<=50/\x.dep<=50 then Y (l.any λd=>D.BE d x)else J
 |.lst l=>if D.BJ l<=50/\x.dep<=50 then Y (l.any λd=>D.BE d x)else J
 |_=>J
def JG(n:Bool)(E:X.A.units+60<aV):BY X (ay (if n then .NotIn else .In)) (λx y H Q=>∃O d e b,kz X.K H O d x/\kz X.K H O e y/\inD d e=Y b/\Q (.bl (if n then !b else b)) H):=by
 intro c s f H x y v u Q U L T h;obtain⟨O,d,e,b,h1,N,m,q⟩:=h
 cases e with
 |tup l=>
  obtain⟨i,rfl⟩:=jz m;obtain⟨a,G,rfl,t,r⟩:=lL N;cases T;obtain⟨g,B,j,_⟩:=U.tuple t;obtain⟨e,p,o⟩:=Po (A:=X.A) U r B h1 L i.1 i.2 E;have k:∀w∈g.toArray,EqAt X.A.in1 s w v (e w):=λw z=>p w (by simpa using z);rw[<-o,show g.any e=g.toArray.any e by simp]at q;cases n
  .exact in_tupleAt e j k ⟨.bl _,H,U,rfl,q⟩
  exact notIn_tupleAt e j k ⟨.bl _,H,U,rfl,q⟩
 |lst l=>
  obtain⟨i,rfl⟩:=jz m;obtain⟨a,G,rfl,t,r⟩:=kU N;cases T;obtain⟨g,B,j,_⟩:=U.list t;obtain⟨e,p,o⟩:=Po (A:=X.A) U r B h1 L i.1 i.2 E;have k:∀w∈g.toArray,EqAt X.A.in1 s w v (e w):=λw z=>p w (by simpa using z);rw[<-o,show g.any e=g.toArray.any e by simp]at q;cases n
  .exact in_listAt e j.isList k ⟨.bl _,H,U,rfl,q⟩
  exact notIn_listAt e j.isList k ⟨.bl _,H,U,rfl,q⟩
 |_=>cases m
end
inductive rD1(K:jr)(g:D->Option (D×Bool))(x:V)(H:Hp)(Q:VK):Prop where
 |mk (O:AB) (d:D) (z:D×Bool) (_:∀p,¬Ow (H p)->¬O p) (_:kz K H O d x) (_:g d=TW z) (_:Gen K H O z Q)
inductive rD(K:jr)(g:D->D->Option (D×Bool))(x y:V)(H:Hp)(Q:VK):Prop where
 |mk (O:AB) (d e:D) (z:D×Bool) (_:∀p,¬Ow (H p)->¬O p) (_:kz K H O d x) (_:kz K H O e y) (_:g d e=TW z) (_:Gen K H O z Q)
inductive Ga(K:jr)(g:List D->Option (D×Bool))(vs:List V)(H:Hp)(Q:VK):Prop where
 |mk (O:AB) (ds:List D) (z:D×Bool) (_:∀p,¬Ow (H p)->¬O p) (_:(VP ds)=VP vs) (_:∀(j:Nat) d v,ds[j]?=TW d->vs[j]?=TW v->kz K H O d v) (_:g ds=TW z) (_:Gen K H O z Q)
section
variable {X:Cx}{e a b:iW}{fa fb:FO}{fs:List FO}{pos:bn}
def px1(h:PE X e (tUn (rD1 X.K g)<|tO X.K fa)):PX X e (md g fa):=VS h λx z v U O Q np d c G=>⟨O,x,z,np,d,c,G⟩
def Of(h:PE X e (Ln (rD X.K g) (tO X.K fa)<|tO X.K fb)):PX X e (jl g fa fb):=VR h λx y z v u U O Q np d f c G=>⟨O,x,y,z,np,d,f,c,G⟩
def pxn(h:PE X e (Nc (Ga X.K g)<|tA X.K fs)):PX X e (jA g fs):=Rz h λc z i U O Q np f hv d G=>⟨O,c,z,np,f,hv,d,G⟩
def jJ{K U}{O:AB}{i:Int}{v:V}(h:kz K U O (.int i) v):v=.int i:=h.elim (λh=>h.int) λ⟨_,_,h⟩=>h.elim
def DM{K U}(h:kz K U O (.bl i) v):v=.bl i:=h.elim (λh=>h.bl) λ⟨_,_,h⟩=>h.elim
def wk{K U}(h:kz K U O (.str i) v):v=.str i:=h.elim (λh=>h.str) λ⟨_,_,h⟩=>h.elim
def EZ{K U}(h:kz K U O .V0 v):v=.V0:=h.elim (λh=>h.V0) λ⟨_,_,h⟩=>h.elim
def Gen.str{K U}(g:Gen K U O (.str i,C) Q):Q (.str i) U:=g _ U (λ_ _ e=>e) Rep.mkStr
noncomputable def gI(f:Int->Int->Option D):D->D->Option (D×Bool)
 |.int i,.int j=>(f i j).map λz=>(z,C)
 |_,_=>J
def zF{f:Int->Int->Option D}{d e:D}{z:D×Bool}(h:gI f d e=Y z):∃i j y,d=.int i/\e=.int j/\f i j=Y y/\z=(y,C):=by
 cases d with
 |int i=>
  cases e with
  |int j=>
   cases c:f i j with
   |none=>simp only[gI,c]at h;cases h
   |some y=>simp only[gI,c]at h;cases h;exact⟨i,j,y,rfl,rfl,c,rfl⟩
  |_=>cases h
 |_=>cases h
def uv{f:yy}{T:Int->Int->Prop}[∀i j,Decidable<|T i j]{g:Int->Int->Int}(o:BY X f (rI T λi j=>.int (g i j))):BY X f (rD X.K (gI λi j=>if T i j then Y (.int<|g i j)else J)):=by intro c s r N x y v u Q U p q h;obtain⟨O,d,e,z,np,h1,k,n,G⟩:=h;obtain⟨i,j,w,rfl,rfl,m,rfl⟩:=zF n;obtain⟨l,rfl⟩:=jz m;exact o c s r N x y v u Q U p q ⟨i,j,jJ h1,jJ k,l,G.int⟩
def Fx{f:yy}{g:Int->Int->Int}(n:BY X f (KL λi j=>.int (g i j))):BY X f (rD X.K<|gI λi j=>Y<|.int<|g i j):=by intro c s q T x y v u Q U o p h;obtain⟨O,d,e,z,np,h1,k,m,G⟩:=h;obtain⟨i,j,w,rfl,rfl,l,rfl⟩:=zF m;cases l;exact n c s q T x y v u Q U o p ⟨i,j,jJ h1,jJ k,G.int⟩
instance(i j:Int):Decidable (FL i j):=by unfold FL;exact inferInstance
instance(i j:Int):Decidable (Mf i j):=by unfold Mf;exact inferInstance
instance(i j:Int):Decidable (wY i j):=by unfold wY;exact inferInstance
def HQ:=gI λi j=>Y<|.int<|i-j
def pH:=gI λi j=>if FL i j then Y (.int<|i*j)else J
def Pz:=gI λi j=>if Mf i j then Y (.int<|i / j)else J
def BO:=gI λi j=>if 0<j then Y (.int<|i%j)else J
def LJ:=gI λi j=>if wY i j then Y (.int<|i^j.toNat)else J
def RY:BY X (bf .Sub) (rD X.K HQ):=Fx Ws
def JE:BY X (bf .Mult) (rD X.K pH):=uv Wx
def R8:BY X (bf .FloorDiv) (rD X.K Pz):=uv Sb
def R6:BY X (bf .Mod) (rD X.K BO):=uv Wy
def R3:BY X (bf .Pow) (rD X.K LJ):=uv Wv
noncomputable def mI:D->D->Option (D×Bool)
 |.int i,.int j=>Y (.int<|i+j,C)
 |.str i,.str j=>if i.length+j.length<=sizeLine then Y (.str<|i++j,C)else J
 |.tup l,.tup m=>if l.length+m.length<=sizeLine then Y (.tup<|l++m,C)else J
 |.lst l,.lst m=>if l.length+m.length<=sizeLine then Y (.lst<|l++m,I)else J
 |_,_=>J
def Sa:BY X (bf .Add) (rD X.K mI):=by
 intro g s σ H x y v u Q I E L h;obtain⟨O,d,e,z,np,h1,J,k,G⟩:=h
 cases d with
 |int i=>
  cases e with
  |int j=>cases k;exact WB g s σ H x y v u Q I E L ⟨i,j,jJ h1,jJ J,G.int⟩
  |_=>cases k
 |str i=>
  cases e with
  |str j=>obtain⟨S,rfl⟩:=jz k;exact adU g s σ H x y v u Q I E L ⟨i,j,wk h1,wk J,S,G.str⟩
  |_=>cases k
 |tup l=>
  cases e with
  |tup m=>
   obtain⟨S,rfl⟩:=jz k;have k1:Rep X.K H O (.tup l) x:=h1.elim id λ⟨_,_,z⟩=>z.elim;have k2:Rep X.K H O (.tup m) y:=J.elim id λ⟨_,_,z⟩=>z.elim;obtain⟨M,xs,rfl,N,B⟩:=k1.tup;obtain⟨A,ys,rfl,U,C⟩:=k2.tup;have l1:=B.length;have l2:=C.length;by_cases hx:xs=[]
   .subst hx;have:l=[]:=by simpa using l1.symm
    subst this;cases E;cases L;obtain⟨f,Y,R,_⟩:=I.tuple N.sq;obtain⟨o,v2,V,_⟩:=I.tuple U.sq;have e1:f=[]:=by have:=Y.length;simpa using this.symm
    subst e1;obtain⟨⟨P,dd,q,Z⟩,r,w,n,hd⟩:=id R;obtain⟨⟨dq,D,data2,v5⟩,T,t,W,c⟩:=id V;simp only at w hd t c;subst w hd t c
    refine DD ⟨_,r,rfl⟩ ⟨_,T,rfl⟩ Hl Hk Hj Hh (Hg _ _)
     (tuple_addW0 M A #[] o.toArray n W dd D Z v5 (by simp)) ⟨r,T,⟨.ref A,H,I,rfl,?_⟩⟩
    exact G _ H (λ_ _ e=>e) (by simpa using k2)
   refine Sd g s σ H _ _ v u Q I E L ⟨M,A,xs,ys,rfl,rfl,N.sq,U.sq,hx,by lia,λhy=>?_,λhy p hp=>?_⟩
   .subst hy;have:m=[]:=by simpa using l2.symm
    subst this;exact G _ H (λ_ _ e=>e) (by simpa using k1)
   exact G.tup hp (np p<|Nm hp) (B.append C)
  |_=>cases k
 |lst l=>
  cases e with
  |lst m=>
   obtain⟨S,rfl⟩:=jz k;obtain⟨M,xs,rfl,N,B⟩:=kU h1;obtain⟨A,ys,rfl,U,C⟩:=kU J;have l1:=B.length;have l2:=C.length;cases E;cases L;obtain⟨f,Y,R,_⟩:=I.list N;obtain⟨o,v2,V,_⟩:=I.list U;have e1:=Y.length;have e2:=v2.length;obtain⟨⟨P,dd,q,Z⟩,r,w,n,hd⟩:=id R.isList;obtain⟨⟨dq,D,data2,v5⟩,T,t,W,c⟩:=id V.isList;simp only at w hd t c;subst w hd t c
   refine DD ⟨_,r,rfl⟩ ⟨_,T,rfl⟩ noFill_list_add seq_list_add PySem.F.slot_list_add PySem.F.entry_list_add (PySem.F.args_list_add_2 _ _)
    (list_addW M A f.toArray o.toArray n W dd D Z v5<|by simp;lia) ⟨r,T,?_⟩
   rw[show f.toArray++o.toArray=(f++o).toArray by simp];exact⟨.ref _,_,I.Lv (t':=s.toks) (Y.append v2)<|by rw[nK];lia,rfl,G.lst I.fresh<|B.append C⟩
  |_=>cases k
 |_=>cases k
def FE(d e:D):Option (D×Bool):=if d.dep<=50/\e.dep<=50 then Y (.bl<|D.BE d e,C)else J
def HY(d e:D):Option (D×Bool):=if d.dep<=50/\e.dep<=50 then Y (.bl (!D.BE d e),C)else J
def LN(d e:D):Option (D×Bool):=(inD d e).map λb=>(.bl b,C)
def qj(d e:D):Option (D×Bool):=(inD d e).map λb=>(.bl (!b),C)
def Wr(j:X.A.units+60<aV):BY X (ay .Eq) (rD X.K FE):=by intro c s m T x y v u Q U k l h;obtain⟨O,d,e,z,np,h1,f,i,G⟩:=h;obtain⟨g,rfl⟩:=jz i;exact Wz j c s m T x y v u Q U k l ⟨O,d,e,h1,f,g,G.bl⟩
def Wn(j:X.A.units+60<aV):BY X (ay .NotEq) (rD X.K HY):=by intro c s m T x y v u Q U k l h;obtain⟨O,d,e,z,np,h1,f,i,G⟩:=h;obtain⟨g,rfl⟩:=jz i;exact Ww j c s m T x y v u Q U k l ⟨O,d,e,h1,f,g,G.bl⟩
inductive BndM{α β:Type}(x:Option α)(f:α->β)(b:β):Prop where
 |mk (a:α) (_:x=TW a) (_:f a=b)
def jM{c d:Type}{x:Option c}{f:c->d}{b:d}(h:x.map f=Y b):BndM x f b:=by
 cases x with
 |none=>cases h
 |some a=>exact⟨a,rfl,lg h⟩
def Wq(j:X.A.units+60<aV):BY X (ay .In) (rD X.K LN):=by intro c s m T x y v u Q U k l h;obtain⟨O,d,e,z,np,h1,f,i,G⟩:=h;obtain⟨b,g,rfl⟩:=jM i;exact JG C j c s m T x y v u Q U k l ⟨O,d,e,b,h1,f,g,G.bl⟩
def afd(j:X.A.units+60<aV):BY X (ay .NotIn) (rD X.K qj):=by intro c s m T x y v u Q U k l h;obtain⟨O,d,e,z,np,h1,f,i,G⟩:=h;obtain⟨b,g,rfl⟩:=jM i;exact JG I j c s m T x y v u Q U k l ⟨O,d,e,b,h1,f,g,G.bl⟩
noncomputable def ze:D->Option (D×Bool)
 |.int i=>Y (.int (-i),C)
 |_=>J
def Ra:Oq X (L3 .USub) (rD1 X.K ze):=by
 intro c s j T x v Q U g h;obtain⟨O,d,z,np,h1,f,G⟩:=h
 cases d with
 |int i=>cases f;exact Vg c s j T x v Q U g ⟨i,jJ h1,G.int⟩
 |_=>cases f
def D6:D->D->Option (D×Bool)
 |.tup l,.int i=>(Ij l i).map λd=>(d,C)
 |.lst l,.int i=>(Ij l i).map λd=>(d,C)
 |_,_=>J
def Kr{K U}{O:AB}{l:List D}{c:List V}{i:Int}{d:D}(r:YP K U O l c)(h:Ij l i=Y d):∃v,Ij c i=Y v/\Rep K U O d v:=by unfold Ij at h ⊢;rw[r.length];obtain⟨j,h1,f⟩:=iR h;rw[h1];obtain⟨v,g,k⟩:=r.get f;exact⟨v,g,k⟩
def Uv:OL X (rD X.K D6):=by
 intro f c g s E N x y v u Q U B T h A;obtain⟨O,d,e,z,np,h1,t,j,G⟩:=h
 cases d with
 |tup l=>
  cases e with
  |int i=>obtain⟨w,m,rfl⟩:=jM j;obtain⟨p,o,rfl,q,r⟩:=lL h1;obtain⟨n,hv,k⟩:=Kr r m;exact WU f c g s E N _ _ v u Q U B T ⟨p,o,i,n,rfl,jJ t,q,hv,G _ N (λ_ _ e=>e) k⟩ A
  |_=>cases j
 |lst l=>
  cases e with
  |int i=>obtain⟨w,m,rfl⟩:=jM j;obtain⟨p,o,rfl,q,r⟩:=kU h1;obtain⟨n,hv,k⟩:=Kr r m;exact SO f c g s E N _ _ v u Q U B T ⟨p,o,i,n,rfl,jJ t,q,hv,G _ N (λ_ _ e=>e) k⟩ A
  |_=>cases j
 |_=>cases j
end
noncomputable def qf:List BU->Option (List D)
 |[]=>Y []
 |.val r::os=>(qf os).map (r.1:: ·)
 |.slot _::_=>J
def nG(fs:List F):F:=λδ=>(kY (fs.map iU) δ).bind λp=>(qf p.1).bind λa=>if (VP a)<=sizeLine then Y ((.tup a,C),p.2)else J
def ml(fs:List F):F:=λδ=>(kY (fs.map iU) δ).bind λp=>(qf p.1).bind λds=>if (VP ds)<=sizeLine then Y ((.lst ds,I),p.2)else J
section
variable {K:jr}{T m:AB}{f:L2.St}{g e:Dn}{H H':Hp}{os:List BU}{c:List V}
def Ops.rep(E:ER K H T f g)(B:Ops K T f g H os c e H' m){j:Nat}{r:D×Bool}{v:V}(h1:os[j]?=Y (.val r))(h:c[j]?=Y v):Rep K H' (λa=>X0 f e a\/T a) r.1 v:=by
 obtain⟨d,b⟩:=r
 cases b
 .exact B.val j d v h1 h
 obtain⟨p,rfl,k,i,ok⟩:=B.tmp j d v h1 h;refine ok.rep (λz=>?_) λb _ z=>z;rcases z with z|z
 .exact B.er.nT p z k
 exact(E.dom p z).ne i
theorem vB{O:AB}:∀{os:List BU}{c:List V}{d:List D},qf os=Y d->os.length=VP c->(∀(j:Nat)(r:D×Bool)(v:V),os[j]?=Y (.val r)->c[j]?=Y v->Rep K H' O r.1 v)->YP K H' O d c
 |[],c,d,h,n,_=>by
  cases h;have:c=[]:=by simpa using n.symm
  subst this;exact YP.nil
 |.slot i::os,c,d,h,_,_=>by cases h
 |.val r::os,c,d,h,n,k=>by
  obtain⟨l,h1,rfl⟩:=jM h
  cases c with
  |nil=>simp at n
  |cons v c=>exact YP.cons (k 0 r v UV UV)<|vB h1 (by simpa using n) λj o p a b=>k (j+1) o p (by simpa using a) (by simpa using b)
end
section
variable {X:Cx}{e a b:iW}{m:kr}{n fb:FO}{fs:List F}{c:bn}
def VL{x1}(h:PA X m (tA X.K<|fs.map iU)):PX X (.Tuple m x1 c) (nG fs):=PX.imp (Oj h) λy U Q l=>by obtain⟨o,T,w,q,E,e,k⟩:=l;obtain⟨os,d,h1,e⟩:=iY e;obtain⟨u,g,e⟩:=iR e;obtain⟨i,e⟩:=jz e;obtain⟨rfl,rfl⟩:=sH e;refine⟨o,T,os,d,E,h1,λx s t B=>?_⟩;have r:=vB g B.len λj r v a b=>B.rep E a b;exact⟨by rw[r.length];exact i,λp f=>(B.done k).tup f (B.np<|Nm f) r⟩
def VT(h:PA X m (tA X.K<|fs.map iU)):PX X (.List m c) (ml fs):=PX.imp (Wj h) λy U Q l=>by obtain⟨o,T,w,q,E,e,k⟩:=l;obtain⟨os,d,h1,e⟩:=iY e;obtain⟨u,f,e⟩:=iR e;obtain⟨g,e⟩:=jz e;obtain⟨rfl,rfl⟩:=sH e;refine⟨o,T,os,d,E,h1,λx s t B=>?_⟩;have r:=vB f B.len λj r v a b=>B.rep E a b;exact⟨by rw[r.length];exact g,λp i=>(B.done k).lst i r⟩
def JI{g:List D}{f:List V}{d:D}(h:(VP g)=VP f)(hd:g=[d]):∃v,f=[v]:=by
 subst hd
 cases f with
 |nil=>simp at h
 |cons v r=>
  cases r with
  |nil=>exact⟨v,rfl⟩
  |cons _ _=>simp at h
noncomputable def g1(g:D->Option (D×Bool)):List D->Option (D×Bool)
 |[d]=>g d
 |_=>J
noncomputable def g2(g:D->D->Option (D×Bool)):List D->Option (D×Bool)
 |[d,e]=>g d e
 |_=>J
def nC{f:iX}{g:D->Option (D×Bool)}(h:∀(i:jK)(s:iT)(j:L2.St)(T:Hp)(x:V)(u:iX)(Q:VK)(O:AB)(d:D)(z:D×Bool),Inv X i j T s->RelV x u->(∀p,¬Ow (T p)->¬O p)->kz X.K T O d x->g d=Y z->Gen X.K T O z Q->
  ah (ai X.prog X.w) X.A (call f [u]) (EP X i j Q) X.xe s):kL X f (Ga X.K<|g1 g):=by
 intro i s j T xs y Q U r q;obtain⟨O,l,z,np,o,hv,k,G⟩:=q
 match l,k with
 |[d],k=>obtain⟨v,rfl⟩:=JI o H;obtain⟨u,rfl,t⟩:=qy r;exact h i s j T v u Q O d z U t np (hv 0 d v H H) k G
def Qh{f:iX}{g:D->D->Option (D×Bool)}(h:∀(i:jK)(s:iT)(k:L2.St)(T:Hp)(x y:V)(j:jW)(Q:VK)(O:AB)(d e:D)(z:D×Bool),Inv X i k T s->Vals [x,y] j->(∀p,¬Ow (T p)->¬O p)->kz X.K T O d x->kz X.K T O e y->g d e=Y z->Gen X.K T O z Q->
  ah (ai X.prog X.w) X.A (call f j) (EP X i k Q) X.xe s):kL X f (Ga X.K<|g2 g):=by
 intro i s k T u j Q U r t;obtain⟨O,o,z,np,q,hv,l,G⟩:=t;rcases o with _|⟨d,_|⟨e,_|⟨_,_⟩⟩⟩<;>try cases l
 rcases u with _|⟨x,_|⟨y,_|⟨_,_⟩⟩⟩<;>try cases q
 exact h i s k T x y j Q O d e z U r np (hv 0 d x H H) (hv 1 e y H H) l G
noncomputable def BP:D->Option (D×Bool)
 |.tup l=>Y (.int<|VP l,C)
 |.lst l=>Y (.int<|VP l,C)
 |_=>J
def aeN:kL X (.builtin "len") (Ga X.K<|g1 BP):=nC λf s j T x u Q O d z U i np hd g G=>by
 cases d with
 |tup l=>
  cases g;obtain⟨p,h,rfl,q,r⟩:=lL hd;refine wV f s j T [_] [u] Q U (.cons i .nil) ⟨p,h,rfl,.inr q,?_⟩;rw[r.length];exact G.int
 |lst l=>
  cases g;obtain⟨p,h,rfl,q,r⟩:=kU hd;refine wV f s j T [_] [u] Q U (.cons i .nil) ⟨p,h,rfl,.inl q,?_⟩;rw[r.length];exact G.int
 |_=>cases g
noncomputable def Eu:D->Option (D×Bool)
 |.int i=>Y (.int (if i<0 then -i else i),C)
 |_=>J
def aeQ:kL X (.builtin "abs") (Ga X.K<|g1 Eu):=nC λf s j T x u Q O d z U h np hd g G=>by
 cases d with
 |int i=>cases g;exact Qi f s j T [x] [u] Q U (.cons h .nil) ⟨i,by rw[jJ hd],G.int⟩
 |_=>cases g
noncomputable def F4:D->Option (D×Bool)
 |.int i=>Y (.int i,C)
 |.bl b=>Y (.int (if b then 1 else 0),C)
 |_=>J
def aeO:kL X (.type "int") (Ga X.K<|g1 F4):=nC λf s j T x u Q O d z U h np hd g G=>by
 cases d with
 |int i=>cases g;exact CS f s j T [x] [u] Q U (.cons h .nil)<|.inl ⟨i,by rw[jJ hd],G.int⟩
 |bl i=>
  cases g;refine CS f s j T [x] [u] Q U (.cons h .nil)<|.inr ⟨i,by rw[DM hd],?_⟩;have:=G.int;cases i<;>exact this
 |_=>cases g
noncomputable def nO:D->Option (D×Bool)
 |.tup l=>Y (.tup l,C)
 |.lst l=>Y (.tup l,C)
 |_=>J
def adF:kL X (.type "tuple") (Ga X.K<|g1 nO):=nC λf s o T x u Q O d z U k np hd g G=>by
 cases d with
 |tup l=>
  cases g;have j:Rep X.K T O (.tup l) x:=hd.elim id λ⟨_,_,z⟩=>z.elim;obtain⟨p,h,rfl,q,r⟩:=j.tup;exact uW f s o T [_] [u] Q U (.cons k .nil) ⟨p,h,rfl,.inr ⟨q.sq,G _ T (λ_ _ e=>e) j⟩⟩
 |lst l=>
  cases g;obtain⟨p,h,rfl,q,r⟩:=kU hd;exact uW f s o T [_] [u] Q U (.cons k .nil) ⟨p,h,rfl,.inl ⟨q,λt i=>G.tup i (np t<|Nm i) r⟩⟩
 |_=>cases g
noncomputable def yH:D->Option (D×Bool)
 |.tup l=>Y (.lst l,I)
 |.lst l=>Y (.lst l,I)
 |_=>J
def Br:kL X (.type "list") (Ga X.K<|g1 yH):=nC λf s k T x u Q O d z U j np hd g G=>by
 cases d with
 |tup l=>
  cases g;obtain⟨p,i,rfl,q,r⟩:=lL hd;exact wU f s k T [_] [u] Q U (.cons j .nil) ⟨p,i,rfl,.inr q,λt h=>G.lst h r⟩
 |lst l=>
  cases g;obtain⟨p,i,rfl,q,r⟩:=kU hd;exact wU f s k T [_] [u] Q U (.cons j .nil) ⟨p,i,rfl,.inl q,λt h=>G.lst h r⟩
 |_=>cases g
end
abbrev FT:=Dn->Option (Bool×Dn)
inductive tT(K:jr)(f:FT)(σ:L2.St)(H:Hp)(Q:Bool->Hp->Prop):Prop where
 |mk (δ:Dn) (T:AB) (b:Bool) (δ':Dn) (_:ER K H T σ δ) (_:f δ=TW (b,δ')) (_:∀H',BV σ δ H δ' H'->ER K H' T σ δ'->Q b H')
def Ov(X:Cx)(e:iW)(f:FT):Prop:=PT X e<|tT X.K f
def PWX(X:Cx)(e:iW)(f:FT):Prop:=PW X e<|tT X.K f
noncomputable def Lf:(D×Bool)×Dn->Option (Bool×Dn)
 |((.bl b,_),a)=>Y (b,a)
 |_=>J
def fT(f:F):FT:=λδ=>(f δ).bind Lf
def Bv(h:Lf p=Y q):∃o,p=((.bl q.1,o),q.2):=by
 obtain⟨⟨d,o⟩,a⟩:=p
 cases d with
 |bl b=>cases h;exact⟨o,rfl⟩
 |_=>cases h
def T8{K:jr}{f:F}{a:L2.St}{U:Hp}{Q:Bool->Hp->Prop}(h:tT K (fT f) a U Q):tF K f a U λx i=>∃c,x=.bl c/\Q c i:=by obtain⟨l,T,b,m,E,e,k⟩:=h;obtain⟨p,h1,j⟩:=iR e;obtain⟨o,rfl⟩:=Bv j;refine⟨l,T,_,_,E,h1,λv g P=>?_⟩;obtain⟨d,r⟩:=P.rep E;exact⟨b,r.bl,k g P.1 d⟩
section
variable {X:Cx}{e a b c:iW}{A:kr}{l i:FO}{f g:F}{w n:FT}{m:bn}
def PT.imp'(h:PT X e t)(k:∀j T Q,p j T Q->t j T Q):PT X e p:=λd s j T Q U o=>h d s j T Q U<|k j T Q o
def PW.imp'(h:PW X e t)(k:∀j T Q,p j T Q->t j T Q):PW X e p:=λwh d s j T Q U o=>h wh d s j T Q U<|k j T Q o
def Sf{r:R2}{g:D->D->Option (D×Bool)}(M:Xz X.K r g){t:L2.St}{H:Hp}{Q:VK}(N:tF X.K (jl g l i) t H Q):Ln r (tO X.K l) (tO X.K i) t H Q:=by obtain⟨Y,T,R,F,E,e,k⟩:=N;obtain⟨o,d,h1,e⟩:=iY e;obtain⟨U,q,I,e⟩:=iY e;obtain⟨x,L,e⟩:=iR e;obtain⟨y,O,e⟩:=iR e;obtain⟨z,G,e⟩:=iR e;obtain⟨rfl,rfl⟩:=jw e;refine⟨Y,T,o,d,E,h1,λv P h=>⟨d,B7 T o v,U,q,h.er E,I,λu C s=>?_⟩⟩;have B:=Ops.cons E h<|Ops.cons (h.er E) s<|Ops.nil<|s.er<|h.er E;exact M x y z v u C _ Q (λp J=>B.np J) (B.view (j:=0) UV UV L) (B.view (j:=1) UV UV O) G (B.done k)
def Zk{K:jr}{g:D->D->Option (D×Bool)}:Xz K (rD K g) g:=λx y z v u U O Q np h j d G=>⟨O,x,y,z,np,h,j,d,G⟩
noncomputable def rh(f g:FT):FT:=λd=>(f d).bind λp=>if p.1=I then g p.2 else Y (C,p.2)
noncomputable def Bb(f g:FT):FT:=λd=>(f d).bind λp=>if p.1=I then Y (I,p.2)else g p.2
noncomputable def oV(f:FT):FT:=λδ=>(f δ).bind λp=>Y (!p.1,p.2)
def Bf(f g:F):F:=λd=>(f d).bind λp=>(Lf p).bind λq=>if q.1=I then g q.2 else Y ((.bl C,C),q.2)
def Tj(f:F):F:=λd=>(f d).bind λp=>(Lf p).bind λq=>Y ((.bl (!q.1),C),q.2)
def BF.pre{K:jr}{T:AB}{h:L2.St}{δ δ1 δ2:Dn}{U j q:Hp}{r:D×Bool}{v:V}(k:BV h δ U δ1 j)(P:BF K T h δ1 j r δ2 v q):BF K T h δ U r δ2 v q:=by
 refine⟨k.trans P.1,?_⟩;obtain⟨d,o⟩:=r
 cases o
 .exact P.2
 obtain⟨p,h1,s,t⟩:=P.2;refine⟨p,h1,?_,t⟩
 cases u:U p with
 |none=>rfl
 |some x=>exact absurd s<|k.dm p (by rw[u];simp)
noncomputable def LF(t:FT)(f g:F):F:=λd=>(t d).bind λp=>if p.1=I then f p.2 else g p.2
end
inductive Out where
 |nx(δ:Dn)|rt(r:D×Bool)(δ:Dn)|bk(δ:Dn)|ct(δ:Dn)
abbrev FS:=Dn->Option Out
structure SK(A:kB)(σ:L2.St)(δ:Dn)(H:Hp)(σ':L2.St)(δ':Dn)(H':Hp):Prop where
 kp:∀a o,H a=TW o->¬X0 σ δ a->H' a=TW o
 owi:∀i a,Aw σ' δ' i a->Aw σ δ i a\/H a=T2\/(A i/\∃j,A j/\Aw σ δ j a)
 dm:∀a,H a≠T2->H' a≠T2
 as:∀i,¬A i->σ'[i]?=σ[i]?
structure LL where
 p:Nat->Prop
 st:Option L2.St
structure FI(A:kB)(L:LL)(H0:Hp)(σ:L2.St)(δ:Dn)(H:Hp):Prop where
 ow:∀i a,Aw σ δ i a->L.p i\/H0 a=T2
 dm:∀a,H0 a≠T2->H a≠T2
 al:∀j,A j->¬L.p j
 gh:∀z,L.st=TW z->∀i,¬A i->σ[i]?=z[i]?
def RV(K:jr)(T:AB)(f:Hp)(r:D×Bool)(c:L2.St)(b:Dn)(v:V)(e:Hp):Prop:=
 match r with
 |(d,C)=>ER K e T c b/\Rep K e (λa=>X0 c b a\/T a) d v
 |(d,I)=>∃p,v=.ref p/\f p=J/\ER K e (λa=>T a\/a=p) c b/\D4 K e (λa=>X0 c b a\/T a\/a=p) d p
section
variable {A:kB}{c b m:L2.St}{δ δ1 δ2:Dn}{H l g q:Hp}{L:LL}{K:jr}{T:AB}
def SK.refl:SK A c δ H c δ H:=⟨λ_ _ e _=>e,λ_ _ z=>.inl z,λ_ z=>z,λ_ _=>rfl⟩
def SK.ow(k:SK A c δ H b δ1 g)(a:iO)(h:X0 b δ1 a):X0 c δ a\/H a=J:=by
 obtain⟨i,d,h1,o⟩:=h;rcases k.owi i a ⟨d,h1,o⟩with⟨e,f,n⟩|z|⟨_,j,_,e,f,n⟩
 .exact .inl ⟨i,e,f,n⟩
 .exact .inr z
 exact .inl ⟨j,e,f,n⟩
def SK.trans(x:SK A c δ H b δ1 g)(y:SK A b δ1 g m δ2 q):SK A c δ H m δ2 q where
 kp:=λa o e n=>y.kp a o (x.kp a o e n) λz=>(x.ow a z).elim n λz=>by rw[z]at e;cases e
 owi:=λi a z=>(y.owi i a z).elim (x.owi i a) λz=>z.elim (λz=>.inr (.inl (by
  cases h:H a with
  |none=>rfl
  |some o=>exact absurd z<|x.dm a<|by rw[h];simp))) λ⟨d,j,f,z⟩=>(x.owi j a z).elim (λz=>.inr (.inr ⟨d,j,f,z⟩)) λz=>z.elim (λz=>.inr (.inl z)) λ⟨_,k,ak,z⟩=>.inr (.inr ⟨d,k,ak,z⟩)
 dm:=λa z=>y.dm a<|x.dm a z
 as:=λi h=>(y.as i h).trans<|x.as i h
def BV.sk(k:BV c δ H δ1 g):SK A c δ H c δ1 g:=⟨k.kp,λi a z=>.inl (k.owi i a z),k.dm,λ_ _=>rfl⟩
def FI.step(f:FI A L l c δ H)(k:SK A c δ H b δ1 g):FI A L l b δ1 g where
 ow:=λi a z=>(k.owi i a z).elim (f.ow i a) λz=>.inr (z.elim (λz=>by
  cases h:l a with
  |none=>rfl
  |some o=>exact absurd z<|f.dm a<|by rw[h];simp) λU=>by obtain⟨_,j,d,z⟩:=U;exact (f.ow j a z).resolve_left<|f.al j d)
 dm:=λa z=>k.dm a<|f.dm a z
 al:=f.al
 gh:=λz e i n=>(k.as i n).trans<|f.gh z e i n
def FI.fresh(f:FI A L l c δ H)(a:H p=J):l p=J:=by
 cases h:l p with
 |none=>rfl
 |some o=>exact absurd a<|f.dm p (by rw[h];simp)
end
def XB(K:jr)(A:kB)(f:Hp)(D:Ends)(e:L2.St)(d:Dn)(U:Hp)(T:AB)(out:Out):Prop:=
 match out with
 |.nx b=>∀a c,SK A e d U a b c->ER K c T a b->D.nx a c
 |.bk b=>∀a c,SK A e d U a b c->ER K c T a b->D.bk a c
 |.ct b=>∀a c,SK A e d U a b c->ER K c T a b->D.ct a c
 |.rt r b=>∀v a c,SK A e d U a b c->RV K T f r a b v c->D.rt v c
inductive tS(K:jr)(A:kB)(L:LL)(H0:Hp)(f:FS)(D:Ends)(σ:L2.St)(H:Hp):Prop where
 |mk (δ:Dn) (T:AB) (out:Out) (_:ER K H T σ δ) (_:FI A L H0 σ δ H) (_:f δ=TW out) (_:XB K A H0 D σ δ H T out)
def NJ(X:Cx)(A:kB)(L:LL)(a:Hp)(st:bh)(f:FS):Prop:=PS X st<|tS X.K A L a f
def IJ(X:Cx)(A:kB)(L:LL)(a:Hp)(st:List bh)(f:FS):Prop:=Hw X st<|tS X.K A L a f
noncomputable def jI:FS:=λa=>Y<|.nx a
noncomputable def jg(f g:FS):FS:=λδ=>(f δ).bind λo=>match o with
 |.nx δ1=>g δ1
 |o=>Y o
noncomputable def oE(f:F):FS:=λa=>(f a).bind λp=>Y<|.nx p.2
noncomputable def lC(f:F):FS:=λa=>(f a).bind λp=>Y<|.rt p.1 p.2
noncomputable def rE(i:Nat):FS:=λa=>match a[i]? with
 |some (Y (d,I))=>Y<|.rt (d,I)<|a.set i J
 |some (Y (d,C))=>Y<|.rt (d,C) a
 |_=>J
noncomputable def EJ(t:FT)(f g:FS):FS:=λa=>(t a).bind λp=>if p.1=I then f p.2 else g p.2
noncomputable def kQ(i:Nat)(f:F):FS:=λδ=>(f δ).bind λp=>if i<(VP p.2)then Y (.nx<|p.2.set i<|Y p.1)else J
section
variable {X:Cx}{A:kB}{L:LL}{d:Hp}{st:bh}{l:List bh}{f g:FS}{m:F}{j:FT}{e c:iW}{i:bn}
def PS.imp'(h:PS X st t)(k:∀D b T,o D b T->t D b T):PS X st o:=λa s b T D U n=>h a s b T D U<|k D b T n
def Hw.imp'(h:Hw X l t)(k:∀D b T,o D b T->t D b T):Hw X l o:=λa s b T D U n=>h a s b T D U<|k D b T n
def V5(Q:Ov X c j)(U:IJ X A L d a f)(O:IJ X A L d b g):NJ X A L d (.If c a b i) (EJ j f g):=PS.imp' (Uk Q U O) λD w H M=>by
 obtain⟨y,T,out,E,N,e,k⟩:=M;obtain⟨c,o,h1,e⟩:=iY e;refine⟨y,T,c,o,E,h1,λx B z=>?_⟩;have u:SK A w y H w o x:=B.sk
 have fin:∀(h:FS),h o=Y out->tS X.K A L d h D w x:=λh G=>by
  refine⟨o,T,out,z,N.step u,G,?_⟩
  cases out with
  |nx s=>exact λn p q t=>k n p (u.trans q) t
  |bk s=>exact λn p q t=>k n p (u.trans q) t
  |ct s=>exact λn p q t=>k n p (u.trans q) t
  |rt r s=>exact λv n p q R2=>k v n p (u.trans q) R2
 cases c with
 |true=>rw[jh UV]at e;exact(show(if I=I then tS X.K A L d f D w x else _)from by rw[jh UV];exact fin f e)
 |false=>rw[jy lH]at e;exact(show(if C=I then _ else tS X.K A L d g D w x)from by rw[jy lH];exact fin g e)
end
def nN{b:Type}{l:List b}{i j:Nat}{x y:b}(h:(l.set i x)[j]?=Y y):(i=j/\i<VP l/\y=x)\/(i≠j/\l[j]?=Y y):=by
 rw[Ab]at h;split at h
 .rename_i a;split at h
  .rename_i c;exact .inl ⟨a,c,(lg h).symm⟩
  cases h
 rename_i a;exact .inr ⟨a,h⟩
section
variable {K:jr}{T:AB}{f:L2.St}{l c:Dn}{H g:Hp}{x:D×Bool}{v:V}{i:Nat}
def Aw.store{j:Nat}{a:iO}(h:Aw (f.set i<|Y v) (l.set i<|Y x) j a):(i≠j/\Aw f l j a)\/(i=j/\x.2=I/\v=.ref a):=by
 obtain⟨d,h1,m⟩:=h;rcases nN h1 with⟨e,_,q⟩|⟨ne,q⟩
 .rcases nN m with⟨_,_,k⟩|⟨b,_⟩
  .right;cases q;exact⟨e,rfl,(lg k).symm⟩
  exact absurd e b
 rcases nN m with⟨n,_,_⟩|⟨_,k⟩
 .exact absurd n ne
 exact .inl ⟨ne,d,q,k⟩
def X0.store(h:X0 (f.set i<|Y v) (l.set i<|Y x) a):X0 f l a\/(x.2=I/\v=.ref a):=by
 obtain⟨j,d,h1,k⟩:=h;rcases Aw.store ⟨d,h1,k⟩with⟨_,e,b,m⟩|⟨_,b⟩
 .exact .inl ⟨j,e,b,m⟩
 exact .inr b
def ER.store(h:ER K g (Lg T x v) f c)(E:i<VP c)(u:match x with|(d,C)=>Rep K g (λa=>X0 f c a\/T a) d v|(d,I)=>∃p,v=.ref p/\¬T p/\D4 K g (λa=>X0 f c a\/T a\/a=p) d p):
  ER K g T (f.set i<|Y v) (c.set i<|Y x):=by
 have r:i<(VP f):=by rw[h.len];exact E
 have sub:∀b,g b≠J->(X0 (f.set i<|Y v) (c.set i<|Y x) b\/T b)->(X0 f c b\/Lg T x v b):=λb _ z=>by
  rcases z with z|z
  .rcases z.store with z|z
   .exact .inl z
   exact .inr (.inr z)
  exact .inr (.inl z)
 refine⟨by rw[tw,tw];exact h.len,λj d o=>?_,λj d o=>?_,λj k d e a o hk h1 n=>?_,λa z=>?_,λa z=>h.dom a<|.inl z⟩
 .rcases nN o with⟨rfl,_,q⟩|⟨ne,q⟩
  .have q:=lg q;subst q
   exact⟨v,oB r,Rep.mono (λ_ _ e _=>e) (λb Q z=>by
    rcases z with z|z
    .rcases z.store with z|z
     .exact .inl z
     exact absurd z.1 (by simp)
    exact .inr z) u⟩
  obtain⟨w,h1,n⟩:=h.val j d q;exact⟨w,by rw[oP ne];exact h1,Rep.mono (λ_ _ e _=>e) sub n⟩
 .rcases nN o with⟨rfl,_,q⟩|⟨ne,q⟩
  .have q:=lg q;subst q;obtain⟨p,rfl,np,ok⟩:=u;refine⟨p,oB r,ok.mono (λ_ _ e _=>e) (λb Q z=>?_) λ_ e=>e⟩;rcases z with z|z
   .rcases z.store with z|z
    .exact .inl z
    have:=z.2;cases this;exact .inr<|.inr UV
   exact .inr (.inl z)
  obtain⟨a,h1,n⟩:=h.own j d q;exact⟨a,by rw[oP ne];exact h1,n.mono (λ_ _ e _=>e) sub λ_ e=>e⟩
 .rcases Aw.store ⟨d,o,h1⟩with⟨L,y,g1,g2⟩|⟨B,g1,g2⟩
  .rcases Aw.store ⟨e,hk,n⟩with⟨U,s,g3,m⟩|⟨A,g3,m⟩
   .exact h.inj j k y s a g1 g3 g2 m
   exact absurd (bj ⟨g3,m⟩) (h.nT a ⟨j,y,g1,g2⟩)
  rcases Aw.store ⟨e,hk,n⟩with⟨U,s,g3,m⟩|⟨A,g3,m⟩
  .exact absurd (bj ⟨g1,g2⟩) (h.nT a ⟨k,s,g3,m⟩)
  exact B.symm.trans A
 rcases z.store with z|z
 .exact λt=>h.nT a z<|.inl t
 obtain⟨d,b⟩:=x
 cases b
 .exact absurd z.1 (by simp)
 obtain⟨p,rfl,np,_⟩:=u;have:=z.2;cases this;exact np
def SK.store(k:BV f l H c g)(b:A i)(h:x.2=I->∀p,v=.ref p->H p=J):SK A f l H (f.set i<|Y v) (c.set i<|Y x) g where
 kp:=k.kp
 owi:=λj a z=>by
  rcases z.store with⟨_,z⟩|⟨_,m,n⟩
  .exact .inl (k.owi j a z)
  exact .inr (.inl<|h m a n)
 dm:=k.dm
 as:=λj d=>oP λ(e:i=j)=>d (by subst e;exact b)
end
section
variable {X:Cx}{A:kB}{L:LL}{g:Hp}{f:F}{e c:iW}{b a:bn}
def Am{K:jr}{T:AB}{k:L2.St}{n j:Dn}{U l:Hp}{r:D×Bool}{v:V}{i:Nat}(E:ER K U T k n)(P:BF K T k n U r j v l)(u:i<VP j)(t:A i):
  SK A k n U (k.set i<|Y v) (j.set i<|Y r) l/\ER K l T (k.set i<|Y v) (j.set i<|Y r):=by
 have w:r.2=I->∀p,v=.ref p->U p=J:=λh p hv=>by
  obtain⟨d,o⟩:=r
  cases o
  .cases h
  obtain⟨q,h1,m,_⟩:=P.2;rw[hv]at h1;cases h1;exact m
 refine⟨SK.store P.1 t w,ER.store (P.er E) u ?_⟩;obtain⟨d,o⟩:=r
 cases o
 .exact P.2.2
 obtain⟨p,rfl,m,x,s⟩:=P.2;exact⟨p,rfl,λz=>(E.dom p z).ne m,s⟩
end
abbrev Tg:=D->Dn->Option Dn
inductive tG(K:jr)(A:kB)(tg:Tg)(v:V)(σ:L2.St)(hp:Hp)(Q:L2.St->Hp->Prop):Prop where
 |mk (δ:Dn) (T:AB) (d:D) (δ':Dn) (_:ER K hp T σ δ) (_:Rep K hp (λa=>X0 σ δ a\/T a) d v) (_:tg d δ=TW δ') (_:∀σ',SK A σ δ hp σ' δ' hp->ER K hp T σ' δ'->Q σ' hp)
def LQ(X:Cx)(A:kB)(e:iW)(a:Tg):Prop:=PG X e<|tG X.K A a
noncomputable def jd(i:Nat):Tg:=λd δ=>if i<(VP δ)then Y (δ.set i<|Y (d,C))else J
noncomputable def Jb:List Tg->List D->Dn->Option Dn
 |[],[],a=>Y a
 |t::b,d::ds,a=>(t d a).bind<|Jb b ds
 |_,_,_=>J
def Ja(a:List Tg):Tg
 |.tup ds,b=>Jb a ds b
 |_,_=>J
inductive Od(K:jr)(A:kB)(ts:List Tg)(vs:List V)(σ:L2.St)(hp:Hp)(Q:L2.St->Hp->Prop):Prop where
 |mk (δ:Dn) (T:AB) (ds:List D) (δ':Dn) (_:ER K hp T σ δ) (_:YP K hp (λa=>X0 σ δ a\/T a) ds vs) (_:Jb ts ds δ=TW δ') (_:∀σ',SK A σ δ hp σ' δ' hp->ER K hp T σ' δ'->Q σ' hp)
section
variable {X:Cx}{A:kB}{g:bn}{e:iW}{f:kr}{t:Tg}{c:List Tg}
def PG.imp'{t d:TG}(h:PG X e t)(k:∀v b T Q,d v b T Q->t v b T Q):PG X e d:=λa s b T v u Q U r i=>h a s b T v u Q U r<|k v b T Q i
def KW.imp'{t d:Lh}(h:KW X f t)(k:∀v b T Q,d v b T Q->t v b T Q):KW X f d:=λa s b T v u Q U r i=>h a s b T v u Q U r<|k v b T Q i
def agl:KW X [] (Od X.K A []):=KW.imp' RM λv h U Q b=>by
 obtain⟨i,T,a,d,E,r,e,k⟩:=b
 cases a with
 |nil=>
  cases e;rw[YP]at r;exact⟨r,k h .refl E⟩
 |cons _ _=>cases e
def Cm(h1:LQ X A e t)(p:KW X f (Od X.K A c))(u:(aZ (e::f) X.env).map (·.2)=cE e X.env::(aZ f X.env).map (·.2)):KW X (e::f) (Od X.K A (t::c)):=KW.imp' (agm h1 p u) λv O M Q w=>by
 obtain⟨U,T,h,i,E,r,e,k⟩:=w
 cases h with
 |nil=>cases e
 |cons d h=>rw[YP]at r;obtain⟨B,N,rfl,x,y⟩:=r;obtain⟨a,q,e⟩:=iR e;refine⟨B,N,rfl,U,T,d,a,E,x,q,λL l m=>⟨a,T,h,i,m,?_,e,λj o n=>k j (l.trans o) n⟩⟩;exact YP.mono (λ_ _ e _=>e) (λb s z=>z.elim (λz=>(l.ow b z).elim bv λz=>absurd z s) bj) y
def RL{k:Nat}(o:X.calm=I)(h:KW X f (Od X.K A c)){n:Nat}(s:(aZ f X.env).length=n)(p:c.length=n)(x:(aZ f X.env).findIdx? (·.1)=J):LQ X A (.Tuple f k g) (Ja c):=PG.imp' (We o h s x) λv z U Q u=>by
 obtain⟨i,T,d,j,E,r,e,k⟩:=u
 cases d with
 |tup b=>
  obtain⟨a,y,rfl,q,m⟩:=r.tup;refine⟨a,y,rfl,q.sq,?_,i,T,b,j,E,m,e,k⟩
  have:∀(c:List Tg)(b:List D)(i:Dn),Jb c b i=Y j->b.length=c.length:=by
   intro c
   induction c with
   |nil=>intro b i h;cases b with|nil=>rfl|cons _ _=>cases h
   |cons t c w=>
    intro b i h
    cases b with
    |nil=>cases h
    |cons d b=>obtain⟨l,_,h⟩:=iR h;simp[w b l h]
  rw[m.length,this c b i e,p]
 |_=>cases e
end
abbrev SB:=Nat->Prop
def Lj(B:SB)(T:AB)(c:L2.St)(b:Dn):AB:=λa=>(∃i,¬B i/\Aw c b i a)\/T a
def Lj.own(h:Lj B T σ δ a):X0 σ δ a\/T a:=h.imp (λU=>by obtain⟨i,_,d,h1,b⟩:=U;exact ⟨i,d,h1,b⟩) id
structure KY(K:jr)(J:It)(ds:List D)(P O:AB)(H1:Hp):Prop where
 go:∀(i:Nat) d Hi,ds[i]?=TW d->(∀a o,H1 a=TW o->¬P a->Hi a=TW o)->J.go i Hi/\∀x H',J.yld i Hi x H'->(∀a o,Hi a=TW o->H' a=TW o)/\
  ∀O':AB,(∀b,H1 b≠T2->O' b->O b)->(∀b,Hi b=T2->¬O' b)->Rep K H' O' d x
 stop:∀(i:Nat) Hi,VP ds<=i->(∀a o,H1 a=TW o->¬P a->Hi a=TW o)->J.stop i Hi
abbrev EG:=Dn->Option (List D×Dn)
def tI(K:jr)(B:SB)(g:EG):TI:=λc Q R=>∃e T f b,ER K Q T c e/\g e=Y (f,b)/\∀U d,BV c e Q b d->ER K d T c b->KY K U f (Lj B T c b) (λa=>X0 c b a\/T a) d->R U d
def LH(X:Cx)(B:SB)(tg iter:iW)(a:EG):Prop:=PI X tg iter<|tI X.K B a
noncomputable def uQ:D->Option (List D)
 |.tup l=>Y l
 |.lst l=>Y l
 |_=>J
def AO(f:FO):EG:=λa=>(f a).bind λp=>(res p.2 p.1).bind λd=>(uQ d).bind λl=>Y (l,p.2)
noncomputable def kN(f:F):EG:=λδ=>(f δ).bind λp=>match p.1.1 with
 |.lst l=>Y (l,p.2)
 |.tup l=>Y (l,p.2)
 |_=>J
noncomputable def jP(lo:Int)(n:Nat):List D:=(aj n).map λ(k:Nat)=>.int (lo+k)
def zc(f:FO):EG:=λa=>(kY [f] a).bind λp=>match vE p.2 p.1 with
 |some [.int j]=>if -(2^62)<=j/\j<2^62 then Y (jP 0 j.toNat,p.2)else J
 |_=>J
def OG(B:SB)(f:FO):Prop:= ∀b i a,f b=Y (.slot i,a)->B i
def DS:OG B (iU f):=λb i a h=>by obtain⟨p,_,h⟩:=iR h;cases h
def DR(h:B i):OG B (iQ i):=λb j a e=>by
 unfold iQ at e;split at e<;>cases e
 exact h
noncomputable def Ny:D->Bool
 |.lst _=>I
 |_=>C
def ID(b:Bool)(K:jr)(U:Hp)(P:AB)(a:iO)(c:List V):Prop:=if b=I then HV K U P a c else HU K U P a c
def ID.mono{K U H'}{P P':AB}(q:ID b K U P a xs)(k:∀b o,U b=Y o->¬P b->H' b=Y o)(c:∀b,P' b->P b):ID b K H' P' a xs:=by
 cases b
 .exact HU.mono (K:=K) q k λb _=>c b
 exact HV.mono q k λb _=>c b
def ID.l{K U}(q:ID I K U P a xs):F5 K U a xs:=HV.sq q
def ID.t{K U}(q:ID C K U P a xs):HZ K U a xs:=HU.sq (K:=K) q
def Cj{K U}(h:uQ d=Y l)(r:Rep K U O d v):∃a b,v=.ref a/\ID (Ny d) K U O a b/\YP K U O l b:=by
 cases d with
 |tup m=>cases h;obtain⟨a,b,rfl,q,c⟩:=r.tup;exact⟨a,b,rfl,q,c⟩
 |lst m=>cases h;obtain⟨a,b,rfl,q,c⟩:=r.lst;exact⟨a,b,rfl,q,c⟩
 |_=>cases h
def Ops.seq{K:jr}{T N:AB}{h:L2.St}{A c:Dn}{M n:Hp}{os:List BU}{y:List V}(E:ER K M T h A)(W:Ops K T h A M os y c n N){j:Nat}(h1:os[j]?=Y o)(x:y[j]?=Y v)(s:res c o=Y d)(t:uQ d=Y l)(L:∀i,o=.slot i->B i):
  ∃a g,v=.ref a/\ID (Ny d) K n (Lj B T h c) a g/\YP K n (λa=>X0 h c a\/T a) l g:=by
 have fin:Rep K n (λa=>X0 h c a\/T a) d v->∃a g,v=.ref a/\ID (Ny d) K n (Lj B T h c) a g/\YP K n (λa=>X0 h c a\/T a) l g:=λr=>by obtain⟨a,g,rfl,q,u⟩:=Cj t r;exact⟨a,g,rfl,q.mono (λ_ _ e _=>e) λa z=>z.own,u⟩
 cases o with
 |val r=>cases s;exact fin<|W.rep E h1 x
 |slot i=>
  have hk:=W.slt j i _ h1 x
  have hd:∃f,c[i]?=Y (Y (d,f)):=by
   unfold res at s;dsimp only at s;split at s<;>cases s
   exact⟨_,by assumption⟩
  obtain⟨f,hd⟩:=hd
  cases f
  .obtain⟨w,p,U⟩:=W.er.val i _ hd;rw[hk]at p;cases p;exact fin<|Rep.mono (λ_ _ e _=>e) (λb _ z=>z.imp id<|W.tt b) U
  obtain⟨a,p,ok⟩:=W.er.own i _ hd;rw[hk]at p;cases p
  cases d with
  |lst m=>
   cases t;obtain⟨g,e,u⟩:=ok;exact⟨a,g,rfl,.inl ⟨.inl e,λz=>z.elim (λG=>by obtain⟨k,O,Q,g1,g2⟩:=G;exact O<|W.er.inj i k _ _ a hd g1 hk g2▸L i H) λz=>W.er.nT a ⟨i,_,hd,hk⟩<|W.tt a z⟩,YP.mono (λ_ _ e _=>e) (λb _ z=>z.imp id<|W.tt b) u⟩
  |tup m=>exact ok.elim
  |_=>cases t
section
variable {X:Cx}{B:SB}{tg e:iW}{f:F}{c:FO}{g p:bn}
def PI.imp'(h:PI X tg e t)(k:∀b T R,i b T R->t b T R):PI X tg e i:=λa s b T R U d=>h a s b T R U<|k b T R d
def PI.or(h:PI X tg e t)(d:PI X tg e j):PI X tg e (λb T R=>t b T R\/j b T R):=λa s b T R U i=>i.elim (h a s b T R U)<|d a s b T R U
def ItS(b:Bool)(K:jr)(a:iO):It:=if b=I then Itl K a else Itt K a
def Pj{K:jr}{P O:AB}{m:Hp}{a:iO}{k:List V}{l:List D}(q:ID b K m P a k)(r:YP K m O l k)(v:∀a,P a->O a):KY K (ItS b K a) l P O m:=by
 cases b<;>(
  refine⟨λi d Hi hd j=>?_,λi Hi w j=>?_⟩
  .have h:=ID.mono q j λ_ z=>z
   first|replace h:=h.l|replace h:=h.t
   obtain⟨x,u,A⟩:=r.get hd;refine⟨⟨k,x,h,u⟩,λy U s=>?_⟩;obtain⟨rfl,s⟩:=s;have:=s k h;rw[u]at this;cases this;exact⟨λ_ _ e=>e,λE h1 T=>Rep.mono (λb o e n=>j b o e λz=>n<|v b z) h1 A⟩
  exact⟨k,by first|exact(ID.mono q j λ_ z=>z).l|exact(ID.mono q j λ_ z=>z).t,by rw[r.length];exact w⟩)
def AQ{K:jr}{P O:AB}{b:Hp}(lo:Int)(n:Nat):KY K (OP lo n) (jP lo n) P O b:=by
 refine⟨λi d Hi hd j=>?_,λi Hi a j=>?_⟩
 .unfold jP at hd;rw[kX]at hd;obtain⟨k,h1,h⟩:=jM hd;have a:i<n:=by have:=(uI.mp h1).1;simpa using this
  have hk:k=i:=by rw[List.getElem?_range a]at h1;exact(lg h1).symm
  subst hk;refine⟨a,λy m l=>?_⟩;obtain⟨rfl,rfl⟩:=l;refine⟨λ_ _ e=>e,λo _ _=>?_⟩;rw[<-h];exact Rep.mkInt
 unfold jP at a;have:n<=i:=by simpa using a
 exact this
def Fu(h:PO X e c)(N:OG B c):LH X B tg e (AO c):=PI.imp' (PI.or (RK (tg:=tg) h)<|Wd h) λy M R L=>by
 obtain⟨w,T,G,Q,E,e,k⟩:=L;obtain⟨o,u,h1,e⟩:=iY e;obtain⟨d,A,e⟩:=iR e;obtain⟨l,x,e⟩:=iR e;obtain⟨rfl,rfl⟩:=jw e
 have key:∀v n,FH X.K T y w M o u v n->∃a s,v=.ref a/\ID (Ny d) X.K n (Lj B T y u) a s/\R (ItS (Ny d) X.K a) n:=λv n P=>by have W:=Ops.cons E P<|Ops.nil<|P.er E;obtain⟨a,s,rfl,q,O⟩:=W.seq E (j:=0) H H A x λi U=>N _ _ _ (U▸h1);exact⟨a,s,rfl,q,k _ n W.keep (W.er.mono (λ_ _ e _=>e) (λb _ z=>W.tt b z) λa z=>W.er.dom a<|W.tt a z) (Pj q O λa z=>z.own)⟩
 cases d with
 |lst m=>exact .inl ⟨w,T,_,_,E,h1,λv n P=>let⟨a,s,e,q,r⟩:=key v n P;⟨a,e,⟨s,q.l⟩,r⟩⟩
 |tup m=>exact .inr ⟨w,T,_,_,E,h1,λv n P=>let⟨a,s,e,q,r⟩:=key v n P;⟨a,e,⟨s,q.t⟩,r⟩⟩
 |_=>cases x
end
noncomputable def pT(tg:Tg)(fb:FS):List D->FS
 |[],b=>Y<|.nx b
 |d::ds,b=>(tg d b).bind λc=>(fb c).bind λo=>match o with
  |.nx a=>pT tg fb ds a
  |.ct a=>pT tg fb ds a
  |.bk a=>Y<|.nx a
  |.rt r a=>Y<|.rt r a
def rF(b:EG)(c:Tg)(a:FS):FS:=λd=>(b d).bind λp=>pT c a p.1 p.2
section
variable {X:Cx}{A:kB}{L:LL}{l:Hp}{g iter:iW}{c:List bh}{j:EG}{t:Tg}{f:FS}{h:bn}
def RF(hp:fm (ai X.prog X.w) X.A X.env X.xe)(hc:X.calm=I)(hi:LH X (λ_=>False) g iter j)(hg:LQ X A g t)(G:IJ X A L l c f)(hs:∀x,aw iter X.env x=pure x):
  NJ X A L l (.For g iter c [] h) (rF j t f):=PS.imp' (V8 hp hc hi hg G hs) λD M H hw=>by
 obtain⟨δ,T,out,E,iC,e,k⟩:=hw;obtain⟨u,q,h1,e⟩:=iY e;refine⟨δ,T,u,q,E,h1,λJ Y K1 E1 ok=>?_⟩;have S:SK A M δ H M q Y:=K1.sk;refine⟨λi m s C'=>m=VP u-i/\i<=VP u/\∃p,SK A M q Y s p C'/\ER X.K C' T s p/\pT t f (u.drop i) p=TW out,⟨VP u,by simp,mn _,q,.refl,E1,by simpa using e⟩,?_⟩;rintro i m O H2 ⟨rfl,hle,I',S2,N,e2⟩;have Z:∀a o,Y a=TW o->¬Lj (λ_=>False) T M q a->H2 a=TW o:=λa o ea n=>S2.kp a o ea λ⟨i,d,z⟩=>n<|.inl ⟨i,id,d,z⟩;by_cases W:i<VP u
 .refine .inr ?_;have hd:u[i]?=TW u[i]:=lq W;obtain⟨go,yl⟩:=ok.go i _ H2 hd Z;rw[xD W]at e2;obtain⟨R,h3,e3⟩:=iR e2;obtain⟨o,h4,V⟩:=iR e3;refine⟨go,λs C'=>∃p,SK A M q Y s p C'/\ER X.K C' T s p/\pT t f (u.drop<|i+1) p=TW out,λs C' ⟨p,q1,q2,q3⟩=>⟨VP u-(i+1),by omega,rfl,W,p,q1,q2,q3⟩,λx C' hy=>?_⟩;obtain⟨ext,rep⟩:=yl x C' hy;have eP:ER X.K C' T O I':=N.mono (λb ob eb _=>ext b ob eb) (λ_ _ z=>z) λa z=>(N.dom a z).up<|ext a;have iI:SK A M q Y O I' C':=S2.trans (BV.ext ext).sk;have rx:=rep (λa=>X0 O I' a\/T a) (λb G z=>z.elim (λz=>(S2.ow b z).elim bv λz=>absurd z G) bj) λb G z=>z.elim (λz=>N.II z G) λz=>(N.dom b z).ne G;refine⟨I',T,u[i],R,eP,rx,h3,λσ3 S3 E3=>?_⟩;have P:=iI.trans S3;refine⟨R,T,o,E3,(iC.step S).step P,h4,?_⟩
  cases o with
  |nx y=>exact λB F Q U=>⟨y,P.trans Q,U,V⟩
  |ct y=>exact λB F Q U=>⟨y,P.trans Q,U,V⟩
  |bk y=>cases V;exact λB F Q U=>k B F (S.trans<|P.trans Q) U
  |rt r y=>cases V;exact λv B F Q R4=>k v B F (S.trans<|P.trans Q) R4
 refine .inl ⟨ok.stop i H2 (by omega) Z,?_⟩;rw[zZ<|by omega]at e2;cases e2;exact k O H2 (S.trans S2) N
end
noncomputable def oj(b:FT)(a:FS):Nat->FS
 |0,_=>J
 |n+1,c=>(b c).bind λp=>if p.1=I then(a p.2).bind λo=>(match o with
   |.nx δ2=>oj b a n δ2
   |.ct δ2=>oj b a n δ2
   |.bk δ2=>Y<|.nx δ2
   |.rt r δ2=>Y<|.rt r δ2)else Y (.nx p.2)
def zb(f g:FO):EG:=λδ=>(kY [f,g] δ).bind λp=>match vE p.2 p.1 with
 |some [.int i,.int j]=>if -(2^62)<=i/\i<2^62/\ -(2^62)<=j/\j<2^62 then Y (jP i (j-i).toNat,p.2)else J
 |_=>J
section
variable {X:Cx}{A:kB}{L:LL}{s:Hp}{B:SB}{t e c a b:iW}{d:List bh}{f:FT}{g:FS}{x u:FO}{l p:bn}
def aeo{n:Nat}(hp:fm (ai X.prog X.w) X.A X.env X.xe)(hc:Ov X c f)(hb:IJ X A L s d g):NJ X A L s (.While c d [] l) (oj f g n):=PS.imp' (afB hp hc hb) λD F H hw=>by
 obtain⟨U,T,out,E,iC,e,k⟩:=hw;refine⟨λm i I=>∃h,SK A F U H i h I/\ER X.K I T i h/\oj f g m h=Y out,⟨n,U,.refl,E,e⟩,?_⟩;rintro m J' H2 ⟨Y',S2,E2,e2⟩
 cases m with
 |zero=>cases e2
 |succ m=>
  obtain⟨S,C,Z,M⟩:=iY e2;refine⟨Y',T,S,C,E2,Z,λR V P=>?_⟩;have O:SK A F U H J' C R:=S2.trans V.sk
  cases S with
  |false=>rw[jy lH]at M;cases M;exact WX<|k J' R O P
  |true=>
   rw[jh UV]at M;obtain⟨o,h4,N⟩:=iR M;refine WW ⟨λi I=>∃h,SK A F U H i h I/\ER X.K I T i h/\oj f g m h=Y out,λi I q=>⟨m,Dw _,q⟩,C,T,o,P,iC.step O,h4,?_⟩
   cases o with
   |nx j=>exact λy G z Q=>⟨j,O.trans z,Q,N⟩
   |ct j=>exact λy G z Q=>⟨j,O.trans z,Q,N⟩
   |bk j=>cases N;exact λy G z Q=>k y G (O.trans z) Q
   |rt r j=>cases N;exact λv y G z W=>k v y G (O.trans z) W
def uj{K:jr}{T v:AB}{E:L2.St}{U m:Dn}{Q r:Hp}{os:List BU}{k:List V}{n:List D}(B:Ops K T E U Q os k m r v)(h:vE m os=Y n){j:Nat}{i:Int}(hd:n[j]?=Y (.int i)):k[j]?=Y (.int i):=by
 obtain⟨h1,w⟩:=pD h;obtain⟨o,q,y⟩:=w j _ hd;have z:j<(VP k):=by have:=(uI.mp q).1;have:=B.len;lia
 have hv:k[j]?=Y k[j]:=lq z;have:=jJ<|B.view q hv y;rw[hv,this]
end
abbrev BI:=List (D×Bool)->Option ((D×Bool)×Dn)
def KG(K:jr)(e:BI):Sp:=λd U Q _=>∃T a r b,ER K U T (d.map Y) (a.map Y)/\e a=Y (r,b)/\∀v c,BF K T (d.map Y) (a.map Y) U r b v c->Q v c
noncomputable def jH(args:List (D×Bool))(δ:Dn):Dn:=args.zipIdx.map λp=>if p.1.2=I then(δ[p.2]?).join else Y p.1
def AV(n np:Nat)(asg:jX)(f:FS):BI:=λargs=>
 if (VP args)=np/\np<=n/\(args.zipIdx.all λp=>!(p.1.2&&asg.contains p.2))=I then
  match f (args.map Y++ag (n-np) J)with
  |some (.rt r δ)=>Y (r,jH args δ)
  |some (.nx δ)=>Y ((.V0,C),jH args δ)
  |_=>J
 else J
def ags(a:List (D×Bool))(b:Dn)(i:Nat):(jH a b)[i]?=a[i]?.map λx=>if x.2=I then(b[i]?).join else Y x:=by
 unfold jH;rw[kX,Ha]
 cases a[i]? with
 |none=>rfl
 |some x=>simp
def qX(h:x.join=Y p):x=Y (Y p):=by
 cases x with
 |none=>cases h
 |some y=>exact oA Y h
section
variable {K:jr}{T:AB}{A:kB}{k:List V}{f:List (D×Bool)}{H q:Hp}{m:Nat}{l:L2.St}{g:Dn}{r:D×Bool}{v:V}
def ET{b:Type}{a:List b}{m i:Nat}{y:b}:(a.map Y++ag m J)[i]?=Y (Y y)↔a[i]?=Y y:=by
 by_cases h:i<VP a
 .rw[sd<|by simpa using h,kX];cases a[i]?<;>simp
 rw[qt<|by simpa using h];constructor
 .intro e;rw[wa]at e;split at e<;>cases e
 intro e;exact absurd (uI.mp e).1 h
def uz{b:Type}{a:List b}{i:Nat}{y:b}:(a.map Y)[i]?=Y (Y y)↔a[i]?=Y y:=by rw[kX];cases a[i]?<;>simp
def Mj{i:Nat}{a:iO}:Aw (k.map Y++ag m J) (f.map Y++ag m J) i a↔Aw (k.map Y) (f.map Y) i a:=by unfold Aw;simp only[ET,uz]
def Fw:X0 σ b a↔ ∃i,Aw σ b i a:=Iff.rfl
def Ou:X0 (k.map Y++ag m J) (f.map Y++ag m J) a↔X0 (k.map Y) (f.map Y) a:=by rw[Fw,Fw];exact exists_congr λi=>Mj
def ER.pad(E:ER K H T (k.map Y) (f.map Y)):ER K H T (k.map Y++ag m J) (f.map Y++ag m J):=by
 have len:(VP k)=(VP f):=by simpa using E.len
 refine⟨by simp[len],λi d h=>?_,λi d h=>?_,λi j d e a h1 o p s=>?_,λa z=>E.nT a<|Ou.mp z,E.dom⟩
 .obtain⟨w,c,n⟩:=E.val i d<|uz.mpr<|ET.mp h;exact⟨w,ET.mpr<|uz.mp c,Rep.mono (λ_ _ e _=>e) (λb _ z=>z.imp Ou.mp id) n⟩
 .obtain⟨w,c,n⟩:=E.own i d<|uz.mpr<|ET.mp h;exact⟨w,ET.mpr<|uz.mp c,n.mono (λ_ _ e _=>e) (λb _ z=>z.imp Ou.mp id) λ_ e=>e⟩
 exact E.inj i j d e a (uz.mpr<|ET.mp h1) (uz.mpr<|ET.mp o) (uz.mpr<|ET.mp p) (uz.mpr<|ET.mp s)
def JD{J:AB}(E:ER K H T (k.map TW) (f.map TW))(S:SK A (k.map TW++ag m T2) (f.map TW++ag m T2) H l g q)(hA:∀(i:Nat) d,f[i]?=TW (d,Uf)->¬A i)
  (Q:ER K q J l g)(hT:∀b,H b≠T2->J b->T b):ER K q J (k.map TW) (jH f g)/\(∀b,X0 (k.map TW) (jH f g) b->X0 l g b)/\BV (k.map TW) (f.map TW) H (jH f g) q:=by
 have len:(VP k)=(VP f):=by simpa using E.len
 have s:∀(i:Nat) d w,f[i]?=TW (d,Uf)->k[i]?=TW w->l[i]?=TW (TW w):=λi d w h1 p=>by rw[S.as i<|hA i d h1];exact ET.mpr p
 have t:∀(i:Nat) d b,(jH f g)[i]?=TW (TW (d,b))->(∃e,f[i]?=TW (e,Uf)/\g[i]?=TW (TW (d,b)))\/(b=UF/\f[i]?=TW (d,UF)):=λi d b h=>by
  rw[ags]at h;obtain⟨⟨e,c⟩,h1,p⟩:=jM h
  cases c
  .right;have:TW (e,UF)=TW (d,b):=by simpa using p
   cases this;exact⟨rfl,h1⟩
  left;exact⟨e,h1,qX<|by simpa using p⟩
 have B:∀i a,Aw (k.map TW) (jH f g) i a->Aw l g i a/\Aw (k.map TW) (f.map TW) i a:=λi a a'=>by
  obtain⟨d,h1,p⟩:=a'
  rcases t i d Uf h1 with⟨e,u,x⟩|⟨z,_⟩
  .exact⟨⟨d,x,s i e _ u (uz.mp p)⟩,⟨e,uz.mpr u,p⟩⟩
  cases z
 have G:∀b,X0 (k.map TW) (jH f g) b->X0 l g b:=λb a'=>by
  obtain⟨i,d,h1,p⟩:=a'
  obtain⟨⟨e,I,L⟩,_⟩:=B i b ⟨d,h1,p⟩;exact⟨i,e,I,L⟩
 have C:∀b,X0 (k.map TW) (jH f g) b->X0 (k.map TW) (f.map TW) b:=λb a'=>by
  obtain⟨i,d,h1,p⟩:=a'
  obtain⟨_,⟨e,I,L⟩⟩:=B i b ⟨d,h1,p⟩;exact⟨i,e,I,L⟩
 have U:∀a o,H a=TW o->¬X0 (k.map TW) (f.map TW) a->q a=TW o:=λa o e n=>S.kp a o e λz=>n<|Ou.mp z;refine⟨⟨?_,λi d h=>?_,λi d h=>?_,λi j d e a h1 p u x=>?_,λa z=>Q.nT a<|G a z,Q.dom⟩,G,⟨U,λi a z=>(B i a z).2,S.dm⟩⟩
 .simp[jH,len]
 .have M:i<(VP k):=by
   have:=(uI.mp h).1;simp[jH]at this
   lia
  have hv:k[i]?=TW k[i]:=lq M;rcases t i d UF h with⟨e,u,x⟩|⟨_,u⟩
  .obtain⟨w,y,O⟩:=Q.val i d x;rw[s i e _ u hv]at y;cases y;exact⟨_,uz.mpr hv,Rep.mono (λ_ _ e _=>e) (λb _ z=>z.imp (G b) id) O⟩
  obtain⟨w,y,O⟩:=E.val i d<|uz.mpr u;exact⟨w,y,Rep.mono (λb o e n=>U b o e λz=>n<|.inl z) (λb F z=>z.imp (C b)<|hT b F) O⟩
 .have M:i<(VP k):=by
   have:=(uI.mp h).1;simp[jH]at this
   lia
  have hv:k[i]?=TW k[i]:=lq M;rcases t i d Uf h with⟨e,u,x⟩|⟨z,_⟩
  .obtain⟨w,y,O⟩:=Q.own i d x;rw[s i e _ u hv]at y;have N:k[i]=V.ref w:=by simpa using y
   exact⟨w,by rw[<-N];exact uz.mpr hv,O.mono (λ_ _ e _=>e) (λb _ z=>z.imp (G b) id) λ_ e=>e⟩
  cases z
 obtain⟨_,⟨Y,I,L⟩⟩:=B i a ⟨d,h1,u⟩;obtain⟨_,⟨D,P,R⟩⟩:=B j a ⟨e,p,x⟩;exact E.inj i j Y D a I P L R
def rm(E:ER K H T (k.map Y) (f.map Y))(S:SK A (k.map Y++ag m J) (f.map Y++ag m J) H l g q)(j:∀(i:Nat) d,f[i]?=Y (d,I)->¬A i)
  (R:RV K T H r l g v q):BF K T (k.map Y) (f.map Y) H r (jH f g) v q:=by
 obtain⟨d,b⟩:=r
 cases b
 .obtain⟨a,s⟩:=R;obtain⟨c,ow,h⟩:=JD E S j a λ_ _ z=>z;exact⟨h,c,Rep.mono (λ_ _ e _=>e) (λb _ z=>z.imp (ow b) id) s⟩
 obtain⟨p,rfl,n,a,ok⟩:=R;obtain⟨c,ow,h⟩:=JD E S j a (λb o z=>z.elim id λz=>by subst z;exact absurd n o);exact⟨h,p,rfl,n,c,ok.mono (λ_ _ e _=>e) (λb _ z=>z.imp (ow b) id) λ_ e=>e⟩
end
section
variable {P:jq}{w:jk}{K:jr}{g:lJ}{base:jn}{N:jB}{m:Nat}{b:jX}{fs:FS}{c:List V}{H:Hp}{Q:VK}{E:XK}
def Je(h:KG K (AV (VP N) m b fs) c H Q E):(VP c)=m:=by
 obtain⟨T,a,r,d,E0,e,_⟩:=h;unfold AV at e;split at e
 .rename_i f;have:=E0.len;simp at this;rw[this];exact f.1
 cases e
def Nx(h:KG K (AV (VP N) m b fs) c H Q E):∃L:LL,(∀i,L.p i->i<m)/\tS K (λi=>i∈b) L H fs {nx:=λ_ l=>Q .V0 l,rt:=Q} (L2.oR N c) H:=by
 obtain⟨T,f,r,x,E0,e,u⟩:=h;unfold AV at e;split at e
 .rename_i I;obtain⟨h1,Y,C⟩:=I;have n:(VP c)=(VP f):=by simpa using E0.len
  refine⟨⟨λi=>∃d,f[i]?=TW (d,Uf),T2⟩,λi ⟨d,hd⟩=>by have:=(uI.mp hd).1;lia,?_⟩;have M:L2.oR N c=c.map TW++ag (VP N-m) T2:=by unfold L2.oR;rw[n,h1]
  have q:∀(i:Nat) d,f[i]?=TW (d,Uf)->¬(i∈b):=λi d hd G=>by
   have J:(f.zipIdx)[i]?=TW ((d,Uf),i):=by rw[Ha,hd];simp
   have:=mC.mp C _ (mZ J);simp at this;exact this G
  rw[M]
  have B:FI (λi=>i∈b) ⟨λi=>∃d,f[i]?=TW (d,Uf),T2⟩ H (c.map TW++ag (VP N-m) T2) (f.map TW++ag (VP N-m) T2) H:=⟨λi a z=>by obtain⟨d,U,_⟩:=Mj.mp z;exact .inl ⟨d,uz.mp U⟩,λ_ z=>z,λj O ⟨d,hd⟩=>q j d hd O,λ_ h=>nomatch h⟩
  cases s:fs (f.map TW++ag (VP N-m) T2)with
  |none=>rw[s]at e;cases e
  |some out=>
   rw[s]at e;refine⟨_,T,out,E0.pad,B,s,?_⟩
   cases out with
   |rt r1 k=>obtain⟨rfl,rfl⟩:=jw e;exact λv t l o A=>u v l<|rm E0 o q A
   |nx k=>obtain⟨rfl,rfl⟩:=jw e;exact λt l o y=>u .V0 l<|rm (r:=(.V0,UF)) E0 o q ⟨y,Rep.HN⟩
   |bk k=>cases e
   |ct k=>cases e
 cases e
def W8{x qual:av}{st:bh}{f:iO}{j:mD}{e:jB}{k:Nat}(F:K0 K x qual st f j)(S:AY N e (jb st))
  (o:∀(d:iX)(A:jm)(a:List dG)(s:iT)(H:Hp)(E:XK)(L:LL),(∀i,L.p i->i<VP e)->BH k (A.deeper<|aY qual (jb st) s.heap.objs.size f d)->
   IJ (rQ HJ P w K g base N qual (jb st) f d A a s H E).Iy (λi=>i∈b) L H (mm st) fs):D9 P w K g base HJ (k+1) f j e (KG K<|AV (VP N) (VP e) b fs):=
 F.ok S (λc H Q E h=>Je h) λd A a s H c Q E n h=>let⟨L,h1,l⟩:=Nx h;⟨_,o d A a s H E L h1 n,l⟩
end
noncomputable def yO(a:Dn):BU->Option (D×Bool)
 |.val r=>Y (r.1,C)
 |.slot i=>(a[i]?).join
def kn(δ:Dn):List BU->Option (List<|D×Bool)
 |[]=>Y []
 |o::os=>(yO δ o).bind λa=>(kn δ os).bind λl=>Y (a::l)
@[simp] def ZI(o:BU)(a:D×Bool):List Nat:=match o with
 |.slot i=>if a.2=I then[i]else[]
 |.val _=>[]
noncomputable def jF:List BU->List (D×Bool)->List Nat
 |[],_=>[]
 |_::_,[]=>[]
 |o::os,a::as=>ZI o a++jF os as
@[simp] def wb1(o:BU)(a:D×Bool)(x:Sl)(b:Dn):Dn:=match o with
 |.slot i=>if a.2=I then b.set i x else b
 |.val _=>b
noncomputable def wb:List BU->List (D×Bool)->Dn->Dn->Dn
 |[],_,_,δ=>δ
 |_::_,[],_,δ=>δ
 |_::_,_::_,[],δ=>δ
 |o::os,a::as,x::outs,δ=>wb os as outs<|wb1 o a x δ
def jo(ev:BI)(fs:List FO):F:=λδ=>(kY fs δ).bind λp=>(kn p.2 p.1).bind λargs=>if(jF p.1 args).Nodup then(ev args).bind λq=>Y (q.1,wb p.1 args q.2 p.2)else J
def pR{δ:Dn}:∀{os:List BU}{as:List (D×Bool)},kn δ os=Y as->VP as=os.length/\∀(j:Nat) a,as[j]?=Y a->∃o,os[j]?=Y o/\yO δ o=Y a:=by
 intro k
 induction k with
 |nil=>intro as h;cases h;exact⟨rfl,λj d h=>by simp at h⟩
 |cons o os i=>
  intro as h;unfold kn at h;obtain⟨d,h1,h⟩:=iR h;obtain⟨l,c,h⟩:=iR h;cases h;obtain⟨f,g⟩:=i c;refine⟨by simp[f],λj e b=>?_⟩
  cases j with
  |zero=>simp at b;subst b;exact⟨o,rfl,h1⟩
  |succ j=>obtain⟨m,n,p⟩:=g j e (by simpa using b);exact⟨m,by simpa using n,p⟩
theorem ux:∀{os:List BU}{as:List (D×Bool)}{j i:Nat}{d:D},os[j]?=Y (.slot i)->as[j]?=Y (d,I)->i∈jF os as
 |[],_,_,_,_,h,_=>by simp at h
 |_::_,[],_,_,_,_,h=>by simp at h
 |o::os,(e,b)::as,0,i,d,h1,a=>by simp at h1 a;obtain⟨rfl,rfl⟩:=a;subst h1;simp[jF]
 |o::os,(e,b)::as,j+1,i,d,h1,a=>by
  have c:=ux (os:=os) (as:=as) (j:=j) (i:=i) (d:=d) (by simpa using h1) (by simpa using a)
  cases o with
  |val r=>simpa[jF]using c
  |slot k=>
   cases b
   .simpa[jF]using c
   simp[jF,c]
theorem Cr:∀{os:List BU}{as:List (D×Bool)}{i:Nat},i∈jF os as->∃(j:Nat)(d:D),os[j]?=Y (.slot i)/\as[j]?=Y (d,I)
 |[],_,_,h=>by simp[jF]at h
 |o::_,[],_,h=>by cases o<;>simp[jF]at h
 |o::os,(e,b)::as,i,h=>by
  have a:i∈jF os as->∃(j:Nat)(d:D),(o::os)[j]?=Y (.slot i)/\((e,b)::as)[j]?=Y (d,I):=λh=>by obtain⟨j,d,h1,c⟩:=Cr h;exact⟨j+1,d,by simpa using h1,by simpa using c⟩
  cases o with
  |val r=>exact a (by simpa[jF]using h)
  |slot k=>
   cases b
   .exact a (by simpa[jF]using h)
   simp[jF]at h;rcases h with rfl|h
   .exact⟨0,e,rfl,rfl⟩
   exact a h
theorem Ct:∀{os:List BU}{as:List (D×Bool)}{j k i:Nat}{d e:D},(jF os as).Nodup->os[j]?=Y (.slot i)->as[j]?=Y (d,I)->os[k]?=Y (.slot i)->as[k]?=Y (e,I)->j=k
 |[],_,_,_,_,_,_,_,h,_,_,_=>by simp at h
 |_::_,[],_,_,_,_,_,_,_,h,_,_=>by simp at h
 |o::os,(n,b)::as,j,k,i,d,e,a,h1,c,f,g=>by
  cases j with
  |zero=>
   cases k with
   |zero=>rfl
   |succ k=>simp at h1 c;obtain⟨rfl,rfl⟩:=c;subst h1;have:=ux (os:=os) (as:=as) (j:=k) (by simpa using f) (by simpa using g);simp[jF]at a;exact absurd this a.1
  |succ j=>
   cases k with
   |zero=>simp at f g;obtain⟨rfl,rfl⟩:=g;subst f;have:=ux (os:=os) (as:=as) (j:=j) (by simpa using h1) (by simpa using c);simp[jF]at a;exact absurd this a.1
   |succ k=>
    have l:(jF os as).Nodup:=by
     cases o with
     |val r=>simpa[jF]using a
     |slot m=>
      cases b
      .simpa[jF]using a
      simp[jF]at a;exact a.2
    have:=Ct (os:=os) (as:=as) (j:=j) (k:=k) l (by simpa using h1) (by simpa using c) (by simpa using f) (by simpa using g)
    lia
theorem Ag:∀{os:List BU}{as:List (D×Bool)}{a δ:Dn}{i:Nat},i∉jF os as->(wb os as a δ)[i]?=δ[i]?
 |[],_,_,_,_,_=>by simp[wb]
 |o::_,[],_,_,_,_=>by cases o<;>simp[wb]
 |o::os,(e,b)::as,[],_,_,_=>by cases o<;>cases b<;>simp[wb]
 |o::os,(e,b)::as,x::a,δ,i,h=>by
  cases o with
  |val r=>simp only[wb];exact Ag (by simpa[jF]using h)
  |slot k=>
   cases b with
   |true=>simp[jF]at h;rw[wb,Ag h.2];exact oP<|pz h.1
   |false=>simp only[wb];exact Ag (by simpa[jF]using h)
theorem Ah:∀{os:List BU}{as:List (D×Bool)}{a δ:Dn},(wb os as a δ).length=VP δ
 |[],_,_,_=>by simp[wb]
 |o::_,[],_,_=>by cases o<;>simp[wb]
 |o::os,(e,b)::as,[],_=>by cases o<;>cases b<;>simp[wb]
 |o::os,(e,b)::as,x::a,δ=>by
  cases o with
  |val r=>simp only[wb];exact Ah
  |slot k=>
   cases b with
   |true=>simp only[wb];rw[Ah];exact tw
   |false=>simp only[wb];exact Ah
theorem IU:∀{os:List BU}{as:List (D×Bool)}{a δ:Dn}{i j:Nat}{d:D}{x:Sl},(jF os as).Nodup->os[j]?=Y (.slot i)->as[j]?=Y (d,I)->a[j]?=Y x->i<VP δ->(wb os as a δ)[i]?=Y x
 |[],_,_,_,_,_,_,_,_,h,_,_,_=>by simp at h
 |o::_,[],_,_,_,_,_,_,_,_,h,_,_=>by simp at h
 |o::os,(e,b)::as,[],_,_,_,_,_,_,_,_,h,_=>by simp at h
 |o::os,(e,b)::as,y::a,δ,i,0,d,x,c,h1,f,g,l=>by simp at h1 f g;obtain⟨rfl,rfl⟩:=f;subst h1;subst g;simp[jF]at c;rw[wb,Ag c.1];exact oB l
 |o::os,(e,b)::as,y::a,δ,i,j+1,d,x,c,h1,f,g,l=>by
  have n:(jF os as).Nodup:=by
   cases o with
   |val r=>simpa[jF]using c
   |slot m=>
    cases b
    .simpa[jF]using c
    simp[jF]at c;exact c.2
  cases o with
  |val r=>simp only[wb];exact IU n (by simpa using h1) (by simpa using f) (by simpa using g) l
  |slot k=>
   cases b with
   |true=>simp only[wb];exact IU n (by simpa using h1) (by simpa using f) (by simpa using g) (by show i<(δ.set k y).length;rw[tw];exact l)
   |false=>simp only[wb];exact IU n (by simpa using h1) (by simpa using f) (by simpa using g) l
section
variable {K:jr}{T u:AB}{l:L2.St}{δ f:Dn}{H m s:Hp}{os:List BU}{vs:List V}{c:List (D×Bool)}{g:Dn}{r:D×Bool}{v:V}
noncomputable def Tc(T:AB)(l:L2.St)(f:Dn)(vs:List V)(c:List (D×Bool)):AB:=λa=>T a\/(X0 l f a/\¬X0 (vs.map Y) (c.map Y) a)
def wB(B:Ops K T l δ H os vs f m u)(p:kn f os=Y c){j:Nat}{d:D}(h:c[j]?=Y (d,I)):∃(i:Nat)(a:iO),os[j]?=Y (.slot i)/\f[i]?=Y (Y (d,I))/\vs[j]?=Y (.ref a)/\l[i]?=Y (Y<|.ref a):=by
 obtain⟨w,q⟩:=pR p;obtain⟨o,h1,b⟩:=q j _ h
 cases o with
 |val r=>cases b
 |slot i=>
  have e:f[i]?=Y (Y (d,I)):=qX b;have t:j<(VP vs):=by have:=(uI.mp h1).1;have:=B.len;lia
  have hv:vs[j]?=Y vs[j]:=lq t;have k:=B.slt j i _ h1 hv;obtain⟨a,n,_⟩:=B.er.own i d e;rw[k]at n;have:vs[j]=V.ref a:=by simpa using n
  exact⟨i,a,h1,e,by rw[hv,this],by rw[k,this]⟩
def FQ(B:Ops K T l δ H os vs f m u)(n:kn f os=Y c){j:Nat}{a:iO}(h:Aw (vs.map Y) (c.map Y) j a):∃(i:Nat)(d:D),os[j]?=Y (.slot i)/\c[j]?=Y (d,I)/\Aw l f i a:=by obtain⟨d,h1,k⟩:=h;have e:=uz.mp h1;obtain⟨i,b,o,p,q,t⟩:=wB B n e;have:=uz.mp k;rw[q]at this;cases this;exact⟨i,d,o,e,d,p,t⟩
def JV(B:Ops K T l δ H os vs f m u)(k:kn f os=Y c)(h:X0 (vs.map Y) (c.map Y) a):X0 l f a:=by obtain⟨j,d,h1,b⟩:=h;obtain⟨i,_,_,_,e,n,o⟩:=FQ B k ⟨d,h1,b⟩;exact⟨i,e,n,o⟩
def zG(E:ER K H T l δ)(B:Ops K T l δ H os vs f m u)(n:kn f os=TW c)(nd:(jF os c).Nodup):ER K m (Tc T l f vs c) (vs.map TW) (c.map TW):=by
 obtain⟨F,Y⟩:=pR n
 have sub:∀b,(X0 (vs.map TW) (c.map TW) b\/Tc T l f vs c b)->X0 l f b\/T b:=λb z=>by
  rcases z with z|z|z
  .exact .inl (JV B n z)
  .exact .inr z
  exact .inl z.1
 refine⟨by simp[F,B.len],λj d h=>?_,λj d h=>?_,λj k d e a h1 p x y=>?_,λa z t=>?_,λa z=>?_⟩
 .have h:=uz.mp h;obtain⟨o,h1,p⟩:=Y j _ h;have D:j<(VP vs):=by have:=(uI.mp h1).1;have:=B.len;lia
  have hv:vs[j]?=TW vs[j]:=lq D;refine⟨_,uz.mpr hv,?_⟩
  cases o with
  |val q=>
   have:q.1=d:=by cases p;rfl
   subst this;exact Rep.mono (λ_ _ e _=>e) (λb _ z=>sub b z)<|B.rep E h1 hv
  |slot i=>
   have x:f[i]?=TW (TW (d,UF)):=qX p;have y:=B.slt j i _ h1 hv;obtain⟨w,Q,R⟩:=B.er.val i d x;rw[y]at Q;have:vs[j]=w:=by simpa using Q
   rw[this];exact Rep.mono (λ_ _ e _=>e) (λb _ z=>(sub b z).imp id<|B.tt b) R
 .obtain⟨i,a,O,A,C,I⟩:=wB B n<|uz.mp h;obtain⟨b,L,U⟩:=B.er.own i d A;rw[I]at L;cases L;exact⟨a,uz.mpr C,U.mono (λ_ _ e _=>e) (λb _ z=>(sub b z).imp id<|B.tt b) λ_ e=>e⟩
 .obtain⟨i,S,O,A,G,C,I⟩:=FQ B n ⟨d,h1,x⟩;obtain⟨P,V,g1,g2,J,M,N⟩:=FQ B n ⟨e,p,y⟩;have:=B.er.inj i P G J a C M I N;subst this;exact Ct nd O A g1 g2
 .rcases t with t|t
  .exact B.er.nT a (JV B n z) (B.tt a t)
  exact t.2 z
 rcases z with z|z
 .exact B.er.dom a (B.tt a z)
 exact B.er.KH z.1
def Km{T' Td:AB}(E:ER K H T l δ)(B:Ops K T l δ H os vs f m u)(N:kn f os=TW c)(nd:(jF os c).Nodup)(kC:BV (vs.map TW) (c.map TW) m g s)
  (Y:ER K s Td (vs.map TW) g)(t1:∀b,Tc T l f vs c b->Td b)(t2:∀b,T' b->Td b)(t3:∀b,m b≠T2->T' b->T b):
  ER K s T' l (wb os c g f)/\(∀b,X0 l (wb os c g f) b->X0 (vs.map TW) g b\/Tc T l f vs c b)/\BV l f m (wb os c g f) s:=by
 obtain⟨hl,hg⟩:=pR N;have ol:(VP g)=(VP c):=by have:=Y.len;have:=B.len;simp at*;lia
 have R:∀(i:Nat)(x:Sl),(wb os c g f)[i]?=TW x->(i∉jF os c/\f[i]?=TW x)\/∃(j:Nat)(d:D),os[j]?=TW (.slot i)/\c[j]?=TW (d,Uf)/\g[j]?=TW x:=λi x h=>by
  by_cases A:i∈jF os c
  .right;obtain⟨j,d,h1,p⟩:=Cr A;have hj:j<(VP g):=by have:=(uI.mp p).1;lia
   have Z:g[j]?=TW g[j]:=lq hj;have hi:i<(VP f):=by have:=(uI.mp h).1;rwa [Ah]at this
   have:=IU (δ:=f) nd h1 p Z hi;rw[h]at this;cases this;exact⟨j,d,h1,p,Z⟩
  left;rw[Ag A]at h;exact⟨A,h⟩
 have I:∀{i:Nat}{a:iO},i∉jF os c->Aw l f i a->¬X0 (vs.map TW) (c.map TW) a:=λ{i a} A ⟨e,q,C'⟩ ⟨j,d,h1,p⟩=>by obtain⟨P,d2,g1,g2,S,G,g4⟩:=FQ B N ⟨d,h1,p⟩;have:=B.er.inj i P e S a q G C' g4;subst this;exact A<|ux g1 g2
 have U:∀i a,Aw l (wb os c g f) i a->Aw l f i a/\(X0 (vs.map TW) g a\/Tc T l f vs c a):=λi a a'=>by
  obtain⟨d,h1,p⟩:=a'
  rcases R i _ h1 with⟨A,y⟩|⟨j,e,g1,g2,G⟩
  .exact⟨⟨d,y,p⟩,.inr<|.inr ⟨⟨i,d,y,p⟩,I A ⟨d,y,p⟩⟩⟩
  obtain⟨P,b,q,C',J,L⟩:=wB B N g2;rw[g1]at q;cases q;rw[p]at L;cases L;exact⟨⟨e,C',p⟩,.inl ⟨j,d,G,uz.mpr J⟩⟩
 have X:∀b,X0 l (wb os c g f) b->X0 (vs.map TW) g b\/Tc T l f vs c b:=λb ⟨i,d,h1,p⟩=>(U i b ⟨d,h1,p⟩).2
 have F:∀b,X0 l (wb os c g f) b->X0 l f b:=λb a'=>by
  obtain⟨i,d,h1,p⟩:=a'
  obtain⟨⟨e,q,C'⟩,_⟩:=U i b ⟨d,h1,p⟩;exact⟨i,e,q,C'⟩
 have W:∀a o,m a=TW o->¬X0 l f a->s a=TW o:=λa o e n=>kC.kp a o e λz=>n<|JV B N z
 have O:∀b,(X0 l (wb os c g f) b\/T' b)->X0 (vs.map TW) g b\/Td b:=λb z=>by
  rcases z with z|z
  .exact(X b z).imp id (t1 b)
  exact .inr (t2 b z)
 refine⟨⟨by rw[Ah];exact B.er.len,λi d h=>?_,λi d h=>?_,λi k d e a h1 p y h4=>?_,λa z t=>?_,λa z=>Y.dom a<|t2 a z⟩,X,⟨W,λi a z=>(U i a z).1,kC.dm⟩⟩
 .rcases R i _ h with⟨A,y⟩|⟨j,e,g1,g2,G⟩
  .obtain⟨w,Q,M⟩:=B.er.val i d y;exact⟨w,Q,Rep.mono (λb o e n=>W b o e λz=>n<|.inl z) (λb V z=>z.imp (F b) λz=>B.tt b<|t3 b V z) M⟩
  obtain⟨P,b,q,C',J,L⟩:=wB B N g2;rw[g1]at q;cases q;obtain⟨w,Q,M⟩:=Y.val j d G;have:=uz.mp Q;rw[J]at this;cases this;exact⟨_,L,Rep.mono (λ_ _ e _=>e) (λb _ z=>O b z) M⟩
 .rcases R i _ h with⟨A,y⟩|⟨j,e,g1,g2,G⟩
  .obtain⟨a,Q,M⟩:=B.er.own i d y;exact⟨a,Q,M.mono (λb o e n=>W b o e λz=>n<|.inl z) (λb V z=>z.imp (F b) λz=>B.tt b<|t3 b V z) λo e=>kC.kp a o e<|I A ⟨d,y,Q⟩⟩
  obtain⟨P,b,q,C',J,L⟩:=wB B N g2;rw[g1]at q;cases q;obtain⟨a,Q,M⟩:=Y.own j d G;have:=uz.mp Q;rw[J]at this;cases this;exact⟨_,L,M.mono (λ_ _ e _=>e) (λb _ z=>O b z) λ_ e=>e⟩
 .obtain⟨⟨e1,q,C'⟩,_⟩:=U i a ⟨d,h1,y⟩;obtain⟨⟨S,J,L⟩,_⟩:=U k a ⟨e,p,h4⟩;exact B.er.inj i k e1 S a q J C' L
 exact B.er.nT a (F a z) (B.tt a<|t3 a (B.er.II<|F a z) t)
def wR(E:ER K H T l δ)(B:Ops K T l δ H os vs f m u)(n:kn f os=Y c)(q:(jF os c).Nodup)(P:BF K (Tc T l f vs c) (vs.map Y) (c.map Y) m r g v s):
  BF K T l δ H r (wb os c g f) v s:=by
 obtain⟨d,b⟩:=r
 cases b
 .obtain⟨k,h,x⟩:=P;obtain⟨i,ow,j⟩:=Km (T':=T) E B n q k h (λ_ z=>z) (λ_ z=>.inl z) λ_ _ z=>z;refine⟨B.keep.trans j,i,Rep.mono (λ_ _ e _=>e) (λb _ z=>?_) x⟩;rcases z with z|z
  .exact ow b z
  exact .inr (.inl z)
 obtain⟨k,p,rfl,o,h,ok⟩:=P;obtain⟨i,ow,j⟩:=Km (T':=λa=>T a\/a=p) E B n q k h (λ_ z=>.inl z) (λb z=>z.elim (λz=>.inl (.inl z)) .inr) (λb w z=>z.elim id λz=>by subst z;exact absurd o w);refine⟨B.keep.trans j,p,rfl,?_,i,ok.mono (λ_ _ e _=>e) (λb _ z=>?_) λ_ e=>e⟩
 .cases t:H p with
  |none=>rfl
  |some y=>exact absurd o<|B.keep.dm p (by rw[t];simp)
 rcases z with z|z|z
 .exact(ow b z).imp id .inl
 .exact .inr (.inl<|.inl z)
 exact .inr (.inr z)
end
section
variable {X:Cx}{e:iW}{b:kr}{fs:List FO}{a p:bn}{k:Nat}{f:iO}{g:mD}{d:jB}{c:BI}{x:av}
def Rw(F:D9 X.prog X.w X.K X.mg X.base HJ k f g d (KG X.K c))(L:BH k X.A)(C:Gl X x)(I:X.mg x=TW (.ref f))(hk:bP X.K (.ref f)=Uf)(y:Binds X.K g d [])
  (u:PA X (e::b) (tA X.K fs))(G:(x==("__debug__":av))=UF)(z:ae (e::b) X.env=(UF,aX e X.env)::ae b X.env)(s:(aI a<|ae b X.env).any (·.1)=UF):
  PX X (.Call (.Name x p) (e::b) [] a) (jo c fs):=PX.imp (JB F L C I hk y (.nil) Zr u G z s) λN H Q O=>by
 obtain⟨J,T,Y,M,E,e,k⟩:=O;obtain⟨os,j,h1,e⟩:=iY e;obtain⟨h,l,e⟩:=iR e;dsimp only at e;split at e
 .rename_i m;obtain⟨r,i,t,e⟩:=iY e;obtain⟨rfl,rfl⟩:=jw e;refine⟨J,T,os,j,E,h1,λn q U B=>?_⟩;show KG X.K c (n++[]) q Q E0;rw[xQ];exact⟨Tc T N j n h,h,r,i,zG E B l m,t,λv o P=>k v o<|wR E B l m P⟩
 cases e
end
structure KI(A:kB)(d:iO)(σ:L2.St)(δ:Dn)(H:Hp)(σ':L2.St)(δ':Dn)(H':Hp):Prop where
 kp:∀a o,H a=TW o->¬X0 σ δ a->a≠d->H' a=TW o
 owi:∀i a,Aw σ' δ' i a->Aw σ δ i a\/H a=T2\/(A i/\∃j,A j/\Aw σ δ j a)
 dm:∀a,H a≠T2->H' a≠T2
 as:∀i,¬A i->σ'[i]?=σ[i]?
section
variable {A:kB}{d:iO}{c b f:L2.St}{δ δ1 δ2:Dn}{H g l:Hp}
def SK.LX(k:SK A c δ H b δ1 g):KI A d c δ H b δ1 g:=⟨λa o e n _=>k.kp a o e n,k.owi,k.dm,k.as⟩
def KI.ow(k:KI A d c δ H b δ1 g)(a:iO)(h:X0 b δ1 a):X0 c δ a\/H a=J:=by
 obtain⟨i,e,h1,o⟩:=h;rcases k.owi i a ⟨e,h1,o⟩with⟨e,m,n⟩|z|⟨_,j,_,e,m,n⟩
 .exact .inl ⟨i,e,m,n⟩
 .exact .inr z
 exact .inl ⟨j,e,m,n⟩
def KI.trans(x:KI A d c δ H b δ1 g)(y:KI A d b δ1 g f δ2 l):KI A d c δ H f δ2 l where
 kp:=λa o e n p=>y.kp a o (x.kp a o e n p) (λz=>(x.ow a z).elim n λz=>by rw[z]at e;cases e) p
 owi:=λi a z=>(y.owi i a z).elim (x.owi i a) λz=>z.elim (λz=>.inr (.inl (by
  cases h:H a with
  |none=>rfl
  |some o=>exact absurd z<|x.dm a<|by rw[h];simp))) λ⟨m,j,q,z⟩=>(x.owi j a z).elim (λz=>.inr (.inr ⟨m,j,q,z⟩)) λz=>z.elim (λz=>.inr (.inl z)) λ⟨_,k,ak,z⟩=>.inr (.inr ⟨m,k,ak,z⟩)
 dm:=λa z=>y.dm a<|x.dm a z
 as:=λi h=>(y.as i h).trans<|x.as i h
end
noncomputable def wx(p:(Int->Bool)×Nat)(d:D):(Int->Bool)×Nat:=match d with
 |.int k=>(λa=>p.1 a||decide (a=k),if p.1 k then p.2 else p.2+1)
 |_=>p
def oh(l:List D):(Int->Bool)×Nat:=l.foldl wx (λ_=>C,0)
def Ci(l:List D)(k:Int):oh (l++[.int k])=((λa=>(oh l).1 a||decide (a=k)),if(oh l).1 k then(oh l).2 else(oh l).2+1):=by unfold oh;rw[Dv];rfl
def Ro:∀(l:List D)(p:(Int->Bool)×Nat),(l.foldl wx p).2<=p.2+(VP l):=by
 intro b
 induction b with
 |nil=>intro p;exact kg _
 |cons d l a=>
  intro p;have:=a<|wx p d
  have h:(wx p d).2<=p.2+1:=by
   unfold wx;split
   .dsimp only;split<;>lia
   lia
  simp
  lia
def AtD(S:Option Bool)(K:jr)(U:Hp)(O:AB)(d:iO)(a:List D):Prop:=match S with
 |some C=>∃c,U d=Y (.lst c)/\YP K U O a c
 |some I=>U d=Y (.set (oh a).1 (oh a).2)
 |none=>∃b,D8 K (U d) .set [] a b/\YP K U O a b
structure BS(S:Option Bool)(K:jr)(d:iO)(T:AB)(σ:L2.St)(δ:Dn)(acc:List D)(H:Hp):Prop where
 er:ER K H T σ δ
 td:T d
 at':AtD S K H (λa=>X0 σ δ a\/T a) d acc
abbrev FB:=List D->Dn->Option (List D×Dn)
inductive IF(S:Option Bool)(K:jr)(A:kB)(d:iO)(f:FB)(σ:L2.St)(H:Hp)(N:L2.St->Hp->Prop):Prop where
 |mk (δ:Dn) (T:AB) (acc k9:List D) (δ':Dn) (_:BS S K d T σ δ acc H) (_:f acc δ=TW (k9,δ')) (_:∀σ' H',KI A d σ δ H σ' δ' H'->BS S K d T σ' δ' k9 H'->N σ' H')
noncomputable def kF(f:F):FB:=λa δ=>(f δ).bind λp=>if (VP a)<sizeLine then Y (a++[p.1.1],p.2)else J
noncomputable def kP(b:Tg)(ti:FT)(a:FB):List D->FB
 |[],acc,δ=>Y (acc,δ)
 |x::xs,acc,δ=>(b x δ).bind λδ1=>(ti δ1).bind λp=>(if p.1=I then a acc p.2 else Y (acc,p.2)).bind λq=>kP b ti a xs q.1 q.2
def Qp(c:EG)(d:Tg)(ti:FT)(b:FB):FB:=λa e=>(c e).bind λp=>kP d ti b p.1 a p.2
section
variable {K:jr}{A:kB}{d:iO}{T:AB}{f q:L2.St}{δ δ1:Dn}{j:List D}{H p:Hp}
def BS.step(b:BS S K d T f δ j H)(k:SK A f δ H q δ1 p)(r:ER K p T q δ1):BS S K d T q δ1 j p:=by
 refine⟨r,b.td,?_⟩;have h:=b.at'
 have m:∀{l:List D}{i:List V},YP K H (λa=>X0 f δ a\/T a) l i->YP K p (λa=>X0 q δ1 a\/T a) l i:=λg=>by
  refine YP.mono (λb o e n=>k.kp b o e λz=>n<|.inl z) (λc s z=>?_) g;rcases z with z|z
  .exact(k.ow c z).elim bv λz=>absurd z s
  exact .inr z
 rcases S with _|_|_
 .obtain⟨t,h1,g⟩:=h;exact⟨t,h1.keep λo e=>k.kp d o e λz=>b.er.nT d z b.td,m g⟩
 .obtain⟨i,h1,g⟩:=h;exact⟨i,k.kp d _ h1 λz=>b.er.nT d z b.td,m g⟩
 exact k.kp d _ h λz=>b.er.nT d z b.td
def JQ(hg:∀v f H Q,tG K A tg v f H Q->g v f H Q)(hi:∀f H Q,tT K ft f H Q->ti f H Q)(hb:∀f H N,IF S K A d fb f H N->tb f H N)
  (b:BS S K d T f δ j H)(P O:AB)(ok:KY K J' ds P O p)(s1:∀a o,p a=TW o->¬P a->H a=TW o)(s0:∀a,p a≠J->X0 f δ a\/a=d->P a)(s2:∀a,p a≠J->(X0 f δ a\/T a)->O a)(s3:∀a,p a≠J->H a≠J)(e:kP tg ft fb ds j δ=TW (k9,w))
  (k:∀B r,KI A d f δ H B w r->BS S K d T B w k9 r->N B r):Jc J' g ti tb f H N:=by
 refine⟨λi m l t=>m=VP ds-i/\i<=VP ds/\∃h I,KI A d f δ H l h t/\BS S K d T l h I t/\kP tg ft fb (ds.drop i) I h=TW (k9,w),⟨VP ds,by simp,mn _,δ,j,SK.refl.LX,b,by simpa using e⟩,?_⟩;rintro i m l t ⟨rfl,hle,h,I,M,C',U⟩
 have hO:∀a,p a≠J->(X0 l h a\/T a)->O a:=λa V z=>by
  rcases z with z|z
  .exact(M.ow a z).elim (λz=>s2 a V<|.inl z) λz=>absurd z<|s3 a V
  exact s2 a V (.inr z)
 have aG:∀a o,p a=TW o->¬P a->t a=TW o:=λa o R n=>M.kp a o (s1 a o R n) (λz=>n<|s0 a (by rw[R];simp)<|.inl z) λz=>n<|s0 a (by rw[R];simp)<|.inr z;by_cases D:i<VP ds
 .refine .inr ?_;have hd:ds[i]?=TW ds[i]:=lq D;obtain⟨go,yl⟩:=ok.go i _ t hd aG;rw[xD D]at U;obtain⟨y,h3,e3⟩:=iR U;obtain⟨c,s,h4,e4⟩:=iY e3;obtain⟨u,L,Y,e5⟩:=iY e4;refine⟨go,λx r hy=>?_⟩;obtain⟨ext,rep⟩:=yl x r hy;have eP:ER K r T l h:=C'.er.mono (λb ob eb _=>ext b ob eb) (λ_ _ z=>z) λa z=>(C'.er.dom a z).up<|ext a;have SX:SK A l h t l h r:=(BV.ext ext).sk;have F:=C'.step SX eP;have iI:KI A d f δ H l h r:=M.trans SX.LX;have rx:=rep (λa=>X0 l h a\/T a) hO λb hb z=>z.elim (λz=>C'.er.II z hb) λz=>(C'.er.dom b z).ne hb;refine hg _ _ _ _ ⟨h,T,ds[i],y,eP,rx,h3,λG Z X=>?_⟩;have B3:=F.step Z X;have dr:=iI.trans Z.LX;refine hi _ _ _ ⟨y,T,c,s,X,h4,λH4 K4 E4=>?_⟩;have S4:SK A G y r G s H4:=K4.sk;have W:=B3.step S4 E4;have E:=dr.trans S4.LX
  cases c with
  |false=>rw[jy lH]at Y;obtain⟨rfl,rfl⟩:=jw Y;exact WX ⟨VP ds-(i+1),by lia,rfl,D,s,I,E,W,e5⟩
  |true=>rw[jh UV]at Y;exact WW<|hb _ _ _ ⟨s,T,I,u,L,W,Y,λσ5 H5 S5 B5=>⟨VP ds-(i+1),by lia,rfl,D,L,u,E.trans S5,B5,e5⟩⟩
 refine .inl ⟨ok.stop i t (by lia) aG,?_⟩;rw[zZ<|by lia]at U;obtain⟨rfl,rfl⟩:=jw U;exact k l t M C'
end
section
variable {X:Cx}{A:kB}{d:iO}{b:iW}{f:F}
def PB.imp'{code:dW Unit}{t e:TB}(h:PB X code t)(k:∀c T N,e c T N->t c T N):PB X code e:=λa s c T N U g=>h a s c T N U<|k c T N g
def RQ{S:Option Bool}{e:iW}{depth:Nat}{c:oM}{r:EG}{u:Tg}{s:FT}{q:FB}(Q:X.xe=λ_ _=>False)(hc:X.calm=Uf)
  (hl:(∃b g l p,e=.ListComp b g l p)\/(∃b g l p,e=.SetComp b g l p))(hg:(bW e)[depth+1]?=TW c)(Y:c.is_async=0)(j9:∀t,(bW e)[depth+1+1]?=TW t->t.is_async=0)
  (hs:∀x,aw c.iter X.env x=pure x)(pi:LH X (λ_=>False) c.target c.iter r)(pg:LQ X A c.target u)(M:KS X c.ifs (tT X.K s))(pb:PB X (jT e (depth+1) (.ref d) X.env) (IF S X.K A d q)):
  PB X (jT e depth (.ref d) X.env) (IF S X.K A d<|Qp r u s q):=PB.imp' (Wm Q hc hl hg Y j9 hs pi pg M pb) λw H N D=>by
 obtain⟨v,T,G,P,F,B,e,k⟩:=D;obtain⟨U,j,h1,e⟩:=iY e;refine⟨v,T,U,j,B.er,h1,λJ I L C ok=>?_⟩;have n:SK A w v H w j I:=L.sk;exact JQ (λ_ _ _ _ h=>h) (λ_ _ _ h=>h) (λ_ _ _ h=>h) (B.step n C) _ _ ok (λa o e _=>e) (λa _ z=>z.elim (λa'=>by obtain⟨i,x,z⟩:=a';exact .inl ⟨i,id,x,z⟩) λz=>.inr (z▸B.td)) (λa _ z=>z) (λa z=>z) e λm E O y=>k m E (n.LX.trans O) y
end
def jU(caps:jX)(k:Nat)(fi:EG)(b:Tg)(ti:FT)(a:FB):F:=λδ=>(fi δ).bind λp=>(kn p.2<|caps.map .slot).bind λargs=>if(jF (caps.map .slot) args).Nodup then(kP b ti a p.1 []<|args.map Y++ag k J).bind λq=>Y ((.lst q.1,I),wb (caps.map .slot) args (jH args q.2) p.2)else J
noncomputable def yU(a:jX)(k:Nat)(b:L2.St):L2.St:=(a.map λj=>(b[j]?).join)++ag k J
def o0(S:Option Bool):HO:=match S with
 |some C=>.lst []
 |some I=>.set (λ_=>C) 0
 |none=>.AD []
noncomputable def qS(S:Option Bool)(Q:VK):VK:=match S with
 |some C|none=>Q
 |some I=>λx b=>∃S n,∃a,x=.ref a/\b a=Y (.set S n)/\Q (.int n) b
def rS(S:Option Bool)(a:List D):D×Bool:=match S with
 |some C=>(.lst a,I)
 |none=>(.AE .set [] a,I)
 |some I=>(.int (oh a).2,C)
def Il(S:Option Bool)(b:jX)(k:Nat)(d:EG)(e:Tg)(f:FT)(c:FB):F:=λδ=>(d δ).bind λp=>(kn p.2<|b.map .slot).bind λa=>if(jF (b.map .slot) a).Nodup then(kP e f c p.1 []<|a.map Y++ag k J).bind λq=>Y (rS S q.1,wb (b.map .slot) a (jH a q.2) p.2)else J
def yw{S:Option Bool}{K:jr}{f:jX}{k:Nat}{fi:EG}{tg:Tg}{ti:FT}{fb:FB}{p:L2.St}{H:Hp}{Q:VK}(h:tF K (Il S f k fi tg ti fb) p H Q):
  tI K (λi=>i∉f) fi p H λJ' q=>Fc (o0 S) J' (tG K (λi=>VP f<=i) tg) (tT K ti) (λd=>IF S K (λi=>VP f<=i) d fb) (yU f k) p q (qS S Q):=by
 obtain⟨δ,T,rr,δr,E,e,kq⟩:=h;obtain⟨ds,s,h1,e⟩:=iY e;obtain⟨g,t,e⟩:=iR e;dsimp only at e t;split at e
 case isFalse=>cases e
 rename_i Y;obtain⟨m,δ',h2,e⟩:=iY e;obtain⟨rfl,rfl⟩:=jw e;refine⟨δ,T,ds,s,E,h1,λJ' q D A ok d hd=>?_⟩;obtain⟨hl,hg⟩:=pR t;have bZ:(VP g)=(VP f):=by simpa using hl
 let C:List V:=f.map λj=>((p[j]?).join).getD .V0
 have there:∀(i j:Nat),f[i]?=TW j->∃v,p[j]?=TW (TW v):=λi j l=>by
  have hi:i<(VP g):=by have:=(uI.mp l).1;lia
  obtain⟨o,u,q2⟩:=hg i _ (lq hi);rw[kX,l]at u;cases u;have O:=qX q2;generalize g[i]=y at O;obtain⟨x,b⟩:=y
  cases b
  .obtain⟨v,h,_⟩:=A.val j x O;exact⟨v,h⟩
  obtain⟨a,h,_⟩:=A.own j x O;exact⟨_,h⟩
 have gz:∀(i j:Nat),f[i]?=TW j->∃v,C[i]?=TW v/\p[j]?=TW (TW v):=λi j l=>by obtain⟨v,hv⟩:=there i j l;refine⟨v,?_,hv⟩;show(f.map λj=>((p[j]?).join).getD .V0)[i]?=TW v;rw[kX,l];simp[hv]
 have aa:yU f k p=C.map TW++ag k J:=by
  unfold yU
  congr 1
  apply xy;intro i;show _=((f.map λj=>((p[j]?).join).getD .V0).map TW)[i]?;rw[kX,kX,kX]
  cases l:f[i]? with
  |none=>rfl
  |some j=>obtain⟨v,hv⟩:=there i j l;simp[hv]
 have I:Ops K T p s q (f.map BU.slot) C s q T:=by
  refine⟨by simp[C],.refl,A,λ_ z=>z,λj x v l=>?_,λj x v l=>?_,λj i v l hv=>?_⟩
  .rw[kX]at l;obtain⟨_,_,z⟩:=jM l;cases z
  .rw[kX]at l;obtain⟨_,_,z⟩:=jM l;cases z
  rw[kX]at l;obtain⟨c,W,z⟩:=jM l;cases z;obtain⟨v',u,q2⟩:=gz j i W;rw[hv]at u;cases u;exact q2
 have L:=zG A I t Y
 have R:∀(i:Nat) x,g[i]?=TW (x,Uf)->¬(VP f<=i):=λi x B=>by
  have:=(uI.mp B).1
  lia
 rw[aa];have B:=lM (o:=o0 S) hd
 have nz:∀a,q a≠J->upd q d (o0 S) a≠J:=λa z=>by
  cases U:q a with
  |none=>exact absurd U z
  |some o=>rw[B a o U];simp
 have b0:BS S K d (λa=>Tc T p s C g a\/a=d) (C.map TW++ag k J) (g.map TW++ag k J) [] (upd q d<|o0 S):=by
  refine⟨(L.pad).mono (λb o eb _=>B b o eb) (λb hb z=>z.elim id λz=>by subst z;exact absurd hd hb) λa z=>?_,.inr UV,?_⟩
  .rcases z with z|z
   .exact(L.dom a z).up (B a)
   subst z;rw[ju];rcases S with _|_|_<;>trivial
  rcases S with _|_|_
  .exact⟨[],⟨rfl,[],ju,.nil⟩,YP.nil⟩
  .exact⟨[],ju,YP.nil⟩
  exact ju
 refine JQ (λ_ _ _ _ h=>h) (λ_ _ _ h=>h) (λ_ _ _ h=>h) b0 _ _ ok (λa o N _=>B a o N) (λa Z z=>?_) (λa Z z=>?_) nz h2 λσ' G M w=>?_
 .rcases z with z|z
  .obtain⟨j,x,g1,g2⟩:=Ou.mp z;obtain⟨i,_,u,_,O⟩:=FQ I t ⟨x,g1,g2⟩;refine .inl ⟨i,λn=>n ?_,O⟩;rw[kX]at u;obtain⟨c,W,e⟩:=jM u;cases e;exact mZ W
  subst z;exact absurd hd Z
 .rcases z with z|z|z
  .exact .inl (JV I t<|Ou.mp z)
  .rcases z with z|z
   .exact .inr z
   exact .inl z.1
  subst z;exact absurd hd Z
 have F:SK (λi=>VP f<=i) (C.map TW++ag k J) (g.map TW++ag k J) q σ' δ' G:=
  ⟨λa o N n=>M.kp a o (B a o N) n (by intro z;subst z;rw[N]at hd;cases hd),λi a z=>(M.owi i a z).imp id λz=>z.imp (λz=>by
   cases U:q a with
   |none=>rfl
   |some o=>exact absurd z<|nz a<|by rw[U];simp) id,λa z=>M.dm a<|nz a z,M.as⟩
 rcases S with _|_|_
 .obtain⟨us,X,ry⟩:=w.at';have P:=rm (r:=(.AE .set [] m,Uf)) (v:=.ref d) L F R ⟨d,rfl,hd,w.er,us,X,YP.mono (λ_ _ e _=>e) (λb _ z=>z) ry⟩;exact kq (.ref d) G<|(wR A I t Y P).pre D
 .obtain⟨ys,X,ry⟩:=w.at';have P:=rm (r:=(.lst m,Uf)) (v:=.ref d) L F R ⟨d,rfl,hd,w.er,ys,X,YP.mono (λ_ _ e _=>e) (λb _ z=>z) ry⟩;exact kq (.ref d) G<|(wR A I t Y P).pre D
 have P:=rm (r:=(.int (oh m).2,UF)) (v:=.int (oh m).2) L F R ⟨w.er.mono (λ_ _ e _=>e) (λb _ z=>.inl z) λa z=>w.er.dom a<|.inl z,Rep.mkInt⟩;exact⟨_,_,d,rfl,w.at',kq (.int (oh m).2) G<|(wR A I t Y P).pre D⟩
def Gg{K:jr}{a:jX}{k:Nat}{c:EG}{e:Tg}{ti:FT}{b:FB}{f:L2.St}{U:Hp}{Q:VK}(h:tF K (jU a k c e ti b) f U Q):
  T9 (tI K (λi=>i∉a) c) (tG K (λi=>VP a<=i) e) (tT K ti) (λd=>IF C K (λi=>VP a<=i) d b) (yU a k) f U Q:=yw (S:=C) h
section
variable {X:Cx}{elt:iW}{c:oM}{rest:oN}{scope:jS}{pos i4 py:bn}{N':jB}{caps:jX}{k:Nat}{fi:EG}{tg:Tg}{ti:FT}{fb:FB}{A:kB}{L:LL}{H0:Hp}
structure EL(X:Cx)(N':jB)(scope:jS)(caps:jX)(k:Nat):Prop where
 cell:∀y∈scope.names,y.2=.cell->scope.names.lookup y.1=TW .cell
 kind:scope.kind=.function
 names:∀y∈scope.names,y.2=.local->scope.names.lookup y.1=TW .local
 free:∀y∈scope.names,y.2=.free->X.env.scope.names.lookup y.1=TW .cell\/X.env.scope.names.lookup y.1=TW .free
 len:(VP caps)+k=VP N'
 caps:∀(i j:Nat)(x:av),caps[i]?=TW j->N'[i]?=TW x->X.N[j]?=TW x/\scope.names.lookup x=TW .free
def EL.N0(U:EL X N' scope caps k):E9 X N' scope (yU caps k):=by
 refine⟨U.cell,U.kind,U.names,U.free,λd=>by simp[yU,U.len],λd i v x h1 f=>?_⟩;unfold yU at h1;by_cases b:i<VP caps
 .rw[sd<|by simpa using b,kX,lq b]at h1;obtain⟨g,h⟩:=U.caps i caps[i] x (lq b) f;refine⟨h,caps[i],g,?_⟩;have a:(d[caps[i]]?).join=Y v:=by simpa using h1
  cases e:d[caps[i]]? with
  |none=>rw[e]at a;cases a
  |some y=>rw[e]at a;exact oA Y a
 rw[qt<|by simpa using b,wa]at h1;split at h1<;>cases h1
def Ry(U:EL X N' scope caps k)(l:X.calm=I)(j:c.is_async=0)(n:∀e,rest[0]?=Y e->e.is_async=0)
  (m:∀x,aw c.iter X.env x=pure x)(q:LH X (λi=>i∉caps) c.target c.iter fi)
  (p:∀(cl:lb)(U:iO)(r:iT)(f:Hp)(fp:kW)(a:jK),let b:=X.comp N' scope cl U r f fp a
   LQ b (λi=>VP caps<=i) c.target tg/\KS b c.ifs (tT X.K ti)/\∀d,PB b (jT (.ListComp elt (c::rest) scope pos) 0 (.ref d) b.env)<|IF C X.K (λi=>VP caps<=i) d fb):
  PX X (.ListComp elt (c::rest) scope pos) (jU caps k fi tg ti fb):=PX.imp (D2 (o:=.lst []) (fp:=c.iter.pos) (new:=uu []) (g:=tG X.K (λi=>VP caps<=i) tg) (ti:=tT X.K ti) (tb:=λd=>IF C X.K (λi=>VP caps<=i) d fb) U.N0 l j n m q p (λ_ _ _ k=>oz<|k _ λ_=>⟨mn _,[],0,.nil,kD _ rfl⟩) (.inl ⟨_,_,_,_,rfl⟩) (hev:=by cases c;rfl)) λs T Q h=>Gg h
def afA{y:av}{i:Nat}(m:bT (.ListComp elt (c::rest) scope pos) (Y<|.Name y py) i4.line X.env=pure I)
  (N:EL X N' scope caps k)(u:X.calm=I)(t:c.is_async=0)(U:∀h,rest[0]?=Y h->h.is_async=0)
  (z:∀x,aw c.iter X.env x=pure x)(Q:LH X (λi=>i∉caps) c.target c.iter fi)(o:PG X (.Name y py) (F1 i))(s:A i)
  (O:∀(cl:lb)(N:iO)(G:iT)(l:Hp)(n:kW)(a:jK),let b:=X.comp N' scope cl N G l n a
   LQ b (λi=>VP caps<=i) c.target tg/\KS b c.ifs (tT X.K ti)/\∀d,PB b (jT (.ListComp elt (c::rest) scope pos) 0 (.ref d) b.env)<|IF C X.K (λi=>VP caps<=i) d fb):
  NJ X A L H0 (.Assign [.Name y py] (.ListComp elt (c::rest) scope pos) i4) (kQ i<|jU caps k fi tg ti fb):=PS.imp' (afD (g:=tG X.K (λi=>VP caps<=i) tg) (ti:=tT X.K ti) (tb:=λd=>IF C X.K (λi=>VP caps<=i) d fb) m N.N0 u t U z Q o O) λD M H B=>by
 obtain⟨J,T,out,E,fi,e,k⟩:=B;obtain⟨r,f,q,e⟩:=iY e;obtain⟨w,rfl⟩:=jz e;refine Gg ⟨J,T,r,f,E,q,λv j P=>?_⟩;obtain⟨h1,p⟩:=Am (A:=A) E P w s;exact k _ j h1 p
end
section
variable {K:jr}{T:AB}{d:L2.St}{c:Dn}{H:Hp}{i:Nat}{l m:List D}{a:iO}{g:List V}
def Aw.Er{j:Nat}{b:iO}(hd:c[i]?=Y (Y (k,I)))(h:Aw d (c.set i<|Y (d',I)) j b):Aw d c j b:=by
 obtain⟨e,h1,f⟩:=h;rcases nN h1 with⟨rfl,_,_⟩|⟨_,q⟩
 .exact⟨_,hd,f⟩
 exact⟨e,q,f⟩
def ER.Er(E:ER K H T d c)(hd:c[i]?=TW (TW (U,Uf)))(t:d[i]?=TW (TW<|.ref a))(r:D4 K (upd H a o) (λb=>X0 d c b\/T b) d' a):
  ER K (upd H a o) T d (c.set i<|TW (d',Uf))/\BV d c H (c.set i<|TW (d',Uf)) (upd H a o):=by
 have Y:i<(VP c):=(uI.mp hd).1;have v:X0 d c a:=⟨i,_,hd,t⟩
 have B:∀b,X0 d (c.set i<|TW (d',Uf)) b->X0 d c b:=λb a'=>by
  obtain⟨j,e,h1,s⟩:=a'
  obtain⟨O,x,y⟩:=Aw.Er hd ⟨e,h1,s⟩;exact⟨j,O,x,y⟩
 have I:∀b u,H b=TW u->¬(X0 d c b\/T b)->upd H a o b=TW u:=λb u e n=>by rw[jx<|by intro z;subst z;exact n<|.inl v];exact e
 have L:∀b,H b≠T2->upd H a o b≠T2:=λb z=>by
  by_cases C:b=a
  .subst C;rw[ju];simp
  rw[jx C];exact z
 have sub:∀b,(X0 d (c.set i<|TW (d',Uf)) b\/T b)->X0 d c b\/T b:=λb z=>z.imp (B b) id;refine⟨⟨by rw[tw];exact E.len,λj e h=>?_,λj e h=>?_,λj k e f b h hk h1 s=>?_,λb z=>E.nT b<|B b z,λb z=>by have ne:b≠a:=λe=>E.nT a v<|e▸z;rw[jx ne];exact E.dom b z⟩,⟨λb u e n=>by rw[jx<|by intro z;subst z;exact n v];exact e,λj b z=>Aw.Er hd z,L⟩⟩
 .rcases nN h with⟨_,_,q⟩|⟨_,q⟩
  .cases q
  obtain⟨w,p,A⟩:=E.val j e q;exact⟨w,p,Rep.mono I (λb _ z=>sub b z) A⟩
 .rcases nN h with⟨rfl,_,q⟩|⟨ne,q⟩
  .cases q;exact⟨a,t,r.mono (λ_ _ e _=>e) (λb _ z=>sub b z) λ_ e=>e⟩
  obtain⟨b,p,A⟩:=E.own j e q;refine⟨b,p,A.mono I (λb _ z=>sub b z) λu J=>?_⟩;rw[jx]
  .exact J
  intro z;subst z;exact ne<|E.inj i j _ _ _ hd q t p
 obtain⟨Q,x,y⟩:=Aw.Er hd ⟨e,h,h1⟩;obtain⟨G,M,N⟩:=Aw.Er hd ⟨f,hk,s⟩;exact E.inj j k Q G b x M y N
def ER.write(E:ER K H T d c)(hd:c[i]?=Y (Y (.lst l,I)))(f:d[i]?=Y (Y<|.ref a))(r:YP K H (λb=>X0 d c b\/T b) m g):
  ER K (upd H a<|.lst g) T d (c.set i<|Y (.lst m,I))/\BV d c H (c.set i<|Y (.lst m,I)) (upd H a<|.lst g):=
 E.Er hd f ⟨g,ju,YP.mono (λb o e n=>by rw[jx<|by intro z;subst z;exact n<|.inl ⟨i,_,hd,f⟩];exact e) (λ_ _ z=>z) r⟩
end
noncomputable def nQ(i:Nat)(f:F):F:=λa=>match a[i]? with
 |some (Y (.lst _,I))=>(f a).bind λp=>match p.2[i]? with
  |some (Y (.lst l,I))=>if (VP l)<sizeLine then Y ((.V0,C),p.2.set i<|Y (.lst<|l++[p.1.1],I))else J
  |_=>J
 |_=>J
def Ba(i:Nat)(f:FO):F:=λa=>match a[i]? with
 |some (Y (.lst _,I))=>(f a).bind λp=>match res p.2 p.1,p.2[i]? with
  |some (.int k),Y (Y (.lst l,I))=>if -(2^63)<=k/\k<2^63 then(HX (VP l) k).bind λj=>(l[j]?).bind λd=>Y ((d,C),p.2.set i<|Y (.lst<|l.eraseIdx j,I))else J
  |_,_=>J
 |_=>J
def vD(i:Nat)(f:F)(g:FO):FS:=λa=>(f a).bind λp=>match p.2[i]? with
 |some (Y _)=>(g p.2).bind λq=>match res q.2 q.1,q.2[i]? with
  |some (.int k),Y (Y (.lst l,I))=>(HX (VP l) k).bind λj=>Y<|.nx<|q.2.set i<|Y (.lst<|l.set j p.1.1,I)
  |_,_=>J
 |_=>J
section
variable {X:Cx}{e c:iW}{f:F}{k:FO}{b m a g:bn}{i:Nat}{x:av}{A:kB}{L:LL}{n:Hp}
theorem YP.erase{K U}{O:AB}:∀{l:List D}{o:List V}(j:Nat),YP K U O l o->YP K U O (l.eraseIdx j) (o.eraseIdx j)
 |[],o,j,h=>by rw[YP]at h;subst h;simp[YP]
 |d::l,o,0,h=>by rw[YP]at h;obtain⟨v,r,rfl,h1,p⟩:=h;exact p
 |d::l,o,j+1,h=>by rw[YP]at h;obtain⟨v,r,rfl,h1,p⟩:=h;exact YP.cons h1<|YP.erase j p
end
noncomputable def Vv(b:Tg)(f:F):FS:=λc=>(f c).bind λp=>(b p.1.1 p.2).bind λa=>Y<|.nx a
section
variable {X:Cx}{A:kB}{L:LL}{m:Hp}{a b h e:iW}{fs:List F}{f:F}{t:Tg}{c l k pt d:bn}{x y:av}{i j:Nat}{kt k2}
def Jr{id:String}{p:bn}{n:kr}{o:List FO}{g:List D->Option (D×Bool)}{z:av}(s:kL X (.builtin id) (Ga X.K g))(v:Gl X z)(w:X.mg z=J)(hv:ax z=Y (.builtin id))(r:PA X (e::n) (tA X.K o))(B:z≠"__name__")(U:(z==("__debug__":av))=C)
  (u:ae (e::n) X.env=(C,aX e X.env)::ae n X.env)(q:(aI c<|ae n X.env).any (·.1)=C):PX X (.Call (.Name z p) (e::n) [] c) (jA g o):=pxn<|tM s v w hv r B U u q
def DY{id:String}{p:bn}{n:kr}{o:List FO}{g:List D->Option (D×Bool)}{z:av}(s:kL X (.type id) (Ga X.K g))(v:Gl X z)(w:X.mg z=J)(hv:ax z=Y (.type id))(r:PA X (e::n) (tA X.K o))(B:z≠"__name__")(U:(z==("__debug__":av))=C)
  (u:ae (e::n) X.env=(C,aX e X.env)::ae n X.env)(q:(aI c<|ae n X.env).any (·.1)=C):PX X (.Call (.Name z p) (e::n) [] c) (jA g o):=pxn<|qO s v w hv r B U u q
end
def Xq:ax "len"=Y (.builtin "len"):=by decide+kernel
def Xr:ax "abs"=Y (.builtin "abs"):=by decide+kernel
noncomputable def rT(N:jB)(c scope:jS)(b:jB)(a:jX)(k:Nat):Bool:=
 (scope.names.all λy=>y.2 != .cell||scope.names.lookup y.1==Y .cell)&&decide (scope.kind=.function)&&(scope.names.all λy=>y.2 != .local||scope.names.lookup y.1==Y .local)&&
 (scope.names.all λy=>y.2 != .free||(c.names.lookup y.1==Y .cell||c.names.lookup y.1==Y .free))&&decide (VP a+k=VP b)&&
 ((a.zip b).all λp=>N[p.1]?==Y p.2&&scope.names.lookup p.2==Y .free)
def Bo(n:X.N=N)(q:X.env.scope=sc)(h:rT N sc scope c a k=I):EL X c scope a k:=by
 subst n;subst q;unfold rT at h;simp only[mf,mC,vV]at h;obtain⟨⟨⟨⟨⟨h1,d⟩,f⟩,g⟩,l⟩,m⟩:=h;refine⟨λy b e=>?_,d,λy b e=>?_,λy b e=>?_,l,λi j x o r=>?_⟩
 .have:=h1 y b;rw[e]at this;simpa using this
 .have:=f y b;rw[e]at this;simpa using this
 .have:=g y b;rw[e]at this;simpa using this
 have p:(j,x)∈a.zip c:=by
  have:(a.zip c)[i]?=Y (j,x):=by rw[Bz];exact⟨o,r⟩
  exact mZ this
 have:=m _ p;simpa using this
noncomputable def kh:FT:=λδ=>Y (I,δ)
inductive Ty where
 |int|bool|str|tuple|list|dict
noncomputable def Ty.n:Ty->String
 |.int=>"int"|.bool=>"bool"|.str=>"str"|.tuple=>"tuple"|.list=>"list"|.dict=>"dict"
noncomputable def Hy:D->Ty->Bool
 |.bl _,.bool=>I
 |.bl _,.int=>I
 |.int _,.int=>I
 |.str _,.str=>I
 |.tup _,.tuple=>I
 |.lst _,.list=>I
 |.AE .dct _ _,.dict=>I
 |_,_=>C
noncomputable def tyD:D->String
 |.V0=>"NoneType"|.bl _=>"bool"|.int _=>"int"|.str _=>"str"|.tup _=>"tuple"|.lst _=>"list"|.AE .dct _ _=>"dict"|.AE .set _ _=>"set"|.AE _ _ _=>"NoneType"
section
variable {X:Cx}{b:jK}{c:L2.St}{H:Hp}{s:iT}
def Eh(K:jr)(d:D)(t:Ty):c7 K (.type<|tyD d) (.type t.n)=Y (Hy d t):=by
 cases d with
 |AE k _ _=>cases k<;>cases t<;>with_unfolding_all rfl
 |_=>cases t<;>with_unfolding_all rfl
def Az(U:Inv X b c H s)(h:D8 X.K (H a) k l i us)(hk:k=.dct\/k=.set:=by first|exact .inl rfl|exact .inr UV):s.TypeIs (.ref a) (tyD<|.AE k l i):=by
 cases k with
 |dct=>
  rcases h with⟨d,e,_⟩|⟨d,e,_⟩
  .obtain⟨_,_,i,_,o,g,j,h1,f,_⟩:=(show AA X.prog X.w H s.heap a (.dK d)from U.hok a _ e)
   exact⟨o,h1,f.1⟩
  obtain⟨_,_,p,_,o,g,j,h1,f,_⟩:=(show AA X.prog X.w H s.heap a (.dT d)from U.hok a _ e)
  exact⟨o,h1,f.1⟩
 |set=>
  obtain⟨_,m,e,_⟩:=h;obtain⟨g,n,t,h1,_⟩:=(show AA X.prog X.w H s.heap a (.AD m)from U.hok a _ e)
  exact⟨_,h1,rfl⟩
 |exc T=>rcases hk with z|z<;>cases z
 |_=>exact h.elim
def oD{K H}(h:kz K H O (.AE k g f) v):LP (λa d=>D8 K (H a) k g f d) (YP K H O f) v:=by
 rcases h with h|⟨a,rfl,h⟩
 .obtain⟨a,d,e,q,r⟩:=h.AE;exact⟨a,d,e,q.2,r⟩
 obtain⟨d,e,r⟩:=h;exact⟨a,d,rfl,e,r⟩
end
theorem mM(K:jr)(d:D):∀a:List Ty,ew K (.type<|tyD d) (a.map λt=>ca t.n)=Y (a.any<|Hy d)
 |[]=>rfl
 |t::a=>by
  rw[kM,ew,Eh,vU]
  cases Hy d t
  .simpa using mM K d a
  rfl
def UC{K:jr}{U:Nat}(h:∀n∈["int","bool","str","tuple","list","dict"],c7 K (.ref U) (.type n)=Y C)(t:Ty){ks vs:List D}:c7 K (.ref U) (.type t.n)=Y (Hy (.AE (.exc U) ks vs) t):=by
 cases t<;>exact h _ (by simp[Ty.n])
theorem Kc{K:jr}{U:Nat}(h:∀n∈["int","bool","str","tuple","list","dict"],c7 K (.ref U) (.type n)=Y C){ks vs:List D}:∀a:List Ty,ew K (.ref U) (a.map λt=>ca t.n)=Y (a.any<|Hy<|.AE (.exc U) ks vs)
 |[]=>rfl
 |t::a=>by
  rw[kM,ew,UC h t (ks:=ks) (vs:=vs),vU]
  cases Hy (.AE (.exc U) ks vs) t
  .simpa using Kc h a
  rfl
section
variable {X:Cx}{c:jK}{f:L2.St}{H:Hp}{s:iT}
def abW(U:Inv X c f H s)(hd:kz X.K H O d x)(g:RelV x u)(h:∀m,Q (.bool<|Hy d t) {s with toks:=m}):
  ah (ai X.prog X.w) A (call (.builtin "isinstance") [u,.type t.n]) Q E s:=by
 cases d with
 |V0=>have:=EZ hd;subst this;cases g;exact vT hD U.FU bb (Eh X.K .V0 t) (λz=>nomatch z) h
 |bl b=>have:=DM hd;subst this;cases g;exact vT hU U.FU bb (Eh X.K (.bl b) t) (λz=>nomatch z) h
 |int b=>have:=jJ hd;subst this;obtain⟨m,rfl⟩:=g;exact vT il U.FU bb (Eh X.K (.int b) t) (λz=>nomatch z) h
 |str b=>have:=wk hd;subst this;obtain⟨m,rfl⟩:=g;exact vT ig U.FU bb (Eh X.K (.str b) t) (λz=>nomatch z) h
 |tup l=>obtain⟨a,y,rfl,q,_⟩:=lL hd;cases g;obtain⟨j,_,⟨o,h1,i,_⟩,_⟩:=U.tuple q;exact vT gZ U.FU ⟨o,h1,i⟩ (Eh X.K (.tup l) t) (λz=>nomatch z) h
 |lst l=>obtain⟨a,y,rfl,q,_⟩:=kU hd;cases g;obtain⟨j,_,⟨o,n,h1,i,_⟩,_⟩:=U.list q;exact vT hH U.FU ⟨o,h1,i⟩ (Eh X.K (.lst l) t) (λz=>nomatch z) h
 |AE k p r=>
  obtain⟨a,B,rfl,q,_⟩:=oD hd;cases g
  cases k with
  |dct=>exact vT hL U.FU (Az U q) (Eh X.K (.AE .dct p r) t) (λz=>nomatch z) h
  |set=>exact vT ik U.FU (Az U q) (Eh X.K (.AE .set p r) t) (λz=>nomatch z) h
  |exc T=>obtain⟨_,o,e,h1,i,v⟩:=q;exact vT (i a) U.FU (show AA X.prog X.w H s.heap a (.Bq o<|.own 0)from U.hok a _ e).1 (UC v t) (λz=>nomatch z) h
  |_=>exact q.elim
def abV{A:jm}{E:jG}{Q:jG}(U:Inv X c f H s){O:AB}{d:D}{x:V}{u:iX}{ts:List Ty}{p:iO}{dd:Option iO}{n:Nat}{L:yx}(hd:kz X.K H O d x)(i:RelV x u)
  (g:s.heap.get? p=Y ⟨.type "tuple",dd,.seq (ts.map λt=>ca t.n).toArray n,L⟩)(h:∀r,Q (.bool<|ts.any<|Hy d) {s with toks:=r}):ah (ai X.prog X.w) A (call (.builtin "isinstance") [u,.ref p]) Q E s:=by
 cases d with
 |V0=>have:=EZ hd;subst this;cases i;exact vS hD U.FU bb g (mM X.K .V0 ts) (λz=>nomatch z) h
 |bl b=>have:=DM hd;subst this;cases i;exact vS hU U.FU bb g (mM X.K (.bl b) ts) (λz=>nomatch z) h
 |int b=>have:=jJ hd;subst this;obtain⟨r,rfl⟩:=i;exact vS il U.FU bb g (mM X.K (.int b) ts) (λz=>nomatch z) h
 |str b=>have:=wk hd;subst this;obtain⟨r,rfl⟩:=i;exact vS ig U.FU bb g (mM X.K (.str b) ts) (λz=>nomatch z) h
 |tup l=>obtain⟨a,T,rfl,q,_⟩:=lL hd;cases i;obtain⟨m,_,⟨o,h1,j,_⟩,_⟩:=U.tuple q;exact vS gZ U.FU ⟨o,h1,j⟩ g (mM X.K (.tup l) ts) (λz=>nomatch z) h
 |lst l=>obtain⟨a,T,rfl,q,_⟩:=kU hd;cases i;obtain⟨m,_,⟨o,n,h1,j,_⟩,_⟩:=U.list q;exact vS hH U.FU ⟨o,h1,j⟩ g (mM X.K (.lst l) ts) (λz=>nomatch z) h
 |AE k v y=>
  obtain⟨a,G,rfl,q,_⟩:=oD hd;cases i
  cases k with
  |dct=>exact vS hL U.FU (Az U q) g (mM X.K (.AE .dct v y) ts) (λz=>nomatch z) h
  |set=>exact vS ik U.FU (Az U q) g (mM X.K (.AE .set v y) ts) (λz=>nomatch z) h
  |exc N=>obtain⟨_,o,e,h1,j,B⟩:=q;exact vS (j a) U.FU (show AA X.prog X.w H s.heap a (.Bq o<|.own 0)from U.hok a _ e).1 g (Kc B ts) (λz=>nomatch z) h
  |_=>exact q.elim
end
def wG(ts:List Ty)(d:D):Option (D×Bool):=Y (.bl<|ts.any<|Hy d,C)
section
variable {X:Cx}{e:iW}{g:FO}{f p c:bn}{z:av}
def VU{t:Ty}(L:PO X e g)(J:Gl X "isinstance")(M:X.mg "isinstance"=T2)(m:Gl X z)(w:X.mg z=T2)(Y:ax z=TW (.type t.n))(N:z≠"__name__")(j4:(z==("__debug__":av))=UF)(hv:ax "isinstance"=TW (.builtin "isinstance"))
  (s1:ae [e,.Name z c] X.env=(UF,aX e X.env)::ae [.Name z c] X.env)(s2:ae [.Name z c] X.env=(UF,aX (.Name z c) X.env)::ae [] X.env)(y:(aI f<|ae [.Name z c] X.env).any (·.1)=UF):
  PX X (.Call (.Name "isinstance" p) [e,.Name z c] [] f) (md (wG [t]) g):=by
 have G:kL X (.builtin "isinstance") (λl H Q=>∃(O:AB)(d:D)(x:V),l=[x,.ty t.n]/\kz X.K H O d x/\Q (.bl<|Hy d t) H):=by intro i s W H l us Q I r h;obtain⟨O,d,x,rfl,hd,q⟩:=h;obtain⟨u,w',rfl,P,F⟩:=uP r;cases F;exact abW I hd P λtk=>⟨.bl _,H,I.tok _,rfl,q⟩
 refine PX.imp (tM G J M hv (lS L (lS (zu (v:=.ty t.n) m w Y UV N j4) oI s2) s1) (by decide) (by decide) s1 y) λW H Q U=>?_;obtain⟨R,T,rr,S,E,e,k⟩:=U;obtain⟨o,a,h1,e⟩:=iY e;obtain⟨x,A,e⟩:=iR e;obtain⟨zz,C,e⟩:=iR e;cases C;obtain⟨rfl,rfl⟩:=jw e;refine⟨R,T,o,a,E,h1,λv Z b=>?_⟩;have B:=Ops.cons E b<|Ops.nil<|b.er E;refine⟨_,x,v,rfl,B.view (j:=0) UV UV A,?_⟩;have:=(B.done k).bl;simpa using this
def Rx{t m:Ty}{z i:av}{l p4:bn}{w}(ha:PO X e g)(hg:Gl X "isinstance")(hm:X.mg "isinstance"=T2)(aR:Gl X z)(en:X.mg z=T2)(hz:ax z=TW (.type t.n))(hn:z≠"__name__")(j4:(z==("__debug__":av))=UF)
  (cW:Gl X i)(y:X.mg i=T2)(fq:ax i=TW (.type m.n))(bp:i≠"__name__")(de:(i==("__debug__":av))=UF)(hv:ax "isinstance"=TW (.builtin "isinstance"))
  (s1:ae [e,.Tuple [.Name z c,.Name i l] w p4] X.env=(UF,aX e X.env)::ae [.Tuple [.Name z c,.Name i l] w p4] X.env)(s2:ae [.Tuple [.Name z c,.Name i l] w p4] X.env=(UF,aX (.Tuple [.Name z c,.Name i l] w p4) X.env)::ae [] X.env)
  (s3:ae [.Name z c,.Name i l] X.env=(UF,aX (.Name z c) X.env)::ae [.Name i l] X.env)(s4:ae [.Name i l] X.env=(UF,aX (.Name i l) X.env)::ae [] X.env)
  (f9:(aI f<|ae [.Tuple [.Name z c,.Name i l] w p4] X.env).any (·.1)=UF):
  PX X (.Call (.Name "isinstance" p) [e,.Tuple [.Name z c,.Name i l] w p4] [] f) (md (wG [t,m]) g):=by
 have R:kL X (.builtin "isinstance") (λY H Q=>∃(O:AB)(d:D)(x:V)(q:iO),Y=[x,.ref q]/\H q=TW (.tup [.ty t.n,.ty m.n])/\kz X.K H O d x/\Q (.bl<|[t,m].any<|Hy d) H):=by intro U s F H Y us Q I r h;obtain⟨O,d,x,q,rfl,M,hd,k⟩:=h;obtain⟨u,w',rfl,ru,Z⟩:=uP r;cases Z;obtain⟨_,W,v1,o,h1,L,n,G⟩:=I.hok q _ M;obtain⟨u1,u2,rfl,r1,r2⟩:=uP v1;cases r1;cases r2;obtain⟨P,dd,dt,sl⟩:=o;simp only at L G;subst L;subst G;exact abV (ts:=[t,m]) I hd ru h1 λtk=>⟨.bl _,H,I.tok _,rfl,k⟩
 refine PX.imp (tM R hg hm hv (lS ha (lS (Oj<|lS (zu (v:=.ty t.n) aR en hz UV hn j4) (lS (zu (v:=.ty m.n) cW y fq UV bp de) oI s4) s3) oI s2) s1) (by decide) (by decide) s1 f9) λF H Q S=>?_;obtain⟨δ,T,rr,δ',E,e,k⟩:=S;obtain⟨o,C,h1,e⟩:=iY e;obtain⟨x,L,e⟩:=iR e;obtain⟨zz,G,e⟩:=iR e;cases G;obtain⟨rfl,rfl⟩:=jw e;refine⟨δ,T,o,C,E,h1,λv H1 N=>⟨by show 2<=sizeLine;decide,λq M=>?_⟩⟩;have B:=Ops.cons E N<|Ops.nil<|N.er E;have J:=lM (o:=.tup [.ty t.n,.ty m.n]) M;have A:=B.view (j:=0) UV UV L;refine⟨λa=>X0 F C a\/T a,x,v,q,rfl,ju,?_,?_⟩
 .rcases A with A|⟨a,rfl,A⟩
  .exact .inl (Rep.mono (λb o e _=>J b o e) (λ_ _ z=>z) A)
  exact .inr ⟨a,rfl,A.mono (λb o e _=>J b o e) (λ_ _ z=>z) λo e=>J a o e⟩
 exact(B.done k) _ _ J Rep.Ib
end
noncomputable def oY:List D->Option (List Bool)
 |[]=>Y []
 |.bl b::l=>(oY l).map (b:: ·)
 |_::_=>J
def zg:D->Option (D×Bool)
 |.lst l=>(oY l).map λbs=>(.bl<|bs.all id,C)
 |_=>J
def ab4:D->Option (D×Bool)
 |.lst l=>(oY l).map λbs=>(.bl<|bs.any id,C)
 |_=>J
theorem yN{K U}{O:AB}:∀{l:List D}{bs:List Bool}{e:List V}{d:jW},oY l=Y bs->YP K U O l e->Vals e d->LSm.BoolsAre d bs
 |[],bs,e,d,h,r,v=>by
  cases h;rw[YP]at r;subst r;cases v;exact .nil
 |.bl b::l,bs,e,d,h,r,v=>by
  obtain⟨f,h1,rfl⟩:=jM h;rw[YP]at r;obtain⟨x,j,rfl,g,i⟩:=r;have:=g.bl;subst this
  cases v with
  |cons a c=>cases a;exact .cons b<|yN h1 i c
 |.V0::l,_,_,_,h,_,_=>by cases h
 |.int _::l,_,_,_,h,_,_=>by cases h
 |.str _::l,_,_,_,h,_,_=>by cases h
 |.tup _::l,_,_,_,h,_,_=>by cases h
 |.lst _::l,_,_,_,h,_,_=>by cases h
 |.AE _ _ _::l,_,_,_,h,_,_=>by cases h
section
variable {X:Cx}
def adl{h a:jn}{o:e6}(hk:∀b x,b∉[h.objs.size]->(h.push o).get? b=Y x->a.get? b=Y x)(b:iO)(x:e6)(e:h.get? b=Y x):a.get? b=Y x:=
 hk b x (λz=>by have:=IL.mp z;subst this;exact absurd (ki e)<|pZ _) (kb _ e)
def TH(q:Bool)(B:X.calm=I):kL X (.builtin (if q then "all" else "any")) (Ga X.K<|g1 (if q then zg else ab4)):=nC λm s M H x u Q O d z U N np hd j G=>by
 cases d with
 |lst l=>
  cases q<;>(
   obtain⟨bs,y,rfl⟩:=jM j;obtain⟨p,T,rfl,q,r⟩:=kU hd;cases N;obtain⟨a,v,c,_⟩:=U.list q;have are:=yN y r v;have k:X.A.in1.handled=J:=U.ok.hd B;have f:p<s.heap.objs.size:=by obtain⟨_,e,_⟩:=c.isList;exact ki e
   first|refine call_all_walk (xR c.isList ⟨s.heap.objs.size,[s.heap.objs.size,p],[s.heap.objs.size],a.toArray.size,_,_,λi=>(bs[i]?).getD I,rfl,Du k _ p (kI f) a.toArray,⟨⟨_,kD _ rfl,rfl,rfl⟩,c.isList.push _⟩,λi w E o n h g=>?_,λt L hk=>?_⟩)|refine call_any_walk<|xR c.isList ⟨s.heap.objs.size,[s.heap.objs.size,p],[s.heap.objs.size],a.toArray.size,_,_,λi=>(bs[i]?).getD C,rfl,Du k _ p (kI f) a.toArray,⟨⟨_,kD _ rfl,rfl,rfl⟩,c.isList.push _⟩,λi w E o n h g=>?_,λt L hk=>?_⟩
   .obtain⟨b,e,rfl⟩:=are.get i w (by simpa using h);dsimp only at g;rw[e]at g;exact vq g
   rw[kH,are.length];(first|rw[LSm.range_all]|rw[LSm.range_any])
   exact⟨.bl _,H,U.kept<|adl hk,rfl,G.bl⟩)
 |_=>cases q<;>cases j
def aeP(a:X.calm=I):kL X (.builtin "all") (Ga X.K<|g1 zg):=TH I a
def Pw:=gI λi j=>Y<|.int (if j>i then j else i)
def Pu:=gI λi j=>Y<|.int (if j<i then j else i)
def ad3(c:X.calm=I):kL X (.builtin "max") (Ga X.K<|g2 Pw):=Qh λa s k T x y h Q O d e z U r np h1 b g G=>by obtain⟨i,j,w,rfl,rfl,f,rfl⟩:=zF g;cases f;exact aeL c a s k T [x,y] h Q U r ⟨i,j,by rw[jJ h1,jJ b],G.int⟩
def aem(c:X.calm=I):kL X (.builtin "min") (Ga X.K<|g2 Pu):=Qh λa s k T x y h Q O d e z U r np h1 b g G=>by obtain⟨i,j,w,rfl,rfl,f,rfl⟩:=zF g;cases f;exact aeK c a s k T [x,y] h Q U r ⟨i,j,by rw[jJ h1,jJ b],G.int⟩
def Ar{lo:Int}{n:Nat}{a:nZ}(h:mu (λi v=>∃t,v=.int (lo+(i:Int)*1) t) a n):Vals ((aj n).map λ(k:Nat)=>V.int<|lo+k) a.toList:=by
 have key:∀(l:jW)(m:Nat),(∀(j:Nat) v,l[j]?=Y v->∃t,v=.int (lo+((m+j:Nat):Int)) t)->Vals ((bG m<|VP l).map λ(k:Nat)=>V.int<|lo+k) l:=by
  intro l
  induction l with
  |nil=>intro m _;exact .nil
  |cons v l d=>intro m hv;obtain⟨t,e⟩:=hv 0 v H;refine .cons ⟨t,by simpa using e⟩<|d (m+1) λj w c=>?_;obtain⟨f,b⟩:=hv (j+1) w (by simpa using c);exact⟨f,by rw[b];congr 2;first|done|lia⟩
 have:=key a.toList 0 λj v hv=>by obtain⟨t,e⟩:=h.2 j v (by simpa using hv);exact⟨t,by rw[e];congr 1⟩
 rw[lU,h.1,<-List.range_eq_range']at this;exact this
def adO{K U}(lo:Int)(n:Nat):YP K U O (jP lo n) ((aj n).map λ(k:Nat)=>V.int<|lo+k):=by
 unfold jP
 induction(aj n)with
 |nil=>exact YP.nil
 |cons k l a=>exact YP.cons Rep.mkInt a
end
def Fl(lo a:Int):Prop:= -(2^62)<=lo/\lo<2^62/\ -(2^62)<=a/\a<2^62/\(a-lo).toNat<=2^24
instance(lo hi:Int):Decidable (Fl lo hi):=by unfold Fl;infer_instance
noncomputable def LD(lo a:Int):List V:=(aj (a-lo).toNat).map λ(k:Nat)=>V.int<|lo+k
def Fl.small{lo a:Int}(h:Fl lo a):v8 lo a 1=I:=small_one h.1 h.2.1 h.2.2.1 h.2.2.2.1
def Jk(lo a:Int):fw lo a 1=((a-lo).toNat:Nat):=by rw[IR];split<;>lia
section
variable {c:jq}{w:jk}{A:jm}{E:jG}{s:iT}
def aek{Q:List iX->Shared->Prop}{r:iO}{lo n:Int}{t u v:u0}(O:A.handled=J)(q:NL s.heap r lo n 1 t u v)(ok:Fl lo n)
  (B:∀(g:jn) k (d:nZ),(∀b o,s.heap.get? b=Y o->g.get? b=Y o)->mu (λi v=>∃t,v=.int (lo+(i:Int)*1) t) d (n-lo).toNat->Q d.toList {s with heap:=g,toks:=k}):
  ah (ai c w) A (f8<|.ref r) Q E s:=by
 unfold f8;refine iP<|G9<|qp F.entry_proto_collect ?_;rw[uN F.plain_proto_collect _];refine iP (m:=uu [])<|oz ?_;refine je ⟨sZ F.plain_list_iadd _,qp F.entry_list_iadd ?_⟩;rw[uN F.plain_list_iadd _];have z:=kD s.heap (o:=({cls:=.type "list",data:=.seq ([]:List iX).toArray}:e6)) H
 let R:mo->Shared->Prop:=λr j=>∃(g:jn)(k:Nat)(d:nZ)(l:Nat),r=.ok (.ret<|.ref s.heap.objs.size)/\j={s with heap:=g,toks:=k}/\(∀b o,s.heap.get? b=Y o->g.get? b=Y o)/\
  g.get? s.heap.objs.size=Y {cls:=.type "list",dict:=J,data:=.seq d l,slots:= #[]}/\mu (λi v=>∃t,v=.int (lo+(i:Int)*1) t) d (n-lo).toNat
 have fin:∀{r j},R r j->∃v,r=.ok (.ret v)/\ah (ai c w) A (match v with
   |Value.ref a=>do
    match(<-load a).data with
     |Data.seq xs _=>pure xs.toList
     |_=>n8 "internal:collect"
   |_=>n8 "internal:collect") Q E j:=λ{r j} T=>by
  obtain⟨g,k,d,l,rfl,rfl,hk,y,x⟩:=T;exact⟨_,rfl,iP (m:=load s.heap.objs.size)<|DH y<|je<|B g k d hk x⟩
 refine nX (wpAny_extend_range (A:=A) (R:=R) (s:={s with heap:=s.heap.push {cls:=.type "list",data:=.seq ([]:List iX).toArray}}) O (kb _ q) ok.small (Jk lo n) ok.2.2.2.2 _ _ 0 z λg k U l hk y x=>⟨g,k,U,l,rfl,rfl,λb o e=>hk b o (kI<|ki e)<|kb _ e,y,x⟩) (λf j h=>?_) λe j h=>?_
 .cases f with
  |done f=>obtain⟨v,hv,p⟩:=fin h;cases hv;exact p
  |again l=>exact⟨h.1,sf h.2 λr L q=>by obtain⟨v,rfl,p⟩:=fin q;exact p⟩
 obtain⟨v,hv,_⟩:=fin h;cases hv
def ac3{Q₁:jG}{r:iO}{lo g:Int}{t u v:u0}(p:A.handled=J)(l:NL s.heap r lo g 1 t u v)(ok:Fl lo g)
  (h:∀(d:jn) k (a:nZ),(∀b o,s.heap.get? b=Y o->d.get? b=Y o)->mu (λi v=>∃t,v=.int (lo+(i:Int)*1) t) a (g-lo).toNat->Q₁ (.ref d.objs.size) {s with heap:=d.push {cls:=.type "tuple",data:=.seq a},toks:=k}):
  cg (ai c w) A (.call (.builtin "tuple.__new__") ⟨[.type "tuple",.ref r],[]⟩) (Ch Q₁ E) s:=by
 refine xF ?_;refine iP (m:=c6 "tuple.__new__" _)<|vX (F.newCall_tuple_1 _)<|je ⟨sZ F.plain_tuple_new _,qp F.entry_tuple_new ?_⟩;rw[uN F.plain_tuple_new _];have z:=sub_tuple_self;have j:=init_tuple_lookup;have q:=madeHere_tuple;have y:s.TypeIs (.ref r) "range":=⟨_,l,rfl⟩
 have f:A.in1.handled=J:=p
 wp_walk using vZ y,aek f l ok
 intro d k a hk n;have x:a.size<=sizeLine:=by rw[n.1,kj];have:=ok.2.2.2.2;omega
 refine iP (m:=bq a.toList.toArray) ?_;unfold bq;refine oz ?_ (by show a.toList.toArray.size<=sizeLine;simpa using x);refine je ?_;have e:a.toList.toArray=a:=by simp
 rw[e];exact h d k a hk n
def acR{Q:jG}{r:iO}{lo g:Int}{t u v:u0}(k:A.handled=J)(m:NL s.heap r lo g 1 t u v)(ok:Fl lo g)
  (h:∀(f:jn) j (e:nZ),(∀b o,s.heap.get? b=Y o->f.get? b=Y o)->mu (λi v=>∃t,v=.int (lo+(i:Int)*1) t) e (g-lo).toNat->Q (.ref f.objs.size) {s with heap:=f.push {cls:=.type "tuple",data:=.seq e},toks:=j}):
  ah (ai c w) A (call (.type "tuple") [.ref r]) Q E s:=by
 refine Fk (Q₁:=λobj a=>a.TypeIs obj "tuple"/\Q obj a) QM (F.typeCall_tuple_1 _) MP
  (ac3 k m ok λf j e l n=>⟨⟨_,kD _ rfl,rfl⟩,h f j e l n⟩) λobj a d=>?_
 exact⟨d.1,F.args_object_init_2 obj _,object_init_meets QM.init.lookup QM.made (by decide) c w A.in1 _ a ⟨d.1,rfl,d.2⟩⟩
end
section
variable {X:Cx}
def CQ:kL X (.type "range") (λc T Q=>∃i j,c=[.int i,.int j]/\∀r,T r=J->Q (.ref r) (upd T r<|.rng i j)):=by intro a s k T c g Q U r h;obtain⟨i,j,rfl,h⟩:=h;obtain⟨u,f,rfl,⟨t,rfl⟩,⟨d,rfl⟩⟩:=uP r;exact NE ⟨.ref _,_,U.laid (o:=.rng i j) (λb o e=>kb _ e) (kg _) ⟨_,_,_,kD _ rfl⟩,rfl,h _ U.fresh⟩
def acS(i:X.calm=I):kL X (.type "list") (λf T Q=>∃r lo a,f=[.ref r]/\T r=Y (.rng lo a)/\Fl lo a/\∀l,T l=J->Q (.ref l) (upd T l<|.lst<|LD lo a)):=by intro d s x T f q Q U g h;obtain⟨r,lo,a,rfl,j,ok,h⟩:=h;obtain⟨u,rfl,m⟩:=qy g;cases m;obtain⟨t,u,v,er⟩:=U.hok r _ j;refine call_list_range (A:=X.A) (U.ok.hd i) er ok.small (Jk lo a) ok.2.2.2.2 λo p b c k e items=>?_;have n:=Ar items;refine⟨.ref _,_,U.laid k (kg _) (show AA X.prog X.w _ _ _ (.lst<|LD lo a)from⟨?_,b.toList,c,n,by simpa using e⟩),rfl,h _ U.fresh⟩;have:=ok.2.2.2.2;simp only[LD,ke,m4,kj];omega
def acU(k:X.calm=I):kL X (.type "tuple") (λi T Q=>∃r lo c,i=[.ref r]/\T r=Y (.rng lo c)/\Fl lo c/\∀l,T l=J->Q (.ref l) (upd T l<|.tup<|LD lo c)):=by intro d s y T i z Q U j h;obtain⟨r,lo,c,rfl,m,ok,h⟩:=h;obtain⟨u,rfl,p⟩:=qy j;cases p;obtain⟨t,u,v,er⟩:=U.hok r _ m;refine acR (A:=X.A) (U.ok.hd k) er ok λg x a n items=>?_;have q:=Ar items;have f:Inv X d y T {s with heap:=g,toks:=x}:=U.kept n;refine⟨.ref _,_,f.laid (λb o e=>kb _ e) (kg _) (show AA X.prog X.w _ _ _ (.tup<|LD lo c)from⟨?_,a.toList,q,by have:=DC g a;simpa using this⟩),rfl,h _ f.fresh⟩;have:=ok.2.2.2.2;simp only[LD,ke,m4,kj];omega
def N8(mk:List D->D)(o:Bool):List D->Option (D×Bool)
 |[.int j]=>if Fl 0 j then Y (mk<|jP 0 j.toNat,o)else J
 |[.int i,.int j]=>if Fl i j then Y (mk<|jP i (j-i).toNat,o)else J
 |_=>J
def Jl{K U}(lo a:Int):YP K U O (jP lo (a-lo).toNat) (LD lo a):=adO lo _
variable {a b:iW}{n m:FO}{p g d f:bn}
def E7(h:upd U r o l=J):U l=J:=by
 by_cases e:l=r
 .subst e;rw[ju]at h;cases h
 rwa [jx e]at h
def C4{K:jr}{T o:AB}{s:L2.St}{r c:Dn}{U l:Hp}{os:List BU}{k:List V}{e:List D}(B:Ops K T s r U os k c l o)(h:vE c os=Y e){is:ja}(hd:e=is.map .int):k=is.map .int:=by
 obtain⟨h1,t⟩:=pD h;apply xy;intro j;by_cases q:j<VP is
 .rw[uj B h (j:=j) (i:=is[j])<|by rw[hd];simp];simp[q]
 have u:=B.len;subst hd;simp at h1;rw[g9<|by lia,g9<|by simp;lia]
def VN{T:String}{z:av}{mk:List D->D}{o:Bool}(hT:(T="list"/\mk=.lst/\o=Uf)\/(T="tuple"/\mk=.tup/\o=UF))(U:X.calm=Uf)(Y:Gl X z)(hm:X.mg z=T2)(hv:ax z=TW (.type T))(hn:z≠"__name__")(j4:(z==("__debug__":av))=UF)
  (J:Gl X "range")(O:X.mg "range"=T2)(N:PA X [a,b] (tA X.K [n,m]))
  (s1:ae [.Call (.Name "range" g) [a,b] [] f] X.env=(UF,aX (.Call (.Name "range" g) [a,b] [] f) X.env)::ae [] X.env)(s2:ae [a,b] X.env=(UF,aX a X.env)::ae [b] X.env)
  (M:(aI d<|ae [] X.env).any (·.1)=UF)(G:(aI f<|ae [b] X.env).any (·.1)=UF):
  PX X (.Call (.Name z p) [.Call (.Name "range" g) [a,b] [] f] [] d) (jA (N8 mk o) [n,m]):=by
 have t:∀{w c:Dn}{os:List BU},kY [n,m] w=TW (os,c)->os.length=2:=λ{w c os} h1=>by unfold kY at h1;obtain⟨p,q1,h1⟩:=iR h1;obtain⟨q,v,h1⟩:=iR h1;unfold kY at v;obtain⟨p3,q3,v⟩:=iR v;obtain⟨q4,F,v⟩:=iR v;unfold kY at F;cases F;obtain⟨rfl,rfl⟩:=jw h1;cases v;rfl
 rcases hT with⟨rfl,rfl,rfl⟩|⟨rfl,rfl,rfl⟩
 .refine PX.imp (qO (acS U) Y hm hv (lS (qO CQ J O DG N (by decide) (by decide) s2 G) oI s1) hn j4 s1 M) λZ H Q C=>?_;obtain⟨w,T,S,L,E,e,k⟩:=C;obtain⟨os,c,h1,e⟩:=iY e;obtain⟨R,y,e⟩:=iR e;obtain⟨W,h,e⟩:=iR e;obtain⟨rfl,rfl⟩:=jw e;refine⟨w,T,os,c,E,h1,λV x P B=>?_⟩;unfold N8 at h;split at h
  .obtain⟨s,_⟩:=pD y;have:=t h1;simp at s;omega
  .rename_i i j;obtain⟨ok,rfl⟩:=jz h;refine⟨i,j,C4 B y (is:=[i,j]) UV,λr A=>⟨r,i,j,rfl,ju,ok,λl s=>?_⟩⟩;have I:∀a u,x a=TW u->upd (upd x r<|.rng i j) l (.lst<|LD i j) a=TW u:=λa u e=>lM s a u<|lM A a u e;exact(B.done k) l _ (E7 s) I ⟨LD i j,ju,Jl i j⟩
  cases h
 refine PX.imp (qO (acU U) Y hm hv (lS (qO CQ J O DG N (by decide) (by decide) s2 G) oI s1) hn j4 s1 M) λZ H Q C=>?_;obtain⟨w,T,S,L,E,e,k⟩:=C;obtain⟨os,c,h1,e⟩:=iY e;obtain⟨R,y,e⟩:=iR e;obtain⟨W,h,e⟩:=iR e;obtain⟨rfl,rfl⟩:=jw e;refine⟨w,T,os,c,E,h1,λV x P B=>?_⟩;unfold N8 at h;split at h
 .obtain⟨s,_⟩:=pD y;have:=t h1;simp at s;omega
 .rename_i i j;obtain⟨ok,rfl⟩:=jz h;refine⟨i,j,C4 B y (is:=[i,j]) UV,λr A=>⟨r,i,j,rfl,ju,ok,λl s=>?_⟩⟩;have I:∀a u,x a=TW u->upd (upd x r<|.rng i j) l (.tup<|LD i j) a=TW u:=λa u e=>lM s a u<|lM A a u e;exact(B.done k) _ _ I (Rep.Ip ⟨ju,B.np<|Nm<|E7 s⟩<|Jl i j)
 cases h
end
def Src(h:jn)(it l:iO)(i:Nat)(a:nZ):Prop:=(h.IsListIter it l i/\h.IsList l a)\/(h.IsTupleIter it l i/\h.IsTuple l a)
section
variable {prog:jq}{w:jk}{A:jm}{E:jG}{s:iT}{it l:iO}{i:Nat}{xs:nZ}
def Src.ne(x:Src h it l i xs):l≠it:=by intro e;subst e;rcases x with⟨⟨o,h1,b,a⟩,c,g1,g2,n,g3⟩|⟨⟨o,h1,b,a⟩,c,g1,g2,n,g3⟩<;>(rw[h1]at g1;cases g1;rw[a]at g3;cases g3)
def Src.lt(x:Src h it l i xs):it<h.objs.size/\l<h.objs.size:=by rcases x with⟨⟨o,h1,_⟩,a,g1,_⟩|⟨⟨o,h1,_⟩,a,g1,_⟩<;>exact⟨ki h1,ki g1⟩
def Src.keep(x:Src h it l i xs)(c:∀o,h.get? it=Y o->h'.get? it=Y o)(d:∀o,h.get? l=Y o->h'.get? l=Y o):Src h' it l i xs:=by
 rcases x with⟨⟨o,h1,r⟩,a,g1,b⟩|⟨⟨o,h1,r⟩,a,g1,b⟩
 .exact .inl ⟨⟨o,c _ h1,r⟩,a,d _ g1,b⟩
 exact .inr ⟨⟨o,c _ h1,r⟩,a,d _ g1,b⟩
def Ce{Q:jG}(c:s.heap.IsTupleIter it l i)(q:s.heap.IsTuple l xs)(n:∀x,xs[i]?=Y x->∀b,b.IsTupleIter it l (i+1)->aE it s.heap b->Q x {s with heap:=b})
  (g:xs[i]?=J->A.handled=J/\∀b e,eJ it s.heap b->(∃o,b.get? e=Y o/\o.cls=.type "StopIteration")->E (.ref e) {s with heap:=b}):ah (ai prog w) A (aP<|.ref it) Q E s:=by
 obtain⟨o,d,p,hd⟩:=id c;obtain⟨t,j,_,r,k⟩:=q;unfold aP;refine iP<|tD (name:=bN "__next__") c.typeIs MO<|pY MO c.typeIs F.entry_tuple_iterator_next ?_<|F.args_tuple_iterator_next_1 _;refine iP (m:=iL (.ref it) 0)<|pk d hd (x:=.ref l) H ?_;show ah _ _ (if(bU l==au)=I then _ else _) _ _ s;rw[jy (by show ¬(bU l==au)=I;exact lH)];refine iP (m:=iL (.ref it) 1)<|pk d hd (x:=.int i 0) H ?_;refine iP (m:=seqItems?<|.ref l)<|vR j k ?_
 cases f:xs[i]? with
 |some x=>simp only[xM,f];refine iP<|vg d hd (by simp)<|je ⟨x,rfl,je<|n x f _ ⟨_,tx _ d (Dt<|uM hd _),(Ds ..).trans p,?_⟩ (rZ ..)⟩;rw[uM hd];simp[cu]
 |none=>
  obtain⟨h,g⟩:=g f;simp only[xM,f];refine iP<|sL<|iP<|vg d hd (by simp) ?_;refine iP (m:=lv (.type "StopIteration") []) ?_;simp -iota only[lv];refine iP<|oz (iP (m:=gV _ _)<|vX (a:=au) (by first|rfl|(simp -iota;rfl)) ?_) (by size_fits);refine oz ?_ (by size_fits);simp -iota only[C2];refine iP<|G8 ?_
  first|rw[show A.in1.handled=J from h]|rw[h]
  exact iP<|je<|G7<|g _ _ (((rZ ..).extBut.push _).push _) ⟨_,kD _ rfl,rfl⟩
def Src.item{x:iX}{Q:jG}(st:Src s.heap it l i xs)(g:xs[i]?=Y x)(h:∀c,Src c it l (i+1) xs->aE it s.heap c->Q x {s with heap:=c}):
  ah (ai prog w) A (aP<|.ref it) Q E s:=by
 have ne:=st.ne;rcases st with⟨a,b⟩|⟨a,b⟩
 .exact wpAny_nextOf_list_item a b g λc f d=>h c (.inl ⟨f,b.extBut d.extBut ne⟩) d
 exact Ce a b (λj e c f d=>by rw[g]at e;cases e;exact h c (.inr ⟨f,b.extBut d.extBut ne⟩) d) λe=>by rw[g]at e;cases e
def Src.stop{Q:jG}(f:A.handled=J)(st:Src s.heap it l i xs)(g:xs[i]?=J)
  (d:∀c e,eJ it s.heap c->(∃o,c.get? e=Y o/\o.cls=.type "StopIteration")->E (.ref e) {s with heap:=c}):ah (ai prog w) A (aP<|.ref it) Q E s:=by
 rcases st with⟨a,b⟩|⟨a,b⟩
 .exact wpAny_nextOf_list_end f a b g d
 exact Ce a b (λx e=>by rw[g]at e;cases e) λ_=>⟨f,d⟩
def Src.new(a:s.heap.IsList l xs\/s.heap.IsTuple l xs)(d:∀c,Src c s.heap.objs.size l 0 xs->c.objs.size=s.heap.objs.size+1->(∀b o,s.heap.get? b=Y o->c.get? b=Y o)->Q (.ref s.heap.objs.size) {s with heap:=c}):
  ah (ai prog w) A (c5<|.ref l) Q E s:=by
 rcases a with a|a
 .exact xR a (d _ (.inl ⟨⟨_,kD _ rfl,rfl,rfl⟩,a.push _⟩) (qr ..) λb o e=>kb _ e)
 exact Hq a (d _ (.inr ⟨⟨_,kD _ rfl,rfl,rfl⟩,a.push _⟩) (qr ..) λb o e=>kb _ e)
end
section
variable {f:jq}{w:jk}{A:jm}{E:jG}{s:iT}{e it l:iO}{i:Nat}{c:Int}{h:nZ}
def ae2{x old:iX}{Q:jG}(he:eL s.heap e it c old)(st:Src s.heap it l i h)(hx:h[i]?=TW x)(U:e≠it)(ei:e≠l)
  (hQ:∀L,j2 L e it (c+1) x s.heap.objs.size->Src L it l (i+1) h->L.get? s.heap.objs.size=TW {cls:=.type "tuple",data:=.seq #[.int c s.toks,x]}->L.objs.size=s.heap.objs.size+1->
   (∀b o,b≠e->b≠it->s.heap.get? b=TW o->L.get? b=TW o)->Q (.ref s.heap.objs.size) {s with heap:=L,toks:=s.toks+1}):
  ah (ai f w) A (bc.«enumerate.__next__» ⟨[.ref e],[]⟩) (λfin s'=>∃v,fin=.done (.ret v)/\Q v s') E s:=by
 obtain⟨C,g,d,k,os⟩:=s;refine iP (m:=iL (.ref e) 2)<|pk he UV (x:=.ref it) UV<|iP<|st.item hx λj I G=>?_;replace G:aE it C j:=G;have V:eL j e it c old:=(G.2 e U).trans he;refine iP (m:=iL (.ref e) 3)<|pk (s:=⟨j,g,d,k,os⟩) V UV (x:=cu c) UV ?_;refine iP (m:=iL (.ref e) 4)<|pk (s:=⟨j,g,d,k,os⟩) V UV (x:=.none) UV ?_;refine iP (m:=mkInt c)<|wpAny_mkInt (s:=⟨j,g,d,k,os⟩) ?_;refine iP (m:=oC (.ref e) 3<|cu<|c+1)<|uL (s:=⟨j,g,d,k+1,os⟩) V (by simp) λp S T=>?_;replace T:aE e j p:=T;replace S:eL p e it (c+1) old:=S;refine iP (m:=oC (.ref e) 4 .none)<|uL (s:=⟨p,g,d,k+1,os⟩) S (by simp) λa R O=>?_;replace O:aE e p a:=O;replace R:eL a e it (c+1) old:=R;refine iP (m:=newTuple [.int c k,x])<|Dr (s:=⟨a,g,d,k+1,os⟩) ?_;have H:a.objs.size=C.objs.size:=by rw[O.1,T.1,G.1]
 have N:eL (a.push {cls:=.type "tuple",data:=.seq #[.int c k,x]}) e it (c+1) old:=kb _ R;have W:e<C.objs.size:=ki he;have y:(a.push {cls:=.type "tuple",data:=.seq #[.int c k,x]}).get? C.objs.size=TW {cls:=.type "tuple",data:=.seq #[.int c k,x]}:=by rw[<-H];exact kD _ rfl
 have up:∀b o,b≠e->b≠it->C.get? b=TW o->(a.push {cls:=.type "tuple",data:=.seq #[.int c k,x]}).get? b=TW o:=λb o B D q=>kb _ (O.extBut b o B<|T.extBut b o B<|G.extBut b o D q);have z:Src (a.push {cls:=.type "tuple",data:=.seq #[.int c k,x]}) it l (i+1) h:=I.keep (λo q=>kb _ (O.extBut _ o U.symm (T.extBut _ o U.symm q))) λo q=>kb _ (O.extBut _ o ei.symm (T.extBut _ o ei.symm q));have X:(a.push {cls:=.type "tuple",data:=.seq #[.int c k,x]}).objs.size=C.objs.size+1:=by rw[qr,H]
 rw[H];generalize (a.push {cls:=.type "tuple",data:=.seq #[.int c k,x]})=n at N y up z X;refine iP (m:=bx<|.ref e) ?_;unfold bx;refine iP<|pk (s:=⟨n,g,d,k+1,os⟩) N UV (x:=.none) UV<|je ?_;simp -iota;refine iP<|sL<|iP<|pk (s:=⟨n,g,d,k+1,os⟩) N UV (x:=old) UV<|iP<|uL (s:=⟨n,g,d,k+1,os⟩) N (by simp) λr P Y=>?_;replace Y:aE e n r:=Y;replace P:eL r e it (c+1) x:=P;refine iP (m:=bw (.ref e)<|.ref C.objs.size) ?_;unfold bw;refine iP<|uL (s:=⟨r,g,d,k+1,os⟩) P (by simp) λt K M=>?_;replace M:aE e r t:=M;replace K:j2 t e it (c+1) x C.objs.size:=K;refine uL (s:=⟨t,g,d,k+1,os⟩) K (by simp) λu F J=>?_;replace J:aE e t u:=J;replace F:j2 u e it (c+1) x C.objs.size:=F;have all:∀b o,b≠e->n.get? b=TW o->u.get? b=TW o:=λb o B q=>J.extBut b o B<|M.extBut b o B<|Y.extBut b o B q;refine iP<|Dq<|je ⟨_,rfl,hQ u F (z.keep (λo q=>all _ o U.symm q) λo q=>all _ o ei.symm q) (all _ _ (pv W) y) ?_ λb o B D q=>all b o B<|up b o B D q⟩;rw[J.1,M.1,Y.1,X]
def yc{x old:iX}{Q:B9}(m:eL s.heap e it c old)(st:Src s.heap it l i h)(q:h[i]?=Y x)(r:e≠it)(n:e≠l)
  (p:∀g,j2 g e it (c+1) x s.heap.objs.size->Src g it l (i+1) h->g.get? s.heap.objs.size=Y {cls:=.type "tuple",data:=.seq #[.int c s.toks,x]}->g.objs.size=s.heap.objs.size+1->
   (∀b o,b≠e->b≠it->s.heap.get? b=Y o->g.get? b=Y o)->Q (Y<|.ref s.heap.objs.size) {s with heap:=g,toks:=s.toks+1}):
  ah (ai f w) A (cA<|.ref e) Q E s:=by
 have j:s.TypeIs (.ref e) "enumerate":=⟨_,m,rfl⟩
 unfold cA
 exact iP (rC (tD (name:=bN "__next__") j Dp (pY Dp j MN
  (ae2 m st q r n λg a b c d k=>je<|p g a b c d k) (MM _))))
def yT{old:iX}{Q:B9}(p:A.handled=J)(g:eL s.heap e it c old)(st:Src s.heap it l i h)(r:h[i]?=J)
  (k:∀a,eJ it s.heap a->Q J {s with heap:=a}):ah (ai f w) A (cA<|.ref e) Q E s:=by
 have d:s.TypeIs (.ref e) "enumerate":=⟨_,g,rfl⟩
 unfold cA;refine iP<|rC<|tD (name:=bN "__next__") d Dp<|pY Dp d MN ?_<|MM _;refine iP (m:=iL (.ref e) 2)<|pk g H (x:=.ref it) H<|iP<|st.stop p r ?_;rintro a x j ⟨o,q,n⟩;exact iP<|xw (T:="StopIteration") (b:=I) ⟨o,q,n⟩ Dm<|je<|k _ j
end
section
variable {X:Cx}{d:jK}{g:L2.St}{H:Hp}{s:iT}{f:jn}
def Cc{t':Nat}{ch:kW}{a:iO}{o:HO}(U:Inv X d g H s)(j:∀b∈ch,ug X d H b)(k:∀b u,b∉ch->s.heap.get? b=Y u->f.get? b=Y u)(p:s.heap.objs.size<=a)(new:AA X.prog X.w (upd H a o) f a o):
  Inv X d g (upd H a o) {s with heap:=f,toks:=t'}:=by
 have L:=U.hok.fresh p;have l:∀b u,H b=Y u->b∉ch:=λb u e z=>by have:=(j b z).1;rw[this]at e;cases e
 have up:∀b u,H b=Y u->upd H a o b=Y u:=λb u e=>by rw[jx<|lI e L];exact e
 have N:∀b u,s.heap.get? b=Y u->H b=J->upd H a o b=J:=λb u e n=>by rw[jx λz=>by subst z;exact absurd (ki e)<|M7.mpr p];exact n
 refine U.step (g':=s.gens) (d':=s.drawn) (ch:=ch) (λb i=>?_) (λb u _ _ h e _=>k b u h e) (λb u _ _ h e _=>⟨u.slots,k b u h e⟩) (λb u _ e n=>N b u e n)
  (λb u h e=>⟨u,k b u h e⟩) (λb Q e=>up b _ e) (λb _ _ e=>up b _ e) (λb G e=>⟨#[],by rw[up b _ e];simp⟩) (λm E=>?_) (λb u e=>?_) U.bare
 .obtain⟨_,f1,T,y,A,B⟩:=j b i;exact⟨y,f1,A,B⟩
 .obtain⟨u,x,t,O,r⟩:=E;exact⟨u,x,t,k _ u (λz=>(j _ z).2.1 UV) O,r⟩
 by_cases i:b=a
 .subst i;rw[ju]at e;cases e;exact new
 rw[jx i]at e;refine(U.hok b u e).BG (λc v h q=>k c v ?_ q) (λc q=>up c _ q) (λc Q q=>up c _ q) λc _ _ q=>up c _ q;rcases h with z|z
 .rw[z];exact l b u e
 exact l c _ z
def Cd{t':Nat}{ch:kW}(U:Inv X d g H s)(h:∀b∈ch,ug X d H b)(k:∀b u,b∉ch->s.heap.get? b=Y u->f.get? b=Y u):Inv X d g H {s with heap:=f,toks:=t'}:=by
 have i:∀b u,H b=Y u->b∉ch:=λb u e z=>by have:=(h b z).1;rw[this]at e;cases e
 refine U.step (g':=s.gens) (d':=s.drawn) (ch:=ch) (λb w=>?_) (λb u _ _ a e _=>k b u a e) (λb u _ _ a e _=>⟨u.slots,k b u a e⟩) (λb u _ e n=>n)
  (λb u a e=>⟨u,k b u a e⟩) (λb A e=>e) (λb _ _ e=>e) (λb T e=>⟨#[],by rw[e];simp⟩) (λm x=>?_) (λb u e=>?_) U.bare
 .obtain⟨_,f1,B,o,p,t⟩:=h b w;exact⟨o,f1,p,t⟩
 .obtain⟨u,l,j,y,r⟩:=x;exact⟨u,l,j,k _ u (λz=>(h _ z).2.1 UV) y,r⟩
 refine(U.hok b u e).BG (λc v a q=>k c v ?_ q) (λc q=>q) λc A q=>q;rcases a with z|z
 .rw[z];exact i b u e
 exact i c _ z
end
def HS(b:Bool)(K:jr)(U:Hp)(l:iO)(a:List V):Prop:=if b=I then F5 K U l a else HZ K U l a
def KA(b:Bool)(h:jn)(it l:iO)(i:Nat):Prop:=if b=I then h.IsListIter it l i else h.IsTupleIter it l i
def KA.keep(x:KA b h it l i)(k:∀o,h.get? it=Y o->h'.get? it=Y o):KA b h' it l i:=by
 cases b
 .exact PySem.Heap.IsTupleIter.at (show h.IsTupleIter it l i from x) k
 exact PySem.Heap.IsListIter.at (show h.IsListIter it l i from x) k
def KA.obj(x:KA b h it l i):∃o,h.get? it=Y o/\∀v,o.data≠ .cell v:=by
 cases b<;>(obtain⟨o,e,c,d⟩:=x;exact⟨o,e,λv z=>by rw[d]at z;cases z⟩)
section
variable {X:Cx}{d:jK}{e:L2.St}{H:Hp}{s:iT}
def uo(U:Inv X d e H s)(q:HS b X.K H l xs)(t:KA b s.heap it l i):∃a,Vals xs a/\Src s.heap it l i a.toArray:=by
 cases b
 .obtain⟨a,v,p,_⟩:=U.tuple q;exact⟨a,v,.inr ⟨t,p⟩⟩
 obtain⟨a,v,p,_⟩:=U.list q;exact⟨a,v,.inl ⟨t,p.isList⟩⟩
def DP(U:Inv X d e H s)(q:HS b X.K H l xs)(a:HS b X.K H l c):xs=c:=by
 cases b
 .exact U.Ea q a
 exact U.FC q a
def Ie(t:KA b h it l i)(m:Src h it l i xs)(j:Src k it l p xs)(n:∀o,h.get? l=Y o->k.get? l=Y o):KA b k it l p:=by
 cases b
 .rcases j with⟨a,c⟩|⟨a,_⟩
  .rcases m with⟨⟨o,h1,f,_⟩,_⟩|⟨_,o,h1,f,_⟩
   .obtain⟨g,g1,g2,_⟩:=t;rw[h1]at g1;cases g1;rw[f]at g2;injection g2 with g2;exact absurd g2 (by decide)
   obtain⟨g,g1,g2,_⟩:=c;rw[n _ h1]at g1;cases g1;rw[f]at g2;injection g2 with g2;exact absurd g2 (by decide)
  exact a
 rcases j with⟨a,_⟩|⟨a,c⟩
 .exact a
 rcases m with⟨_,o,h1,f,_⟩|⟨⟨o,h1,f,_⟩,_⟩
 .obtain⟨g,g1,g2,_⟩:=c;rw[n _ h1]at g1;cases g1;rw[f]at g2;injection g2 with g2;exact absurd g2 (by decide)
 obtain⟨g,g1,g2,_⟩:=t;rw[h1]at g1;cases g1;rw[f]at g2;injection g2 with g2;exact absurd g2 (by decide)
end
def OQ(b:Bool)(K:jr)(l:iO)(c:Int):It:=⟨λi U=>∃a x,HS b K U l a/\a[i]?=Y x,
 λi U x d=>∃(T:iO)(y:V),x=.ref T/\U T=J/\d=upd U T (.tup [.int<|c+i,y])/\∀a,HS b K U l a->a[i]?=Y y,λi U=>∃a,HS b K U l a/\(VP a)<=i⟩
def aew{P:jq}{w:jk}{K:jr}{m:kr}{k1}{Y:bn}(b:Bool)(e it l:iO)(c:Int)(i6:e≠it):
  Turn P w K (.Tuple m k1 Y) (OQ b K l c) [e,it] e (λi h=>(∃old,eL h e it (c+i) old)/\KA b h it l i) where
 mem:=by simp
 obj:=λi h st a B=>by
  obtain⟨⟨old,f⟩,st⟩:=st;have u9:a=e\/a=it:=by simpa using B
  rcases u9 with rfl|rfl
  .exact⟨_,f,λv z=>by have z':hX _=fS v:=z;cases z'⟩
  exact st.obj
 keep:=λi h h' st k=>by obtain⟨⟨old,f⟩,st⟩:=st;exact⟨⟨old,k e (by simp) _ f⟩,st.keep λo q=>k it (by simp) o q⟩
 item:=by
  intro X G M T S i g s Z H E I r st J;subst G M T;obtain⟨⟨old,f⟩,st⟩:=st;obtain⟨xs,x,C,N⟩:=J;obtain⟨U,D,d⟩:=uo I C st;obtain⟨u,hu,ru⟩:=D.get N
  have Q:e≠l:=λz=>by subst z;have V:=(r e<|by simp).1;rcases d with⟨_,o,h1,A,_⟩|⟨_,o,h1,A,_⟩<;>(have F:s.heap.get? e=_:=f;rw[h1]at F;cases F;injection A with A;exact absurd A<|by decide)
  refine yc f d (x:=u) (by simpa using hu) i6 Q λh' ho t hT hsz kp=>⟨.ref s.heap.objs.size,rfl,?_⟩
  refine wpAny_letOwnedTupleGo_enum ho λj n O=>?_;have p:e<s.heap.objs.size:=ki f
  have R:∀a o,a∉[e,it]->s.heap.get? a=TW o->j.get? a=TW o:=λa o L q=>by have W:a≠e:=λz=>L (by simp[z]);have n2:a≠it:=λz=>L (by simp[z]);exact O.extBut a o W<|kp a o W n2 q
  have dg:j.get? s.heap.objs.size=TW {cls:=.type "tuple",data:=.seq #[.int (c+i) s.toks,u]}:=O.extBut _ _ (pv p) hT
  have I1:Inv X g Z (upd H s.heap.objs.size<|.tup [.int<|c+i,x]) {s with heap:=j,toks:=s.toks+1}:=
   Cc I r R (kg _) (show AA X.prog X.w _ _ _ (.tup [.int<|c+i,x])from⟨by show 2<=sizeLine;decide,[.int (c+i) s.toks,u],.cons ⟨_,rfl⟩<|.cons ru .nil,_,dg,rfl,0,rfl⟩)
  have y:KA b j it l (i+1):=by refine Ie st d (t.keep (λo q=>O.extBut _ o i6.symm q) λo q=>O.extBut _ o Q.symm q) λo q=>R l o ?_ q;have:=d.ne;simp;exact⟨Q.symm,this⟩
  refine⟨.ref s.heap.objs.size,_,I1,rfl,⟨_,x,rfl,I.fresh,rfl,λys hy=>by rw[DP I hy C];exact N⟩,⟨⟨u,?_⟩,y⟩,λa B=>?_⟩
  .have e1:c+((i+1:Nat):Int)=c+i+1:=by lia
   show eL j e it (c+((i+1:Nat):Int)) u;rw[e1];exact n
  have V:=(r a B).1;rw[jx]
  .exact V
  intro z;have j9:a=e\/a=it:=by simpa using B
  rcases j9 with rfl|rfl
  .exact absurd z (kI p)
  exact absurd z (kI d.lt.1)
 done:=by intro X G M T S i g s Z H E I r st J;subst G M T;obtain⟨⟨old,f⟩,st⟩:=st;obtain⟨xs,C,N⟩:=J;obtain⟨U,D,d⟩:=uo I C st;have hl:=D.length;exact yT (I.ok.hd S) f d (by simp;lia) λh' eb=>⟨rfl,Cd (t':=s.toks) I r λa o L q=>eb a o (λz=>L<|by simp[z]) q⟩
 self:=λ_ _ _ _ _ st h=>by obtain⟨⟨old,f⟩,_⟩:=st;exact tz f h
def An{K U}(q:ID b K U P a xs):HS b K U a xs:=by
 cases b
 .exact q.t
 exact q.l
def aeS{K:jr}{P O:AB}{h:Hp}{a:iO}{g:List V}{l:List D}{b:Bool}{c:Int}(q:ID b K h P a g)(r:YP K h O l g)(A:∀a,P a->O a):
  KY K (OQ b K a c) (l.zipIdx.map λp=>.tup [.int<|c+p.2,p.1]) P O h:=by
 have sq:∀Hi,(∀a o,h a=Y o->¬P a->Hi a=Y o)->HS b K Hi a g:=λHi f=>An<|q.mono f λ_ z=>z;refine⟨λi d Hi hd f=>?_,λi Hi N f=>⟨g,sq Hi f,by rw[r.length];simpa using N⟩⟩;rw[kX]at hd;obtain⟨⟨Q,j⟩,h1,u⟩:=jM hd;rw[Ha]at h1;obtain⟨G,v,w⟩:=jM h1;obtain⟨rfl,rfl⟩:=sH w;obtain⟨x,s,M⟩:=r.get v;refine⟨⟨g,x,sq Hi f,s⟩,λy U E=>?_⟩;obtain⟨T,z,rfl,m,rfl,k⟩:=E;have k:=k g<|sq Hi f;rw[s]at k;cases k;have ext:=lM (o:=.tup [.int<|c+i,x]) m;refine⟨ext,λL h1 t=>?_⟩;subst u;refine Rep.Ip ⟨ju,t T m⟩<|YP.cons ?_<|YP.cons (Rep.mono (λb o e n=>ext b o<|f b o e λz=>n<|A b z) (λb B z=>h1 b B z) M) YP.nil;simp;exact Rep.mkInt
open AutoSeq1 (wpAny_loadPart')
section
variable {f:jq}{w:jk}{A:jm}{E:jG}{s:iT}
def W0{T a:String}{self:iX}{rz:jW}{kw:List (av×iX)}(g:gR (.type T) "__init__"=pure (Y<|.builtin "object.__init__"))(h:Bind.madeBy (.type T)=pure (Y a))(i:(Y a !=Y "object.__new__")=I):
  F0 (bc.«object.__init__» ⟨self::rz,kw⟩) (λ_ R s=>s.TypeIs self T/\R (.ok<|.ret .none) s):=by
 refine Meets.of_wp λf w A R s d=>?_;obtain⟨e,c⟩:=d;by_cases b:(!rz.isEmpty||!kw.isEmpty)=I
 .unfold bc.«object.__init__»;simp only[b,nJ]
  repeat (any_goals (first|assumption|wp_step))
  exact⟨_,rfl,c⟩
 unfold bc.«object.__init__»;simp only[b,my];exact je ⟨_,rfl,c⟩
def ad8{T b:String}{q:bc}{a:jW}{kw:List (av×iX)}{S:PySem.Spec}{Q:jG}(i:TypeCalled T b "object.__init__")(N:(Y b !=Y "object.__new__")=I)(B:J4 T ⟨a,kw⟩=pure ())
  (x:c6 b ⟨.type T::a,kw⟩=pure ())(o:∀obj,gY "object.__init__" ⟨obj::a,kw⟩)(j:gW t8 b=Y q)(g:F0 (q ⟨.type T::a,kw⟩) S)
  (h:S A.in1 (Ch (λobj d=>d.TypeIs obj T/\Q obj d) E) s):ah (ai f w) A (call (.type T) a kw) Q E s:=by
 obtain⟨c,M,u⟩:=i.mro;have n:=i.made;have G:=i.sub;refine xP<|xF ?_;show ah _ _ (callAny (.type T) _) _ _ _;refine je ⟨G6 _ (by decide+kernel),qp F.entry_type_call ?_⟩;rw[hZ (ML T a kw)<|units_type_call_type T a kw];have h1:=i.notType;have L:=i.canCreate
 repeat (any_goals (first|assumption|wp_step))
 refine sf (zY i.plain j<|vX x<|g f w A.in1 _ s h) λr d p=>?_
 cases r with
 |error e=>exact p
 |ok y=>
  cases y with
  |ret obj=>
   obtain⟨t,v⟩:=p;have U:=i.init.lookup;have O:=i.init.bind obj
   repeat (any_goals (first|assumption|wp_step))
   have z:=W0 (self:=obj) (rz:=a) (kw:=kw) i.init.lookup i.made N;refine sf (zY i.init.plain MP<|i.init.check _ _ _ _ _ _ _ _ t (o obj) (z f w A.in1 (Ch (λr k=>r=.none/\Q obj k) E) d ⟨t,rfl,v⟩)) λl k m=>?_
   cases l with
   |error e=>exact m
   |ok H'=>
    cases H' with
    |ret r=>
     obtain⟨rfl,v⟩:=m
     repeat (any_goals (first|assumption|wp_step))
    |_=>exact m.elim
  |_=>exact p.elim
def ada(a b:iX):J4 "enumerate" ⟨[a],[("start",b)]⟩=pure ():=by kernel_rfl
def adE(a b:iX):c6 "enumerate.__new__" ⟨[.type "enumerate",a],[("start",b)]⟩=pure ():=by kernel_rfl
def adb(o a b:iX):gY "object.__init__" ⟨[o,a],[("start",b)]⟩:=by unfold gY;rw[signature?_of (id:="object.__init__") (n:=['_','_','t','i','n','i','_','_']) (o:=['t','c','e','j','b','o']) (by kernel_rfl) F.owner_object];kernel_rfl
noncomputable def uF(it:iO)(c:Int):Obj:={cls:=.type "enumerate",data:=.fields #[.none,.bool C,.ref it,cu c,.none,.none]}
def ae1(l:iO)(i:nZ)(c:Int)(t:u0)(k:bt c=I):F0 (bc.«enumerate.__new__» ⟨[.type "enumerate",.ref l],[("start",.int c t)]⟩) (λ_ R s=>(s.heap.IsList l i\/s.heap.IsTuple l i)/\
  ∀e,Src e s.heap.objs.size l 0 i->e.objs.size=s.heap.objs.size+1->(∀b o,s.heap.get? b=Y o->e.get? b=Y o)->R (.ok<|.ret<|.ref e.objs.size) {s with heap:=e.push (uF s.heap.objs.size c)}):=
 .of_wp λf w A R s h=>by
  obtain⟨m,g,d,p,os⟩:=s;obtain⟨j,h⟩:=h;have n:=sub_enumerate
  wp_walk
  refine wpAny_stack_any λst=>je ?_;generalize Builtin.SmallTypes.calledThroughType.match_1 _ _ _ _=b;cases b<;>(wp_walk using Src.new j;intro e a b c;wp_walk;exact⟨_,rfl,h e a b c⟩)
def ad5(g:s.heap.IsList l xs\/s.heap.IsTuple l xs)(e:bt c=I)
  (h:∀d,Src d s.heap.objs.size l 0 xs->d.objs.size=s.heap.objs.size+1->(∀b o,s.heap.get? b=Y o->d.get? b=Y o)->Q (.ref d.objs.size) {s with heap:=d.push (uF s.heap.objs.size c)}):
  ah (ai f w) A (call (.type "enumerate") [.ref l] [("start",.int c t)]) Q E s:=
 ad8 F.called_enumerate (by decide) (ada _ _) (adE _ _) (λobj=>adb obj _ _) F.entry_enumerate_new (ae1 l xs c t e) ⟨g,λd a b c=>⟨⟨_,kD _ rfl,rfl⟩,h d a b c⟩⟩
end
section
variable {X:Cx}{g:jK}{i:L2.St}{H:Hp}{s:iT}{m:kr}{y:Nat}{n:bn}
def Tr{R:It->Hp->Prop}{E:jG}{b:Bool}{l:iO}{L:List V}{j:jW}{h':jn}{c:Int}(U:Inv X g i H s)(t:HS b X.K H l L)(k:Src h' s.heap.objs.size l 0 j.toArray)(h:h'.objs.size=s.heap.objs.size+1)
  (B:∀b o,s.heap.get? b=Y o->h'.get? b=Y o)(r:R (OQ b X.K l c) H):ah (ai X.prog X.w) X.A (c5<|.ref h'.objs.size) (PIE X g i (.Tuple m y n) R) E {s with heap:=h'.push (uF s.heap.objs.size c)}:=by
 have q:eL (h'.push<|uF s.heap.objs.size c) h'.objs.size s.heap.objs.size c .none:=kD _ rfl;refine tz q ?_;have d:Inv X g i H {s with heap:=h'.push (uF s.heap.objs.size c)}:=U.kept (t':=s.toks) λb o e=>kb _ (B b o e);have x:h'.objs.size≠s.heap.objs.size:=by rw[h];exact Nat.succ_ne_self _
 refine⟨h'.objs.size,[h'.objs.size,s.heap.objs.size],_,_,H,rfl,d,aew b h'.objs.size s.heap.objs.size l c x,⟨⟨.none,by simpa using q⟩,?_⟩,λa v=>?_,r⟩
 .have u:=k.keep (h':=h'.push<|uF s.heap.objs.size c) (λo e=>kb _ e) (λo e=>kb _ e)
  cases b
  .rcases u with⟨_,o,h1,f,_⟩|⟨a,_⟩
   .obtain⟨_,_,p,_⟩:=d.tuple t;obtain⟨T,g1,g2,_⟩:=p;rw[h1]at g1;cases g1;rw[f]at g2;injection g2 with g2;exact absurd g2 (by decide)
   exact a
  rcases u with⟨a,_⟩|⟨_,o,h1,f,_⟩
  .exact a
  obtain⟨_,_,p,_⟩:=d.list t;obtain⟨T,g1,g2,_⟩:=p.isList;rw[h1]at g1;cases g1;rw[f]at g2;injection g2 with g2;exact absurd g2 (by decide)
 have z:a=h'.objs.size\/a=s.heap.objs.size:=by simpa using v
 rcases z with rfl|rfl
 .exact U.KP (by rw[h];exact xJ _) (U.hok.fresh<|by rw[h];exact xJ _)
 exact U.KP (kg _) (U.hok.fresh<|kg _)
def Uw(K:jr)(c:Int)(d:TA):TI:=λi H R=>d i H λe a=>∃b l f,e=[.ref l]/\HS b K a l f/\R (OQ b K l c) a
def HC(U:Inv X g i H s)(q:HS b X.K H l xs):∃a,Vals xs a/\(s.heap.IsList l a.toArray\/s.heap.IsTuple l a.toArray):=by
 cases b
 .obtain⟨a,v,p,_⟩:=U.tuple q;exact⟨a,v,.inr p⟩
 obtain⟨a,v,p,_⟩:=U.list q;exact⟨a,v,.inl p.isList⟩
def TL:ax "enumerate"=Y (.type "enumerate"):=by decide+kernel
def zm{M:gi}{A:jm}{E:jG}{s:iT}{b:dG}{c:bn}{T:String}{e:iW}{j:List u3}{Q:jG}
  (h:ah M A (t9<|aI c<|ae [e] b) (λw d=>ah M A (evalAll ((fg c<|dv j b).map (·.2))) (λo f=>ah M A (call (.type T) w (((fg c<|dv j b).filterMap (·.1)).zip o)) Q E f) E d) E s)
  (u:aI c (ae [e] b)=(C,aX e b)::aI c (ae [] b))(q:(aI c<|ae [e] b).any (·.1)=C)(p:(fg c<|dv j b).all (·.1.isSome)=I)(l:(fg c<|dv j b).any (·.1.isNone)=C):
  ah M A (callWith c (.type T) [] (aI c<|ae [e] b)<|fg c<|dv j b) Q E s:=by
 have t:ah M A (evalArgs (.type T) I (aI c<|ae [e] b)<|fg c<|dv j b) (λa d=>ah M A (call (.type T) ([]++a.pos) a.kw) Q E d) E s:=by rw[u]at h ⊢;exact evalArgs_kwB p h
 unfold callWith;refine iP<|mz<|nX t (λa d k=>iP<|tH ?_) λ_ _ x=>x;simp only[q,l,Bool.or_false];exact iP<|je<|iP<|nX k (λr f v=>iP<|mz<|G5<|je v) λ_ _ x=>x
def agk{a:iW}{o:TA}{p d N e:bn}{c:Int}{z:Nat}(O:Gl X "enumerate")(T:X.mg "enumerate"=T2)(C:PA X [a] o)(E:bt c=Uf)
  (L:aI d (ae [a] X.env)=(UF,aX a X.env)::aI d (ae [] X.env))(A:(aI d<|ae [a] X.env).any (·.1)=UF):
  PI X (.Tuple m y n) (.Call (.Name "enumerate" p) [a] [⟨TW "start",.Constant (.int c) z N,e⟩] d) (Uw X.K c o):=by
 intro g s i H R I h;refine tE<|rJ I O T TL<|zm (Ak (C d g s i H _ I h) ?_) L A UV UV;rintro us s1 ⟨vs,H1,w,U,b,l,xs,hv,k,q⟩;subst hv;obtain⟨u,rfl,Y⟩:=qy U;cases Y;refine kws_cons<|Ak (D1 g s1 i H1 (λv r=>v=.int c/\r=H1) w ⟨rfl,rfl⟩) λv s2 ⟨x,H2,j,rx,G,B⟩=>kws_nil ?_;subst G;subst B;obtain⟨t,rfl⟩:=rx;obtain⟨M,_,Q⟩:=HC j k;exact ad5 Q E λD f J e=>Tr j k f J e q
noncomputable def El(c:Int)(f:F):EG:=λa=>(f a).bind λp=>match p.1.1 with
 |.tup l=>Y (l.zipIdx.map λq=>.tup [.int<|c+q.2,q.1],p.2)
 |.lst l=>Y (l.zipIdx.map λq=>.tup [.int<|c+q.2,q.1],p.2)
 |_=>J
def RX{K:jr}{T:AB}{i:L2.St}{d c:Dn}{H:Hp}{r:D×Bool}{f:F}{Q:List V->Hp->Prop}(E:ER K H T i d)(h:f d=Y (r,c))(k:∀v l,BV i d H c l->ER K l T i c->Rep K l (λa=>X0 i c a\/T a) r.1 v->Q [v] l):tA K [iU f] i H Q:=by
 refine⟨d,T,[.val r],c,E,?_,λu o w B=>?_⟩
 .show((iU f d).bind λp=>(kY [] p.2).bind λq=>Y (p.1::q.1,q.2))=_;simp only[iU,h,fK,kY]
 have t:=B.len;rcases u with _|⟨v,_|⟨_,_⟩⟩<;>try cases t
 exact k v o B.keep (B.er.mono (λ_ _ e _=>e) (λb _ z=>B.tt b z) λa z=>B.er.dom a<|B.tt a z)<|B.rep E (j:=0) UV UV
def P7{K:jr}{B:SB}{c:Int}{f:F}{i:L2.St}{H:Hp}{R:It->Hp->Prop}(A:tI K B (El c f) i H R):Uw K c (tA K [iU f]) i H R:=by
 obtain⟨L,T,w,r,E,e,k⟩:=A;obtain⟨⟨⟨d,o⟩,h⟩,h1,e⟩:=iR e;refine RX E h1 λv j u t U=>?_
 have key:∀{l},uQ d=Y l->Y (l.zipIdx.map λq=>D.tup [.int<|c+q.2,q.1],h)=Y (w,r)->∃b a p,[v]=[V.ref a]/\HS b K j a p/\R (OQ b K a c) j:=λx e=>by obtain⟨rfl,rfl⟩:=jw e;obtain⟨a,p,rfl,q,Q⟩:=Cj x U;have q:=q.mono (λ_ _ e _=>e) (P':=Lj B T i h) λa z=>z.own;exact⟨_,a,p,rfl,An q,k _ j u t (aeS q Q λa z=>z.own)⟩
 cases d with
 |tup l=>exact key UV e
 |lst l=>exact key UV e
 |_=>cases e
def ae8{B:SB}{a:iW}{f:F}{p b r q:bn}{c:Int}{z:Nat}(k:Gl X "enumerate")(l:X.mg "enumerate"=J)(e:PX X a f)(h:bt c=I)(s0:ae [a] X.env=(C,aX a X.env)::ae [] X.env)
  (j:aI b (ae [a] X.env)=(C,aX a X.env)::aI b (ae [] X.env))(d:(aI b<|ae [a] X.env).any (·.1)=C):
  LH X B (.Tuple m y n) (.Call (.Name "enumerate" p) [a] [⟨Y "start",.Constant (.int c) z r,q⟩] b) (El c f):=PI.imp' (agk k l (tN (PX.po e) zv s0) h j d) λi H R o=>P7 o
end
section
variable {j:jq}{w:jk}{A:jm}{E:jG}{s:iT}{z TI TO f d n l:iO}{k:Nat}{i g:nZ}{x y a b:iX}
def UM{Q:jG}(D:o9 z TI TO f d n l)(hz:eR s.heap z TI TO .none)(t7:cy s.heap TI (.ref f) (.ref d))(x9:cy s.heap TO a b)(h1:Src s.heap f n k i)(h2:Src s.heap d l k g)
  (hQ:∀x y,i[k]?=TW x->g[k]?=TW y->∀G,eR G z TI TO (cu s.heap.objs.size)->cy G TO x y->Src G f n (k+1) i->Src G d l (k+1) g->cy G s.heap.objs.size x y->(∀c o,c≠z->c≠TO->c≠f->c≠d->s.heap.get? c=TW o->G.get? c=TW o)->Q (.ref s.heap.objs.size) {s with heap:=G})
  (hE:i[k]?=T2\/g[k]?=T2->A.handled=T2/\∀G e,(∀c o,c≠z->c≠TO->c≠f->c≠d->s.heap.get? c=TW o->G.get? c=TW o)->(∃o,G.get? e=TW o/\o.cls=.type "StopIteration")->E (.ref e) {s with heap:=G}):
  ah (ai j w) A (bc.«zip.__next__» ⟨[.ref z],[]⟩) (λfin s'=>∃v,fin=.done (.ret v)/\Q v s') E s:=by
 have L:∀{h:jn}{e:iO}{oe:e6}{f0:iX},eR h z TI TO f0->h.get? e=TW oe->oe.cls=.type "StopIteration"->e≠z:=λhzz cR K q=>by subst q;have V:_=_:=hzz;rw[cR]at V;cases V;injection K with K;exact absurd K (by decide)
 refine iP (m:=iL (.ref z) 2)<|pk hz UV (x:=.bool UF) UV<|iP (m:=iL (.ref z) 3)<|pk hz UV (x:=.ref TI) UV<|iP<|vR t7 UV<|iP (m:=bx<|.ref z) ?_;unfold bx;refine iP<|pk hz UV (x:=.none) UV<|je ?_;simp -iota only[nJ];refine iP<|sL<|iP<|pk hz UV (x:=.ref TO) UV<|iP<|uL hz (by simp) λH ee R=>?_;replace ee:eR H z TI TO .ellipsis:=ee;refine iP ?_;simp -iota only[nf,List.zipIdx_nil,ez,List.forIn_nil];have c1:Src H f n k i:=h1.keep (λo e=>R.extBut _ o D.i1z e) λo e=>R.extBut _ o D.l1z e
 cases hx:i[k]? with
 |none=>obtain⟨hh,hE⟩:=hE<|.inl hx;refine iP<|iP<|zW<|iP (m:=aP<|.ref f)<|c1.stop (s:={s with heap:=H}) hh hx ?_;rintro r e U ⟨oe,cR,K⟩;have M:eR r z TI TO .ellipsis:=U _ _ D.i1z.symm ee;exact uL (s:={s with heap:=r}) M (by simp) λt _ T=>hE t e (λc o O _ d3 _ q=>T.extBut _ _ O (U _ _ d3 (R.extBut _ _ O q))) ⟨oe,T.extBut _ _ (L M cR K) cR,K⟩
 |some x=>
  refine iP<|iP<|zW<|iP (m:=aP<|.ref f)<|c1.item (s:={s with heap:=H}) hx λr X U=>je ?_;have B:cy r TO a b:=U.extBut _ _ D.TOi1 (R.extBut _ _ D.TOz x9);refine iP<|vR (s:={s with heap:=r}) B UV<|iP<|MK (s:={s with heap:=r}) B λt df T=>iP<|Dq<|je ?_;replace df:cy t TO x b:=df;have c2:Src t d l k g:=h2.keep (λo e=>T.extBut _ o D.TOi2.symm (U.extBut _ o D.i12.symm (R.extBut _ o D.i2z e))) λo e=>T.extBut _ o D.l2TO (U.extBut _ o D.l2i1 (R.extBut _ o D.l2z e))
  cases hy:g[k]? with
  |none=>obtain⟨hh,hE⟩:=hE<|.inr hy;refine iP<|iP<|zW<|iP (m:=aP<|.ref d)<|c2.stop (s:={s with heap:=t}) hh hy ?_;rintro u e P ⟨oe,cR,K⟩;have dZ:eR u z TI TO .ellipsis:=P _ _ D.i2z.symm (T.extBut _ _ D.TOz.symm (U.extBut _ _ D.i1z.symm ee));exact uL (s:={s with heap:=u}) dZ (by simp) λp _ F=>hE p e (λc o O d2 d3 d4 q=>F.extBut _ _ O (P _ _ d4 (T.extBut _ _ d2 (U.extBut _ _ d3 (R.extBut _ _ O q))))) ⟨oe,F.extBut _ _ (L dZ cR K) cR,K⟩
  |some y=>
   refine iP<|iP<|zW<|iP (m:=aP<|.ref d)<|c2.item (s:={s with heap:=t}) hy λu c2₄ P=>je ?_;have C:cy u TO x b:=P.extBut _ _ D.TOi2 df;refine iP<|vR (s:={s with heap:=u}) C UV<|iP<|MK (s:={s with heap:=u}) C λp bR F=>iP<|Dq<|je<|je ?_;replace bR:cy p TO x y:=bR;refine iP<|vR (s:={s with heap:=p}) bR UV<|iP<|Dr (s:={s with heap:=p}) ?_;have hsz:p.objs.size=s.heap.objs.size:=by rw[F.1,P.1,T.1,U.1,R.1]
   have N:eR p z TI TO .ellipsis:=F.extBut _ _ D.TOz.symm (P.extBut _ _ D.i2z.symm (T.extBut _ _ D.TOz.symm (U.extBut _ _ D.i1z.symm ee)));have hk₅:∀c o,c≠z->c≠TO->c≠f->c≠d->s.heap.get? c=TW o->p.get? c=TW o:=λc o O d2 d3 d4 e=>F.extBut _ _ d2 (P.extBut _ _ d4 (T.extBut _ _ d2 (U.extBut _ _ d3 (R.extBut _ _ O e))));have Z:Src p f n (k+1) i:=X.keep (λo e=>F.extBut _ o D.TOi1.symm (P.extBut _ o D.i12 (T.extBut _ o D.TOi1.symm e))) λo e=>F.extBut _ o D.l1TO (P.extBut _ o D.l1i2 (T.extBut _ o D.l1TO e));have c2₅:Src p d l (k+1) g:=c2₄.keep (λo e=>F.extBut _ o D.TOi2.symm e) λo e=>F.extBut _ o D.l2TO e;have S:z<p.objs.size:=ki N;refine iP (m:=bw (.ref z)<|.ref p.objs.size) ?_;unfold bw;have hz₆:eR (p.push {cls:=.type "tuple",data:=.seq #[x,y]}) z TI TO .ellipsis:=kb _ N;refine iP<|uL (s:={s with heap:=p.push {cls:=.type "tuple",data:=.seq #[x,y]}}) hz₆ (by simp) λW gu cC=>?_;replace gu:eR W z TI TO (cu p.objs.size):=gu;refine uL (s:={s with heap:=W}) gu (by simp) λI fk Y=>?_;replace fk:eR I z TI TO (cu p.objs.size):=fk;have up:∀c o,c≠z->p.get? c=TW o->I.get? c=TW o:=λc o O e=>Y.extBut _ _ O (cC.extBut _ _ O (kb _ e));have J:cy I p.objs.size x y:=Y.extBut _ _ (pv S) (cC.extBut _ _ (pv S) (kD _ rfl));rw[hsz]at fk J;refine je ⟨_,rfl,?_⟩;show Q (.ref p.objs.size) _;rw[hsz];exact hQ x y hx hy I fk (up _ _ D.TOz bR) (Z.keep (λo e=>up _ o D.i1z e) λo e=>up _ o D.l1z e) (c2₅.keep (λo e=>up _ o D.i2z e) λo e=>up _ o D.l2z e) J λc o O d2 d3 d4 e=>up c o O<|hk₅ c o O d2 d3 d4 e
def As{Q:B9}(D:o9 z TI TO f d n l)(t:eR s.heap z TI TO .none)(J:cy s.heap TI (.ref f) (.ref d))(M:cy s.heap TO a b)(h1:Src s.heap f n k i)(U:Src s.heap d l k g)
  (L:∀x y,i[k]?=Y x->g[k]?=Y y->∀h,eR h z TI TO (cu s.heap.objs.size)->cy h TO x y->Src h f n (k+1) i->Src h d l (k+1) g->cy h s.heap.objs.size x y->(∀c o,c≠z->c≠TO->c≠f->c≠d->s.heap.get? c=Y o->h.get? c=Y o)->Q (Y<|.ref s.heap.objs.size) {s with heap:=h})
  (m:i[k]?=T2\/g[k]?=T2->A.handled=T2/\∀h,(∀c o,c≠z->c≠TO->c≠f->c≠d->s.heap.get? c=Y o->h.get? c=Y o)->Q T2 {s with heap:=h}):
  ah (ai j w) A (cA<|.ref z) Q E s:=by
 have p:s.TypeIs (.ref z) "zip":=⟨_,t,rfl⟩
 unfold cA
 exact iP (rC (tD (name:=bN "__next__") p F.slot_zip_next (pY F.slot_zip_next p F.entry_zip_next
  (UM D t J M h1 U (λx y q r h a1 u v B N H=>je<|L x y q r h a1 u v B N H) λq=>⟨(m q).1,λh e hk ⟨o,G,O⟩=>iP<|xw (T:="StopIteration") (b:=I) ⟨o,G,O⟩ Dm<|je<|(m q).2 _ hk⟩) (F.args_zip_next_1 _))))
end
def QU(j c:iO)(l i:nZ):F0 (bc.«zip.__new__» ⟨[.type "zip",.ref j,.ref c],[]⟩) (λ_ R s=>(s.heap.IsList j l\/s.heap.IsTuple j l)/\(s.heap.IsList c i\/s.heap.IsTuple c i)/\
  ∀h1 a,Src h1 s.heap.objs.size j 0 l->h1.objs.size=s.heap.objs.size+1->(∀b o,s.heap.get? b=Y o->h1.get? b=Y o)->Src a h1.objs.size c 0 i->a.objs.size=h1.objs.size+1->(∀b o,h1.get? b=Y o->a.get? b=Y o)->
   R (.ok<|.ret<|.ref ((a.push {cls:=.type "tuple",data:=.seq #[.ref s.heap.objs.size,.ref h1.objs.size]}).push {cls:=.type "tuple",data:=.seq #[.none,.none]}).objs.size)
    {s with heap:=((a.push {cls:=.type "tuple",data:=.seq #[.ref s.heap.objs.size,.ref h1.objs.size]}).push {cls:=.type "tuple",data:=.seq #[.none,.none]}).push {cls:=.type "zip",data:=.fields #[.none,.bool C,.bool C,.ref a.objs.size,.ref (a.push {cls:=.type "tuple",data:=.seq #[.ref s.heap.objs.size,.ref h1.objs.size]}).objs.size]}}):=
 .of_wp λm w A R s h=>by
  obtain⟨y,g,d,v,os⟩:=s;obtain⟨p,x,h⟩:=h;have z:=sub_zip
  wp_walk using Src.new p
  intro h1 a1 n k
  have f:h1.IsList c i\/h1.IsTuple c i:=by
   rcases x with⟨o,e,r⟩|⟨o,e,r⟩
   .exact .inl ⟨o,k _ _ e,r⟩
   exact .inr ⟨o,k _ _ e,r⟩
  wp_walk using Src.new (s:=⟨h1,g,d,v,os⟩) f
  intro a q t u
  wp_walk
  exact⟨_,rfl,h h1 a a1 n k q t u⟩
def ItZ(c d:Bool)(K:jr)(e f:iO):It:=⟨λi U=>∃a b x y,HS c K U e a/\HS d K U f b/\a[i]?=Y x/\b[i]?=Y y,
 λi U x g=>∃(T:iO)(u v:V),x=.ref T/\U T=J/\g=upd U T (.tup [u,v])/\∀a b,HS c K U e a->HS d K U f b->a[i]?=Y u/\b[i]?=Y v,
 λi U=>∃a b,HS c K U e a/\HS d K U f b/\(VP a<=i\/(VP b)<=i)⟩
structure ZA(z TI TO i1 i2:iO):Prop where
 a1:TI≠z
 a2:TO≠z
 a3:i1≠z
 a4:i2≠z
 a5:TI≠TO
 a6:TI≠i1
 a7:TI≠i2
 a8:TO≠i1
 a9:TO≠i2
 a10:i1≠i2
def wt{b:Bool}{K:jr}{T:Hp}{l:iO}{m:List V}{X:Cx}{c:jK}{p:L2.St}{s:iT}(U:Inv X c p T s)(k:X.K=K)(q:HS b K T l m){h:kW}(i:∀a∈h,ug X c T a):l∉h:=by
 subst k;intro j;have d:=(i l j).1
 have base:∀o,X.K.lookup l=Y o->False:=λo e=>by
  have g:=U.mod.kin l o e;rcases(i l j).2.2.2.1 with z|z
  .exact U.ok.noex l o g z
  have:=(U.ok.bs l o g).1;exact absurd (ki this)<|M7.mpr z
 cases b
 .rcases q with(q|⟨o,q⟩)|⟨o,f,n,e,_⟩
  .rw[d]at q;cases q
  .rw[d]at q;cases q
  exact base o e
 rcases q with(q|⟨o,q⟩)|⟨o,f,n,e,_⟩
 .rw[d]at q;cases q
 .rw[d]at q;cases q
 exact base o e
def afV{P:jq}{w:jk}{K:jr}{Y:kr}{k1}{pos:bn}(b1 b2:Bool)(z TI TO m n J M:iO)(D:ZA z TI TO m n):
  Turn P w K (.Tuple Y k1 pos) (ItZ b1 b2 K J M) [z,TI,TO,m,n] z (λi h=>eR h z TI TO .none/\cy h TI (.ref m) (.ref n)/\(∃a b,cy h TO a b)/\KA b1 h m J i/\KA b2 h n M i) where
 mem:=by simp
 obj:=λi h st a G=>by
  obtain⟨l,p,⟨u,v,C⟩,s1,B⟩:=st;simp at G;rcases G with rfl|rfl|rfl|rfl|rfl
  .exact⟨_,l,λv e=>by have U:hX _=fS v:=e;cases U⟩
  .exact⟨_,p,λv e=>by have U:K2 _ _=fS v:=e;cases U⟩
  .exact⟨_,C,λv e=>by have U:K2 _ _=fS v:=e;cases U⟩
  .exact s1.obj
  exact B.obj
 keep:=λi h h' st k=>by obtain⟨l,p,⟨u,v,C⟩,s1,B⟩:=st;exact⟨k z (by simp) _ l,k TI (by simp) _ p,⟨u,v,k TO (by simp) _ C⟩,s1.keep λo q=>k m (by simp) o q,B.keep λo q=>k n (by simp) o q⟩
 item:=by
  intro X hP hw L hc i A s σ H E I t st hg;obtain⟨l,p,⟨a0,b0,C⟩,s1,B⟩:=st;obtain⟨xs,ys,x,y,T,Q,hx,hy⟩:=hg;have d:=wt I L T t;have f:=wt I L Q t;simp at d f;subst hP hw L;obtain⟨cI,fY,F⟩:=uo I T s1;obtain⟨b8,Z,N⟩:=uo I Q B;obtain⟨u,hu,ru⟩:=fY.get hx;obtain⟨v,hv,rv⟩:=Z.get hy;have AP:o9 z TI TO m n J M:=⟨D.a1,D.a2,D.a3,D.a4,D.a5,D.a6,D.a7,D.a8,D.a9,D.a10,d.1,d.2.2.1,d.2.2.2.1,d.2.2.2.2,f.1,f.2.2.1,f.2.2.2.1,f.2.2.2.2⟩
  refine As AP l p C F N (λx' y' q r h' z' t1 c1 c2 hT V=>?_) λq=>absurd q (by simp[hu,hv]);obtain rfl:u=x':=by simpa[hu]using q
  obtain rfl:v=y':=by simpa[hv]using r
  refine⟨.ref s.heap.objs.size,rfl,?_⟩;refine wpAny_letOwnedTupleGo_zip (s:={s with heap:=h'}) z' λO z'' j=>?_;replace j:aE z h' O:=j
  have W:∀a o,a∉[z,TI,TO,m,n]->s.heap.get? a=TW o->O.get? a=TW o:=λa o g q=>by simp at g;exact j.extBut a o g.1<|V a o g.1 g.2.2.1 g.2.2.2.1 g.2.2.2.2 q
  have lt:∀{c o},s.heap.get? c=TW o->s.heap.objs.size≠c:=λe=>pv<|ki e;have dg:cy O s.heap.objs.size u v:=j.extBut _ _ (lt l) hT
  have I1:Inv X A σ (upd H s.heap.objs.size<|.tup [x,y]) {s with heap:=O}:=
   Cc (t':=s.toks) I t W (kg _) (show AA X.prog X.w _ _ _ (.tup [x,y])from⟨by show 2<=sizeLine;decide,[u,v],.cons ru<|.cons rv .nil,_,dg,rfl,0,rfl⟩)
  have R:KA b1 O m J (i+1):=Ie s1 F (c1.keep (λo q=>j.extBut _ o D.a3 q) λo q=>j.extBut _ o d.1 q) λo q=>W J o (by simp;exact d) q;have S:KA b2 O n M (i+1):=Ie B N (c2.keep (λo q=>j.extBut _ o D.a4 q) λo q=>j.extBut _ o f.1 q) λo q=>W M o (by simp;exact f) q;refine⟨.ref s.heap.objs.size,_,I1,rfl,⟨_,x,y,rfl,I.fresh,rfl,λdu ys' q1 q2=>by rw[DP I q1 T,DP I q2 Q];exact⟨hx,hy⟩⟩,⟨z'',j.extBut _ _ D.a1 (V _ _ D.a1 D.a5 D.a6 D.a7 p),⟨u,v,j.extBut _ _ D.a2 t1⟩,R,S⟩,λa G=>?_⟩;have n0:=(t a G).1;rw[jx]
  .exact n0
  intro e;simp at G;rcases G with rfl|rfl|rfl|rfl|rfl
  .exact lt l e.symm
  .exact lt p e.symm
  .exact lt C e.symm
  .exact absurd e (kI F.lt.1)
  exact absurd e (kI N.lt.1)
 done:=by
  intro X hP hw L hc i A s σ H E I t st hg;obtain⟨l,p,⟨a0,b0,C⟩,s1,B⟩:=st;obtain⟨xs,ys,T,Q,hend⟩:=hg;have d:=wt I L T t;have f:=wt I L Q t;simp at d f;subst hP hw L;obtain⟨cI,fY,F⟩:=uo I T s1;obtain⟨b8,Z,N⟩:=uo I Q B;have e1:=fY.length;have e2:=Z.length;have AP:o9 z TI TO m n J M:=⟨D.a1,D.a2,D.a3,D.a4,D.a5,D.a6,D.a7,D.a8,D.a9,D.a10,d.1,d.2.2.1,d.2.2.2.1,d.2.2.2.2,f.1,f.2.2.1,f.2.2.2.1,f.2.2.2.2⟩
  refine As AP l p C F N (λx y q r=>?_) λ_=>⟨I.ok.hd hc,λh' V=>⟨rfl,Cd (t':=s.toks) I t λa o g q=>?_⟩⟩
  .have z1:=(Kw.mp q).1;have z2:=(Kw.mp r).1;simp at z1 z2;omega
  simp at g;exact V a o g.1 g.2.2.1 g.2.2.2.1 g.2.2.2.2 q
 self:=λ_ _ _ _ _ st h=>u7 st.1 h
def Ph{K:jr}{P O:AB}{g:Hp}{a1 m:iO}{f h:List V}{t A:List D}{r s:Bool}(k:ID r K g P a1 f)(I:YP K g O t f)(l:ID s K g P m h)(L:YP K g O A h)(B:∀a,P a->O a):
  KY K (ItZ r s K a1 m) ((t.zip A).map λp=>.tup [p.1,p.2]) P O g:=by
 have sq:∀{b:Bool}{a:iO}{f:List V},ID b K g P a f->∀Hi,(∀a o,g a=TW o->¬P a->Hi a=TW o)->HS b K Hi a f:=λq Hi c=>An<|q.mono c λ_ z=>z;refine⟨λi d Hi hd c=>?_,λi Hi U c=>⟨f,h,sq k Hi c,sq l Hi c,by rw[I.length,L.length];simp at U;lia⟩⟩;rw[kX]at hd;obtain⟨⟨X,Z⟩,h1,J⟩:=jM hd;obtain⟨M,N⟩:=Bz.mp h1;obtain⟨x,E,F⟩:=I.get M;obtain⟨y,H,R⟩:=L.get N;refine⟨⟨f,h,x,y,sq k Hi c,sq l Hi c,E,H⟩,λv S G=>?_⟩;obtain⟨T,u,w,rfl,C,rfl,Y⟩:=G;obtain⟨g1,g2⟩:=Y f h (sq k Hi c)<|sq l Hi c;rw[E]at g1;cases g1;rw[H]at g2;cases g2;have ext:=lM (o:=.tup [x,y]) C;refine⟨ext,λW h1 Q=>?_⟩;subst J;exact Rep.Ip ⟨ju,Q T C⟩<|YP.cons (Rep.mono (λb o e n=>ext b o<|c b o e λz=>n<|B b z) (λb j z=>h1 b j z) F)<|YP.cons (Rep.mono (λb o e n=>ext b o<|c b o e λz=>n<|B b z) (λb j z=>h1 b j z) R) YP.nil
section
variable {X:Cx}{d:kr}{n:Nat}{r:bn}
def Xp:ax "zip"=Y (.type "zip"):=by decide+kernel
def abZ(K:jr)(g:TA):TI:=λk U R=>g k U λh a=>∃e f b c i j,h=[.ref b,.ref c]/\HS e K a b i/\HS f K a c j/\R (ItZ e f K b c) a
def J3(U:Inv X pins σ T s)(f:HS b X.K T l xs)(c:Src s.heap it l i g):KA b s.heap it l i:=by
 cases b
 .rcases c with⟨_,o,h1,e,_⟩|⟨a,_⟩
  .obtain⟨_,_,p,_⟩:=U.tuple f;obtain⟨h,g1,g2,_⟩:=p;rw[h1]at g1;cases g1;rw[e]at g2;injection g2 with g2;exact absurd g2 (by decide)
  exact a
 rcases c with⟨a,_⟩|⟨_,o,h1,e,_⟩
 .exact a
 obtain⟨_,_,p,_⟩:=U.list f;obtain⟨h,g1,g2,_⟩:=p.isList;rw[h1]at g1;cases g1;rw[e]at g2;injection g2 with g2;exact absurd g2 (by decide)
def Wc{a b:iW}{O:TA}{p j:bn}(hg:Gl X "zip")(hm:X.mg "zip"=J)(w:PA X [a,b] O)(hs:ae [a,b] X.env=(C,aX a X.env)::ae [b] X.env)(f9:(aI j<|ae [b] X.env).any (·.1)=C):
  PI X (.Tuple d n r) (.Call (.Name "zip" p) [a,b] [] j) (abZ X.K O):=by
 intro i s0 Q T R A h;refine tE<|rJ A hg hm Xp<|DF (Ak (w j i s0 Q T _ A h) ?_) hs f9;rintro us s ⟨vs,H',I',r1,J',M,E,L,xs,ys,hv,C',B,q⟩;subst hv;obtain⟨u,v,rfl,ru,rv⟩:=uP r1;cases ru;cases rv;obtain⟨D,_,G⟩:=HC I' C';obtain⟨N,_,w5⟩:=HC I' B;refine callType_new F.called_zip (by decide) (F.typeCall_zip_2 _ _) (F.newCall_zip_2 _ _) (λobj=>F.args_object_init_3 obj _ _) F.entry_zip_new (QU E L D.toArray N.toArray) ⟨G,w5,λh1 f U z1 n Y z2 z=>?_⟩;generalize k:({cls:=.type "tuple",data:=.seq #[.ref s.heap.objs.size,.ref h1.objs.size]}:e6)=g;generalize l:({cls:=.type "tuple",data:=.seq #[.none,.none]}:e6)=o4;have z3:(f.push g).objs.size=f.objs.size+1:=qr ..;have z4:((f.push g).push o4).objs.size=f.objs.size+2:=by rw[qr,z3]
 generalize m:({cls:=.type "zip",data:=.fields #[.none,.bool C,.bool C,.ref f.objs.size,.ref (f.push g).objs.size]}:e6)=o5;have Z:(((f.push g).push o4).push o5).get? ((f.push g).push o4).objs.size=TW o5:=kD _ (by rw[<-m];rfl);have W:(((f.push g).push o4).push o5).get? (f.push g).objs.size=TW o4:=kb _ (kD _ (by rw[<-l];rfl));have V:(((f.push g).push o4).push o5).get? f.objs.size=TW g:=kb _ (kb _ (kD _ (by rw[<-k];rfl)));have t:∀c o,f.get? c=TW o->(((f.push g).push o4).push o5).get? c=TW o:=λc o e=>kb _ (kb _ (kb _ e));have y:eR (((f.push g).push o4).push o5) ((f.push g).push o4).objs.size f.objs.size (f.push g).objs.size .none:=by show _=_;rw[Z,<-m]
 have t7:cy (((f.push g).push o4).push o5) f.objs.size (.ref s.heap.objs.size) (.ref h1.objs.size):=by show _=_;rw[V,<-k]
 have x9:cy (((f.push g).push o4).push o5) (f.push g).objs.size .none .none:=by show _=_;rw[W,<-l]
 have x:Inv X i Q H' {s with heap:=((f.push g).push o4).push o5}:=I'.kept (t':=s.toks) λc o e=>t c o<|z c o<|n c o e;have P:=U.keep (h':=((f.push g).push o4).push o5) (λo e=>t _ o (z _ o e)) λo e=>t _ o (z _ o e);have S:=Y.keep (h':=((f.push g).push o4).push o5) (λo e=>t _ o e) λo e=>t _ o e;refine⟨⟨_,y,rfl⟩,u7 (s:={s with heap:=((f.push g).push o4).push o5}) y ?_⟩;refine⟨((f.push g).push o4).objs.size,[((f.push g).push o4).objs.size,f.objs.size,(f.push g).objs.size,s.heap.objs.size,h1.objs.size],_,_,H',rfl,x,afV J' M _ _ _ _ _ E L ⟨?_,?_,?_,?_,?_,?_,?_,?_,?_,?_⟩,⟨y,t7,⟨_,_,x9⟩,J3 x C' P,J3 x B S⟩,λa w=>?_,q⟩
 case refine_11=>
  have le:s.heap.objs.size<=a:=by simp only[nH,pj,sY]at w;rcases w with rfl|rfl|rfl|rfl|rfl<;>lia
  exact I'.KP le<|I'.hok.fresh le
 all_goals lia
def tR(f g:FO):EG:=λδ=>(f δ).bind λp=>(g p.2).bind λq=>(res q.2 p.1).bind λx=>(res q.2 q.1).bind λy=>(uQ x).bind λl=>(uQ y).bind λm=>Y ((l.zip m).map λp=>.tup [p.1,p.2],q.2)
def J6(f g:F):EG:=λa=>(f a).bind λp=>(g p.2).bind λq=>(uQ p.1.1).bind λl=>(uQ q.1.1).bind λm=>Y ((l.zip m).map λp=>.tup [p.1,p.2],q.2)
def Ft{B:SB}{a b:iW}{f g:FO}{p c:bn}(hg:Gl X "zip")(hm:X.mg "zip"=T2)(ha:PO X a f)(hb:PO X b g)(I:OG B f)(L:OG B g)(w:ae [a,b] X.env=(UF,aX a X.env)::ae [b] X.env)(G:ae [b] X.env=(UF,aX b X.env)::ae [] X.env)(J:(aI c<|ae [b] X.env).any (·.1)=UF):
  LH X B (.Tuple d n r) (.Call (.Name "zip" p) [a,b] [] c) (tR f g):=PI.imp' (Wc hg hm (tN ha (tN hb zv G) w) w J) λσ H R F=>by
 obtain⟨δ,T,ds,δ',E,e,k⟩:=F;obtain⟨K,δ1,h1,e⟩:=iY e;obtain⟨P,t,h,e⟩:=iY e;obtain⟨x,M,e⟩:=iR e;obtain⟨y,N,e⟩:=iR e;obtain⟨l,U,e⟩:=iR e;obtain⟨m,Y,e⟩:=iR e;obtain⟨rfl,rfl⟩:=jw e;dsimp only at h;refine⟨δ,T,[K,P],t,E,?_,λS O T1 W=>?_⟩
 .simp only[kY,h1,h,fK]
 have D:=W.len;rcases S with _|⟨v,_|⟨u,_|⟨_,_⟩⟩⟩<;>try cases D
 obtain⟨a1,V,rfl,A,q⟩:=W.seq E (j:=0) UV UV M U λi o=>I _ _ _ (o▸h1);obtain⟨Q,Z,rfl,C,s⟩:=W.seq E (j:=1) UV UV N Y λi o=>L _ _ _ (o▸h);exact⟨_,_,a1,Q,V,Z,rfl,An A,An C,k _ O W.keep (W.er.mono (λ_ _ e _=>e) (λb _ z=>W.tt b z) λa z=>W.er.dom a<|W.tt a z) (Ph A q C s λa z=>z.own)⟩
end
end PX
namespace TS
def Ask(M:gi)(A:jm)(G:Shared->Prop)(it:Nat->eS)(d:q7)(N:Nat)(lt:Nat->Nat->Bool):Prop:= ∀i j,i<N->j<N->∀s,G s->∀a,ah M A (G0 d (it i).1 (it j).1) (λb c=>G c/\b=lt i j) a s
structure Cs where
 M:gi
 A:jm
 E:iX->Shared->Prop
 G:Shared->Prop
 it:Nat->eS
 lt:Nat->Nat->Bool
 κ:q7
 N:Nat
 as:∀i j,lt i j=Uf->lt j i=UF
 tr:∀{i j k},lt j i=UF->lt k j=UF->lt k i=UF
 ask:Ask M A G it κ N lt
section
variable {X:Cs}{α β:Type}{f:α->StateT sA dW β}{Q:β->sA->Prop}{st:sA}
def wp(X:Cs){α:Type}(m:StateT sA dW α)(Q:α->sA->Prop)(st:sA):Prop:= ∀s,X.G s->ah X.M X.A (m.run st) (λr a=>X.G a/\Q r.1 r.2) X.E s
def jc{a:β}(h:Q a st):wp X (pure a) Q st:=λs g=>by rw[G4];exact je ⟨g,h⟩
def kT{m:StateT sA dW α}(h:wp X m (λa c=>wp X (f a) Q c) st):wp X (m>>=f) Q st:=λs g=>by rw[StateT.run_bind];exact iP<|nX (h s g) (λr d b=>b.2 d b.1) λ_ _ e=>e
def IQ{m:StateT sA dW α}{Q b:α->sA->Prop}(h:wp X m Q st)(i:∀a c,Q a c->b a c):wp X m b st:=λs g=>nX (h s g) (λr _ d=>⟨d.1,i _ _ d.2⟩) λ_ _ e=>e
def jN{c:Prop}[Decidable c]{t e:StateT sA dW β}(h1:c->wp X t Q st)(a: ¬c->wp X e Q st):wp X (if c then t else e) Q st:=by split<;>simp_all
def pB{f:sA->StateT sA dW β}(h:wp X (f st) Q st):wp X (get>>=f) Q st:=kT λs g=>by rw[StateT.run_get];exact je ⟨g,h⟩
def vz{g:sA->sA}{f:PUnit->StateT sA dW β}(h:wp X (f ⟨⟩) Q (g st)):wp X (modify g>>=f) Q st:=kT λs g=>by rw[StateT.run_modify];exact je ⟨g,h⟩
def IS{m:dW α}(h:∀s,X.G s->ah X.M X.A m (λa b=>X.G b/\wp X (f a) Q st) X.E s):wp X (liftM m>>=f) Q st:=kT λs g=>by show ah X.M X.A ((StateT.lift m:StateT sA dW α).run st) _ X.E s;rw[StateT.run_lift];exact iP<|nX (h s g) (λa b c=>je c) λ_ _ e=>e
def ui{x:String}{f:Unit->StateT sA dW β}(h:wp X (f ()) Q st):wp X (liftM (rule x)>>=f) Q st:=IS λs g=>sL ⟨g,h⟩
def Q7{e:Nat}{g:Nat->α->StateT sA dW (ForInStep α)}{U:Nat->α->sA->Prop}{T:α->sA->Prop}
  (m:∀i c st,i<e->U i c st->wp X (g i c) (λr b=>match r with|.done d=>T d b|.yield d=>U (i+1) d b) st)(l:∀c st,U e c st->T c st):
  ∀(n a:Nat)(c:α)(st:sA),a+n=e->U a c st->wp X (forIn (bG a n 1) c g) T st:=by
 intro p
 induction p with
 |zero=>intro a c st rfl h;exact jc<|l _ _ h
 |succ n o=>
  intro a c st q h;rw[zV,ez];refine kT<|IQ (m a c st (by lia) h) λr b k=>?_
  cases r with
  |done j=>exact jc k
  |yield j=>exact o _ j b (by lia) k
def mY{g:Nat->α->StateT sA dW (ForInStep α)}(U:Nat->α->sA->Prop)(T:α->sA->Prop){a b:Nat}{c:α}(h:U a c st)
  (l:∀i c st,i<a+(b-a)->U i c st->wp X (g i c) (λr e=>match r with|.done d=>T d e|.yield d=>U (i+1) d e) st)
  (j:∀c st,U (a+(b-a)) c st->T c st)(k:∀c st,T c st->wp X (f c) Q st):wp X (forIn [a:b] c g>>=f) Q st:=by
 refine kT<|IQ ?_ k;rw[Std.Legacy.Range.forIn_eq_forIn_range'];exact Q7 l j _ _ _ _ (by simp) h
noncomputable abbrev ar(X:Cs)(l:jX):Array Keyed:=(l.map X.it).toArray
def mF{l:jX}{i x:Nat}{f:eS->StateT sA dW β}(e:l[i]?=Y x)(h:wp X (f<|X.it x) Q st):wp X (elem' (ar X l) i>>=f) Q st:=kT (by rw[elem'_eq,show(ar X l)[i]?=Y (X.it x) by simp[e]];exact jc h)
def EX{i j:Nat}{f:Option Bool->StateT sA dW β}(hk:kindOf st=X.κ)(k:i<X.N)(l:j<X.N)(h:∀b,X.lt i j=b->wp X (f<|Y b) Q st):wp X (lt' (X.it i) (X.it j)>>=f) Q st:=kT (by rw[lt'_eq];refine pB ?_;rw[hk];refine IS λs g=>rC<|nX (X.ask i j k l s g λ_ _=>False) (λb m c=>?_) λe m d=>d.elim;obtain⟨a,rfl⟩:=c;exact⟨a,jc<|h _ rfl⟩)
structure Rp(X:Cs)(q:Array (Nat×Nat×Nat))(L:jX)(st:sA):Prop where
 a:fU st=ar X L
 k:kindOf st=X.κ
 f:gk st=T2
 q:pendingOf st=q
 p:L.Perm (aj X.N)
def Rp.n{q:Array (Nat×Nat×Nat)}{L:jX}(R:Rp X q L st){i x:Nat}(e:L[i]?=Y x):x<X.N:=by simpa using R.p.mem_iff.mp<|mZ e
def EY{q:Array (Nat×Nat×Nat)}{L:jX}(R:Rp X q L st){i j x y:Nat}{f:Option Bool->StateT sA dW β}(c:L[i]?=Y x)(d:L[j]?=Y y)(h:∀b,X.lt x y=b->wp X (f<|Y b) Q st):wp X (ltAt' i j>>=f) Q st:=kT (by rw[ltAt'_eq];refine pB ?_;rw[R.a];exact mF c<|mF d<|by rw[<-bind_pure (lt' _ _)];exact EX R.k (R.n c) (R.n d) λb e=>jc<|h b e)
def adz{α:Type}(T A R:List α){d:Nat}(hd:d=(VP A) / 2):mirror (T++(A++R)).toArray (VP T) (VP T+VP A) d=(T++(A.reverse++R)).toArray:=by
 have hd:d=(VP T+VP A-VP T) / 2:=by lia
 subst hd;apply Array.ext_getElem?;intro k;rw[getElem?_mirror_all<|by simp];simp;by_cases h1:k<VP T
 .rw[jy<|by lia,sd h1,sd h1]
 obtain⟨k,rfl⟩:=Nat.exists_eq_add_of_le<|rc h1;rw[qt (by lia) (l₂:=A.reverse++R),G3];by_cases a:k<VP A
 .rw[jh<|by lia,qt<|by lia,sd<|by lia,sd<|by simpa using a,List.getElem?_reverse a]
  congr 1;lia
 rw[jy<|by lia,qt<|by lia,G3,qt<|by lia,qt<|by simpa using a,MJ]
def adG{α:Type}(R:List α)(x:α):∀(A T:List α){i:Nat},i=VP T+VP A->bubble (T++(A++x::R)).toArray i (VP A)=(T++(x::(A++R))).toArray:=by
 intro c
 induction c with
 |nil=>intro T i h;exact H
 |cons a A b=>
  intro T i h;have:=b (T++[a]) (i:=i) (by simp at h ⊢;lia);rw[oy,bubble_succ,show T++(a::A++x::R)=T++[a]++(A++x::R) by simp,this];have e:i-VP A=VP T+1:=by simp at h;lia
  rw[e,mN];simp[Array.swapIfInBounds]
variable {q:Array (Nat×Nat×Nat)}{T A R:jX}{i j x:Nat}
def Nd{b:B8}{L a:jX}(S:Rp X q L st)(e:b=ar X a)(p:a.Perm L):Rp X q a (setArr st b):=⟨e,S.k,S.f,S.q,p.trans S.p⟩
def Hv{f:Unit->StateT sA dW β}(S:Rp X q (T++(A++R)) st)(c:i=VP T)(e:j=VP T+VP A)(h:∀b,Rp X q (T++(A.reverse++R)) b->wp X (f ()) Q b):wp X (Ls i j>>=f) Q st:=by rw[reverseSlice'_eq];subst c e;refine vz<|h _ (Nd S ?_<|((zU A).append_right R).append_left T);have:=adz (T.map X.it) (A.map X.it) (R.map X.it) (d:=(VP T+VP A-VP T) / 2) (by simp);simpa[ar,S.a]using this
def Vd{f:Unit->StateT sA dW β}(S:Rp X q (T++(A++x::R)) st)(c:i=VP T+VP A)(d:j=VP T)(h:∀b,Rp X q (T++(x::(A++R))) b->wp X (f ()) Q b):wp X (moveDown' i j>>=f) Q st:=by rw[moveDown'_eq];subst c d;refine vz<|h _ (Nd S ?_<|QD.symm.append_left T);have:=adG (R.map X.it) (X.it x) (A.map X.it) (T.map X.it) (i:=VP T+VP A) (by simp);simpa[ar,S.a]using this
end
abbrev Cs.le(X:Cs)(i j:Nat):Prop:=X.lt j i=C
section
variable {X:Cs}{o:Type}{Q:o->sA->Prop}{st:sA}{q:Array (Nat×Nat×Nat)}{T A B D R L:jX}{i j x y:Nat}{r:Nat->Nat->Prop}
def Lb(h:i=VP T+VP A):(T++(A++x::R))[i]?=Y x:=by subst h;simp
def ix1(h:i=VP T+VP A+1):(T++(A++x::y::R))[i]?=Y y:=by subst h;rw[<-pX,qt<|by simp];simp
def Fi(u:D.Pairwise r)(h:∀z∈D,r z y):(D++[y]).Pairwise r:=uh.mpr ⟨u,MI _ _,λa c b d=>IL.mp d▸h a c⟩
def FV(e:∀{a b c},r a b->r b c->r a c)(u:(D++[x]).Pairwise r)(h:r x y):∀z∈D++[x],r z y:=λz d=>by
 rcases rq.mp d with d|d
 .exact e ((uh.mp u).2.2 z d x kx) h
 rw[IL.mp d];exact h
def Ni{g:Nat->Option (Option Nat)×Nat->StateT sA dW (ForInStep<|Option (Option Nat)×Nat)}{f:Option (Option Nat)×Nat->StateT sA dW o}{lo n m:Nat}
  (p:∀i n,g i (J,n)=(ltAt' (lo+n) (lo+n-1)>>=λx=>match x with|some b=>if b=I then pure (.done (J,n))else pure (.yield (J,n+1))|_=>pure<|.done (Y J,n)))
  (S:Rp X q (T++(A++x::R)) st)(v:(VP T)=lo)(t:n=VP A+1)(a:m=n+R.length)(u:(A++[x]).Pairwise X.le)
  (h:∀A x R,Rp X q (T++(A++x::R)) st->m=VP A+1+R.length->(A++[x]).Pairwise X.le->(∀y l,R=y::l->X.lt y x=I)->wp X (f (J,VP A+1)) Q st):wp X (forIn [n:m] (J,n) g>>=f) Q st:=by
 refine mY (λi c s=>s=st/\c=(J,i)/\∃A x R,Rp X q (T++(A++x::R)) st/\i=VP A+1/\m=i+R.length/\(A++[x]).Pairwise X.le)
  (λc s=>s=st/\∃A x R,Rp X q (T++(A++x::R)) st/\c=(J,VP A+1)/\m=VP A+1+R.length/\(A++[x]).Pairwise X.le/\∀y l,R=y::l->X.lt y x=I) ⟨rfl,rfl,A,x,R,S,t,a,u⟩ ?_ ?_ ?_
 .rintro i c s d ⟨rfl,rfl,A,x,R,S,rfl,h1,u⟩;rw[p];obtain⟨y,l,rfl⟩:=sV (l:=R) (by lia);refine EY S (ix1<|by lia) (Lb<|by lia) λb e=>?_
  cases b
  .exact jc ⟨rfl,rfl,A++[x],y,l,by simpa using S,by simp,by simp at h1;lia,Fi u<|FV X.tr u e⟩
  exact jc ⟨rfl,A,x,_,S,rfl,h1,u,λ_ _ k=>by cases k;exact e⟩
 .rintro c s ⟨rfl,rfl,A,x,R,S,d,h1,u⟩;exact⟨rfl,A,x,R,S,by rw[d],by lia,u,λy l e=>by subst e;simp at h1;lia⟩
 rintro c s ⟨rfl,A,x,R,S,rfl,a,u,e⟩;exact h A x R S a u e
def Nf{c:Prop}[Decidable c]{k:StateT sA dW o}(S:Rp X q (T++(A++R)) st)(e:i=VP T)(f:j=VP T+VP A)(d: ¬c->VP A=1)(h:∀b,Rp X q (T++(A.reverse++R)) b->wp X k Q b):wp X (if c then Ls i j>>=λ_=>k else k) Q st:=jN (λ_=>Hv S e f h) λz=>h _ (by obtain⟨a,rfl⟩:=List.length_eq_one_iff.mp<|d z;exact S)
def dnT(d:(A++B).Pairwise λa b=>X.le b a)(u:B.Pairwise X.le):(A++B.reverse).Pairwise λa b=>X.le b a:=by rw[uh]at d ⊢;exact⟨d.1,Ht.mpr u,λa c b e=>d.2.2 a c b<|dJ.mp e⟩
def Cs.rf(X:Cs)(i:Nat):X.le i i:=m7.mpr λh=>n7<|h.symm.trans<|X.as i i h
def T6{k m:StateT sA dW o}(P:sA->Prop)(b:(∀a,P a->wp X k Q a)->wp X m Q st)(hk:∀a,P a->wp X k Q a):wp X m Q st:=b hk
def afR{lo m:Nat}{Q:Option Nat->sA->Prop}(S:Rp X q (T++x::R) st)(p:(VP T)=lo)(f:m=1+R.length)(h:∀A R g,Rp X q (T++(A++R)) g->A≠[]->A.Pairwise X.le->m=VP A+R.length->Q (Y<|VP A) g):wp X (countRun' lo m) Q st:=by
 have fin:∀A x R g,Rp X q (T++(A++x::R)) g->m=VP A+1+R.length->(A++[x]).Pairwise X.le->Q (Y<|VP A+1) g:=λA x R g S f u=>by simpa using h (A++[x]) R g (by simpa using S) (by simp) u (by simpa using f)
 have ge:∀{a b c},X.le b a->X.le c b->X.le c a:=λh1 t=>X.tr t h1;rw[countRun'_eq];dsimp only;refine Ni (λ_ _=>rfl) (A:=[]) S p H f (by simp) λA x R S f u U=>?_;refine jN (λ_=>jc<|fin A x R _ S f u) λO=>?_;obtain⟨y,l,rfl⟩:=sV (l:=R) (by simp at O;lia);apply T6 λg=>Rp X q (T++((A++[x]).reverse++y::l)) g/\∀z∈A++[x],X.le y z
 .intro F;have w:=X.as _ _ (U y l H);refine jN (λh1=>?_) λh1=>F _ ?_
  .obtain⟨a,A,rfl⟩:=sV (l:=A)<|Nat.lt_of_succ_lt_succ h1;refine EY S (x:=a) (y:=x) (Lb (A:=[])<|by simpa using p.symm) (Lb<|by simp;lia) λb e=>?_
   cases b
   .refine Hv (A:=a::A++[x]) (by simpa using S) p.symm (by simp;lia) λg n=>F _ ⟨n,λz k=>X.tr (X.tr w e) ?_⟩;rcases nH.mp k with rfl|k
    .exact X.rf _
    exact(EU.mp u).1 z k
   exact jc<|fin _ x _ _ S f u
  obtain rfl:=zT (l:=A) (by simpa using h1);exact⟨S,by simpa using w⟩
 rintro st ⟨S,d⟩;have t:(VP A)+2<=m:=by simp at f;lia
 dsimp only
 refine ui (mY (λi c s=>∃N B x R,c=(J,i,VP B)/\Rp X q (T++(N++(B++x::R))) s/\i=VP N+VP B+1/\m=i+R.length/\(N++(B++[x])).Pairwise (λa b=>X.le b a)/\(B++[x]).Pairwise X.le)
  (λc s=>∃N B x R,c=(J,VP N+VP B+1,VP B)/\Rp X q (T++(N++(B++x::R))) s/\m=VP N+VP B+1+R.length/\(N++(B++[x])).Pairwise (λa b=>X.le b a)/\(B++[x]).Pairwise X.le) ⟨(A++[x]).reverse,[],y,l,rfl,S,by simp,by simp at f ⊢;lia,?_,by simp⟩ ?_ ?_ ?_)
 .exact Fi (Ht.mpr u) λz k=>d z<|dJ.mp k
 .rintro i c s v ⟨N,B,x,R,rfl,S,rfl,f,d,u⟩;obtain⟨y,l,rfl⟩:=sV (l:=R) (by lia);rw[<-pX]at S;refine EY S (ix1<|by simp;lia) (Lb<|by simp;lia) λb e=>?_
  cases b
  .refine EY S (Lb<|by simp;lia) (ix1<|by simp;lia) λb M=>?_
   cases b
   .refine jc ⟨N,B++[x],y,l,by simp,by simpa using S,by simp;lia,by simp at f;lia,?_,Fi u<|FV X.tr u e⟩;rw[<-pX]at d ⊢;rw[<-pX];exact Fi d<|FV (r:=λa b=>X.le b a) ge d M
   exact jc ⟨N,B,x,_,rfl,by simpa using S,f,d,u⟩
  refine Nf (T:=T++N) (A:=B++[x]) (by simpa using S) (by simp;lia) (by simp;lia) (λz=>by simp at z ⊢;exact z) λg n=>jc ⟨N++(B++[x]).reverse,[],y,l,rfl,by simpa using n,by simp;lia,by simp at f;lia,Fi (dnT d u) λz k=>?_,by simp⟩;rw[<-pX]at d;exact FV (r:=λa b=>X.le b a) ge d (X.as _ _ e) z (by simpa[or_comm]using k)
 .rintro c s ⟨N,B,x,R,rfl,S,v,f,d,u⟩;exact⟨N,B,x,R,by rw[v],S,by lia,d,u⟩
 rintro c s ⟨N,B,x,R,rfl,S,f,d,u⟩;refine Nf (T:=T++N) (A:=B++[x]) (by simpa using S) (by simp;lia) (by simp;lia) (λz=>by simp at z ⊢;exact z) λg n=>?_;refine Hv (T:=T) (A:=N++(B++[x]).reverse) (by simpa using n) p.symm (by simp;lia) λg n=>?_;have u:=Ht.mpr<|dnT d u;rcases Dl (N++(B++[x]).reverse).reverse with e|⟨E,G,e⟩
 .simp at e
 rw[e,G2]at n u;have k:=oA cZ e;simp at k;exact Ni (λ_ _=>rfl) (A:=E) (x:=G) (R:=R) (by simpa using n) p (by dsimp only;lia) (by dsimp only;lia) u λA x R S f u _=>jc<|fin A x R _ S f u
end
section
variable {X:Cs}{g:Type}{Q:g->sA->Prop}{st:sA}{q:Array (Nat×Nat×Nat)}{T A B D R L:jX}{i j x y:Nat}{p:Nat->Bool}
abbrev Mo(X:Cs)(p:Nat->Bool):Prop:= ∀a b,X.le a b->p b=I->p a=I
abbrev Lo(p:Nat->Bool)(A:jX)(a:Nat):Prop:= ∀i,i<a->p (A.getD i 0)=I
abbrev Hi(p:Nat->Bool)(A:jX)(a:Nat):Prop:= ∀i,a<=i->i<VP A->p (A.getD i 0)=C
def ON:Mo X λz=>!X.lt x z:=λa b h c=>by simp at c ⊢;exact X.tr h c
def ZG:Mo X λz=>X.lt z x:=λa b h c=>by
 cases e:X.lt a x
 .exact n7<|(X.tr e h).symm.trans c
 exact e
def upD(u:A.Pairwise X.le)(b:i<=j)(h:j<VP A):X.le (A.getD i 0) (A.getD j 0):=by
 have a:i<(VP A):=by lia
 simp only[pV,lq h,lq a];rcases mL b with e|rfl
 .exact Qz.mp u i j a h e
 exact X.rf _
def FP(u:A.Pairwise X.le)(m:Mo X p)(h:i<VP A)(e:p (A.getD i 0)=I):Lo p A (i+1):=λj a=>m _ _ (upD u (by lia) h) e
def FY(u:A.Pairwise X.le)(m:Mo X p)(e:p (A.getD i 0)=C):Hi p A i:=λj a h=>by
 cases c:p (A.getD j 0)with
 |false=>rfl
 |true=>exact(m _ _ (upD u a h) c).symm.trans e
def JS(h:Lo p A i):∀z∈A.take i,p z=I:=λz a=>by obtain⟨k,hk,rfl⟩:=zS a;have hk:=se▸hk;have:=h k (by lia);simpa[show k<(VP A) by lia]using this
def J7(h:Hi p A i):∀z∈A.drop i,p z=C:=λz a=>by obtain⟨k,hk,rfl⟩:=zS a;simp at hk;have:=h (i+k) (by lia) (by lia);simpa[show i+k<(VP A) by lia]using this
def ixD(a:(VP T)=j)(h:i<VP A):(T++(A++R))[j+i]?=Y (A.getD i 0):=by subst a;rw[qt<|by lia,G3,sd h];simp[h]
def abX(u:A.Pairwise X.le)(h1:∀z∈A.take i,(!X.lt y z)=I)(e:∀z∈A.drop i,(!X.lt y z)=C):(A.take i++y::A.drop i).Pairwise X.le:=by
 rw[<-sU i A,uh]at u;refine uh.mpr ⟨u.1,EU.mpr ⟨λz f=>X.as _ _ (by simpa using e z f),u.2.1⟩,λa d b c=>?_⟩;rcases nH.mp c with rfl|c
 .simpa using h1 a d
 exact u.2.2 a d b c
def Ve{lo n k:Nat}{Q:Bool->sA->Prop}(S:Rp X q (T++(A++R)) st)(M:(VP T)=lo)(E:(VP A)=k)(O:0<k)(o:n<=k+R.length)(hk:k<=n)(u:A.Pairwise X.le)
  (h:∀A R w,Rp X q (T++(A++R)) w->VP A=n->A.Pairwise X.le->Q I w):wp X (binarySort' lo n k) Q st:=by
 rw[binarySort'_eq,show max k 1=k by lia];dsimp only;refine mY (λk c s=>c=(J,())/\∃A R,Rp X q (T++(A++R)) s/\(VP A)=k/\A.Pairwise X.le/\n<=k+R.length) (λc s=>c=(J,())/\∃A R,Rp X q (T++(A++R)) s/\(VP A)=n/\A.Pairwise X.le) ⟨rfl,A,R,S,E,u,o⟩ ?_ ?_ ?_
 .rintro k c s m ⟨rfl,A,R,S,rfl,u,o⟩;obtain⟨y,l,rfl⟩:=sV (l:=R) (by lia)
  refine mY (λi c r=>r=s/\∃a b,c=(J,a,b)/\a<=b/\b<=VP A/\b<=a+(VP A-i)/\Lo (λz=>!X.lt y z) A a/\Hi (λz=>!X.lt y z) A b)
   (λc r=>r=s/\∃a b,c=(J,a,b)/\a<=VP A/\Lo (λz=>!X.lt y z) A a/\Hi (λz=>!X.lt y z) A a) ⟨rfl,0,VP A,rfl,by lia,by lia,by lia,λi h=>by lia,λi h U=>by lia⟩ ?_ ?_ ?_
  .rintro i c _ m ⟨rfl,a,b,rfl,h1,t,v,d,f⟩;dsimp only;refine jN (λe=>jc ⟨rfl,a,b,rfl,by lia,d,(show a=b by lia)▸f⟩) λe=>?_;refine EY S (Lb<|by lia) (ixD M<|by lia) λc e=>?_
   cases c
   .exact jc ⟨rfl,_,b,rfl,by lia,by lia,by lia,FP u ON (by lia)<|by rw[e];rfl,f⟩
   exact jc ⟨rfl,a,_,rfl,by lia,by lia,by lia,d,FY u ON<|by rw[e];rfl⟩
  .rintro c _ ⟨rfl,a,b,rfl,h1,t,v,d,f⟩;exact⟨rfl,a,b,rfl,by lia,d,(show a=b by lia)▸f⟩
  rintro c _ ⟨rfl,a,b,rfl,h1,t,v⟩;refine Vd (T:=T++A.take a) (A:=A.drop a) (by rw[pX,<-pX (A.take a),sU];exact S) (by simp;lia) (by simp;lia) λr N=>jc ⟨rfl,A.take a++y::A.drop a,l,by simpa using N,by simp;lia,abX u (JS t)<|J7 v,by simp at o;lia⟩
 .rintro c s ⟨rfl,A,R,S,m,u,o⟩;exact⟨rfl,A,R,S,by lia,u⟩
 rintro c s ⟨rfl,A,R,S,m,u⟩;exact jc<|h A R s S m u
noncomputable def SV:Bool->eS->Array eS->Nat->Nat->Nat->StateT sA dW (Option Nat):=sortPriv%PySem.Builtin.gallop
noncomputable def af9:Array eS->Array eS->StateT sA dW (Array eS):=sortPriv%PySem.Builtin.mergeLo
noncomputable def aga:Array eS->Array eS->StateT sA dW (Array eS):=sortPriv%PySem.Builtin.mergeHi
noncomputable def Rl:Nat->StateT sA dW Unit:=sortPriv%PySem.Builtin.setMinGallop
def YL{k:Nat->Nat->StateT sA dW g}{m:StateT sA dW g}(P:Nat->Nat->Prop)(c:(∀a b,P a b->wp X (k a b) Q st)->wp X m Q st)(hk:∀a b,P a b->wp X (k a b) Q st):wp X m Q st:=c hk
noncomputable abbrev gp(X:Cs)(left:Bool)(x z:Nat):Bool:=if left=I then X.lt z x else !X.lt x z
def DL{left:Bool}{base:Nat}{f:Option Bool->StateT sA dW g}(hk:kindOf st=X.κ)(k:∀z∈A,z<X.N)(c:x<X.N)(l:(VP T)=base)(a:i<VP A)(h:∀b,gp X left x (A.getD i 0)=b->wp X (f<|Y b) Q st):
  wp X ((elem' (ar X<|T++(A++R)) (base+i)>>=λz=>if left=I then lt' z (X.it x)else lt' (X.it x) z>>=λr=>pure<|u4 (λx=>!x) r)>>=f) Q st:=by
 have d:A.getD i 0<X.N:=k _ (by simp[a]);refine kT<|mF (ixD l a) ?_
 cases left
 .exact EX hk c d λb e=>jc<|h (!b)<|oA not e
 rw[jh H,<-bind_pure (lt' _ _)];exact EX hk d c λb e=>jc<|h b e
def xX{left:Bool}{base n hint:Nat}{Q:Option Nat->sA->Prop}(hk:kindOf st=X.κ)(t:∀z∈A,z<X.N)(w:x<X.N)(u:A.Pairwise X.le)(G:L=T++(A++R))(v:(VP T)=base)(H:(VP A)=n)(C:hint<n)
  (h:∀r,r<=n->(∀z∈A.take r,gp X left x z=I)->(∀z∈A.drop r,gp X left x z=UF)->Q (Y r) st):wp X (SV left (X.it x) (ar X L) base n hint) Q st:=by
 subst G
 have m:Mo X (gp X left x):=by
  cases left
  .exact ON
  exact ZG
 apply YL λa b=>a<=b/\b<=n/\Lo (gp X left x) A a/\Hi (gp X left x) A b
 .intro F;refine DL hk t w v (H▸C) λb e=>?_;refine jN (λz=>?_) λz=>?_
  .subst z
   refine mY (λi c s=>st=s/\∃a b,c=(T2,a,b)/\a<b/\i<b/\hint+a<n/\Lo (gp X left x) A (hint+a+1)) (λc s=>st=s/\∃a b,c=(T2,a,b)/\a<b/\hint+a<n/\Lo (gp X left x) A (hint+a+1)/\(n-hint<=b\/Hi (gp X left x) A (hint+b)))
    ⟨rfl,0,1,rfl,by lia,by lia,C,FP u m (H▸C) e⟩ ?_ ?_ ?_
   .rintro i c _ E ⟨rfl,a,b,rfl,h1,o,l,f⟩;dsimp only;refine jN (λz=>jc ⟨rfl,a,b,rfl,h1,l,f,.inl z⟩) λz=>DL hk t w v (by lia) λc e=>?_
    cases c
    .exact jc ⟨rfl,a,b,rfl,h1,l,f,.inr<|FY u m e⟩
    exact jc ⟨rfl,_,_,rfl,by lia,by lia,by lia,FP u m (by lia) e⟩
   .rintro c _ ⟨rfl,a,b,rfl,h1,o,l,f⟩;exact⟨rfl,a,b,rfl,h1,l,f,.inl<|by lia⟩
   rintro c _ ⟨rfl,a,b,rfl,h1,l,f,k⟩;dsimp only;generalize U:hint+a+1=c at*;generalize O:hint+min b (n-hint)=d;refine F c d ⟨by lia,by lia,f,λi J M=>?_⟩;rcases k with k|k
   .lia
   exact k i (by lia) M
  refine mY (λi c s=>st=s/\∃a b,c=(T2,a,b)/\a<b/\i<b/\a<=hint/\Hi (gp X left x) A (hint-a)) (λc s=>st=s/\∃a b,c=(T2,a,b)/\a<b/\a<=hint/\Hi (gp X left x) A (hint-a)/\(hint<b\/Lo (gp X left x) A (hint-b+1)))
   ⟨rfl,0,1,rfl,by lia,by lia,by lia,FY u m<|by simpa[z]using e⟩ ?_ ?_ ?_
  .rintro i c _ E ⟨rfl,a,b,rfl,h1,o,l,f⟩;dsimp only;refine jN (λz=>jc ⟨rfl,a,b,rfl,h1,l,f,.inl z⟩) λz=>DL hk t w v (by lia) λc e=>?_
   cases c
   .exact jc ⟨rfl,_,_,rfl,by lia,by lia,by lia,FY u m e⟩
   exact jc ⟨rfl,a,b,rfl,h1,l,f,.inr<|FP u m (by lia) e⟩
  .rintro c _ ⟨rfl,a,b,rfl,h1,o,l,f⟩;exact⟨rfl,a,b,rfl,h1,l,f,.inl<|by lia⟩
  rintro c _ ⟨rfl,a,b,rfl,h1,l,f,k⟩;dsimp only;generalize O:hint-a=d at*;generalize U:hint+1-min b (hint+1)=c;refine F c d ⟨by lia,by lia,λi J=>?_,f⟩;rcases k with k|k
  .lia
  exact k i (by lia)
 rintro a b ⟨h1,o,l,f⟩;refine mY (λi c s=>st=s/\∃a b,c=(T2,a,b)/\a<=b/\b<=n/\b<=a+(n-i)/\Lo (gp X left x) A a/\Hi (gp X left x) A b) (λc s=>st=s/\∃a,c=(T2,a,a)/\a<=n/\Lo (gp X left x) A a/\Hi (gp X left x) A a) ⟨rfl,a,b,rfl,h1,o,by lia,l,f⟩ ?_ ?_ ?_
 .rintro i c _ E ⟨rfl,a,b,rfl,h1,o,l,f,k⟩;refine jN (λz=>?_) λz=>DL hk t w v (by dsimp only at z ⊢;lia) λc e=>?_
  .have:a=b:=by dsimp only at z;lia
   subst this;exact jc ⟨rfl,a,rfl,o,f,k⟩
  dsimp only at z
  cases c
  .exact jc ⟨rfl,a,_,rfl,by dsimp only;lia,by dsimp only;lia,by dsimp only;lia,f,FY u m e⟩
  exact jc ⟨rfl,_,b,rfl,by dsimp only;lia,o,by dsimp only;lia,FP u m (by dsimp only;lia) e,k⟩
 .rintro c _ ⟨rfl,a,b,rfl,h1,o,l,f,k⟩;have:a=b:=by lia
  subst this;exact⟨rfl,a,rfl,o,f,k⟩
 rintro c _ ⟨rfl,a,rfl,o,f,k⟩;exact jc<|h a o (JS f)<|J7 k
end
section
variable {X:Cs}{β:Type}{Q:β->sA->Prop}{st:sA}{pq:Array (Nat×Nat×Nat)}{q r L Z a b o k:jX}{i j x y:Nat}{le:Nat->Nat->Prop}{out:B8}
structure MG(le:Nat->Nat->Prop)(Z a b o:jX):Prop where
 s:o.Pairwise le
 c:∀x∈o,∀y∈a++b,le x y
 p:(o++(a++b)).Perm Z
 ua:a.Pairwise le
 ub:b.Pairwise le
def MG.put(m:MG le Z (k++a) b o)(h:∀x∈k,∀y∈b,le x y):MG le Z a b (o++k):=by
 have f:=uh.mp m.ua;refine⟨uh.mpr ⟨m.s,f.1,λx e y d=>m.c x e y<|by simp[d]⟩,λx e y d=>?_,by simpa using m.p,f.2.1,m.ub⟩;rcases rq.mp e with e|e
 .refine m.c x e y ?_;simp at d ⊢;exact .inr d
 rcases rq.mp d with d|d
 .exact f.2.2 x e y d
 exact h x e y d
def Mg(X:Cs)(le:Nat->Nat->Prop)(Z a b:jX)(out:B8):Prop:= ∃o,out=ar X o/\MG le Z a b o
def Rs(X:Cs)(Z:jX)(out:B8):Prop:= ∃o,out=ar X o/\o.Pairwise X.le/\o.Perm Z
def Mg.sw(m:Mg X le Z a b out):Mg X le Z b a out:=by obtain⟨o,e,m⟩:=m;exact⟨o,e,m.s,λx d y f=>m.c x d y<|by simpa[or_comm]using f,(T4.append_left o).trans m.p,m.ub,m.ua⟩
def Mg.put(m:Mg X le Z a b out){a':jX}{c:B8}(e:a=k++a')(h:∀x∈k,∀y∈b,le x y)(d:c=out++ar X k):Mg X le Z a' b c:=by obtain⟨o,rfl,m⟩:=m;exact⟨o++k,by simpa[ar]using d,(e▸m).put h⟩
def Mg.a1(m:Mg X le Z (q.drop i) b out)(c:i<VP q)(h:∀y∈b,le q[i] y):Mg X le Z (q.drop<|i+1) b (out.push<|X.it q[i]):=m.put (k:=[q[i]]) (xD c) (by simpa using h) (by simp[ar])
def Mg.ak(m:Mg X le Z (q.drop i) b out)(h:∀x∈(q.drop i).take j,∀y∈b,le x y):Mg X le Z (q.drop<|i+j) b (out++(ar X q).extract i (i+j)):=m.put (by rw[<-List.drop_drop,sU]) h (by simp[ar])
def Mg.fin(m:Mg X X.le Z (q.drop i) (r.drop j) out)(h:∀x∈q.drop i,∀y∈r.drop j,X.le x y):Rs X Z (out++(ar X q).extract i (ar X q).size++(ar X r).extract j (ar X r).size):=by obtain⟨o,e,m⟩:=((m.put (k:=q.drop i) (a':=[]) (by simp) h H).sw).put (k:=r.drop j) (a':=[]) (by simp) (by simp) H;exact⟨o,by rw[<-e];simp[ar,zQ],m.s,by simpa using m.p⟩
def Mg.end(m:Mg X X.le Z (q.drop i) (r.drop j) out)(h:(VP q)<=i\/(VP r)<=j):Rs X Z (out++(ar X q).extract i (ar X q).size++(ar X r).extract j (ar X r).size):=m.fin λx c y d=>by
 rcases h with h|h
 .rw[zZ h]at c;cases c
 rw[zZ h]at d;cases d
def Mg.hd(m:Mg X le Z (q.drop i) b out)(f:∀{a b c},le a b->le b c->le a c)(e:i<VP q)(h:le x q[i]):∀y∈q.drop i,le x y:=λy d=>by
 obtain⟨o,_,m⟩:=m;have:=m.ua;rw[xD e]at this d;rcases nH.mp d with rfl|d
 .exact h
 exact f h ((EU.mp this).1 y d)
def NA{P:d->Prop}{f:α->β->d}{U:α->β->Prop}{c:d}(x:∃a b,c=f a b/\U a b)(h:∀a b,U a b->P (f a b)):P c:=by obtain⟨_,_,rfl,i⟩:=x;exact h _ _ i
def eX4{P:g->Prop}{f:α->β->l->ε->g}{U:α->β->l->ε->Prop}{c:g}(x:∃a b d e,c=f a b d e/\U a b d e)(h:∀a b c d,U a b c d->P (f a b c d)):P c:=by obtain⟨_,_,_,_,rfl,i⟩:=x;exact h _ _ _ _ i
def Oo{P:l->Prop}{f:α->β->m->ε->ζ->l}{U:α->β->m->ε->ζ->Prop}{c:l}(x:∃a b d e g,c=f a b d e g/\U a b d e g)(h:∀a b c d e,U a b c d e->P (f a b c d e)):P c:=by obtain⟨_,_,_,_,_,rfl,i⟩:=x;exact h _ _ _ _ _ i
def Om{P:l->Prop}{f:α->β->m->ε->ζ->η->l}{U:α->β->m->ε->ζ->η->Prop}{c:l}(x:∃a b d e g k,c=f a b d e g k/\U a b d e g k)(h:∀a b c d e g,U a b c d e g->P (f a b c d e g)):P c:=by obtain⟨_,_,_,_,_,_,rfl,i⟩:=x;exact h _ _ _ _ _ _ i
def NF{a b c d e P:Prop}(h:a->b->c->d->e->P)(x:a/\b/\c/\d/\e):P:=h x.1 x.2.1 x.2.2.1 x.2.2.2.1 x.2.2.2.2
def DK{f:Unit->StateT sA dW β}{n:Nat}(S:Rp X pq L st)(h:∀c,Rp X pq L c->wp X (f ()) Q c):wp X (Rl n>>=f) Q st:=vz (g:=λs=>SortSt.mk' (kindOf s) (fU s) (pendingOf s) n<|gk s)<|h _ ⟨S.a,S.k,S.f,S.q,S.p⟩
def IT{e:Type}{k:e->Nat->StateT sA dW β}{m:StateT sA dW β}(P:e->Nat->sA->Prop)(f:(∀c n d,P c n d->wp X (k c n) Q d)->wp X m Q st)(hk:∀c n d,P c n d->wp X (k c n) Q d):wp X m Q st:=f hk
def Ng{k:Nat->StateT sA dW β}{m:StateT sA dW β}(P:Nat->sA->Prop)(d:(∀n c,P n c->wp X (k n) Q c)->wp X m Q st)(hk:∀n c,P n c->wp X (k n) Q c):wp X m Q st:=d hk
def YK{Q:Array eS->sA->Prop}(S:Rp X pq L st)(u1:q.Pairwise X.le)(u2:r.Pairwise X.le)(J:∀z∈q,z<X.N)(M:∀z∈r,z<X.N)(h1:0<VP q)(h2:0<VP r)(hd:∀y∈q,X.le r[0] y)(top:∀x∈r,X.le x q[VP q-1])
  (h:∀out s,Rp X pq L s->Rs X (q++r) out->Q out s):wp X (af9 (ar X q)<|ar X r) Q st:=by
 have sq:(ar X q).size=(VP q):=by simp
 have sr:(ar X r).size=(VP r):=by simp
 have K:Mg X X.le (q++r) (q.drop 0) (r.drop 1) #[X.it r[0]]:=Mg.sw<|Mg.a1 (q:=r) (i:=0) (out:= #[]) ⟨[],rfl,.nil,by simp,by simpa using T4,by simpa using u2,by simpa using u1⟩ h2 hd
 have last:∀{out i j},Mg X X.le (q++r) (q.drop i) (r.drop j) out->i+1=VP q->Rs X (q++r) (out++(ar X r).extract j (ar X r).size++(ar X q).extract i (ar X q).size):=λ{_ i j} m e=>m.sw.fin λx H y w=>by
  have hi:i<(VP q):=by lia
  rw[xD hi,zZ<|by lia,IL]at w;have:=top x<|Dk H;simpa only[w,<-e,mN]using this
 refine ui<|mF (x:=r[0]) (by simp) ?_;refine jN (λe=>jc<|h _ _ S (K.end<|.inr<|by simp at e;lia)) λe=>jN (λp=>jc<|h _ _ S (last K<|by simpa using p)) λp=>pB ?_
 let I:=λ(c:Nat) out d f s=>Rp X pq L s/\Mg X X.le (q++r) (q.drop d) (r.drop f) out/\d+1<VP q/\f<VP r/\c<=d+f
 refine mY (λi c s=>∃out d f B,c=(T2,out,d,f,B)/\I (i+1) out d f s) (λc s=>∃out t,c=(TW out,t)/\Rp X pq L s/\Rs X (q++r) out) ⟨_,0,1,_,rfl,S,K,by simp at p;lia,by simp at e;lia,by lia⟩ ?_ ?_ ?_
 .intro i c s _ h;apply eX4 h;clear h;intro out d f B D;refine mY (λj c s=>∃out d f ac v,c=(T2,out,d,f,ac,v)/\I (i+1+j) out d f s) (λc s=>(∃out t,c=(TW out,t)/\Rp X pq L s/\Rs X (q++r) out)\/∃out d f ac v,c=(T2,out,d,f,ac,v)/\I (i+1) out d f s) ⟨_,_,_,_,_,rfl,D⟩ ?_ ?_ ?_
  .intro j c s _ h;apply Oo h;clear h;refine λout d f ac v=>NF λS m C n E=>?_;dsimp only;refine mF (x:=r[f]) (by simp) (mF (x:=q[d]) (by simp)<|EX S.k (M _ (by simp)) (J _ (by simp)) λb e=>?_)
   cases b
   .have l:=m.a1 (by lia)<|m.sw.hd X.tr n e;exact mF (x:=q[d]) (by simp)<|jN (λe=>jc<|.inl ⟨_,_,rfl,S,last l<|by simpa using e⟩) λe=>jN (λ_=>jc<|.inr ⟨_,_,_,_,_,rfl,S,l,by simp at e;lia,n,by lia⟩) λ_=>jc ⟨_,_,_,_,_,rfl,S,l,by simp at e;lia,n,by lia⟩
   have l:=(m.sw.a1 n<|m.hd X.tr (by lia)<|X.as _ _ e).sw;exact mF (x:=r[f]) (by simp)<|jN (λe=>jc<|.inl ⟨_,_,rfl,S,l.end<|.inr<|by simp at e;lia⟩) λe=>jN (λ_=>jc<|.inr ⟨_,_,_,_,_,rfl,S,l,C,by simp at e;lia,by lia⟩) λ_=>jc ⟨_,_,_,_,_,rfl,S,l,C,by simp at e;lia,by lia⟩
  .refine λc s h=>aT ?_;obtain⟨_,d,f,_,_,_,S,m,C,n,E⟩:=h;lia
  intro c s z;refine z.elim (λh=>?_) λh=>?_
  .apply NA h;exact λout _ U=>jc ⟨out,_,rfl,U⟩
  apply Oo h;clear h z;refine λout d f ac v D=>ui<|mY (λj c s=>∃out d f B ac v,c=(T2,out,d,f,B,ac,v)/\I (i+1+j) out d f s) (λc s=>(∃out t,c=(TW out,t)/\Rp X pq L s/\Rs X (q++r) out)\/∃out d f B ac v,c=(T2,out,d,f,B,ac,v)/\I (i+2) out d f s) ⟨_,_,_,_,_,_,rfl,D⟩ ?_ ?_ ?_
  .intro j c s _ h;apply Om h;clear h;refine λout d f B ac v=>NF λS m C n E=>?_;dsimp only;apply Ng λ_ s=>Rp X pq L s
   .intro F;refine jN (λ_=>?_) λ_=>?_
    .generalize B-1=g;exact F g s S
    exact F B s S
   intro g s S;refine DK S λs S=>mF (x:=r[f]) (by simp)<|kT<|xX (T:=q.take d) (A:=q.drop d) (R:=[]) S.k (λz Y=>J z<|Dk Y) (M _ (by simp)) (u1.sublist<|GZ _ _) (by simp) (by simp;lia) (by simp) (by simp;lia) λk _ P V=>?_;dsimp only;apply IT λout d s=>Rp X pq L s/\Mg X X.le (q++r) (q.drop d) (r.drop f) out/\d+1<VP q/\i+1+j<=d+f/\∀y∈q.drop d,X.le r[f] y
   .intro F;have mk:=m.ak (j:=k) λx H y w=>m.sw.hd (x:=x) X.tr n (by simpa using P x H) y w;have u:∀y∈q.drop (d+k),X.le r[f] y:=λy w=>X.as _ _ (by simpa using V y<|by simpa using w);refine jN (λe=>?_) λe=>?_
    .refine jN (λG=>jc<|.inl ⟨_,_,rfl,S,last mk<|by simpa using G⟩) λG=>jN (λp=>jc<|.inl ⟨_,_,rfl,S,mk.end<|.inl<|by simp at p;lia⟩) λp=>?_;generalize out++(ar X q).extract d (d+k)=out at mk ⊢;generalize W:d+k=ic at mk u G p ⊢;exact F out ic s ⟨S,mk,by simp at G p;lia,by lia,u⟩
    rw[show k=0 by lia]at u;exact F out d s ⟨S,m,C,E,u⟩
   refine λout d s=>NF λS m C E u=>?_;have l:=(m.sw.a1 n u).sw;refine mF (x:=r[f]) (by simp)<|jN (λe=>jc<|.inl ⟨_,_,rfl,S,l.end<|.inr<|by simp at e;lia⟩) λe=>mF (x:=q[d]) (by simp)<|kT<|xX (T:=r.take<|f+1) (A:=r.drop<|f+1) (R:=[]) S.k (λz Y=>M z<|Dk Y) (J _ (by simp)) (u2.sublist<|GZ _ _) (by simp) (by simp;lia) (by simp) (by simp at e ⊢;lia) λO _ P V=>?_;dsimp only;apply IT λout f s=>Rp X pq L s/\Mg X X.le (q++r) (q.drop d) (r.drop f) out/\f<VP r/\i+1+j<d+f/\∀y∈r.drop f,X.le q[d] y
   .intro F;have mk:=(l.sw.ak (j:=O) λx H y w=>l.hd X.tr (by lia) (X.as _ _ (P x H)) y w).sw;have u:∀y∈r.drop (f+1+O),X.le q[d] y:=λy w=>V y (by simpa using w);refine jN (λ_=>?_) λe3=>?_
    .refine jN (λp=>jc<|.inl ⟨_,_,rfl,S,mk.end<|.inr<|by simp at p;lia⟩) λp=>?_;generalize out.push (X.it r[f])++(ar X r).extract (f+1) (f+1+O)=out at mk ⊢;generalize W:f+1+O=ic at mk u p ⊢;exact F out ic s ⟨S,mk,by simp at p;lia,by lia,u⟩
    rw[show O=0 by lia]at u;exact F _ _ s ⟨S,l,by simp at e;lia,by lia,u⟩
   refine λout f s=>NF λS m n E u=>?_;have l:=m.a1 (by lia) u;exact mF (x:=q[d]) (by simp)<|jN (λe=>jc<|.inl ⟨_,_,rfl,S,last l<|by simpa using e⟩) λe=>jN (λ_=>jc<|.inr ⟨_,_,_,_,_,_,rfl,S,l,by simp at e;lia,n,by lia⟩) λ_=>jc ⟨_,_,_,_,_,_,rfl,S,l,by simp at e;lia,n,by lia⟩
  .refine λc s h=>aT ?_;obtain⟨_,d,f,_,_,_,_,S,m,C,n,E⟩:=h;lia
  intro c s z;refine z.elim (λh=>?_) λh=>?_
  .apply NA h;exact λout _ U=>jc ⟨out,_,rfl,U⟩
  apply Om h;clear h z;exact λ_ _ _ _ _ _ h=>DK h.1 λs S=>jc ⟨_,_,_,_,rfl,S,h.2⟩
 .refine λc s h=>aT ?_;obtain⟨_,d,f,_,_,S,m,C,n,E⟩:=h;lia
 intro c s x;apply NA x;exact λ_ _ m=>jc<|h _ _ m.1 m.2
end
section
variable {X:Cs}{u:Type}{Q:u->sA->Prop}{st:sA}{l:Array (Nat×Nat×Nat)}{q r L Z a b o k:jX}{i j x y n:Nat}{out:B8}
theorem ss1(n:Nat):n+1-1=n:=rfl
abbrev Cs.ge(X:Cs)(i j:Nat):Prop:=X.le j i
def Mg.h1(m:Mg X X.ge Z (q.take<|n+1).reverse b out)(c:n<VP q)(h:∀y∈b,X.le y q[n]):Mg X X.ge Z (q.take n).reverse b (out.push<|X.it q[n]):=m.put (k:=[q[n]]) (by rw[zP];simp[c]) (by simpa using h) (by simp[ar])
def Mg.hk(m:Mg X X.ge Z (q.take n).reverse b out)(c:i<=n)(h:∀x∈(q.take n).drop i,∀y∈b,X.le y x):Mg X X.ge Z (q.take i).reverse b (out++((ar X q).extract i n).reverse):=m.put (k:=((q.take n).drop i).reverse) (by rw[<-List.reverse_append,<-zO c,<-gn,zO c,sU]) (by simpa using h) (by simp[ar,List.extract_eq_drop_take'])
def Mg.OD(m:Mg X X.ge Z (q.take i).reverse (r.take j).reverse out)(h:∀x∈q.take i,∀y∈r.take j,X.le x y):Rs X Z ((ar X q).extract 0 i++(ar X r).extract 0 j++out.reverse):=by obtain⟨o,e,m⟩:=(m.sw.put (k:=(r.take j).reverse) (a':=[]) (by simp) (by simpa using λx c y d=>h y d x c) H).sw.put (k:=(q.take i).reverse) (a':=[]) (by simp) (by simp) H;refine⟨o.reverse,?_,Ht.mpr m.s,(zU o).trans<|by simpa using m.p⟩;have:=oA Array.reverse e;simpa[ar,List.extract_eq_take_drop]using this
def Mg.L8(m:Mg X X.ge Z (q.take i).reverse (r.take j).reverse out)(h:i=0\/j=0):Rs X Z ((ar X q).extract 0 i++(ar X r).extract 0 j++out.reverse):=m.OD λx c y d=>by
 rcases h with rfl|rfl
 .cases c
 cases d
def Mg.Ol(m:Mg X X.ge Z (q.take<|n+1).reverse b out)(d:n<VP q)(h:X.le q[n] x):∀y∈(q.take<|n+1).reverse,X.le y x:=λy c=>by
 obtain⟨o,_,m⟩:=m;have:=m.ua;rw[show(q.take<|n+1).reverse=q[n]::(q.take n).reverse by rw[zP];simp[d]]at this c;rcases nH.mp c with rfl|c
 .exact h
 exact X.tr ((EU.mp this).1 y c) h
def aX7{a b c d e f g P:Prop}(h:a->b->c->d->e->f->g->P)(x:a/\b/\c/\d/\e/\f/\g):P:=NF (λa b c d e=>h a b c d e.1 e.2.1 e.2.2) x
def aX6{a b c d e f P:Prop}(h:a->b->c->d->e->f->P)(x:a/\b/\c/\d/\e/\f):P:=NF (λa b c d e=>h a b c d e.1 e.2) x
def YM{Q:Array eS->sA->Prop}(S:Rp X l L st)(u1:q.Pairwise X.le)(u2:r.Pairwise X.le)(hq:∀z∈q,z<X.N)(hr:∀z∈r,z<X.N)(h1:0<VP q)(h2:0<VP r)(hd:∀y∈q,X.le r[0] y)(top:∀x∈r,X.le x q[VP q-1])
  (h:∀out s,Rp X l L s->Rs X (q++r) out->Q out s):wp X (aga (ar X q)<|ar X r) Q st:=by
 have sq:(ar X q).size=(VP q):=by simp
 have sr:(ar X r).size=(VP r):=by simp
 have V:Mg X X.ge (q++r) (q.take<|VP q-1).reverse (r.take<|VP r).reverse #[X.it q[VP q-1]]:=Mg.h1 (out:= #[]) ⟨[],rfl,.nil,by simp,by simpa[mA h1]using(zU q).append (zU r),by simpa[mA h1,Ht]using u1,by simpa[Ht]using u2⟩ (by lia) (by simpa using top)
 have last:∀{out i},Mg X X.ge (q++r) (q.take i).reverse (r.take 1).reverse out->Rs X (q++r) ((ar X r).extract 0 1++(ar X q).extract 0 i++out.reverse):=λm=>m.sw.OD λx D y Y=>by obtain⟨b,r,rfl⟩:=sV h2;simp at D;subst D;exact hd y<|vf Y
 refine ui<|mF (x:=q[VP q-1]) (by simp) ?_;rw[sq,sr];refine jN (λe=>jc<|h _ _ S (V.L8<|.inl<|by simpa using e)) λe=>jN (λB=>jc<|h _ _ S ?_) λB=>pB ?_
 .have B:(VP r)=1:=by simpa using B
  rw[B]at V ⊢;exact last V
 let I:=λ(c:Nat) out d f s=>Rp X l L s/\Mg X X.ge (q++r) (q.take d).reverse (r.take f).reverse out/\0<d/\d<=VP q/\1<f/\f<=VP r/\c+d+f<=VP q+VP r
 refine mY (λi c s=>∃d f out O,c=(T2,d,f,out,O)/\I (i+1) out d f s) (λc s=>∃out t,c=(TW out,t)/\Rp X l L s/\Rs X (q++r) out) ⟨_,_,_,_,rfl,S,V,by simp at e;lia,by lia,by simp at B;lia,by lia,by lia⟩ ?_ ?_ ?_
 .intro i c s _ h;apply eX4 h;clear h;intro d f out O i0;refine mY (λj c s=>∃d f out ac w,c=(T2,d,f,out,ac,w)/\I (i+1+j) out d f s) (λc s=>(∃out t,c=(TW out,t)/\Rp X l L s/\Rs X (q++r) out)\/∃d f out ac w,c=(T2,d,f,out,ac,w)/\I (i+1) out d f s) ⟨_,_,_,_,_,rfl,i0⟩ ?_ ?_ ?_
  .intro j c s _ h;apply Oo h;clear h;refine λd f out ac w=>aX7 λS m G J C E M=>?_;obtain⟨n,rfl⟩:∃n,d=n+1:=⟨d-1,by lia⟩
   obtain⟨p,rfl⟩:∃n,f=n+1:=⟨f-1,by lia⟩
   dsimp only[ss1];refine mF (x:=r[p]) (by simp)<|mF (x:=q[n]) (by simp)<|EX S.k (hr _ (by simp)) (hq _ (by simp)) λb e=>?_
   cases b
   .have v:=(m.sw.h1 (by lia)<|m.Ol (by lia) e).sw;refine mF (x:=r[p]) (by simp)<|jN (λe=>?_) λe=>jN (λ_=>jc<|.inr ⟨_,_,_,_,_,rfl,S,v,G,J,by simp at e;lia,by lia,by lia⟩) λ_=>jc ⟨_,_,_,_,_,rfl,S,v,G,J,by simp at e;lia,by lia,by lia⟩;obtain rfl:p=1:=by simpa using e
    exact jc<|.inl ⟨_,_,rfl,S,last v⟩
   have v:=m.h1 (by lia)<|m.sw.Ol (by lia)<|X.as _ _ e;exact mF (x:=q[n]) (by simp)<|jN (λe=>jc<|.inl ⟨_,_,rfl,S,v.L8<|.inl<|by simpa using e⟩) λe=>jN (λ_=>jc<|.inr ⟨_,_,_,_,_,rfl,S,v,by simp at e;lia,by lia,C,E,by lia⟩) λ_=>jc ⟨_,_,_,_,_,rfl,S,v,by simp at e;lia,by lia,C,E,by lia⟩
  .refine λc s h=>aT ?_;obtain⟨_,_,_,_,_,_,S,m,G,J,C,E,M⟩:=h;lia
  intro c s z;refine z.elim (λh=>?_) λh=>?_
  .apply NA h;exact λout _ hs=>jc ⟨out,_,rfl,hs⟩
  apply Oo h;clear h z;refine λd f out ac w i0=>ui<|mY (λj c s=>∃d f out O ac w,c=(T2,d,f,out,O,ac,w)/\I (i+1+j) out d f s) (λc s=>(∃out t,c=(TW out,t)/\Rp X l L s/\Rs X (q++r) out)\/∃d f out O ac w,c=(T2,d,f,out,O,ac,w)/\I (i+2) out d f s) ⟨_,_,_,_,_,_,rfl,i0⟩ ?_ ?_ ?_
  .intro j c s _ h;apply Om h;clear h;refine λd f out O ac w=>aX7 λS m G J C E M=>?_;obtain⟨p,rfl⟩:∃n,f=n+1:=⟨f-1,by lia⟩
   dsimp only[ss1];apply Ng λ_ s=>Rp X l L s
   .intro F;refine jN (λ_=>?_) λ_=>?_
    .generalize O-1=g;exact F g s S
    exact F O s S
   intro g s S;refine DK S λs S=>mF (x:=r[p]) (by simp)<|kT<|xX (T:=[]) (A:=q.take d) (R:=q.drop d) S.k (λz hz=>hq z<|vf hz) (hr _ (by simp)) (u1.sublist<|xN _ _) (by simp) UV (by simp;lia) (by lia) λk hk t1 t2=>?_;dsimp only;apply IT λout d s=>Rp X l L s/\Mg X X.ge (q++r) (q.take d).reverse (r.take<|p+1).reverse out/\0<d/\d<=VP q/\i+1+j+d+p<VP q+VP r/\∀y∈q.take d,X.le y r[p]
   .intro F;have mk:=m.hk hk λx D y Y=>m.sw.Ol (x:=x) (by lia) (X.as _ _ (by simpa using t2 x D)) y Y;have U:∀y∈q.take k,X.le y r[p]:=λy Y=>by simpa using t1 y (by rwa [gn,zO hk])
    refine jN (λe=>?_) λe=>?_
    .refine jN (λH=>jc<|.inl ⟨_,_,rfl,S,mk.L8<|.inl<|by simpa using H⟩) λH=>?_;generalize out++((ar X q).extract k d).reverse=out at mk ⊢;generalize ea:k=ic at mk U H ⊢;exact F out ic s ⟨S,mk,by simp at H;lia,by lia,by lia,U⟩
    obtain rfl:k=d:=by lia
    exact F out _ s ⟨S,m,G,J,by lia,U⟩
   refine λout P s=>aX6 λS m G J M U=>?_;have v:=(m.sw.h1 (by lia)<|by simpa using U).sw;obtain⟨n,rfl⟩:∃n,P=n+1:=⟨P-1,by lia⟩
   dsimp only[ss1];refine mF (x:=r[p]) (by simp)<|jN (λe=>?_) λe=>mF (x:=q[n]) (by simp)<|kT<|xX (T:=[]) (A:=r.take p) (R:=r.drop p) S.k (λz hz=>hr z<|vf hz) (hq _ (by simp)) (u2.sublist<|xN _ _) (by simp) UV (by simp;lia) (by lia) λK cb t1 t2=>?_
   .obtain rfl:p=1:=by simpa using e
    exact jc<|.inl ⟨_,_,rfl,S,last v⟩
   dsimp only;apply IT λout f s=>Rp X l L s/\Mg X X.ge (q++r) (q.take<|n+1).reverse (r.take f).reverse out/\1<f/\f<=VP r/\i+1+j+(n+1)+f<VP q+VP r/\∀y∈r.take f,X.le y q[n]
   .intro F;have mk:=(v.sw.hk cb λx D y Y=>v.Ol (x:=x) (by lia) (t2 x D) y Y).sw;have W:∀y∈r.take K,X.le y q[n]:=λy Y=>X.as _ _ (t1 y<|by rwa [gn,zO cb]);refine jN (λ_=>?_) λe3=>?_
    .refine jN (λH=>?_) λH=>jN (λB=>jc<|.inl ⟨_,_,rfl,S,mk.L8<|.inr<|by simpa using B⟩) λB=>?_
     .obtain rfl:K=1:=by simpa using H
      exact jc<|.inl ⟨_,_,rfl,S,last mk⟩
     generalize out.push (X.it r[p])++((ar X r).extract K p).reverse=out at mk ⊢;generalize ea:K=ic at mk W H B ⊢;exact F out ic s ⟨S,mk,by simp at H B;lia,by lia,by lia,W⟩
    obtain rfl:K=p:=by lia
    exact F _ _ s ⟨S,v,by simp at e;lia,by lia,M,W⟩
   refine λout f s=>aX6 λS m C E M U=>?_;have v:=m.h1 (by lia) (by simpa using U);exact mF (x:=q[n]) (by simp)<|jN (λe=>jc<|.inl ⟨_,_,rfl,S,v.L8<|.inl<|by simpa using e⟩) λe=>jN (λ_=>jc<|.inr ⟨_,_,_,_,_,_,rfl,S,v,by simp at e;lia,by lia,C,E,by lia⟩) λ_=>jc ⟨_,_,_,_,_,_,rfl,S,v,by simp at e;lia,by lia,C,E,by lia⟩
  .refine λc s h=>aT ?_;obtain⟨_,_,_,_,_,_,_,S,m,G,J,C,E,M⟩:=h;lia
  intro c s z;refine z.elim (λh=>?_) λh=>?_
  .apply NA h;exact λout _ hs=>jc ⟨out,_,rfl,hs⟩
  apply Om h;exact λ_ _ _ _ _ _ h=>DK h.1 λs S=>jc ⟨_,_,_,_,rfl,S,h.2⟩
 .refine λc s h=>aT ?_;obtain⟨_,_,_,_,_,S,m,G,J,C,E,M⟩:=h;lia
 intro c s x;apply NA x;exact λ_ _ m=>jc<|h _ _ m.1 m.2
end
section
variable {X:Cs}{t:Type}{Q:t->sA->Prop}{st:sA}{d:Array (Nat×Nat×Nat)}{T A B R L:jX}{i j x y n s:Nat}{o C:List (List Nat)}{r w:List (Nat×Nat×Nat)}
def PJ{c:Type}:∀(m K T R:List c)(j a:Nat),a+j=VP T->K.length=VP m->(m.zipIdx j).foldl (λ(x:Array c) (p:c×Nat)=>x.setIfInBounds (a+p.2) p.1) (T++(K++R)).toArray=(T++(m++R)).toArray:=by
 intro f
 induction f with
 |nil=>intro K T R j a h b;rw[zT b];rfl
 |cons y m e=>intro K T R j a h b;obtain⟨k,K,rfl⟩:=sV (l:=K) (by simp[b]);rw[nf,tj];have:=e K (T++[y]) R (j+1) a (by simp;lia) (by simpa using b);simpa[h]using this
def Rn(X:Cs):Nat->List (List Nat)->List (Nat×Nat×Nat)->Prop
 |_,[],[]=>True
 |s,A::o,p::r=>p.1=s/\p.2.1=VP A/\A≠[]/\A.Pairwise X.le/\Rn X (s+VP A) o r
 |_,_,_=>False
theorem Rn.cut:∀{r:List (Nat×Nat×Nat)}{s:Nat}{o:List (List Nat)},Rn X s o (r++w)->∃a L2,o=a++L2/\Rn X (s+VP a.flatten) L2 w/\∀M q,Rn X (s+VP a.flatten) M q->Rn X s (a++M) (r++q)
 |[],s,o,h=>⟨[],o,rfl,h,λ_ _ h=>h⟩
 |p::r,s,[],h=>h.elim
 |p::r,s,A::o,h=>by
  obtain⟨h1,b,c,f,g⟩:=h;obtain⟨a,L2,rfl,k,l⟩:=Rn.cut g;have e:s+(A::a).flatten.length=s+VP A+(VP a.flatten):=by simp;lia
  exact⟨A::a,L2,rfl,e▸k,λM q h=>⟨h1,b,c,f,l M q<|e▸h⟩⟩
def Vc{s:sA}{f:PUnit->StateT sA dW t}(h:wp X (f ⟨⟩) Q s):wp X (set s>>=f) Q st:=kT λ_ g=>by rw[StateT.run_set];exact je ⟨g,h⟩
def upA(u:A.Pairwise X.le)(v:B.Pairwise X.le)(h:∀a∈A,∀b∈B,X.le a b):(A++B).Pairwise X.le:=uh.mpr ⟨u,v,h⟩
def UK(a:L=T++(A++R))(b:i=VP T)(c:j=VP T+VP A):(ar X L).extract i j=ar X A:=by subst a b c;simp
def T5{Q:Bool->sA->Prop}(S:Rp X d (o.flatten++R) st)(hr:Rn X 0 o d.toList)(hi:i+1<d.size)(h:∀f6 cF iM,Rp X cF (iM.flatten++R) f6->Rn X 0 iM cF.toList->cF.size+1=d.size->VP iM.flatten=VP o.flatten->Q I f6):wp X (mergeAt' i) Q st:=by
 obtain⟨d⟩:=d
 obtain⟨H,⟨Y,D,K⟩,⟨sb,F,eT⟩,U,rfl,rfl⟩:∃H x y U,d=H++x::y::U/\(VP H)=i:=by have hi:i+1<(VP d):=hi;exact⟨d.take i,d[i],d[i+1],d.drop<|i+2,by simp,by simp;lia⟩
 obtain⟨L1,L2,rfl,h2,h3⟩:=Rn.cut hr
 obtain⟨A,B,L2,rfl⟩:∃A B L,L2=A::B::L:=by
  match L2,h2 with
  |A::B::L,_=>exact⟨A,B,L,rfl⟩
  |[A],h=>exact h.2.2.2.2.elim
  |[],h=>exact h.elim
 obtain⟨O,Z,a1,P,hb,ej,b1,V,h4⟩:=h2;dsimp only at O Z hb ej;obtain⟨κ',a',p',g,f'⟩:=st;have e1:a'=_:=S.a;have e2:p'=_:=S.q;subst e1 e2;rw[show(L1++A::B::L2).flatten++R=L1.flatten++(A++(B++(L2.flatten++R))) by simp]at S ⊢
 have fin:∀f6 M,Rp X (H++(Y,D+F,K)::U).toArray (L1.flatten++(M++(L2.flatten++R))) f6->M.Perm (A++B)->M.Pairwise X.le->Q I f6:=λf6 M J em u=>by have em:=em.length_eq;rw[nK,<-Z,<-ej]at em;refine h _ (H++(Y,D+F,K)::U).toArray (L1++M::L2) (by simpa using J) (h3 _ _ ⟨O,em.symm,λe=>a1 ?_,u,by rwa [em,Z,ej,<-xv]⟩) (by simp;lia) (by simp;lia);exact zT (by rw[e]at em;simp at em;lia)
 have ep:∀z,((H++(Y,D,K)::(sb,F,eT)::U).toArray.setIfInBounds (VP H) z).eraseIdxIfInBounds (VP H+1)=(H++z::U).toArray:=λz=>by simp[List.eraseIdx_append];intro;lia
 clear h h3 h4 hr;generalize L1.flatten=T at*;generalize L2.flatten++R=R at*;have hN:∀z,z∈A\/z∈B->z<X.N:=λz l=>by simpa using S.p.mem_iff.mp<|qv _ (by rcases l with h|h<;>simp[h])
 obtain⟨y,B',eB⟩:=List.exists_cons_of_ne_nil b1
 have hy:∀z∈B,X.le y z:=λz l=>by
  rw[eB]at V l;rcases nH.mp l with rfl|l
  .exact X.rf _
  exact(EU.mp V).1 z l
 refine pB ?_;dsimp only;rw[show(H++(Y,D,K)::(sb,F,eT)::U).toArray[VP H]?=TW (Y,D,K) by simp,show(H++(Y,D,K)::(sb,F,eT)::U).toArray[VP H+1]?=TW (sb,F,eT) by simp];dsimp only;rw[ep];refine Vc<|mF (x:=y) (by rw[eB];exact Lb<|by lia)<|kT<|xX S.k (λz h=>hN z<|.inl h) (hN y<|.inr<|by simp[eB]) P UV (by lia) Z.symm (by have:=QR.mpr a1;lia) λk hk t1 t2=>?_;have S2:Rp X (H++(Y,D+F,K)::U).toArray (T++(A++(B++R))) (SortSt.mk' κ' (ar X<|T++(A++(B++R))) (H++(Y,D+F,K)::U).toArray g f'):=⟨rfl,S.k,S.f,rfl,S.p⟩
 have done:(∀a∈A,X.le a y)->Q I (SortSt.mk' κ' (ar X<|T++(A++(B++R))) (H++(Y,D+F,K)::U).toArray g f'):=λz=>fin _ (A++B) (by simpa using S2) (.refl _) (upA P V λa O b hb=>X.tr (z a O)<|hy b hb);rw[Z]at hk;obtain⟨v,E,rfl,rfl⟩:∃v E,A=v++E/\(VP v)=k:=⟨A.take k,A.drop k,by simp,by simp;lia⟩
 have t1:∀z∈v,X.le z y:=λz l=>by simpa using t1 z (by simpa using l)
 have t2:∀z∈E,X.le y z:=λz l=>X.as _ _ (by simpa using t2 z<|by simpa using l);rw[nK]at Z hb;dsimp only;rcases Dl E with e|⟨A3,x,e⟩
 .subst e;rw[jh<|by simp[Z]];exact jc<|done (by simpa using t1)
 rw[G2]at e;have l1:0<(VP E):=by simp[e]
 rw[jy<|by simp;lia];refine mF (x:=x) (by rw[e,show T++(v++(A3++[x])++(B++R))=T++((v++A3)++x::(B++R)) by simp];exact Lb (by have:=oA cZ e;simp at this ⊢;lia))<|kT<|xX (T:=T++(v++E)) (R:=R) S.k (λz h=>hN z<|.inr h) (hN x<|.inl<|by simp[e]) V (by rw[<-pX]) (by simp;lia) ej.symm (by have:=QR.mpr b1;lia) λk2 cb t3 t4=>?_;rw[ej]at cb;obtain⟨I',G,rfl,rfl⟩:∃I' G,B=I'++G/\(VP I')=k2:=⟨B.take k2,B.drop k2,by simp,by simp;lia⟩
 have v3:∀z∈I',X.le z x:=λz l=>X.as _ _ (by simpa using t3 z<|by simpa using l);have v4:∀z∈G,X.le x z:=λz l=>by simpa using t4 z (by simpa using l)
 have lx:∀a∈v++E,X.le a x:=by rw[e,<-pX]at P ⊢;exact FV X.tr P<|X.rf x
 cases I' with
 |nil=>exact jc<|done λa O=>X.tr (lx a O)<|v4 y (by simp[show G=y::B' from eB])
 |cons b I'=>
  obtain rfl:b=y:=(zN eB).1;refine jN (λc=>by simp at c) λ_=>?_;rw[UK (A:=E) (T:=T++v) (R:=b::I'++G++R) (by simp) (by simp;lia)<|by simp;lia,UK (A:=b::I') (T:=T++(v++E)) (R:=G++R) (by simp) (by simp;lia)<|by simp;lia]
  have W:∀out s,Rp X (H++(Y,D+F,K)::U).toArray (T++(v++E++(b::I'++G++R))) s->Rs X (E++b::I') out->Q (gk s).isNone (setArr s<|out.toList.zipIdx.foldl (λa x=>a.setIfInBounds (Y+VP v+x.2) x.1)<|fU s):=λout s J ho=>by
   obtain⟨M,rfl,u,hp⟩:=ho;rw[J.f,J.a];refine fin _ (v++(M++G)) ⟨?_,J.k,J.f,J.q,ib ?_ J.p⟩ ?_ ?_
   .have:=PJ (M.map X.it) ((E++b::I').map X.it) ((T++v).map X.it) ((G++R).map X.it) 0 (Y+VP v) (by simp;lia) (by simpa using hp.length_eq.symm);simpa[ar]using this
   .simpa using(((hp.append_right<|G++R).append_left v).append_left T)
   .simpa using((hp.append_right G).append_left v)
   rw[uh]at P V;refine upA P.1 (upA u V.2.1 λa O c m=>?_) λa O c m=>?_
   .rcases rq.mp (hp.mem_iff.mp O)with O|O
    .exact X.tr (lx a<|by simp[O]) (v4 c m)
    exact V.2.2 a O c m
   have m:c∈E\/c∈b::I'++G:=by
    rcases rq.mp m with m|m
    .rcases rq.mp (hp.mem_iff.mp m)with m|m
     .exact .inl m
     exact .inr (DJ _ m)
    exact .inr (qv _ m)
   rcases m with m|m
   .exact P.2.2 a O c m
   exact X.tr (t1 a O) (hy c m)
  have hd:∀z∈E,X.le (b::I')[0] z:=t2;have top:∀z∈b::I',X.le z E[VP E-1]:=λz l=>by subst e;simpa using v3 z l
  have l2:0<(b::I').length:=by simp
  have h3:∀z∈E,z<X.N:=λz l=>hN z<|.inl (by simp[l]);have h4:∀z∈b::I',z<X.N:=λz l=>hN z<|.inr<|DJ _ l;have u1:=(uh.mp P).2.1;have u2:=(uh.mp V).1;exact jN (λc=>kT<|YK S2 u1 u2 h3 h4 l1 l2 hd top λout s J ho=>vz<|pB<|jc<|W out s J ho) λc=>kT<|YM S2 u1 u2 h3 h4 l1 l2 hd top λout s J ho=>vz<|pB<|jc<|W out s J ho
end
section
variable {X:Cs}{st:sA}{b:Array (Nat×Nat×Nat)}{A L:jX}
theorem Rn.mod{w:Nat}:∀{c:List (Nat×Nat×Nat)}{s:Nat}{a:List (List Nat)}(i:Nat),Rn X s a c->Rn X s a (c.modify i λx=>(x.1,x.2.1,w))
 |[],s,a,i,h=>by cases i<;>exact h
 |p::c,s,[],i,h=>h.elim
 |p::c,s,A::a,0,h=>h
 |p::c,s,A::a,i+1,h=>⟨h.1,h.2.1,h.2.2.1,h.2.2.2.1,Rn.mod i h.2.2.2.2⟩
theorem Rn.le:∀{c:List (Nat×Nat×Nat)}{s:Nat}{a:List (List Nat)},Rn X s a c->VP c<=VP a.flatten
 |[],s,a,h=>mn _
 |p::c,s,[],h=>h.elim
 |p::c,s,A::a,h=>by have:=Rn.le h.2.2.2.2;have:=QR.mpr h.2.2.1;simp at*;omega
theorem Rn.push{A:jX}{w:Nat}:∀{d:List (Nat×Nat×Nat)}{s:Nat}{c:List (List Nat)},Rn X s c d->A≠[]->A.Pairwise X.le->Rn X s (c++[A]) (d++[(s+VP c.flatten,VP A,w)])
 |[],s,[],h,a,u=>⟨rfl,rfl,a,u,trivial⟩
 |[],s,A::c,h,a,u=>h.elim
 |p::d,s,[],h,a,u=>h.elim
 |p::d,s,B::c,h,a,u=>⟨h.1,h.2.1,h.2.2.1,h.2.2.2.1,by simpa[xv]using Rn.push (w:=w) h.2.2.2.2 a u⟩
def Q6{Q:Unit->sA->Prop}(S:Rp X #[] L st)(h:∀E b L,Rp X b L E->L.Pairwise X.le->Q () E):wp X sortRuns' Q st:=by
 have I:(fU st).size=X.N:=by rw[S.a];simpa using S.p.length_eq
 have w:∀{b L st},Rp X b L st->VP L=X.N:=λS=>by simpa using S.p.length_eq
 rw[sortRuns'_eq];refine pB ?_;rw[I];dsimp only;refine mY (λi c s=>∃b,∃g:List (List Nat),∃R,c=(T2,VP g.flatten)/\Rp X b (g.flatten++R) s/\Rn X 0 g b.toList/\i<=VP g.flatten) (λc s=>c.1=T2/\∃b g,Rp X b g.flatten s/\Rn X 0 g b.toList) ⟨#[],[],L,rfl,S,trivial,mn _⟩ ?_ ?_ ?_
 .rintro i c s t ⟨b,g,R,rfl,S,d,o⟩;have r:=w S;dsimp only;refine jN (λe=>?_) λe=>?_
  .obtain rfl:R=[]:=zT (by simp at r e;omega);exact jc ⟨rfl,b,g,by simpa using S,d⟩
  obtain⟨x,R,rfl⟩:=sV (l:=R) (by simp at r e;omega);refine kT<|afR S UV (by simp at r ⊢;omega) λA R s S a1 u M=>?_;apply Ng λn s=>∃A R,n=VP A/\Rp X b (g.flatten++(A++R)) s/\A≠[]/\A.Pairwise X.le
  .intro F;have T:=QR.mpr a1;refine jN (λe=>?_) λe=>?_
   .refine ui (kT<|Ve S UV UV T (by simp at r;omega) (by omega) u λA R s S o u=>jN (λc=>by simp at c) λ_=>?_);generalize J:min (X.N-VP g.flatten) (minRun' X.N X.N 0)=n at o ⊢;exact F n s ⟨A,R,o.symm,S,by intro z;subst z;simp at o e;omega,u⟩
   exact F (VP A) s ⟨A,R,rfl,S,a1,u⟩
  rintro _ s ⟨A,R,rfl,S,a1,u⟩;refine pB ?_;apply T6 λs=>∃b m,Rp X b (m.flatten++(A++R)) s/\Rn X 0 m b.toList/\(VP m.flatten)=VP g.flatten
  .intro F;rw[S.q]
   cases b.back? with
   |none=>exact F s ⟨b,g,S,d,rfl⟩
   |some z=>
    refine mY (λ_ c s=>c=(T2,())/\∃b m,Rp X b (m.flatten++(A++R)) s/\Rn X 0 m b.toList/\(VP m.flatten)=VP g.flatten) (λc s=>c=(T2,())/\∃b m,Rp X b (m.flatten++(A++R)) s/\Rn X 0 m b.toList/\(VP m.flatten)=VP g.flatten) ⟨rfl,b,g,S,d,rfl⟩ ?_ (λ_ _ h=>h) ?_
    .rintro j c s _ ⟨rfl,b,m,S,d,o⟩;refine pB ?_;rw[S.q]
     cases H:(if b.size>1 then b[b.size-2]? else T2)with
     |none=>exact jc ⟨rfl,b,m,S,d,o⟩
     |some z=>
      refine jN (λ_=>jc ⟨rfl,b,m,S,d,o⟩) λ_=>kT<|T5 S d ?_ λs v y S d _ O=>jN (λc=>by simp at c) λ_=>jc ⟨rfl,v,y,S,d,O.trans o⟩;split at H
      .omega
      cases H
    rintro c s ⟨rfl,b,m,S,d,o⟩;exact vz<|F _ ⟨_,m,⟨S.a,S.k,S.f,rfl,S.p⟩,by rw[S.q,Array.toList_modify];exact d.mod _,o⟩
  rintro s ⟨b,m,S,d,o⟩;refine vz<|jc ⟨_,m++[A],R,?_,⟨by simpa using S.a,S.k,S.f,rfl,by simpa using S.p⟩,?_,?_⟩
  .rw[List.flatten_append,nK,o];simp
  .rw[S.q,fj,<-o,<-Dj (VP m.flatten)];exact d.push a1 u
  have:=QR.mpr a1;simp at*;omega
 .rintro c s ⟨b,g,R,rfl,S,d,o⟩;have r:=w S;obtain rfl:R=[]:=zT (by simp at r o;omega);exact⟨rfl,b,g,by simpa using S,d⟩
 rintro⟨_,c⟩ s ⟨rfl,b,g,S,d⟩;have r:=w S;have G:=d.le;refine mY (λi c s=>c=(T2,())/\∃b g,Rp X b g.flatten s/\Rn X 0 g b.toList/\(b.size<=1\/b.size+i<=X.N)) (λc s=>c=(T2,())/\∃b g,Rp X b g.flatten s/\Rn X 0 g b.toList/\b.size<=1) ⟨rfl,b,g,S,d,.inr<|by rw[lU]at G;omega⟩ ?_ ?_ ?_
 .rintro i c s _ ⟨rfl,b,g,S,d,t⟩;refine pB ?_;rw[S.q];refine jN (λe=>jc ⟨rfl,b,g,S,d,e⟩) λe=>kT<|T5 (R:=[]) (by simpa using S) d ((λc:Bool=>show(if c=Uf then b.size-2-1 else b.size-2)+1<b.size by split<;>omega) _) λs v y S d I _=>jN (λc=>by simp at c) λ_=>jc ⟨rfl,v,y,by simpa using S,d,.inr<|by omega⟩
 .rintro c s ⟨rfl,b,g,S,d,t⟩;exact⟨rfl,b,g,S,d,by omega⟩
 rintro c s ⟨rfl,b,g,S,d,t⟩;refine jc<|h s b _ S ?_;obtain⟨C'⟩:=b
 match C',g,d,t with
 |[],[],_,_=>exact .nil
 |[p],[A],d,_=>simpa using d.2.2.2.1
 |p::[],A::B::g,d,_=>exact d.2.2.2.2.elim
 |[],A::g,d,_=>exact d.elim
 |p::C',[],d,_=>exact d.elim
 |p::U::C',g,d,t=>simp at t
end
end TS
namespace PX
open L2 PySem.SeqAt
open PySem.AutoSeq1 (wpAny_loadPart')
open PySem.MeetsSeq PySem.MeetsSeq2 PySem.MeetsSeq3
noncomputable def ny(op:cK)(i j:Int):Bool:=match op with
 |.Lt=>decide (i<j)|.LtE=>decide (i<=j)|.Gt=>decide (i>j)|_=>decide<|i>=j
def Cy(a:cK):Prop:=a=.Lt\/a=.LtE\/a=.Gt\/a=.GtE
def T3(op:cK)(A:jm)(s:iT)(y x:iX)(b:Bool):Prop:= ∀(a:jq)(w:jk)(E:jG)(Q:jG),Q (.bool b) s->ah (ai a w) A (richCompare op y x) Q E s
def Qy(op:cK)(A:jm)(s:iT)(fin:Bool):List (iX×iX)->Bool->Prop
 |[],r=>r=fin
 |(y,x)::rest,r=>∃e,EqAt A s y x e/\(if e=I then Qy op A s fin rest r else T3 op A s y x r)
def Fb{op:cK}{f:bc}(B:op=.Lt/\f=bc.«tuple.__lt__»\/op=.LtE/\f=bc.«tuple.__le__»)(l b:iO)(items j:nZ)(n T:Nat)(dd t:Option iO)(E Q:yx)(r:Bool):
  F0 (f ⟨[.ref l,.ref b],[]⟩) (λA R s=>s.heap.get? l=Y {cls:=.type "tuple",dict:=dd,data:=.seq items n,slots:=E}/\s.heap.get? b=Y {cls:=.type "tuple",dict:=t,data:=.seq j T,slots:=Q}/\
   Qy op A.in1 s (ny op items.size j.size) (items.toList.zip j.toList) r/\R (.ok<|.ret<|.bool r) s):=by
 rcases B with⟨h1,rfl⟩|⟨h1,rfl⟩
 all_goals
  refine .of_wp λc w A R s h=>?_;obtain⟨p,g,d,q,os⟩:=s;obtain⟨z,u,a,h⟩:=h;have O:=AutoSeq1.sub_tuple_tuple
  wp_walk using xl z,xl u,xu _ (λi b m=>b.1=J/\m=⟨p,g,d,q,os⟩/\Qy op A.in1 ⟨p,g,d,q,os⟩ (ny op items.size j.size) i r) _
  case turn=>
   rintro⟨y,x⟩ i b m ⟨o,rfl,e,v,a⟩;refine iP<|v c w _ _ ?_
   cases e with
   |true=>
    simp at a
    wp_walk
    exact⟨rfl,rfl,a⟩
   |false=>
    simp at a;subst h1;have k:=a c w
    wp_walk using k
    exact⟨_,rfl,by simpa using h⟩
  case fin=>
   rintro⟨U,L⟩ m ⟨o,rfl,a⟩;subst h1;simp only at o;subst o;have a:r=_:=a;rw[a]at h
   wp_walk
   exact⟨_,rfl,by simpa[vw,ny]using h⟩
  case h=>exact⟨rfl,rfl,a⟩
section
variable {A:jm}{s:iT}{l b:iO}{items a:nZ}{r:Bool}
def afL(z:op=.Lt\/op=.LtE)(y:s.heap.IsTuple l items)(v:s.heap.IsTuple b a)(j:A.units<aV)(k:Qy op A.in1 s (ny op items.size a.size) (items.toList.zip a.toList) r):T3 op A s (.ref l) (.ref b) r:=λo w E Q h=>by
 obtain⟨⟨u,dd,g,p⟩,d,i,n,hd⟩:=id y;obtain⟨⟨B,f,data2,q⟩,e,t,m,c⟩:=id v;simp only at i hd t c;subst i hd t c;rcases z with rfl|rfl
 .exact MH (op:=.Lt) ⟨_,d,rfl⟩ ⟨_,e,rfl⟩ PySem.F.slot_tuple_lt PySem.F.entry_tuple_lt (PySem.F.args_tuple_lt_2 _ _) (Fb (.inl ⟨rfl,rfl⟩) l b items a n m dd f p q r) ⟨d,e,k,show dV r≠g0/\Q (.bool r) s from⟨(λx=>nomatch x),h⟩⟩ j
 exact MH (op:=.LtE) ⟨_,d,rfl⟩ ⟨_,e,rfl⟩ PySem.F.slot_tuple_le PySem.F.entry_tuple_le (PySem.F.args_tuple_le_2 _ _) (Fb (.inr ⟨rfl,rfl⟩) l b items a n m dd f p q r) ⟨d,e,k,show dV r≠g0/\Q (.bool r) s from⟨(λx=>nomatch x),h⟩⟩ j
end
mutual
noncomputable def rV(a:cK):D->D->Option Bool
 |.int i,e=>match e with|.int j=>Y (ny a i j)|_=>J
 |.tup l,e=>match e with|.tup m=>if a=.Lt\/a=.LtE then uf a l m else J|_=>J
 |_,_=>J
noncomputable def uf(a:cK):List D->List D->Option Bool
 |[],m=>Y<|ny a 0<|VP m
 |x::l,e=>match e with|[]=>Y (ny a ((x::l).length) 0)|y::m=>if D.BE x y=I then uf a l m else rV a x y
end
def rL(c:cK)(a b k:Int):ny c (a+k) (b+k)=ny c a b:=by
 cases c<;>simp[ny]
section
variable {X:Cx}{c:jK}{f:L2.St}{H:Hp}{s:iT}
def Fo(b:Cy op):T3 op A s (.int i t) (.int j u) (ny op i j):=λa w E Q h=>by
 rcases b with rfl|rfl|rfl|rfl
 .exact(z7 h:ah (ai a w) A (ay .Lt _ _) Q E s)
 .exact(z8 h:ah (ai a w) A (ay .LtE _ _) Q E s)
 .exact(z9 h:ah (ai a w) A (ay .Gt _ _) Q E s)
 exact(At h:ah (ai a w) A (ay .GtE _ _) Q E s)
def NS(ho:Cy op)(I:Inv X c f H s):∀(n:Nat)(d e:D)(v u:V)(a b:iX)(O B:AB)(A:jm)(r:Bool),kz X.K H O d v->kz X.K H B e u->RelV v a->RelV u b->d.dep<=n->e.dep<20000->A.units+n<aV->rV op d e=Y r->T3 op A s a b r:=by
 intro n
 induction n with
 |zero=>
  intro d e v u a b O B A r hd G J M N W hA g
  cases d with
  |int i=>
   cases e with
   |int j=>have:=jJ hd;subst this;have:=jJ G;subst this;obtain⟨t,rfl⟩:=J;obtain⟨t',rfl⟩:=M;simp only[rV]at g;rw[<-lg g];exact Fo ho
   |_=>cases g
  |tup l=>rw[D.dep]at N;lia
  |_=>cases g
 |succ n ih=>
  intro d e v u a b O B A r hd G J M N W hA g
  cases d with
  |int i=>
   cases e with
   |int j=>have:=jJ hd;subst this;have:=jJ G;subst this;obtain⟨t,rfl⟩:=J;obtain⟨t',rfl⟩:=M;simp only[rV]at g;rw[<-lg g];exact Fo ho
   |_=>cases g
  |tup l=>
   cases e with
   |tup m=>
    simp only[rV]at g;split at g
    case isFalse=>cases g
    rename_i U;rw[D.dep]at N W;obtain⟨p,E,rfl,q,z⟩:=lL hd;obtain⟨p2,L,rfl,q2,o⟩:=lL G;cases J;cases M;obtain⟨h,T,pl,_⟩:=I.tuple q;obtain⟨w,C,i5,_⟩:=I.tuple q2;have Q:A.in1.units=A.units+1:=rfl
    have key:∀(l m:List D)(E L:List V)(h w:jW)(k:Int),D.BJ l+1<=n+1->D.BJ m<20000->YP X.K H O l E->YP X.K H B m L->Vals E h->Vals L w->uf op l m=Y r->Qy op A.in1 s (ny op (h.length+k)<|w.length+k) (h.zip w) r:=by
     intro l
     induction l with
     |nil=>
      intro m E L h w k F P z o T C g;rw[YP]at z;subst z;cases T;simp only[uf]at g;have e1:=o.length;have e2:=C.length;show r=_;rw[rL,<-lg g]
      congr 1
      lia
     |cons x l Y'=>
      intro m E L h w k F P z o T C g;rw[YP]at z;obtain⟨Z,xr,rfl,g1,g2⟩:=z
      cases T with
      |cons a1 a2=>
       cases m with
       |nil=>
        rw[YP]at o;subst o;cases C;simp only[uf]at g;have e1:=g2.length;have e2:=a2.length;rw[j7];show r=_;rw[rL,<-lg g]
        congr 1
        simp;lia
       |cons y m=>
        rw[YP]at o;obtain⟨vy,yr,rfl,R,g4⟩:=o
        cases C with
        |cons b1 b2=>
         simp only[uf]at g;rw[D.BJ]at F P;rw[sQ];refine⟨D.BE x y,Bh I n x y Z vy _ _ O B A.in1 (.inl g1) (.inl R) a1 b1 (by lia) (by lia) (by rw[Q];lia),?_⟩
         cases S:D.BE x y with
         |true=>
          rw[S,jh UV]at g;rw[jh UV];have:=Y' m xr yr _ _ (k+1) (by lia) (by lia) g2 g4 a2 b2 g;simp only[oy];have e:∀a:Nat,(((a+1:Nat):Int)+k)=(a:Int)+(k+1):=λa=>by lia
          rw[e,e];exact this
         |false=>rw[S,jy lH]at g;rw[jy lH];exact ih x y Z vy _ _ O B A.in1 r (.inl g1) (.inl R) a1 b1 (by lia) (by lia) (by rw[Q];lia) g
    have:=key l m E L h w 0 (by lia) (by lia) z o T C g;refine afL U pl i5 (by lia) ?_;simpa using this
   |_=>cases g
  |_=>cases g
def AU(a:cK)(d e:D):Option (D×Bool):=if d.dep<=50/\e.dep<=50 then(rV a d e).map λb=>(.bl b,C)else J
def R5(b:Cy op)(l:X.A.units+60<aV):BY X (ay op) (rD X.K<|AU op):=by
 intro c s f H x y v u Q U j k h;obtain⟨O,d,e,z,np,h1,g,a,G⟩:=h;unfold AU at a;split at a
 .rename_i hd;obtain⟨r,i,rfl⟩:=jM a;have:=NS b U 50 d e x y v u O O X.A r h1 g j k hd.1 (by lia) (by lia) i X.prog X.w X.xe (EP X c f Q) ⟨.bl r,H,U,rfl,G.bl⟩;rcases b with rfl|rfl|rfl|rfl<;>exact this
 cases a
end
open TS
section
variable {b:jq}{w:jk}{A:jm}{E:jG}{s:iT}
noncomputable def qb(h:jn)(a:iO)(c:jW):Heap:=((h.update a<|aO λ_=> #[]).push<|br "tuple" c.toArray 0).push<|br "list" #[] 0
noncomputable def Pk(a:jW)(i:Nat):Keyed:=(a.getD i au,a.getD i au)
def uT{a:iO}{c:jW}{n:Nat}{P:x6->Shared->Prop}{κ:q7}{lt:Nat->Nat->Bool}(r:s.heap.get? a=Y (br "list" c.toArray n))(z:(VP c)<=sizeLine)(as:∀i j,lt i j=I->lt j i=UF)(J:∀{i j k},lt j i=UF->lt k j=UF->lt k i=UF)
  (hk:2<=VP c->ah (ai b w) A (keyKind' c.toArray) (λg d=>d={s with heap:=qb s.heap a c}/\g=κ) (λ_ _=>False) {s with heap:=qb s.heap a c})
  (ask:2<=VP c->Ask (ai b w) A (λd=>d={s with heap:=qb s.heap a c}) (Pk c) κ (VP c) lt)
  (h:∀p:List Nat,p.Perm (aj<|VP c)->p.Pairwise (λi j=>lt j i=UF)->P (.done<|.ret .none) {s with heap:=(qb s.heap a c).update a (aO λ_=>(p.map λi=>c.getD i au).toArray)}):
  ah (ai b w) A (bc.«list.sort» ⟨[.ref a],[]⟩) P E s:=by
 rw[list_sort_plain];have M:a<s.heap.objs.size:=ki r;refine iP<|GY r UV<|iP<|vd r UV ?_ (by rw[kH];exact z)<|mn _;obtain⟨u,H⟩:∃u,(s.heap.update a<|aO λ_=>(#[]:Array iX)).get? a=Y (br "list" #[] u):=⟨_,xq r λ_=> #[]⟩
 refine iP<|zM H UV<|iP<|Dr ?_ (by show (VP c)<=_;exact z);refine iP<|Di ?_<|mn _;refine mz ?_;have q:(qb s.heap a c).get? a=Y (br "list" #[] u):=kb _ (kb _ H);show ah (ai b w) A _ P E {s with heap:=qb s.heap a c};dsimp only;by_cases l:c.toArray.size<2
 .rw[jh l,jh l];refine iP<|je ?_;rw[G4];refine iP<|je ?_;dsimp only;refine iP<|zM q UV<|iP<|vd q UV ?_ (mn _) ?_
  .simp only[xG,lr];refine je ?_;have t:(VP c)<2:=by simpa using l
   have:=h (aj<|VP c) (vb _) (by rw[Qz];intro i j m T N;simp at m T;lia)
   have e:((c.toArray.zip c.toArray).map (·.2))=((aj<|VP c).map λi=>c.getD i au).toArray:=by
    apply B1
    .simp
    intro i h1 O;have m:i<(VP c):=by simpa using h1
    simp[m]
   rw[e];exact this
  rw[ro,rk];simp;lia
 rw[jy l,jy l];have t:2<=(VP c):=by simpa using l
 refine iP<|nX (hk t) (λg d y=>?_) λ_ _ x=>x.elim;obtain⟨rfl,rfl⟩:=y;refine iP (nX (Q6 (X:=⟨_,A,E,λd=>d={s with heap:=qb s.heap a c},Pk c,lt,g,VP c,as,J,ask t⟩) (L:=aj<|VP c) ⟨?_,rfl,rfl,rfl,.refl _⟩ (Q:=λ_ o=>∃p,(fU o).map (·.2)=(p.map λi=>c.getD i au).toArray/\gk o=T2/\p.Perm (aj<|VP c)/\p.Pairwise λi j=>lt j i=UF) (λo _ p R v=>⟨p,?_,R.f,R.p,v⟩) _ rfl) ?_ λ_ _ e=>e)
 .show c.toArray.zip c.toArray=_;apply B1
  .simp
  intro i h1 O;have m:i<(VP c):=by simpa using h1
  simp[Pk,m]
 .rw[R.a];simp[Pk]
 rintro⟨⟨⟩,o⟩ d ⟨rfl,B,out,U,C,v⟩;dsimp only;have G:(VP B)=(VP c):=by simpa using C.length_eq
 refine iP<|zM q UV<|iP<|vd q UV ?_ (mn _) ?_
 .rw[U];simp;rw[out];exact je<|h B C v
 rw[out,kH,ke,G];lia
end
mutual
noncomputable def cT:D->D->Ordering
 |.int i,e=>match e with|.int j=>if i<j then .lt else if i=j then .eq else .gt|_=>.lt
 |.tup l,e=>match e with|.int _=>.gt|.tup m=>cL l m|_=>.lt
 |_,e=>match e with|.int _=>.gt|.tup _=>.gt|_=>.eq
noncomputable def cL:List D->List D->Ordering
 |[],m=>match m with|[]=>.eq|_::_=>.lt
 |x::l,m=>match m with|[]=>.gt|y::m=>match cT x y with
  |.lt=>.lt
  |.gt=>.gt
  |.eq=>cL l m
end
mutual
theorem Kn:∀x:D,cT x x=.eq
 |.int i=>by simp[cT]
 |.tup l=>by simp only[cT];exact Kp l
 |.V0=>by simp[cT]
 |.bl _=>by simp[cT]
 |.str _=>by simp[cT]
 |.lst _=>by simp[cT]
 |.AE _ _ _=>by simp[cT]
theorem Kp:∀l:List D,cL l l=.eq
 |[]=>by simp[cL]
 |x::l=>by simp only[cL,Kn x];exact Kp l
end
mutual
theorem zH:∀x y:D,cT y x=(cT x y).swap
 |.int i,.int j=>by
  simp only[cT,cT];by_cases h1:i<j
  .rw[jh h1,jy<|by lia,jy<|by lia];rfl
  rw[jy h1];by_cases a:i=j
  .rw[jh a,jy<|by lia,jh a.symm];rfl
  rw[jy a,jh<|by lia];rfl
 |.tup l,.tup m=>by simp only[cT,cT];exact Ko l m
 |.int _,.tup _=>by simp[cT]
 |.int _,.V0=>by simp[cT]
 |.int _,.bl _=>by simp[cT]
 |.int _,.str _=>by simp[cT]
 |.int _,.lst _=>by simp[cT]
 |.int _,.AE _ _ _=>by simp[cT]
 |.tup _,.int _=>by simp[cT]
 |.tup _,.V0=>by simp[cT]
 |.tup _,.bl _=>by simp[cT]
 |.tup _,.str _=>by simp[cT]
 |.tup _,.lst _=>by simp[cT]
 |.tup _,.AE _ _ _=>by simp[cT]
 |.V0,y=>by cases y<;>simp[cT]
 |.bl _,y=>by cases y<;>simp[cT]
 |.str _,y=>by cases y<;>simp[cT]
 |.lst _,y=>by cases y<;>simp[cT]
 |.AE _ _ _,y=>by cases y<;>simp[cT]
theorem Ko:∀l m:List D,cL m l=(cL l m).swap
 |[],[]=>by simp[cL]
 |[],_::_=>by simp[cL]
 |_::_,[]=>by simp[cL]
 |x::l,y::m=>by
  simp only[cL,cL,zH x y];cases h:cT x y<;>simp[Ordering.swap]
  exact Ko l m
end
def OX(h1:cT x y≠ .gt)(a:cT y x≠ .gt):cT x y=.eq:=by
 rw[zH x y]at a
 cases h:cT x y with
 |lt=>rw[h]at a;exact absurd H a
 |eq=>rfl
 |gt=>exact absurd h h1
mutual
theorem wW:∀x y z:D,cT x y≠ .gt->cT y z≠ .gt->cT x z≠ .gt
 |.int i,y,z,h1,d=>by
  cases z with
  |int k=>
   cases y with
   |int j=>
    simp only[cT]at h1 d ⊢
    have a:i<=j:=by
     by_cases a:i<j
     .lia
     rw[jy a]at h1;by_cases b:i=j
     .lia
     rw[jy b]at h1;exact absurd H h1
    have b:j<=k:=by
     by_cases a:j<k
     .lia
     rw[jy a]at d;by_cases b:j=k
     .lia
     rw[jy b]at d;exact absurd H d
    by_cases c:i<k
    .rw[jh c];simp
    rw[jy c,jh<|by lia];simp
   |_=>simp[cT]at d
  |_=>simp[cT]
 |.tup l,y,z,h1,d=>by
  cases y with
  |int j=>simp[cT]at h1
  |tup m=>
   cases z with
   |int k=>simp[cT]at d
   |tup n=>simp only[cT]at h1 d ⊢;exact Gj l m n h1 d
   |_=>simp[cT]
  |_=>cases z<;>simp_all [cT]
 |.V0,y,z,h1,d=>by cases y<;>cases z<;>simp_all [cT]
 |.bl _,y,z,h1,d=>by cases y<;>cases z<;>simp_all [cT]
 |.str _,y,z,h1,d=>by cases y<;>cases z<;>simp_all [cT]
 |.lst _,y,z,h1,d=>by cases y<;>cases z<;>simp_all [cT]
 |.AE _ _ _,y,z,h1,d=>by cases y<;>cases z<;>simp_all [cT]
 termination_by x y z=>sizeOf x+sizeOf y+sizeOf z
theorem Gj:∀l m n:List D,cL l m≠ .gt->cL m n≠ .gt->cL l n≠ .gt
 |[],m,n,_,_=>by cases n<;>simp[cL]
 |x::l,[],n,h1,_=>by simp[cL]at h1
 |x::l,y::m,[],_,a=>by simp[cL]at a
 |x::l,y::m,z::n,h1,a=>by
  have a1:cT x y≠ .gt:=λh=>by simp only[cL,h]at h1;exact h1 H
  have c:cT y z≠ .gt:=λh=>by simp only[cL,h]at a;exact a H
  have g:=wW x y z a1 c;simp only[cL]
  cases b:cT x z with
  |lt=>simp
  |gt=>exact absurd b g
  |eq=>
   have f:cT z x≠ .gt:=by rw[zH x z,b];simp[Ordering.swap]
   have d:cT x y=.eq:=OX a1<|wW y z x c f;have e:cT y z=.eq:=OX c<|wW z x y f a1;simp only[cL,d]at h1;simp only[cL,e]at a;exact Gj l m n h1 a
 termination_by l m n=>sizeOf l+sizeOf m+sizeOf n
end
def Bj(x y:D):Bool:=cT x y== .lt
def ZH:Bj x y=I↔cT x y=.lt:=by simp[Bj]
def qR:Bj x y=C↔cT x y≠ .lt:=by simp[Bj]
def Uu:Bj y x=C↔cT x y≠ .gt:=by rw[qR,zH x y];cases cT x y<;>simp
def aad(x y:D)(h:Bj x y=I):Bj y x=C:=by rw[Uu,ZH.mp h];simp
def YQ(h1:Bj y x=C)(a:Bj z y=C):Bj z x=C:=Uu.mpr<|wW _ _ _ (Uu.mp h1) (Uu.mp a)
mutual
noncomputable def D.pr:D->Bool
 |.int _=>I
 |.tup l=>D.Im l
 |_=>C
noncomputable def D.Im:List D->Bool
 |[]=>I
 |x::l=>D.pr x&&D.Im l
end
mutual
theorem Ir:∀x y:D,D.pr x=I->D.pr y=I->D.BE x y=(cT x y== .eq)
 |.int i,.int j,_,_=>by
  simp only[D.BE,cT];by_cases h:i=j
  .subst h;simp
  rw[jy h];by_cases a:i<j<;>simp[h,a]
 |.int _,.tup _,_,_=>by simp[D.BE,cT]
 |.tup _,.int _,_,_=>by simp[D.BE,cT]
 |.tup l,.tup m,h1,a=>by simp only[D.BE,cT];rw[D.pr]at h1 a;exact Kd l m h1 a
 |.V0,_,h,_=>by simp[D.pr]at h
 |.bl _,_,h,_=>by simp[D.pr]at h
 |.str _,_,h,_=>by simp[D.pr]at h
 |.lst _,_,h,_=>by simp[D.pr]at h
 |.AE _ _ _,_,h,_=>by simp[D.pr]at h
 |_,.V0,_,h=>by simp[D.pr]at h
 |_,.bl _,_,h=>by simp[D.pr]at h
 |_,.str _,_,h=>by simp[D.pr]at h
 |_,.lst _,_,h=>by simp[D.pr]at h
 |_,.AE _ _ _,_,h=>by simp[D.pr]at h
theorem Kd:∀l m:List D,D.Im l=I->D.Im m=I->D.D7 l m=(cL l m== .eq)
 |[],[],_,_=>by simp[D.D7,cL]
 |[],_::_,_,_=>by simp[D.D7,cL]
 |_::_,[],_,_=>by simp[D.D7,cL]
 |x::l,y::m,h1,a=>by rw[D.Im,mf]at h1 a;simp only[D.D7,cL];rw[Ir x y h1.1 a.1,Kd l m h1.2 a.2];cases cT x y<;>simp
end
mutual
theorem Bs:∀x y:D,D.pr x=I->D.pr y=I->cT x y=.eq->x=y
 |.int i,.int j,_,_,h=>by
  simp only[cT]at h;by_cases h1:i<j
  .rw[jh h1]at h;cases h
  rw[jy h1]at h;by_cases c:i=j
  .rw[c]
  rw[jy c]at h;cases h
 |.tup l,.tup m,a,b,h=>by simp only[cT]at h;rw[D.pr]at a b;rw[Gk l m a b h]
 |.int _,.tup _,_,_,h=>by simp[cT]at h
 |.tup _,.int _,_,_,h=>by simp[cT]at h
 |.V0,_,a,_,_=>by simp[D.pr]at a
 |.bl _,_,a,_,_=>by simp[D.pr]at a
 |.str _,_,a,_,_=>by simp[D.pr]at a
 |.lst _,_,a,_,_=>by simp[D.pr]at a
 |.AE _ _ _,_,a,_,_=>by simp[D.pr]at a
 |_,.V0,_,a,_=>by simp[D.pr]at a
 |_,.bl _,_,a,_=>by simp[D.pr]at a
 |_,.str _,_,a,_=>by simp[D.pr]at a
 |_,.lst _,_,a,_=>by simp[D.pr]at a
 |_,.AE _ _ _,_,a,_=>by simp[D.pr]at a
theorem Gk:∀l m:List D,D.Im l=I->D.Im m=I->cL l m=.eq->l=m
 |[],[],_,_,_=>rfl
 |[],_::_,_,_,h=>by simp[cL]at h
 |_::_,[],_,_,h=>by simp[cL]at h
 |x::l,y::m,a,b,h=>by
  rw[D.Im,mf]at a b;simp only[cL]at h
  cases e:cT x y with
  |eq=>rw[e]at h;rw[Bs x y a.1 b.1 e,Gk l m a.2 b.2 h]
  |lt=>rw[e]at h;cases h
  |gt=>rw[e]at h;cases h
end
mutual
theorem EF:∀x y:D,D.pr x=I->D.pr y=I->∀b,rV .Lt x y=Y b->b=Bj x y
 |.int i,.int j,_,_,b,h=>by
  simp only[rV]at h;rw[<-lg h,Bj];simp only[cT,ny];by_cases h1:i<j
  .simp[h1]
  rw[jy h1];by_cases a:i=j<;>simp[h1,a]
 |.int _,.tup _,_,_,b,h=>by simp[rV]at h
 |.tup _,.int _,_,_,b,h=>by simp[rV]at h
 |.tup l,.tup m,h1,a,b,h=>by simp only[rV]at h;rw[jh<|.inl trivial]at h;rw[D.pr]at h1 a;rw[Bj];simp only[cT];exact Kk l m h1 a b h
 |.V0,_,h,_,_,_=>by simp[D.pr]at h
 |.bl _,_,h,_,_,_=>by simp[D.pr]at h
 |.str _,_,h,_,_,_=>by simp[D.pr]at h
 |.lst _,_,h,_,_,_=>by simp[D.pr]at h
 |_,.V0,_,h,_,_=>by simp[D.pr]at h
 |_,.bl _,_,h,_,_=>by simp[D.pr]at h
 |_,.str _,_,h,_,_=>by simp[D.pr]at h
 |_,.lst _,_,h,_,_=>by simp[D.pr]at h
theorem Kk:∀l m:List D,D.Im l=I->D.Im m=I->∀b,uf .Lt l m=Y b->b=(cL l m== .lt)
 |[],[],_,_,b,h=>by simp only[uf]at h;rw[<-lg h];simp[ny,cL]
 |[],_::_,_,_,b,h=>by simp only[uf]at h;rw[<-lg h];simp[ny,cL]<;>lia
 |_::_,[],_,_,b,h=>by simp only[uf]at h;rw[<-lg h];simp[ny,cL]<;>lia
 |x::l,y::m,h1,a,b,h=>by
  rw[D.Im,mf]at h1 a;simp only[uf]at h;rw[Ir x y h1.1 a.1]at h;simp only[cL]
  cases c:cT x y with
  |eq=>rw[c]at h;simp at h;exact Kk l m h1.2 a.2 b h
  |lt=>rw[c]at h;simp at h;have:=EF x y h1.1 a.1 b h;rw[this,Bj,c]
  |gt=>rw[c]at h;simp at h;have:=EF x y h1.1 a.1 b h;rw[this,Bj,c]
end
section
variable {a:Type}(lt:a->a->Bool)
noncomputable def En(x:a):List a->List a
 |[]=>[x]
 |y::l=>if lt y x=I then y::En x l else x::y::l
def mW:List a->List a
 |[]=>[]
 |x::l=>En lt x<|mW l
theorem uy(x:a):∀l:List a,(En lt x l).Perm (x::l)
 |[]=>vb _
 |y::l=>by
  rw[En];split
  .exact((uy x l).cons y).trans (iq x y l)
  exact vb _
theorem km:∀l:List a,(mW lt l).Perm l
 |[]=>vb _
 |x::l=>(uy lt x _).trans<|(km l).cons x
end
def Pl{x:D}:∀{l:List D},(l.Pairwise λx y=>Bj y x=C)->(En Bj x l).Pairwise λx y=>Bj y x=C:=by
 intro d
 induction d with
 |nil=>intro _;exact MI _ _
 |cons y l c=>
  intro h;have h:=EU.mp h;rw[En]
  cases b:Bj y x
  .refine EU.mpr ⟨λz a=>?_,EU.mpr h⟩;rcases nH.mp a with rfl|a
   .exact b
   exact YQ b (h.1 z a)
  refine EU.mpr ⟨λz a=>?_,c h.2⟩;rcases nH.mp ((uy Bj x l).mem_iff.mp a)with rfl|a
  .exact aad _ _ b
  exact h.1 z a
theorem og:∀l:List D,(mW Bj l).Pairwise λx y=>Bj y x=C
 |[]=>c3
 |x::l=>Pl<|og l
def Nv{l m:List D}(h:∀x∈m,D.pr x=I)(a:l.Perm m)(c:l.Pairwise λx y=>Bj y x=C):l=mW Bj m:=
 GX (λx y d e h1 b=>Bs x y (h x<|a.mem_iff.mp d) (h y<|(km Bj m).mem_iff.mp e)<|OX (Uu.mp h1)<|Uu.mp b) c (og m) (a.trans (km Bj m).symm)
def aeB{a:List D}{p:jX}(pr:∀x∈a,D.pr x=I)(d:p.Perm (aj<|VP a))(f:p.Pairwise λi j=>Bj (a.getD j .V0) (a.getD i .V0)=C):p.map (λi=>a.getD i .V0)=mW Bj a:=by
 have e:(aj<|VP a).map (λi=>a.getD i .V0)=a:=by apply xy;intro i;by_cases c:i<VP a<;>simp[c]
 have b:=d.map λi=>a.getD i .V0;rw[e]at b;exact Nv pr b<|oq.mpr f
noncomputable def lX:D->Option Nat
 |.int _=>Y 0
 |.tup (.int _::_)=>Y 1
 |.tup (.tup _::_)=>Y 2
 |_=>J
noncomputable def J1:Nat->q7
 |0=>Go
 |1=>Op I
 |_=>Op C
structure HH(k:Nat)(l:List D):Prop where
 hd:∀x∈l,lX x=TW k
 pr:∀x∈l,D.pr x=Uf
 dp:∀x∈l,x.dep<=50
 cm:∀x∈l,∀y∈l,(rV .Lt x y).isSome=Uf
def nv(l:List D):Bool:=VP l<=1||match l with
 |[]=>I
 |x::_=>(lX x).isSome&&(l.all λy=>lX y==lX x&&D.pr y&&decide (y.dep<=50))&&l.all λy=>l.all λz=>(rV .Lt y z).isSome
def Cf(h:nv l=I):(VP l)<=1\/∃k,HH k l:=by
 unfold nv at h;rw[xo]at h;rcases h with h|h
 .left;simpa using h
 right
 cases l with
 |nil=>exact⟨0,λx a=>absurd a pj,λx a=>absurd a pj,λx a=>absurd a pj,λx a=>absurd a pj⟩
 |cons x m=>simp only[mf,mC,vV]at h;obtain⟨⟨h1,c⟩,d⟩:=h;obtain⟨k,hk⟩:=Mh.mp h1;refine⟨k,λy b=>?_,λy b=>(c y b).1.2,λy b=>(c y b).2,λy b z e=>d y b z e⟩;have:=(c y b).1.1;rw[hk]at this;simpa using this
section
variable {X:Cx}{d:jK}{f:L2.St}{H:Hp}{s:iT}
def uk(v:Vals xs a)(b:i<a.length):RelV (xs.getD i .V0) (a.getD i au):=by
 have e:=v.length;have h:xs[i]?=Y xs[i]:=lq (by omega);obtain⟨w,c,j⟩:=v.get h;have h1:xs.getD i .V0=xs[i]:=by simp[show i<xs.length by omega]
 have g:a.getD i au=w:=by rw[lq b]at c;have:=lg c;simp[b,this]
 rw[h1,g];exact j
def uq(r:YP X.K H O ds xs)(a:i<ds.length):Rep X.K H O (ds.getD i .V0) (xs.getD i .V0):=by
 have e:=r.length;have hd:ds[i]?=Y ds[i]:=lq a;obtain⟨v,b,g⟩:=r.get hd;have h1:ds.getD i .V0=ds[i]:=by simp[a]
 have c:xs.getD i .V0=v:=by rw[lq<|by lia]at b;have:=lg b;simp[show i<xs.length by lia,this]
 rw[h1,c];exact g
def AI{ds:List D}{i:Nat}(a:i<VP ds):ds.getD i .V0∈ds:=by simp[a]
theorem FW(I:Inv X d f H s){A:jm}{b:Bool}{O z:AB}(hA:A.units+60<aV){r:Bool}{Q:sD}(n:Q r s):∀(l m:List D)(u v:List V)(g o:jW)(k:Int)(i:Nat),D.BJ l<=50->D.BJ m<=50->
  ((b&&i==0)=Uf->∀x y l' m',l=x::l'->m=y::m'->(∃a,x=.int a)/\∃c,y=.int c)->YP X.K H O l u->YP X.K H z m v->Vals u g->Vals v o->uf .Lt l m=TW r->
  ∀fin:Bool,fin=ny .Lt (g.length+k) (o.length+k)->PySem.W.KatLex X.prog X.w A b fin Q (g.zip o) i s
 |[],m,u,v,g,o,k,i,_,_,_,p,q,v1,v2,j,fin,hf=>by
  rw[YP]at p;subst p;cases v1;simp only[uf]at j;have U:=q.length;have Y:=v2.length;show Q fin s;rw[hf,rL];rw[<-lg j]at n;have:ny .Lt ((([]:List iX).length:Nat):Int) (o.length:Int)=ny .Lt 0 (m.length:Int):=by congr 1;lia
  rw[this];exact n
 |x::l,[],u,v,g,o,k,i,_,_,_,p,q,v1,v2,j,fin,hf=>by
  rw[YP]at q;subst q;cases v2;simp only[uf]at j;have U:=p.length;have Y:=v1.length;rw[j7];show Q fin s;rw[hf,rL];rw[<-lg j]at n;have:ny .Lt (g.length:Int) ((([]:List iX).length:Nat):Int)=ny .Lt (((x::l).length:Nat):Int) 0:=by congr 1;lia
  rw[this];exact n
 |x::l,y::m,u,v,g,o,k,i,J',N,hb,p,q,v1,v2,j,fin,hf=>by
  rw[YP]at p q;obtain⟨L,R,rfl,g1,g2⟩:=p;obtain⟨T,S,rfl,C,F⟩:=q
  cases v1 with
  |cons a1 G=>
   cases v2 with
   |cons B M=>
    simp only[uf]at j;rw[D.BJ]at J' N;rw[sQ];refine PySem.W.kat_cons<|Bh I 50 x y L T _ _ O z A (.inl g1) (.inl C) a1 B (by lia) (by lia) (by lia) X.prog X.w _ _ ?_
    cases E:D.BE x y with
    |true=>
     rw[E,jh UV]at j;refine PySem.W.kat_yes<|FW I hA n l m R S _ _ (k+1) (i+1) (by lia) (by lia) (λh=>by simp at h) g2 F G M j fin ?_;rw[hf];simp only[oy];have e:∀a:Nat,(((a+1:Nat):Int)+k)=(a:Int)+(k+1):=λa=>by lia
     rw[e,e]
    |false=>
     rw[E,jy lH]at j;refine PySem.W.kat_no ?_
     cases P:(b&&i==0)with
     |true=>obtain⟨⟨a,rfl⟩,c,rfl⟩:=hb P x y l m UV UV;have:=g1.int;subst this;have:=C.int;subst this;obtain⟨t,rfl⟩:=a1;obtain⟨Z,rfl⟩:=B;simp only[rV]at j;rw[<-lg j]at n;exact oneLt_int n
     |false=>exact PySem.W.kat_one _ _ (NS (.inl UV) I 50 x y L T _ _ O z A r (.inl g1) (.inl C) a1 B (by lia) (by lia) (by lia) j X.prog X.w _ _ n)
def aac(I:Inv X d f H s){O:AB}{u:List D}{N:List V}{e:jW}{A:jm}(hA:A.units+60<aV)(rr:YP X.K H O u N)(v:Vals N e){k:Nat}(B:HH k u):
  Ask (ai X.prog X.w) A (λT=>T=s) (Pk e) (J1 k) e.length (λi j=>Bj (u.getD i .V0)<|u.getD j .V0):=by
 intro i j hi hj T ao E';subst ao;have e1:=rr.length;have e2:=v.length;have J:u.getD i .V0∈u:=AI (by lia);have M:u.getD j .V0∈u:=AI (by lia);have ri:=uq rr (i:=i) (by lia);have rj:=uq rr (i:=j) (by lia);have vi:=uk v hi;have vj:=uk v hj;obtain⟨b,E⟩:=Mh.mp<|B.cm _ J _ M;have i9:=EF _ _ (B.pr _ J) (B.pr _ M) b E;have r:=B.hd _ J;have g:=B.hd _ M;have di:=B.dp _ J;have dj:=B.dp _ M;show ah _ _ (G0 (J1 k) (e.getD i au)<|e.getD j au) _ _ _;dsimp only;rw[<-i9];generalize u.getD i .V0=x at*;generalize u.getD j .V0=y at*;generalize N.getD i .V0=vx at*;generalize N.getD j .V0=vy at*;generalize e.getD i au=a at*;generalize e.getD j au=c at*
 have C:∀(l m:List D)(G:Bool),x=.tup l->y=.tup m->(G=Uf->∀x y Z m',l=x::Z->m=y::m'->(∃a,x=.int a)/\∃c,y=.int c)->ah (ai X.prog X.w) A (G0 (Op G) a c) (λU R=>R=T/\U=b) E' T:=λl m G F P hh=>by subst F P;obtain⟨p,us,rfl,q,r1⟩:=ri.tup;obtain⟨p2,ws,rfl,q2,r2⟩:=rj.tup;cases vi;cases vj;obtain⟨S,w1,⟨o,ho,hc,n,hd⟩,_⟩:=I.tuple q.sq;obtain⟨L,w2,⟨o2,t6,w9,n2,Y⟩,_⟩:=I.tuple q2.sq;simp only[rV]at E;rw[jh<|.inl trivial]at E;rw[D.dep]at di dj;refine PySem.W.kat_lt ho hd t6 Y ?_;have:=FW I (b:=G) hA (Q:=λU R=>R=T/\U=b) ⟨rfl,rfl⟩ l m us ws S L 0 0 (by lia) (by lia) (λh=>hh<|by simpa using h) r1 r2 w1 w2 E (decide<|S.toArray.size<L.toArray.size) (by simp[ny]);simpa using this
 match k,r,g with
 |0,r,g=>
  cases x with
  |int ix=>
   cases y with
   |int iy=>have:=ri.int;subst this;have:=rj.int;subst this;obtain⟨t,rfl⟩:=vi;obtain⟨t',rfl⟩:=vj;simp only[rV]at E;rw[<-lg E];show ah _ _ (G0 Go _ _) _ _ _;rw[keyLt'_oneType];exact oneLt_int ⟨rfl,rfl⟩
   |tup m=>cases m with
    |nil=>simp[lX]at g
    |cons z m=>cases z<;>simp[lX]at g
   |_=>simp[lX]at g
  |tup m=>cases m with
   |nil=>simp[lX]at r
   |cons z m=>cases z<;>simp[lX]at r
  |_=>simp[lX]at r
 |1,r,g=>
  cases x with
  |tup l=>
   cases y with
   |tup m=>
    refine C l m Uf UV UV λ_ x y Z m' F P=>?_;subst F P;refine⟨?_,?_⟩
    .cases x with
     |int a=>exact⟨a,rfl⟩
     |_=>simp[lX]at r
    cases y with
    |int a=>exact⟨a,rfl⟩
    |_=>simp[lX]at g
   |_=>simp[lX]at g
  |_=>simp[lX]at r
 |(n+2),r,g=>
  cases x with
  |tup l=>
   cases y with
   |tup m=>exact C l m UF UV UV λh=>absurd h lH
   |_=>simp[lX]at g
  |_=>simp[lX]at r
end
open PySem.W
section
variable {X:Cx}{c:jK}{y:L2.St}{H:Hp}{s:iT}
def F8(I:Inv X c y H s){O:AB}{T:iX}(P:D->Prop)(t:∀x v u,P x->Rep X.K H O x v->RelV v u->Looks (ai X.prog X.w) s.heap (kS u) T):∀{ds:List D}{b:List V}{a:jW},YP X.K H O ds b->Vals b a->
  (∀d∈ds,∃x l,d=.tup (x::l)/\P x)->∃fs,KatTups s.heap a fs/\(VP fs)=VP a/\∀f∈fs,Looks (ai X.prog X.w) s.heap (kS f) T:=by
 intro E
 induction E with
 |nil=>intro b a r v _;rw[YP]at r;subst r;cases v;exact⟨[],KatTups.nil,rfl,λf A=>absurd A pj⟩
 |cons d ds C'=>
  intro b a r v h;rw[YP]at r;obtain⟨W,Z,rfl,g1,g2⟩:=r
  cases v with
  |cons a1 j=>
   obtain⟨fs,L,Q,G⟩:=C' g2 j λd hd=>h d<|kE _ hd;obtain⟨x,l,rfl,J⟩:=h d kx;obtain⟨p,S,rfl,q,i⟩:=g1.tup;cases a1;obtain⟨Y,N,⟨o,B,z,n,hd⟩,_⟩:=I.tuple q.sq;rw[YP]at i;obtain⟨M,yr,rfl,m,R⟩:=i
   cases N with
   |cons k U=>
    rename_i f F;refine⟨f::fs,KatTups.cons B z hd (by simp) L,by simp[Q],λg e=>?_⟩;rcases nH.mp e with rfl|e
    .exact t x M _ J m k
    exact G g e
def WR(I:Inv X c y H s){O:AB}{ds:List D}{J:List V}{b:jW}{A:jm}(f:YP X.K H O ds J)(v:Vals J b){k:Nat}(B:HH k ds)(N:2<=b.length):
  ah (ai X.prog X.w) A (keyKind' b.toArray) (λL s'=>s'=s/\L=J1 k) (λ_ _=>False) s:=by
 have R:=f.length;have S:=v.length
 match k,B with
 |0,B=>
  refine kas_kind (T:=.type "int") N (λu F=>?_) UV UV ⟨rfl,rfl⟩;obtain⟨i,Q,e⟩:=zS F;have G:=uq f (i:=i) (by lia);have E:=uk v Q;have hd:=B.hd _ (AI (ds:=ds) (i:=i)<|by lia);have:b.getD i au=u:=by simp[Q,e]
  rw[this]at E
  cases h:ds.getD i .V0 with
  |int a=>rw[h]at G;have:=G.int;rw[this]at E;obtain⟨t,rfl⟩:=E;exact Looks.of_pure UV
  |tup l=>
   rw[h]at hd
   cases l with
   |nil=>simp[lX]at hd
   |cons z m=>cases z<;>simp[lX]at hd
  |_=>rw[h]at hd;simp[lX]at hd
 |1,B=>
  obtain⟨fs,f1,M,g⟩:=F8 I (T:=.type "int") (λx=>∃a,x=.int a) (λx P u j C r=>by
   obtain⟨a,rfl⟩:=j;have:=C.int;subst this;obtain⟨t,rfl⟩:=r
   exact Looks.of_pure UV) f v λd hd=>by
    have:=B.hd d hd
    cases d with
    |tup l=>
     cases l with
     |nil=>simp[lX]at this
     |cons z m=>
      cases z with
      |int a=>exact⟨_,m,rfl,a,rfl⟩
      |_=>simp[lX]at this
    |_=>simp[lX]at this
  exact kat_kind f1 (by lia) g UV ⟨rfl,rfl⟩
 |(n+2),B=>
  obtain⟨fs,f1,M,g⟩:=F8 I (T:=.type "tuple") (λx=>∃a,x=.tup a) (λx P u j C r=>by
   obtain⟨a,rfl⟩:=j;obtain⟨p,us,rfl,q,Z⟩:=C.tup;cases r;obtain⟨W,w1,⟨o,Y,U,n,hd⟩,_⟩:=I.tuple q.sq;have:Looks (ai X.prog X.w) s.heap (kS<|.ref p) o.cls:=(Looks.ld Y).andThen .now
   rw[U]at this;exact this) f v λd hd=>by
    have:=B.hd d hd
    cases d with
    |tup l=>
     cases l with
     |nil=>simp[lX]at this
     |cons z m=>
      cases z with
      |tup a=>exact⟨_,m,rfl,a,rfl⟩
      |_=>simp[lX]at this
    |_=>simp[lX]at this
  exact kat_kind f1 (by lia) g UV ⟨rfl,rfl⟩
def kJ(l:List D):Option (D×Bool):=if nv l=I/\(VP l)<=sizeLine then Y (.lst<|mW Bj l,I)else J
def mO(d:D):Option (D×Bool):=(uQ d).bind kJ
def afT{b:List V}{a:jW}(v:Vals b a):∀(p:jX),(∀i∈p,i<VP a)->Vals (p.map λi=>b.getD i .V0) (p.map λi=>a.getD i au):=by
 intro f
 induction f with
 |nil=>intro _;exact .nil
 |cons i p e=>intro h;exact .cons (uk v<|h i kx)<|e λj d=>h j<|kE _ d
def afJ{O:AB}{a:List D}{b:List V}(r:YP X.K H O a b):∀(p:jX),(∀i∈p,i<VP a)->YP X.K H O (p.map λi=>a.getD i .V0) (p.map λi=>b.getD i .V0):=by
 intro f
 induction f with
 |nil=>intro _;exact YP.nil
 |cons i p e=>intro h;exact YP.cons (uq r<|h i kx)<|e λj d=>h j<|kE _ d
def adJ{b:List D}{n:Nat}(e:n=VP b)(h1:(VP b)<=1){p:jX}(a:p.Perm (aj n)):p.map (λi=>b.getD i .V0)=mW Bj b:=by
 subst e
 match b,h1,a with
 |[],_,a=>
  have:p=[]:=by simpa using a.length_eq
  subst this;rfl
 |[d],_,a=>
  have e:(VP p)=1:=by simpa using a.length_eq
  match p,e,a with
  |[i],_,a=>
   have:i=0:=by have:=a.mem_iff.mp<|IL.mpr UV;simpa using this
   subst this;rfl
def qz(hu:X.A.units+62<aV)(I:Inv X c y H s){O:AB}{f:List D}{M:List V}{a:jW}{x:iX}{Q:VK}{z:D×Bool}(u:YP X.K H O f M)(v:Vals M a)(hg:kJ f=TW z)(G:Gen X.K H O z Q)
  (hc:∀(Y:List iX->Shared->Prop)(E':jG)(N:jm),N.handled=X.A.handled->(∀(h':jn)(d:Nat),(∀b o,s.heap.get? b=TW o->h'.get? b=TW o)->Y a {s with heap:=h',toks:=d})->ah (ai X.prog X.w) N (f8 x) Y E' s):
  ah (ai X.prog X.w) X.A (call (.builtin "sorted") [x]) (EP X c y Q) X.xe s:=by
 unfold kJ at hg;obtain⟨⟨L,hz⟩,rfl⟩:=jz hg;have r:=u.length;have e2:=v.length;refine Calls.call_function_entry TD OO Ps (args_sorted1 _) ?_;unfold bc.«sorted»;refine iP (m:=checkCount "sorted" 1 1 _)<|je ?_;refine iP<|hc _ _ _ rfl λh1 d R=>?_;refine iP<|Di ?_ (by lia);have t:(h1.push<|br "list" a.toArray 0).get? h1.objs.size=TW (br "list" a.toArray 0):=kD _ rfl;have C:Inv X c y H {s with heap:=h1,toks:=d}:=I.kept R
 have keep:∀b o,h1.get? b=TW o->(qb (h1.push<|br "list" a.toArray 0) h1.objs.size a).get? b=TW o:=λb o l=>by have P:b≠h1.objs.size:=kI<|ki l;refine kb _ (kb _ ?_);rw[GW _ _ _ _ P];exact kb _ l
 have U:Inv X c y H {s with heap:=qb (h1.push<|br "list" a.toArray 0) h1.objs.size a,toks:=d}:=C.kept keep;have Z:∀i∈aj a.length,i<a.length:=λi q=>by simpa using q
 refine iP<|mz<|pY (s:={s with heap:=h1.push<|br "list" a.toArray 0,toks:=d}) F2 ⟨_,t,rfl⟩ AC ?body<|args_list_sort _
 case body=>
  have fin:∀p:List Nat,p.Perm (aj a.length)->p.map (λi=>f.getD i .V0)=mW Bj f->EP X c y Q (.ref h1.objs.size) {s with heap:=(qb (h1.push<|br "list" a.toArray 0) h1.objs.size a).update h1.objs.size<|aO λ_=>(p.map λi=>a.getD i au).toArray,toks:=d}:=λp e T=>by
   have F:∀i∈p,i<a.length:=λi q=>by simpa using e.mem_iff.mp q
   have J:∃n,(qb (h1.push<|br "list" a.toArray 0) h1.objs.size a).get? h1.objs.size=TW (br "list" #[] n):=by
    obtain⟨r,S⟩:∃r,((h1.push<|br "list" a.toArray 0).update h1.objs.size<|aO λ_=>(#[]:Array iX)).get? h1.objs.size=TW (br "list" #[] r):=⟨_,xq t λ_=> #[]⟩
    exact⟨r,kb _ (kb _ S)⟩
   obtain⟨n,J⟩:=J;obtain⟨E,W⟩:∃E,((qb (h1.push<|br "list" a.toArray 0) h1.objs.size a).update h1.objs.size<|aO λ_=>(p.map λi=>a.getD i au).toArray).get? h1.objs.size=TW (br "list" (p.map λi=>a.getD i au).toArray E):=⟨_,xq J λ_=>(p.map λi=>a.getD i au).toArray⟩
   have g:∀b o,h1.get? b=TW o->((qb (h1.push<|br "list" a.toArray 0) h1.objs.size a).update h1.objs.size<|aO λ_=>(p.map λi=>a.getD i au).toArray).get? b=TW o:=λb o l=>by rw[GW _ _ _ _ (kI<|ki l)];exact keep b o l
   have pl:p.length=a.length:=by simpa using e.length_eq
   refine⟨.ref h1.objs.size,_,C.laid (t':=d) g (kg _) (show AA X.prog X.w _ _ _ (.lst<|p.map λi=>M.getD i .V0)from⟨by rw[ke];lia,_,E,afT v p F,W⟩),rfl,?_⟩;refine G.lst C.fresh ?_;rw[<-T];exact afJ u p λi q=>by have:=F i q;lia
  rcases Cf L with hlen|⟨k,B⟩
  .refine uT (κ:=general') (lt:=λ_ _=>UF) (s:={s with heap:=h1.push<|br "list" a.toArray 0,toks:=d}) t (by lia) (λ_ _ _=>rfl) (λ_ _=>rfl) (λh=>by lia) (λh=>by lia) λp e _=>⟨_,rfl,je ⟨_,rfl,fin p e ?_⟩⟩
   exact adJ (by lia) hlen e
  refine uT (κ:=J1 k) (lt:=λi j=>Bj (f.getD i .V0)<|f.getD j .V0) (s:={s with heap:=h1.push<|br "list" a.toArray 0,toks:=d}) t (by lia) (λ_ _=>aad _ _) YQ (λh=>WR U u v B h) (λ_=>aac (A:=X.A.in1.in1) U (by show X.A.units+1+1+60<aV;lia) u v B) λp e T=>⟨_,rfl,je ⟨_,rfl,fin p e<|aeB B.pr (by rw[show f.length=a.length by lia];exact e) T⟩⟩
def wO(j:X.A.units+62<aV):kL X (.builtin "sorted") (Ga X.K<|g1 mO):=nC λc s y H x u Q O d z U t np hd a G=>by
 obtain⟨l,g,a⟩:=iR a
 have M:l.length<=sizeLine:=by unfold kJ at a;exact(jz a).1.2
 cases d with
 |lst m=>
  cases g;obtain⟨p,J,rfl,q,r⟩:=kU hd;cases t;obtain⟨i,v,T,_⟩:=U.list q;have E:=r.length;have L:=v.length;obtain⟨o,h,f,n,hd⟩:=T.isList;refine qz j U r v a G λN B w _ e=>GV p (.inl UV) h f hd (λb k=>by simpa using e b s.toks k) (by rw[kH];lia)
 |tup m=>
  cases g;obtain⟨p,J,rfl,q,r⟩:=lL hd;cases t;obtain⟨i,v,⟨o,h,f,n,hd⟩,_⟩:=U.tuple q;have E:=r.length;have L:=v.length;refine qz j U r v a G λN B w _ e=>GV p (.inr UV) h f hd (λb k=>by simpa using e b s.toks k) (by rw[kH];lia)
 |_=>cases g
def aft:ax "sorted"=Y (.builtin "sorted"):=by decide+kernel
end
def ox:ax "isinstance"=Y (.builtin "isinstance"):=by decide+kernel
structure Tx(mg:lJ):Prop where
 n_len:mg "len"=T2
 n_abs:mg "abs"=T2
 n_int:mg "int"=T2
 n_tuple:mg "tuple"=T2
 n_list:mg "list"=T2
 n_range:mg "range"=T2
 n_isinstance:mg "isinstance"=T2
 n_bool:mg "bool"=T2
 n_max:mg "max"=T2
 n_min:mg "min"=T2
 n_all:mg "all"=T2
 n_any:mg "any"=T2
 n_sorted:mg "sorted"=T2
 n_enumerate:mg "enumerate"=T2
 n_zip:mg "zip"=T2
 n_set:mg "set"=T2
def S8{P:jq}{w:jk}{K:jr}{g:lJ}{base:jn}{f:iO}{d:mD}{i:jB}{k:Nat}:D9 P w K g base HJ k f d i (KG K λ_=>J) where
 len:=λj U Q E h=>by obtain⟨T,a,r,b,_,e,_⟩:=h;cases e
 run:=λA c s U a l j Q E _ _ _ _ h=>by obtain⟨T,a,r,b,_,e,_⟩:=h;cases e
def aeG{K:jr}{U:Hp}{O:AB}:∀a:List Int,YP K U O (a.map .int) (a.map V.int):=by
 intro c
 induction c with
 |nil=>exact YP.nil
 |cons n a b=>exact YP.cons Rep.mkInt<|b
def Bc(d e:cK)(a b c:FO):F:=λf=>(a f).bind λp=>(b p.2).bind λq=>match res q.2 p.1,res q.2 q.1 with
 |some (.int i),Y (.int j)=>if ny d i j=I then(c q.2).bind λr=>match res r.2 r.1 with
   |some (.int k)=>Y ((.bl<|ny e j k,C),r.2)
   |_=>J
  else Y ((.bl C,C),q.2)
 |_,_=>J
section
variable {X:Cx}{a b c:iW}{m l g:FO}{n:bn}{d f:cK}
def JH(h:Cy d):BY X (ay d) (KL λi j=>.bl (ny d i j)):=by
 rcases h with rfl|rfl|rfl|rfl
 .exact Zt
 .exact Zu
 .exact Zv
 exact Zw
def ae5(A:tF X.K (Bc d f m l g) σ H' Q):Nr (KL λi j=>.bl (ny d i j)) (KL λi j=>.bl (ny f i j)) (tO X.K m) (tO X.K l) (tO X.K g) σ H' Q:=by
 obtain⟨M,T,F,N,E,e,k⟩:=A;unfold Bc at e;obtain⟨x,p,h1,e⟩:=iY e;obtain⟨G,q,y,e⟩:=iY e;refine⟨M,T,x,p,E,h1,λv U h=>⟨p,B7 T x v,G,q,h.er E,y,λu Y o=>?_⟩⟩;have B:=Ops.cons E h<|Ops.cons (h.er E) o<|Ops.nil<|o.er<|h.er E;dsimp only at e;split at e
 .rename_i i j C I;have hv:=jJ<|B.view (j:=0) H H C;have t:=jJ<|B.view (j:=1) H H I;refine⟨i,j,hv,t,ny d i j,rfl,?_⟩;by_cases c:ny d i j=Uf
  .rw[jh c]at e ⊢;obtain⟨J,r,z,e⟩:=iY e;dsimp only at e;split at e
   .rename_i O L;obtain⟨rfl,rfl⟩:=jw e;refine⟨q,_,J,r,o.er<|h.er E,z,λw D P3=>?_⟩;have s:=Ops.cons E h<|Ops.cons (h.er E) o<|Ops.cons (o.er<|h.er E) P3<|Ops.nil<|P3.er<|o.er<|h.er E;exact⟨j,O,t,jJ<|s.view (j:=2) H H L,(s.done k).bl⟩
   cases e
  rw[jy c]at e ⊢;obtain⟨rfl,rfl⟩:=jw e;exact(B.done k).bl
 cases e
end
noncomputable def OW(x:V)(c:Bool):Bool:=match x with
 |.bl b=>b==c
 |_=>C
noncomputable def gIs:D->D->Option (D×Bool)
 |.bl b,.bl c=>Y (.bl<|b==c,C)
 |_,.bl _=>Y (.bl C,C)
 |.V0,.V0=>Y (.bl I,C)
 |_,.V0=>Y (.bl C,C)
 |_,_=>J
noncomputable def W7:D->D->Option (D×Bool)
 |.bl b,.bl c=>Y (.bl (!(b==c)),C)
 |_,.bl _=>Y (.bl I,C)
 |.V0,.V0=>Y (.bl C,C)
 |_,.V0=>Y (.bl I,C)
 |_,_=>J
section
variable {X:Cx}
def IY(a:RelV x v)(c:Bool):plainIs v (.bool c)=I/\(v== .bool c)=OW x c:=by
 cases x<;>first
  |(cases a;exact⟨rfl,rfl⟩)
  |(obtain⟨t,rfl⟩:=a;exact⟨rfl,rfl⟩)
  |(rename_i b;cases a;refine⟨rfl,?_⟩;cases b<;>cases c<;>rfl)
def OC:BY X (ay .Is) (λx y T Q=>∃c,y=.bl c/\Q (.bl<|OW x c) T):=by intro a s f T x y v u Q U d e h;obtain⟨c,rfl,q⟩:=h;cases e;obtain⟨h1,b⟩:=IY d c;exact wpAny_is_plain h1<|Ey U q (by rw[b])
def Cn:BY X (ay .IsNot) (λx y T Q=>∃c,y=.bl c/\Q (.bl (!OW x c)) T):=by intro a s f T x y v u Q U d e h;obtain⟨c,rfl,q⟩:=h;cases e;obtain⟨h1,b⟩:=IY d c;exact wpAny_isNot_plain h1<|Ey U q (by rw[b])
def Ai{K U}(h:kz K U O (.bl b) v):v=.bl b:=h.elim (λh=>h.bl) λ⟨_,_,h⟩=>h.elim
def xY{K U}(h:kz K U O .V0 v):v=.V0:=h.elim (λh=>h.V0) λ⟨_,_,h⟩=>h.elim
def afS{K U}(h:kz K U O d v)(f:∀b,d≠ .bl b)(c:Bool):OW v c=C:=by
 cases d with
 |bl b=>exact absurd H<|f b
 |V0=>rw[xY h];rfl
 |int i=>rw[jJ h];rfl
 |str x=>
   rcases h with h|⟨a,_,h⟩
   .rw[h.str];rfl
   exact h.elim
 |tup l=>
   rcases h with h|⟨a,_,h⟩
   .rw[Rep]at h;obtain⟨a,e,rfl,_⟩:=h;rfl
   exact h.elim
 |lst l=>
   rcases h with h|⟨a,rfl,h⟩
   .rw[Rep]at h;obtain⟨a,e,rfl,_⟩:=h;rfl
   rfl
 |AE _ _ _=>
   rcases h with h|⟨a,rfl,h⟩
   .rw[Rep]at h;obtain⟨a,e,rfl,_⟩:=h;rfl
   rfl
def ac7{K U}(h:kz K U O d v)(e:d≠ .V0):v≠ .V0:=by
 cases d with
 |bl b=>rw[Ai h];intro z;cases z
 |V0=>exact absurd H e
 |int i=>rw[jJ h];intro z;cases z
 |str x=>
   rcases h with h|⟨a,_,h⟩
   .rw[h.str];intro z;cases z
   exact h.elim
 |tup l=>
   rcases h with h|⟨a,_,h⟩
   .rw[Rep]at h;obtain⟨a,c,rfl,_⟩:=h;intro z;cases z
   exact h.elim
 |lst l=>
   rcases h with h|⟨a,rfl,h⟩
   .rw[Rep]at h;obtain⟨a,c,rfl,_⟩:=h;intro z;cases z
   intro z;cases z
 |AE _ _ _=>
   rcases h with h|⟨a,rfl,h⟩
   .rw[Rep]at h;obtain⟨a,c,rfl,_⟩:=h;intro z;cases z
   intro z;cases z
def R7(n:Bool):BY X (ay (if n then .IsNot else .Is)) (rD X.K (if n then W7 else gIs)):=by
 intro a s j T x y v u Q U g i h;obtain⟨O,d,e,z,np,h1,o,l,G⟩:=h
 cases e with
 |bl c=>
  have f:=Ai o;by_cases k:∃b,d=.bl b
  .obtain⟨b,rfl⟩:=k;cases n<;>cases l<;>(first|refine OC a s j T x y v u Q U g i ⟨c,f,?_⟩|refine Cn a s j T x y v u Q U g i ⟨c,f,?_⟩)<;>(rw[Ai h1];exact G.bl)
  have p:∀b,d≠ .bl b:=λb z=>k ⟨b,z⟩;have m:z=(.bl n,C):=by cases n<;>cases d<;>first|exact absurd H (p _)|(cases l;rfl)
  subst m;cases n<;>(first|refine OC a s j T x y v u Q U g i ⟨c,f,?_⟩|refine Cn a s j T x y v u Q U g i ⟨c,f,?_⟩)<;>(rw[afS h1 p c];exact G.bl)
 |V0=>
  have f:=xY o;by_cases k:d=.V0
  .subst k;cases n<;>cases l<;>(first|refine OB a s j T x y v u Q U g i ⟨f,?_⟩|refine JF a s j T x y v u Q U g i ⟨f,?_⟩)<;>(rw[xY h1];exact G.bl)
  have m:z=(.bl n,C):=by cases n<;>cases d<;>first|exact absurd H k|(cases l;rfl)
  subst m;cases n<;>(first|refine OB a s j T x y v u Q U g i ⟨f,?_⟩|refine JF a s j T x y v u Q U g i ⟨f,?_⟩)<;>(rw[mq<|ac7 h1 k];exact G.bl)
 |_=>cases n<;>cases d<;>cases l
def Wo:BY X (ay .Is) (rD X.K gIs):=R7 C
end
end PX
namespace HT
open L2
section
variable {a:jq}{w:jk}{A:jm}{E:jG}{s:iT}
def aee{t c:iO}{items:nZ}{g i:iX}{lo d:Option Int}{Q:jG}(b:j3 s.heap t items)(e:s.heap.IsSliceOf c g i .none)(n:ey g lo)(o:ey i d)
  (f:BW items.size 0 lo=0/\BW items.size items.size d=items.size)(h:Q (.ref t) s):ah (ai a w) A (d1 (.ref t)<|.ref c) Q E s:=by
 obtain⟨os,j,k,p⟩:=id e;have l:s.TypeIs (.ref c) "slice":=⟨os,j,k⟩
 unfold d1
 try with_reducible refine mz ?_
 first|refine iP (je ?_)|skip
 refine iP<|tv b.typeIs (by decide) ?_
 refine iP (tD (name:=bN "__getitem__") b.typeIs BC
  (pY BC b.typeIs MX ?_<|s9 _ _))
 show ah _ _ (cO (.ref t)>>=_) _ _ s;refine iP<|K3 b ?_;refine iP<|vZ l ?_;rw[jh<|by decide];refine iP<|qI e n o ?_;rw[f.1,f.2];show ah _ _ (if((((0:Nat):Int)==0&&(1:Int)==1&&(items.size-0)==items.size)=I)then _ else _) _ _ s;rw[jh<|by simp];refine iP (m:=eW _) ?_;unfold eW;refine iP<|vZ b.typeIs ?_;refine je ?_;rw[jh<|by decide];refine iP<|sL ?_
 first
  |exact iP<|je ⟨_,rfl,je h⟩
  |exact je ⟨_,rfl,je h⟩
  |exact iP<|je<|je ⟨_,rfl,je h⟩
  |(refine iP ?_;trace_state;done)
end
end HT
namespace PX
open L2 PySem.SeqAt
noncomputable def rl(l:List D)(lo a:Option Int):List D:=(l.drop<|HT.BW (VP l) 0 lo).take<|HT.BW (VP l) (VP l) a-HT.BW (VP l) 0 lo
def N7(lo a:Option Int):D->Option (D×Bool)
 |.tup l=>Y (.tup<|rl l lo a,C)
 |.lst l=>Y (.lst<|rl l lo a,I)
 |_=>J
inductive rSlD(K:jr)(x:V)(lo hi:Option Int)(H:Hp)(Q:VK):Prop where
 |mk (O:AB) (d:D) (z:D×Bool) (_:∀p,¬Ow (H p)->¬O p) (_:kz K H O d x) (_:N7 lo hi d=TW z) (_:Gen K H O z Q)
def YP.cut{K U}(r:YP K U O l xs)(lo a:Option Int):YP K U O (rl l lo a) (Ge xs lo a):=by unfold rl Ge;rw[r.length];exact(r.drop _).take _
section
variable {X:Cx}
def Fj{b:jK}{s:iT}{h:L2.St}{N:Hp}{a:iO}{v e f:iX}{lo c:Option Int}{d:iO}{Q:VK}{O:AB}{l:List D}{g:List V}(U:Inv X b h N s)(n:RelV (.ref a) v)(j:s.heap.IsSliceOf d e f .none)(k:ey e lo)(m:ey f c)
  (q:F5 X.K N a g)(r:YP X.K N O l g)(G:Gen X.K N O (.lst<|rl l lo c,I) Q):∃T id,gR (.type T) "__getitem__"=pure (Y<|.builtin id)/\s.TypeIs v T/\ah (ai X.prog X.w) X.A (d1 v<|.ref d) (EP X b h Q) X.xe s:=
 Rj b s h N (.ref a) v e f lo c d Q U n j k m ⟨a,g,rfl,q,λp i=>G.lst i<|r.cut lo c⟩
def Y8:Ot X (rSlD X.K):=by
 intro f s E N x v B T lo g A Q U n i k m h;obtain⟨O,d,z,np,hd,o,G⟩:=h
 cases d with
 |tup l=>
  cases o;rcases hd with hd|⟨a,_,h⟩
  .obtain⟨a,b,rfl,q,r⟩:=hd.tup;by_cases j:HT.BW b.length 0 lo=0/\HT.BW b.length b.length g=b.length
   .cases n;obtain⟨t,y,w,L⟩:=U.tuple q.sq;have c:t.toArray.size=b.length:=by rw[kH];exact y.length.symm
    refine⟨"tuple",_,BC.lookup,w.typeIs,?_⟩;refine HT.aee w i k m (by rw[c];exact j) ⟨.ref a,N,U,rfl,?_⟩
    have e:rl l lo g=l:=by unfold rl;rw[<-r.length,j.1,j.2];simp[r.length]
    rw[e]at G;exact G (.ref a) N (λ_ _ e=>e) hd
   exact Vp f s E N (.ref a) v B T lo g A Q U n i k m ⟨a,b,rfl,q.sq,j,λp u=>G.tup u (np p<|Nm u)<|r.cut lo g⟩
  exact h.elim
 |lst l=>
  cases o;rcases hd with hd|⟨a,rfl,h⟩
  .obtain⟨a,b,rfl,q,r⟩:=hd.lst;exact Fj U n i k m q.sq r G
  obtain⟨b,e,r⟩:=h;exact Fj U n i k m (.inl<|.inl e) r G
 |_=>cases o
end
def CD(a b:FO):F:=λδ=>(a δ).bind λp=>(b p.2).bind λq=>match res q.2 q.1 with
 |some (.int i)=>(res q.2 p.1).bind λx=>(N7 (Y i) J x).bind λz=>Y (z,q.2)
 |_=>J
def wK(a b:FO):F:=λδ=>(a δ).bind λp=>(b p.2).bind λq=>match res q.2 q.1 with
 |some (.int i)=>(res q.2 p.1).bind λx=>(N7 J (Y i) x).bind λz=>Y (z,q.2)
 |_=>J
section
variable {X:Cx}{a lo d:iW}{g e f:FO}{b c:bn}
end
end PX
namespace L2
section
variable {X:Cx}
def Y3(U:It)(g:TG)(b:TT)(a:iO->TB)(pre:St->St)(c:St)(T:Hp)(Q:VK):Prop:=Fc (.set (λ_=>C) 0) U g b a pre c T Q
def HB(c:TI)(g:TG)(ti:TT)(tb:iO->TB)(pre:St->St):TE:=λa T Q=>c a T λU b=>Y3 U g ti tb pre a b Q
def Vk(d:iO)(e:TE):TB:=λc U N=>e c U λy a=>∃k S n,y=.int k/\a d=Y (.set S n)/\n+1<iE/\N c (upd a d<|.set (λb=>S b||decide (b=k)) (if S k then n else n+1))
def agr{a:iW}{c:oN}{i:jS}{p:bn}{depth:Nat}{d:iO}{j:TE}(E:c[depth+1]?=T2)(M:PE X a j):PB X (jT (.SetComp a c i p) depth (.ref d) X.env) (Vk d j):=by
 intro f s m H N U h
 have r:jT (.SetComp a c i p) depth (.ref d) X.env=(do let v <-aX a X.env;cQ a.pos;let _ <-call (.builtin "set.add") [.ref d,v]):=by unfold jT;simp -iota only[clausesOf.eq_def];rw[E]
 rw[r];refine iP<|Ak (M f s m H _ U h) ?_;rintro u s1 ⟨y,H1,g,G,k,S,n,z,hd,Q,q⟩;subst z;obtain⟨t,rfl⟩:=G;have A:s1.heap.SetOf (lw X.prog X.w) d S n:=g.hok d _ hd;refine iP<|tH<|iP<|call_set_add (knd:=lw X.prog X.w) (k:=k) (intKind_is _ _ k t) UV A Q λJ T l=>je ⟨m,_,?_,q⟩;refine g.write (x:=d) (e:=d) (by rw[hd];exact trivial) (.inl UV) (λb u B O=>by rw[T.2 b B];exact O) ?_ l;obtain⟨o,_,_,_,L,_⟩:=l;exact⟨o,L⟩
end
end L2
namespace PX
open L2 PySem.SeqAt
noncomputable def EI(f:F):FB:=λa b=>(f b).bind λp=>match p.1.1 with
 |.int k=>if (VP a)+1<iE then Y (a++[.int k],p.2)else J
 |_=>J
section
variable {X:Cx}{A:kB}{d:iO}{c:iW}{f:F}
def afc{j:oN}{J:jS}{p:bn}{depth:Nat}(E:j[depth+1]?=T2)(y:PX X c f):PB X (jT (.SetComp c j J p) depth (.ref d) X.env) (IF Uf X.K A d<|EI f):=PB.imp' (agr E y) λm H N I=>by
 obtain⟨w,T,g,Y,M,B,e,k⟩:=I;obtain⟨r,h,h1,e⟩:=iY e;obtain⟨O,Q⟩:=r
 cases O with
 |int i=>
  obtain⟨U,e⟩:=jz e;obtain⟨rfl,rfl⟩:=sH e;refine⟨w,T,(.int i,Q),h,B.er,h1,λv s P=>?_⟩;obtain⟨q,G⟩:=P.rep B.er;have hv:v=.int i:=G.int;have t:SK A m w H m h s:=P.1.sk;have x:=B.step t q;have C:=Ro g (λ_=>UF,0);refine⟨i,_,_,hv,x.at',by unfold oh;lia,k m _ ?_ ?_⟩
  .have:KI A d m h s m h (upd s d<|.set (λu=>(oh g).1 u||decide (u=i)) (if(oh g).1 i then(oh g).2 else(oh g).2+1)):=⟨λa o e n L=>by rw[jx L];exact e,λi a z=>.inl z,λa z=>by
    by_cases l:a=d
    .subst l;rw[ju];simp
    rw[jx l];exact z,λ_ _=>rfl⟩
   exact t.LX.trans this
  refine⟨q.mono (λb o e n=>by rw[jx<|by intro z;subst z;exact n B.td];exact e) (λ_ _ z=>z) λa z=>?_,B.td,?_⟩
  .by_cases l:a=d
   .subst l;rw[ju];trivial
   rw[jx l];exact q.dom a z
  show upd _ _ _ _=_;rw[ju,Ci]
 |_=>cases e
end
def uB(b:jX)(k:Nat)(d:EG)(e:Tg)(ti:FT)(c:FB):F:=λf=>(d f).bind λp=>(kn p.2<|b.map .slot).bind λa=>if(jF (b.map .slot) a).Nodup then(kP e ti c p.1 []<|a.map Y++ag k J).bind λq=>Y ((.int (oh q.1).2,C),wb (b.map .slot) a (jH a q.2) p.2)else J
def ae4{K:jr}{b:jX}{k:Nat}{f:EG}{g:Tg}{ti:FT}{e:FB}{j:L2.St}{U:Hp}{Q:VK}(h:tF K (uB b k f g ti e) j U Q):
  HB (tI K (λi=>i∉b) f) (tG K (λi=>VP b<=i) g) (tT K ti) (λd=>IF I K (λi=>VP b<=i) d e) (yU b k) j U (λx c=>∃S n,∃a,x=.ref a/\c a=Y (.set S n)/\Q (.int n) c):=yw (S:=I) h
section
variable {X:Cx}{l:iW}{c:oM}{f:oN}{scope:jS}{j y p:bn}{O:jB}{b:jX}{k:Nat}{L:EG}{A:Tg}{ti:FT}{B:FB}
def aeM:kL X (.builtin "len") (λi H' Q=>∃S n,∃a,i=[.ref a]/\H' a=Y (.set S n)/\Q (.int n) H'):=by
 intro g s M H' i G Q U r h;obtain⟨S,n,a,rfl,e,q⟩:=h;obtain⟨u,rfl,N⟩:=qy r;cases N;obtain⟨o,m,E,t,z,hex,hd,_,_,T,v,x⟩:=(show s.heap.SetOf (lw X.prog X.w) a S n from U.hok a _ e)
 have d:(m.size:Int)<2^63:=by
  have:iE=4096:=rfl
  lia
 refine call_len_set z hex hd v d ⟨.int n,H',?_,⟨_,by rw[x]⟩,q⟩;exact(U.tok _)
def aen{z:av}(C:EL X O scope b k)(hc:X.calm=Uf)(ha:c.is_async=0)(j9:∀U,f[0]?=TW U->U.is_async=0)
  (hs:∀x,aw c.iter X.env x=pure x)(pi:LH X (λi=>i∉b) c.target c.iter L)
  (m9:∀(cl:lb)(C:iO)(s3:iT)(H3:Hp)(fp:kW)(r:jK),let t:=X.comp O scope cl C s3 H3 fp r
   LQ t (λi=>VP b<=i) c.target A/\KS t c.ifs (tT X.K ti)/\∀d,PB t (jT (.SetComp l (c::f) scope j) 0 (.ref d) t.env)<|IF Uf X.K (λi=>VP b<=i) d B)
  (hg:Gl X z)(hm:X.mg z=T2)(hv:ax z=TW (.builtin "len"))(hn:z≠"__name__")(j4:(z==("__debug__":av))=UF)
  (h1:ae [.SetComp l (c::f) scope j] X.env=(UF,aX (.SetComp l (c::f) scope j) X.env)::ae [] X.env)(f9:(aI y<|ae [] X.env).any (·.1)=UF):
  PX X (.Call (.Name z p) [.SetComp l (c::f) scope j] [] y) (uB b k L A ti B):=
 PX.imp (tM aeM hg hm hv (lS (D2 (fp:=c.iter.pos) (new:=Db<|.type "set") (o:=.set (λ_=>UF) 0) (g:=tG X.K (λi=>VP b<=i) A) (ti:=tT X.K ti) (tb:=λd=>IF Uf X.K (λi=>VP b<=i) d B) C.N0 hc ha j9 hs pi m9 (λ_ _ _ k=>wpAny_newSet_of (knd:=lw X.prog X.w) λ_ R=>k _ λ_=>R) (.inr ⟨_,_,_,_,rfl⟩) (hev:=by cases c;rfl)) oI h1) hn j4 h1 f9) λY H Q h=>by
  have q:=ae4 h
  have mono:∀{u I:VK},(∀v H,u v H->I v H)->HB (tI X.K (λi=>i∉b) L) (tG X.K (λi=>VP b<=i) A) (tT X.K ti) (λd=>IF Uf X.K (λi=>VP b<=i) d B) (yU b k) Y H u->HB (tI X.K (λi=>i∉b) L) (tG X.K (λi=>VP b<=i) A) (tT X.K ti) (λd=>IF Uf X.K (λi=>VP b<=i) d B) (yU b k) Y H I:=by
   rintro u I hq ⟨δ,T,ds,G,E,h1,kk⟩;refine⟨δ,T,ds,G,E,h1,λJ N P D ok d hd=>?_⟩;obtain⟨W,V,step⟩:=kk J N P D ok d hd;refine⟨W,V,λi m M F w=>?_⟩;rcases step i m M F w with⟨s1,s2⟩|s
   .exact .inl ⟨s1,hq _ _ s2⟩
   exact .inr s
  exact mono (λv N a'=>by obtain⟨S,n,a,e,h2,h3⟩:=a';exact ⟨S,n,a,by rw[e],h2,h3⟩) q
end
end PX
namespace HT
open L2
section
variable {a:jq}{w:jk}{A:jm}{E:jG}{s:iT}
end
end HT
namespace L2
section
variable {X:Cx}{e st:iW}{c b:TE}{a d:bn}
end
end L2
namespace PX
open L2 PySem.SeqAt
section
variable {X:Cx}{a st:iW}{d fs:FO}{b c:bn}
end
section
variable {b:kr}{a:dG}
end
end PX
namespace TT
noncomputable def S:Nat->Nat
 |0=>0
 |n+1=>5*S n+1
theorem Kv(m:Nat):∀n:Nat,S (m+n)=5^n*S m+S n
 |0=>by simp[S]
 |n+1=>by rw[<-xv,S,Kv m n,S,rB,va,<-rA,uZ 5 (5^n)];lia
theorem A7:∀n:Nat,∃c,5^n=4*c+1
 |0=>⟨0,rfl⟩
 |n+1=>by obtain⟨c,e⟩:=A7 n;exact⟨5*c+1,by rw[rB,e];lia⟩
theorem Qw:∀k:Nat,∃c,S (2^k)=2^k*(2*c+1)
 |0=>⟨0,rfl⟩
 |k+1=>by
  obtain⟨c,e⟩:=Qw k;obtain⟨d,f⟩:=A7 (2^k)
  have h:S (2^(k+1))=(5^2^k+1)*S (2^k):=by rw[rB,Nat.mul_two,Kv,GU,GS]
  refine⟨2*(d*c)+d+c,?_⟩;rw[h,f,e,rB];have:4*d+1+1=2*(2*d+1):=by lia
  rw[this,rA 2,uZ (2*d+1),rA (2^k),rA (2^k),<-rA 2 (2^k),uZ 2 (2^k),rA (2^k) 2]
  congr 2
  rw[GU,va,GS,xm,rA 2 c,Dh c 2 d,uZ c d]
  lia
def Qx(k n:Nat):S (2^k+n)%2^k=S n%2^k:=by obtain⟨c,e⟩:=Qw k;rw[Kv,e,Dh,r8]
def Ku:∀(k e:Nat),e<2^k->∃n,n<2^k/\S n%2^k=e:=by
 intro u
 induction u with
 |zero=>intro e h;exact⟨0,by simp,by simp at h;subst h;rfl⟩
 |succ k t=>
  intro e h;have l:0<2^k:=r6 k;obtain⟨n,z,s⟩:=t (e%2^k)<|xj _ l;obtain⟨c,m⟩:=Qw k;obtain⟨d,o⟩:=A7 n
  have b:S (2^k+n)=2^(k+1)*(4*d*c+2*d+c)+2^k+S n:=by
   rw[Kv,m,o,rB,Dh,rA (2^k) 2]
   have:(4*d+1)*(2*c+1)=2*(4*d*c+2*d+c)+1:=by rw[GU,va,GS,xm,Dh (4*d) 2 c];lia
   rw[this,va,xm]
  rw[rB]at h b ⊢;generalize 2^k=P at*;have j:=r9 (S n) P;have i:=r9 e P;rw[s]at j;have A:e / P<2:=Nat.div_lt_of_lt_mul (by rw[uZ]at h;lia)
  have mk:∀a q x,a=P*2*q+x->x<P*2->a%(P*2)=x:=λa q x h1 b=>by rw[h1,r8,Nat.mod_eq_of_lt b]
  have y:=xj e l;have v:S n / P=2*(S n / P / 2)+S n / P%2:=by lia
  have g:S n=P*2*(S n / P / 2)+(P*(S n / P%2)+e%P):=by rw[rA,<-xv,<-va,<-v];exact j.symm
  generalize S n / P / 2=q at g;have w:S n / P%2<2:=xj _ (by decide);generalize S n / P%2=r at g w;generalize e / P=f at*;by_cases p:r=f
  .exact⟨n,by lia,mk _ q _ (by rw[g,p,i]) h⟩
  refine⟨P+n,by lia,mk _ (4*d*c+2*d+c+q+r) _ ?_ h⟩;rw[b,g,va (P*2) _ r,va (P*2) _ q];rcases(show r=0\/r=1 by lia)with rfl|rfl
  .have:f=1:=by lia
   subst this;rw[GR,GR];rw[xm]at i;lia
  have:f=0:=by lia
  subst this;rw[xm,xm];rw[GR]at i;lia
noncomputable def ls(mask:Nat)(h:Int):Nat->Nat×Nat
 |0=>(aM h%(mask+1),aM h)
 |k+1=>cH mask (ls mask h k).1 (ls mask h k).2
def TM(h:Int):aM h<2^64:=by
 unfold aM;have:=GQ h (show(0:Int)<2^64 by decide);have:=GP h (show(2^64:Int)≠0 by decide)
 lia
def JO(mask:Nat)(h:Int):∀k,(ls mask h k).1<=mask
 |0=>by have:=xj (aM h) (show 0<mask+1 by lia);show _%(mask+1)<=_;lia
 |k+1=>by show(_%(mask+1))<=_;have:=xj ((ls mask h k).1*5+1+(ls mask h k).2 / 32) (show 0<mask+1 by lia);lia
theorem JN(mask:Nat)(h:Int):∀k,(ls mask h k).2=aM h / 32^k
 |0=>by simp[ls]
 |k+1=>by show(ls mask h k).2 / 32=_;rw[JN mask h k,rB,Nat.div_div_eq_div_mul]
def So(mask:Nat)(h:Int)(k:Nat)(hk:13<=k):(ls mask h k).2=0:=by rw[JN];refine Nat.div_eq_of_lt<|nY (TM h) ?_;exact lV (show 2^64<=32^13 by decide)<|zL (by decide) hk
theorem OS(mask:Nat)(h:Int)(m:Nat)(a:(ls mask h 13).1=S m%(mask+1)):∀n,(ls mask h (13+n)).1=S (m+n)%(mask+1)
 |0=>a
 |n+1=>by show(((ls mask h (13+n)).1*5+1+(ls mask h (13+n)).2 / 32)%(mask+1))=_;rw[So mask h _ (by lia),OS mask h m a n,Nat.zero_div,wn,<-xv m n 1,S,A1,Nat.mod_mul_mod,<-A1,uZ 5]
def FN(hk:mask+1=2^k)(h:Int)(i:e<=mask):∃n,n<mask+14/\(ls mask h n).1=e:=by
 have j:=JO mask h 13;obtain⟨m,d,c⟩:=Ku k (ls mask h 13).1 (by lia);obtain⟨q,f,b⟩:=Ku k e (by lia);rw[<-hk]at c b d f;have a:=OS mask h m c.symm;by_cases g:m<=q
 .exact⟨13+(q-m),by lia,by rw[a,show m+(q-m)=q by lia];exact b⟩
 refine⟨13+(q+(mask+1)-m),by lia,?_⟩;rw[a,show m+(q+(mask+1)-m)=2^k+q by lia,hk,Qx,<-hk];exact b
def HI(mask i:Nat)(h:i<=mask):i<=aF mask i/\aF mask i<=mask/\aF mask i<=i+9:=by unfold aF;split<;>lia
def tm(mask:Nat)(h:Int):Nat->Nat
 |0=>0
 |k+1=>tm mask h k+(aF mask (ls mask h k).1-(ls mask h k).1)+1
theorem T7(mask:Nat)(h:Int):∀k,tm mask h k<=10*k
 |0=>kg _
 |k+1=>by have:=T7 mask h k;have:=HI mask _ (JO mask h k);unfold tm;lia
def at_(mask:Nat)(h:Int)(k t:Nat):SetTable.Probe:=⟨(ls mask h k).1+t,aF mask (ls mask h k).1-(ls mask h k).1-t,(ls mask h k).1,(ls mask h k).2,J⟩
theorem vG(mask:Nat)(h:Int):∀k t,t<=aF mask (ls mask h k).1-(ls mask h k).1->pr mask h (tm mask h k+t)=at_ mask h k t
 |0,0,_=>rfl
 |k+1,0,_=>by have e:=vG mask h k (aF mask (ls mask h k).1-(ls mask h k).1)<|kg _;show LO mask (pr mask h<|tm mask h k+(aF mask (ls mask h k).1-(ls mask h k).1))=_;rw[e];unfold LO at_;simp only[Nat.sub_self,my,gt_iff_lt];rfl
 |k,t+1,a=>by
  have e:=vG mask h k t (by lia);show LO mask (pr mask h<|tm mask h k+t)=_;rw[e];unfold LO at_;rw[jh (show aF mask (ls mask h k).1-(ls mask h k).1-t>0 by lia)];simp
  lia
def agh(hk:mask+1=2^k)(h:Int)(a:e<=mask):∃n,n<10*(mask+14)/\(pr mask h n).j=e:=by obtain⟨r,b,er⟩:=FN hk h a;have:=T7 mask h r;refine⟨tm mask h r,by lia,?_⟩;have:=vG mask h r 0<|mn _;rw[wn]at this;rw[this];exact er
theorem Ob(mask:Nat)(h:Int):∀n,(pr mask h n).dummy=J
 |0=>rfl
 |n+1=>by show(LO mask<|pr mask h n).dummy=J;unfold LO;split<;>exact Ob mask h n
theorem Fq(mask:Nat)(h:Int):∀n,∃k t,n=tm mask h k+t/\t<=aF mask (ls mask h k).1-(ls mask h k).1
 |0=>⟨0,0,rfl,mn _⟩
 |n+1=>by
  obtain⟨k,t,e,b⟩:=Fq mask h n;by_cases a:t+1<=aF mask (ls mask h k).1-(ls mask h k).1
  .exact⟨k,t+1,by lia,a⟩
  exact⟨k+1,0,by unfold tm;lia,mn _⟩
def Oa(mask:Nat)(h:Int)(n:Nat):(pr mask h n).j<=mask:=by obtain⟨k,t,e,a⟩:=Fq mask h n;rw[e,vG mask h k t a];have:=HI mask _ (JO mask h k);show(ls mask h k).1+t<=mask;lia
def DV{c:Array Nat}(g:c.toList.Pairwise (· < ·)){i j:Nat}{a b:Nat}(h:i<j)(h1:c[i]?=Y a)(d:c[j]?=Y b):a<b:=by rw[<-mE]at h1 d;obtain⟨e,rfl⟩:=uI.mp h1;obtain⟨f,rfl⟩:=uI.mp d;exact Qz.mp g i j e f h
def Qo{c:Array Nat}(o:c.toList.Pairwise (· < ·))(j:Nat):∀(d lo b:Nat),lo<=b->b<=c.size->b-lo<=d->
  (∀i a,i<lo->c[i]?=Y a->a<j)->(∀i a,b<=i->c[i]?=Y a->j<=a)->
  let p:=SetTable.below.go c j d lo b
  p<=c.size/\(∀i a,i<p->c[i]?=Y a->a<j)/\(∀i a,p<=i->c[i]?=Y a->j<=a):=by
 intro u
 induction u with
 |zero=>
  intro lo b h1 g t h k;have:lo=b:=by lia
  subst this;exact⟨g,h,k⟩
 |succ d r=>
  intro lo b h1 g t h k;unfold SetTable.below.go;by_cases q:lo<b
  .rw[jh q];have n:(lo+b) / 2<c.size:=by lia
   have m:c[(lo+b) / 2]?=Y c[(lo+b) / 2]:=qo n;have hd:c.getD ((lo+b) / 2) j=c[(lo+b) / 2]:=by simp[n]
   dsimp only;rw[hd];by_cases l:c[(lo+b) / 2]<j
   .rw[jh l];refine r ((lo+b) / 2+1) b (by lia) g (by lia) (λi a s f=>?_) k;by_cases e:i=(lo+b) / 2
    .subst e;rw[m]at f;cases f;exact l
    exact Ac (DV o (by lia) f m) l
   rw[jy l];refine r lo ((lo+b) / 2) (by lia) (by lia) (by lia) h λi a s f=>?_;by_cases e:i=(lo+b) / 2
   .subst e;rw[m]at f;cases f;lia
   have:=DV o (show(lo+b) / 2<i by lia) m f;lia
  rw[jy q];have:lo=b:=by lia
  subst this;exact⟨g,h,k⟩
def pQ{b:Array Nat}(d:b.toList.Pairwise (· < ·))(j:Nat):am b j<=b.size/\(∀i a,i<am b j->b[i]?=Y a->a<j)/\(∀i a,am b j<=i->b[i]?=Y a->j<=a):=
 Qo d j b.size 0 b.size (mn _) (kg _) (by lia) (λi a h=>by lia) (λi a h1 c=>by have:=(Kw.mp c).1;lia)
def Bt{a:Array Nat}(c:a.toList.Pairwise (· < ·)){i j:Nat}(h:a[i]?=Y j):am a j=i:=by
 obtain⟨h1,d,e⟩:=pQ c j;by_cases g:i<am a j
 .exact absurd (d i j g h) (pZ _)
 by_cases f:am a j<i
 .have k:=(Kw.mp h).1;have b:a[am a j]?=Y a[am a j]:=qo (by omega);have:=e _ _ (kg _) b;have:=DV c f b h;omega
 omega
theorem Eo(j:Nat):SI #[] j=C:=rfl
def qC{t:mV}(a:t.place.toList.Pairwise (· < ·)){i j:Nat}(h:t.place[i]?=Y j):t.slot j=.live i:=by unfold l5;dsimp only;rw[Bt a h,h];simp
def adK{t:mV}(hd:t.dummies= #[]){j:Nat}(h:j∉t.place.toList):t.slot j=.empty:=by
 unfold l5;dsimp only
 have:(t.place[am t.place j]?==Y j)=C:=by rw[BD];intro e;rw[<-mE]at e;exact h<|mZ e
 rw[this,hd,Eo];rfl
def Qs(t:mV)(p:c4):t.advance p=LO t.mask p:=by unfold Tk LO;split<;>rfl
def afE{l:ja}{t:mV}(ok:BQ l t)(hashAt:Nat->Int)(h:Int):∀(a n:Nat),(∃M,n<=M/\M<n+a/\(pr t.mask h M).j∉t.place.toList)->
    ∃m,n<=m/\(∀q,n<=q->q<m->∃i,t.place[i]?=Y (pr t.mask h q).j/\hashAt i≠h)/\
      (((pr t.mask h m).j∉t.place.toList/\ef t hashAt h a (pr t.mask h n)=Y (.empty (pr t.mask h m).j J))\/
       (∃i,t.place[i]?=Y (pr t.mask h m).j/\hashAt i=h/\ef t hashAt h a (pr t.mask h n)=Y (.candidate (pr t.mask h m).j i<|pr t.mask h<|m+1))):=by
  intro p
  induction p with
  |zero=>
    rintro n ⟨M,h1,f,g⟩
    lia
  |succ a o=>
    rintro n ⟨M,h1,f,g⟩;unfold ef;by_cases d:(pr t.mask h n).j∈t.place.toList
    · obtain⟨i,c⟩:=sJ d
      rw[mE]at c;rw[qC ok.ris c];dsimp only;by_cases b:hashAt i=h
      · refine⟨n,kg _,λq h1 f=>by lia,.inr ⟨i,c,b,?_⟩⟩
        rw[jh<|by simpa using b,Qs];rfl
      · rw[jy<|by simpa using b,Qs]
        have s:M≠n:=λe=>g<|e▸d;obtain⟨m,g1,g2,k⟩:=o (n+1) ⟨M,by lia,by lia,g⟩;refine⟨m,by lia,λq u r=>?_,k⟩;by_cases e:q=n
        · subst e;exact⟨i,c,b⟩
        · exact g2 q (by lia) r
    · rw[adK ok.dum d]
      dsimp only;rw[Ob];exact⟨n,kg _,λq h1 f=>by lia,.inl ⟨d,rfl⟩⟩
def FR:∀(n:Nat)(l:jX),VP l<=n->∃e,e<=n/\e∉l:=by
 intro d
 induction d with
 |zero=>intro l h;exact⟨0,kg _,by cases l with|nil=>simp|cons _ _=>simp at h⟩
 |succ n c=>
  intro l h;by_cases a:n+1∈l
  .obtain⟨e,h1,b⟩:=c (l.erase<|n+1) (by rw[List.length_erase_of_mem a];lia);exact⟨e,by lia,λz=>b<|(GO<|by lia).mpr z⟩
  exact⟨n+1,kg _,a⟩
def BQ.free(ok:BQ f t)(h:Int):∃M,M<10*(t.mask+14)/\(pr t.mask h M).j∉t.place.toList:=by
 obtain⟨k,_,_,hk⟩:=ok.pow
 have h1:(VP t.place.toList)<=t.mask:=by have:=ok.len;have:=ok.room;rw[lU];lia
 obtain⟨e,c,d⟩:=FR t.mask _ h1;obtain⟨n,a,b⟩:=agh hk h c;exact⟨n,a,by rw[b];exact d⟩
def mG{b:Type}(a:Array b)(p:Nat)(x:b):(aH a p x).toList=a.toList.take p++x::a.toList.drop p:=by unfold aH;simp;rw[zQ<|by simp]
def adM(h:xs.toList.Pairwise (· < ·))(n:j∉xs.toList):(aH xs (am xs j) j).toList.Pairwise (· < ·):=by
 obtain⟨h1,l,k⟩:=pQ h j;rw[mG,uh];refine⟨h.sublist<|xN _ _,?_,?_⟩
 .rw[EU];refine⟨λa d=>?_,h.sublist<|GZ _ _⟩;obtain⟨i,c⟩:=sJ d;rw[e7]at c;have m:=k _ _ (show am xs j<=am xs j+i by lia) (by rw[<-mE];exact c);have:a≠j:=λe=>n (e▸mZ c)
  lia
 intro a d b g
 have f:a<j:=by
  obtain⟨i,c⟩:=sJ d;rw[List.getElem?_take]at c;split at c
  .rename_i o;exact l i a o (by rw[<-mE];exact c)
  cases c
 rcases nH.mp g with rfl|g
 .exact f
 obtain⟨i,c⟩:=sJ g;rw[e7]at c;have m:=k _ _ (show am xs j<=am xs j+i by lia) (by rw[<-mE];exact c)
 lia
def BQ.fresh(finger moves:Nat)(led:Bool):BQ [] (j1 finger moves led) where
 pow:=⟨3,by lia,by lia,rfl⟩
 dum:=rfl
 len:=rfl
 room:=by show 5*0<3*7;lia
 ris:=.nil
 bd:=λj h=>by simp[j1]at h
 road:=λi h j h1=>by simp at h1
def BQ.put(ok:BQ f t)(z:(pr t.mask h n).j∉t.place.toList)(y:∀m,m<n->(pr t.mask h m).j∈t.place.toList)(T:5*(VP f+1)<3*t.mask)(B:j=(pr t.mask h n).j)(U:p=am t.place j):
  BQ (f.take p++h::f.drop p) (t.put j).1/\(t.put j).2=p:=by
 subst B;subst U
 have u:(t.put (pr t.mask h n).j).1={t with place:=aH t.place (am t.place (pr t.mask h n).j) (pr t.mask h n).j,dummies:= #[]}:=by unfold na;dsimp only;rw[ok.dum,Eo];rfl
 obtain⟨h1,_,_⟩:=pQ ok.ris (pr t.mask h n).j;have E:=ok.len
 have c:∀x,x∈t.place.toList->x∈(aH t.place (am t.place (pr t.mask h n).j) (pr t.mask h n).j).toList:=λx a=>by
  rw[mG];rw[<-sU (am t.place (pr t.mask h n).j) t.place.toList]at a;rcases rq.mp a with a|a
  .exact rq.mpr (.inl a)
  exact rq.mpr (.inr<|kE _ a)
 refine⟨?_,rfl⟩;rw[u];generalize w:am t.place (pr t.mask h n).j=P at*;refine⟨ok.pow,rfl,?_,?_,?_,λx a=>?_,λi h' g g1 g2=>?_⟩
 .show(aH t.place P (pr t.mask h n).j).size=_;rw[<-lU,mG];simp;lia
 .show 5*_<3*t.mask;simp;lia
 .have:=adM ok.ris z;rw[w]at this;exact this
 .have r:x∈(aH t.place P (pr t.mask h n).j).toList:=a;rw[mG]at r;show x<=t.mask;rcases rq.mp r with a|a
  .exact ok.bd x (vf a)
  rcases nH.mp a with rfl|a
  .exact Oa _ _ _
  exact ok.bd x (Dk a)
 have b:(aH t.place P (pr t.mask h n).j).toList[i]?=Y g:=by rw[mE];exact g2
 rw[mG]at b;show ∃s,(pr t.mask h' s).j=g/\∀m,m<s->(pr t.mask h' m).j∈(aH t.place P (pr t.mask h n).j).toList;have v:(t.place.toList.take P).length=P:=by rw[se,lU];lia
 have k:(f.take P).length=P:=by rw[se];lia
 by_cases A:i<P
 .rw[sd<|by lia,MZ A]at g1 b;rw[mE]at b;obtain⟨q,l,o⟩:=ok.road i h' g g1 b;exact⟨q,l,λm e=>c _ (o m e)⟩
 rw[qt<|by lia,v]at b;rw[qt<|by lia,k]at g1
 cases hd:i-P with
 |zero=>rw[hd]at g1 b;simp at g1 b;subst g1;subst b;exact⟨n,rfl,λm e=>c _ (y m e)⟩
 |succ d=>rw[hd]at g1 b;simp only[dP,e7]at g1 b;rw[mE]at b;obtain⟨q,l,o⟩:=ok.road _ h' g g1 b;exact⟨q,l,λm e=>c _ (o m e)⟩
def K7(ow:vQ)(j:Nat):Prop:= ∃i,ow.getD j J=Y i
def Ep{ow:vQ}{j:Nat}{d:Option Nat}(h:j<ow.size):ow.getD j d=ow.getD j J:=by simp[h]
def aeY{mask:Nat}{ow:vQ}(U:ow.size=mask+1)(h:Int):∀(a k:Nat),(∃r,k<=r/\r<k+a/\¬K7 ow (ls mask h r).1)->(∀m,m<tm mask h k->K7 ow (pr mask h m).j)->
  ∃n,bJ mask ow a (ls mask h k).1 (ls mask h k).2=Y (pr mask h n).j/\¬K7 ow (pr mask h n).j/\∀m,m<n->K7 ow (pr mask h m).j:=by
 intro A
 induction A with
 |zero=>
  rintro k ⟨r,h1,v,_⟩ _
  lia
 |succ a z=>
  rintro k ⟨r,h1,v,g⟩ l;unfold bJ;have x:=JO mask h k;have y:=HI mask _ x
  cases c:(aj<|aF mask (ls mask h k).1+1-(ls mask h k).1).find? λt=>(ow.getD ((ls mask h k).1+t)<|Y 0).isNone with
  |some t=>
   rw[List.find?_range_eq_some]at c;obtain⟨a1,q,s⟩:=c;rw[vP]at q;have p:t<=aF mask (ls mask h k).1-(ls mask h k).1:=by lia
   have e:=vG mask h k t p;refine⟨tm mask h k+t,by rw[e];rfl,?_,λm o=>?_⟩
   .rw[e];rintro⟨i,w⟩;rw[Ep (by show(ls mask h k).1+t<_;lia)]at a1;have u:ow.getD ((ls mask h k).1+t) J=Y i:=w;rw[u]at a1;simp at a1
   by_cases f:m<tm mask h k
   .exact l m f
   have b:=vG mask h k (m-tm mask h k) (by lia);rw[show tm mask h k+(m-tm mask h k)=m by lia]at b;rw[b];have:=s (m-tm mask h k) (by lia);rw[Ep (by show(ls mask h k).1+(m-tm mask h k)<_;lia)]at this;show K7 ow ((ls mask h k).1+(m-tm mask h k));unfold K7
   cases d:ow.getD ((ls mask h k).1+(m-tm mask h k)) J with
   |none=>rw[d]at this;simp at this
   |some i=>exact⟨i,rfl⟩
  |none=>
   rw[List.find?_range_eq_none]at c
   have all:∀t,t<=aF mask (ls mask h k).1-(ls mask h k).1->K7 ow ((ls mask h k).1+t):=λt p=>by
    have:=c t (by lia);rw[Ep<|by lia]at this;unfold K7
    cases d:ow.getD ((ls mask h k).1+t) J with
    |none=>rw[d]at this;simp at this
    |some i=>exact⟨i,rfl⟩
   have B:r≠k:=λe=>g (by subst e;have:=all 0<|mn _;simpa using this)
   have:=z (k+1) ⟨r,by lia,by lia,g⟩ (λm o=>by
    by_cases f:m<tm mask h k
    .exact l m f
    unfold tm at o;have b:=vG mask h k (m-tm mask h k) (by lia);rw[show tm mask h k+(m-tm mask h k)=m by lia]at b;rw[b];exact all _ (by lia))
   exact this
def F7{a e:Type}{f g:a->Option e}:∀{l:List a},(∀x∈l,f x=g x)->l.filterMap f=l.filterMap g:=by
 intro d
 induction d with
 |nil=>intro _;exact H
 |cons x l c=>intro h;rw[uO,uO,h x kx,c λy b=>h y<|kE _ b]
noncomputable def pF(mask:Nat)(ow:vQ):List (Nat×Nat):=(aj<|mask+1).filterMap λj=>(ow.getD j J).map (j,·)
def QH:(j,i)∈pF mask ow↔j<=mask/\ow.getD j J=Y i:=by
 unfold pF;simp only[dD,vP,gC,Prod.mk.injEq];constructor
 .rintro⟨a,h1,b,c,rfl,rfl⟩;exact⟨by lia,c⟩
 rintro⟨h1,c⟩;exact⟨j,by lia,i,c,rfl,rfl⟩
def agd(mask:Nat)(ow:vQ):((pF mask ow).map (·.1)).Pairwise (· < ·):=by unfold pF;rw[List.map_filterMap,List.pairwise_filterMap];refine QK.imp λ{a b} e x c y d=>?_;simp at c d;obtain⟨_,_,rfl⟩:=c;obtain⟨_,_,rfl⟩:=d;exact e
def agc{mask:Nat}{ow:vQ}(f:ow.size=mask+1){j k:Nat}(d:j<=mask)(c:ow.getD j J=J):(pF mask<|ow.setIfInBounds j<|Y k).Perm ((j,k)::pF mask ow):=by
 have g:∀i,(ow.setIfInBounds j<|Y k).getD i J=if i=j then Y k else ow.getD i J:=λi=>by
  simp only[uY,Dg];by_cases e:i=j
  .subst e;simp[show i<ow.size by lia]
  rw[jy λz=>e z.symm,jy e]
 have split:aj (mask+1)=aj j++j::(aj<|mask-j).map (λx=>j+1+x):=by rw[show mask+1=j+(mask-j+1) by lia,List.range_add,et];simp[eU,xv,wr 1]
 unfold pF;rw[split,MF,MF,uO,uO];simp only[g,c,Option.map_none,Option.map_some]
 have a1:(aj j).filterMap (λi=>(if i=j then Y k else ow.getD i J).map (i,·))=(aj j).filterMap (λi=>(ow.getD i J).map (i,·)):=
  F7 λi a=>by rw[vP]at a;rw[jy<|by lia]
 have b:((aj<|mask-j).map λx=>j+1+x).filterMap (λi=>(if i=j then Y k else ow.getD i J).map (i,·))=((aj<|mask-j).map λx=>j+1+x).filterMap (λi=>(ow.getD i J).map (i,·)):=
  F7 λi a=>by obtain⟨x,_,rfl⟩:=sh.mp a;rw[jy<|by lia]
 rw[a1,b];exact QD
structure FK(mask:Nat)(hs:ja)(ow:vQ):Prop where
 size:ow.size=mask+1
 perm:((pF mask ow).map (·.2)).Perm (aj<|VP hs)
 road:∀j i h,ow.getD j T2=TW i->hs[i]?=TW h->∃n,(pr mask h n).j=j/\∀m,m<n->K7 ow (pr mask h m).j
def JK(h:K7 ow x):K7 (ow.setIfInBounds j<|Y k) x:=by
 obtain⟨i,a⟩:=h;unfold K7;simp only[uY,Dg]at a ⊢;by_cases e:j=x
 .subst e;rw[jh H];split
  .exact⟨k,rfl⟩
  rename_i b;rw[GN<|by lia]at a;simp at a
 rw[jy e];exact⟨i,a⟩
def FK.step{mask k:Nat}(hk:mask+1=2^k){a:ja}{ow:vQ}(ok:FK mask a ow)(h:Int)(T:(VP a)<=mask):
  ∃j,bJ mask ow (b3 mask) (aM h%(mask+1)) (aM h)=Y j/\FK mask (a++[h]) (ow.setIfInBounds j<|Y<|VP a):=by
 have o:(pF mask ow).length=(VP a):=by have:=ok.perm.length_eq;simpa using this
 obtain⟨e,l,y⟩:=FR mask ((pF mask ow).map (·.1)) (by rw[ke];lia)
 have s: ¬K7 ow e:=by rintro⟨i,f⟩;exact y<|sh.mpr ⟨(e,i),QH.mpr ⟨l,f⟩,rfl⟩
 obtain⟨r,B,v⟩:=FN hk h l;obtain⟨n,f1,t,u⟩:=aeY ok.size h (b3 mask) 0 ⟨r,mn _,by unfold b3;lia,by rw[v];exact s⟩ (λm c=>by simp[tm]at c);have x:=Oa mask h n
 have p:ow.getD (pr mask h n).j J=J:=by
  cases A:ow.getD (pr mask h n).j J with
  |none=>rfl
  |some i=>exact absurd ⟨i,A⟩ t
 refine⟨_,f1,⟨by rw[Array.size_setIfInBounds];exact ok.size,?_,λj i w g1 g2=>?_⟩⟩
 .refine((agc ok.size x p).map _).trans ?_;rw[kM,nK,xH,List.range_succ];exact(iu _ ok.perm).trans (ME _ _).symm
 by_cases b:j=(pr mask h n).j
 .subst b
  have:i=(VP a):=by simp only[uY,Dg]at g1;rw[jh bb,jh<|by rw[ok.size];lia]at g1;exact(lg g1).symm
  subst this;rw[qt<|kg _]at g2;simp at g2;subst g2;exact⟨n,rfl,λm c=>JK<|u m c⟩
 have d:ow.getD j J=Y i:=by simp only[uY,Dg]at g1 ⊢;rw[jy λz=>b z.symm]at g1;exact g1
 have f:i<(VP a):=by
  have g:j<=mask:=by
   by_cases q:j<ow.size
   .have:=ok.size;lia
   rw[uY,GN<|by lia]at d;simp at d
  have:=ok.perm.mem_iff.mp<|sh.mpr ⟨(j,i),QH.mpr ⟨g,d⟩,rfl⟩;exact vP.mp this
 rw[sd f]at g2;obtain⟨q,U,E⟩:=ok.road j i w d g2;exact⟨q,U,λm c=>JK<|E m c⟩
def FK.start(mask:Nat):FK mask [] (f4 (mask+1) J) where
 size:=by simp
 perm:=by
  have:pF mask (f4 (mask+1) J)=[]:=by unfold pF;refine List.filterMap_eq_nil_iff.mpr λj a=>?_;rw[uY,MD];split<;>rfl
  rw[this];exact vb _
 road:=λj i h h1=>by rw[uY,MD]at h1;split at h1<;>cases h1
noncomputable def wD(mask:Nat)(a:Option (Array (Option Nat)×Nat))(h:Int):Option (Array (Option Nat)×Nat):=do
 let(owner,k) <-a
 let j <-bJ mask owner (b3 mask) (aM h%(mask+1)) (aM h)
 pure (owner.setIfInBounds j<|Y k,k+1)
def agf{mask k:Nat}(hk:mask+1=2^k):∀(l a:ja)(ow:vQ),FK mask a ow->VP a+VP l<=mask+1->
  ∃c,l.foldl (wD mask) (Y (ow,VP a))=Y (c,VP a+VP l)/\FK mask (a++l) c:=by
 intro m
 induction m with
 |nil=>intro a ow ok _;exact⟨ow,rfl,by rw[xQ];exact ok⟩
 |cons h l i=>
  intro a ow ok g;rw[oy]at g;obtain⟨j,e,d⟩:=ok.step hk h (by lia);obtain⟨c,f,b⟩:=i (a++[h]) _ d (by rw[nK,xH];lia);refine⟨c,?_,by rw[pX]at b;exact b⟩;rw[tj]
  have:wD mask (Y (ow,VP a)) h=Y (ow.setIfInBounds j<|Y<|VP a,VP a+1):=by unfold wD;show(bJ mask ow (b3 mask) (aM h%(mask+1)) (aM h)>>=_)=_;rw[e];rfl
  rw[this];rw[nK,xH]at f;rw[f,oy]
  congr 2;lia
def adA(hk:mask+1=2^k)(a:ja)(c:(VP a)<=mask):∃ow,g8 mask a.toArray=Y ow/\FK mask a ow:=by
 obtain⟨ow,e,ok⟩:=agf hk a [] _ (FK.start mask) (by simp;lia);refine⟨ow,?_,by simpa using ok⟩;unfold g8;rw[<-Array.foldl_toList];show u4 _ (e8 (wD mask) _ a)=_;have b:e8 (wD mask) (Y (f4 (mask+1) J,0)) a=Y (ow,VP a):=by simpa using e
 rw[b];rfl
def SD(hk:mask+1=2^k)(w:3<=k)(o:k<=11)(finger moves:Nat)(led plain:Bool)(d:ja)(E:5*(VP d)<3*mask):
  ∃t c,me mask finger moves led plain d.toArray=Y (t,c)/\c.toList.Perm (aj<|VP d)/\BQ (c.toList.map λi=>d.getD i 0) t/\t.plain=plain/\t.led=led:=by
 obtain⟨ow,e,ok⟩:=adA hk d (by lia);refine⟨{mask,place:=((pF mask ow).map (·.1)).toArray,dummies:= #[],finger,led,moves,plain},((pF mask ow).map (·.2)).toArray,?_,by simpa using ok.perm,?_,rfl,rfl⟩
 .unfold me;rw[e];rfl
 have g:(pF mask ow).length=(VP d):=by have:=ok.perm.length_eq;simpa using this
 refine⟨⟨k,w,o,hk⟩,rfl,by simp,by simp[g];lia,by simpa using agd mask ow,λj z=>?_,λi h j g1 g2=>?_⟩
 .have r:j∈(pF mask ow).map (·.1):=by simpa using z
  obtain⟨⟨a,b⟩,q,rfl⟩:=sh.mp r;exact(QH.mp q).1
 have s:((pF mask ow).map (·.2)).map (λi=>d.getD i 0)=(((pF mask ow).map (·.2)).toArray).toList.map λi=>d.getD i 0:=by simp
 rw[<-s,kX,kX]at g1;have f:((pF mask ow).map (·.1))[i]?=Y j:=by simpa using g2
 rw[kX]at f
 cases l:(pF mask ow)[i]? with
 |none=>rw[l]at f;cases f
 |some p=>
  obtain⟨a,b⟩:=p;rw[l]at g1 f;simp at g1 f;subst f;have q:=QH.mp<|mZ l
  have x:b<(VP d):=by have:=ok.perm.mem_iff.mp<|sh.mpr ⟨(a,b),mZ l,rfl⟩;exact vP.mp this
  have y:d[b]?=Y h:=by rw[lq x]at g1 ⊢;simpa using g1
  obtain⟨n,B,U⟩:=ok.road a b h q.2 y;refine⟨n,B,λm v=>?_⟩;obtain⟨A,u⟩:=U m v;show(pr mask h m).j∈(((pF mask ow).map (·.1)).toArray).toList;have:(pr mask h m).j∈(pF mask ow).map (·.1):=sh.mpr ⟨(_,A),QH.mpr ⟨Oa mask h m,u⟩,rfl⟩;simpa using this
def ac5:∀n,n<2048->∃k,3<=k/\k<=11/\eF n=2^k/\n<2^k:=by
 intro n h
 have step:∀(f k:Nat),3<=k->k<=11->11<k+f->∃b,3<=b/\b<=11/\SetTable.sizeAbove.go n f (2^k)=2^b/\n<2^b:=by
  intro f
  induction f with
  |zero=>intro k h1 c d;lia
  |succ f g=>
   intro k h1 c d;unfold SetTable.sizeAbove.go;by_cases a:2^k<=n
   .rw[jh a,<-rB];have:k≠11:=λe=>by subst e;lia
    exact g (k+1) (by lia) (by lia) (by lia)
   rw[jy a];exact⟨k,h1,c,rfl,by lia⟩
 exact step 64 3 (by lia) (by lia) (by lia)
open PyProof.Rows PySem.SeqAt
def aep{k:ja}{t:mV}(ok:BQ k t){hashAt:Nat->Int}{h:Int}{p:c4}{n:Nat}(g:p=pr t.mask h n)(f:∀m,m<n->(pr t.mask h m).j∈t.place.toList):
    ∃m,n<=m/\m<10*(t.mask+14)/\(∀q,n<=q->q<m->∃i,t.place[i]?=Y (pr t.mask h q).j/\hashAt i≠h)/\
      (((pr t.mask h m).j∉t.place.toList/\t.probe hashAt h p=Y (.empty (pr t.mask h m).j J))\/
       (∃i,t.place[i]?=Y (pr t.mask h m).j/\hashAt i=h/\t.probe hashAt h p=Y (.candidate (pr t.mask h m).j i<|pr t.mask h<|m+1))):=by
  subst g;obtain⟨M,h1,a⟩:=ok.free h
  have c:n<=M:=by
    by_cases b:M<n
    · exact absurd (f M b) a
    · lia
  obtain⟨m,g1,g2,e⟩:=afE ok hashAt h (10*b3 t.mask) n ⟨M,c,by unfold b3;lia,a⟩
  have l:m<=M:=by
    by_cases b:M<m
    · obtain⟨i,d,_⟩:=g2 M c b
      rw[<-mE]at d;exact absurd (mZ d) a
    · lia
  exact⟨m,g1,by lia,g2,e⟩
section
variable {prog:jq}{w:jk}{A:jm}{E:jG}{s:iT}
structure LA(A:jm)(s:iT)(a:iO)(es:sy)(n:Nat)(t:mV)(x:iX)(h:Int)(eqs:Nat->Bool):Prop where
 at_:∃o,s.heap.get? a=TW o/\o.data=.set es n t
 tab:BQ (es.toList.map (·.1)) t
 refs:∀(i:Nat)(e:Int×iX),es[i]?=TW e->∃b,e.2=.ref b
 eq:∀(i:Nat)(e:Int×iX),es[i]?=TW e->EqAt A s e.2 x (eqs i)
 hash:∀(i:Nat)(e:Int×iX),es[i]?=TW e->eqs i=Uf->e.1=h
 quiet:∀(l:jW)(prog:jq)(w:jk)(E:jG)(Q:sD),(∀v∈l,∃e∈es.toList,e.2=v)->Q UF s->ah (ai prog w) A (ut x l) Q E s
def af4(ok:BQ c t):t.gaveWay=C:=by
 obtain⟨k,h1,_,b⟩:=ok.pow;obtain⟨a,rfl⟩:∃a,k=a+1:=⟨k-1,by lia⟩
 rw[rB]at b;unfold SS;rw[BD];lia
def Ka(ok:BQ a t)(h:(VP a)=n):t.fits n=I:=by have:=ok.len;have:=ok.room;unfold mi mj;rw[ok.dum];simp only[mf,Gu,vV];exact⟨by lia,by show _+0<=_;lia⟩
def LA.fits{a b n t x h eqs}(S:LA A s a b n t x h eqs):t.fits b.size=I:=Ka S.tab (by simp)
def adC{a:iO}{k:sy}{nn:Nat}{t:mV}{x:iX}{h:Int}{c:Nat->Bool}{adding:Bool}(S:LA A s a k nn t x h c){Q:SetFound->Shared->Prop}
  (H:∀i r,c i=Uf->i<k.size->(r=T2\/r=TW i)->(adding=UF->r=TW i)->Q (.there r) s)
  (k8:(∀i,i<k.size->c i=UF)->∀n,(pr t.mask h n).j∉t.place.toList->(∀m,m<n->(pr t.mask h m).j∈t.place.toList)->Q (.free (pr t.mask h n).j UF) s):
  ∀(l n:Nat)(u:Option c4),u.getD (t.probeStart h)=pr t.mask h n->(∀q,q<n->∃i,t.place[i]?=TW (pr t.mask h q).j/\c i=UF)->10*(t.mask+14)<n+l->n<=10*(t.mask+14)->
   ah (ai prog w) A (IN a x h adding l u) Q E s:=by
 intro iV
 induction iV with
 |zero=>
  intro n u _ _ W Z
  lia
 |succ l iH=>
  intro n u l6 U W Z;obtain⟨o,T,hd⟩:=S.at_
  have K7:∀m,m<n->(pr t.mask h m).j∈t.place.toList:=λm X=>by obtain⟨i,g,_⟩:=U m X;rw[<-mE]at g;exact mZ g
  unfold IN;refine iP<|uK T hd S.fits ?_;dsimp only;rw[af4 S.tab];simp only[lr,↓reduceIte];generalize V:t.probe _ h _=P;obtain⟨m,m1,m2,m3,F⟩:=aep S.tab l6 K7 (hashAt:=λi=>(k[i]?.map (·.1)).getD 0);have O:t.probe (λi=>(k[i]?.map (·.1)).getD 0) h (u.getD<|t.probeStart h)=P:=V;rw[O]at F
  have N:∀(i:Nat)(j:Nat),t.place[i]?=TW j->∃e,k[i]?=TW e/\(k[i]?.map (·.1)).getD 0=e.1:=λi j g=>by have h1:=(Kw.mp g).1;have L:=S.tab.len;rw[ke,lU]at L;exact⟨k[i],qo<|by lia,by rw[qo<|by lia];rfl⟩
  have ne:∀(i:Nat)(j:Nat),t.place[i]?=TW j->(k[i]?.map (·.1)).getD 0≠h->c i=UF:=λi j g J=>by
   obtain⟨e,f,Y⟩:=N i j g
   cases d:c i
   .rfl
   exact absurd (Y.trans<|S.hash i e f d) J
  have seen:∀q,q<m->∃i,t.place[i]?=TW (pr t.mask h q).j/\c i=UF:=λq d=>by
   by_cases p:q<n
   .exact U q p
   obtain⟨i,g,J⟩:=m3 q (by lia) d;exact⟨i,g,ne i _ g J⟩
  rcases F with⟨a1,a2⟩|⟨i,a1,a2,a3⟩
  .subst a2;dsimp only;refine je<|k8 (λi g=>?_) m a1 λq d=>?_
   .cases d:c i
    .rfl
    exfalso;have f:k[i]?=TW k[i]:=qo g;have h1:=S.hash i _ f d;have L:=S.tab.len;rw[ke,lU]at L;have B:t.place[i]?=TW t.place[i]:=qo (by lia);obtain⟨M,K,r2⟩:=S.tab.road i h t.place[i] (by rw[kX,mE,f];exact oA TW h1) B
    have:M<m:=by
     by_cases p:M<m
     .exact p
     exfalso;rcases mL (M7.mp p)with p|heq
     .exact a1 (r2 m p)
     subst heq;rw[<-mE]at B;rw[K]at a1;exact a1<|mZ B
    obtain⟨i',g1,g2⟩:=seen M this;rw[K]at g1;have:i'=i:=by rw[<-Bt S.tab.ris g1,Bt S.tab.ris B]
    rw[this,d]at g2;cases g2
   obtain⟨i,g,_⟩:=seen q d;rw[<-mE]at g;exact mZ g
  subst a3;dsimp only;obtain⟨e,f,Y⟩:=N i _ a1;obtain⟨h',y⟩:=e;obtain⟨b,D⟩:=S.refs i _ f;dsimp only at D;subst D;have I:t.sameMemory t.moves t.mask=TW Uf:=by simp[Sc]
  have C:i<k.size:=(Kw.mp f).1;cases hl:t.led
  .simp only[gr];refine iP<|S.quiet _ _ _ _ _ (λv hv=>?_) ?_
   .obtain⟨e,R,rfl⟩:=sh.mp hv;exact⟨e,(XN.mp (by simpa using(Array.mem_filter.mp<|XN.mp R).1) |> λz=>by simpa using z),rfl⟩
   simp only[lr];rw[f];dsimp only;refine iP<|mz<|S.eq i _ f _ _ _ _ ?_;refine iP<|uK T hd S.fits ?_;dsimp only
   cases d:c i with
   |true=>
    cases adding with
    |true=>simp;exact je<|H i T2 d C (.inl UV) (λz=>by cases z)
    |false=>simp only[eK,lr,↓reduceIte,I,qC S.tab.ris a1,f];refine iP<|Df ?_;simp;exact iP<|je<|je<|H i _ d C (.inr UV) λ_=>rfl
   |false=>
    simp only[gv,lr,↓reduceIte,I,qC S.tab.ris a1,f];refine iP<|Df ?_;simp;refine iP<|je ?_
    exact iH (m+1) _ rfl (λq G=>by
     by_cases e:q=m
     .subst e;exact⟨i,a1,d⟩
     exact seen q (by lia)) (by lia) (by lia)
  simp only[sG,lr];rw[f];dsimp only;refine iP<|mz<|S.eq i _ f _ _ _ _ ?_;refine iP<|uK T hd S.fits ?_;dsimp only
  cases d:c i with
  |true=>
   cases adding with
   |true=>simp;exact je<|H i T2 d C (.inl UV) (λz=>by cases z)
   |false=>simp only[eK,lr,↓reduceIte,I,qC S.tab.ris a1,f];refine iP<|Df ?_;simp;exact iP<|je<|je<|H i _ d C (.inr UV) λ_=>rfl
  |false=>
   simp only[gv,lr,↓reduceIte,I,qC S.tab.ris a1,f];refine iP<|Df ?_;simp;refine iP<|je ?_
   exact iH (m+1) _ rfl (λq G=>by
    by_cases e:q=m
    .subst e;exact⟨i,a1,d⟩
    exact seen q (by lia)) (by lia) (by lia)
end
noncomputable abbrev lh(a:sy)(n:Nat)(t:mV):Obj:={cls:=.type "set",data:=.set a n t}
section
variable {c:jq}{w:jk}{A:jm}{E:jG}{s:iT}
def Fd{h:jn}{a:iO}{b es':sy}{n:Nat}{t t':mV}(d:h.get? a=Y (lh b n t)):(h.update a<|ms es' t').get? a=Y (lh es' (n+1) t'):=by have:=tx (ms es' t') d (by rw[putSet_of es' t' H];rfl);rw[putSet_of es' t' H]at this;exact this
def afM{b:Type}(a:Array b):(aj a.size).filterMap (λi=>a[i]?)=a.toList:=by
 have:∀(l:List b),(aj<|VP l).filterMap (λi=>l[i]?)=l:=by
  intro l
  induction l with
  |nil=>rfl
  |cons x l d=>rw[oy,et,uO];simp only[dO,kA,eU,dP,d]
 have h:=this a.toList;simpa using h
def S9{a:sy}:∀(l:jX),(∀i∈l,i<a.size)->(l.filterMap λi=>a[i]?).map (·.1)=l.map λi=>(a.toList.map (·.1)).getD i 0:=by
 intro f
 induction f with
 |nil=>intro _;exact H
 |cons i l e=>
  intro h;have b:=h i kx;rw[uO,qo b];simp;rw[e λj d=>h j<|kE _ d]
  congr 1
  simp[b]
def afK{a:iO}{d:sy}{n:Nat}{t:mV}(j:s.heap.get? a=Y (lh d n t))(x:t.fits d.size=I)(U:5<=d.size)(O:d.size<=500){Q:Unit->Shared->Prop}
  (h:∀g es' N t',aE a s.heap g->g.get? a=Y (lh es' N t')->es'.toList.Perm d.toList->BQ (es'.toList.map (·.1)) t'->t'.plain=t.plain->t'.led=t.led->Q () {s with heap:=g}):
  ah (ai c w) A (setRelay a<|fR d.size) Q E s:=by
 have y:fR d.size=d.size*4:=by unfold fR;rw[jy<|by lia]
 obtain⟨k,T,l,v,lk⟩:=ac5 (d.size*4) (by lia);have B:eF (d.size*4)-1+1=2^k:=by have:=r6 k;lia
 obtain⟨t',b,p,f,q,r,u⟩:=SD B T l t.finger (t.movedTo<|eF (d.size*4)-1) t.led t.plain (d.toList.map (·.1)) (by rw[ke,lU];lia);rw[ke,lU]at f
 have er:t.relaid (d.map (·.1)) (d.size*4)=Y (t',b):=by unfold Sr;rw[<-p,<-Array.toList_map]
 have o:∀i∈b.toList,i<d.size:=λi z=>vP.mp<|f.mem_iff.mp z;have m:(b.filterMap (d[·]?)).toList=b.toList.filterMap (λi=>d[i]?):=by simp
 have e:(b.filterMap (d[·]?)).toList.Perm d.toList:=by rw[m];refine(f.filterMap _).trans ?_;rw[afM]
 have sz:(b.filterMap (d[·]?)).size=d.size:=by rw[<-lU,e.length_eq,lU]
 rw[y];unfold setRelay;refine iP<|uK j H x ?_;dsimp only
 have L:2^k<=sizeLine:=by have:2^k<=2^11:=zL (by decide) l;rw[kj];lia
 rw[jy<|by rw[v];lia,er];refine iP ?_;change ah _ _ (if((b.filterMap (d[·]?)).size !=d.size)=I then _ else _) _ _ _;rw[jy<|by rw[sz];simp];refine je ?_;dsimp only;refine tp j H ?_ (by rw[sz,kj];lia);refine h _ (b.filterMap (d[·]?)) (n+1) t' (rZ s.heap a _) (Fd j) e ?_ r u;rw[m,S9 _ o];exact q
def tU{b:Type}(a:Array b)(p:Nat)(x:b):(aH a p x).toList.Perm (x::a.toList):=by rw[mG];refine QD.trans ?_;rw[sU]
def VZ{a:sy}{t:mV}{h:Int}{m:Nat}(x:iX)(f:BQ (a.toList.map (·.1)) t)(v:t.plain=I)(h1:(pr t.mask h m).j∉t.place.toList)(y:∀i,i<m->(pr t.mask h i).j∈t.place.toList):
  ∃p o,aH a (t.put (pr t.mask h m).j).2 (h,x)=p/\(t.put (pr t.mask h m).j).1=o/\p.size=a.size+1/\o.plain=I/\o.led=t.led/\p.toList.Perm ((h,x)::a.toList)/\o.fits p.size=I/\(o.tooFull=I->5<=p.size)/\(o.tooFull=C->BQ (p.toList.map (·.1)) o):=by
 have q:(t.put (pr t.mask h m).j).1={t with place:=aH t.place (am t.place (pr t.mask h m).j) (pr t.mask h m).j,dummies:= #[]}:=by unfold na;dsimp only;rw[f.dum,Eo];rfl
 have r:(aH a (t.put (pr t.mask h m).j).2 (h,x)).size=a.size+1:=by rw[<-lU,(tU a _ _).length_eq,oy,lU]
 have d:a.toList.length=a.size:=lU;have l:=f.len;rw[ke,d]at l
 have g:(t.put (pr t.mask h m).j).1.place.size=a.size+1:=by rw[q];show(aH t.place _ _).size=_;rw[<-lU,(tU t.place _ _).length_eq,oy,lU,l]
 have b:(t.put (pr t.mask h m).j).1.fill=a.size+1:=by unfold mj;rw[g,q];rfl
 have e:(t.put (pr t.mask h m).j).1.mask=t.mask:=by rw[q]
 have n:=f.room;rw[ke,d]at n
 have U:7<=t.mask:=by
  obtain⟨k,B,_,Q⟩:=f.pow;have:2^3<=2^k:=zL (by decide) B
  lia
 have u:(t.put (pr t.mask h m).j).1.tooFull=decide ((a.size+1)*5>=t.mask*3):=by unfold R1;rw[b,e]
 refine⟨_,_,rfl,rfl,r,by rw[q];exact v,by rw[q],tU a _ _,?_,λz=>?_,λz=>?_⟩
 .unfold mi;rw[g,r,b,e];simp;lia
 .rw[u]at z;have:=zK z;rw[r];lia
 rw[u]at z;have:=of_decide_eq_false z;obtain⟨T,L⟩:=f.put h1 y (by rw[ke,d];lia) H H;rw[mG,pU,kM,te,List.map_drop];exact T
def aaw{a b:iO}{f:sy}{n:Nat}{t:mV}{h:Int}{e:Nat->Bool}(S:LA A s a f n t (.ref b) h e)(o:s.heap.get? a=TW (lh f n t))(N:t.plain=Uf)(hz:f.size+1<=500)
  (y:∀(H:sD),H Uf s->ah (ai c w) A (gy 8<|.ref b) H E s){Q:sD}
  (hold:(∃i,i<f.size/\e i=Uf)->Q UF s)
  (O:(∀i,i<f.size->e i=UF)->∀h' es' B t',aE a s.heap h'->h'.get? a=TW (lh es' B t')->es'.toList.Perm ((h,.ref b)::f.toList)->BQ (es'.toList.map (·.1)) t'->t'.plain=Uf->t'.led=t.led->Q Uf {s with heap:=h'}):
  ah (ai c w) A (Ms a (.ref b) h) Q E s:=by
 unfold Ms setAddHashedIn;refine mz<|iP<|uK o UV S.fits ?_;dsimp only;have x:byScan (.ref b) f=UF:=rfl;rw[x];simp only[lr]
 have V:t.mask+1<=2048:=by
  obtain⟨k,_,M,R⟩:=S.tab.pow;have:2^k<=2^11:=zL (by decide) M
  lia
 refine iP<|adC S (adding:=Uf) (λi r h1 v _ _=>?_) (λI m h1 v=>?_) 100000 0 T2 UV (λq W=>by lia) (by lia) (by lia)
 .dsimp only;exact je<|hold ⟨i,v,h1⟩
 dsimp only;refine iP<|uK o UV S.fits ?_;dsimp only;obtain⟨L,C,K,P,p,u,d,T,J,z,g⟩:=VZ (.ref b) S.tab N h1 v;rw[K,P,jh u];refine iP<|y _ ?_;simp;refine iP<|tp o UV ?_ (by rw[p,kj];lia);have G:=Fd (es':=L) (t':=C) o;have l:=rZ s.heap a (ms L C)
 cases j:C.tooFull with
 |true=>simp;rw[<-p];refine iP<|afK G J (z j) (by rw[p];lia) λh' es' B t' g1 g2 U Y D F=>?_;exact je<|O I h' es' B t' (l.trans g1) g2 (U.trans T) Y (by rw[D];exact u) (by rw[F];exact d)
 |false=>simp;exact je<|O I _ _ _ _ l G T (g j) u d
end
end TT
namespace PX
open L2 PySem.SeqAt TS
def D.KO:∀l:List D,D.FD l=l.map D.hash:=by
 intro b
 induction b with
 |nil=>rw[D.FD];rfl
 |cons d l a=>rw[D.FD,a];rfl
def N9:∀{l:List D}{d:D},D.Im l=I->d∈l->D.pr d=I:=by
 intro c
 induction c with
 |nil=>intro d _ h;simp at h
 |cons e l b=>
  intro d a h;rw[D.Im,mf]at a;rcases nH.mp h with rfl|h
  .exact a.1
  exact b a.2 h
def Bk:∀{l:List D}{d:D},d∈l->d.dep<=D.BJ l:=λ{l d} h=>by obtain⟨j,a⟩:=sJ h;exact D.Ei a
section
variable {X:Cx}{f:jK}{g:L2.St}{H:Hp}{s:iT}
def Iv(X:Cx)(H:Hp)(O:AB)(c:List D)(a:jW):Prop:= ∃b,YP X.K H O c b/\Vals b a
def Iv.cons(h:Iv X H O (d::ds) (v::c)):(∃x,Rep X.K H O d x/\RelV x v)/\Iv X H O ds c:=by
 obtain⟨k,r,vs⟩:=h;rw[YP]at r;obtain⟨x,j,rfl,e,i⟩:=r
 cases vs with
 |cons a b=>exact⟨⟨x,e,a⟩,j,i,b⟩
def Iv.nil_of{O:AB}{a:List D}(h:Iv X H O a []):a=[]:=by
 obtain⟨c,r,b⟩:=h;cases b
 cases a with
 |nil=>rfl
 |cons d a=>rw[YP]at r;obtain⟨_,_,e,_⟩:=r;cases e
def Iv.cons_of(h:Iv X H O a (v::c)):∃d b,a=d::b:=by
 cases a with
 |nil=>obtain⟨i,r,e⟩:=h;rw[YP]at r;subst r;cases e
 |cons d a=>exact⟨d,a,rfl⟩
def W3:∀(n:Nat){s:iT}(I:Inv X f g H s)(d:D)(v:V)(u:iX)(O:AB)(A:jm)(E:jG)(Q:Int->Shared->Prop),Rep X.K H O d v->RelV v u->D.pr d=Uf->d.dep<=n->A.units+n<aV->(∀j,s.toks<=j->Q d.hash {s with toks:=j})->
  ah (ai X.prog X.w) A (pyHash u) Q E s:=by
 intro n
 induction n with
 |zero=>
  intro s I d v u O A E Q c L p hd R z
  cases d with
  |int i=>have:=c.int;subst this;obtain⟨t,rfl⟩:=L;have:=z (s.toks+1)<|xJ _;rw[D.hash]at this;exact Hs this
  |tup l=>rw[D.dep]at hd;lia
  |_=>simp[D.pr]at p
 |succ n ih=>
  intro s I d v u O A E Q c L p hd R z
  cases d with
  |int i=>have:=c.int;subst this;obtain⟨t,rfl⟩:=L;have:=z (s.toks+1)<|xJ _;rw[D.hash]at this;exact Hs this
  |tup l=>
   rw[D.pr]at p;rw[D.dep]at hd;obtain⟨a,xs,rfl,q,r⟩:=c.tup;cases L;obtain⟨Z,vs,⟨o,Y,S,nn,w6⟩,_⟩:=I.tuple q.sq;have B:s.TypeIs (.ref a) "tuple":=⟨o,Y,S⟩
   have W:A.units<cLine:=by lia
   unfold pyHash;unfold pyHashByItsType;refine iP<|wpAny_cRoomFor_or (.inr W) ?_;refine iP<|xi B IK.lookup ?_;show ah _ _ (if(TW (cP "tuple.__hash__")==TW au)=Uf then _ else _) Q E s;rw[jy<|by rw[beq_builtin_none];exact lH];refine iP<|xi B IK.lookup ?_;show ah _ _ (callSpecialIfBoundUnlessNone? (.ref a) "__hash__" _>>=_) Q E s;refine iP<|wpAny_callSpecialIfBoundUnlessNone?_slot B IK<|pY IK B PySem.F.entry_tuple_hash ?_<|PySem.F.args_tuple_hash_1 _;show ah _ _ (cO (.ref a)>>=_) _ _ s;refine iP<|wpAny_tupleItemsOf Y w6 ?_;refine iP ?_;rw[<-De]
   refine xu _
    (λm (b:Array Int) J'=>∃done left,l=done++left/\Iv X H (λa=>O a) left m/\b.toList=done.map D.hash/\∃j,s.toks<=j/\J'={s with toks:=j})
    _ ?_ ?_ _ _ ⟨[],l,rfl,⟨xs,r,by simpa using vs⟩,rfl,s.toks,kg _,rfl⟩
   .rintro x m b J' ⟨done,left,rfl,C',G,j,T,rfl⟩;obtain⟨d,left,rfl⟩:=C'.cons_of;obtain⟨⟨y,h1,P⟩,N⟩:=C'.cons;have U:d∈done++d::left:=by simp
    have dM:=Bk U;refine iP<|ih (I.kept (h':=s.heap) (t':=j) λ_ _ e=>e) d y x O A.in1 E _ h1 P (N9 p U) (by lia) (by show A.units+1+n<aV;lia) λM k=>?_
    first
     |exact je ⟨done++[d],left,by simp,N,by simp[G],M,lV T k,rfl⟩
     |exact iP<|je<|je ⟨done++[d],left,by simp,N,by simp,M,lV T k,rfl⟩
   rintro b J' ⟨done,left,rfl,C',G,j,T,rfl⟩;have:=C'.nil_of;subst this;have h:=z (j+1)<|nb T;rw[D.hash,D.KO,xQ]at h;show ah _ _ (retInt<|bi b.toList) _ _ _;rw[G];refine wpAny_ret_mkInt ?_;show ah _ _ (if(decide (-(2:Int)^63<=bi (done.map D.hash))&&decide (bi (done.map D.hash)<2^63))=Uf then _ else _) Q E _;unfold reduceHash at h;by_cases c:(decide (-(2:Int)^63<=bi (done.map D.hash))&&decide (bi (done.map D.hash)<2^63))=Uf
   .rw[jh c];rw[jh c]at h;exact je h
   rw[jy c];rw[jy c]at h;exact iP<|sL<|je h
  |_=>simp[D.pr]at p
def Pn{P:jq}{W:jk}{F:Nat->iX->dW Bool}{c:Bool}(I:Inv X f g H s)(p:∀n i t,F n (.int i t)=pure c)
  (N:∀(n:Nat)(a:iO)(o:e6)(b:jW)(m:Nat)(A:jm)(E:jG)(Q:sD),s.heap.get? a=Y o->s.TypeIs (.ref a) "tuple"->o.data=.seq b.toArray m->
   (∀u∈b,∀Q:Bool->Shared->Prop,Q c s->ah (ai P W) A (F n u) Q E s)->Q c s->ah (ai P W) A (F (n+1)<|.ref a) Q E s):∀(n:Nat)(d:D)(v:V)(u:iX)(O:AB)(A:jm)(E:jG)(Q:sD),Rep X.K H O d v->RelV v u->D.pr d=Uf->d.dep<=n->Q c s->ah (ai P W) A (F n u) Q E s:=by
 intro n
 induction n with
 |zero=>
  intro d v u O A E Q j k e hd h
  cases d with
  |int i=>have:=j.int;subst this;obtain⟨t,rfl⟩:=k;exact vX (p _ _ _) h
  |tup l=>rw[D.dep]at hd;omega
  |_=>simp[D.pr]at e
 |succ n Y'=>
  intro d v u O A E Q j k e hd h
  cases d with
  |int i=>have:=j.int;subst this;obtain⟨t,rfl⟩:=k;exact vX (p _ _ _) h
  |tup l=>rw[D.pr]at e;rw[D.dep]at hd;obtain⟨a,T,rfl,q,r⟩:=j.tup;cases k;obtain⟨b,C,⟨o,z,G,m,S⟩,_⟩:=I.tuple q.sq;refine N n a o b m A E Q z ⟨o,z,G⟩ S (λu U Q M=>?_) h;obtain⟨i,x⟩:=sJ U;have l1:=C.length;have l2:=r.length;have Z:=(uI.mp x).1;have B:T[i]?=Y T[i]:=lq (by omega);have J:l[i]?=Y l[i]:=lq (by omega);obtain⟨w,L,R⟩:=C.get B;rw[x]at L;cases L;have y:l[i]∈l:=Dd _;have dM:=Bk y;exact Y' _ _ _ O A E Q (r.views J B) R (N9 e y) (by omega) M
  |_=>simp[D.pr]at e
def ZU(U:Inv X f g H s):=Pn (P:=X.prog) (W:=X.w) (F:=gy) (c:=I) U (λn i t=>by simp[gy]) λn a o d v A E Q p m r q l=>by
 unfold gy;refine iP<|xi m IK.lookup ?_;dsimp only;refine iP<|vR p r ?_;refine iP ?_;show ah _ _ (forIn d.toArray _ _) _ _ s;rw[<-De];refine xu _ (λb k j=>k.1=J/\j=s/\∀u∈b,u∈d) _ ?_ ?_ _ _ ⟨rfl,rfl,by simp⟩
 .rintro x b k j ⟨e,rfl,hm⟩;refine iP<|q x (hm x kx) _ ?_;simp -iota only[sG,lr,my];exact je ⟨rfl,rfl,λu h=>hm u<|kE _ h⟩
 rintro⟨y,z⟩ j ⟨e,rfl,_⟩;simp only at e;subst e;exact je l
def Rv{P:jq}{W:jk}(U:Inv X f g H s):=Pn (P:=P) (W:=W) (F:=vr) (c:=I) U (λn i t=>eqIsQuiet_byValue n UV) λn a o d v A E Q p k r q m=>by
 unfold vr;refine iP<|xi k PySem.F.slot_tuple_eq.lookup ?_;show ah _ _ (ss (.ref a) (.type "tuple")>>=_) _ _ s;refine iP<|xw k isSubtype_tuple_tuple ?_;simp -iota only[sG,lr,my];refine iP<|vR p r ?_;refine iP ?_;show ah _ _ (forIn d.toArray _ _) _ _ s;rw[<-De];refine xu _ (λb l j=>l.1=J/\j=s/\∀u∈b,u∈d) _ ?_ ?_ _ _ ⟨rfl,rfl,by simp⟩
 .rintro x b l j ⟨e,rfl,hm⟩;refine iP<|q x (hm x kx) _ ?_;simp -iota only[sG,lr,my];exact je ⟨rfl,rfl,λu h=>hm u<|kE _ h⟩
 rintro⟨w,y⟩ j ⟨e,rfl,_⟩;simp only at e;subst e;exact je m
def afi{P:jq}{W:jk}(U:Inv X f g H s):=Pn (P:=P) (W:=W) (F:=d0) (c:=C) U (λn i t=>by simp[d0]) λn a o d v A E Q p m r q l=>by
 unfold d0;refine iP<|vZ m ?_;dsimp only;rw[jh<|by decide];refine iP<|je ?_;simp -iota only[sG,lr,my];refine iP<|vR p r ?_;dsimp only;refine iP ?_;show ah _ _ (forIn d.toArray _ _) _ _ s;rw[<-De];refine xu _ (λb k j=>k.1=J/\j=s/\∀u∈b,u∈d) _ ?_ ?_ _ _ ⟨rfl,rfl,by simp⟩
 .rintro x b k j ⟨e,rfl,hm⟩;refine iP<|q x (hm x kx) _ ?_;simp -iota only[lr,my];exact je ⟨rfl,rfl,λu h=>hm u<|kE _ h⟩
 rintro⟨w,y⟩ j ⟨e,rfl,_⟩;simp only at e;subst e;exact je l
end
end PX
namespace TT
open PySem.SeqAt
def acT:gW t8 "set.__iter__"=Y bc.«frozenset.__iter__»:=EQ (id':="frozenset.__iter__") (by kernel_rfl) H (by decide+kernel) (by kernel_rfl)
def vC:Slot "set_iterator" "__next__" "set_iterator.__next__":=.of (owner:="set_iterator") (n:="__next__") (by rw[GL,GK];kernel_rfl) (by decide+kernel) (by decide+kernel) (by decide+kernel) (by first|exact .inl (by decide+kernel)|exact .inr<|by decide+kernel) (by rw[GJ];kernel_rfl)
def wu:Slot "set_iterator" "__iter__" "set_iterator.__iter__":=.of (owner:="set_iterator") (n:="__iter__") (by rw[GL,GK];kernel_rfl) (by decide+kernel) (by decide+kernel) (by decide+kernel) (by first|exact .inl (by decide+kernel)|exact .inr<|by decide+kernel) (by rw[GJ];kernel_rfl)
def acP:gW t8 "set_iterator.__next__"=Y bc.«set_iterator.__next__»:=entryFor_of_fast (by kernel_rfl)
def acQ:gW t8 "set_iterator.__iter__"=Y bc.«dict_keyiterator.__iter__»:=EQ (id':="dict_keyiterator.__iter__") (by kernel_rfl) H (by decide+kernel) (by kernel_rfl)
def adh(a:iX):gY "set_iterator.__next__" ⟨[a],[]⟩:=by unfold gY;kernel_rfl
def adi(a:iX):gY "set_iterator.__iter__" ⟨[a],[]⟩:=by unfold gY;kernel_rfl
theorem si{a:Type}:∀(l:List a){i:Nat}(h:i<VP l),(l[i]::l.eraseIdx i).Perm l
 |x::l,0,_=>by simp
 |x::l,i+1,h=>by have:=si l (i:=i) (by simpa using h);simp;exact(iq x _ _).trans (iu x this)
def ac6{c:Type}(next:Nat->Nat):∀(a k:Nat)(left:List c)(out:Array c),VP left<=a->(pickOrder.go next a k left out).toList.Perm (out.toList++left):=by
 intro e
 induction e with
 |zero=>intro k left out h;have:left=[]:=QN.mp (by lia);subst this;unfold pickOrder.go;simp
 |succ a d=>
  intro k left out h;unfold pickOrder.go
  cases left with
  |nil=>simp
  |cons y l=>have b:next k%(y::l).length<(y::l).length:=xj _ (by simp);rw[lq b];dsimp only;refine(d (k+1) _ _ (by rw[Dc,jh b];simp at h ⊢;lia)).trans ?_;rw[fj,pX];refine MC _ ?_;exact si _ b
def acE{b:Type}(next:Nat->Nat)(a:Array b):(gx next a).toList.Perm a.toList:=by unfold gx;have:=ac6 next a.size 0 a.toList #[] (by simp);simpa using this
noncomputable def rp(w:jk)(a:iO)(n:Nat)(b:sy):Array (Int×iX):=if w.params.followText "set-order"=I then gx (w.params.setOrder a n) b else b
def Gv(w:jk)(a:iO)(n:Nat)(b:sy):(rp w a n b).toList.Perm b.toList:=by
 unfold rp;split
 .exact acE _ _
 exact vb _
def vA(w:jk)(a:iO)(n:Nat)(b:sy):(rp w a n b).size=b.size:=by rw[<-lU,(Gv w a n b).length_eq,lU]
noncomputable def Jg(t:mV):Nat->Nat
 |0=>0
 |i+1=>t.place.getD i 0+1
def nM(w:jk)(t:mV)(i:Nat):Nat:=if w.params.followText "set-order"=I then 0 else Jg t i
structure D3(w:jk)(h:jn)(a:iO)(es:sy)(n:Nat)(t:mV):Prop where
 at_:h.get? a=TW (lh es n t)
 tab:BQ (es.toList.map (·.1)) t
 plain:t.plain=Uf
 led:t.led=!w.params.followText "set-order"
def EC(w:jk)(h:jn)(it a:iO)(t:mV)(size n i:Nat):Prop:= ∃o,h.get? it=Y o/\o.cls=.type "set_iterator"/\o.data=.fields #[.int (nM w t i) 0,.int i 0,.ref a,.int size 0,.int n 0]
section
variable {prog:jq}{w:jk}{A:jm}{E:jG}{s:iT}
def D3.fits{h a b n t}(S:D3 w h a b n t):t.fits b.size=I:=Ka S.tab (by simp)
def ad9(c:t.place.toList.Pairwise (· < ·))(j:i<=t.place.size):am t.place (Jg t i)=i:=by
 cases i with
 |zero=>
  obtain⟨h1,a,_⟩:=pQ c 0
  cases g:am t.place 0 with
  |zero=>exact g
  |succ k=>
   have h:0<t.place.size:=by lia
   have:=a 0 _ (by lia) (qo h)
   lia
 |succ i=>
  have hd:t.place.getD i 0=t.place[i]:=by simp[show i<t.place.size by lia]
  show am t.place (t.place.getD i 0+1)=i+1;rw[hd];have e:t.place[i]?=Y t.place[i]:=qo (by lia);obtain⟨h1,a,f⟩:=pQ c<|t.place[i]+1;by_cases l:am t.place (t.place[i]+1)<i+1
  .have:=f i _ (by lia) e;lia
  by_cases b:i+1<am t.place (t.place[i]+1)
  .have d:t.place[i+1]?=Y t.place[i+1]:=qo (by lia);have:=a (i+1) _ b d;have:=DV c (Dw i) e d
   lia
  lia
def adL{a:iO}{b:sy}{n:Nat}{t:mV}(S:D3 w s.heap a b n t){i:Nat}(q:i<=b.size){Q:Option (iX×Nat)->Shared->Prop}
  (h1:∀e,(rp w a n b)[i]?=Y e->Q (Y (e.2,nM w t<|i+1)) s)(h:i=b.size->Q J s):ah (ai prog w) A (setNext a (nM w t i) i n) Q E s:=by
 have p:=S.tab.len;rw[ke,lU]at p;unfold setNext;refine iP<|uK S.at_ H S.fits ?_;dsimp only;unfold gS;refine iP<|iP<|vn<|je ?_;by_cases c:w.params.followText "set-order"=I
 .have f:(ai prog w).w.params.followText "set-order"=I:=c;rw[jh f,jy<|by simp];unfold setWalk gS;refine iP<|iP<|uK S.at_ H S.fits ?_;dsimp only;refine iP<|iP<|vn<|je ?_;rw[jh f];refine iP<|vn<|je<|je ?_;have g:rp w a n b=gx (w.params.setOrder a n) b:=by unfold rp;rw[jh c]
  have d:∀k,nM w t k=0:=λk=>by unfold nM;rw[jh c]
  show Q (((gx (w.params.setOrder a n) b)[i]?).map λe=>(e.2,nM w t i)) s;rw[<-g];rw[d]at h1;rw[d]
  cases j:(rp w a n b)[i]? with
  |some e=>exact h1 e j
  |none=>have:=UL.mp j;rw[vA]at this;exact h (by lia)
 have f: ¬(ai prog w).w.params.followText "set-order"=I:=c;rw[jy f];change ah _ _ (if(!t.plain&&decide (b.size>1))=I then _ else _) _ _ _;rw[jy<|by rw[S.plain];simp];have m:t.led=I:=by rw[S.led];simpa using c
 refine iP ?_;change ah _ _ (if(!t.led&&!b.isEmpty)=I then _ else _) _ _ _;rw[jy<|by rw[m];simp];refine je ?_;have g:rp w a n b=b:=by unfold rp;rw[jy c]
 have d:∀k,nM w t k=Jg t k:=λk=>by unfold nM;rw[jy c]
 have l:am t.place (nM w t i)=i:=by rw[d];exact ad9 S.tab.ris (by lia)
 rw[l];rw[g]at h1;by_cases o:i<b.size
 .have g1:b[i]?=Y b[i]:=qo o;have g2:t.place[i]?=Y t.place[i]:=qo (by lia);rw[g1,g2];have:=h1 b[i] g1;rw[d]at this;rw[show Jg t (i+1)=t.place.getD i 0+1 from H]at this;have hd:t.place.getD i 0=t.place[i]:=by simp[show i<t.place.size by lia]
  rw[hd]at this;exact je this
 rw[GN<|by lia];exact je<|h (by lia)
def D3.typeIs{a b n t}(S:D3 w s.heap a b n t):s.TypeIs (.ref a) "set":=⟨_,S.at_,rfl⟩
def EC.typeIs{it a t z n i}(S:EC w s.heap it a t z n i):s.TypeIs (.ref it) "set_iterator":=let⟨o,c,b,_⟩:=S;⟨o,c,b⟩
def Pg(S:D3 w s.heap a d n t)
  (f:∀c,EC w c s.heap.objs.size a t d.size n 0->(∀b o,s.heap.get? b=Y o->c.get? b=Y o)->c.objs.size=s.heap.objs.size+1->Q (.ref s.heap.objs.size) {s with heap:=c}):
  ah (ai prog w) A (c5<|.ref a) Q E s:=by
 refine GI S.typeIs MA<|pY MA S.typeIs acT ?_<|PySem.F.args_set_iter_1 _;unfold bc.«frozenset.__iter__» pw CK;simp -iota only[dL,sG,lr,vo,uX,xG];unfold eO px;refine iP<|je ?_;dsimp only;refine iP<|je ?_;refine iP<|iP<|Mz S.at_ H S.fits<|je ?_;unfold setDrawn gS;refine iP<|iP<|uK S.at_ H S.fits ?_;dsimp only;refine iP<|iP<|vn<|je ?_;refine je ?_;change ah _ _ (if(!w.params.followText "set-order"&&(!t.plain&&decide (d.size>1)))=I then _ else _) _ _ _;rw[jy<|by rw[S.plain];simp];refine iP<|je ?_;unfold setEpoch;refine iP<|iP<|uK S.at_ H S.fits<|je ?_;refine iP<|oz<|je ⟨_,rfl,"set_iterator",_,⟨_,kD _ rfl,rfl⟩,vC.lookup,?_⟩;refine f _ ⟨_,kD _ rfl,rfl,?_⟩ (λb o e=>kb _ e) (qr _ _);have:nM w t 0=0:=by unfold nM;split<;>rfl
 rw[this];rfl
def FG(u:A.handled=J){it a:iO}{c:sy}{n:Nat}{t:mV}(S:D3 w s.heap a c n t){i:Nat}(g:EC w s.heap it a t c.size n i)(v:i<=c.size){Q:B9}
  (q:∀e,(rp w a n c)[i]?=Y e->∀d,EC w d it a t c.size n (i+1)->aE it s.heap d->Q (Y e.2) {s with heap:=d})
  (p:i=c.size->∀d,eJ it s.heap d->Q J {s with heap:=d}):ah (ai prog w) A (cA<|.ref it) Q E s:=by
 obtain⟨o,f,r,hd⟩:=id g;unfold cA;refine iP<|rC<|tD (name:=bN "__next__") g.typeIs vC<|pY vC g.typeIs acP ?_<|adh _;unfold bc.«set_iterator.__next__» CK;simp -iota only[dL,sG,lr,vo,uX,xG];refine iP<|je ?_;unfold fieldsOf;dsimp only;simp -iota only[vo];refine iP<|DH f ?_;rw[hd];refine iP<|je ?_;dsimp only;refine iP<|Mz S.at_ H S.fits ?_;rw[jy<|by simp];have h1:((nM w t i:Nat):Int).toNat=nM w t i:=xM _;have k:((i:Nat):Int).toNat=i:=xM _;have l:((n:Nat):Int).toNat=n:=xM _;rw[h1,k,l];refine iP<|adL S v (λy j=>?_) λz=>?_
 .dsimp only;refine iP<|vg f hd (by simp) ?_;have h:=tx (gG λx=>x.setIfInBounds 0<|cu<|nM w t<|i+1) f<|Dt<|uM hd _;refine iP<|vg h (uM hd _) (by simp)<|je ⟨_,rfl,je<|q _ j _ ?_ ((rZ ..).trans (rZ ..))⟩;refine⟨_,tx _ h (Dt<|uM (uM hd _) _),?_,?_⟩
  .rw[Ds,Ds];exact r
  rw[uM<|uM hd _];simp[cu]
 dsimp only;refine iP<|vg f hd (by simp) ?_;show ah _ _ (lv (.type "StopIteration") []>>=_) _ _ _;refine iP ?_;simp -iota only[lv];refine iP<|oz ?_ (by size_fits);refine iP (m:=gV _ _)<|vX (a:=au) (by first|rfl|(simp -iota;rfl)) ?_;refine oz ?_ (by size_fits);simp -iota only[C2];refine iP<|G8 ?_;rw[show A.in1.handled=J from u];refine iP<|je<|G7 ?_;refine iP<|xw (T:="StopIteration") (b:=I) ⟨_,kD _ rfl,rfl⟩ Dm ?_;exact je<|p z _ (((rZ ..).extBut.push _).push _)
def afs(b:EC w s.heap it a t z n i)(c:Q (.ref it) s):ah (ai prog w) A (c5<|.ref it) Q E s:=by refine GI b.typeIs wu<|pY wu b.typeIs acQ ?_<|adi _;unfold bc.«dict_keyiterator.__iter__» CK;simp -iota only[dL,sG,lr,vo,uX,xG];exact iP<|je<|je ⟨_,rfl,"set_iterator",_,b.typeIs,vC.lookup,c⟩
def D3.BG{a b n t}(S:D3 w h a b n t)(k:∀o,h.get? a=Y o->c.get? a=Y o):D3 w c a b n t:=⟨k _ S.at_,S.tab,S.plain,S.led⟩
def aeD(k:A.handled=J)(U a:iO)(x:U≠a)(f:sy)(n:Nat)(t:mV):
  Q2 prog w A U [U,a] [U] f.size (λi v=>∃e,(rp w a n f)[i]?=Y e/\v=e.2) (λi h=>EC w h U a t f.size n i/\D3 w h a f n t) where
 sub:=λb c=>by simp at c;simp[c]
 frame:=λ_ _ _ st hk=>⟨(by obtain⟨o,h1,q⟩:=st.1;exact⟨o,hk U (by simp) o h1,q⟩),st.2.BG λo e=>hk a (by simp) o e⟩
 item:=λi s Q E l st d=>by refine FG k st.2 st.1 (wc l) (λe u g m j=>?_) λz=>absurd z<|kI l;exact d _ g s.toks ⟨_,u,rfl⟩ ⟨m,st.2.BG λo e=>j.extBut a o (λh=>x h.symm) e⟩ λb o c e=>j.extBut b o (λh=>c<|by simp[h]) e
 done:=λs Q E st d=>FG k st.2 st.1 (kg _) (λe r=>absurd (Kw.mp r).1<|by rw[vA];exact pZ _) λ_ g p=>d g s.toks λb o c e=>p b o (λh=>c<|by simp[h]) e
 self:=λ_ _ _ _ st d=>afs st.1 d
def yM{T id:String}{N:Nat}{y:jW}{J:Nat->iX->Prop}{ST:Nat->jn->Prop}(m:T="set"/\id="set.__len__"\/T="dict"/\id="dict.__len__")(Y:a<s.heap.objs.size)(ty:∀h:Shared,(∀o,s.heap.get? a=TW o->h.heap.get? a=TW o)->h.TypeIs (.ref a) T)
  (W:Q2 prog w A.in1 (s.heap.objs.size+1) [s.heap.objs.size+1,a] [s.heap.objs.size+1] N J ST)(hn:N<=sizeLine)(hv:∀i v,J i v->y[i]?=TW v)(hl:(VP y)=N)
  (H:∀(l:e6)(G:jG),(∀p,ST 0 p->(∀b o,(s.heap.push l).get? b=TW o->p.get? b=TW o)->G (.ref<|s.heap.objs.size+1) {s with heap:=p})->ah (ai prog w) A.in1 (c5<|.ref a) G E {s with heap:=s.heap.push l})
  (hQ:∀u tk,(∀b o,s.heap.get? b=TW o->u.get? b=TW o)->Q y {s with heap:=u,toks:=tk}):ah (ai prog w) A (f8<|.ref a) Q E s:=by
 have B:a≠s.heap.objs.size:=kI Y;have t:s.heap.objs.size≠s.heap.objs.size+1:=kI<|Dw _;unfold f8;refine iP<|G9<|qp PySem.F.entry_proto_collect ?_;rw[uN PySem.F.plain_proto_collect _];show ah _ A.in1 (uu []>>=λl=>again<|.builtin "list.__iadd__" ⟨[l,.ref a],[]⟩) _ _ s;refine iP<|oz ?_;refine je ⟨sZ My _,qp PySem.F.entry_list_iadd ?_⟩;rw[uN My _];show ah _ A.in1 (eZ (.ref s.heap.objs.size) (.ref a)<|.ref s.heap.objs.size) _ _ _;generalize q:({cls:=.type "list",data:=.seq ([]:List iX).toArray}:e6)=O;unfold eZ;refine iP<|vZ (T:=T) (s:={s with heap:=s.heap.push O}) (ty _ λo e=>kb _ e) ?_;have h1:fy (.ref s.heap.objs.size) (.ref a)=UF:=by simp only[fy,BD];exact B.symm
 have p:(ca T==ca "list")=UF:=by rcases m with⟨rfl,_⟩|⟨rfl,_⟩<;>decide
 have Z:(ca T==ca "tuple")=UF:=by rcases m with⟨rfl,_⟩|⟨rfl,_⟩<;>decide
 simp -iota only[h1,p,Z,lr,my];refine iP<|H O _ λg D I=>?_;have C:dF {s with heap:=g} (.ref a) T:=ty _ λo e=>I _ _ (kb _ e);refine iP<|mz<|nX (Q:=λr h=>r=UF/\h={s with heap:=g}) ?_ (λr h ⟨e1,e2⟩=>?_) λ_ _ z=>z
 .unfold y7;refine iP<|xi (s:={s with heap:=g}) C (r:=TW<|.builtin id) (by rcases m with⟨rfl,rfl⟩|⟨rfl,rfl⟩<;>first|exact PySem.F.slot_set_len.lookup|exact PySem.F.slot_dict_len.lookup) ?_;dsimp only;rw[show splitId id=TW (T,"__len__")from by rcases m with⟨rfl,rfl⟩|⟨rfl,rfl⟩<;>decide+kernel];dsimp only;refine iP<|xw (s:={s with heap:=g}) (b:=Uf) C (by rw[GJ];rcases m with⟨rfl,_⟩|⟨rfl,_⟩<;>kernel_rfl) ?_;simp -iota only[sG,lr];change ah _ _ (if _=Uf then _ else _) _ _ _;rw[jh (by rcases m with⟨_,rfl⟩|⟨_,rfl⟩<;>decide+kernel)];refine iP<|vZ (s:={s with heap:=g}) C ?_;dsimp only;exact je ⟨rfl,rfl⟩
 subst e1 e2;change ah _ _ (if _=Uf then _ else _) _ _ _;rw[jh (by rcases m with⟨rfl,_⟩|⟨rfl,_⟩<;>decide+kernel)];refine iP<|sL ?_;have c:g.get? s.heap.objs.size=TW O:=I _ _ (kD _ (by subst q;rfl));subst q;refine iP ?_;show ah _ A.in1 (updateSeq s.heap.objs.size (·.push .none)>>=λ_=>updateSeq s.heap.objs.size (·.pop)) _ _ _;refine iP<|w4 (s:={s with heap:=g}) c UV ?_;have d:=tx (aO (·.push au)) c UV;refine w4 d UV ?_;have k:=tx (aO (·.pop)) d UV
 have AE:∀b o,b≠s.heap.objs.size->g.get? b=TW o->((g.update s.heap.objs.size (aO (·.push au))).update s.heap.objs.size (aO (·.pop))).get? b=TW o:=
  λb o f e=>(DA _ _ (pz f)).trans<|(DA _ _ (pz f)).trans e
 refine je ⟨sZ PySem.F.plain_extend_loop _,?_⟩;refine codeAny_extend_loopS W.toS hn s.heap.objs.size (by simp -iota only[nH,pj,sY,not_or];exact⟨t,B.symm⟩) _ N 0 _ _ _ rfl (mn _) (W.frame _ _ _ D λb f o e=>AE b o (by simp at f;rcases f with rfl|rfl<;>first|exact t.symm|exact B) e) k (ItemsOf.nil _) λh L c' x y4 m8=>?_;show ah _ A (load s.heap.objs.size>>=_) _ _ h;refine iP<|DH y4 ?_;obtain⟨u,X,P,U,K⟩:=h;have S:X=s.gens:=x.gens;have R:P=s.drawn:=x.drawn;have V:K=s.os:=x.os;subst S;subst R;subst V
 have n:L.toList=y:=by
  obtain⟨a1,M⟩:=m8;refine xy λj=>?_;rw[mE]
  cases e:L[j]? with
  |some v=>exact(hv j v<|M j v e).symm
  |none=>rw[List.getElem?_eq_none_iff.mpr];rw[hl,<-a1];exact UL.mp e
 refine je ?_;show Q L.toList _;rw[n];refine hQ u U λb o e=>?_;have f:=ki e;exact x.heap b o (by simp -iota;exact⟨kI f,kI<|vW f⟩)<|AE b o (kI f)<|I _ _ (kb _ e)
def Tw(r:A.handled=J)(S:D3 w s.heap a c n t)(u:c.size<=sizeLine)
  (p:∀h x,(∀b o,s.heap.get? b=Y o->h.get? b=Y o)->Q ((rp w a n c).toList.map (·.2)) {s with heap:=h,toks:=x}):ah (ai prog w) A (f8<|.ref a) Q E s:=by
 have f:a<s.heap.objs.size:=ki S.at_;refine yM (.inl ⟨rfl,rfl⟩) f (λz k=>(S.BG k).typeIs) (aeD (by show A.handled=J;exact r) (s.heap.objs.size+1) a (pv<|vW f) c n t) u (λi v ⟨e,q,hv⟩=>?_) (by rw[ke,lU,vA]) (λl y k=>?_) p
 .rw[kX,mE,q,hv];rfl
 have d:D3 w (s.heap.push l) a c n t:=S.BG λo e=>kb _ e;refine Pg (s:={s with heap:=s.heap.push l}) d λm g j _=>?_;rw[show(s.heap.push l).objs.size=s.heap.objs.size+1 from qr _ _]at g ⊢;exact k m ⟨g,d.BG λo e=>j _ _ e⟩ j
end
section
variable {a:jq}{w:jk}{A:jm}{R:mo->Shared->Prop}{I:iO}{d c:kW}{G:Array eD->Array eD->Prop}{n:Nat}{P:Nat->iX->Prop}{St:Nat->Shared->Prop}
def afU(W:WalksS a w A.in1 I d c G n P St)(S:iO)(z:S∉d)(s0:iT)(j:Nat->jn->Prop)(BG:∀i h g,j i h->(∀o,h.get? S=TW o->g.get? S=TW o)->j i g)
  (step:∀i v (f:iT) (Q:sD) (E:jG),i<n->P i v->j i f.heap->pc (S::c) G s0 f->(∀r g y,f.toks<=y->aE S f.heap g->j (i+1) g->Q r {f with heap:=g,toks:=y})->ah (ai a w) A.in1 (lf S v) Q E f):
  ∀(k i:Nat)(s:iT),n-i=k->i<=n->St i s->j i s.heap->pc (S::c) G s0 s->(∀f,pc (S::c) G s0 f->j n f.heap->R (.ok<|.ret .none) f)->
   cg (ai a w) A (.builtin "set.update.loop" ⟨[.ref S,.ref I],[]⟩) R s:=by
 have C:S∉c:=λh=>z<|W.sub _ h;have H:∀b∈c,b∈S::c:=λb l=>kE _ l;intro k
 induction k with
 |zero=>
  intro i s hk N x t p q;have J:i=n:=by lia
  subst J;refine qp Mx ?_;rw[uN GH _];show ah _ A.in1 (cA (.ref I)>>=_) _ _ s;refine iP<|W.done s _ _ x λf m=>?_;show ah _ A.in1 (ret au) _ _ f;exact je<|q f (C9 W.gtrans p<|m.mono H)<|BG _ _ _ t λo e=>m.heap S o C e
 |succ k U=>
  intro i s hk N x t p q;have u:i<n:=by lia
  refine qp Mx ?_;rw[uN GH _];show ah _ A.in1 (cA (.ref I)>>=_) _ _ s;refine iP<|W.item i s _ _ u x λv f M T m=>?_;have B:=C9 W.gtrans p<|m.mono H;show ah _ A.in1 (cf [v] (lf S v)>>=_) _ _ f;refine iP<|mz<|step i v f _ _ u M (BG _ _ _ t λo e=>m.heap S o C e) B λr g y O L Y=>?_;refine je ⟨sZ GH _,U (i+1) _ (by lia) u (W.frame _ f _ _ T O λb l o e=>?_) Y (B.then_heap O λb o l e=>?_) q⟩
  .rw[L.2 b λh:b=S=>z<|by rw[<-h];exact l];exact e
  rw[L.2 b λh:b=S=>l<|by rw[h];exact kx];exact e
end
section
variable {f:jq}{w:jk}{A:jm}{E:jG}{s:iT}
def Sk(a:iX)(h:Q₁ (.ref s.heap.objs.size) {s with heap:=s.heap.push (lh #[] 0 (.fresh 0 0 (!w.params.followText "set-order")))}):
  cg (ai f w) A (.call (.builtin "set.__new__") ⟨[.type "set",a],[]⟩) (Ch Q₁ E) s:=by
 refine xF ?_;show ah _ A.in1 (do c6 "set.__new__" ⟨[.type "set",a],[]⟩;again (.builtin "set.__new__" ⟨[.type "set",a],[]⟩)) _ _ s;refine iP<|vX (PySem.F.newCall_set_1 a)<|je ⟨sZ Mw _,qp PySem.F.entry_set_new ?_⟩;rw[uN Mw _];unfold bc.«set.__new__» qs;have c:=sub_set_self;obtain⟨b,g,d,e,os⟩:=s;dsimp only
 wp_walk
 refine vn<|je ?_;dsimp only;simp only[newObj];refine iP<|Dz<|je ?_;exact je h
noncomputable abbrev mh(w:jk):SetTable:=.fresh 0 0 (!w.params.followText "set-order")
def XG{h:jn}{a:iO}(e:h.get? a=Y (lh #[] 0 (mh w))):D3 w h a #[] 0 (mh w):=⟨e,BQ.fresh _ _ _,rfl,rfl⟩
set_option maxHeartbeats 8000000 in
def XH{l:iO}{items:nZ}{Q:jG}(hh:A.handled=T2)(m:s.heap.IsList l items\/s.heap.IsTuple l items)(k:Nat->jn->Prop)
  (BG:∀i h a,k i h->(∀o,h.get? s.heap.objs.size=TW o->a.get? s.heap.objs.size=TW o)->k i a)
  (oR:∀a,a.get? s.heap.objs.size=TW (lh #[] 0 (mh w))->k 0 a)
  (step:∀i v (d:iT) (B:jm) (Q:sD) (E:jG),B.units<=A.units+20->items[i]?=TW v->k i d.heap->(∀b o,s.heap.get? b=TW o->d.heap.get? b=TW o)->d.gens=s.gens->d.drawn=s.drawn->d.os=s.os->
   (∀r a u,d.toks<=u->aE s.heap.objs.size d.heap a->k (i+1) a->Q r {d with heap:=a,toks:=u})->ah (ai f w) B (lf s.heap.objs.size v) Q E d)
  (h:∀(a:jn)(u:Nat),k items.size a->(∀b o,s.heap.get? b=TW o->a.get? b=TW o)->Q (.ref s.heap.objs.size) {s with heap:=a,toks:=u}):
  ah (ai f w) A (call (.type "set") [.ref l]) Q E s:=by
 obtain⟨c,tl,D⟩:=M6.mro;have I:=M6.made;have l8:=M6.sub;refine xP<|xF ?_;show ah _ _ (callAny (.type "set") _) _ _ _;refine je ⟨G6 _ (by decide+kernel),qp PySem.F.entry_type_call ?_⟩;rw[hZ (ML "set" [.ref l] []) UV];have h1:=M6.notType;have h2:=M6.canCreate;have hct:=PySem.F.typeCall_set_1<|.ref l
 repeat (any_goals (first|assumption|wp_step))
 refine sf (Sk (.ref l) (E:=E) (Q₁:=λobj p=>obj=.ref s.heap.objs.size/\p={s with heap:=s.heap.push (lh #[] 0 (mh w))}) ⟨rfl,rfl⟩) λr p L=>?_
 cases r with
 |error e=>exact L
 |ok fl=>
  cases fl with
  |ret obj=>
   obtain⟨rfl,rfl⟩:=L;have Y:(s.heap.push<|lh #[] 0 (mh w)).get? s.heap.objs.size=TW (lh #[] 0 (mh w)):=kD _ rfl;have hT:dF {s with heap:=s.heap.push (lh #[] 0 (mh w))} (.ref s.heap.objs.size) "set":=⟨_,Y,rfl⟩
   have gH:=M6.init.lookup;have hV:=M6.init.bind<|.ref s.heap.objs.size
   repeat (any_goals (first|assumption|wp_step))
   refine sf (zY (R:=Ch (λr q=>r=.none/\∃a u,q={s with heap:=a,toks:=u}/\k items.size a/\(∀b o,s.heap.get? b=TW o->a.get? b=TW o)) E) M6.init.plain PySem.F.entry_set_init<|check_set_init_1 hT ?_) λy q z=>?_
   .obtain⟨c,hc,ol,J,V,nl,M⟩:∃c,(c="list"\/c="tuple")/\∃o,s.heap.get? l=TW o/\o.cls=.type c/\∃n,o.data=.seq items n:=m.elim (λh=>⟨_,.inl UV,h⟩) (λh=>⟨_,.inr UV,h⟩)
    obtain⟨S,P,i6⟩:isSubtype (.type c) (.type "set")=pure UF/\isSubtype (.type c) (.type "frozenset")=pure UF/\(ca c==ca "dict")=UF:=by
     rcases hc with rfl|rfl
     .exact⟨PySem.F.sub_list_set,PySem.F.sub_list_frozenset,by decide⟩
     exact⟨PySem.F.sub_tuple_set,PySem.F.sub_tuple_frozenset,by decide⟩
    obtain⟨X,t,O,j⟩:=ol;simp only at V M;subst V;subst M;have K:(s.heap.push<|lh #[] 0 (mh w)).get? l=TW {cls:=.type c,dict:=t,data:=.seq items nl,slots:=j}:=kb _ J;have U:l<s.heap.objs.size:=ki J;have N:A.in1.in1.in1.handled=T2:=by simp[hh]
    have sz:(s.heap.push<|lh #[] 0 (mh w)).objs.size=s.heap.objs.size+1:=qr _ _;have G:l≠(s.heap.push<|lh #[] 0 (mh w)).objs.size:=by rw[sz];exact kI<|vW U
    have bS:s.heap.objs.size∉[(s.heap.push<|lh #[] 0 (mh w)).objs.size,l]:=by rw[sz];simp only[nH,pj,sY,not_or];exact⟨kI<|Dw _,pv U⟩
    obtain⟨St,W,o0,h0,C⟩:∃St,Q2 f w A.in1.in1.in1 (s.heap.push<|lh #[] 0 (mh w)).objs.size [(s.heap.push<|lh #[] 0 (mh w)).objs.size,l] [(s.heap.push<|lh #[] 0 (mh w)).objs.size] items.size (λi v=>items[i]?=TW v) St/\∃o0,St 0 ((s.heap.push<|lh #[] 0 (mh w)).push o0)/\
      ∀{Z:jm}{Q:jG}{E},Q (.ref (s.heap.push<|lh #[] 0 (mh w)).objs.size) {s with heap:=(s.heap.push<|lh #[] 0 (mh w)).push o0}->ah (ai f w) Z (c5<|.ref l) Q E {s with heap:=s.heap.push (lh #[] 0 (mh w))}:=by
     rcases m with m|m
     .exact⟨_,Du N _ l G items,_,⟨⟨_,kD _ rfl,rfl,rfl⟩,(m.push _).push _⟩,λh=>xR (m.push _) h⟩
     exact⟨_,Walks.tuple N _ l G items,_,⟨⟨_,kD _ rfl,rfl,rfl⟩,(m.push _).push _⟩,λh=>Hq (m.push _) h⟩
    unfold bc.«set.__init__» noKeywords pp;generalize H:c5=PI
    wp_walk
    subst H;refine C ?_;refine iP<|G9 ?_;refine afU W.toS s.heap.objs.size bS _ k BG (λi v d Q' E' hi hP ir g hk=>?_) (items.size-0) 0 _ (by lia) (mn _) h0 (oR _ (kb _ Y)) (vv λ_=>rfl) ?hR
    .refine step i v d _ Q' E' ?_ hP ir (λb o e=>?_) g.gens g.drawn g.os hk
     .show A.units+1+1+1<=A.units+20;lia
     have x:=ki e;exact g.heap b o (by rw[sz];simp only[nH,pj,sY,not_or];exact⟨kI x,kI<|vW x⟩)<|kb _ (kb _ e)
    case hR=>intro d g T;obtain⟨a,g',d',aA,cG⟩:=d;have eg:g'=s.gens:=g.gens;have ed:d'=s.drawn:=g.drawn;have eo:cG=s.os:=g.os;subst eg;subst ed;subst eo;show ah _ _ _ _ _ _;refine je ?_;show ah _ _ (ret au) _ _ _;refine je ⟨rfl,a,aA,rfl,T,λb o e=>?_⟩;have x:=ki e;exact g.heap b o (by rw[sz];simp only[nH,pj,sY,not_or];exact⟨kI x,kI<|vW x⟩)<|kb _ (kb _ e)
   cases y with
   |error e=>exact z
   |ok iA=>
    cases iA with
    |ret r=>
     obtain⟨rfl,a,u,rfl,T,eA⟩:=z
     repeat (any_goals (first|assumption|wp_step))
     exact h _ _ T eA
    |_=>exact z.elim
  |_=>exact L.elim
end
end TT
namespace PX
open L2 PySem.SeqAt TS
def HE:D->Bool
 |.tup l=>D.Im l&&decide (D.BJ l<=6)
 |_=>C
def rG(h:HE d=I):∃l,d=.tup l:=by cases d<;>first|exact⟨_,rfl⟩|(simp[HE]at h)
def vI(h:HE d=I):D.pr d=I:=by obtain⟨l,rfl⟩:=rG h;simp only[HE,mf]at h;rw[D.pr];exact h.1
def uw(h:HE d=I):d.dep<=7:=by obtain⟨l,rfl⟩:=rG h;simp -iota only[HE,vV]at h;rw[D.dep];lia
def aei(h1:D.pr x=I)(a:D.pr y=I):D.BE x y=I↔x=y:=by
 rw[Ir x y h1 a];constructor
 .intro h;exact Bs x y h1 a (by simpa using h)
 rintro rfl;rw[Kn];rfl
def rW(a:List D)(d:D):List D:=if a.any (D.BE · d)=I then a else a++[d]
def nB(l:List D):List D:=l.foldl rW []
def TV{p:D->Bool}(h1:b.all p=I)(a:p d=I):(rW b d).all p=I:=by
 unfold rW;split
 .exact h1
 rw[List.all_append,h1];simp[a]
def nh{d i:Type}(f:d->i){g m:List i}(h:g.Perm m):∀l:List d,m=l.map f->∃c:List d,c.Perm l/\g=c.map f:=by
 induction h with
 |nil=>
  intro l e;have:l=[]:=by simpa using e.symm
  subst this;exact⟨[],.refl _,rfl⟩
 |cons x _ n=>
  intro l e
  cases l with
  |nil=>simp at e
  |cons y l=>simp -iota at e;obtain⟨c,p,q⟩:=n l e.2;exact⟨y::c,p.cons y,by rw[q,e.1];rfl⟩
 |swap x y w=>
  intro l e
  cases l with
  |nil=>simp at e
  |cons a l=>
   cases l with
   |nil=>simp at e
   |cons b l=>simp -iota at e;exact⟨b::a::l,.swap a b l,by rw[e.1,e.2.1,e.2.2];rfl⟩
 |trans _ _ k j=>intro l e;obtain⟨o,s,u⟩:=j l e;obtain⟨r,t,v⟩:=k o u;exact⟨r,t.trans s,v⟩
def yD{b d:Type}{F:b->d->Prop}{c m:List d}(h:c.Perm m):∀{z:List b},Paired F z m->∃a:List b,Paired F a c/\a.Perm z:=by
 induction h with
 |nil=>intro z p;exact⟨z,p,.refl _⟩
 |cons x _ i=>
  intro z p
  cases p with
  |cons r t=>obtain⟨a,h1,g⟩:=i t;exact⟨_::a,.cons r h1,g.cons _⟩
 |swap x y s=>
  intro z p
  cases p with
  |cons r t=>
   cases t with
   |cons o t=>exact⟨_,.cons o<|.cons r t,.swap _ _ _⟩
 |trans _ _ f e=>intro z p;obtain⟨u,j,l⟩:=e p;obtain⟨q,k,n⟩:=f j;exact⟨q,k,n.trans l⟩
def YP.zip{K U}{O:AB}:∀{l:List D}{b:List V},YP K U O l b->∀p∈l.zip b,Rep K U O p.1 p.2:=by
 intro f
 induction f with
 |nil=>intro b h p a;simp at a
 |cons d l e=>
  intro b h p a;rw[YP]at h;obtain⟨v,r,rfl,h1,c⟩:=h;rw[sQ]at a;rcases nH.mp a with rfl|a
  .exact h1
  exact e c p a
def YP.LY{K U}{O:AB}:∀{l:List (D×V)},(∀p∈l,Rep K U O p.1 p.2)->YP K U O (l.map (·.1)) (l.map (·.2)):=by
 intro c
 induction c with
 |nil=>intro _;exact YP.nil
 |cons p l b=>intro h;exact YP.cons (h p kx)<|b λq a=>h q<|kE _ a
abbrev hv(p:D×V):Int×V:=(D.hash p.1,p.2)
theorem Af:∀(b:List D)(a:List V),(D.FD b).zip a=(b.zip a).map hv
 |[],a=>by simp[D.FD]
 |d::b,[]=>by simp
 |d::b,u::a=>by rw[D.FD,sQ,sQ,kM,Af b a]
section
variable {X:Cx}{pins:jK}{σ:L2.St}{H:Hp}{s:iT}
structure Bu(X:Cx)(H:Hp)(O:AB)(h:jn)(a:iO)(vs:List D)(es:sy)(n:Nat)(t:mV)(l:List (D×V)):Prop where
 is:TT.D3 X.w h a es n t
 perm:(l.map (·.1)).Perm vs
 rep:∀p∈l,Rep X.K H O p.1 p.2
 par:Paired (λ(z:Int×V) (e:Int×iX)=>z.1=e.1/\RelV z.2 e.2) (l.map hv) es.toList
def Bu.BG{a c b n t l}(S:Bu X H O h a c b n t l)(k:∀o,h.get? a=Y o->d.get? a=Y o):Bu X H O d a c b n t l:=⟨S.is.BG k,S.perm,S.rep,S.par⟩
def adR{d c:Type}{F:d->c->Prop}{l:List d}{m:List c}(h:Paired F l m):∀{i:Nat}{b:c},m[i]?=Y b->∃a,l[i]?=Y a/\F a b:=by
 induction h with
 |nil=>intro i b h;simp at h
 |cons r t f=>
  intro i b h
  cases i with
  |zero=>simp at h;subst h;exact⟨_,rfl,r⟩
  |succ i=>obtain⟨a,h1,e⟩:=f (i:=i) (b:=b) (by simpa using h);exact⟨a,by simpa using h1,e⟩
def adQ{a b:Type}{F:a->b->Prop}:∀{l:List a}{m:List b},Paired F l m->VP l=(VP m):=vt
def Ay{l:List (Int×V)}{m:List (Int×iX)}(h:Paired (λ(z:Int×V) (e:Int×iX)=>z.1=e.1/\RelV z.2 e.2) l m):l.map (·.1)=m.map (·.1):=by
 induction h with
 |nil=>rfl
 |cons r t a=>rw[kM,kM,r.1,a]
def Bu.srch(I:Inv X pins σ H s){O Y:AB}{a:iO}{vs:List D}{M n t l}(S:Bu X H O s.heap a vs M n t l)(hok:vs.all HE=Uf){d:D}{v:V}{u:iX}(hd:kz X.K H Y d v)(ru:RelV v u)(J:HE d=Uf){A:jm}(hA:A.units+60<aV):
  ∃b,u=.ref b/\TT.LA A s a M n t u d.hash (λi=>match l[i]? with|some p=>D.BE p.1 d|none=>UF):=by
 obtain⟨ld,rfl⟩:=rG J;obtain⟨b,xs,rfl,q,r⟩:=lL hd;cases ru;have hdp:=uw J;have gF:=vI J;have h:∀p∈l,HE p.1=Uf:=λp N=>mC.mp hok _ (S.perm.mem_iff.mp<|sP N)
 have at_:∀(i:Nat)(e:Int×iX),M[i]?=TW e->∃p,l[i]?=TW p/\p∈l/\D.hash p.1=e.1/\RelV p.2 e.2:=λi e o=>by
  obtain⟨z,h1,f,L⟩:=adR S.par (i:=i) (b:=e) (by rw[mE];exact o);rw[kX]at h1
  cases hl:l[i]? with
  |none=>rw[hl]at h1;cases h1
  |some p=>rw[hl]at h1;cases h1;exact⟨p,rfl,mZ hl,f,L⟩
 have U:∀(e:D)(y:V)(G:iX)(C:AB)(B:jm)(P:jq)(W:jk)(Q:sD)(E:jG),HE e=Uf->kz X.K H C e y->RelV y G->Q Uf s->ah (ai P W) B (vr 8 G) Q E s:=λe y G C B P W Q E T hv hr x=>by
  obtain⟨le,rfl⟩:=rG T;rcases hv with hv|⟨_,_,hv⟩
  .exact Rv I 8 _ _ _ C B E Q hv hr (vI T) (by have:=uw T;lia) x
  exact hv.elim
 have l3:∀(e:D)(y:V)(G:iX)(C:AB)(B:jm)(P:jq)(W:jk)(Q:sD)(E:jG),HE e=Uf->kz X.K H C e y->RelV y G->Q UF s->ah (ai P W) B (d0 8 G) Q E s:=λe y G C B P W Q E T hv hr x=>by
  obtain⟨le,rfl⟩:=rG T;rcases hv with hv|⟨_,_,hv⟩
  .exact afi I 8 _ _ _ C B E Q hv hr (vI T) (by have:=uw T;lia) x
  exact hv.elim
 refine⟨b,rfl,⟨_,S.is.at_,rfl⟩,S.is.tab,λi e o=>?_,λi e o=>?_,λi e o x=>?_,λls g w E Q hls x=>?_⟩
 .obtain⟨p,h1,f,L,j⟩:=at_ i e o;obtain⟨lp,N⟩:=rG<|h p f;have:=S.rep p f;rw[N]at this;obtain⟨c,xs,R,_⟩:=this.tup;rw[R]at j;exact⟨c,j⟩
 .obtain⟨p,h1,f,L,j⟩:=at_ i e o;rw[h1];have:=uw<|h p f;exact Bh I 50 p.1 (.tup ld) p.2 (.ref b) _ _ O Y A (.inl<|S.rep p f) hd j rfl (by lia) (by lia) (by lia)
 .obtain⟨p,h1,f,L,j⟩:=at_ i e o;rw[h1]at x;rw[(aei (vI<|h p f) gF).mp x]at L;exact L.symm
 unfold ut;refine iP ?_;refine xu _ (λm rr s'=>rr.1=T2/\s'=s/\∀v∈m,∃e∈M.toList,e.2=v) _ ?_ ?_ _ _ ⟨rfl,rfl,hls⟩
 .rintro y m rr s' ⟨Z,rfl,hm⟩;have k:∀v∈m,∃e∈M.toList,e.2=v:=λv hv=>hm v<|kE _ hv;obtain⟨e,o,rfl⟩:=hm y kx;obtain⟨i,hi⟩:=sJ o;rw[mE]at hi;obtain⟨p,h1,f,L,j⟩:=at_ i e hi;obtain⟨lp,N⟩:=rG<|h p f;have F:=S.rep p f
  obtain⟨c,ec⟩:∃c,e.2=.ref c:=by rw[N]at F;obtain⟨c,xs,R,_⟩:=F.tup;rw[R]at j;exact⟨c,j⟩
  rw[ec]at j ⊢;dsimp only;split
  .exact je ⟨rfl,rfl,k⟩
  refine iP (U _ _ _ Y A g w _ _ J hd rfl ?_);simp -iota only[sG,lr];refine iP<|U _ _ _ O A g w _ _ (h p f) (.inl F) j ?_;simp -iota only[sG,lr];refine iP<|l3 _ _ _ Y A g w _ _ J hd rfl ?_;simp -iota only[lr];refine iP<|l3 _ _ _ O A g w _ _ (h p f) (.inl F) j ?_;simp -iota only[lr];exact je ⟨rfl,rfl,k⟩
 rintro⟨r1,r2⟩ s' ⟨Z,rfl,_⟩;simp only at Z;subst Z;exact je x
def D8.Nk(U:Inv X pins σ H s)(h:D8 X.K (H a) .set o f us)(r:YP X.K H O f us):∃b n t l,Bu X H O s.heap a f b n t l:=by
 obtain⟨_,m,e,p⟩:=h;obtain⟨b,n,t,h1,c,g,i,j⟩:=(show AA X.prog X.w H s.heap a (.AD m)from U.hok a _ e)
 rw[Af]at p;obtain⟨l,d,rfl⟩:=nh hv p _ rfl;refine⟨b,n,t,l,⟨h1,by rw[<-Ay c];exact g,i,j⟩,?_,λq k=>r.zip q<|d.mem_iff.mp k,c⟩;have:=d.map (·.1);rw[nw<|by rw[r.length];exact kg _]at this;exact this
def Bu.LZ{b n t l}(S:Bu X H O h a c b n t l):AA X.prog X.w H' h a (.AD<|l.map hv):=
 ⟨b,n,t,S.is.at_,S.par,by rw[Ay S.par];exact S.is.tab,S.is.plain,S.is.led⟩
def Bu.Nt{b n t l}(S:Bu X H O h a c b n t l):b.size=VP c/\(VP l)=(VP c):=by
 have h1:=adQ S.par;have d:=S.perm.length_eq;simp at h1 d
 lia
def Bu.AE{O:AB}{h:jn}{a:iO}{vs:List D}{e n t l}(S:Bu X H O h a vs e n t l){K H'}{O':AB}(i:∀p∈l,Rep K H' O' p.1 p.2)(f:H' a=Y (.AD<|l.map hv)):∃us,D8 K (H' a) .set [] vs us/\YP K H' O' vs us:=by
 obtain⟨b,c,d⟩:=nh (·.1) S.perm.symm l UV;refine⟨b.map (·.2),⟨rfl,l.map hv,f,?_⟩,?_⟩
 .rw[d,Af]
  have:(b.map (·.1)).zip (b.map (·.2))=b:=by
   clear c d
   induction b with
   |nil=>rfl
   |cons x l j=>rw[kM,kM,sQ,j]
  rw[this];exact(c.map hv).symm
 rw[d];exact YP.LY λp g=>i p<|c.mem_iff.mp g
def Bu.put{o h':jn}{f n t l b j t'}(S:Bu X H O o a c f n t l)(r:c.any (D.BE · d)=C)(B:Rep X.K H O d v)(A:RelV v u)(q:TT.D3 X.w h' a b j t')(m:b.toList.Perm ((d.hash,u)::f.toList)):∃h,Bu X H O h' a (rW c d) b j t' h:=by
 have i:Paired (λ(z:Int×V) (e:Int×iX)=>z.1=e.1/\RelV z.2 e.2) (((d,v)::l).map hv) ((d.hash,u)::f.toList):=.cons ⟨rfl,A⟩ S.par;obtain⟨U,x,y⟩:=yD m i;obtain⟨h,k,rfl⟩:=nh hv y _ rfl;refine⟨h,q,?_,λp g=>?_,x⟩
 .rw[show rW c d=c++[d] by unfold rW;rw[r,jy lH]];refine(k.map (·.1)).trans ?_;rw[kM];exact(S.perm.cons d).trans (ME d c).symm
 rcases nH.mp (k.mem_iff.mp g)with rfl|g
 .exact B
 exact S.rep p g
def Bu.add(I:Inv X pins σ H s){M n t l}(S:Bu X H O s.heap a g M n t l)(z:g.all HE=Uf)(hd:kz X.K H O' d v)(G:Rep X.K H O d v)(m:RelV v u)(k:HE d=Uf)(hz:(VP g)<500)
  (hA:A.units+60<aV)
  (h:∀r h' c f T t' C',s.toks<=c->aE a s.heap h'->Bu X H O h' a (rW g d) f T t' C'->Q r {s with heap:=h',toks:=c}):ah (ai X.prog X.w) A (lf a u) Q E s:=by
 obtain⟨aQ,w5⟩:=S.Nt;unfold lf;refine mz<|iP<|W3 50 I d v u O A E _ G m (vI k) (by have:=uw k;lia) (by lia) λc N=>?_;have J:Inv X pins σ H {s with toks:=c}:=I.kept (h':=s.heap) (t':=c) λ_ _ e=>e;obtain⟨b,rfl,Y⟩:=Bu.srch (s:={s with toks:=c}) J S z hd m k hA;have L:∀p∈l,p.1∈g:=λp B=>S.perm.mem_iff.mp<|sP B;refine TT.aaw Y S.is.at_ S.is.plain (by lia) (λU j=>ZU J 8 d v _ O A E U G m (vI k) (by have:=uw k;lia) j) (λ⟨i,o,j⟩=>?_) λP h' f T t' g1 g2 V W Z g6=>?_
 .have:rW g d=g:=by
   unfold rW
   cases y:l[i]? with
   |none=>rw[y]at j;cases j
   |some p=>rw[y]at j;rw[jh<|n6.mpr ⟨p.1,L p<|mZ y,j⟩]
  exact h C s.heap c M n t l N (Dy a s.heap) (by rw[this];exact S)
 have F:g.any (D.BE · d)=C:=by rw[List.any_eq_false];intro x hx;have R:=S.perm.mem_iff.mpr hx;obtain⟨p,B,rfl⟩:=ji R;obtain⟨i,o⟩:=sJ B;have:=P i (by have:=(uI.mp o).1;lia);rw[o]at this;simpa using this
 obtain⟨C',q⟩:=S.put F G m ⟨g2,W,Z,g6.trans S.is.led⟩ V;exact h Uf h' c f T t' C' N g1 q
def aej{l:List D}{i:Nat}{d:D}(h:l[i]?=Y d):nB (l.take<|i+1)=rW (nB<|l.take i) d:=by unfold nB;rw[zP,h,Dv];rfl
def Qc{p:D->Bool}:∀(l a:List D),l.all p=I->a.all p=I->(l.foldl rW a).all p=I:=by
 intro e
 induction e with
 |nil=>intro a _ h;exact h
 |cons d l c=>intro a h1 b;rw[vh,mf]at h1;exact c _ h1.2 (TV b h1.1)
def Qq{p:D->Bool}{l:List D}(h:l.all p=I)(i:Nat):(l.take i).all p=I:=by rw[mC]at h ⊢;exact λx a=>h x<|vf a
def Qb:∀(l a:List D),VP a<=(l.foldl rW a).length:=by
 intro l
 induction l with
 |nil=>intro a;exact kg _
 |cons d l b=>intro a;refine lV ?_<|b<|rW a d;unfold rW;split<;>simp
def ND{ok:D->Bool}{pins:jK}{s:iT}{σ:L2.St}{H:Hp}{x:V}{u:iX}{Q:VK}{O:AB}{d:D}{l:List D}(hc:X.calm=Uf)(I:Inv X pins σ H s)(ru:RelV x u)(hd:kz X.K H O d x)(hl:d=.lst l\/d=.tup l)(T:l.all ok=Uf)(hz:(nB l).length<500)(G:Gen X.K H O (.AE .set []<|nB l,Uf) Q)
  (add:∀{j:iT}{B:jm}{E':jG}{U:sD}{N:List D}{d:D}{x:V}{w:iX}{a:iO}{m n t g},Inv X pins σ H j->Bu X H O j.heap a N m n t g->N.all ok=Uf->Rep X.K H O d x->RelV x w->ok d=Uf->N.length<500->(X.A.units+90<aV->B.units+60<aV)->
   (∀r C' tk y n' t' Y',j.toks<=tk->aE a j.heap C'->Bu X H O C' a (rW N d) y n' t' Y'->U r {j with heap:=C',toks:=tk})->ah (ai X.prog X.w) B (lf a w) U E' j):
  ah (ai X.prog X.w) X.A (call (.type "set") [u]) (EP X pins σ Q) X.xe s:=by
 obtain⟨p,f,c,rfl,r,v,J⟩:∃p f c,x=.ref p/\YP X.K H O l f/\Vals f c/\(s.heap.IsList p c.toArray\/s.heap.IsTuple p c.toArray):=by
  rcases hl with rfl|rfl
  .obtain⟨p,f,rfl,q,r⟩:=kU hd;obtain⟨c,v,J,_⟩:=I.list q;exact⟨p,f,c,rfl,r,v,.inl J.isList⟩
  obtain⟨p,f,rfl,q,r⟩:=lL hd;obtain⟨c,v,J,_⟩:=I.tuple q;exact⟨p,f,c,rfl,r,v,.inr J⟩
 cases ru;have e1:=r.length;have e2:=v.length;have hh:X.A.handled=T2:=I.ok.hd hc;have M:=I.fresh
 refine TT.XH hh J (λi h=>∃m n t g,Bu X H O h s.heap.objs.size (nB<|l.take i) m n t g) (λi h C' ⟨m,n,t,g,S⟩ k=>⟨m,n,t,g,S.BG k⟩)
  (λC' e=>⟨#[],0,_,[],⟨TT.XG e,by simp[nB],λp P=>by simp at P,.nil⟩⟩) (λi w j B U E' hB hi F hk hg L bo E=>?_) (λC' tk F hk=>?_)
 .obtain⟨m,n,t,g,S⟩:=F
  have gL:i<c.length:=by have:=(Kw.mp hi).1;simpa using this
  have hw:c[i]?=Y w:=by simpa using hi
  have Z:f[i]?=Y f[i]:=lq (by omega);have hJ:l[i]?=Y l[i]:=lq (by omega);obtain⟨w',w1,w2⟩:=v.get Z;rw[hw]at w1;cases w1;have aL:Rep X.K H O l[i] f[i]:=r.views hJ Z;have af:ok l[i]=Uf:=mC.mp T _ (Dd _);obtain⟨h1,g1,dr1,dw,os1⟩:=j;dsimp only at hk hg L bo E S;subst hg;subst L;subst bo;have I':Inv X pins σ H {s with heap:=h1,toks:=dw}:=I.kept hk;refine add I' S (Qc _ _ (Qq T i) rfl) aL w2 af ?_ (λ_=>by omega) λrr h2 fW y n' t' Y' a1 a2 W=>?_
  .have:=Qb (l.drop i)<|nB<|l.take i;unfold nB at this hz ⊢;rw[<-Dv,sU]at this;omega
  rw[<-aej hJ]at W;exact E rr h2 fW a1 a2 ⟨y,n',t',Y',W⟩
 obtain⟨m,n,t,g,S⟩:=F;have R:c.toArray.size=l.length:=by simp;omega
 rw[R,GG]at S;refine⟨.ref s.heap.objs.size,upd H s.heap.objs.size<|.AD<|g.map hv,I.laid hk (kg _) S.LZ,rfl,?_⟩;refine G s.heap.objs.size _ M (lM M) ?_;exact S.AE (λp P=>Rep.mono (λb o e _=>lM M b o e) (λb hb z=>z.elim id λz=>absurd (z▸M) hb)<|S.rep p P) ju
end
def afF(a:l.Perm m)(b:∀x∈l,D.pr x=I):mW Bj l=mW Bj m:=Nv (λx c=>b x<|a.mem_iff.mpr c) ((km Bj l).trans a)<|og l
def aeC{k:Nat}{l:List D}(h:HH k l):nv l=I:=by
 unfold nv;rw[xo];right
 cases l with
 |nil=>rfl
 |cons x m=>simp only[mf,mC,vV];refine⟨⟨by rw[h.hd x kx];rfl,λy a=>⟨⟨?_,h.pr y a⟩,h.dp y a⟩⟩,λy a z b=>h.cm y a z b⟩;rw[h.hd x kx,h.hd y a];simp
def adB(b:l.Perm m)(h:nv m=I):nv l=I:=by
 rcases Cf h with c|⟨k,B⟩
 .unfold nv;rw[xo];left;rw[b.length_eq];simpa using c
 exact aeC (k:=k) ⟨λx a=>B.hd x<|b.mem_iff.mp a,λx a=>B.pr x<|b.mem_iff.mp a,λx a=>B.dp x<|b.mem_iff.mp a,λx a y d=>B.cm x (b.mem_iff.mp a) y<|b.mem_iff.mp d⟩
def wF(d:D):Option (D×Bool):=match d with
 |.AE .set [] a=>if a.all HE=I then kJ a else J
 |_=>mO d
section
variable {X:Cx}
def aeR{d:Type}{c:Prop}[Decidable c]{a:Option d}{b:d}(h:(if c then a else J)=Y b):c/\a=Y b:=by
 split at h
 .exact⟨‹_›,h⟩
 cases h
def aey{c:jK}{s:iT}{B:L2.St}{H:Hp}{x:V}{u:iX}{Q:VK}{O:AB}{i:List D}{z:D×Bool}(N:X.calm=Uf)(Y:X.A.units+62<aV)(I:Inv X c B H s)(ru:RelV x u)(np:∀p,¬Ow (H p)->¬O p)(hd:kz X.K H O (.AE .set [] i) x)(j:∀x∈i,D.pr x=Uf)(g:kJ i=TW z)(G:Gen X.K H O z Q):
  ah (ai X.prog X.w) X.A (call (.builtin "sorted") [u]) (EP X c B Q) X.xe s:=by
 obtain⟨a,us,rfl,q,r⟩:=oD hd;cases ru;obtain⟨e,n,t,l,S⟩:=q.Nk I r;obtain⟨C,w5⟩:=S.Nt;have wp:=TT.Gv X.w a n e;obtain⟨z',f,v⟩:=yD wp S.par;obtain⟨b,o,rfl⟩:=nh hv v _ rfl;have y:YP X.K H O (b.map (·.1)) (b.map (·.2)):=YP.LY λp j=>S.rep p<|o.mem_iff.mp j
 have R:Vals (b.map (·.2)) ((TT.rp X.w a n e).toList.map (·.2)):=by
  clear v o y wp;generalize (TT.rp X.w a n e).toList=m at f;revert f;generalize d:b.map hv=zz;intro f
  induction f generalizing b with
  |nil=>
    have:b=[]:=by simpa using d
    subst this;exact .nil
  |cons r t ih=>
   cases b with
   |nil=>simp at d
   |cons p b=>simp at d;rw[kM,kM];refine .cons ?_<|ih b d.2;have:=r.2;rw[<-d.1]at this;exact this
 have h:(b.map (·.1)).Perm i:=(o.map (·.1)).trans S.perm
 have E:kJ (b.map (·.1))=TW z:=by unfold kJ at g ⊢;obtain⟨⟨h1,J⟩,rfl⟩:=jz g;rw[jh ⟨adB h h1,by rw[h.length_eq];exact J⟩,afF h λx F=>j x<|h.mem_iff.mp F]
 have U:X.A.handled=T2:=I.ok.hd N
 have d:e.size<=sizeLine:=by unfold kJ at g;rw[C];exact(jz g).1.2
 exact qz Y I y R E G λQ' Z W L M=>TT.Tw (by rw[L];exact U) S.is d λT P k=>M T P k
def adf(m:X.calm=I)(k:X.A.units+62<aV):kL X (.builtin "sorted") (Ga X.K<|g1 wF):=nC λc s o T x u Q O d z U l np hd h G=>by
 by_cases i:∃e,d=.AE .set [] e
 .obtain⟨e,rfl⟩:=i;obtain⟨f,g⟩:=aeR (show(if e.all HE=I then kJ e else J)=Y z from h);exact aey m k U l np hd (λx n=>vI<|mC.mp f x n) g G
 have g:g1 mO [d]=Y z:=by
  have:wF d=mO d:=by
   unfold wF;split
   .exact absurd ⟨_,rfl⟩ i
   rfl
  show mO d=Y z;rw[<-this];exact h
 exact wO k c s o T [x] [u] Q U (.cons l .nil) ⟨O,[d],z,np,rfl,(λj p q a b=>by
  cases j with
  |zero=>simp at a b;subst a;subst b;exact hd
  |succ j=>simp at a),g,G⟩
end
end PX
namespace L2
section
variable {κ:Type}[DecidableEq κ]
def uJ(a:List (κ×V))(k:κ):Option V:=(a.find? λb=>decide<|b.1=k).map (·.2)
def qh(a:List (κ×V))(k:κ)(v:V):List (κ×V):=
 if(a.any λb=>decide<|b.1=k)=I then a.map (λb=>if b.1=k then(b.1,v)else b)else a++[(k,v)]
theorem wm{p:κ×V}{r:List (κ×V)}{k:κ}(e:p.1=k):uJ (p::r) k=Y p.2:=by simp[uJ,xh,e]
theorem tK{p:κ×V}{r:List (κ×V)}{k:κ}(e: ¬p.1=k):uJ (p::r) k=uJ r k:=by simp[uJ,xh,e]
theorem E6(k:κ):∀a:List (κ×V),(a.any λb=>decide<|b.1=k)=(uJ a k).isSome
 |[]=>rfl
 |p::r=>by
  rw[vU];by_cases e:p.1=k
  .simp only[wm e,nI e,Bool.true_or,ia]
  rw[tK e,mq e,Bool.false_or];exact E6 k r
theorem tP(a:List (κ×V))(k:κ)(v:V):(qh a k v).length<=VP a+1:=by
 unfold qh;split
 .rw[ke];lia
 rw[nK,oy,uX];lia
theorem IB.DZ{o:Option V}{u:Option iX}(r:IB o u):o.isSome=u.isSome:=by
 cases o with
 |none=>cases u with
  |none=>rfl
  |some _=>exact(show False from r).elim
 |some _=>cases u with
  |none=>exact(show False from r).elim
  |some _=>rfl
theorem KV.val{kvs:List (κ×V)}{vs:List (κ×iX)}(r:KV kvs vs)(k:κ):IB (uJ kvs k) (f5 vs k):=by
 unfold KV at r
 induction r with
 |nil=>exact bb
 | @cons p q g c h t f=>
  obtain⟨h1,d⟩:=h;by_cases e:p.1=k
  .have a:q.1=k:=h1.symm.trans e;have b:f5 (q::c) k=Y q.2:=by simp[f5,xh,a]
   rw[wm e,b];exact d
  have a: ¬q.1=k:=λz=>e<|h1.trans z;have b:f5 (q::c) k=f5 c k:=by simp[f5,xh,a]
  rw[tK e,b];exact f
theorem KV.any{a:List (κ×V)}{vs:List (κ×iX)}(r:KV a vs)(k:κ):(a.any λb=>decide<|b.1=k)=vs.any λb=>decide (b.1=k):=by
 unfold KV at r
 induction r with
 |nil=>rfl
 |cons h t c=>rw[vU,vU,c,h.1]
theorem KV.Lr{b:List (κ×V)}{c:List (κ×iX)}(r:KV b c)(k:κ){y:V}{u:iX}(g:RelV y u):
  KV (b.map λa=>if a.1=k then(a.1,y)else a) (c.map λa=>if a.1=k then(a.1,u)else a):=by
 unfold KV at r ⊢
 induction r with
 |nil=>exact .nil
 | @cons p q i j h t f=>
  rw[kM,kM];refine .cons ?_ f;obtain⟨h1,d⟩:=h;by_cases e:p.1=k
  .rw[jh e,jh<|h1.symm.trans e];exact⟨h1,g⟩
  rw[jy e,jy λz=>e<|h1.trans z];exact⟨h1,d⟩
theorem KV.put{a:List (κ×V)}{b:List (κ×iX)}(r:KV a b)(k:κ){y:V}{u:iX}(c:RelV y u):KV (qh a k y) (stored b k u):=by
 unfold qh stored;rw[r.any k];by_cases e:(b.any λd=>decide<|d.1=k)=I
 .rw[jh e,jh e];exact r.Lr k c
 rw[jy e,jy e];exact Paired.snoc r ⟨rfl,c⟩
theorem KV.length{a:List (κ×V)}{vs:List (κ×iX)}(r:KV a vs):(VP a)=(VP vs):=vt r
end
def yG{P:jq}{w:jk}{k:Key}{u:iX}(r:RelV (kV k) u):(ky P w).is k u=I:=by
 cases k with
 |inl i=>obtain⟨t,e⟩:=(show ∃t,u=gB i t from r);subst e;exact ady P w i t
 |inr x=>obtain⟨t,e⟩:=(show ∃t,u=lA x t from r);subst e;exact adx P w x t
theorem Cw{P:jq}{w:jk}:∀{a:List Key}{b:jW},Vals (a.map kV) b->ItemsAre (ky P w) a b
 |[],_,r=>by rw[sM]at r;cases r;exact .nil
 |k::a,_,r=>by
  rw[kM]at r
  cases r with
  |cons h t=>exact .cons (yG h)<|Cw t
abbrev KT(U:Hp):List (List Key×V)->List (List Key×iO×iX)->Prop:=Paired λp q=>p.1=q.1/\U q.2.1=Y (.tup<|p.1.map kV)/\RelV p.2 q.2.2
def KT.val{U:Hp}{kvs:List (List Key×V)}{d:List (List Key×iO×iX)}(r:KT U kvs d)(k:List Key):IB (uJ kvs k) ((gA d k).map (·.2)):=by
 induction r with
 |nil=>exact bb
 | @cons p q i c h t g=>
  obtain⟨h1,_,f⟩:=h;by_cases e:p.1=k
  .have a:q.1=k:=h1.symm.trans e;have b:gA (q::c) k=Y q.2:=by simp[gA,xh,a]
   rw[wm e,b];exact f
  have a: ¬q.1=k:=λz=>e<|h1.trans z;have b:gA (q::c) k=gA c k:=by simp[gA,xh,a]
  rw[tK e,b];exact g
def KT.Lr{U:Hp}{a:List (List Key×V)}{d:List (List Key×iO×iX)}(r:KT U a d)(k:List Key){y:V}{u:iX}(i:RelV y u):
  KT U (a.map λb=>if b.1=k then(b.1,y)else b) (d.map<|putAt k u):=by
 induction r with
 |nil=>exact .nil
 | @cons p q j l h t g=>
  rw[kM,kM];refine .cons ?_ g;obtain⟨h1,c,f⟩:=h;unfold putAt;by_cases e:p.1=k
  .rw[jh e,jh<|h1.symm.trans e];exact⟨h1,c,i⟩
  rw[jy e,jy λz=>e<|h1.trans z];exact⟨h1,c,f⟩
def KT.put{U:Hp}{a:List (List Key×V)}{c:List (List Key×iO×iX)}(r:KT U a c)(k:List Key){b:iO}{y:V}{u:iX}(f:U b=Y (.tup<|k.map kV))(d:RelV y u):
  KT U (qh a k y) (storedH c k b u):=by
 have e:(a.any λg=>decide<|g.1=k)=(gA c k).isSome:=by rw[E6,(r.val k).DZ,GF]
 unfold qh storedH;rw[e];by_cases q:(gA c k).isSome=I
 .rw[jh q,jh q];exact r.Lr k d
 rw[jy q,jy q];exact Paired.snoc r ⟨rfl,f,d⟩
def KT.keeps{U c:Hp}{a:List (List Key×V)}{d:List (List Key×iO×iX)}(r:KT U a d)(f:∀b e,U b=Y (.tup e)->c b=Y (.tup e)):KT c a d:=
 Paired.Nq r λ_ _ z=>⟨z.1,f _ _ z.2.1,z.2.2⟩
section
variable {P:jq}{w:jk}{H:Hp}{h:jn}{a:iO}
def Ud{u:HO}(ok:Em P w H h)(e:Rd H a u):AA P w H h a u:=e.ok ok
def Kg{b:List (Key×V)}(ok:Em P w H h)(e:Rd H a (.dK b)):(VP b)<=sizeLine/\(a==bK)=C/\∃c,KV b c/\h.DictOf (ky P w) a c:=
 show AA P w H h a (.dK b)from Ud ok e
def Kh{b:List (Key×V)}(ok:Em P w H h)(e:H a=Y (.dK b)):(VP b)<=sizeLine/\(a==bK)=C/\∃c,KV b c/\h.DictOf (ky P w) a c:=Kg ok<|.inl e
def rK{c:List Key}(ok:Em P w H h)(e:H a=Y (.tup<|c.map kV)):(cp<|ky P w).is h c a:=by
 obtain⟨_,b,r,o,h1,d,n,f⟩:=(show AA P w H h a (.tup<|c.map kV)from ok a _ e)
 exact⟨o,b.toArray,n,h1,d,f,by simpa using Cw r⟩
def Ke{b:List (List Key×V)}(ok:Em P w H h)(e:Rd H a (.dT b)):(VP b)<=sizeLine/\(a==bK)=C/\
  ∃d,KT H b d/\h.DictOfH (cp<|ky P w) a d:=by
 obtain⟨z,y,d,r,o,i,g,h1,j,k,n,s⟩:=(show AA P w H h a (.dT b)from Ud ok e)
 refine⟨z,y,d,r,o,i,g,h1,j,k,n,λx c=>?_,s⟩
 have all:∀{l:List (List Key×V)}{m:List (List Key×iO×iX)},KT H l m->∀x∈m,(cp<|ky P w).is h x.1 x.2.1:=by
  intro l m q
  induction q with
  |nil=>intro x c;exact nomatch c
  | @cons p q v A f t u=>
   intro x c;rcases nH.mp c with e|c
   .subst e;exact rK ok (by rw[<-f.1];exact f.2.1)
   exact u x c
 exact all r x c
def P8{b:List (List Key×V)}(ok:Em P w H h)(e:H a=Y (.dT b)):(VP b)<=sizeLine/\(a==bK)=C/\
  ∃c,KT H b c/\h.DictOfH (cp<|ky P w) a c:=Ke ok<|.inl e
end
def Fy(U:Hp)(a:iO)(y:V)(r:Option V):Prop:=
 (∃c k,Rd U a (.dK c)/\y=kV k/\r=uJ c k)\/∃c k b,Rd U a (.dT c)/\y=.ref b/\U b=Y (.tup<|k.map kV)/\r=uJ c k
def IC(U:Hp)(a:iO)(y v:V)(c:Hp):Prop:=
 (∃kvs k,U a=Y (.dK kvs)/\y=kV k/\(VP kvs)<sizeLine/\c=upd U a (.dK<|qh kvs k v))\/
 ∃kvs k b,U a=Y (.dT kvs)/\y=.ref b/\U b=Y (.tup<|k.map kV)/\(VP kvs)<sizeLine/\c=upd U a (.dT<|qh kvs k v)
def Fy.k{U:Hp}{a:iO}{kvs:List (Key×V)}{k:Key}(e:U a=Y (.dK kvs)):Fy U a (kV k) (uJ kvs k):=.inl ⟨kvs,k,.inl e,rfl,rfl⟩
def Fy.t{U:Hp}{a b:iO}{kvs:List (List Key×V)}{k:List Key}(e:U a=Y (.dT kvs))(c:U b=Y (.tup<|k.map kV)):Fy U a (.ref b) (uJ kvs k):=.inr ⟨kvs,k,b,.inl e,rfl,c,rfl⟩
def IC.k{U:Hp}{a:iO}{kvs:List (Key×V)}{k:Key}{v:V}(e:U a=Y (.dK kvs))(b:(VP kvs)<sizeLine):IC U a (kV k) v (upd U a<|.dK<|qh kvs k v):=.inl ⟨kvs,k,e,rfl,b,rfl⟩
def IC.t{U:Hp}{a b:iO}{kvs:List (List Key×V)}{k:List Key}{v:V}(e:U a=Y (.dT kvs))(c:U b=Y (.tup<|k.map kV))(d:(VP kvs)<sizeLine):
  IC U a (.ref b) v (upd U a<|.dT<|qh kvs k v):=.inr ⟨kvs,k,b,e,rfl,c,d,rfl⟩
section
variable {X:Cx}{d:jK}{f:St}{H:Hp}{s:iT}{a:iO}{y v:V}{u r:iX}{o:Option V}{A:jm}{E:jG}
def Inv.big(U:Inv X d f H s):bK<s.heap.objs.size:=by have h:ap<s.heap.objs.size:=(U.mod.glob.keeps U.bk).lt;exact Ac (by decide) h
def CJ{Q:jG}(O:A.units+1<aV)(U:Inv X d f H s)(g:Fy H a y (Y v))(x:RelV y u)(h:∀i B,Inv X d f H B->RelV v i->Q i B):
  ah (ai X.prog X.w) A (d1 (.ref a) u) Q E s:=by
 rcases g with⟨q,k,e,j,l⟩|⟨q,k,b,e,j,N,l⟩
 .subst j;obtain⟨z,hd,T,c,dd⟩:=Kg U.hok e;obtain⟨i,n,t⟩:=IB.some_of (v:=v) (o:=f5 T k) (by rw[l];exact c.val k);exact wpAny_getItem_of (yG x) dd.mapOf n<|h i _ (U.tok _) t
 subst j;cases(show u=bU b from x);obtain⟨z,hd,G,c,dd⟩:=Ke U.hok e;obtain⟨i,n,t⟩:=IB.some_of (v:=v) (o:=(gA G k).map (·.2)) (by rw[l];exact c.val k);obtain⟨p,L,m⟩:=gC.mp n;refine wpAny_getItem_heap (xg O) (rK U.hok N) dd L ?_;rw[m];exact h i _ (U.tok _) t
def Z9{Q:jG}(t:A.units+1<aV)(U:Inv X d f H s)(g:Fy H a y o)(m:RelV y u)(h:∀n,Inv X d f H n->Q (.bool o.isSome) n):
  ah (ai X.prog X.w) A (ay .In u<|.ref a) Q E s:=by
 rcases g with⟨j,k,e,i,l⟩|⟨j,k,b,e,i,p,l⟩
 .subst i;obtain⟨z,hd,x,c,dd⟩:=Kg U.hok e;refine P2 (yG m) hd dd.mapOf ?_;rw[<-(c.val k).DZ,<-l];exact h _ (U.tok _)
 subst i;cases(show u=bU b from m);obtain⟨z,hd,B,c,dd⟩:=Ke U.hok e;refine Ix (xg t) (rK U.hok p) hd dd ?_;have q:=(c.val k).DZ;rw[GF]at q;rw[<-q,<-l];exact h _ (U.tok _)
def Kj{Q:jG}(t:A.units+1<aV)(U:Inv X d f H s)(g:Fy H a y o)(m:RelV y u)(h:∀n,Inv X d f H n->Q (.bool (!o.isSome)) n):
  ah (ai X.prog X.w) A (ay .NotIn u<|.ref a) Q E s:=by
 rcases g with⟨j,k,e,i,l⟩|⟨j,k,b,e,i,p,l⟩
 .subst i;obtain⟨z,hd,x,c,dd⟩:=Kg U.hok e;refine B2 (yG m) hd dd.mapOf ?_;rw[<-(c.val k).DZ,<-l];exact h _ (U.tok _)
 subst i;cases(show u=bU b from m);obtain⟨z,hd,B,c,dd⟩:=Ke U.hok e;refine v9 (xg t) (rK U.hok p) hd dd ?_;have q:=(c.val k).DZ;rw[GF]at q;rw[<-q,<-l];exact h _ (U.tok _)
def uG{h':jn}{t':Nat}{c:HO}(U:Inv X d f H s)(j:OH (H a))(i:aE a s.heap h')(h:∃q,h'.get? a=Y q)(new:AA X.prog X.w (upd H a c) h' a c):
  Inv X d f (upd H a c) {s with heap:=h',toks:=t'}:=
 U.write (x:=a) (e:=a) j (.inl UV) (λb q g z=>(i.2 b g).trans z) h new
def P9{P:jq}{w:jk}{g:Hp}{h':jn}{b:List (Key×V)}{e:List (Key×iX)}(z:(VP b)<=sizeLine)(hd:(a==bK)=C)(c:KV b e)(dd:h'.DictOf (ky P w) a e):
  AA P w g h' a (.dK b):=⟨z,hd,e,c,dd⟩
def yu{L:Hp}{Q:Unit->Shared->Prop}(hu:A.units+1<aV)(I:Inv X d f H s)(g:IC H a y v L)(M:RelV y u)(J:RelV v r)(h:∀N,Inv X d f L N->Q () N):
  ah (ai X.prog X.w) A (k6 (.ref a) u r) Q E s:=by
 rcases g with⟨i,k,e,t,l,p⟩|⟨i,k,b,e,t,O,l,p⟩
 .subst t p;obtain⟨z,hd,S,j,dd⟩:=Kh I.hok e;have C:S.length<=sizeLine:=by rw[<-j.length];exact z
  have x:(qh i k v).length<=sizeLine:=by have:=tP i k v;lia
  refine wpAny_setItem_pairs (hsz:=C) (yG M) dd λG m B=>h _ ?_;have R:∃q,G.get? a=TW q:=let⟨q,_,_,n,_⟩:=m;⟨q,n⟩
  exact uG I (by rw[e];exact bb) B R<|P9 x hd (j.put k J) m
 subst t p;cases(show u=bU b from M);obtain⟨z,hd,V,j,dd⟩:=P8 I.hok e;have C:V.length<=sizeLine:=by rw[<-vt j];exact z
 have x:(qh i k v).length<=sizeLine:=by have:=tP i k v;lia
 refine wpAny_setItem_heap (hsz:=C) (xg hu) (rK I.hok O) dd λG m B=>h _ ?_;obtain⟨q,Y,U,n,D,F,K,_,P⟩:=m;refine uG I (by rw[e];exact bb) B ⟨q,n⟩ ⟨x,hd,_,(j.put k O J).keeps λc W T=>?_,q,Y,U,n,D,F,K,P⟩;rw[jx<|Uq T e (λz=>nomatch z)];exact T
end
def Gd{P:jq}{w:jk}{U:Hp}(h:jn)(a:bK<h.objs.size):AA P w U (h.push {cls:=.type "dict",data:=.dict #[]}) h.objs.size (.dK []):=
 ⟨mn _,BD.mpr<|pz<|kI a,[],.nil,Heap.DictOf.new h⟩
def Vl:TE:=λ_ U Q=>∀p,U p=J->Q (.ref p) (upd U p<|.dK [])
section
variable {X:Cx}{b:bn}
def agp:PE X (.Dict [] [] b) Vl:=λc s d T Q U h=>wpAny_Dict_empty ⟨.ref s.heap.objs.size,_,U.laid (a:=s.heap.objs.size) (o:=.dK []) (t':=s.toks) (λ_ _ q=>kb _ q) (kg _)<|Gd s.heap U.big,rfl,h _ (U.hok.fresh<|kg _)⟩
end
def HA:List (TE×TE)->St->Hp->(List (V×V)->Hp->Prop)->Prop
 |[],_,U,Q=>Q [] U
 |(e,f)::r,σ,U,Q=>e σ U λx a=>f σ a λy b=>HA r σ b λd c=>Q ((x,y)::d) c
abbrev VV:List (V×V)->List (iX×iX)->Prop:=Paired λp q=>RelV p.1 q.1/\RelV p.2 q.2
def P1(X:Cx)(c:bn)(keys:List (Option Expr))(a:kr)(g:List (TE×TE)):Prop:=
 ∀(b:jK)(s:iT)(d:St)(U:Hp)(Q:List (V×V)->Hp->Prop),Inv X b d U s->HA g d U Q->
  ah (ai X.prog X.w) X.A (evalPairs<|pairTrees keys a X.env c) (λi h=>∃f e,Inv X b d e h/\VV f i/\Q f e) X.xe s
def RG{X:Cx}{a:bn}:P1 X a [] [] []:=λb s c T Q U h=>pairTrees_nil_walk ⟨[],T,U,.nil,h⟩
def agi{X:Cx}{b:bn}{k v:iW}{f:List (Option Expr)}{j:kr}{g i:TE}{e:List (TE×TE)}(hk:PE X k g)(hv:PE X v i)(r:P1 X b f j e):
  P1 X b (Y k::f) (v::j) ((g,i)::e):=λa s d M Q U h=>
 pairTrees_cons_walk (Ak (hk a s d M _ U h) λu s1 ⟨x,l,o,B,w⟩=>Ak (hv a s1 d l _ o w) λO E ⟨y,m,p,N,z⟩=>Ak (r a E d m _ p z) λT L ⟨t,n,q,c,A⟩=>⟨(x,y)::t,n,q,.cons ⟨B,N⟩ c,A⟩)
def AH(b more:List (Key×V)):List (Key×V):=more.foldl (λa c=>qh a c.1 c.2) b
def KV.merge:∀{more:List (Key×V)}{c:List (Key×iX)}{a:List (Key×V)}{b:List (Key×iX)},KV more c->KV a b->KV (AH a more) (merged b c):=by
 intro more c a b r;unfold KV at r
 induction r generalizing a b with
 |nil=>intro q;exact q
 | @cons p q g i h t d=>
  intro f
  have e:KV (qh a p.1 p.2) (stored b q.1 q.2):=by have:=f.put p.1 h.2;rw[<-h.1];exact this
  exact d e
theorem uU:∀(more a:List (Key×V)),(AH a more).length<=VP a+VP more
 |[],a=>by show (VP a)<=VP a+0;lia
 |p::r,a=>by have h1:=uU r<|qh a p.1 p.2;have b:=tP a p.1 p.2;show(AH (qh a p.1 p.2) r).length<=_;rw[oy];lia
theorem Bp{P:jq}{w:jk}:∀{d:List (Key×V)}{g:List (iX×iX)},VV (d.map λf=>(kV f.1,f.2)) g->∃e,Carries (ky P w) g e/\KV d e
 |[],_,r=>by rw[sM]at r;cases r;exact⟨[],bb,.nil⟩
 |p::d,_,r=>by
  rw[kM]at r
  cases r with
  | @cons a b as bs h t=>obtain⟨e,c,q⟩:=Bp (P:=P) (w:=w) t;obtain⟨j,i⟩:=b;exact⟨(p.1,i)::e,⟨yG h.1,rfl,c⟩,.cons ⟨rfl,h.2⟩ q⟩
def Y0(d:List (TE×TE)):TE:=λf U Q=>∀p,U p=J->HA d f (upd U p<|.dK []) λe b=>b p=Y (.dK [])/\∃a:List (Key×V),e=a.map (λc=>(kV c.1,c.2))/\(VP a)<=15/\Q (.ref p) (upd b p<|.dK<|AH [] a)
def RO{X:Cx}{g:bn}{keys:List (Option Expr)}{b:kr}{k:List (TE×TE)}(h:P1 X g keys b k)(n:keys.all (·.isSome)=I)(u:(VP keys)=VP b)(r:keys≠[])
  (i:(VP keys)<=15):PE X (.Dict keys b g) (Y0 k):=by
 intro f s T H Q U q;have v:=U.hok.fresh<|kg s.heap.objs.size;have m:=U.laid (a:=s.heap.objs.size) (o:=.dK []) (h':=s.heap.push {cls:=.type "dict",data:=.dict #[]}) (t':=s.toks) (λ_ _ q=>kb _ q) (kg _)<|Gd s.heap U.big;refine wpAny_Dict_walk (knd:=ky X.prog X.w) n u r i<|Ak (h f _ T _ _ m (q _ v)) ?_;rintro ws s2 ⟨M,G,j,rel,e,d,p,lk,B⟩;subst p;obtain⟨L,c,E⟩:=Bp (P:=X.prog) (w:=X.w) rel;obtain⟨z,hd,O,N,dd⟩:=Kh j.hok e;cases N;refine⟨L,c,dd,λh' l y=>⟨.ref s.heap.objs.size,_,?_,rfl,B⟩⟩
 have A:(AH [] d).length<=sizeLine:=by have h1:=uU d [];rw[uX]at h1;rw[kj];lia
 have t:∃q,h'.get? s.heap.objs.size=Y q:=let⟨q,_,_,x,_⟩:=l;⟨q,x⟩
 exact uG j (by rw[e];exact bb) y t<|P9 A hd (E.merge .nil) l
end L2
namespace PX
open L2 PySem.SeqAt TS
noncomputable def AM:D->Option Key
 |.int i=>Y<|.inl i
 |.str x=>Y<|.inr x
 |_=>J
def BM:List D->Option (List Key)
 |[]=>Y []
 |d::l=>(AM d).bind λk=>(BM l).map (k:: ·)
def za:D->Option (List Key)
 |.tup l=>BM l
 |_=>J
def pd(h:AM d=Y k):d=lO k:=by
 cases d<;>simp[AM]at h<;>subst h<;>rfl
def Pe:∀{l:List D}{a:List Key},BM l=Y a->l=a.map lO:=by
 intro e
 induction e with
 |nil=>intro a h;cases h;rfl
 |cons d l c=>intro a h;rw[BM]at h;obtain⟨k,h1,h⟩:=iR h;obtain⟨m,b,rfl⟩:=jM h;rw[pd h1,c b];rfl
def tQ(h:za d=Y a):d=.tup (a.map lO):=by
 cases d with
 |tup l=>rw[Pe (show BM l=Y a from h)]
 |_=>cases h
def ud(a b:Key):D.BE (lO a) (lO b)=decide (a=b):=by
 cases a with
 |inl i=>cases b with
  |inl j=>simp only[lO,D.BE,Pd]
  |inr y=>simp only[lO,D.BE,Pc]
 |inr x=>cases b with
  |inl j=>simp only[lO,D.BE,Pb]
  |inr y=>simp;rfl
theorem uE:∀a b:List Key,D.D7 (a.map lO) (b.map lO)=decide (a=b)
 |[],[]=>by simp[D.D7]
 |[],_::_=>by simp[D.D7]
 |_::_,[]=>by simp[D.D7]
 |x::a,y::b=>by simp only[kM];rw[D.D7,ud,uE a b];simp
def mX:List D->List D->D->Option D
 |a::b,v::c,k=>if D.BE a k=I then Y v else mX b c k
 |_,_,_=>J
def Aq:List D->List D->D->D->List D
 |b::c,v::a,k,w=>(if D.BE b k=I then w else v)::Aq c a k w
 |_,a,_,_=>a
def yd(a b:List D)(k w:D):List D×List D:=if a.any (D.BE · k)=I then(a,Aq a b k w)else(a++[k],b++[w])
def qW(a:List D)(k:D):Bool:=((AM k).isSome&&a.all λx=>(AM x).isSome)||((za k).isSome&&a.all λx=>(za x).isSome)
section
variable {K:jr}{H:Hp}{O:AB}
def Fn(h:Rep K H O (lO k) v):v=kV k:=by
 cases k with
 |inl i=>exact Rep.int h
 |inr x=>exact Rep.str h
def aeH:∀{b:List Key}{a:List V},YP K H O (b.map lO) a->a=b.map kV:=by
 intro e
 induction e with
 |nil=>intro a h;rw[sM,YP]at h;exact h
 |cons k b d=>intro a h;rw[kM,YP]at h;obtain⟨v,r,rfl,h1,c⟩:=h;rw[Fn h1,d c];rfl
def qx(hk:AM d=Y k)(h:kz K H O d v):v=kV k:=by
 rw[pd hk]at h;rcases h with h|⟨a,rfl,h⟩
 .exact Fn h
 cases k<;>exact h.elim
def oZ(hk:za d=Y c)(h:kz K H O d v):∃b,v=.ref b/\H b=Y (.tup<|c.map kV):=by
 rw[tQ hk]at h;rcases h with h|⟨a,rfl,h⟩
 .obtain⟨b,xs,rfl,q,r⟩:=h.tup;rw[aeH r]at q;exact⟨b,rfl,q.1⟩
 exact h.elim
def YO(a b:List Key):D.BE (.tup<|a.map lO) (.tup<|b.map lO)=decide (a=b):=by rw[D.BE,uE]
theorem AJ{j:Type}[DecidableEq j]{f:j->D}{k:j}(l:∀a b,D.BE (f a) (f b)=decide (a=b)):∀{c:List (j×V)}{g:List D},YP K H O g (c.map (·.2))->(∀d,mX (c.map λp=>f p.1) g (f k)=Y d->∃v,uJ c k=Y v/\Rep K H O d v)/\(mX (c.map λp=>f p.1) g (f k)=J->uJ c k=J)
 |[],g,_=>⟨λd h=>by cases g<;>simp[mX]at h,λ_=>rfl⟩
 |(i,v)::c,[],h=>by rw[kM,YP]at h;cases h
 |(i,v)::c,t::g,h=>by
  rw[kM,YP]at h;obtain⟨w,r,e,h1,m⟩:=h;obtain⟨rfl,rfl⟩:=zN e;obtain⟨q,s⟩:=AJ l m;simp only[kM,mX,l];by_cases hk:i=k
  .simp only[hk,nJ];exact⟨λd h=>by cases h;exact⟨v,wm (p:=(k,v)) UV,h1⟩,λh=>by cases h⟩
  simp only[hk,lr,my];refine⟨λd h=>?_,λh=>?_⟩
  .obtain⟨u,n,o⟩:=q d h;exact⟨u,by rw[tK (p:=(i,v)) hk];exact n,o⟩
  rw[tK (p:=(i,v)) hk];exact s h
end
section
variable {P:jq}{w:jk}{H H':Hp}{h:jn}{a:iO}
def UE(x:AA P w H h a (.dT [])):AA P w H' h a (.dK []):=by
 obtain⟨z,y,k,r,o,b,c,h1,d,f,g,j⟩:=x;cases r
 have:b= #[]:=by
  have:b.toList=[]:=by simpa using g
  exact XM.mp this
 subst this;refine⟨z,y,[],.nil,o,#[],c,h1,d,f,?_,?_,rY⟩
 .first|exact λe i=>by simp at i|(intro;simp)
 first|exact .nil|trivial|simp
def UG(x:AA P w H h a (.dK [])):AA P w H' h a (.dT []):=by
 obtain⟨z,y,n,r,o,c,d,h1,f,g,k,b,m⟩:=x;cases r
 have:c= #[]:=by
  have j:(VP c.toList)=0:=by
   first
    |simpa using (VP b)
    |simpa using(vt b)
    |(
      cases i:c.toList with
      |nil=>rfl
      |cons e l=>rw[i]at b;cases b)
  exact XM.mp<|QN.mp j
 subst this;exact⟨z,y,[],.nil,o,#[],d,h1,f,g,rfl,rY⟩
end
section
variable {X:Cx}{g:jK}{i:L2.St}{H:Hp}{s:iT}
def aeV{A:jm}{E:jG}(U:Inv X g i H s){H':Hp}{a:iO}{k:Key}{u:iX}{Q:jG}(x:AA X.prog X.w H' s.heap a (.dK []))(d:RelV (kV k) u)(b:Bool)(h:∀e,Inv X g i H e->Q (.bool b) e):
  ah (ai X.prog X.w) A (ay (if b=I then .NotIn else .In) u<|.ref a) Q E s:=by
 obtain⟨z,hd,f,c,dd⟩:=x;cases c
 cases b
 .exact P2 (yG d) hd dd.mapOf<|h _ (U.tok _)
 exact B2 (yG d) hd dd.mapOf<|h _ (U.tok _)
def aeU{A:jm}{E:jG}(e:A.units+1<aV)(U:Inv X g i H s){H':Hp}{a b:iO}{k:List Key}{Q:jG}(x:AA X.prog X.w H' s.heap a (.dT []))(d:H b=Y (.tup<|k.map kV))(c:Bool)(h:∀f,Inv X g i H f->Q (.bool c) f):
  ah (ai X.prog X.w) A (ay (if c=I then .NotIn else .In) (.ref b)<|.ref a) Q E s:=by
 obtain⟨z,hd,u,r,o,l,j,h1,m,n,p,q⟩:=x;cases r;have dd:s.heap.DictOfH (cp<|ky X.prog X.w) a []:=⟨o,l,j,h1,m,n,p,(λx (t:x∈[])=>by simp at t),q⟩
 cases c
 .exact Ix (xg e) (rK U.hok d) hd dd<|h _ (U.tok _)
 exact v9 (xg e) (rK U.hok d) hd dd<|h _ (U.tok _)
def qV(h:qW d k=I):(∃e,AM k=Y e/\∀x∈d,∃c,AM x=Y c)\/(∃f,za k=Y f/\∀x∈d,∃c,za x=Y c):=by
 unfold qW at h;rw[xo,mf,mf,mC,mC]at h;rcases h with⟨h1,a⟩|⟨h1,a⟩
 .exact .inl ⟨_,(Mh.mp h1).choose_spec,λx b=>Mh.mp<|a x b⟩
 exact .inr ⟨_,(Mh.mp h1).choose_spec,λx b=>Mh.mp<|a x b⟩
def DO{a:List Key}{c:Key}(h:AM (.tup<|a.map lO)=Y c):False:=by cases h
def AN(h:za (lO k)=Y c):False:=by cases k<;>cases h
def Z8(B:A.units+1<aV)(I:Inv X g i H s)(q:D8 X.K (H a) .dct ks o us)(r:YP X.K H O o us)(hk:qW ks k=Uf)(G:kz X.K H O k y)(x:RelV y u)(m:Bool)
  (h:∀l,Inv X g i H l->Q (.bool<|xor m (mX ks o k).isSome) l):ah (ai X.prog X.w) A (ay (if m=Uf then .NotIn else .In) u<|.ref a) Q E s:=by
 have nil:∀o:List D,mX [] o k=T2:=λo=>by cases o<;>rfl
 rcases q with⟨j,e,rfl,rfl⟩|⟨j,e,rfl,rfl⟩
 .rcases qV hk with⟨C',h1,_⟩|⟨L,h1,M⟩
  .have:=qx h1 G;subst this;have R:=pd h1;subst R;obtain⟨F,P⟩:=AJ (f:=lO) (k:=C') ud r
   have Y:(uJ j C').isSome=(mX (j.map λp=>lO p.1) o<|lO C').isSome:=by
    cases z:mX (j.map λp=>lO p.1) o (lO C')with
    |none=>rw[P z];rfl
    |some d=>obtain⟨v,N,_⟩:=F d z;rw[N];rfl
   rw[<-Y]at h
   cases m
   .exact Z9 B I (Fy.k e) x λl n=>by simpa using h l n
   exact Kj B I (Fy.k e) x λl n=>by simpa using h l n
  have J:j=[]:=by
   cases j with
   |nil=>rfl
   |cons p j=>obtain⟨c,U⟩:=M (lO p.1) (by simp);exact(AN U).elim
  subst J;obtain⟨b,rfl,T⟩:=oZ h1 G;cases x;rw[sM,nil]at h;exact aeU B I (UG (H':=H)<|I.hok a _ e) T m λl n=>by simpa using h l n
 rcases qV hk with⟨C',h1,M⟩|⟨L,h1,_⟩
 .have J:j=[]:=by
   cases j with
   |nil=>rfl
   |cons p j=>obtain⟨c,U⟩:=M (.tup<|p.1.map lO) (by simp);exact(DO U).elim
  subst J;have:=qx h1 G;subst this;rw[sM,nil]at h;exact aeV I (UE (H':=H)<|I.hok a _ e) x m λl n=>by simpa using h l n
 obtain⟨b,rfl,T⟩:=oZ h1 G;have R:=tQ h1;subst R;obtain⟨F,P⟩:=AJ (f:=λk:List Key=>D.tup<|k.map lO) (k:=L) YO r
 have Y:(uJ j L).isSome=(mX (j.map λp=>.tup (p.1.map lO)) o<|.tup<|L.map lO).isSome:=by
  cases z:mX (j.map λp=>.tup (p.1.map lO)) o (.tup<|L.map lO)with
  |none=>rw[P z];rfl
  |some d=>obtain⟨v,N,_⟩:=F d z;rw[N];rfl
 rw[<-Y]at h
 cases m
 .exact Z9 B I (Fy.t e T) x λl n=>by simpa using h l n
 exact Kj B I (Fy.t e T) x λl n=>by simpa using h l n
def Xn(J:A.units+1<aV)(I:Inv X g i H s)(q:D8 X.K (H a) .dct M n us)(r:YP X.K H O n us)(hk:qW M k=Uf)(l:mX M n k=Y d)(U:kz X.K H O k y)(N:RelV y u)
  (h:∀v w m,Inv X g i H m->Rep X.K H O d v->RelV v w->Q w m):ah (ai X.prog X.w) A (d1 (.ref a) u) Q E s:=by
 have nil:∀n:List D,mX [] n k=T2:=λn=>by cases n<;>rfl
 rcases q with⟨j,e,rfl,rfl⟩|⟨j,e,rfl,rfl⟩
 .rcases qV hk with⟨G,h1,_⟩|⟨Y',h1,x⟩
  .have:=qx h1 U;subst this;have T:=pd h1;subst T;obtain⟨v,z,B⟩:=(AJ (f:=lO) (k:=G) ud r).1 d l;refine CJ J I (v:=v) (y:=kV G) ?_ N λw m o L=>h v w m o B L;rw[<-z];exact Fy.k e
  cases j with
  |nil=>rw[sM,nil]at l;cases l
  |cons p j=>obtain⟨c,C⟩:=x (lO p.1) (by simp);exact(AN C).elim
 rcases qV hk with⟨G,h1,x⟩|⟨Y',h1,_⟩
 .cases j with
  |nil=>rw[sM,nil]at l;cases l
  |cons p j=>obtain⟨c,C⟩:=x (.tup<|p.1.map lO) (by simp);exact(DO C).elim
 obtain⟨b,rfl,F⟩:=oZ h1 U;have T:=tQ h1;subst T;obtain⟨v,z,B⟩:=(AJ (f:=λk:List Key=>D.tup<|k.map lO) (k:=Y') YO r).1 d l;refine CJ J I (v:=v) (y:=.ref b) ?_ N λw m o L=>h v w m o B L;rw[<-z];exact Fy.t e F
end
def Ii(d k:D):Option (D×Bool):=match d with
 |.AE .dct a b=>if qW a k=I then(mX a b k).map λv=>(v,C)else J
 |_=>D6 d k
section
variable {X:Cx}
def ZO(T:X.A.units+1<aV):OL X (rD X.K Ii):=by
 intro c b f s C H x y v u Q I p t h o;obtain⟨O,d,e,z,np,h1,m,j,G⟩:=h;by_cases hd:∃i l,d=.AE .dct i l
 .obtain⟨i,l,rfl⟩:=hd;have k:(if qW i e=Uf then(mX i l e).map λv=>(v,UF)else T2)=TW z:=j;split at k
  case isFalse=>cases k
  rename_i hk;obtain⟨w,J,rfl⟩:=jM k;obtain⟨a,U,rfl,q,r⟩:=oD h1;cases p;have n:s.TypeIs (.ref a) "dict":=Az I q;unfold io;refine iP ?_;rw[getitemInPython_of_ne n.not_modules];refine iP<|xi n PySem.F.slot_dict_getitem.lookup ?_
  have fin:ah (ai X.prog X.w) X.A (n9 b UF (.ref a) u) (λr g=>ah (ai X.prog X.w) X.A (letTemporaryGo c (.ref a) r>>=λ_=>pure r) (EP X f C Q) X.xe g) X.xe s:=by rw[o];exact wpAny_operating<|Xn T I q r hk J m t λB Y N E L M=>iP<|wpAny_letTemporaryGo<|je ⟨B,H,E,M,G B H (λ_ _ e=>e) L⟩
  first
   |exact je<|iP fin
   |exact iP<|je<|iP fin
   |exact iP fin
 have:Ii d e=D6 d e:=by
  unfold Ii;split
  .exact absurd ⟨_,_,rfl⟩ hd
  rfl
 rw[this]at j;exact Uv c b f s C H x y v u Q I p t ⟨O,d,e,z,np,h1,m,j,G⟩ o
noncomputable def UB:F:=λa=>Y ((.AE .dct [] [],I),a)
end
section
variable {K:jr}{T:AB}{b:L2.St}{c:Dn}{H:Hp}{i:Nat}{d e:D}{a:iO}{o:HO}
end
section
variable {X:Cx}{c:jK}{d:L2.St}{H:Hp}{s:iT}{a:iO}
def VB(U:Inv X c d H s)(e:H a=Y (.dT [])):Inv X c d (upd H a<|.dK []) s:=by have:=uG (t':=s.toks) (h':=s.heap) U (by rw[e];exact bb) (Dy a s.heap) (by obtain⟨z,y,g,r,o,f,b,h1,_⟩:=(show AA X.prog X.w H s.heap a (.dT [])from U.hok a _ e);exact⟨o,h1⟩)<|UE (H':=upd H a<|.dK [])<|U.hok a _ e;exact this
def VA(U:Inv X c d H s)(e:H a=Y (.dK [])):Inv X c d (upd H a<|.dT []) s:=by have:=uG (t':=s.toks) (h':=s.heap) U (by rw[e];exact bb) (Dy a s.heap) (by obtain⟨z,y,g,r,o,f,b,h1,_⟩:=(show AA X.prog X.w H s.heap a (.dK [])from U.hok a _ e);exact⟨o,h1⟩)<|UG (H':=upd H a<|.dT [])<|U.hok a _ e;exact this
def Zj:TZ:=λo i v H Q=>∃a,o=.ref a/\((∃e,IC H a i v e/\Q e)\/(∃f,H a=Y (.dT [])/\i=kV f/\Q (upd H a<|.dK [(f,v)]))\/
 (∃g b,H a=Y (.dK [])/\i=.ref b/\H b=Y (.tup<|g.map kV)/\Q (upd H a<|.dT [(g,v)])))
def afI(j:X.A.units+1<aV):XA X Zj:=by
 intro c s d H o i v E T u Q U x l m h;obtain⟨a,rfl,h⟩:=h;cases x;rcases h with⟨r,g,q⟩|⟨y,e,rfl,q⟩|⟨B,b,e,rfl,n,q⟩
 .exact yu j U g l m λp f=>⟨r,f,q⟩
 .refine yu j (VB U e) (IC.k (k:=y) (v:=v) ju<|by rw[kj];decide) l m λp f=>⟨_,f,?_⟩
  rw[IZ];exact q
 have w:b≠a:=Uq n e (λz=>nomatch z);refine yu j (VA U e) (IC.t (k:=B) (v:=v) (b:=b) ju (by rw[jx w];exact n)<|by rw[kj];decide) l m λp f=>⟨_,f,?_⟩
 rw[IZ];exact q
end
section
variable {K:jr}{H:Hp}{O:AB}
theorem NN{g:Type}[DecidableEq g]{f:g->D}(hd:∀a b,D.BE (f a) (f b)=decide (a=b)){k:g}{w:D}{v:V}(j:Rep K H O w v):∀{c:List (g×V)}{d:List D},YP K H O d (c.map (·.2))->YP K H O (Aq (c.map λp=>f p.1) d (f k) w) ((c.map λi=>if i.1=k then(i.1,v)else i).map (·.2))
 |[],d,h=>by cases d<;>simpa[Aq]using h
 |(l,u)::c,[],h=>by rw[kM,YP]at h;cases h
 |(l,u)::c,n::d,h=>by
  rw[kM,YP]at h;obtain⟨x,r,e,h1,m⟩:=h;obtain⟨rfl,rfl⟩:=zN e;simp only[kM,Aq,hd];refine YP.cons ?_<|NN hd j m;by_cases hk:l=k
  .simp only[hk,nJ];exact j
  simp only[hk,lr,my];exact h1
def Ju{c:Type}[DecidableEq c]{kd:c->D}(hd:∀a b,D.BE (kd a) (kd b)=decide (a=b)){k:c}{w:D}{v:V}(e:Rep K H O w v){kvs:List (c×V)}{d:List D}(h:YP K H O d (kvs.map (·.2))):
  (yd (kvs.map λp=>kd p.1) d (kd k) w).1=(qh kvs k v).map (λp=>kd p.1)/\YP K H O (yd (kvs.map λp=>kd p.1) d (kd k) w).2 ((qh kvs k v).map (·.2)):=by
 have f:(kvs.map λp=>kd p.1).any (D.BE · (kd k))=kvs.any λg=>decide (g.1=k):=by rw[Dx];congr 1;funext p;exact hd _ _
 unfold yd qh;rw[f];split
 .refine⟨?_,NN hd e h⟩;rw[ll];apply qm;intro p _;simp;split<;>rfl
 exact⟨by simp,by rw[pU];exact h.append<|YP.one e⟩
end
def Fm(i:Nat)(f:F)(g:FO):FS:=λc=>(f c).bind λp=>match p.2[i]? with
 |some (Y _)=>(g p.2).bind λq=>match res q.2 q.1,q.2[i]? with
  |some k,Y (Y (.AE .dct a b,I))=>if qW a k=I/\(VP a)<10000 then Y (.nx<|q.2.set i<|Y (.AE .dct (yd a b k p.1.1).1 (yd a b k p.1.1).2,I))else J
  |_,_=>J
 |_=>J
section
variable {X:Cx}{e c:iW}{f:F}{g:FO}{b h a d:bn}{i:Nat}{x:av}{A:kB}{L:LL}{j:Hp}
end
end PX
namespace TT
open PySem.SeqAt
structure Gp(h:jn)(d:iO)(es:Array fv)(ep:Nat):Prop where
 at_:∃o,h.get? d=TW o/\o.ExactDict/\o.data=.dict es ep
def Gp.BG{d b a}(x:Gp h d b a)(k:∀o,h.get? d=Y o->c.get? d=Y o):Gp c d b a:=let⟨o,h1,r⟩:=x.at_;⟨o,k _ h1,r⟩
section
variable {c:jq}{w:jk}{A:jm}{E:jG}{s:iT}
def Gp.typeIs{d b a}(x:Gp s.heap d b a):s.TypeIs (.ref d) "dict":=let⟨o,h1,r,_⟩:=x.at_;⟨o,h1,r.1⟩
def J5(hd:(d==bK)=C)(e:Gp s.heap d h g)
  (i:Q (.ref s.heap.objs.size) {s with heap:=s.heap.push {cls:=.type "dict_keyiterator",data:=.fields #[.ref d,.int 0 0,.int h.size 0,.int g 0]}}):ah (ai c w) A (c5<|.ref d) Q E s:=by
 have a:=e.typeIs;obtain⟨o,f,j,b⟩:=e.at_;refine GI a Mv<|pY Mv a PySem.F.entry_dict_iter ?_<|PySem.F.args_dict_iter_1 _;unfold bc.«dict.__iter__»;refine iP ?_;unfold zx;refine iP<|Mu a ?_;change ah _ _ (pure<|bU d) _ _ s;refine je ?_;change ah _ _ (f3 d>>=_) _ _ s;unfold f3;rw[jy<|by rw[hd];exact lH];refine iP<|je ?_;refine iP<|t0 f b ?_;refine iP<|xp f b ?_;refine iP<|oz<|je ⟨_,rfl,"dict_keyiterator",_,⟨_,kD _ rfl,rfl⟩,Mi.lookup,?_⟩;simpa[cu]using i
def Cq(x:A.handled=J){it d:iO}{i k:Nat}{g:Array fv}{Q:B9}(f:s.heap.IsKeyIter it d i g.size k)(z:Gp s.heap d g k)(B:i<=g.size)
  (u:∀e,g[i]?=Y e->∀h,h.IsKeyIter it d (i+1) g.size k->aE it s.heap h->Q (Y e.key) {s with heap:=h})
  (t:i=g.size->∀h,eJ it s.heap h->Q J {s with heap:=h}):ah (ai c w) A (cA<|.ref it) Q E s:=by
 obtain⟨o,l,v,hd⟩:=id f;obtain⟨O,j,U,p⟩:=z.at_;unfold cA;refine iP<|rC<|tD (name:=bN "__next__") f.typeIs Mi<|pY Mi f.typeIs PySem.F.entry_dict_keyiterator_next ?_<|PySem.F.args_dict_keyiterator_next_1 _;refine iP<|je ?_;refine iP ?_;refine iP ?_;refine iP<|GD f.typeIs<|je ?_;refine iP<|wpAny_fieldsOf l hd ?_;have q:Builtin.Dict_items.ownsTuple "dict_keyiterator"=C:=by decide
 simp -iota only[lr,my];change ah _ _ (if(bU d==au)=I then _ else _) _ _ s;rw[jy (show ¬((bU d==au)=I)from lH)];refine iP<|je ?_;refine iP<|t0 j p ?_;rw[jy<|by simp];refine iP<|je ?_;refine iP<|xp j p ?_;rw[jy<|by simp];refine je ?_;dsimp only;simp -iota;by_cases y:i<g.size
 .have r:g[i]?=Y g[i]:=qo y;simp -iota only[r];refine iP ?_;refine iP<|GD f.typeIs<|je ?_;refine iP<|Mt f.typeIs ?_;change ah _ _ (oC (.ref it) 1 (cu<|(i:Int)+1)>>=_) _ _ s;refine iP (vg l hd (by simp) ?_)
  have n:(s.heap.update it (gG (·.setIfInBounds 1 (cu<|(i:Int)+1)))).IsKeyIter it d (i+1) g.size k:=
   ⟨_,tx _ l (Dt<|uM hd _),(Ds ..).trans v,by rw[uM hd];simp[cu]⟩
  refine iP<|mz ?_;refine iP (Mt (s:={s with heap:=s.heap.update it (gG (·.setIfInBounds 1 (cu<|(i:Int)+1)))}) n.typeIs ?_);change ah _ _ (pure g[i].key) _ _ _;exact je<|je ⟨_,rfl,je<|u _ r _ n (rZ ..)⟩
 obtain rfl:i=g.size:=by lia
 simp -iota;refine iP ?_;refine iP<|GD f.typeIs<|je ?_;change ah _ _ (oC (.ref it) 0 .none>>=_) _ _ s;refine iP<|vg l hd (by simp) ?_;change ah _ _ (lv (.type "StopIteration") []>>=_) _ _ _;refine iP ?_;simp -iota only[lv];refine iP<|oz ?_ (by size_fits);refine iP (m:=gV _ _)<|vX (a:=au) (by first|rfl|(simp -iota;rfl)) ?_;refine oz ?_ (by size_fits);simp -iota only[C2];refine iP<|G8 ?_;rw[show A.in1.handled=J from x];refine iP<|je<|G7 ?_;refine iP<|xw (T:="StopIteration") (b:=I) ⟨_,kD _ rfl,rfl⟩ Dm ?_;exact je<|t H _ (((rZ ..).extBut.push _).push _)
def Gw(m:A.handled=J)(U d:iO)(u:U≠d)(g:Array fv)(l:Nat):Q2 c w A U [U,d] [U] g.size (λi v=>∃e,g[i]?=Y e/\v=e.key) (λi h=>h.IsKeyIter U d i g.size l/\Gp h d g l) where
 sub:=λb a=>by simp at a;simp[a]
 frame:=λ_ _ _ st hk=>⟨st.1.at λo e=>hk U (by simp) o e,st.2.BG λo e=>hk d (by simp) o e⟩
 item:=λi s Q E n st f=>by refine Cq m st.1 st.2 (wc n) (λe t j p k=>?_) λz=>absurd z<|kI n;exact f _ j s.toks ⟨_,t,rfl⟩ ⟨p,st.2.BG λo e=>k.extBut d o (λh=>u h.symm) e⟩ λb o a e=>k.extBut b o (λh=>a<|by simp[h]) e
 done:=λs Q E st f=>Cq m st.1 st.2 (kg _) (λe r=>absurd (Kw.mp r).1<|pZ _) λ_ j q=>f j s.toks λb o a e=>q b o (λh=>a<|by simp[h]) e
 self:=λ_ _ _ _ st f=>wpAny_pyIter_keyiter st.1 f
def Qe(hd:(a==bK)=C)(p:A.handled=J)(S:Gp s.heap a d n)(q:d.size<=sizeLine)
  (j:∀h r,(∀b o,s.heap.get? b=Y o->h.get? b=Y o)->Q (d.toList.map (·.key)) {s with heap:=h,toks:=r}):ah (ai c w) A (f8<|.ref a) Q E s:=by
 have g:a<s.heap.objs.size:=let⟨_,h1,_⟩:=S.at_;ki h1;refine yM (.inr ⟨rfl,rfl⟩) g (λx k=>(S.BG k).typeIs) (Gw (by show A.handled=J;exact p) (s.heap.objs.size+1) a (pv<|vW g) d n) q (λi v ⟨e,m,hv⟩=>?_) (by rw[ke,lU]) (λl t k=>?_) j
 .rw[kX,mE,m,hv];rfl
 have f:Gp (s.heap.push l) a d n:=S.BG λo e=>kb _ e;have ext:∀(u:e6) b o,(s.heap.push l).get? b=Y o->((s.heap.push l).push u).get? b=Y o:=λu b o e=>kb _ e;refine J5 (s:={s with heap:=s.heap.push l}) hd f ?_;have z:(s.heap.push l).objs.size=s.heap.objs.size+1:=qr _ _;have:=k _ ⟨show((s.heap.push l).push {cls:=.type "dict_keyiterator",data:=.fields #[.ref a,.int 0 0,.int d.size 0,.int n 0]}).IsKeyIter (s.heap.objs.size+1) a 0 d.size n from⟨_,by rw[<-z];exact kD _ rfl,rfl,rfl⟩,f.BG λo e=>ext _ _ _ e⟩ (ext _);rw[<-z]at this;exact this
end
end TT
namespace PX
open L2 PySem.SeqAt TS
def mH(d:D):Option (D×Bool):=match d with
 |.AE .dct a b=>if(a.all λk=>(AM k).isSome)=I/\a≠[]then kJ a else J
 |_=>wF d
section
variable {X:Cx}
def Cb{P:jq}{w:jk}{e:List fv}{f:List (Key×iX)}{a:List (Key×V)}(h:Pairs (ky P w) e f)(q:KV a f):Vals (a.map λp=>kV p.1) (e.map (·.key)):=by
 induction h generalizing a with
 |nil=>cases q;exact .nil
 |cons h1 j t g=>
  obtain _|⟨r,q⟩:=q;refine .cons ?_<|g q;dsimp only;rw[r.1];rcases lD (show yF _ _=I from h1)with⟨i,d,b,c⟩|⟨x,d,b,c⟩
  .rw[b,c];exact⟨d,rfl⟩
  rw[b,c];exact⟨d,rfl⟩
theorem yb{K:jr}{U:Hp}{O:AB}:∀(a:List (Key×V)),YP K U O (a.map λp=>lO p.1)<|a.map λp=>kV p.1
 |[]=>YP.nil
 |(k,v)::a=>by
  refine YP.cons ?_<|yb a
  cases k with
  |inl i=>exact Rep.mkInt
  |inr x=>exact Rep.mkStr
def Uo{X:Cx}{id:String}{g f:D->Option (D×Bool)}(i:kL X (.builtin id) (Ga X.K<|g1 f)){c:jK}{s:iT}{e:L2.St}{T:Hp}{x:V}{u:iX}{Q:VK}{O:AB}{d:D}{z:D×Bool}(U:Inv X c e T s)(k:L2.RelV x u)(np:∀p,¬Ow (T p)->¬O p)(hd:kz X.K T O d x)(h:f d=Y z)(G:Gen X.K T O z Q):
  ah (ai X.prog X.w) X.A (call (.builtin id) [u]) (EP X c e Q) X.xe s:=
 i c s e T [x] [u] Q U (.cons k .nil) ⟨O,[d],z,np,rfl,(λj l m a b=>by
   cases j with
   |zero=>simp at a b;subst a;subst b;exact hd
   |succ j=>simp at a),h,G⟩
noncomputable def DU:FS:=λ_=>J
def UA(i j:Int):F:=λa=>Y ((.AE .dct [.int i] [.int j],I),a)
end
noncomputable def uC(i:Nat)(f:F):F:=λa=>match a[i]? with
 |some (Y (.lst _,I))=>(f a).bind λp=>match p.1,p.2[i]? with
  |(.lst m,I),Y (Y (.lst l,I))=>if (VP l)+VP m<=sizeLine then Y ((.V0,C),p.2.set i<|Y (.lst<|l++m,I))else J
  |_,_=>J
 |_=>J
section
variable {X:Cx}{e:iW}{f:F}{b d a c:bn}{i:Nat}{x:av}
end
structure PXs(X:Cx)(es:kr)(fs:List F):Prop where
 pa:PA X es (tA X.K<|fs.map iU)
section
variable {X:Cx}{e:iW}{b:kr}{f:F}{fs:List F}{a:bn}
end
structure QX(X:Cx)(e:iW)(f:F):Prop where
 h:PX X e f
structure QO(X:Cx)(e:iW)(f:FO):Prop where
 h:PX.PO X e f
structure QA(X:Cx)(es:kr)(fs:List FO):Prop where
 h:PA X es (tA X.K fs)
structure QL(X:Cx)(es:kr)(fs:List F):Prop where
 h:PXs X es fs
structure QT(X:Cx)(e:iW)(f:FT):Prop where
 h:Ov X e f
structure QW(X:Cx)(e:iW)(f:FT):Prop where
 h:PWX X e f
structure QG(X:Cx)(A:kB)(e:iW)(t:Tg):Prop where
 h:LQ X A e t
structure QI(X:Cx)(B:SB)(tg e:iW)(f:EG):Prop where
 h:LH X B tg e f
structure QF(X:Cx)(es:kr)(f:FT):Prop where
 h:KS X es (tT X.K f)
structure QB(X:Cx)(A:kB)(d:iO)(e:iW)(n:Nat)(f:FB):Prop where
 h:PB X (jT e n (.ref d) X.env) (IF UF X.K A d f)
structure QS(X:Cx)(A:kB)(L:LL)(H0:Hp)(st:bh)(f:FS):Prop where
 h:NJ X A L H0 st f
structure QQ(X:Cx)(A:kB)(L:LL)(H0:Hp)(st:List bh)(f:FS):Prop where
 h:IJ X A L H0 st f
structure QC(X:Cx)(v:iX)(g:List D->Option (D×Bool)):Prop where
 h:kL X v (Ga X.K g)
structure QP(X:Cx)(o:yy)(g:D->D->Option (D×Bool)):Prop where
 h:BY X o (rD X.K g)
abbrev SE(X:Cx)(e:iW)(a:kr):Prop:=ae (e::a) X.env=(C,aX e X.env)::ae a X.env
abbrev BA(X:Cx)(p:bn)(a:kr):Prop:=(aI p<|ae a X.env).any (·.1)=C
abbrev DB(x:av):Prop:=(x==("__debug__":av))=C
abbrev un(A:jm)(n:Nat):Prop:=A.units+n<aV
structure ZZ where
 P:jq
 w:jk
 K:jr
 mg:av->Option iX
 base:jn
def Oz(Z:ZZ)(k:Nat)(x:av)(b:jB)(c:BI):Prop:= ∃f a,D9 Z.P Z.w Z.K Z.mg Z.base HJ k f a b (KG Z.K c)/\Z.mg x=Y (.ref f)/\bP Z.K (.ref f)=I/\Binds Z.K a b []
def Oz.up{Z:ZZ}{k j:Nat}{x:av}{d:jB}{c:BI}(o:Oz Z k x d c)(h:k<=j:=by decide):Oz Z j x d c:=let⟨f,e,a,b⟩:=o;⟨f,e,a.mono h,b⟩
noncomputable abbrev zX(X:Cx):ZZ:=⟨X.prog,X.w,X.K,X.mg,X.base⟩
def tgN:Expr->List av
 |.Name x _=>[x]
 |.Tuple [.Name x _,.Name y _] _ _=>[x,y]
 |_=>[]
def cN(N:jB)(a:jX)(b:oN):List Str:=a.filterMap (N[·]?)++b.flatMap λg=>tgN g.target
noncomputable def KR:List (av×iX):=[("len",.builtin "len"),("abs",.builtin "abs"),("int",.type "int"),("tuple",.type "tuple"),("list",.type "list"),("bool",.type "bool"),("max",.builtin "max"),("min",.builtin "min"),("all",.builtin "all"),("any",.builtin "any"),("sorted",.builtin "sorted"),("set",.type "set")]
def btA{c:lJ}(T:Tx c):∀p∈KR,c p.1=J/\ax p.1=Y p.2:=by
 have h:∀p∈KR,ax p.1=Y p.2:=by decide+kernel
 intro p b;refine⟨?_,h p b⟩;have a:p∈KR:=b;unfold KR at a;simp only[nH,pj,sY]at a;rcases a with rfl|rfl|rfl|rfl|rfl|rfl|rfl|rfl|rfl|rfl|rfl|rfl
 .exact T.n_len
 .exact T.n_abs
 .exact T.n_int
 .exact T.n_tuple
 .exact T.n_list
 .exact T.n_bool
 .exact T.n_max
 .exact T.n_min
 .exact T.n_all
 .exact T.n_any
 .exact T.n_sorted
 exact T.n_set
theorem H9{z:av}{v:iX}:∀{l:List (av×iX)},l.lookup z=Y v->(z,v)∈l
 |[],h=>by cases h
 |(y,u)::l,h=>by
  rw[pW]at h;split at h
  .rename_i q;cases h;rw[sN q];exact .head _
  exact .tail _ (H9 h)
def Le{a:lJ}{z:av}{v:iX}(T:Tx a)(h:KR.lookup z=Y v):a z=J:=(btA T _ (H9 h)).1
def NB{z:av}{v:iX}(h:KR.lookup z=Y v):ax z=Y v:=(show ∀p∈KR,ax p.1=Y p.2 from by decide+kernel) _ (H9 h)
section
variable {X:Cx}{x z:av}{e a b c st lo J:iW}{M:kr}{U fb fc fo fl fh:FO}{f g:F}{ft fu:FT}{p p2 p3 G b9 apos:bn}{A:kB}{L:LL}{B:SB}{H0:Hp}{fs:List FO}{cw:List F}{i j k:Nat}{tg:iW}{S:bh}{Ss Ts:List bh}{u v:FS}
def xV(h1:X.N[i]?=Y x:=by rfl)(l:NG X.env.scope x:=by first|exact bv rfl|exact bj (bv H)|exact bj<|bj H)(m:DB x:=by decide)(n:(x==("__classdict__":av))=C:=by decide):QO X (.Name x G) (iQ i):=⟨PE.imp' (Ax h1 l m n) λw O Q h=>by
 obtain⟨r,T,o,s,E,e,k⟩:=h;unfold iQ at e
 cases J:r[i]? with
 |none=>rw[J]at e;cases e
 |some q=>
  cases q with
  |none=>rw[J]at e;cases e
  |some p=>obtain⟨d,b⟩:=p;rw[J]at e;obtain⟨rfl,rfl⟩:=jw e;obtain⟨t,v,h1,l⟩:=E.freeze J;exact⟨v,h1,k v O ⟨.refl,E,h1⟩⟩⟩
def xW(h1:X.N[i]?=Y x:=by rfl)(l:NG X.env.scope x:=by first|exact bv rfl|exact bj (bv H)|exact bj<|bj H)(n:DB x:=by decide)(q:(x==("__classdict__":av))=C:=by decide):QX X (.Name x G) (lu i):=⟨PX.imp (Ax h1 l n q) λw O Q h=>by
 obtain⟨s,T,r,t,E,e,k⟩:=h;unfold lu at e
 cases J:s[i]? with
 |none=>rw[J]at e;cases e
 |some o=>
  cases o with
  |none=>rw[J]at e;cases e
  |some p=>obtain⟨d,b⟩:=p;rw[J]at e;cases e;obtain⟨m,v,h1,l⟩:=E.freeze J;exact⟨v,h1,k v O<|BF.val .set m l⟩⟩
def xO(h:QX X e f):QO X e (iU f):=⟨PX.po h.h⟩
def x1{j}:QX X (.Constant .none j G) (fC .V0):=⟨PX.imp Wi λm O Q h=>by obtain⟨l,T,r,d,E,e,k⟩:=h;cases e;exact k _ _ (BF.val .refl E (by first|exact Rep.mkInt|exact Rep.Ib|exact Rep.HN|exact Rep.mkStr))⟩
def x2{i j}:QX X (.Constant (.bool i) j G) (fC<|.bl i):=⟨Uj⟩
def x3{i j}:QX X (.Constant (.int i) j G) (fC<|.int i):=⟨PX.imp D1 λm O Q h=>by obtain⟨l,T,r,d,E,e,k⟩:=h;cases e;exact k _ _ (BF.val .refl E (by first|exact Rep.mkInt|exact Rep.Ib|exact Rep.HN|exact Rep.mkStr))⟩
def x4{i j}:QX X (.Constant (.str i) j G) (fC<|.str i):=⟨PX.imp Wf λm O Q h=>by obtain⟨l,T,r,d,E,e,k⟩:=h;cases e;exact k _ _ (BF.val .refl E (by first|exact Rep.mkInt|exact Rep.Ib|exact Rep.HN|exact Rep.mkStr))⟩
def x7:QX X (.Dict [] [] G) UB:=⟨PX.imp agp λo O Q h=>by obtain⟨n,T,m,l,E,e,k⟩:=h;cases e;intro p d;have B:=Ops.nil E;exact(B.done k) p _ d (lM d) ⟨[],.inl ⟨[],ju,rfl,rfl⟩,YP.nil⟩⟩
def x8{i j:Int}{a b:Nat}:QX X (.Dict [Y<|.Constant (.int i) a p] [.Constant (.int j) b p2] G) (UA i j):=⟨
 PX.imp (RO (agi D1 D1 RG) H H (by simp)<|by simp) λr O Q l=>by
 obtain⟨q,T,n,m,E,e,k⟩:=l;cases e;intro p d;refine⟨ju,[(.inl i,.int j)],rfl,by simp,?_⟩;have B:=Ops.nil E;refine(B.done k) p _ d ?_ ⟨[.int j],.inl ⟨[(.inl i,.int j)],?_,rfl,rfl⟩,YP.one Rep.mkInt⟩
 .intro a o e;have h:a≠p:=by intro z;subst z;rw[e]at d;cases d
  rw[jx h,jx h];exact e
 rw[ju];rfl⟩
def aaU{d:Operator}{g:D->D->Option (D×Bool)}(o:QP X (bf d) g)(l:QO X a U)(m:QO X b fb):QX X (.BinOp a d b G) (jl g U fb):=⟨Of<|Zp o.h l.h m.h⟩
def aaM(d:QO X a U):QX X (.UnaryOp .USub a G) (md ze U):=⟨px1<|Zo Ra d.h⟩
def aaL(q:QX X a f):QX X (.UnaryOp .Not a G) (Tj f):=⟨PX.imp (Wh q.h) λO H Q s=>by obtain⟨w,T,r,y,E,e,k⟩:=s;obtain⟨p,h1,e⟩:=iR e;obtain⟨c,N,n,m⟩:=iY e;obtain⟨o,rfl⟩:=Bv n;obtain⟨rfl,rfl⟩:=jw m;refine⟨w,T,_,_,E,h1,λv l P=>?_⟩;obtain⟨d,t⟩:=P.rep E;exact⟨c,t.bl,k _ l (BF.val P.1 d Rep.Ib)⟩⟩
def aaT{d:cK}{g:D->D->Option (D×Bool)}(o:QP X (ay d) g)(l:QO X a U)(m:QO X b fb)(n:c9 d b=C:=by first|exact OI _|with_unfolding_all rfl):QX X (.Compare a [d] [b] G) (jl g U fb):=⟨Of<|RP o.h l.h m.h n⟩
def aa8{d:cK}{g:D->D->Option (D×Bool)}(o:QP X (ay d) g)(l:QO X a U)(m:QO X b fb)(n:c9 d b=C:=by first|exact OI _|with_unfolding_all rfl):QT X (.Compare a [d] [b] G) (fT<|jl g U fb):=⟨
 PT.imp' (RE o.h l.h m.h n) λr T Q q=>Sf Zk<|T8 q⟩
def xCh{d l:cK}(m:QO X a U)(n:QO X b fb)(o:QO X c fc)(s:Cy d:=by first|exact .inl rfl|exact .inr (.inl H)|exact .inr (.inr<|.inl H)|exact .inr<|.inr<|.inr H)(t:Cy l:=by first|exact .inl rfl|exact .inr (.inl H)|exact .inr (.inr<|.inl H)|exact .inr<|.inr<|.inr H)(q:lastMarks [d,l] [b,c]=C:=by with_unfolding_all rfl):QX X (.Compare a [d,l] [b,c] G) (Bc d l U fb fc):=⟨
 PX.imp (agq (JH s) (JH t) m.h n.h o.h q) λw T Q r=>ae5 r⟩
def xBo{op}(d:QX X a f):QX X (.BoolOp op [a] G) f:=⟨Wg d.h⟩
def aaW(C:QX X a f)(I:QX X (.BoolOp .And (b::M) G) g):QX X (.BoolOp .And (a::b::M) G) (Bf f g):=⟨PX.imp (Wl C.h I.h) λD H Q O=>by
 obtain⟨Y,T,r,l,E,e,k⟩:=O;obtain⟨p,h1,e⟩:=iR e;obtain⟨c,m,y,d⟩:=iY e;obtain⟨o,rfl⟩:=Bv y;refine⟨Y,T,_,_,E,h1,λv q P=>?_⟩;obtain⟨n,N⟩:=P.rep E;refine⟨c,N.bl,?_⟩
 cases c with
 |true=>rw[jh UV]at d;rw[jh UV];exact⟨m,T,r,l,n,d,λw s t=>k w s<|t.pre P.1⟩
 |false=>rw[jy lH]at d;rw[jy lH];obtain⟨rfl,rfl⟩:=jw d;exact k _ q (BF.val P.1 n Rep.Ib)⟩
def aaY(w:QT X a ft)(y:QW X (.BoolOp .And (b::M) G) fu):QW X (.BoolOp .And (a::b::M) G) (rh ft fu):=⟨PW.imp' (VX w.h y.h) λO H Q C=>by
 obtain⟨N,T,c,l,E,e,k⟩:=C;obtain⟨o,d,h1,e⟩:=iY e;refine⟨N,T,o,d,E,h1,λr n m=>?_⟩
 cases o with
 |true=>rw[jh UV]at e;rw[jh UV];exact⟨d,T,c,l,m,e,λs t q=>k s (n.trans t) q⟩
 |false=>rw[jy lH]at e;rw[jy lH];obtain⟨rfl,rfl⟩:=jw e;exact k r n m⟩
def wOr(w:QT X a ft)(y:QW X (.BoolOp .Or (b::M) G) fu):QW X (.BoolOp .Or (a::b::M) G) (Bb ft fu):=⟨PW.imp' (Zn w.h y.h) λO H Q C=>by
 obtain⟨N,T,c,l,E,e,k⟩:=C;obtain⟨o,d,h1,e⟩:=iY e;refine⟨N,T,o,d,E,h1,λr n m=>?_⟩
 cases o with
 |true=>rw[jh UV]at e;rw[jh UV];obtain⟨rfl,rfl⟩:=jw e;exact k r n m
 |false=>rw[jy lH]at e;rw[jy lH];exact⟨d,T,c,l,m,e,λs t q=>k s (n.trans t) q⟩⟩
def YN(d:QT X a ft):QW X (.BoolOp .And [a] G) ft:=⟨RA d.h⟩
def aaX(d:QT X a ft):QW X (.BoolOp .Or [a] G) ft:=⟨VW d.h⟩
def tW{op}(h:QW X (.BoolOp op M G) ft):QT X (.BoolOp op M G) ft:=⟨PW.pt h.h⟩
def Lp(m:QT X a ft):QT X (.UnaryOp .Not a G) (oV ft):=⟨PT.imp' (V4 m.h) λr O Q n=>by obtain⟨o,T,c,q,E,e,k⟩:=n;obtain⟨l,d,h1,e⟩:=iY e;obtain⟨rfl,rfl⟩:=jw e;exact⟨o,T,l,d,E,h1,k⟩⟩
def aa0(h:QX X e f)(l:∀d,isTrue e X.env d=(do let v <-d;cQ e.pos;cf [v] (truthy v)):=by intro _;rfl):QT X e (fT f):=⟨PT.imp' (V3 h.h l) λn T Q m=>T8 m⟩
def xIf(y:QT X c ft)(s:QX X a f)(t:QX X b g):QX X (.IfExp c a b G) (LF ft f g):=⟨PX.imp (ago y.h s.h t.h) λN H Q C=>by
 obtain⟨I,T,r,l,E,e,k⟩:=C;obtain⟨c,d,h1,e⟩:=iY e;refine⟨I,T,c,d,E,h1,λO q o=>?_⟩
 cases c with
 |true=>rw[jh UV]at e;rw[jh UV];exact⟨d,T,r,l,o,e,λw m n=>k w m<|n.pre q⟩
 |false=>rw[jy lH]at e;rw[jy lH];exact⟨d,T,r,l,o,e,λw m n=>k w m<|n.pre q⟩⟩
def xIx(d:QO X a U)(l:QO X b fb)(m:EN b:=by exact λ_ _=>rfl):QX X (.Subscript a b G) (jl D6 U fb):=⟨Of<|Um Uv d.h l.h m⟩
def aaO(n:un X.A 1)(d:QO X a U)(l:QO X b fb)(m:EN b:=by exact λ_ _=>rfl):QX X (.Subscript a b G) (jl Ii U fb):=⟨Of<|Um (ZO n) d.h l.h m⟩
def aaG(r:QO X a U)(s:QO X lo fl):QX X (.Subscript a (.Slice (TW lo) T2 T2 p2) G) (CD U fl):=⟨
 PX.imp (Fv Y8 r.h (Jy s.h) Jz) λK H Q w=>by
  obtain⟨O,T,F,N,E,e,k⟩:=w;unfold CD at e;obtain⟨o,d,h1,e⟩:=iY e;obtain⟨I,m,q,e⟩:=iY e;dsimp only at e;split at e
  .rename_i i J;obtain⟨x,y,e⟩:=iR e;obtain⟨z,C,e⟩:=iR e;obtain⟨rfl,rfl⟩:=jw e;refine⟨O,T,o,d,E,h1,λv Y l=>⟨d,B7 T o v,I,m,l.er E,q,λu D n=>?_⟩⟩;have B:=Ops.cons E l<|Ops.cons (l.er E) n<|Ops.nil<|n.er<|l.er E;exact⟨i,jJ<|B.view (j:=1) UV UV J,_,x,z,λp t=>B.np t,B.view (j:=0) UV UV y,C,B.done k⟩
  cases e⟩
def aaH(r:QO X a U)(s:QO X J fh):QX X (.Subscript a (.Slice T2 (TW J) T2 p2) G) (wK U fh):=⟨
 PX.imp (Fv Y8 r.h Jz<|Jy s.h) λK H Q w=>by
  obtain⟨O,T,F,N,E,e,k⟩:=w;unfold wK at e;obtain⟨o,d,h1,e⟩:=iY e;obtain⟨I,m,q,e⟩:=iY e;dsimp only at e;split at e
  .rename_i i J;obtain⟨x,y,e⟩:=iR e;obtain⟨z,C,e⟩:=iR e;obtain⟨rfl,rfl⟩:=jw e;refine⟨O,T,o,d,E,h1,λv Y l=>⟨d,B7 T o v,I,m,l.er E,q,λu D n=>?_⟩⟩;have B:=Ops.cons E l<|Ops.cons (l.er E) n<|Ops.nil<|n.er<|l.er E;exact⟨i,jJ<|B.view (j:=1) UV UV J,_,x,z,λp t=>B.np t,B.view (j:=0) UV UV y,C,B.done k⟩
  cases e⟩
def xL0:QL X [] []:=⟨⟨zv⟩⟩
def xL(d:QX X e f)(l:QL X M cw)(m:SE X e M:=by rfl):QL X (e::M) (f::cw):=⟨⟨tN (PX.po d.h) l.h.pa m⟩⟩
def xA0:QA X [] []:=⟨zv⟩
def xA(d:QO X e U)(l:QA X M fs)(m:SE X e M:=by rfl):QA X (e::M) (U::fs):=⟨tN d.h l.h m⟩
def aaE{k}(h:QL X M cw):QX X (.Tuple M k G) (nG cw):=⟨VL h.h.pa⟩
def aaN(h:QL X M cw):QX X (.List M G) (ml cw):=⟨VT h.h.pa⟩
def xB{id:String}{g:List D->Option (D×Bool)}(T:Tx X.mg)(hv:KR.lookup z=Y (.builtin id))(m:QC X (.builtin id) g)(l:QA X (e::M) fs)(o:Gl X z:=by rfl)(q:z≠"__name__":=by decide)(r:DB z:=by decide)(n:SE X e M:=by rfl)(d:BA X G M:=by rfl):QX X (.Call (.Name z p) (e::M) [] G) (jA g fs):=⟨Jr m.h o (Le T hv) (NB hv) l.h q r n d⟩
def xT{id:String}{g:List D->Option (D×Bool)}(T:Tx X.mg)(hv:KR.lookup z=Y (.type id))(m:QC X (.type id) g)(l:QA X (e::M) fs)(o:Gl X z:=by rfl)(q:z≠"__name__":=by decide)(r:DB z:=by decide)(n:SE X e M:=by rfl)(d:BA X G M:=by rfl):QX X (.Call (.Name z p) (e::M) [] G) (jA g fs):=⟨DY m.h o (Le T hv) (NB hv) l.h q r n d⟩
def xI{t:Ty}(T:Tx X.mg)(d:KR.lookup z=Y (.type t.n))(o:QO X e U)(q:Gl X "isinstance":=by rfl)(l:Gl X z:=by rfl)(r:z≠"__name__":=by decide)(s:DB z:=by decide)
  (s1:SE X e [.Name z p2]:=by rfl)(w:SE X (.Name z p2) []:=by rfl)(m:BA X G [.Name z p2]:=by rfl):
  QX X (.Call (.Name "isinstance" p) [e,.Name z p2] [] G) (md (wG [t]) U):=⟨VU o.h q T.n_isinstance l (Le T d) (NB d) r s ox s1 w m⟩
def xI2{t q:Ty}{d:av}{p4:bn}{l}(T:Tx X.mg)(o:KR.lookup z=TW (.type t.n))(m:KR.lookup d=TW (.type q.n))(E:QO X e U)(H:Gl X "isinstance":=by rfl)(r:Gl X z:=by rfl)(I:z≠"__name__":=by decide)(O:DB z:=by decide)(w:Gl X d:=by rfl)(s:d≠"__name__":=by decide)(y:DB d:=by rfl)
  (s1:SE X e [.Tuple [.Name z p2,.Name d p3] l p4]:=by rfl)(Q:SE X (.Tuple [.Name z p2,.Name d p3] l p4) []:=by rfl)
  (N:SE X (.Name z p2) [.Name d p3]:=by rfl)(Y:SE X (.Name d p3) []:=by rfl)
  (C:BA X G [.Tuple [.Name z p2,.Name d p3] l p4]:=by rfl):
  QX X (.Call (.Name "isinstance" p) [e,.Tuple [.Name z p2,.Name d p3] l p4] [] G) (md (wG [t,q]) U):=⟨Rx E.h H T.n_isinstance r (Le T o) (NB o) I O w (Le T m) (NB m) s y ox s1 Q N Y C⟩
def xU{k:Nat}{y:jB}{d:BI}(s:BH k X.A)(O:Oz (zX X) k x y d)(n:QA X (e::M) fs)(q:Gl X x:=by rfl)(t:DB x:=by decide)
  (o:SE X e M:=by rfl)(m:BA X G M:=by rfl):QX X (.Call (.Name x p) (e::M) [] G) (jo d fs):=
 let⟨_,_,ok,r,w,l⟩:=O;⟨Rw ok s q r w l n.h t o m⟩
def aaJ{T:String}{mk:List D->D}{o:Bool}(d:Tx X.mg)(hv:KR.lookup z=Y (.type T))(r:QA X [a,b] [U,fb])(q:(T="list"/\mk=.lst/\o=I)\/(T="tuple"/\mk=.tup/\o=C):=by first|exact .inl ⟨rfl,rfl,rfl⟩|exact .inr ⟨rfl,rfl,rfl⟩)(s:X.calm=I:=by rfl)(t:Gl X z:=by rfl)(w:z≠"__name__":=by decide)(y:DB z:=by decide)(m:Gl X "range":=by rfl)
  (s1:SE X (.Call (.Name "range" p2) [a,b] [] p3) []:=by rfl)(Q:SE X a [b]:=by rfl)
  (n:BA X G []:=by rfl)(l:BA X p3 [b]:=by rfl):
  QX X (.Call (.Name z p) [.Call (.Name "range" p2) [a,b] [] p3] [] G) (jA (N8 mk o) [U,fb]):=⟨VN q s t (Le d hv) (NB hv) w y m d.n_range r.h s1 Q n l⟩
def aaV(hv:QO X (.Name x b9) (iQ i))(he:QX X e f)(i3:LU X (.Name x b9) "append":=by rfl)
  (l9:NQ X G [e]:=by rfl)
  (h9:(apos.endLine==G.line)=Uf:=by rfl)(C:SE X e []:=by rfl)(f7:BA X G []:=by rfl):QX X (.Call (.Attribute (.Name x b9) "append" apos) [e] [] G) (nQ i f):=⟨
 PX.imp (JC zJ PySem.F.slot_list_append PySem.F.type_list_append afm hv.h (lS he.h oI C) i3 l9 h9 C f7) λσ H Q R=>by
 obtain⟨n,T,rr,δ',E,e,k⟩:=R;unfold nQ at e;split at e
 .rename_i l0 t;obtain⟨r,o,h1,e⟩:=iY e;dsimp only at e;split at e
  .rename_i l w;obtain⟨V,e⟩:=jz e;obtain⟨rfl,rfl⟩:=sH e;refine⟨n,T,.slot i,n,E,by unfold iQ;rw[t],λv H1 P=>?_⟩;obtain⟨Y,m,d⟩:=P;obtain⟨a,g1,K,g2,g3⟩:=m.own i _ t;rw[d]at g1;cases g1;refine⟨.inl ⟨rfl,K,F5.of g2⟩,n,T,r,o,m,h1,λy H2 s=>?_⟩;obtain⟨q,Z⟩:=s.rep m;obtain⟨a',I,xs,W,O⟩:=q.own i _ w;rw[d]at I;cases I;refine⟨_,xs,y,rfl,rfl,W,by rw[O.length];exact V,?_⟩;obtain⟨N,D⟩:=q.write w d<|O.append<|YP.one Z;exact k _ _ (BF.val ((Y.trans s.1).trans D) N Rep.HN)
  cases e
 cases e⟩
def aaQ(hv:QO X (.Name x b9) (iQ i))(he:QX X e f)(i3:LU X (.Name x b9) "extend":=by rfl)
  (l9:NQ X G [e]:=by rfl)
  (h9:(apos.endLine==G.line)=Uf:=by rfl)(I:SE X e []:=by rfl)(f7:BA X G []:=by rfl):QX X (.Call (.Attribute (.Name x b9) "extend" apos) [e] [] G) (uC i f):=⟨
 PX.imp (JC zJ PySem.F.slot_list_extend PySem.F.type_list_extend afl hv.h (lS he.h oI I) i3 l9 h9 I f7) λσ H Q hw=>by
 obtain⟨s,T,rr,δ',E,e,k⟩:=hw;unfold uC at e;split at e
 .rename_i l0 w;obtain⟨r,n,h1,e⟩:=iY e;dsimp only at e;split at e
  .rename_i m l C;obtain⟨hz,e⟩:=jz e;obtain⟨rfl,rfl⟩:=sH e;refine⟨s,T,.slot i,s,E,by unfold iQ;rw[w],λv H1 P=>?_⟩;obtain⟨W,o,d⟩:=P;obtain⟨a,g1,cz,g2,g3⟩:=o.own i _ w;rw[d]at g1;cases g1;refine⟨.inl ⟨rfl,cz,F5.of g2⟩,s,T,_,n,o,h1,λy V q=>?_⟩;obtain⟨t,ry⟩:=q.rep o;obtain⟨p,rfl,hp,eP,D,o1,O⟩:=q.2;obtain⟨a',N,xs,q2,Y⟩:=t.own i _ C;rw[d]at N;cases N;have gD:YP X.K V (λb=>X0 σ n b\/T b) m D:=YP.mono (λ_ _ e _=>e) (λb _ z=>z.elim bv λz=>bj<|bv z) O;refine⟨_,p,xs,D,rfl,rfl,q2,o1,by rw[Y.length,O.length];exact hz,?_⟩;obtain⟨R,Z⟩:=t.write C d<|Y.append gD;exact k _ _ (BF.val ((W.trans q.1).trans Z) R Rep.HN)
  cases e
 cases e⟩
def aaK(hv:QO X (.Name x b9) (iQ i))(he:QO X e fo)(i3:LU X (.Name x b9) "pop":=by rfl)
  (l9:NQ X G [e]:=by rfl)
  (h9:(apos.endLine==G.line)=Uf:=by rfl)(hs:SE X e []:=by rfl)(f7:BA X G []:=by rfl):QX X (.Call (.Attribute (.Name x b9) "pop" apos) [e] [] G) (Ba i fo):=⟨
 PX.imp (JC zJ Mr Mq af7 hv.h (lS he.h oI hs) i3 l9 h9 hs f7) λσ H Q hw=>by
 obtain⟨C,T,rr,δ',E,e,k⟩:=hw;unfold Ba at e;split at e
 .rename_i l0 N;obtain⟨o,q,h1,e⟩:=iY e;dsimp only at e;split at e
  .rename_i F l hk Y;split at e
   case isFalse=>cases e
   rename_i D;obtain⟨j,hj,e⟩:=iR e;obtain⟨d,hd,e⟩:=iR e;obtain⟨rfl,rfl⟩:=jw e;refine⟨C,T,.slot i,C,E,by unfold iQ;rw[N],λv H1 P=>?_⟩;obtain⟨K1,r,m⟩:=P;obtain⟨a,g1,cz,g2,g3⟩:=r.own i _ N;rw[m]at g1;cases g1;refine⟨.inl ⟨rfl,cz,F5.of g2⟩,C,T,o,q,r,h1,λy Z O=>?_⟩;have B:=Ops.cons r O<|Ops.nil<|O.er r;have vy:=jJ<|B.view (j:=0) UV UV hk;have I:ER X.K Z T σ q:=B.er.mono (λ_ _ e _=>e) (λb _ z=>B.tt b z) λa z=>B.er.dom a<|B.tt a z;obtain⟨a',R,V,q2,t⟩:=I.own i _ Y;rw[m]at R;cases R;obtain⟨w,w1,w2⟩:=t.get hd;have hl:=t.length;have cc:HX V.length F=TW j:=by rw[hl];exact hj
   obtain⟨s1,s2,s3,s4⟩:=Ej cc;obtain⟨W,s⟩:=I.write Y m<|YP.erase j t;refine⟨_,V,F,j,w,rfl,by rw[vy],q2,D.1,D.2,s1,w1,?_⟩;exact k _ _ (BF.val ((K1.trans B.keep).trans s) W<|Rep.mono (λb o e n=>s.kp b o e λz=>n<|.inl z) (λb _ z=>z.imp (s.ow b) id) w2)
  cases e
 cases e⟩
def iR1(T:Tx X.mg)(t:QA X [a] [U])(w:Gl X "range":=by rfl)(C:ae [a] X.env=[(UF,aX a X.env)]:=by rfl):QI X B tg (.Call (.Name "range" p) [a] [] G) (zc U):=⟨PI.imp' (afa w T.n_range t.h C) λD H R I=>by
 obtain⟨O,T,Y,Q,E,e,k⟩:=I;obtain⟨os,l,h1,e⟩:=iY e;refine⟨O,T,os,l,E,h1,λn o N B=>?_⟩;dsimp only at e;split at e
 .rename_i j m;obtain⟨⟨q,s⟩,e⟩:=jz e;obtain⟨rfl,rfl⟩:=sH e;have hv:=uj B m (j:=0) UV;obtain⟨y,_⟩:=pD m
  have:n=[.int j]:=by
   have d:=B.len
   cases n with
   |nil=>simp at hv
   |cons v r=>
    cases r with
    |nil=>simp at hv;rw[hv]
    |cons _ _=>simp at y d;lia
  exact⟨j,this,q,s,k _ o B.keep (B.er.mono (λ_ _ e _=>e) (λb _ z=>B.tt b z) λa z=>B.er.dom a<|B.tt a z) (AQ 0 j.toNat)⟩
 cases e⟩
def iR2(T:Tx X.mg)(w:QA X [a,b] [U,fb])(C:Gl X "range":=by rfl)(O:ae [a,b] X.env=[(UF,aX a X.env),(UF,aX b X.env)]:=by rfl)(s:ae [b] X.env=[(UF,aX b X.env)]:=by rfl):QI X B tg (.Call (.Name "range" p) [a,b] [] G) (zb U fb):=⟨PI.imp' (ae9 C T.n_range w.h O s) λK H R Q=>by
 obtain⟨N,T,F,Y,E,e,k⟩:=Q;obtain⟨os,n,h1,e⟩:=iY e;refine⟨N,T,os,n,E,h1,λo q D B=>?_⟩;dsimp only at e;split at e
 .rename_i i j m;obtain⟨t,e⟩:=jz e;obtain⟨rfl,rfl⟩:=sH e;have hv:=uj B m (j:=0) UV;have l:=uj B m (j:=1) UV;obtain⟨I,_⟩:=pD m
  have:o=[.int i,.int j]:=by
   have d:=B.len
   match o,hv,l with
   |[x,y],hv,l=>simp at hv l;rw[hv,l]
   |x::y::z::r,_,_=>simp at I d;lia
  exact⟨i,j,this,t,k _ q B.keep (B.er.mono (λ_ _ e _=>e) (λb _ z=>B.tt b z) λa z=>B.er.dom a<|B.tt a z) (AQ i (j-i).toNat)⟩
 cases e⟩
def iZ{d:kr}{t:Nat}{w:bn}(T:Tx X.mg)(n:QX X a f)(o:QX X b g)(q:Gl X "zip":=by rfl)(r:SE X a [b]:=by rfl)(l:SE X b []:=by rfl)(m:BA X G [b]:=by rfl):
  QI X B (.Tuple d t w) (.Call (.Name "zip" p) [a,b] [] G) (J6 f g):=⟨PI.imp' (Ft (B:=B) q T.n_zip (PX.po n.h) (PX.po o.h) DS DS r l m) λQ O R s=>by
 have:J6 f g=tR (iU f) (iU g):=funext λy=>by
  unfold J6 tR iU
  cases f y with
  |none=>rfl
  |some p=>simp only[fK];cases g p.2<;>rfl
 rwa [this]at s⟩
def iS(h:QX X e f):QI X B tg e (kN f):=⟨PI.imp' (Fu (B:=B) (PX.po h.h) DS) λq T R l=>by
 have:kN f=AO (iU f):=funext λm=>by
  unfold kN AO iU
  cases f m with
  |none=>rfl
  |some p=>obtain⟨⟨d,o⟩,n⟩:=p;cases d<;>rfl
 rwa [this]at l⟩
def iSV(h:QO X e (iQ i))(d:B i:=by decide):QI X B tg e (AO<|iQ i):=⟨Fu h.h<|DR d⟩
def iZV{d:kr}{w:Nat}{y:bn}(T:Tx X.mg)(q:QO X a (iQ i))(r:QO X b (iQ j))(l:B i:=by decide)(m:B j:=by decide)(s:Gl X "zip":=by rfl)(t:SE X a [b]:=by rfl)(n:SE X b []:=by rfl)(o:BA X G [b]:=by rfl):
  QI X B (.Tuple d w y) (.Call (.Name "zip" p) [a,b] [] G) (tR (iQ i)<|iQ j):=⟨Ft s T.n_zip q.h r.h (DR l) (DR m) t n o⟩
def gN(l:X.N.Nodup)(J:X.N[i]?=Y x:=by rfl)(q:Loc X.env.scope x:=by first|exact bv rfl|exact bj H)(n:X.fn x=I\/X.env.scope.names.lookup x=Y .local:=by first|exact bv rfl|exact bj H)(m:A i:=by decide):QG X A (.Name x G) (jd i):=⟨PG.imp' (JA l J q n) λv w O Q o=>by obtain⟨t,T,d,s,E,r,e,k⟩:=o;obtain⟨J,rfl⟩:=jz e;obtain⟨h1,h⟩:=Am (A:=A) (r:=(d,C)) (v:=v) E (BF.val .refl E r) J m;exact k _ h1 h⟩
def gT{d l:Tg}{k:Nat}(h1:QG X A a d)(m:QG X A b l)(n:X.calm=I:=by rfl)(r:(aZ [a,b] X.env).map (·.2)=cE a X.env::(aZ [b] X.env).map (·.2):=by rfl)(s:(aZ [b] X.env).map (·.2)=cE b X.env::(aZ [] X.env).map (·.2):=by rfl)
  (o:(aZ [a,b] X.env).length=2:=by rfl)(q:(aZ [a,b] X.env).findIdx? (·.1)=T2:=by rfl):QG X A (.Tuple [a,b] k G) (Ja [d,l]):=⟨RL n (Cm h1.h (Cm m.h agl s) r) o H q⟩
def f0:QF X [] kh:=⟨λd s m N Q O h=>by obtain⟨n,T,b,l,E,e,k⟩:=h;cases e;exact RI d s m N Q O<|k N .refl E⟩
def f1(h:QT X e ft):QF X [e] ft:=⟨RH h.h⟩
def bE{m:oN}{sc:jS}{d:iO}{n:Nat}(Y:QX X e f)(hn:m[n+1]?=T2:=by rfl):QB X A d (.ListComp e m sc p) n (kF f):=⟨PB.imp' (RS hn Y.h) λw H N D=>by
 obtain⟨I,T,Q,Z,W,B,e,k⟩:=D;obtain⟨r,l,h1,e⟩:=iY e;obtain⟨K,e⟩:=jz e;obtain⟨rfl,rfl⟩:=sH e;refine⟨I,T,r,l,B.er,h1,λv q P=>?_⟩;obtain⟨y,V⟩:=P.rep B.er;have C:SK A w I H w l q:=P.1.sk;have O:=B.step C y;obtain⟨t,F,E⟩:=O.at';refine⟨t,F,by rw[E.length];exact K,k w _ ?_ ?_⟩
 .have:KI A d w l q w l (upd q d<|.lst<|t++[v]):=⟨λa o e n R=>by rw[jx R];exact e,λi a z=>.inl z,λa z=>by
   by_cases s:a=d
   .subst s;rw[ju];simp
   rw[jx s];exact z,λ_ _=>rfl⟩
  exact C.LX.trans this
 have hk:∀b o,q b=TW o->¬T b->upd q d (.lst<|t++[v]) b=TW o:=λb o e n=>by rw[jx<|by intro z;subst z;exact n B.td];exact e
 have hd:∀a,T a->Ow (upd q d (.lst<|t++[v]) a):=λa z=>by
  by_cases s:a=d
  .subst s;rw[ju];trivial
  rw[jx s];exact y.dom a z
 refine⟨y.mono hk (λ_ _ z=>z) hd,B.td,t++[v],ju,?_⟩;exact YP.mono (λb o e n=>hk b o e λz=>n<|.inr z) (λ_ _ z=>z)<|E.append<|YP.one V⟩
def bF{l:oN}{q:jS}{d:iO}{n:Nat}{c:oM}{o:EG}{tt:Tg}{fb:FB}(y:l[n+1]?=Y c)(O:QI X (λ_=>False) c.target c.iter o)(T:QG X A c.target tt)(s:QF X c.ifs ft)(N:QB X A d (.ListComp e l q p) (n+1) fb)(r:X.xe=λ_ _=>False:=by rfl)(w:X.calm=I:=by rfl)
  (t:c.is_async=0:=by rfl)(E:∀m,l[n+1+1]?=Y m->m.is_async=0:=by intro m h;cases h;try rfl)(Q:∀x,aw c.iter X.env x=pure x:=by intro _;rfl):QB X A d (.ListComp e l q p) n (Qp o tt ft fb):=⟨RQ r w (bv ⟨_,_,_,_,rfl⟩) y t E Q O.h T.h s.h N.h⟩
abbrev P4(X:Cx)(d:jX)(n:oN)(q:jS)(P:Cx->Prop):Prop:= ∀(cl:lb)(T:iO)(o:iT)(l:Hp)(m:kW)(h:jK),
 (X.comp (cN X.N d n) q cl T o l m h).N.Nodup->P (X.comp (cN X.N d n) q cl T o l m h)
def xC{c:oM}{m:oN}{n:iW}{scope:jS}{r:EG}{tt:Tg}{s:FT}{fb:FB}{l:jX}(T:QI X (λi=>i∉l) c.target c.iter r)
  (O:P4 X l (c::m) scope λY'=>QG Y' (λi=>VP l<=i) c.target tt/\QF Y' c.ifs s/\∀d,QB Y' (λi=>VP l<=i) d (.ListComp n (c::m) scope G) 0 fb)
  (C:rT X.N X.env.scope scope (cN X.N l (c::m)) l k=Uf:=by kernel_rfl)(Q:decide (cN X.N l (c::m)).Nodup=Uf:=by kernel_rfl)
  (E:X.calm=Uf:=by rfl)(y:c.is_async=0:=by rfl)(I:∀q,m[0]?=Y q->q.is_async=0:=by intro q h;cases h;try rfl)(H:∀x,aw c.iter X.env x=pure x:=by intro _;rfl):QX X (.ListComp n (c::m) scope G) (jU l k r tt s fb):=⟨Ry (Bo UV UV C) E y I H T.h λcl C D t w o=>let⟨a,b,c⟩:=O cl C D t w o<|zK Q;⟨a.h,b.h,λd=>(c d).h⟩⟩
def sC{c:oM}{m:oN}{n:iW}{scope:jS}{r:EG}{tt:Tg}{w:FT}{fb:FB}{l:jX}{t s:bn}(O:X.N.Nodup)(pi:QI X (λi=>i∉l) c.target c.iter r)
  (m9:P4 X l (c::m) scope λY'=>QG Y' (λi=>VP l<=i) c.target tt/\QF Y' c.ifs w/\∀d,QB Y' (λi=>VP l<=i) d (.ListComp n (c::m) scope G) 0 fb)
  (C:rT X.N X.env.scope scope (cN X.N l (c::m)) l k=Uf:=by kernel_rfl)(nd:decide (cN X.N l (c::m)).Nodup=Uf:=by kernel_rfl)
  (E:bT (.ListComp n (c::m) scope G) (Y<|.Name x t) s.line X.env=pure Uf:=by rfl)(J:X.N[i]?=Y x:=by rfl)(hx:X.env.scope.names.lookup x=Y .local:=by rfl)(hf:X.fn x=Uf:=by rfl)(I:A i:=by decide)
  (T:X.calm=Uf:=by rfl)(Q:c.is_async=0:=by rfl)(j9:∀q,m[0]?=Y q->q.is_async=0:=by intro q h;cases h;try rfl)(hs:∀x,aw c.iter X.env x=pure x:=by intro _;rfl):QS X A L H0 (.Assign [.Name x t] (.ListComp n (c::m) scope G) s) (kQ i<|jU l k r tt w fb):=⟨afA E (Bo UV UV C) T Q j9 hs pi.h (JA O J (bv hx)<|bv hf) I λcl C D y H o=>let⟨a,b,c⟩:=m9 cl C D y H o<|zK nd;⟨a.h,b.h,λd=>(c d).h⟩⟩
def s0:QQ X A L H0 [] jI:=⟨Hw.imp' Jv λD h Q d=>by obtain⟨m,T,out,E,l,e,k⟩:=d;cases e;exact k h Q .refl E⟩
def s1(h:QS X A L H0 S u)(C:QQ X A L H0 Ss v):QQ X A L H0 (S::Ss) (jg u v):=⟨Hw.imp' (tL h.h C.h) λD Y H I=>by
 obtain⟨O,T,out,E,t,e,k⟩:=I;obtain⟨o,y,e⟩:=iR e;refine⟨O,T,o,E,t,y,?_⟩
 cases o with
 |nx δ1=>
  intro Q N s w;refine⟨δ1,T,out,w,t.step s,e,?_⟩
  cases out with
  |nx n=>exact λd l m q=>k d l (s.trans m) q
  |bk n=>exact λd l m q=>k d l (s.trans m) q
  |ct n=>exact λd l m q=>k d l (s.trans m) q
  |rt r n=>exact λv d l m R2=>k v d l (s.trans m) R2
 |rt r δ1=>cases e;exact k
 |bk δ1=>cases e;exact k
 |ct δ1=>cases e;exact k⟩
def sX:QS X A L H0 S DU:=⟨λd s n O D Q h=>by obtain⟨m,T,out,E,l,e,k⟩:=h;cases e⟩
def sR(h:QX X e f):QS X A L H0 (.Return (Y e) G) (lC f):=⟨PS.imp' (N5 h.h) λD y Q s=>by
 obtain⟨t,T,out,E,n,e,k⟩:=s;obtain⟨p,l,e⟩:=iR e;cases e;refine⟨t,T,p.1,p.2,E,l,λv m P=>k v y m P.1.sk ?_⟩;obtain⟨⟨d,o⟩,w⟩:=p
 cases o
 .exact P.2
 obtain⟨q,h1,r,l⟩:=P.2;exact⟨q,h1,n.fresh r,l⟩⟩
def sRV{n:Nat}(q:∀i,L.p i->i<n)(hq:n<=i:=by decide)(h1:X.N[i]?=TW x:=by rfl)(y:NG X.env.scope x:=by first|exact bv rfl|exact bj (bv UV)|exact bj<|bj UV)(h3:DB x:=by decide)(h4:(x==("__classdict__":av))=UF:=by decide):QS X A L H0 (.Return (TW<|.Name x p) G) (rE i):=⟨PS.imp' (N5<|Ax h1 y h3 h4) λD s H Z=>by
 have W: ¬L.p i:=λh=>absurd (q _ h)<|M7.2 hq;obtain⟨r,T,out,E,V,e,k⟩:=Z;unfold rE at e
 cases J:r[i]? with
 |none=>rw[J]at e;cases e
 |some q=>
  cases q with
  |none=>rw[J]at e;cases e
  |some p=>
   obtain⟨d,b⟩:=p;have gL:i<(VP r):=(uI.mp J).1
   cases b with
   |false=>rw[J]at e;cases e;obtain⟨v,h1,y⟩:=E.val i d J;exact⟨v,h1,k v s H .refl ⟨E,y⟩⟩
   |true=>
    rw[J]at e;cases e;obtain⟨a,h1,y⟩:=E.own i d J
    have l:∀j b,Aw s (r.set i T2) j b->i≠j/\Aw s r j b:=λj b a'=>by
     obtain⟨o,g1,g2⟩:=a'
     rcases nN g1 with⟨_,_,q⟩|⟨ne,q⟩
     .cases q
     exact⟨ne,o,q,g2⟩
    have m:∀b,X0 s (r.set i T2) b->X0 s r b/\b≠a:=λb a'=>by
     obtain⟨j,o,g1,g2⟩:=a'
     obtain⟨ne,I,Y,F⟩:=l j b ⟨o,g1,g2⟩;exact⟨⟨j,I,Y,F⟩,λz=>ne<|by subst z;exact E.inj i j d I _ J Y h1 F⟩
    have K:X0 s r a:=⟨i,d,J,h1⟩
    have sub:∀b,H b≠T2->(X0 s (r.set i T2) b\/(T b\/b=a))->(X0 s r b\/T b):=λb _ z=>by
     rcases z with z|z|z
     .exact .inl (m b z).1
     .exact .inr z
     subst z;exact .inl K
    refine⟨.ref a,h1,k (.ref a) s H ⟨λ_ _ e _=>e,λj b z=>.inl (l j b z).2,λ_ z=>z,λ_ _=>rfl⟩ ⟨a,rfl,?_,?_,y.mono (λ_ _ e _=>e) sub λ_ e=>e⟩⟩
    .rcases V.ow i a ⟨d,J,h1⟩with z|z
     .exact absurd z W
     exact z
    refine⟨by rw[tw];exact E.len,λj o C=>?_,λj o C=>?_,λj k o R b C hk g1 g2=>?_,λb z t=>?_,λb z=>?_⟩
    .rcases nN C with⟨_,_,q⟩|⟨ne,q⟩
     .cases q
     obtain⟨w,O,Q⟩:=E.val j o q;exact⟨w,O,Rep.mono (λ_ _ e _=>e) sub Q⟩
    .rcases nN C with⟨_,_,q⟩|⟨ne,q⟩
     .cases q
     obtain⟨w,O,Q⟩:=E.own j o q;exact⟨w,O,Q.mono (λ_ _ e _=>e) sub λ_ e=>e⟩
    .obtain⟨_,I,q1,q2⟩:=l j b ⟨o,C,g1⟩;obtain⟨_,P,q3,q4⟩:=l k b ⟨R,hk,g2⟩;exact E.inj j k I P b q1 q3 q2 q4
    .obtain⟨z1,z2⟩:=m b z;rcases t with t|t
     .exact E.nT b z1 t
     exact z2 t
    rcases z with z|z
    .exact E.dom b z
    subst z;exact E.KH K⟩
def sE(h:QX X e f)(m:bT e T2 G.line X.env=pure C:=by rfl):QS X A L H0 (.Expr e G) (oE f):=⟨PS.imp' (Jw h.h m) λD q Q n=>by obtain⟨o,T,out,E,r,e,k⟩:=n;obtain⟨p,l,e⟩:=iR e;cases e;exact⟨o,T,p.1,p.2,E,l,λv d P=>k q d P.1.sk (P.rep E).1⟩⟩
def sI(m:QT X c ft)(d:QQ X A L H0 Ss u)(l:QQ X A L H0 Ts v):QS X A L H0 (.If c Ss Ts G) (EJ ft u v):=⟨V5 m.h d.h l.h⟩
def sW{n:Nat}(l:QT X c ft)(d:QQ X A L H0 Ss u)(m:fm (ai X.prog X.w) X.A X.env X.xe:=by exact PassesOwn.never):QS X A L H0 (.While c Ss [] G) (oj ft u n):=⟨aeo m l.h d.h⟩
def sF{d:EG}{t:Tg}(J:QI X (λ_=>False) tg e d)(n:QG X A tg t)(l:QQ X A L H0 Ss u)(o:fm (ai X.prog X.w) X.A X.env X.xe:=by exact PassesOwn.never)(m:X.calm=I:=by rfl)(q:∀x,aw e X.env x=pure x:=by intro _;rfl):QS X A L H0 (.For tg e Ss [] G) (rF d t u):=⟨RF o m J.h n.h l.h q⟩
def sS(n:X.N.Nodup)(q:QX X e f)(J:X.N[i]?=Y x:=by rfl)(y:Loc X.env.scope x:=by first|exact bv rfl|exact bj UV)(s:X.fn x=I\/X.env.scope.names.lookup x=Y .local:=by first|exact bv rfl|exact bj UV)(o:A i:=by decide)(t:bT e (Y<|.Name x p) G.line X.env=pure C:=by rfl):QS X A L H0 (.Assign [.Name x p] e G) (kQ i f):=⟨PS.imp' (N4 n J y q.h t s) λD Q H w=>by obtain⟨δ,T,out,E,O,e,k⟩:=w;obtain⟨r,δ1,m,e⟩:=iY e;obtain⟨J,rfl⟩:=jz e;refine⟨δ,T,r,δ1,E,m,λv d P=>?_⟩;obtain⟨h1,l⟩:=Am (A:=A) E P J o;exact k _ d h1 l⟩
def sT{t:Tg}{pt:bn}(C:QX X e f)(I:QG X A (.Tuple M k pt) t)(O:fL [.Tuple M k pt] e G.line X.env=pure UF:=by rfl)(l:fQ [.Tuple M k pt] e X.env=pure T2:=by rfl)(h1:(aZ [.Tuple M k pt] X.env).map (·.2)=[cE (.Tuple M k pt) X.env]:=by rfl):QS X A L H0 (.Assign [.Tuple M k pt] e G) (Vv t f):=⟨PS.imp' (HM C.h I.h O l h1) λD F H l=>by obtain⟨N,T,out,E,Y,e,k⟩:=l;obtain⟨r,d,h1,e⟩:=iY e;obtain⟨m,y,e⟩:=iR e;cases e;refine⟨N,T,r,d,E,h1,λv s P=>?_⟩;obtain⟨q,Q⟩:=P.rep E;exact⟨d,T,r.1,m,q,Q,y,λn w o=>k n s (P.1.sk.trans w) o⟩⟩
def BW{m:bn}(hv:QO X (.Name x b9) (iQ i))(he:QX X e f)(J:QO X a fo)
  (ha:∀v,cE (.Subscript (.Name x b9) a m) X.env v=(do
   let w <-cf [v] (aX (.Name x b9) X.env)
   let C' <-cf [v,w] (aX a X.env)
   cQ m
   cf [v,w,C'] (k6 w C' v)
   MB [v,w,C'] []):=by intro _;rfl)
  (hs:fL [.Subscript (.Name x b9) a m] e G.line X.env=pure C:=by rfl)(y:fQ [.Subscript (.Name x b9) a m] e X.env=pure T2:=by rfl)
  (h1:(aZ [.Subscript (.Name x b9) a m] X.env).map (·.2)=[cE (.Subscript (.Name x b9) a m) X.env]:=by rfl):QS X A L H0 (.Assign [.Subscript (.Name x b9) a m] e G) (vD i f fo):=⟨PS.imp' (HM he.h (Oi hv.h J.h afH ha) hs y h1) λD I H y=>by
 obtain⟨F,T,out,E,fi,e,k⟩:=y;obtain⟨r,d,h1,e⟩:=iY e;dsimp only at e;split at e
 case h_2=>cases e
 rename_i y0 Z;obtain⟨o,t,h2,e⟩:=iY e;dsimp only at e;split at e
 .rename_i kk l hk Q;obtain⟨j,hj,e⟩:=iR e;cases e;refine⟨F,T,r,d,E,h1,λv R n=>⟨d,Lg T r v,.slot i,d,n.er E,by unfold iQ;rw[Z],λv2 H2 q=>⟨d,Lg T r v,o,t,q.er<|n.er E,h2,λv3 V P3=>?_⟩⟩⟩;have iJ:FH X.K T I F H (.val r) d v R:=n;have B:=Ops.cons E iJ<|Ops.cons (n.er E) q<|Ops.cons (q.er<|n.er E) P3<|Ops.nil<|P3.er<|q.er<|n.er E;have O:ER X.K V T I t:=B.er.mono (λ_ _ e _=>e) (λb _ z=>B.tt b z) λa z=>B.er.dom a<|B.tt a z;have s:I[i]?=TW (TW v2):=q.2.2;obtain⟨a,N,xs,q2,Y⟩:=O.own i _ Q;rw[s]at N;cases N;have vk:=jJ<|B.view (j:=2) UV UV hk;have rv:=B.rep E (j:=0) (r:=r) UV UV;refine⟨a,xs,kk,j,rfl,vk,q2,by rw[Y.length];exact hj,?_⟩;obtain⟨P,W⟩:=O.write Q s<|YP.set rv j Y;exact k _ _ (B.keep.trans W).sk P
 cases e⟩
def sDP{y:bn}(hu:un X.A 1)(hv:QO X (.Name x b9) (iQ i))(he:QX X e f)(J:QO X a fo)
  (ha:∀v,cE (.Subscript (.Name x b9) a y) X.env v=(do
   let ov <-cf [v] (aX (.Name x b9) X.env)
   let iv <-cf [v,ov] (aX a X.env)
   cQ y
   cf [v,ov,iv] (k6 ov iv v)
   MB [v,ov,iv] []):=by intro _;rfl)
  (hs:fL [.Subscript (.Name x b9) a y] e G.line X.env=pure UF:=by rfl)(hw:fQ [.Subscript (.Name x b9) a y] e X.env=pure T2:=by rfl)
  (h1:(aZ [.Subscript (.Name x b9) a y] X.env).map (·.2)=[cE (.Subscript (.Name x b9) a y) X.env]:=by rfl):QS X A L H0 (.Assign [.Subscript (.Name x b9) a y] e G) (Fm i f fo):=⟨PS.imp' (HM he.h (Oi hv.h J.h (afI hu) ha) hs hw h1) λD O H hw=>by
 obtain⟨δ,T,out,E,fi,e,k⟩:=hw;obtain⟨r,d,h1,e⟩:=iY e;dsimp only at e;split at e
 case h_2=>cases e
 rename_i y0 h0;obtain⟨o,l,h2,e⟩:=iY e;dsimp only at e;split at e
 .rename_i P R V hk h3;obtain⟨⟨F,m⟩,e⟩:=jz e;cases e;refine⟨δ,T,r,d,E,h1,λv H1 Q=>⟨d,Lg T r v,.slot i,d,Q.er E,by unfold iQ;rw[h0],λv2 H2 Y=>⟨d,Lg T r v,o,l,Y.er<|Q.er E,h2,λv3 N P3=>?_⟩⟩⟩;have iJ:FH X.K T O δ H (.val r) d v H1:=Q;have B:=Ops.cons E iJ<|Ops.cons (Q.er E) Y<|Ops.cons (Y.er<|Q.er E) P3<|Ops.nil<|P3.er<|Y.er<|Q.er E;have E3:ER X.K N T O l:=B.er.mono (λ_ _ e _=>e) (λb _ z=>B.tt b z) λa z=>B.er.dom a<|B.tt a z;have w:O[i]?=TW (TW v2):=Y.2.2;obtain⟨a,q1,us,q2,Z⟩:=E3.own i _ h3;rw[w]at q1;cases q1;have vk:=B.view (j:=2) UV UV hk;have rv:=B.rep E (j:=0) (r:=r) UV UV;have oa:X0 O l a:=⟨i,_,h3,w⟩
  have kp:∀(q:HO) b u,N b=TW u->¬(X0 O l b\/T b)->upd N a q b=TW u:=λq b u e n=>by rw[jx<|by intro z;subst z;exact n<|.inl oa];exact e
  have ks10:10000<sizeLine:=by rw[kj];decide
  have fin:∀q W,D8 X.K (TW q) .dct (yd R V P r.1).1 (yd R V P r.1).2 W->YP X.K N (λa=>X0 O l a\/T a) (yd R V P r.1).2 W->D.nx O (upd N a q):=λq W g1 g2=>by obtain⟨E4,K4⟩:=E3.Er (o:=q) (d':=.AE .dct (yd R V P r.1).1 (yd R V P r.1).2) h3 w ⟨W,by rw[ju];exact g1,YP.mono (kp q) (λ_ _ z=>z) g2⟩;exact k _ _ (B.keep.trans K4).sk E4
  refine⟨a,rfl,?_⟩;rcases q2 with⟨kvs,eH,rfl,rfl⟩|⟨kvs,eH,rfl,rfl⟩
  .rw[ke]at m;rcases qV F with⟨κ,g1,_⟩|⟨τ,g1,g2⟩
   .have s:=qx g1 vk;have I:=pd g1;subst I;obtain⟨C,p2⟩:=Ju ud (k:=κ) rv Z;refine .inl ⟨_,by rw[s];exact IC.k eH<|by lia,fin _ _ (.inl ⟨_,rfl,C,rfl⟩) p2⟩
   have cV:kvs=[]:=by
    cases kvs with
    |nil=>rfl
    |cons p kvs=>obtain⟨c,hc⟩:=g2 (lO p.1) (by simp);exact(AN hc).elim
   subst cV;obtain⟨b,s,eb⟩:=oZ g1 vk;have I:=tQ g1;subst I;obtain⟨C,p2⟩:=Ju (kd:=λk=>.tup (k.map lO)) uE (k:=τ) (kvs:=[]) rv Z;exact .inr<|.inr ⟨τ,b,eH,s,eb,fin _ _ (.inr ⟨[(τ,v)],rfl,C,rfl⟩) p2⟩
  rw[ke]at m;rcases qV F with⟨κ,g1,g2⟩|⟨τ,g1,_⟩
  .have cV:kvs=[]:=by
    cases kvs with
    |nil=>rfl
    |cons p kvs=>obtain⟨c,hc⟩:=g2 (.tup<|p.1.map lO) (by simp);exact(DO hc).elim
   subst cV;have s:=qx g1 vk;have I:=pd g1;subst I;obtain⟨C,p2⟩:=Ju ud (k:=κ) (kvs:=[]) rv Z;exact .inr<|.inl ⟨κ,eH,s,fin _ _ (.inl ⟨[(κ,v)],rfl,C,rfl⟩) p2⟩
  obtain⟨b,s,eb⟩:=oZ g1 vk;have I:=tQ g1;subst I;obtain⟨C,p2⟩:=Ju (kd:=λk=>.tup (k.map lO)) uE (k:=τ) rv Z;refine .inl ⟨_,by rw[s];exact IC.t eH eb<|by lia,fin _ _ (.inr ⟨_,rfl,C,rfl⟩) p2⟩
 cases e⟩
end
def Fz(K:jr)(b:lJ)(x:av)(st:bh):Prop:= ∃f a,b x=Y (.ref f)/\K0 K x x st f a
def fz{K:jr}{h:jn}{e:lJ}{x:av}{st:bh}{f:iO}{g:iX}{i an:Option iO}{j:yx}{kV b m d ct:iX}(X:K.In h)(G:h.Ns ap e)(a:aW K ap x=Y (Y<|.ref f))
  (l:K.lookup f=Y ⟨g,i,.func<|bI x x (qe st) (mm st) (jb st) .none kV b m an d ct,j⟩)(c:c8 K d x=I)(k:bP K (.ref f)=I):Fz K e x st:=⟨f,_,PySem.W.mg_of X G a,PD l c k⟩
def LR(x:av)(st:bh)(c:jB):Prop:= ∀(kV a e:iX)(an:Option iO)(d ct:iX)(b:jW),VP b=VP c->fe (bI x x (qe st) (mm st) (jb st) .none kV a e an d ct) ⟨b,[]⟩=pure (c.zip b)
def Oe{N P:jB}{a:jS}(h1:a.kind=.function:=by rfl)(b:a.isCoroutine=C:=by rfl)(c:a.isGenerator=C:=by rfl)(d:N.Nodup:=by decide+kernel)(e:N.take P.length=P:=by rfl)(f:∀x∈P,a.names.lookup x=Y .local\/a.names.lookup x=Y .cell:=by decide+kernel)(g:∀y∈a.names,y.2≠ .free:=by decide+kernel):AY N P a:=⟨h1,b,c,d,e,f,g⟩
abbrev Bd(Z:ZZ)(k:Nat)(x:av)(st:bh)(N d:jB)(c:jX)(fs:FS):Prop:= ∀(f:iO)(b:iX)(A:jm)(a:List dG)(s:iT)(U:Hp)(E:XK)(L:LL),(∀i,L.p i->i<VP d)->BH k (A.deeper<|aY x (jb st) s.heap.objs.size f b)->
 un (A.deeper<|aY x (jb st) s.heap.objs.size f b) 60->un (A.deeper<|aY x (jb st) s.heap.objs.size f b) 1->un (A.deeper<|aY x (jb st) s.heap.objs.size f b) 62->un (A.deeper<|aY x (jb st) s.heap.objs.size f b) 90->N.Nodup->
 QQ (rQ HJ Z.P Z.w Z.K Z.mg Z.base N x (jb st) f b A a s U E).Iy (λi=>i∈c) L U (mm st) fs
def fnB{Z:ZZ}{k:Nat}{x:av}{st:bh}{N c:jB}{b:jX}{fs:FS}{f:iO}{d:mD}(F:K0 Z.K x x st f d)(S:AY N c (jb st))(j:Bd Z k x st N c b fs):D9 Z.P Z.w Z.K Z.mg Z.base HJ (k+1) f d c (KG Z.K<|AV (VP N) (VP c) b fs):=
 W8 F S λg A a s U E L i e=>by have:=e.un;exact(j f g A a s U E L i e (by unfold un;omega) (by unfold un;omega) (by unfold un;omega) (by unfold un;omega) S.nd).h
def ozB{Z:ZZ}{k:Nat}{x:av}{st:bh}{N d:jB}{c:jX}{fs:FS}(a:Fz Z.K Z.mg x st)(S:AY N d (jb st))(b:LR x st d)(g:Bd Z k x st N d c fs):Oz Z (k+1) x d (AV (VP N) (VP d) c fs):=
 let⟨f,e,m,F⟩:=a;⟨f,e,fnB F S g,m,F.kp,F.binds b⟩
def NZ{P:List iX->Prop}(h:P []):∀b:List iX,VP b=0->P b:=λb e=>by cases b with|nil=>exact h|cons a l=>cases e
def Me{P:List iX->Prop}{n:Nat}(h:∀a,∀b:List iX,VP b=n->P (a::b)):∀b:List iX,VP b=n+1->P b:=λb e=>by cases b with|nil=>cases e|cons a l=>exact h a l<|Nat.succ.inj e
def oz0{Z:ZZ}{x:av}{st:bh}{c:jB}(a:Fz Z.K Z.mg x st)(b:LR x st c):Oz Z 0 x c (λ_=>J):=
 let⟨f,d,m,F⟩:=a;⟨f,d,S8,m,F.kp,F.binds b⟩
def txK{K:jr}{h:jn}{g:lJ}(X:K.In h)(G:h.Ns ap g)(i:aW K ap "len"=Y J)(j:aW K ap "abs"=Y J)(k:aW K ap "int"=Y J)(l:aW K ap "tuple"=Y J)(m:aW K ap "list"=Y J)(n:aW K ap "range"=Y J)(o:aW K ap "isinstance"=Y J)(p:aW K ap "bool"=Y J)(q:aW K ap "max"=Y J)(r:aW K ap "min"=Y J)(a:aW K ap "all"=Y J)(b:aW K ap "any"=Y J)(c:aW K ap "sorted"=Y J)(d:aW K ap "enumerate"=Y J)(e:aW K ap "zip"=Y J)(f:aW K ap "set"=Y J):Tx g:=⟨oO X G i,oO X G j,oO X G k,oO X G l,oO X G m,oO X G n,oO X G o,oO X G p,oO X G q,oO X G r,oO X G a,oO X G b,oO X G c,oO X G d,oO X G e,oO X G f⟩
end PX
namespace L2
open PySem.W
structure Mc(P:jq)(w:jk)(outer:List dG)(H:Hp)(s:iT)(C:iO)(H':Hp)(ea:iO)(s':iT)(h0 B:jn)(F:kW):Prop where
 os:s'.os=s.os
 bare:el s'.gens
 un:Un (Ex outer) [] H H' s.heap h0
 hok:Em P w H' h0
 fr:∀b∈F,H' b=T2/\(b∈Ex outer\/s.heap.objs.size<=b)
 st:∀b o,h0.get? b=TW o->b∉F->B.get? b=TW o
 fl:∃a0,Heap.FlyingW B outer ea (.ref C) a0 s'.heap
 up:h0.UpToSlots s'.heap
 ne:h0.get? ea=T2
inductive Ih(P:jq)(w:jk)(outer:List dG)(H:Hp)(s:iT)(E:XK)(e:iX)(s':iT):Prop where
 |mk (C:iO) (H':Hp) (ea:iO) (h0 B:jn) (F:kW) (_:e=.ref ea) (_:Mc P w outer H s C H' ea s' h0 B F) (_:E (.ref C) T2 H')
section
variable {P:jq}{w:jk}{c:List dG}{H h:Hp}{s s':iT}{C i:iO}{g B d:jn}{F:kW}
def Mc.end(f:Mc P w c H s C h i s' g B F)(t:∀b∈Ex c,∃o,s.heap.get? b=Y o/\(∀O,o.data≠ .fields O)/\H b=J)(E:B.StaysIn d)(v:g.UpToSlots d):Un (Ex c) [] H h s.heap d/\Em P w h d:=by
 have keep:∀b o,g.get? b=Y o->b∉F->d.get? b=Y o:=λb o e n=>E b o<|f.st b o e n
 have x:∀b o,s.heap.get? b=Y o->b∉Ex c->b∉F:=λb o e n z=>by
  rcases(f.fr b z).2 with q|q
  .exact n q
  exact absurd (ki e) (M7.mpr q)
 refine⟨⟨λb o e n j k=>keep b o (f.un.keep b o e n j k)<|x b o e j,λb o e n j k=>?_,f.un.free,λb o e k=>?_,f.un.tups,f.un.frzs,f.un.tbls⟩,λa o e=>?_⟩
 .obtain⟨U,m,r,_⟩:=t b j;rw[e]at m;cases m;obtain⟨L,l⟩:=f.un.slot b o e n j k;obtain⟨A,p⟩:=v b _ l r;exact⟨A,p⟩
 .by_cases j:b∈Ex c
  .obtain⟨U,m,r,n⟩:=t b j;rw[e]at m;cases m;obtain⟨L,l⟩:=f.un.slot b o e n j k;obtain⟨A,p⟩:=v b _ l r;exact⟨_,p⟩
  obtain⟨y,l⟩:=f.un.there b o e k;exact⟨y,keep b y l<|x b o e j⟩
 refine(f.hok a o e).BG (λb u j q=>keep b u q λz=>?_) (λ_ q=>q) λ_ _ q=>q;have:=(f.fr b z).1;rcases j with rfl|j
 .rw[e]at this;cases this
 rw[j]at this;cases this
end
section
variable {X:Cx}{g:jK}{k:St}{H:Hp}{s s':iT}{C j:iO}
def Inv.OA(U:Inv X g k H s):∀b∈Ex X.stack,∃o,s.heap.get? b=Y o/\(∀d,o.data≠ .fields d)/\H b=J:=λb a=>by obtain⟨_,o,c,hd⟩:=U.stack.mem a;exact⟨o,c,hd,U.HD b a⟩
def Gm(X:Cx)(P:jq)(w:jk)(d:List dG)(i:Hp)(s0:iT)(E:XK):Prop:=X.prog=P/\X.w=w/\X.stack=X.env::d/\X.outer=d/\X.H₀=i/\X.s₀=s0/\X.ex=[]/\X.env.frame=Y X.env.locals/\
 ∀e s',ah (ai P w) X.A (M2 X.env e) (λ_ a=>Ih P w d i s0 E e a) (λb a=>Ih P w d i s0 E b a) s'->X.xe e s'
def aes{P:jq}{w:jk}{K:jr}{a:lJ}{base:jn}{N:jB}{qual:av}{scope:jS}{f:iO}{cd:iX}{A:jm}{d:List dG}{s:iT}{H:Hp}{E:XK}:
  Gm (rQ (Ih P w) P w K a base N qual scope f cd A d s H E) P w d H s E:=⟨rfl,rfl,rfl,rfl,rfl,rfl,rfl,rfl,λ_ _ h=>h⟩
variable {P:jq}{w:jk}{d:List dG}{i:Hp}{s0:iT}{E:XK}
def aeu{r:Hp}{u:jn}{L:iO}(a:Un (Ex d) [] i H s0.heap s.heap)(b:Un (L::Ex d) [] H r s.heap u)(A:s0.heap.objs.size<=L):Un (Ex d) [] i r s0.heap u where
 keep:=λc o q n h e=>b.keep c o (a.keep c o q n h e) (a.free c o q n e) (λz=>(nH.mp z).elim (λz=>by subst z;exact absurd (ki q)<|M7.mpr A) h) e
 slot:=λc o q n h e=>by obtain⟨Q,f⟩:=a.slot c o q n h e;obtain⟨y,m⟩:=b.slot c _ f (a.free c o q n e) (kE _ h) e;exact⟨y,m⟩
 free:=λc o q n e=>by obtain⟨p,f⟩:=a.there c o q e;exact b.free c p f (a.free c o q n e) e
 there:=λc o q e=>by obtain⟨p,f⟩:=a.there c o q e;exact b.there c p f e
 tups:=λc l q=>b.tups c l<|a.tups c l q
 frzs:=λc o l q=>b.frzs c o l<|a.frzs c o l q
 tbls:=λc O q=>by obtain⟨B,f⟩:=a.tbls c O q;obtain⟨U,m⟩:=b.tbls c _ f;exact⟨B++U,by rw[m,Hr]⟩
def A0{a:dG}{L:iO}(h:a.frame=Y L):Ex (a::d)=L::Ex d:=by unfold Ex;rw[uO,h]
def Gm.made(x:Gm X P w d i s0 E)(U:Inv X g k H s){r:jn}{f:jW}(p:Heap.MadeExcOf s.heap r j (.ref C) f)(q:E (.ref C) J H):X.xe (.ref j) {s with heap:=r}:=by
 obtain⟨rfl,rfl,c,B,rfl,rfl,hex,u,v⟩:=x;refine v _ _ (wpAny_leaves_madeW (base:=hideAll s.heap<|Ex X.stack) (h:=s.heap) (L:=X.env.locals) (U.ok.frames.trans<|by rw[c]) u (λb o e=>of_hideAll _ e) ?_ p λO t y _ _ up=>?_)
 .rw[<-c];exact funFrames_hide U.stack λm A a z=>dD.mpr ⟨m,A,z⟩
 refine⟨C,H,j,s.heap,_,Ex X.stack,rfl,⟨U.os,U.bare,?_,U.hok,λb l=>⟨U.HD b l,?_⟩,λb o e n=>hideAll_get _ e n,⟨_,y⟩,(Heap.UpToSlots.of_keeps p.keeps).trans up,p.new⟩,q⟩
 .have:=U.base;unfold Cx.fs at this
  rwa [B,hex]at this
 rw[c,A0 u]at l;rcases nH.mp l with rfl|l
 .exact .inr U.ok.above
 exact .inl l
def Gm.pass(x:Gm X P w d i s0 E):EO (Ih P w) X E:=λg k H s e s' U h=>by
 obtain⟨rfl,rfl,c,v,rfl,rfl,hex,l,r⟩:=x;obtain⟨C,o,j,u,B,F,rfl,f,q⟩:=h;obtain⟨p,m⟩:=f.fl;rw[c]at m;refine r _ _ (wpAny_leaves_onW (L:=X.env.locals) (U.ok.frames.trans<|by rw[c]) l m λy t up=>?_);refine⟨C,o,j,u,B,F,rfl,⟨f.os.trans U.os,f.bare,?_,f.hok,λb n=>⟨(f.fr b n).1,?_⟩,f.st,⟨p,t⟩,f.up.trans up,f.ne⟩,q⟩
 .have a:=U.base;unfold Cx.fs at a;rw[v,hex]at a;have b:=f.un;rw[c,A0 l]at b;exact aeu a b U.ok.above
 rcases(f.fr b n).2 with z|z
 .rw[c,A0 l]at z;rcases nH.mp z with rfl|z
  .exact .inr U.ok.above
  exact .inl z
 exact .inr (lV U.sz z)
end
abbrev OV:List Value:=[.type "ValueError",.type "Exception",.type "BaseException",.type "object"]
def Tz{K:Frag}{h:jn}{U:iO}{b:jW}{e:String}(c:K.In h)(q:excIn K U b e=I):
  ∃a N nm g bs hd sn sub ab col dd k0 k1 k2 k3 k5 j,h.get? U=Y (excClassObj nm g U N bs a hd sn sub ab col dd k0 k1 k2 k3 k5 e)/\h.Ns N j/\j "__init__"=J/\OwnTail h b a:=by
 unfold excIn at q;split at q
 case h_2=>cases q
 rename_i dd cd i lk;split at q
 case h_2=>cases q
 rename_i y a k0 k1 k2 k3 n k5 p r;rw[mf,mf,mf,mf,mf]at q;obtain⟨⟨⟨⟨⟨t,u⟩,v⟩,w⟩,k⟩,x⟩:=q;cases Gu.mp t;cases Gu.mp u;obtain⟨nm,bs,f,s,g,hd,sn,sub,ab,col,d⟩:=cd;have l:f=.ref U::a:=p;have m:d=C:=by simpa using v
 obtain⟨i⟩:=i;have o:i=[k0,k1,k2,k3,Y<|.builtin e,k5]:=r;subst l m o;exact⟨a,s,nm,g,bs,hd,sn,sub,ab,col,dd,k0,k1,k2,k3,k5,_,c _ _ lk,.of_isNs<|isNs_of_in c k,nsMap_none_of_in c k<|Gu.mp x,tail_of_in c w⟩
section
variable {X:Cx}{P:jq}{w:jk}{b:List dG}{g:Hp}{s0:iT}{E:XK}{x:av}{C:iO}{a:iW}{d:TE}{np f c:bn}
def afC(T:Gm X P w b g s0 E)(z:X.calm=Uf)(t:excIn X.K C OV "ValueError.__new__"=Uf)(B:X.mg x=Y (.ref C))(A:Gl X x)(y:PE X a d)(hd:(x==("__debug__":av))=UF)
  (n:ae [a] X.env=[(UF,aX a X.env)]):PS X (.Raise (Y<|.Call (.Name x np) [a] [] f) T2 c) (λD k H'=>d k H' λ_ l=>E (.ref C) T2 l):=by
 intro i s k H' D I h;obtain⟨G,N,nm,Q,bs,o,sn,sub,ab,col,dd,k0,k1,k2,k3,k5,M,h1,p,r,m⟩:=Tz I.ok.mod.kin t;have L:(aI f<|ae [a] X.env).any (·.1)=UF:=by rw[n];rfl
 refine wpAny_Raise_call_subT (nm:=nm) (q:=Q) (N:=N) (bs:=bs) (hdct:=o) (sn:=sn) (sub:=sub) (ab:=ab) (col:=col) (dd:=dd) (k0:=k0) (k1:=k1) (k2:=k2) (k3:=k3) (k5:=k5) PySem.F.excBase_ValueError (m.hasType<|by decide) (I.ok.hd z) L r<|wC I A B ⟨rfl,?_⟩ hd;rw[n];refine MU<|Hn (Ak (y i s k H' _ I h) λu s1 a'=>by obtain⟨v,l,j,U,O⟩:=a';exact Ho ⟨rfl,(show 1<=sizeLine by decide),j.bk _ _ h1,p.keeps j.bk,m.keeps j.bk,λJ e mk=>T.made j mk O⟩)
end
def yj(q:av):HO:=.tbl #[.str q 0]
structure Lk(TB:List (iO×av))(H:Hp):Prop where
 one:∀b,H b=T2\/(∃o xs,H b=TW (.Bq o<|.lst xs))\/∃q,(b,q)∈TB/\H b=TW (yj q)
 all:∀p∈TB,H p.1=TW (yj p.2)
def afp{P:jq}{w:jk}{K:jr}{C mb:lJ}{CX:KD}{k:Nat}{fa a:iO}{fd:mD}{x:av}{sp:Sp}{c:iT}{O:jW}{Q:ja}{TB:List (iO×av)}
  (KX:K.In c.heap)(aq:c.heap.Ns ap C)(g:c.heap.Ns gX mb)(hbb:∀x:av,x≠"__name__"->mb x=ax x)(Y:c.heap.NoLimit)(hg:c.gens= #[])
  (M:∀p∈TB,c.heap.get? p.1=TW (tabObj #[]))(fO:∀p∈TB,K.lookup p.1=T2)(fN:∀p∈TB,isCodeTable c.heap p.1)(eI:(TB.map (·.1)).Nodup)(U:∀p∈TB,c.heap.BuiltinsAt C p.1)
  (N:c.heap.get? a=TW {cls:=.type "list",data:=.seq O.toArray})(hi:ek O Q)(hl:Q.length<=sizeLine)(hr:BH k gg)
  (F:∀base:jn,K.In base->base.Ns ap C->(∀p∈TB,base.BuiltinsAt C p.1)->D9 P w K C base CX k fa fd [x] sp)(m5:∀(s:iT)(u:iX),gj s fd ⟨[u],[]⟩ [(x,u)])
  (cM:∀H8:Hp,Lk TB H8->F5 K H8 a (Q.map V.int)->sp [.ref a] H8 (λv H'=>v=.bl Uf/\∀p∈TB,H' p.1=TW (yj p.2)) λ_ _ _=>False)
  (hCX:∀H8 e j,CX [] H8 c (λ_ _ _=>False) e j->False):
  cg (ai P w) gg (.call (.ref fa) ⟨[.ref a],[]⟩) (λr j=>r=.ok (.ret<|.bool Uf)/\OldK c.heap j.heap/\j.os=c.os/\el j.gens) c:=by
 have rv:=aet hi;have R:=hi.length
 have Z:∀p∈TB,p.1≠a:=λp f e=>by have:=M p f;rw[e,N]at this;cases this
 have t:∀H8:Hp,Lk TB H8->F5 K H8 a (Q.map V.int)->Em P w H8 c.heap->(∀b,H8 b≠T2->b=a\/∃p∈TB,b=p.1)->(H8 a≠T2->K.lookup a=T2)->
   cg (ai P w) gg (.call (.ref fa) ⟨[.ref a],[]⟩) (λr j=>r=.ok (.ret<|.bool Uf)/\OldK c.heap j.heap/\j.os=c.os/\el j.gens) c:=by
  intro H8 hO hS D hA hK;have o7:∀{b:iO}{o:e6},c.heap.get? b=TW o->H8 b=T2->(BN c.heap H8).get? b=TW o:=λe n=>Pp e n
  have bg:∀{b:iO}{o:e6},c.heap.get? b=TW o->(∀its n,o.data≠ .seq its n)->(∀I,o.data≠ .fields I)->H8 b=T2:=λ{b o} e d d2=>by
   cases q:H8 b with
   |none=>rfl
   |some u=>
    rcases hA b (by rw[q];simp)with rfl|⟨p,f,rfl⟩
    .rw[N]at e;cases e;exact absurd H<|d _ _
    rw[M p f]at e;cases e;exact absurd H<|d2 _
  have X:∀{b:iO}{m:lJ},c.heap.Ns b m->(BN c.heap H8).Ns b m:=λ{b m} ⟨o,es,ep,e,d,r⟩=>⟨o,es,ep,o7 e (bg e (λ_ _ z=>by rw[d]at z;cases z) λ_ z=>by rw[d]at z;cases z),d,r⟩
  have J:K.In (BN c.heap H8):=λb o e=>o7 (KX b o e) (by
   cases q:H8 b with
   |none=>rfl
   |some u=>
    rcases hA b (by rw[q];simp)with rfl|⟨p,f,rfl⟩
    .rw[hK<|by rw[q];simp]at e;cases e
    rw[fO p f]at e;cases e)
  have hBA:∀p∈TB,(BN c.heap H8).BuiltinsAt C p.1:=λp f=>by obtain⟨bm,o,h1,h2,h3,h4,h5,h6,h7,h8⟩:=U p f;exact⟨bm,o,h1,h2,h3,h4,o7 h5 (bg h5 (λ_ _ z=>by rw[h8]at z;cases z) λ_ z=>by rw[h8]at z;cases z),h6,h7,h8⟩
  have hM:Mod K C (BN c.heap H8):=⟨J,X aq,⟨mb,X g,hbb⟩,let⟨mc,h1,h2⟩:=Y;⟨mc,X h1,h2⟩⟩
  have e0:KC P w K C (BN c.heap H8) gg [] c H8:=⟨rfl,hM,λb o e=>Si e,wl<|aeW _ _,trivial,λb g=>absurd (show b∈([]:List iO)from g)<|by simp,D,.of_eq hg⟩
  refine sf ((F _ J (X aq) hBA).run gg [] c H8 ⟨[.ref a],[]⟩ [.ref a] [.ref a] _ _ hr e0 (m5 c<|.ref a) (.cons H .nil) (cM H8 hO hS)) λr j h=>?_
  cases r with
  |error e=>exact(hCX H8 e j h).elim
  |ok fl=>
   cases fl with
   |next=>exact aT h
   |brk=>exact aT h
   |cont=>exact aT h
   |ret u=>
    obtain⟨v,H',os,T,un,B,r',q,L⟩:=h;subst q;obtain rfl:u=dV Uf:=r'
    have W:∀p∈TB,∃I,j.heap.get? p.1=TW (tabObj I):=λp f=>by
     obtain⟨_,_,I,_,e,_⟩:=(show AA P w H' j.heap p.1 (.tbl #[.str p.2 0])from B _ _ (L p f))
     exact⟨I,e⟩
    have keep:∀b o,c.heap.get? b=TW o->(∀p∈TB,b≠p.1)->j.heap.get? b=TW o:=λb o e n=>by
     cases q:H8 b with
     |none=>exact un.keep b o e q (by intro z;exact absurd (show b∈([]:List iO)from z)<|by simp) (by simp)
     |some u=>
      rcases hO.one b with z|⟨ob,xs,z⟩|⟨qq,hm,z⟩
      .rw[q]at z;cases z
      .have z2:=un.frzs b ob _ z;obtain⟨e1,_⟩:=D b _ z;obtain⟨G,_⟩:=B b _ z2;rw[e]at e1;cases e1;exact G
      exact absurd H (n _ hm)
    refine⟨rfl,⟨λb o e=>?_,λb o e=>?_⟩,os,T⟩
    .by_cases g:∃p∈TB,b=p.1
     .obtain⟨p,f,rfl⟩:=g;obtain⟨I,G⟩:=W p f;rw[M p f]at e;cases e;refine .inr<|.inl ⟨fN p f,rfl,#[],I,rfl,?_⟩;rw[G];simp
     exact .inl (keep b o e λp f z=>g ⟨p,f,z⟩)
    by_cases g:∃p∈TB,b=p.1
    .obtain⟨p,f,rfl⟩:=g;obtain⟨I,G⟩:=W p f;exact⟨_,G⟩
    exact⟨o,keep b o e λp f z=>g ⟨p,f,z⟩⟩
 have A:∀{b q},TB.lookup b=TW q->(b,q)∈TB:=λh=>by
  revert h;generalize TB=l
  induction l with
  |nil=>intro h;simp at h
  |cons x l ih=>
   intro h;rw[pW]at h;split at h
   .rename_i g;cases h;rw[Gu.mp g];exact kx
   exact kE _ (ih h)
 have S:∀p∈TB,TB.lookup p.1=TW p.2:=by
  clear A t Z cM fO fN U F M
  induction TB with
  |nil=>intro p f;simp at f
  |cons x l ih=>
   intro p f;rw[kM,zp]at eI;rw[pW];rcases nH.mp f with rfl|f
   .simp
   have:(p.1==x.1)=UF:=by rw[BD];exact λe=>eI.1 (e▸sP f)
   rw[this];exact ih eI.2 p f
 have E:∀(H8:Hp)(b:iO)(q:av),(b,q)∈TB->AA P w H8 c.heap b (yj q):=λH8 b q hm=>⟨q,0,#[],rfl,M _ hm,trivial,λpos cv z=>by simp[eC]at z⟩
 cases hk:K.lookup a with
 |some o=>
  have e:=KX a o hk;rw[N]at e;cases e;refine t (λb=>(TB.lookup b).map yj) ⟨λb=>?_,λp f=>by rw[S p f];rfl⟩ (.inr ⟨_,O.toArray,_,hk,rfl,rfl,rfl,by rw[kH,R];exact hl,by simpa using rv⟩) (λb u z=>?_) (λb z=>?_) λz=>?_
  .cases q:TB.lookup b with
   |none=>exact .inl H
   |some y=>exact .inr<|.inr ⟨y,A q,rfl⟩
  .have i:(TB.lookup b).map yj=TW u:=z
   cases q:TB.lookup b with
   |none=>rw[q]at i;cases i
   |some y=>rw[q]at i;cases i;exact E _ b y (A q)
  .have i:(TB.lookup b).map yj≠T2:=z
   cases q:TB.lookup b with
   |none=>rw[q]at i;exact absurd H i
   |some y=>exact .inr ⟨_,A q,rfl⟩
  have i:(TB.lookup a).map yj≠T2:=z
  cases q:TB.lookup a with
  |none=>rw[q]at i;exact absurd H i
  |some y=>exact absurd H<|Z _ (A q)
 |none=>
  have ie:∀p∈TB,(if p.1=a then TW (HO.Bq {cls:=.type "list",data:=.seq O.toArray}<|.lst<|Q.map V.int)else(TB.lookup p.1).map yj)=TW (yj p.2):=λp f=>by rw[jy<|Z p f,S p f];rfl
  refine t (λb=>if b=a then TW (.Bq {cls:=.type "list",data:=.seq O.toArray}<|.lst<|Q.map V.int)else(TB.lookup b).map yj) ⟨λb=>?_,ie⟩ (.inl<|.inr ⟨{cls:=.type "list",data:=.seq O.toArray},jh H⟩) (λb u z=>?_) (λb z=>?_) λ_=>hk
  .by_cases g:b=a
   .exact .inr (.inl ⟨_,_,jh g⟩)
   cases q:TB.lookup b with
   |none=>exact .inl (by simp[g])
   |some y=>exact .inr<|.inr ⟨y,A q,by simp[g]⟩
  .by_cases g:b=a
   .have i:=(jh g).symm.trans z;cases i;subst g;exact⟨N,by rw[ke];exact hl,O,_,rv,N⟩
   have i:=(jy g).symm.trans z
   cases q:TB.lookup b with
   |none=>rw[q]at i;cases i
   |some y=>rw[q]at i;cases i;exact E _ b y (A q)
  by_cases g:b=a
  .exact .inl g
  cases q:TB.lookup b with
  |none=>exact absurd (by simp[g,q]) z
  |some y=>exact .inr ⟨_,A q,rfl⟩
end L2
namespace PX
open L2
def Sx{TB:List (iO×av)}{K:jr}{k:BI}{U:Hp}{a:iO}{f:ja}(m:∀p∈TB,U p.1=Y (yj p.2))(l:F5 K U a (f.map V.int)){o:Bool}{c:Dn}(h:k [(.lst<|f.map .int,C)]=Y ((.bl I,o),c)):KG K k [.ref a] U (λv g=>v=.bl I/\∀p∈TB,g p.1=Y (yj p.2)) λ_ _ _=>False:=by
 have no:∀b,¬X0 [Y<|V.ref a] [Y (D.lst<|f.map .int,C)] b:=λb T=>by
  obtain⟨i,d,h1,q⟩:=T
  cases i with
  |zero=>simp at h1
  |succ i=>simp at h1
 refine⟨λ_=>False,[(.lst<|f.map .int,C)],_,c,⟨rfl,λi d hd=>?_,λi d hd=>?_,λi j d e b h1=>?_,λb z=>absurd z<|no b,λb z=>z.elim⟩,h,λv g P=>?_⟩
 .cases i with
  |zero=>simp at hd;subst hd;refine⟨_,rfl,Rep.Np (a:=a) (xs:=f.map V.int) ?_<|aeG f⟩;exact l.imp (λz=>⟨z,λz=>z.elim (no a) id⟩) id
  |succ i=>simp at hd
 .cases i with
  |zero=>simp at hd
  |succ i=>simp at hd
 .cases i with
  |zero=>simp at h1
  |succ i=>simp at h1
 refine⟨?_,λp n=>P.1.kp _ _ (m p n) (no _)⟩
 cases o
 .exact P.2.2.bl
 obtain⟨p,_,_,_,ok⟩:=P.2;exact ok.elim
end PX
namespace L2
open PySem.W
theorem wo{a b:Int}{t u:Nat}{c:iX}:∀l:List iX,jt l->jt (l++[.int a t,.int b u,c])
 |[],_=>trivial
 |.int _ _:: .int _ _::_::rest,h=>wo rest h
theorem Bw{a b:Int}{t u:Nat}{e:bn}{c f:iX}:∀l:List iX,jt l->eC e (l++[.int a t,.int b u,c])=Y f->eC e l=Y f\/f=c
 |[],_,h=>by
  simp only[xb,eC]at h;split at h
  .exact .inr (lg h).symm
  cases h
 |.int i _:: .int j _::d::rest,h0,h=>by
  simp only[nP,eC]at h ⊢;split at h
  .rename_i q;rw[jh q];exact .inl h
  rename_i q;rw[jy q];exact Bw rest h0 h
structure IE(q:av)(params:bA)(body:iW)(scope:jS)(b6:lb)(H:Hp)(h:jn)(fl:iO):Prop where
 fn:∃pm c' m6,h.get? fl=TW (kla_obj "<lambda>" q params body scope b6 pm c' m6)/\∃ob u vs t,H c'=TW (.Bq ob u)/\ob.data=.fields vs/\vs[1]?=TW (.str q t)
 un:H fl=T2
section
variable {X:Cx}{i:jK}{m:St}{H:Hp}{s:iT}{P c:iO}{f:bA}{g:iW}{scope:jS}{j:lb}{l:bn}
def Up{h:jn}{a:iO}(e:h.objs.size<=a):h.get? a=J:=by
 cases q:h.get? a with
 |none=>rfl
 |some o=>exact absurd (ki q)<|M7.mpr e
def agg{M:gi}{A:jm}{E:jG}{Q:jG}(I:Inv X i m H s){more:nZ}(N:H P=TW (.tbl (#[.str (X.env.qual++"<lambda>") 0]++more)))(hc:X.env.code=.ref c)(C:CodeHd X.base c P)(hB:X.base.BuiltinsAt X.mg P)(gP:ap≠P)
  (l3:s8 scope X.env=pure j)(aU:sK f X.env=([],[]))
  (k:∀s1 T fl,Inv X i m T s1->(∀b o,H b=TW o->T b=TW o)->IE (X.env.qual++"<lambda>") f g scope j T s1.heap fl->(∀b o,s.heap.get? b=TW o->H b=T2->s1.heap.get? b=TW o)->(∀b o,s.heap.get? b=TW o->H b=T2->T b=T2)->s.heap.get? fl=T2->Q (.ref fl) s1):
  ah M A (aX (.Lambda f g scope l) X.env) Q E s:=by
 refine kla_eval aU ?_;obtain⟨qq,tq,ps,J,B,Y,hm⟩:=(show AA X.prog X.w H s.heap P (.tbl (#[.str (X.env.qual++"<lambda>") 0]++more))from I.hok P _ N)
 have W:qq=X.env.qual++"<lambda>":=by rw[Array.getElem?_append_left<|by simp]at J;simp at J;exact J.1.symm
 subst W;have u9:s.heap.BuiltinsAt X.mg P:=let⟨bm,o,h1,F,K,R,h5,h6⟩:=hB;⟨bm,o,h1,F,K,R,I.bk _ _ h5,h6⟩
 have hg:s.heap.Ns ap X.mg:=I.ok.mod.glob.keeps I.bk
 cases S:eC l ps.toList with
 |some cv=>refine kla_makeFunctionHit l3 I.ok.glob hg hc (C.keeps I.bk) B Y S u9 λh v D p sz=>?_;obtain⟨a,ob,u,vs,t,rfl,F,K,R⟩:=hm l cv S;have bC:∀b o,s.heap.get? b=TW o->(v.push<|kla_obj "<lambda>" (X.env.qual++"<lambda>") f g scope j ((X.mg "__name__").getD .none) a h).get? b=TW o:=λb o e=>kb _ (p b o e);exact k _ H _ (I.kept (t':=D) bC) (λ_ _ e=>e) ⟨⟨_,a,h,kD _ rfl,ob,u,vs,t,F,K,R⟩,I.hok.fresh sz⟩ (λb o e _=>bC b o e) (λ_ _ _ n=>n) (Up sz)
 |none=>
  refine kla_makeFunction l3 I.ok.glob hg hc (C.keeps I.bk) B Y S gP u9 λa h v D ex G x cr tb=>?_;obtain⟨c0,r,vs,t,ec,eh,dN,hq⟩:=cr;cases ec;have nc:H a=T2:=I.hok.fresh G;have p:∀b o,b≠P->s.heap.get? b=TW o->(v.push<|kla_obj "<lambda>" (X.env.qual++"<lambda>") f g scope j ((X.mg "__name__").getD .none) a h).get? b=TW o:=λb o n e=>kb _ (ex b o n e);have up:∀b o,H b=TW o->upd H a (.Bq r<|.own 0) b=TW o:=λb o e=>by rw[jx<|lI e nc];exact e
  have Z:∀b,H b=T2->b≠P:=λb n z=>by rw[z,N]at n;cases n
  have y:=kb (kla_obj "<lambda>" (X.env.qual++"<lambda>") f g scope j ((X.mg "__name__").getD .none) a h) tb
  have un:Un (Ex X.stack) [] H (upd H a<|.Bq r<|.own 0) s.heap (v.push<|kla_obj "<lambda>" (X.env.qual++"<lambda>") f g scope j ((X.mg "__name__").getD .none) a h):=
   ⟨λb o e n _ _=>p b o (Z b n) e,λb o e n _ _=>⟨o.slots,p b o (Z b n) e⟩,λb o e n _=>by rw[jx<|kI<|nY (ki e) G];exact n,λb o e _=>by
    by_cases z:b=P
    .subst z;exact⟨_,y⟩
    exact⟨o,p b o z e⟩,λb xs e=>up b _ e,λb o xs e=>up b _ e,λb ps e=>⟨#[],by rw[up b _ e];simp⟩⟩
  have V:Em X.prog X.w (upd H a<|.Bq r<|.own 0) (v.push<|kla_obj "<lambda>" (X.env.qual++"<lambda>") f g scope j ((X.mg "__name__").getD .none) a h):=λb u e=>by
   by_cases U:b=a
   .subst U;rw[ju]at e;cases e;exact⟨kb _ eh,⟨r,kb _ eh⟩⟩
   rw[jx U]at e;by_cases L:b=P
   .subst L;rw[N]at e;cases e;refine⟨_,tq,_,J,y,?_,λO cv z=>?_⟩
    .rw[Mp];exact wo _ Y
    rw[Mp]at z;rcases Bw _ Y z with z|z
    .obtain⟨x,ob,u,vs,t,r1,r2,r3,r4⟩:=hm O cv z;exact⟨x,ob,u,vs,t,r1,up _ _ r2,r3,r4⟩
    exact⟨a,r,_,vs,t,z,ju,dN,hq⟩
   refine(I.hok b u e).BG (λd w hd q=>p d w (λz=>?_) q) (λd q=>up d _ q) (λd xs q=>up d _ q) λd _ _ q=>up d _ q;subst z;rcases hd with z|z
   .exact L z.symm
   rw[N]at z;cases z
  have I1:Inv X i m (upd H a<|.Bq r<|.own 0) {s with heap:=v.push<|kla_obj "<lambda>" (X.env.qual++"<lambda>") f g scope j ((X.mg "__name__").getD .none) a h,toks:=D}:=I.call (g':=s.gens) (d':=s.drawn) (t':=D) un V I.bare λb U=>absurd U (by simp);refine k _ _ _ I1 up ⟨⟨_,a,h,kD _ rfl,r,_,vs,t,ju,dN,hq⟩,?_⟩ (λb o e n=>p b o (Z b n) e) (λb o e n=>un.free b o e n<|by simp) (Up<|wc<|GC G x);rw[jx<|pv x];exact I.hok.fresh<|wc<|GC G x
end
def Bi(q:av)(scope:jS)(L fl:iO)(cd:iX)(a:lb):Env:=
 newEnv scope L ap a (q++".<locals>.") (Y fl) cd J gX
def ue(CX:KD)(P:jq)(w:jk)(K:Frag)(d:lJ)(base:jn)(N:jB)(q:av)(scope:jS)(fl:iO)(cd:iX)(b:lb)(A:jm)(a:List dG)(s:iT)(U:Hp)(E:XK):Cx where
 prog:=P
 w:=w
 K:=K
 mg:=d
 base:=base
 A:=A.deeper<|Bi q scope s.heap.objs.size fl cd b
 N:=N
 s₀:=s
 H₀:=U
 env:=Bi q scope s.heap.objs.size fl cd b
 outer:=a
 stack:=Bi q scope s.heap.objs.size fl cd b::a
 ex:=[]
 calm:=I
 fn:=λ_=>C
 pn:=[]
 xe:=λe h=>ah (ai P w) (A.deeper<|Bi q scope s.heap.objs.size fl cd b) (M2 (Bi q scope s.heap.objs.size fl cd b) e) (λ_ c=>CX a U s E e c) (λg c=>CX a U s E g c) h
structure EK(scope:jS):Prop where
 kind:scope.kind=.function
 co:scope.isCoroutine=UF
 gen:scope.isGenerator=UF
 cell:∀y∈scope.names,y.2≠ .cell
structure D5(N:jB)(scope:jS)(b6:lb)(σ:St)(H:Hp)(h:jn):Prop where
 inj:∀x y c,b6.lookup x=TW c->b6.lookup y=TW c->x=y
 has:∀x,scope.names.lookup x=TW .free->∃c,b6.lookup x=TW c
 cell:∀x c,b6.lookup x=TW c->(∃v,h.IsCell c v)/\H c=T2
 val:∀(i:Nat)(x:av)(v:V),N[i]?=TW x->σ[i]?=TW (TW v)->scope.names.lookup x=TW .free/\∃c u,b6.lookup x=TW c/\h.IsCell c (TW u)/\RelV v u
 len:(VP σ)=(VP N)
section
variable {CX:KD}{P:jq}{w:jk}{K:Frag}{g:lJ}{base:jn}{N:jB}{q:av}{scope:jS}{fl:iO}{cd:iX}{d:lb}{A:jm}{a:List dG}{s:iT}{H:Hp}{E:XK}{f:St}
def SU(S:EK scope)(hd:A.handled=J)(e:KC P w K g base A a s H)(U:D5 N scope d f H s.heap){h1:jn}{t1:Nat}(l:h1.Ns s.heap.objs.size (λ_=>J))(hk:∀b o,s.heap.get? b=Y o->h1.get? b=Y o):
  Inv (ue CX P w K g base N q scope fl cd d A a s H E) [] f H {s with heap:=h1,toks:=t1}:=by
 have k:∀b:iO,b∉(ue CX P w K g base N q scope fl cd d A a s H E).ex:=λb z=>absurd (show b∈([]:List iO)from z) (by simp)
 refine⟨⟨e.mod,S.kind,rfl,rfl,kg _,U.inj,λy j=>?_,λy c z _=>absurd z<|by simp[ue],λ_=>hd,M1 e.frames,.inr ⟨rfl,rfl⟩,λb z=>absurd z<|k b,e.bs,e.bsz,λb _ _=>k b,λb z=>absurd z<|k b,e.Ew,e.frf⟩,
  rfl,e.bare,Un.kept hk,⟨_,l,λi y v h1 m _=>?_⟩,λy c h=>?_,e.hok.fresh<|kg _,λy c h=>(U.cell y c h).2,λp x=>absurd (show p∈([]:List (iO×e6))from x)<|by simp,e.hok.kept hk,U.len⟩
 .have j:scope.names.lookup y=Y .cell\/scope.names.lookup y=Y .free:=j;rcases j with j|j
  .exact absurd UV (S.cell _ (qu j))
  exact U.has y j
 .obtain⟨t,c,u,n,B,r⟩:=U.val i y v h1 m;exact⟨u,r,.inr ⟨.inr t,c,n,B.keeps hk⟩⟩
 obtain⟨⟨v,hv⟩,_⟩:=U.cell y c h;exact⟨v,hv.keeps hk⟩
def SA{h:bA}{c:iW}{k:Nat}{t:TE}{Q:VK}(S:EK scope)(n:BH (k+1) A)(m:KC P w K g base A a s H)(C:D5 N scope d f H s.heap)(L:IE q h c scope d H s.heap fl)
  (m5:∀O i z,fe (kla_fn "<lambda>" q h c scope d O (.ref i) z) ⟨[],[]⟩=pure [])
  (Y:∀i:iO,BH k (A.deeper<|Bi q scope s.heap.objs.size fl (.ref i) d)->PE (ue CX P w K g base N q scope fl (.ref i) d A a s H E) c t)(ht:t f H Q):
  cg (ai P w) A (.call (.ref fl) ⟨[],[]⟩) (CR CX a P w H s Q E) s:=by
 obtain⟨O,i,z,D,V,u,vs,tk,h1,M,U⟩:=L.fn;have R:s.heap.CodeRec (.ref i) q:=⟨i,V,vs,tk,rfl,(m.hok i _ h1).1,M,U⟩
 have r:s.heap.NoLimit:=m.mod.nolimit.keeps λb o e=>(m.bs b o e).1;refine kla_callFunE n.depth D UV S.co S.gen UV R ?_;rw[m5];refine je<|wpAny_newFunctionEnv S.cell (by intro y F;simp at F) (λl G B=>⟨r.fresh _ B,?_⟩) S.kind;show cg _ _ (.expr c<|Bi q scope s.heap.objs.size fl (.ref i) d) _ _;have j:∀b o,s.heap.get? b=TW o->l.get? b=TW o:=λb o e=>B.extBut b o (kI<|ki e)<|kb _ e;have I:=SU (CX:=CX) (q:=q) (fl:=fl) (cd:=.ref i) (E:=E) (t1:=s.toks+([]:List (av×iX)).length) S n.hd m C (by simpa using G) j;refine kla_codeExpr<|nX (Y i (n.deeper _) [] _ f H Q I ht) (λv Z p=>?_) λe Z p=>p;obtain⟨x,T,J,X,W⟩:=p;exact⟨x,T,J.os,J.bare,J.base,J.hok,X,W⟩
end
open PySem.Calls Builtin Builtin.ObjectAttr Builtin.Getset_descriptor
structure Md(K:Frag)(C:iO):Prop where
 ga:findIn K (.ref C) "__getattribute__"=TW (TW<|.builtin "BaseException.__getattribute__")
 gb:findIn K (.ref C) "__getattr__"=TW T2
 mrB:mroIn K C (.type "BaseException")=TW Uf
 dct:hasDictIn K C=Uf
 fnd:findIn K (.ref C) "__class__"=TW (TW<|.builtin "object.__class__")
 spc:specialIn K (.builtin "object.__class__") "__get__"=TW (TW<|.builtin "getset_descriptor.__get__")
 tks:takesIn K (.builtin "object.__class__")=TW Uf
 mro:mroIn K C (.type "object")=TW Uf
section
variable {K:Frag}{C x:iO}{o:e6}
def PL{M:gi}{h:jn}(Z:Md K C)(X:K.In h):Looks M h (find (.ref x) (.ref C) "__class__") (.bind (.builtin "getset_descriptor.__get__")<|.builtin "object.__class__"):=by have a:=looks_takesIn (M:=M) X Z.tks;exact(looks_findIn X Z.fnd).andThen ((show Looks M h (getOf<|Y<|.builtin "object.__class__") _ from looks_specialIn X Z.spc).andThen<|(show Looks M h (dataDescriptor? (Y<|.builtin "object.__class__")<|Y<|.builtin "getset_descriptor.__get__") (Y (.builtin "getset_descriptor.__get__",.builtin "object.__class__"))from a.andThen .now).andThen<|Looks.tag .now)
def Pa(Z:Md K C)(v:o.cls=.ref C):KitX K (.ref x) (.ref C) λh=>h.get? x=TW o:=by
 have ty:∀(M:gi)(h:jn),h.get? x=TW o->Looks M h (kS<|.ref x) (.ref C):=λM h e=>v▸(Looks.ld e).andThen .now;obtain⟨r,f,_⟩:=any_some Z.dct;unfold clsIn at f;split at f
 case h_2=>cases f
 rename_i U Y p D i;refine⟨λM h _ e=>ty M h e,λM h X _=>?_,λh I dd B n S X m=>?_,λ{a w A E Q s} X e k=>?_⟩
 .intro L N O R H q;unfold isType loadHead;exact iP<|wpAny_loadPart (H _ _ (X _ _ i))<|je q
 .refine m7.mpr λq=>?_;have e:C=I:=Value.ref.inj<|Gu.mp q;subst e;have z:=(X _ _ i).symm.trans m;cases z
 obtain⟨y,g,d,t,os⟩:=s;have T0:=ty (ai a w) y e;have j:=looks_findIn (M:=ai a w) X Z.ga;have l:=looks_findIn (M:=ai a w) X Z.gb;have T:=PL (x:=x) (M:=ai a w) Z X;have G:=looks_mroIn (M:=ai a w) X Z.mro;unfold Do getAttrBy? getAttrBy;refine iP<|wpAny_mkText<|iP<|rC<|mz<|iP<|T0.at<|iP<|j.at ?_;have J:=looks_mroIn (M:=ai a w) X Z.mrB;have u:(cP "BaseException.__getattribute__"==cP "object.__getattribute__")=UF:=by decide+kernel
 show ah _ _ (if onTheHeap (bU C)&&cP "BaseException.__getattribute__"==cP "object.__getattribute__" then _ else x5 _ _ _ _ _ _) _ _ _;rw[jy<|by rw[u];simp];unfold x5;refine iP<|(show Looks _ _ (hookBefore<|.ref C) T2 from l).at<|iP<|rC<|mz ?_;show ah _ _ (FM (.builtin "BaseException.__getattribute__") (.ref x)<|.str "__class__" _) _ _ _;unfold FM;rw[show bindSpecial (.builtin "BaseException.__getattribute__") (.ref x)=pure (.builtin "BaseException.__getattribute__",[.ref x])from XJ.ga.bind _];refine iP<|je<|xP<|zY XJ.ga.plain F.entry_bexc_ga ?_;have hk:builtinKind "BaseException.__getattribute__"=TW .slot:=by decide+kernel
 have b:splitId "BaseException.__getattribute__"=TW ("BaseException","__getattribute__"):=by decide+kernel
 have P:=F.args_bexc_ga (.ref x)<|.str "__class__" t;simp only[c6,hk,b];refine iP ?_;unfold ss
 repeat lk
 refine wpAny_run (h:=T2) (c:=.call (.builtin "getset_descriptor.__get__") ⟨[.builtin "object.__class__",.ref x,.ref C],[]⟩) ?_;refine zY KF.slot_gs.plain KF.entry_gs<|KF.slot_gs.check _ _ _ _ _ _ _ _ (show dF _ (.builtin "object.__class__") "getset_descriptor" from KF.type_class) (KF.args_gs _ _ _) ?_;unfold bc.«getset_descriptor.__get__» descrGet;rw[dga_obj];refine iP<|je ?_;unfold descrGetter descrCheckInstance descrNameAndClass ss;simp only[KF.owner_class]
 repeat lk
 refine⟨G6 _ (by decide+kernel),qp KF.entry_class ?_⟩;unfold bc.«object.__class__» shownTypeOf
 repeat lk
 exact k
end
section
variable {X:Cx}{f:jK}{h g:St}{H:Hp}{s:iT}{a:iO}{o:e6}{j:jn}
def Inv.Na(U:Inv X f h H s)(L:H a=J)(B:X.s₀.heap.get? a=J)(r:s.heap.get? a=Y o)(T:∀v,o.data≠ .cell v)(E:a≠X.env.locals)(O:∀p∈X.pn++f,p.1≠a):Inv X f h (upd H a<|.Bq o<|.own 0) s:=by
 have up:∀b u,H b=Y u->upd H a (.Bq o<|.own 0) b=Y u:=λb u e=>by rw[jx<|lI e L];exact e
 refine⟨U.ok,U.os,U.bare,⟨U.base.keep,U.base.slot,λb k e n i=>?_,U.base.there,λb y e=>up _ _ (U.base.tups b y e),λb k u e=>up _ _ (U.base.frzs b k u e),λb Q e=>?_⟩,U.loc,U.cell,?_,λx c i=>?_,λp w=>?_,λb u e=>?_,U.len⟩
 .rw[jx (λz=>by subst z;rw[B]at e;cases e)];exact U.base.free b k e n i
 .obtain⟨m,d⟩:=U.base.tbls b Q e;exact⟨m,up _ _ d⟩
 .rw[jx<|pz E];exact U.free
 .rw[jx λz=>?_];exact U.freeC x c i;obtain⟨v,k,d,l⟩:=U.cell x c i;subst z;rw[r]at d;cases d;exact T v l
 .obtain⟨d,l,A⟩:=U.pin p w;exact⟨d,by rw[jx<|O p w];exact l,A⟩
 by_cases t:b=a
 .subst t;rw[ju]at e;cases e;exact⟨r,⟨o,r⟩⟩
 rw[jx t]at e;exact(U.hok b u e).BG (λ_ _ _ q=>q) (λc q=>up c _ q) (λc y q=>up c _ q) λc _ _ q=>up c _ q
def Inv.names(I:Inv X f h H s){t':Nat}(L:aE X.env.locals s.heap j)(U:(VP g)=VP h)(w:∀(i:Nat) v,g[i]?=TW (TW v)->h[i]?=TW (TW v))
  (Y:∀m,s.heap.Ns X.env.locals m->∃B,j.Ns X.env.locals B/\∀(i:Nat) x v,X.N[i]?=TW x->g[i]?=TW (TW v)->B x=m x):Inv X f g H {s with heap:=j,toks:=t'}:=by
 obtain⟨m,D,T⟩:=id I.loc;obtain⟨B,G,E⟩:=Y m D;have AE:∀b l,b≠X.env.locals->s.heap.get? b=TW l->j.get? b=TW l:=λb l n e=>(L.2 b n).trans e;have O:∀{b l},X.s₀.heap.get? b=TW l->b≠X.env.locals:=λe=>kI<|nY (ki e) I.ok.above;refine⟨I.ok,I.os,I.bare,⟨λb l e n C A=>AE b l (O e)<|I.base.keep b l e n C A,λb l e n C A=>?_,I.base.free,λb l e A=>?_,I.base.tups,I.base.frzs,I.base.tbls⟩,⟨B,G,λi x v t Q J=>?_⟩,λx c e=>?_,I.free,I.freeC,λp F=>?_,λb u e=>?_,U.trans I.len⟩
 .obtain⟨R,t⟩:=I.base.slot b l e n C A;exact⟨R,AE b _ (O e) t⟩
 .obtain⟨P,t⟩:=I.base.there b l e A;exact⟨P,AE b _ (O e) t⟩
 .obtain⟨u,r,q⟩:=T i x v t (w i v Q) J;refine⟨u,r,?_⟩;rcases q with⟨k,z⟩|⟨k,c,z,y⟩
  .exact .inl ⟨k,(E i x v t Q).trans z⟩
  exact .inr ⟨k,c,z,y.sameBut L<|I.LG x c z⟩
 .obtain⟨v,z⟩:=I.cell x c e;exact⟨v,z.sameBut L<|I.LG x c e⟩
 .obtain⟨e,n,ne,K,d⟩:=I.pin p F;exact⟨AE _ _ ne e,n,ne,K,d⟩
 refine(I.hok b u e).BG (λc v M q=>AE c v (λz=>?_) q) (λ_ q=>q) λ_ _ q=>q;subst z;rcases M with z|z
 .subst z;rw[I.free]at e;cases e
 rw[I.free]at z;cases z
def Cx.mark(X:Cx)(e:iX)(E:jG):Cx:={X with A:=X.A.mark<|Y e,calm:=C,xe:=E}
def Inv.mark(U:Inv X f h H s)(e:iX)(E:jG):Inv (X.mark e E) f h H s:=
 ⟨⟨U.ok.mod,U.ok.kind,U.ok.glob,U.ok.blt,U.ok.above,U.ok.inj,U.ok.has,U.ok.cab,(λz=>by cases z),U.ok.frames,U.ok.stk,U.ok.exf,U.ok.bs,U.ok.bsz,U.ok.noex,U.ok.exfs,U.ok.Ew,U.ok.frf⟩,U.os,U.bare,U.base,U.loc,U.cell,U.free,U.freeC,U.pin,U.hok,U.len⟩
def Inv.unmark{e:iX}{E:jG}(U:Inv (X.mark e E) f h H s)(hd:X.calm=I->X.A.handled=J):Inv X f h H s:=
 ⟨⟨U.ok.mod,U.ok.kind,U.ok.glob,U.ok.blt,U.ok.above,U.ok.inj,U.ok.has,U.ok.cab,hd,U.ok.frames,U.ok.stk,U.ok.exf,U.ok.bs,U.ok.bsz,U.ok.noex,U.ok.exfs,U.ok.Ew,U.ok.frf⟩,U.os,U.bare,U.base,U.loc,U.cell,U.free,U.freeC,U.pin,U.hok,U.len⟩
end
def AA.there{P:jq}{w:jk}{T:Hp}{h:jn}{a:iO}{o:HO}(x:AA P w T h a o):∃c,h.get? a=Y c:=by
 cases o with
 |lst d=>obtain⟨_,_,_,_,e⟩:=x;exact⟨_,e⟩
 |tup d=>obtain⟨_,_,_,c,e,_⟩:=x;exact⟨_,e⟩
 |dK b=>obtain⟨_,_,_,_,o,_,_,e,_⟩:=x;exact⟨_,e⟩
 |dT b=>obtain⟨_,_,_,_,o,_,_,e,_⟩:=x;exact⟨_,e⟩
 |set S n=>obtain⟨o,_,_,_,e,_⟩:=x;exact⟨_,e⟩
 |AD k=>obtain⟨_,_,_,e,_⟩:=x;exact⟨_,e⟩
 |ins U g fs=>obtain⟨_,_,_,e,_⟩:=x;exact⟨_,e⟩
 |own y=>exact x
 |xd fs=>obtain⟨_,⟨_,_,_,e,_⟩,_⟩:=x;exact⟨_,e⟩
 |rng lo i=>obtain⟨_,_,_,e⟩:=x;exact⟨_,e⟩
 |Bq c u=>exact⟨_,x.1⟩
 |tbl j=>obtain⟨_,_,_,_,e,_⟩:=x;exact⟨_,e⟩
 |met f y=>exact⟨_,x⟩
 |ext l=>exact x.2.1
section
variable {X:Cx}{c:jK}{g:St}{H d:Hp}{s s':iT}{C a:iO}{n B h':jn}{F:kW}{r:iX}
def Mc.inv(U:Inv X c g H s)(f:Mc X.prog X.w X.stack H s C d a s' n B F)(h:B.StaysIn h')(j:n.UpToSlots h'):Inv X c g d {s' with heap:=h'}:=by obtain⟨un,e⟩:=f.end U.OA h j;exact U.Ld (s':={s' with heap:=h'}) f.os un e f.bare λb i=>absurd i (by simp)
def Mc.fresh(U:Inv X c g H s)(hex:X.ex=[])(f:Mc X.prog X.w X.stack H s C d a s' n B F):d a=J/\X.s₀.heap.get? a=J/\s.heap.get? a=J:=by
 have h:s.heap.get? a=J:=by
  cases e:s.heap.get? a with
  |none=>rfl
  |some o=>obtain⟨i,b⟩:=f.un.there a o e (by simp);rw[f.ne]at b;cases b
 refine⟨?_,?_,h⟩
 .cases e:d a with
  |none=>rfl
  |some o=>obtain⟨j,z⟩:=(f.hok a o e).there;rw[f.ne]at z;cases z
 cases e:X.s₀.heap.get? a with
 |none=>rfl
 |some o=>obtain⟨i,b⟩:=U.base.there a o e (by rw[hex];simp);rw[h]at b;cases b
def abR{E:XK}{e:iX}{xr xx t:av}{CR:iO}{i j:Nat}{D:Ends}{p4 p5 p6 p7 p8:bn}(l6:X.stack=X.env::X.outer)(eE:X.env.frame=Y X.env.locals)(hex:X.ex=[])(I:Inv X c g H s)(h:Ih X.prog X.w X.stack H s E e s')
  (hg:Gl X xr)(hm:X.mg xr=Y (.ref CR))(j4:(xr==("__debug__":av))=UF)(da:∀C d,E (.ref C) T2 d->exmOne X.K (.ref C) (.ref CR)=Y Uf)
  (hN:X.N.Nodup)(hi:X.N[i]?=Y xx)(hj:X.N[j]?=Y t)(l7:i≠j)(lx:X.env.scope.names.lookup xx=Y .local)(ln:X.env.scope.names.lookup t=Y .local)(hG:(t==("__debug__":av))=UF)(eG:(t==("__classdict__":av))=UF)
  (bD:bT (.Name t p6) (Y<|.Name xx p5) p7.line X.env=pure UF)
  (k:∀C d a o,E (.ref C) T2 d->d a=T2->o.cls=.ref C->D.nx ((g.set j T2).set i<|Y<|.ref a) (upd d a<|.Bq o<|.own 0)):
  ah (ai X.prog X.w) X.A (iF e X.env) (λ_ U=>ah (ai X.prog X.w) X.A (setFlight e T2) (λ_ Y'=>ah (ai X.prog X.w) X.A (handleBy e X.env [.ExceptHandler (Y<|.Name xr p4) (Y t) [.Assign [.Name xx p5] (.Name t p6) p7] p8]) (SP X c D) X.xe Y') X.xe U) X.xe s':=by
 obtain⟨C,d,a,n,B,F,rfl,f,q⟩:=h;obtain⟨r,V⟩:=f.fl;obtain⟨n1,n2,n3⟩:=f.fresh I hex;rw[l6]at V;have fJ:i<(VP g):=by rw[I.len];exact(uI.mp hi).1
 have gK:j<(VP g):=by rw[I.len];exact(uI.mp hj).1
 have bO:(X.env.scope.kind== .class||(X.env.scope.kind== .module&&X.env.locals !=X.env.globals))=UF:=by rw[I.ok.kind];rfl
 refine wpAny_looks_onW (I.ok.frames.trans<|by rw[l6]) eE V λh2 J ba=>?_;refine wpAny_landsW J λh3 iB dQ=>?_;have I3:Inv X c g d {s' with heap:=h3}:=f.inv I iB.1<|f.up.trans<|ba.trans dQ;obtain⟨ob3,he3,hc3⟩:=iB.there;refine wpAny_handleBy_cons (codeAny_handlers_test ?_) (by intro q;cases q);refine wC (X:=X.mark (.ref a) λ_ _=>False) (I3.mark _ _) hg hm ?_ j4;refine(exm_one (M:=ai X.prog X.w) I3.FU (hc3▸(Looks.ld he3).andThen .now)<|da C d q).here ?_;refine codeAny_handlers_suite_as ?_;obtain⟨g1,g2,g3,g4⟩:=id iB;refine wpAny_setFlight_noneW g1 g3 g4 λh4 k1 k2 k3 k4=>?_;have up4:h3.UpToSlots h4:=λb o hb W=>⟨o.slots,k4 b o hb W⟩
 have I4:Inv X c g d {s' with heap:=h4}:=f.inv I k1<|f.up.trans<|ba.trans<|dQ.trans up4;obtain⟨oe,vs,T,oT,ts,he,⟨y,_⟩,hd,_⟩:=id k3
 have I5:Inv X c g (upd d a<|.Bq oe<|.own 0) {s' with heap:=h4}:=by
  refine I4.Na n1 n2 he (λv z=>by rw[hd]at z;cases z) (λz=>?_) λp hp z=>?_
  .have:=I.lt;obtain⟨m,⟨o,_,_,ho,_⟩,_⟩:=id I.loc;rw[<-z,n3]at ho;cases ho
  obtain⟨S,_⟩:=I.pin p hp;rw[z,n3]at S;cases S
 refine Al I5 hN hj (.inl ln) (v:=.ref a) UV (λs6 I6=>?_)<|.inr ln;have ps:=λE0:iX->Shared->Prop=>tL (X:=X.mark (.ref a) E0) (N4 (X:=X.mark (.ref a) E0) hN hi (.inl lx) (Ax (X:=X.mark (.ref a) E0) hj (.inl ln) hG eG) bD<|.inr lx)<|Jv (X:=X.mark (.ref a) E0);refine Ak (ps _ c s6 _ _ {nx:=λP H7=>P=(g.set j<|Y<|.ref a).set i (Y<|.ref a)/\H7=upd d a (.Bq oe<|.own 0),rt:=λ_ _=>False} (I6.mark (.ref a) _) ⟨.ref a,by rw[oB gK],rfl,rfl⟩) λV s7 Z=>?_
 cases V with
 |ret u=>obtain⟨_,_,_,_,_,z⟩:=Z;exact z.elim
 |brk=>obtain⟨_,_,_,z⟩:=Z;exact z.elim
 |cont=>obtain⟨_,_,_,z⟩:=Z;exact z.elim
 |next=>
  obtain⟨P,H7,R,rfl,rfl⟩:=Z;have R:=R.unmark I.ok.hd;obtain⟨m,W,_⟩:=id R.loc;refine iP<|wpAny_bindName<|M5 ln W (λh₁ L Q=>?_) bO;unfold unbindBehindTheSuite;refine zW ?_;unfold unbindName;refine iP<|G5<|iP ?_;unfold deleteName;have ln':X.env.kindOf t=Y .local:=ln;simp only[ln',bO];rw[jy<|by decide];refine iP<|wpAny_nsDel_keeps L λh₂ v₂ O G=>?_;simp;refine je<|G5 ⟨(g.set j T2).set i<|Y<|.ref a,_,R.names (Q.trans G) (by simp) (λl v z=>?_) λm0 bL=>?_,k C d a oe q n1 y⟩
  .by_cases hl:l=i
   .subst hl;rw[oB<|by simpa using fJ]at z ⊢;exact z
   rw[oP<|pz hl]at z ⊢;by_cases w5:l=j
   .subst w5;rw[oB gK]at z;cases z
   rw[oP<|pz w5]at z ⊢;exact z
  refine⟨_,O,λl x v S e2=>?_⟩
  have hx:x≠t:=λz=>by subst z;have:=AF hN S hj;subst this;rw[oP l7,oB gK]at e2;cases e2
  simp only[hx];obtain⟨o1,bu,ep1,z1,z2,_,z3⟩:=id W;obtain⟨o2,es2,ep2,y1,y2,_,y3⟩:=id bL;rw[z1]at y1;cases y1;rw[z2]at y2;cases y2;exact(z3 x).symm.trans (y3 x)
end
end L2
namespace PX
open L2 PySem.SeqAt PySem.W
abbrev XS:=Dn->Option av
inductive tZ(K:jr)(mg:lJ)(E:XK)(x:XS)(σ:L2.St)(H:Hp):Prop where
 |mk (δ:Dn) (T:AB) (c:av) (_:ER K H T σ δ) (_:∀a,¬X0 σ δ a) (_:x δ=TW c) (_:∀H' C,(∀a o,H a=TW o->H' a=TW o)->mg c=TW (.ref C)->E (.ref C) T2 H')
def PZ(X:Cx)(E:XK)(st:bh)(x:XS):Prop:=PS X st λ_=>tZ X.K X.mg E x
def Li(X:Cx)(E:XK)(st:List bh)(x:XS):Prop:=Hw X st λ_=>tZ X.K X.mg E x
def Lz(X:Cx)(E:XK)(e:iW)(x:XS):Prop:=PE X e λa U _=>tZ X.K X.mg E x a U
inductive tZo(K:jr)(mg:lJ)(E:XK)(x:XS)(σ:L2.St)(H:Hp):Prop where
 |mk (δ:Dn) (T:AB) (c:av) (_:ER K H T σ δ) (_:x δ=TW c) (_:∀H' C,(∀a o,H a=TW o->¬X0 σ δ a->H' a=TW o)->(∀a,H a≠T2->H' a≠T2)->mg c=TW (.ref C)->E (.ref C) T2 H')
def PZo(X:Cx)(E:XK)(e:iW)(x:XS):Prop:=PE X e λa U _=>tZo X.K X.mg E x a U
def Nh(K:jr)(f:lJ)(h:List D->Option av):Sp:=λg Q _ E=>∃T e c,ER K Q T (g.map Y) ((e.map λd=>(d,C)).map Y)/\h e=Y c/\∀U b,(∀a o,Q a=Y o->b a=Y o)->f c=Y (.ref U)->E (.ref U) J b
def LM(n np:Nat)(x:XS):List D->Option Str:=λa=>if (VP a)=np/\np<=n then x (((a.map λd=>(d,C)).map Y)++ag (n-np) J)else J
def qa(b:List D->Option av)(fs:List FO):XS:=λc=>(kY fs c).bind λp=>(kn p.2 p.1).bind λargs=>if(args.all λa=>!a.2)=I then b (args.map (·.1))else J
def Hu(c:av)(f:F):XS:=λa=>(f a).bind λ_=>Y c
def S6(a:Dn):Bool:=a.all λx=>match x with
 |some (_,I)=>C
 |_=>I
def NU(t:FT)(x y:XS):XS:=λa=>(t a).bind λp=>if S6 p.2=I then(if p.1=I then x p.2 else y p.2)else J
def zNo:XS:=λ_=>J
def J8{b:Dn}(h:S6 b=I)(c:L2.St)(a:iO): ¬X0 c b a:=λU=>by
 obtain⟨i,d,h1,_⟩:=U
 have:=mC.mp h _ (mZ h1);simp at this
def J9{b:List (D×Bool)}(h:(b.all λa=>!a.2)=I):∀a∈b,a=(a.1,C):=λa c=>by
 have:=mC.mp h a c;obtain⟨d,f⟩:=a
 cases f
 .rfl
 cases this
theorem A4:∀(os:List BU)(as:List (D×Bool)),(∀a∈as,a=(a.1,C))->jF os as=[]
 |[],as,_=>by cases as<;>simp[jF]
 |o::os,[],_=>by simp[jF]
 |o::os,a::as,h=>by have b:=h a kx;obtain⟨d,f⟩:=a;cases b;cases o<;>simp[jF,A4 os as λa c=>h a<|kE _ c]
section
variable {X:Cx}{P:jq}{w:jk}{i:List dG}{O:Hp}{s0:iT}{E:XK}{A:kB}{st:bh}{L a b:List bh}{x y:XS}{e:iW}{g:bn}
def aax:Li X E L zNo:=λc s d T D U h=>by obtain⟨_,_,_,_,_,e,_⟩:=h;cases e
def V6:Hw X L λ_ _ _=>False:=λ_ _ _ _ _ _ h=>h.elim
def UN(h:PZ X E st x):Li X E (st::L) x:=Hw.imp' (tL h V6) λ_ _ _ h=>h
def QV{z:av}{N:iO}{a:iW}{f:F}{np n:bn}(U:Gm X P w i O s0 E)(t:X.calm=I)(p:excIn X.K N OV "ValueError.__new__"=I)(j:X.mg z=Y (.ref N))(u:Gl X z)(s:PX X a f)(hd:(z==("__debug__":av))=C)
  (B:ae [a] X.env=[(C,aX a X.env)]):PZ X E (.Raise (Y<|.Call (.Name z np) [a] [] n) J g) (Hu z f):=PS.imp' (afC U t p j u s hd B) λD G M h=>by
 obtain⟨Q,T,c,E0,no,e,k⟩:=h;obtain⟨r,d,h1,e⟩:=iY e;cases e;exact⟨Q,T,r,d,E0,h1,λv l m=>k l N (λa o q=>m.1.kp a o q<|no a) j⟩
def aay{c:iW}{f:FT}(u:Ov X c f)(r:Li X E a x)(s:Li X E b y):PZ X E (.If c a b g) (NU f x y):=PS.imp' (Uk u r s) λD j M h=>by
 obtain⟨Q,T,c,E0,no,e,k⟩:=h;obtain⟨t,d,h1,e⟩:=iY e;dsimp only at e;split at e
 case isFalse=>cases e
 rename_i fz;refine⟨Q,T,t,d,E0,h1,λn p l=>?_⟩;have fin:∀z:XS,z d=Y c->tZ X.K X.mg E z j n:=λz B=>⟨d,T,c,l,J8 fz j,B,λm N U v=>k m N (λa o q=>U a o<|p.kp a o q<|no a) v⟩
 cases t
 .exact WX<|fin y (by simpa using e)
 exact WW<|fin x (by simpa using e)
def UO(h:Lz X E e x)(c:bT e J g.line X.env=pure C):PZ X E (.Expr e g) x:=PS.imp' (Jw h c) λ_ _ _ h=>h
variable {k:Nat}{f:iO}{u:mD}{m:jB}{l:List D->Option av}{j:kr}{fs:List FO}{z:av}{p:bn}
def QY(xk:Gm X P w i O s0 E)(F:D9 X.prog X.w X.K X.mg X.base (Ih P w) k f u m (Nh X.K X.mg l))(hr:BH k X.A)(hg:Gl X z)(hm:X.mg z=TW (.ref f))(hk:bP X.K (.ref f)=Uf)(hb:Binds X.K u m [])
  (t:PA X (e::j) (tA X.K fs))(j4:(z==("__debug__":av))=UF)(he:ae (e::j) X.env=(UF,aX e X.env)::ae j X.env)(Y:(aI g<|ae j X.env).any (·.1)=UF):
  PZo X E (.Call (.Name z p) (e::j) [] g) (qa l fs):=PE.imp' (JB F hr hg hm hk hb (.nil) xk.pass t j4 he Y) λσ H Q h=>by
 obtain⟨Z,T,c,E0,e,S⟩:=h;obtain⟨os,v,h1,e⟩:=iY e;obtain⟨r,J,e⟩:=iR e;dsimp only at e J;split at e
 case isFalse=>cases e
 rename_i D;refine⟨Z,T,os,v,E0,h1,λV G T1 B=>?_⟩;show Nh X.K X.mg l (V++[]) G Q E;rw[xQ];have M:=J9 D
 have s:r=(r.map (·.1)).map λd=>(d,UF):=by
  rw[ll]
  conv=>lhs;rw[<-rX r]
  exact qm λa t=>M a t
 have I:=zG E0 B J (by rw[A4 os r M];exact rY);rw[s]at I
 exact⟨_,r.map (·.1),c,I,e,λC U N R=>S U C (λa o q n=>N a o<|B.keep.kp a o q n) (λa q=>by
  cases h:G a with
  |none=>exact absurd h<|B.keep.dm a q
  |some o=>rw[N a o h];simp) R⟩
def UP(N:Gm X P w i O s0 E)(F:D9 X.prog X.w X.K X.mg X.base (Ih P w) k f u m (Nh X.K X.mg l))(I:BH k X.A)(B:Gl X z)(d:X.mg z=TW (.ref f))(hk:bP X.K (.ref f)=Uf)(t:Binds X.K u m [])
  (s:PA X (e::j) (tA X.K fs))(G:(z==("__debug__":av))=UF)(v:ae (e::j) X.env=(UF,aX e X.env)::ae j X.env)(r:(aI g<|ae j X.env).any (·.1)=UF):
  Lz X E (.Call (.Name z p) (e::j) [] g) (qa l fs):=PE.imp' (QY N F I B d hk t s G v r) λY H Q h=>by
 obtain⟨U,T,c,E0,no,e,J⟩:=h;exact⟨U,T,c,E0,e,λn C M _ d=>J n C (λa o q=>M a o q<|no a) d⟩
end
def SY{P:jq}{w:jk}{K:jr}{j:lJ}{base:jn}{x qual:av}{st:bh}{f:iO}{n:mD}{N b:jB}{k:Nat}{t:XS}(F:K0 K x qual st f n)(S:AY N b (jb st))
  (G:∀(i:iX)(A:jm)(a:List dG)(s:iT)(H:Hp)(E:XK),BH k (A.deeper<|aY qual (jb st) s.heap.objs.size f i)->Li (rQ (Ih P w) P w K j base N qual (jb st) f i A a s H E) E (mm st) t):
  D9 P w K j base (Ih P w) (k+1) f n b (Nh K j<|LM (VP N) (VP b) t):=by
 obtain⟨M,U,kV,v,D,an,i,ct,Y,e,lk,J⟩:=F.ex;subst e;refine PK lk J S (λr H Q E h=>?_) λA a s H r Q E I h=>?_
 .obtain⟨T,l,c,E0,e,_⟩:=h;unfold LM at e;split at e
  case isFalse=>cases e
  rename_i q;have:=E0.len;simp at this;rw[this,q.1]
 obtain⟨T,l,c,E0,e,L⟩:=h;unfold LM at e;split at e
 case isFalse=>cases e
 rename_i q;have o:=E0.len;simp at o;refine⟨_,G i A a s H E I,((l.map λd=>(d,UF)).map TW)++ag (VP N-VP b) T2,T,c,?_,?_,e,λu C O y=>L C u O y⟩
 .have:=E0.pad (m:=VP N-VP b);unfold L2.oR;rw[show (VP r)=(VP b) by rw[o,q.1]];exact this
 refine J8 ?_ _;unfold S6;rw[mC];intro z g;rcases rq.mp g with g|g
 .obtain⟨p,B,rfl⟩:=ji g;obtain⟨d,_,rfl⟩:=ji B;rfl
 rw[(List.mem_replicate.mp g).2]
end PX
namespace L2
open PySem.W
section
variable {fs:kW}{N:jB}{scope:jS}{d:lb}{j:St}{H g:Hp}{h h':jn}{q:av}{a:bA}{b:iW}{f:iO}
def D5.keep(U:D5 N scope d j H h)(u:Un fs [] H g h h')(n:∀x c,d.lookup x=Y c->c∉fs):D5 N scope d j g h':=by
 have p:∀{x c v},d.lookup x=Y c->h.IsCell c v->h'.IsCell c v:=λ{x c v} e z=>by obtain⟨o,k,l⟩:=z;exact⟨o,u.keep c o k (U.cell x c e).2 (n x c e)<|by simp,l⟩
 refine⟨U.inj,U.has,λx c e=>?_,λi x v h1 s=>?_,U.len⟩
 .obtain⟨⟨v,o,k,l⟩,y⟩:=U.cell x c e;exact⟨⟨v,p e ⟨o,k,l⟩⟩,u.free c o k y<|by simp⟩
 obtain⟨t,c,w,m,A,r⟩:=U.val i x v h1 s;exact⟨t,c,w,m,p m A,r⟩
def IE.keep(L:IE q a b scope d H h f)(u:Un fs [] H g h h')(n:f∉fs):IE q a b scope d g h' f:=by obtain⟨m,c,k,e,l,w,o,t,h1,i⟩:=L.fn;exact⟨⟨m,c,k,u.keep f _ e L.un n (by simp),l,w,o,t,u.frzs _ _ _ h1,i⟩,u.free f _ e L.un (by simp)⟩
end
section
variable {X:Cx}{N:jB}{scope:jS}{b6:lb}{σl:St}{q:av}{params:bA}{body:iW}{fl:iO}{k:Nat}{t:XK->TE}
structure Lm(X:Cx)(N:jB)(scope:jS)(b6:lb)(σl:St)(q:av)(params:bA)(body:iW)(fl:iO)(k:Nat)(t:XK->TE):Prop where
 sc:EK scope
 cel:D5 N scope b6 σl X.H₀ X.s₀.heap
 lam:IE q params body scope b6 X.H₀ X.s₀.heap fl
 nfl:fl∉X.fs
 ncl:∀x c,b6.lookup x=TW c->c∉X.fs
 bnd:∀pm c' m6,fe (kla_fn "<lambda>" q params body scope b6 pm (.ref c') m6) ⟨[],[]⟩=pure []
 run:∀(E:XK)(c':iO)(s:iT)(H:Hp),BH k (X.A.deeper<|Bi q scope s.heap.objs.size fl (.ref c') b6)->PE (ue (Ih X.prog X.w) X.prog X.w X.K X.mg X.base N q scope fl (.ref c') b6 X.A X.stack s H E) body (t E)
def V7{g y B b:av}{CR:iO}{l i j:Nat}{M U Y p4 p5 p6 p7 p8 p9:bn}(L:Lm X N scope b6 σl q params body fl k t)(l6:X.stack=X.env::X.outer)(eE:X.env.frame=TW X.env.locals)(hex:X.ex=[])(hr:BH (k+1) X.A)
  (hc:X.N[l]?=TW g)(vc:NG X.env.scope g)(dN:(g==("__debug__":av))=C)(fM:(g==("__classdict__":av))=C)
  (T:bT (.Call (.Name g M) [] [] U) T2 Y.line X.env=pure C)
  (hg:Gl X y)(hm:X.mg y=TW (.ref CR))(j4:(y==("__debug__":av))=C)
  (hN:X.N.Nodup)(hi:X.N[i]?=TW B)(hj:X.N[j]?=TW b)(l7:i≠j)(lx:X.env.scope.names.lookup B=TW .local)(ln:X.env.scope.names.lookup b=TW .local)(hG:(b==("__debug__":av))=C)(eG:(b==("__classdict__":av))=C)
  (bD:bT (.Name b p6) (TW<|.Name B p5) p7.line X.env=pure C):
  PS X (.Try [.Expr (.Call (.Name g M) [] [] U) Y] [.ExceptHandler (TW<|.Name y p4) (TW b) [.Assign [.Name B p5] (.Name b p6) p7] p8] [] [] p9)
   (λD c H'=>c[l]?=TW (TW<|.ref fl)/\∃E:XK,t E σl H' (λ_ a=>D.nx c a)/\(∀C' a,E (.ref C') T2 a->exmOne X.K (.ref C') (.ref CR)=TW Uf)/\
    ∀C' a O o,E (.ref C') T2 a->a O=T2->o.cls=.ref C'->D.nx ((c.set j T2).set i<|TW<|.ref O) (upd a O<|.Bq o<|.own 0)):=by
 intro p s c H' D I h;obtain⟨W,E,ht,S,hk⟩:=h;have un:Un X.fs [] X.H₀ H' X.s₀.heap s.heap:=by have:=I.base;rwa [hex]at this
 have C1:=L.cel.keep un L.ncl;have L1:=L.lam.keep un L.nfl;refine wpAny_Try_except ?_;refine u8<|B4 ?_ I.quiet T;refine tE ?_;refine nX (Ax (X:=X.Iy) hc vc dN fM p s c H' (λv a=>v=.ref fl/\a=H') (I.HK _) ⟨.ref fl,W,rfl,rfl⟩) (λf s1 Z=>?_) λ_ _ z=>aT z;obtain⟨v,G,d,rv,rfl,rfl⟩:=Z;cases rv;have d:=d.EB;have x:Un X.fs [] X.H₀ G X.s₀.heap s1.heap:=by have:=d.base;rwa [hex]at this
 have F:=L.cel.keep x L.ncl;have m:=L.lam.keep x L.nfl;obtain⟨pm,J,m6,e,_⟩:=id m.fn;refine callWith_F0 ⟨_,_,_,_,e⟩<|xP<|sf (SA (CX:=Ih X.prog X.w) (E:=E) (t:=t E) (Q:=λ_ a=>D.nx c a) L.sc hr d.Lx F m L.bnd (λJ V=>L.run E J s1 G V) ht) λr s2 n=>?_
 cases r with
 |error e=>exact abR l6 eE hex d n hg hm j4 S hN hi hj l7 lx ln hG eG bD hk
 |ok f=>
  cases f with
  |next=>exact aT n
  |brk=>exact aT n
  |cont=>exact aT n
  |ret u=>obtain⟨v,P,R,_,qq⟩:=d.after n;exact Ae<|Ae ⟨c,P,R,qq⟩
end
end L2
namespace PX
open L2 PySem.SeqAt PySem.W
def sim:D->Bool
 |.V0|.bl _|.int _|.str _=>I
 |_=>C
def Jh{K c:Frag}{U a:Hp}{O e:AB}{d:D}{v:V}(h:sim d=I)(r:Rep K U O d v):Rep c a e d v:=by
 cases d with
 |V0=>rw[Rep]at r ⊢;exact r
 |bl b=>rw[Rep]at r ⊢;exact r
 |int b=>rw[Rep]at r ⊢;exact r
 |str b=>rw[Rep]at r ⊢;exact r
 |_=>cases h
def yz(n i:Nat)(fs:FS)(d:D):Option D:=match fs ((ag n J).set i<|Y (d,C))with
 |some (.rt (r,C) _)=>if sim r=I then Y r else J
 |_=>J
def A9(b:jX)(f:F)(x:XS)(n i:Nat)(fs:FS)(g:av->Option Nat):F:=λe=>(kn e<|b.map .slot).bind λargs=>if(args.all λa=>!a.2)=I then
  (match f (args.map Y)with
   |some _=>yz n i fs .V0
   |none=>(x<|args.map Y).bind λc=>(g c).bind λU=>yz n i fs<|.AE (.exc U) [] []).bind λd=>Y ((d,C),e)
 else J
def zy{n i:Nat}{d:D}(c:L2.St)(a:iO): ¬X0 c ((ag n J).set i<|Y (d,C)) a:=λU=>by
 obtain⟨j,e,h1,_⟩:=U
 by_cases b:j=i
 .subst b;rw[Ab]at h1;split at h1
  .split at h1<;>simp at h1
  rename_i z;exact z H
 rw[oP<|pz b,wa]at h1;split at h1<;>cases h1
def Xl{K:Frag}{U:Hp}{f:L2.St}{n i:Nat}{d:D}{v:V}(o:(VP f)=n)(k:f[i]?=Y (Y v))(r:Rep K U (λ_=>False) d v):ER K U (λ_=>False) f ((ag n J).set i<|Y (d,C)):=by
 have c:∀{j:Nat}{e:D}{b:Bool},((ag n J).set i<|Y (d,C))[j]?=Y (Y (e,b))->j=i/\e=d/\b=C:=λ{j e b} h=>by
  by_cases m:j=i
  .subst m;rw[oB<|by rw[MY,<-o];exact(uI.mp k).1]at h;cases h;exact⟨rfl,rfl,rfl⟩
  rw[oP<|pz m,wa]at h;split at h<;>cases h
 refine⟨by simp[o],λj e h=>?_,λj e h=>?_,λj l e g a h=>?_,λa z=>absurd z<|zy f a,λ_ z=>z.elim⟩
 .obtain⟨rfl,rfl,_⟩:=c h;exact⟨v,k,Rep.mono (λ_ _ e _=>e) (λb _ z=>z.elim (zy f b) id) r⟩
 .obtain⟨_,_,z⟩:=c h;cases z
 obtain⟨_,_,z⟩:=c h;cases z
structure ClK(K:Frag)(C CR:iO):Prop where
 k:Md K C
 ty:∀n∈["int","bool","str","tuple","list","dict"],kitOne K (.ref C) (.type n)=TW UF
 up:exmOne K (.ref C) (.ref CR)=TW Uf
def W9{b:List (D×Bool)}(h:∀a∈b,a=(a.1,C))(f:L2.St)(a:iO): ¬X0 f (b.map Y) a:=λU=>by
 obtain⟨i,d,h1,_⟩:=U
 rw[kX]at h1;obtain⟨p,c,e⟩:=jM h1;cases e;have:=h _ (mZ c);simp at this
section
variable {X:Cx}
def PE.or{e:iW}{t u:TE}(h1:PE X e t)(c:PE X e u):PE X e λb T Q=>t b T Q\/u b T Q:=λa s b T Q U h=>h.elim (h1 a s b T Q U)<|c a s b T Q U
def Qg{T:AB}{g:L2.St}{l:Dn}{U:Hp}{d:jX}{f:List (D×Bool)}{K:Frag}(m:ER K U T g l)(r:kn l (d.map .slot)=Y f):
  ∃vs:List V,yU d 0 g=vs.map Y/\Ops K T g l U (d.map BU.slot) vs l U T:=by
 obtain⟨u,s⟩:=pR r
 have there:∀(i j:Nat),d[i]?=Y j->∃v,g[j]?=Y (Y v):=λi j e=>by
  have t:i<(VP f):=by have:=(uI.mp e).1;simp at u;lia
  obtain⟨o,q,k⟩:=s i _ (lq t);rw[kX,e]at q;cases q;have n:=qX k;generalize f[i]=y at n;obtain⟨x,b⟩:=y
  cases b
  .obtain⟨v,h,_⟩:=m.val j x n;exact⟨v,h⟩
  obtain⟨a,h,_⟩:=m.own j x n;exact⟨_,h⟩
 refine⟨d.map λj=>((g[j]?).join).getD .V0,?_,by simp,.refl,m,λ_ z=>z,λj x v e=>?_,λj x v e=>?_,λj i v e hv=>?_⟩
 .unfold yU;rw[ip,xQ];apply xy;intro i;rw[kX,kX,kX]
  cases e:d[i]? with
  |none=>rfl
  |some j=>obtain⟨v,hv⟩:=there i j e;simp[hv]
 .rw[kX]at e;obtain⟨_,_,z⟩:=jM e;cases z
 .rw[kX]at e;obtain⟨_,_,z⟩:=jM e;cases z
 rw[kX]at e;obtain⟨c,p,z⟩:=jM e;cases z;obtain⟨w,k⟩:=there j i p;rw[kX,p]at hv;simp[k]at hv;rw[k,hv]
end
section
variable {X:Cx}{Pt c:iO}{params:bA}{body:iW}{scope:jS}{pos t5 pf:bn}{caps:jX}{N' NR:jB}{fB:F}{xB:XS}{y6:FS}{CI:av->Option Nat}{asg:jX}{st:bh}{fr:iO}{cx:mD}{xf xc xr xx xn:av}{CR:iO}{i j k:Nat}
structure KJ(X:Cx)(st:bh)(NR:jB)(fr:iO)(xf xc xr xx xn:av)(CR:iO)(i j k:Nat)(asg:jX)(y6:FS):Prop where
 sc:AY NR [xc] (jb st)
 as0:0∉asg
 hi:NR[i]?=TW xx
 hj:NR[j]?=TW xn
 ij:i≠j
 j0:j≠0
 lc:(jb st).names.lookup xc=TW .local
 lx:(jb st).names.lookup xx=TW .local
 ln:(jb st).names.lookup xn=TW .local
 gl:(jb st).names.lookup xr=TW .globalImplicit
 mg:X.mg xr=TW (.ref CR)
 db:(xc==("__debug__":av))=UF/\(xc==("__classdict__":av))=UF/\(xn==("__debug__":av))=UF/\(xn==("__classdict__":av))=UF/\(xr==("__debug__":av))=UF
 body:∃p1 p2 p3 p4 p5 p6 p7 p8 p9 S1 rest,mm st=S1:: .Try [.Expr (.Call (.Name xc p1) [] [] p2) p3] [.ExceptHandler (TW<|.Name xr p4) (TW xn) [.Assign [.Name xx p5] (.Name xn p6) p7] p8] [] [] p9::rest/\
  ∀(b7:iX)(A:jm)(outer:List dG)(s:iT)(H:Hp)(L:LL),(∀i,L.p i->i<1)->BH k (A.deeper<|aY xf (jb st) s.heap.objs.size fr b7)->
   bT (.Call (.Name xc p1) [] [] p2) T2 p3.line (aY xf (jb st) s.heap.objs.size fr b7)=pure UF/\bT (.Name xn p6) (TW<|.Name xx p5) p7.line (aY xf (jb st) s.heap.objs.size fr b7)=pure UF/\
   NJ (rQ HJ X.prog X.w X.K X.mg X.base NR xf (jb st) fr b7 A outer s H L2.E0).Iy (λi=>i∈asg) L H S1 (kQ i<|fC .V0)/\IJ (rQ HJ X.prog X.w X.K X.mg X.base NR xf (jb st) fr b7 A outer s H L2.E0).Iy (λi=>i∈asg) L H rest y6
def VO{more:nZ}(R:KJ X st NR fr xf xc xr xx xn CR i j (k+1) asg y6)(F:K0 X.K xf xf st fr cx)(hW:Binds X.K cx [xc] [])(gO:Gl X xf)(hmf:X.mg xf=TW (.ref fr))(dc:(xf==("__debug__":av))=UF)
  (cY:∀x,X.fn x=Uf)(hr:BH (k+2) X.A)(hTb:X.H₀ Pt=TW (.tbl (#[.str (X.env.qual++"<lambda>") 0]++more)))(n5:X.env.code=.ref c)(C:CodeHd X.base c Pt)(hB:X.base.BuiltinsAt X.mg Pt)(gP:ap≠Pt)
  (CO:EL X N' scope caps 0)(LS:EK scope)(aU:sK params X.env=([],[]))(m5:∀b6 pm J m6,fe (kla_fn "<lambda>" (X.env.qual++"<lambda>") params body scope b6 pm (.ref J) m6) ⟨[],[]⟩=pure [])
  (he:ae [.Lambda params body scope t5] X.env=(UF,aX (.Lambda params body scope t5) X.env)::ae [] X.env)(f9:(aI pos<|ae [] X.env).any (·.1)=UF)
  (iw:∀z C0,CI z=TW C0->X.mg z=TW (.ref C0)/\ClK X.K C0 CR)
  (hb:∀(B:iO)(b6:lb)(J:iO)(A:jm)(N:List dG)(s:iT)(H:Hp)(E:XK),BH k (A.deeper<|Bi (X.env.qual++"<lambda>") scope s.heap.objs.size B (.ref J) b6)->
   PX (ue (Ih X.prog X.w) X.prog X.w X.K X.mg X.base N' (X.env.qual++"<lambda>") scope B (.ref J) b6 A N s H E) body fB/\Lz (ue (Ih X.prog X.w) X.prog X.w X.K X.mg X.base N' (X.env.qual++"<lambda>") scope B (.ref J) b6 A N s H E) E body xB):
  PX X (.Call (.Name xf pf) [.Lambda params body scope t5] [] pos) (A9 caps fB xB (VP NR) i y6 CI):=by
 intro pins s g H Q I hw;obtain⟨U,T,r,δ',E1,e,kq⟩:=hw;obtain⟨t,ha,e⟩:=iR e;split at e
 case isFalse=>cases e
 rename_i hfz;have dI:=J9 hfz;obtain⟨d,hd,e⟩:=iR e;obtain⟨rfl,rfl⟩:=jw e;obtain⟨vs,gz,B0⟩:=Qg E1 ha;have nd0:=A4 (caps.map BU.slot) t dI;have Ec:=zG E1 B0 ha (by rw[nd0];exact rY);obtain⟨S,hclo,j8,k7⟩:=vM X.env scope λx hx hf=>I.ok.has x.1<|CO.free x hx hf;obtain⟨more2,hP⟩:=I.base.tbls Pt _ hTb;rw[Hr]at hP;refine tE<|wC I gO hmf ?_ dc;refine callWith_K (h₀:=X.base) I.ok.mod.kin F.kp ?_ he f9;rw[he];show ah _ _ (t9 ((UF,aX (.Lambda params body scope t5) X.env)::aI pos (ae [] X.env))) _ _ s;refine Hn<|agg I hP n5 C hB gP hclo aU λs1 Y B P up L kp fr0 new=>?_;refine Ho ⟨P.FU,?_⟩
 have nst:∀x c,S.lookup x=TW c->c∉Ex X.stack:=λx c e z=>by
  rcases nH.mp (I.HL c z)with q|q
  .exact I.LG x c (j8 x c e) q
  obtain⟨_,o,ho,_⟩:=I.ok.Ew.mem q;exact absurd (ki ho)<|M7.mpr<|I.ok.cab x c (cY x)<|j8 x c e
 have nfl:B∉Ex X.stack:=λz=>by obtain⟨_,o,ho,_⟩:=I.stack.mem z;rw[new]at ho;cases ho
 have LC:D5 N' scope S (vs.map TW) Y s1.heap:=by
  rw[<-gz];refine⟨λx y c h1 h2=>I.ok.inj x y c (j8 x c h1)<|j8 y c h2,λx hx=>k7 x<|qu hx,λx c h=>⟨P.cell x c<|j8 x c h,P.freeC x c<|j8 x c h⟩,λl x v h1 h2=>?_,CO.N0.len g⟩;obtain⟨hf,jj,hj,hv⟩:=CO.N0.pre g l v x h2 h1;refine⟨hf,?_⟩;obtain⟨m,hn,hl⟩:=P.loc;have k8:=CO.free (x,.free) (qu hf) UV;obtain⟨u,r,q⟩:=hl jj x v hj hv (by rcases k8 with z|z;exact .inr<|.inl z;exact .inr<|.inr z);rcases q with⟨eA,_⟩|⟨_,c,hc,j6⟩
  .have cb:X.env.scope.names.lookup x=TW .local:=eA;rcases k8 with z|z<;>(have z':X.env.scope.names.lookup x=_:=z;rw[cb]at z';cases z')
  obtain⟨J,cq⟩:=k7 x<|qu hf;have:=j8 x J cq;rw[hc]at this;cases this;exact⟨c,u,cq,j6,r⟩
 have noT:∀(g:L2.St)(a:iO),¬X0 g (t.map TW) a:=W9 dI;obtain⟨oc,od,kV,doc,pm,an,b7,ct,p0,rfl,lkr,hcdr⟩:=F.ex;have hbt:=hW s1 [.ref B] P.FU UV;refine Ak (xP<|sf (Uy (CX:=HJ) (E:=L2.E0) (Q:=λv p=>BF X.K T g U H (d,UF) U v p) (vs:=[.ref B]) lkr hcdr R.sc hr P.Lx hbt (.cons UV .nil) UV λdy=>?_) (R:=L2.CR HJ X.stack X.prog X.w Y s1 (λv p=>BF X.K T g U H (d,UF) U v p) L2.E0) λrr s2 hq=>?_) (Q:=EP X pins g λv p=>BF X.K T g U H (d,UF) U v p) λv s2 ⟨x,G,I2,rx,q⟩=>⟨x,G,I2,rx,kq x G q⟩
 .obtain⟨p1,p2,p3,p4,p5,p6,p7,p8,p9,S1,rest,bQ,hq⟩:=R.body;obtain⟨sw1,sw2,fP,Z⟩:=hq b7 X.A X.stack s1 Y ⟨λ_=>False,T2⟩ (λ_ z=>z.elim) dy
  have nl:∀{n:Nat}{a:iO}{g:L2.St},¬X0 g (ag n T2) a:=λ{n a g} a'=>by
   obtain⟨l,e,h1,_⟩:=a'
   rw[wa]at h1;split at h1<;>cases h1
  have hlen:(L2.oR NR [V.ref B]).length=(VP NR):=by
   have:1<=(VP NR):=by have:=oA cZ R.sc.pre;rw[se]at this;simp at this;lia
   unfold L2.oR;simp;lia
  have fin:∀(z:D)(G:Hp)(O:L2.St)(v0:V),yz (VP NR) i y6 z=TW d->(∀a o,Y a=TW o->G a=TW o)->(∀a,Y a≠T2->G a≠T2)->VP O=VP NR->O[i]?=TW (TW v0)->Rep X.K G (λ_=>False) z v0->
    tS X.K (λi=>i∈asg) ⟨λ_=>False,T2⟩ Y y6 {nx:=λ_ p=>BF X.K T g U H (d,UF) U .V0 p,rt:=λv p=>BF X.K T g U H (d,UF) U v p} O G:=λz G O v0 ht W dm2 w5 dE rz=>by
   unfold yz at ht;split at ht
   case h_2=>cases ht
   rename_i rr δr gQ;obtain⟨hs,rfl⟩:=jz ht;refine⟨_,λ_=>False,_,Xl w5 dE rz,⟨λl a ⟨d,h1,h2⟩=>absurd ⟨l,d,h1,h2⟩<|zy O a,dm2,λ_ _ z=>z,λ_ h=>nomatch h⟩,gQ,λv σ3 H3 S3 hrv=>?_⟩;have ext:∀a o,H a=TW o->H3 a=TW o:=λa o q=>S3.kp a o (W a o<|up a o q)<|zy O a;exact⟨.ext ext,E1.mono (λb o q _=>ext b o q) (λ_ _ z=>z) λa z=>(E1.dom a z).up<|ext a,Jh hs hrv.2⟩
  rw[bQ];have Xs:=(rQ HJ X.prog X.w X.K X.mg X.base NR xf (jb st) fr b7 X.A X.stack s1 Y L2.E0).Iy
  have run:∀(E:XK)(J:iO)(s:iT)(H:Hp),BH k ((X.A.deeper<|aY xf (jb st) s1.heap.objs.size fr b7).deeper<|Bi (X.env.qual++"<lambda>") scope s.heap.objs.size B (.ref J) S)->
    PE (ue (Ih X.prog X.w) X.prog X.w X.K X.mg X.base N' (X.env.qual++"<lambda>") scope B (.ref J) S (X.A.deeper<|aY xf (jb st) s1.heap.objs.size fr b7) (aY xf (jb st) s1.heap.objs.size fr b7::X.stack) s H E) body (λg H Q=>tF X.K fB g H Q\/tZ X.K X.mg E xB g H):=λE J s H gE=>
   let⟨h1,h2⟩:=hb B S J _ _ s H E gE
   PE.or h1 h2
  have LI:Lm (rQ HJ X.prog X.w X.K X.mg X.base NR xf (jb st) fr b7 X.A X.stack s1 Y L2.E0).Iy N' scope S (vs.map TW) (X.env.qual++"<lambda>") params body B k (λE g H Q=>tF X.K fB g H Q\/tZ X.K X.mg E xB g H):=⟨LS,LC,L,nfl,nst,m5 S,run⟩
  have h0:NR[0]?=TW xc:=by have:=oA (λl=>l[0]?) R.sc.pre;simpa using this
  have pt:=V7 (p4:=p4) (p8:=p8) (p9:=p9) LI UV UV UV dy h0 (.inl R.lc) R.db.1 R.db.2.1 sw1 R.gl R.mg R.db.2.2.2.2 R.sc.nd R.hi R.hj R.ij R.lx R.ln R.db.2.2.1 R.db.2.2.2.1 sw2;refine⟨_,(tL fP<|tL pt Z).Iy,?_⟩;have gM:i<(VP NR):=(uI.mp R.hi).1;refine⟨ag (VP NR) T2,λ_=>False,.nx<|(ag (VP NR) T2).set i<|TW (.V0,UF),⟨by simp[hlen],λl d h=>?_,λl d h=>?_,λl m d e a h=>?_,λa z=>absurd z nl,λ_ z=>z.elim⟩,⟨λl a ⟨d,h1,h2⟩=>absurd ⟨l,d,h1,h2⟩ nl,λ_ z=>z,λ_ _ z=>z,λ_ h=>nomatch h⟩,?_,λσ1 G K1 ER1=>?_⟩
  .rw[wa]at h;split at h<;>cases h
  .rw[wa]at h;split at h<;>cases h
  .rw[wa]at h;split at h<;>cases h
  .show(if i<(ag (VP NR) (T2:Sl)).length then TW (Out.nx _)else T2)=_;rw[jh<|by simpa using gM]
  have W:∀a o,Y a=TW o->G a=TW o:=λa o q=>K1.kp a o q nl;have aQ:(VP σ1)=(VP NR):=by have:=ER1.len;simpa using this
  have hs0:σ1[0]?=TW (TW<|V.ref B):=by rw[K1.as 0 R.as0];unfold L2.oR;rfl
  have Ec2:ER X.K G (Tc T g U vs t) (vs.map TW) (t.map TW):=Ec.mono (λb o q _=>W b o<|up b o q) (λ_ _ z=>z) λa z=>(Ec.dom a z).up λo q=>W a o<|up a o q;split at hd
  ·
   rename_i z hz;refine⟨hs0,λ_ _ _=>False,.inl ⟨_,_,z.1,z.2,Ec2,hz,λv H3 P3=>?_⟩,λ_ _ z=>z.elim,λ_ _ _ _ z=>z.elim⟩;obtain⟨v0,fx,dU⟩:=ER1.val i .V0 (by rw[oB<|by simpa using gM]);refine fin .V0 H3 σ1 v0 hd (λa o q=>P3.1.kp a o (W a o q)<|noT _ a) (λa q=>P3.1.dm a<|K1.dm a q) aQ fx<|Jh UV dU
  
  obtain⟨cn,hx,hd⟩:=iR hd;obtain⟨C0,hC0,hd⟩:=iR hd;obtain⟨hmC,ck⟩:=iw cn C0 hC0;refine⟨hs0,λcls _ p=>cls=.ref C0/\∀a o,G a=TW o->p a=TW o,.inr ⟨_,_,cn,Ec2,noT _,hx,λp C' eY fI=>?_⟩,λC' p ⟨q,_⟩=>?_,λC' p ea o ⟨q,eY⟩ hn ho=>?_⟩
  .rw[hmC]at fI;cases fI;exact⟨rfl,eY⟩
  .cases q;exact ck.up
  cases q;have dQ:∀a M,p a=TW M->upd p ea (.Bq o<|.own 0) a=TW M:=λa M q=>by rw[jx<|lI q hn];exact q
  refine fin (.AE (.exc C0) [] []) _ _ (.ref ea) hd (λa M q=>dQ a M<|eY a M<|W a M q) (λa q=>?_) (by simp[aQ]) (by rw[oB<|by simpa[aQ]using gM]) (Rep.La (us:=[]) (λz=>z) ⟨⟨rfl,rfl,rfl⟩,o,ju,ho,λa=>Pa ck.k ho,ck.ty⟩ YP.nil)
  cases hh:Y a with
  |none=>exact absurd hh q
  |some M=>rw[dQ a M<|eY a M<|W a M hh];simp
 cases rr with
 |error e=>exact aT hq
 |ok f=>
  cases f with
  |ret u=>exact P.after hq
  |_=>exact aT hq
end
open TS
noncomputable abbrev Ly(i:Int):Int:=if i<0 then -i else i
section
variable {d:jq}{w:jk}{A:jm}{E:jG}{s:iT}
def af0{a:iO}{f:jW}{r:ja}{n:Nat}{P:x6->Shared->Prop}(M:s.heap.get? a=TW (br "list" f.toArray n))(hi:ek f r)(Y:f.length<64)
  (h:∀g y out c,(∀b o,b≠a->s.heap.get? b=TW o->g.get? b=TW o)->g.get? a=TW (br "list" out c)->KskOut UF (r.map Ly) f out.toList->P (.done<|.ret .none) {s with heap:=g,toks:=y}):
  ah (ai d w) A (ksk_tree a (.builtin "abs") UF) P E s:=by
 have ha:a<s.heap.objs.size:=ki M;have X:=hi.length;have T:∀k,k<=f.length->k<=sizeLine:=λk hk=>by rw[kj];omega
 unfold ksk_tree;refine iP<|GY M UV<|iP<|vd M UV ?_ (T _ (by simp))<|mn _;obtain⟨B,q9⟩:∃B,(s.heap.update a<|aO λ_=>(#[]:Array iX)).get? a=TW (br "list" #[] B):=⟨_,xq M λ_=> #[]⟩
 refine iP<|zM q9 UV<|iP<|Dr ?_<|T _ (by simp);refine iP<|Di ?_<|mn _;refine mz ?_
 let h1:=qb s.heap a f
 let m:Addr:=((s.heap.update a<|aO λ_=>(#[]:Array iX)).push<|br "tuple" f.toArray 0).objs.size
 have hk:m=s.heap.objs.size+1:=by show _=_;simp -iota only[m];rw[size_push',Heap.size_update]
 have L:a≠m:=by rw[hk];exact kI<|vW ha
 have old:∀b o,b≠a->s.heap.get? b=TW o->h1.get? b=TW o:=λb o z e=>kb _ (kb _ (by rw[GW _ _ _ _ z];exact e));have F:h1.get? a=TW (br "list" #[] B):=kb _ (kb _ q9);have R:h1.get? m=TW (br "list" #[] 0):=kD _ rfl;show ah (ai d w) A (ksk_rest a (.builtin "abs") UF f.toArray B<|.ref m) P E {s with heap:=h1};unfold ksk_rest;refine iP<|sL ?_;rw[List.forIn_toArray];refine iP<|ksk_fold (λi U=>∃g y l e,U={s with heap:=g,toks:=y}/\(∀b o,b≠m->h1.get? b=TW o->g.get? b=TW o)/\g.get? m=TW (br "list" l e)/\ek l.toList ((r.map Ly).take i)) f 0 _ ⟨h1,s.toks,#[],0,rfl,λ_ _ _ e=>e,R,.nil⟩ (λj x U hx D=>?_) λU D=>?_
 .obtain⟨g,y,l,e,rfl,N,G,p⟩:=D;have W:j<f.length:=(uI.mp hx).1;obtain⟨t,Z⟩:=hi.get j r[j]<|lq (by omega);rw[hx]at Z;cases Z
  have q:l.size<=f.length:=by have:=p.length;rw[lU,se]at this;omega
  refine iP<|rC<|PP λu fW=>?_;dsimp only;have s1:=rZ g m (aO (·.push (.int (Ly r[j]) u)));refine iP<|vd (s:={s with heap:=g,toks:=fW}) G UV ?_ (T _ q)<|lV (wl (Array.size_push ..)) (by rw[kj];omega);refine je ⟨rfl,_,_,l.push<|.int (Ly r[j]) u,_,rfl,λb o z e=>(s1.2 b z).trans<|N b o z e,xq G _,?_⟩;rw[Dj,List.take_add_one,kX,lq (show j<r.length by omega),fj];rw[Dj]at p;exact p.append<|.cons _ _ .nil
 obtain⟨g,y,l,e,rfl,N,G,p⟩:=D;have p:ek l.toList (r.map Ly):=by rwa [Dj,zQ<|by simp;omega]at p
 have q:l.size=f.length:=by have:=p.length;rw[lU,ke]at this;omega
 have J:(l.zip f.toArray).size=f.length:=by rw[rk,q,kH,Nat.min_self]
 refine iP<|GY (s:={s with heap:=g,toks:=y}) G UV ?_
 have v:∀st:sA,(fU st).Perm (l.zip f.toArray)->SortedTo (fU st) (fU st).size->gk st=T2->ah (ai d w) A (ksk_tail a UF B (.ref m) st) P E {s with heap:=g,toks:=y}:=λst O S K=>by
  have s1:=rZ g m<|aO λ_=>(#[]:Array iX);have V:(g.update m<|aO λ_=>(#[]:Array iX)).get? a=TW (br "list" #[] B):=(s1.2 a L).trans<|N a _ L F;have s2:=rZ (g.update m<|aO λ_=>(#[]:Array iX)) a (aO λ_=>(fU st).map (·.2));unfold ksk_tail;simp -iota;refine iP<|vd (s:={s with heap:=g,toks:=y}) G UV ?_ (T _ (by omega))<|mn _;refine iP (Dq (iP (zM V UV (iP (vd V UV ?_ (mn _) (nb (show((fU st).map (·.2)).size<=sizeLine from T _ (by rw[ro,O.size_eq,J];exact kg _))))))));rw[K];simp -iota;refine je<|h _ _ _ _ (λb o z e=>?_) (xq V _) (ksk_out (b:=UF) p O S);have I:b≠m:=by rw[hk];exact kI<|vW<|ki e
  exact(s2.2 b z).trans ((s1.2 b I).trans<|N b o I<|old b o z e)
 unfold ksk_end;simp -iota only[my];by_cases H:f.toArray.size<2
 .rw[jh H,jh H];refine iP<|je ?_;rw[G4];refine iP<|je<|v _ (Array.Perm.refl _) (λi j l7 W=>?_) rfl;have dB:j<(l.zip f.toArray).size:=W;rw[J]at dB;rw[kH]at H;have:i=j:=by omega
  subst this;exact Int.le_refl _
 rw[jy H,jy H];rw[kH]at H;rw[ksk_kind p<|by rw[q];omega];refine iP (je ?_)
 refine iP (nX (wpS_sortRuns (a₀:=l.zip f.toArray) (st:=SortSt.mk' Go (l.zip f.toArray) #[] 7 T2) (Q:=λ_ C=>(fU C).Perm (l.zip f.toArray)/\gk C=T2/\SortedTo (fU C) (l.zip f.toArray).size)
  (ksk_intKeys p) ⟨Array.Perm.refl _,rfl,rfl,rfl⟩ (by rw[J];omega) (by rw[J];exact Y) λC a1 a2 a3=>⟨a1,a2,a3⟩) ?_ λ_ _ e=>e)
 rintro⟨⟨⟩,C⟩ U ⟨rfl,O,K,S⟩;exact v C O (by rw[O.size_eq];exact S) K
end
def aD:D->Int
 |.int i=>Ly i
 |_=>0
noncomputable def N6:D->Bool
 |.int _=>I
 |_=>C
def Iq(x y:D):Bool:=decide<|aD x<aD y
def yk:D->Option (D×Bool)
 |.lst l=>if l.all N6=I/\(l.map aD).Nodup/\(VP l)<64 then Y (.lst<|mW Iq l,I)else J
 |_=>J
def Pm{x:D}:∀{l:List D},l.Pairwise (λa b=>aD a<=aD b)->(En Iq x l).Pairwise λa b=>aD a<=aD b:=by
 intro g
 induction g with
 |nil=>intro _;simp[En]
 |cons y l f=>
  intro h;obtain⟨h1,e⟩:=EU.mp h;unfold En;by_cases d:aD y<aD x
  .rw[jh<|by simpa[Iq]using d];refine EU.mpr ⟨λz c=>?_,f e⟩;rcases nH.mp ((uy Iq x l).mem_iff.mp c)with rfl|c
   .omega
   exact h1 z c
  rw[jy<|by simpa[Iq]using d];refine EU.mpr ⟨λz c=>?_,h⟩;rcases nH.mp c with rfl|c
  .omega
  have:=h1 z c;omega
def Cg:∀l:List D,(mW Iq l).Pairwise λa b=>aD a<=aD b:=by
 intro d
 induction d with
 |nil=>exact .nil
 |cons _ l c=>exact Pm<|c
theorem Cp:∀{l:List D},(l.map aD).Nodup->∀a∈l,∀b∈l,aD a=aD b->a=b
 |x::l,h,a,d,b,f,e=>by
  rw[kM,zp]at h;rcases nH.mp d with h1|h1<;>rcases nH.mp f with c|c
  .rw[h1,c]
  .exact absurd (h1▸e▸sP c) h.1
  .exact absurd (c▸e▸sP h1) h.1
  exact Cp h.2 a h1 b c e
def afG{l m:List D}(c:m.Perm l)(g:m.Pairwise λa b=>aD a<=aD b)(f:(l.map aD).Nodup):m=mW Iq l:=by refine(c.trans (km Iq l).symm).eq_of_pairwise (le:=λa b=>aD a<=aD b) (λa b d e x y=>Cp f a (c.mem_iff.mp d) b ((km Iq l).mem_iff.mp e)<|by omega) g (Cg l)
section
variable {X:Cx}{f:jK}{g:L2.St}{H:Hp}{s:iT}
def Zc{O:AB}:∀{l:List D}{j:List V}{c:jW},l.all N6=I->YP X.K H O l j->Vals j c->∃e:List Int,l=e.map .int/\ek c e:=by
 intro n
 induction n with
 |nil=>intro j c _ r v;rw[YP]at r;subst r;cases v;exact⟨[],rfl,.nil⟩
 |cons d l m=>
  intro j c h r v;rw[YP]at r;obtain⟨x,q,rfl,o,p⟩:=r;rw[vh,mf]at h
  cases d with
  |int i=>
   cases v with
   |cons a b=>obtain⟨e,rfl,k⟩:=m h.2 p b;rw[jJ<|.inl o]at a;obtain⟨t,rfl⟩:=a;exact⟨i::e,rfl,.cons _ _ k⟩
  |_=>exact absurd h.1 (by simp[N6])
theorem XO:∀{l:List D}{a:ja}{xs:List V}{its:jW},l=a.map .int->VP xs=VP l->VP its=VP l->(a.map Ly).zip its=(l.zip<|xs.zip its).map λt=>(aD t.1,t.2.2)
 |[],[],_,_,_,_,_=>by simp
 |d::l,i::a,x::xs,u::its,h,h1,b=>by obtain⟨rfl,c⟩:=zN h;have:=XO (xs:=xs) (its:=its) c (by simpa using h1) (by simpa using b);simp -iota only[kM,sQ,this];rfl
def adI{u:iX}{Q:VK}{O:AB}{d:D}{z:D×Bool}{x:V}(I:Inv X f g H s)(ru:RelV x u)(np:∀p,¬Ow (H p)->¬O p)(hd:kz X.K H O d x)(M:yk d=TW z)(G:Gen X.K H O z Q):
  ah (ai X.prog X.w) X.A (call (.builtin "sorted") [u] [(bN "key",.builtin "abs")]) (EP X f g Q) X.xe s:=by
 cases d with
 |lst l=>
  obtain⟨⟨hI,hn,hz⟩,rfl⟩:=jz M;obtain⟨p,xs,rfl,q,E⟩:=kU hd;cases ru;obtain⟨j,v,pl,_⟩:=I.list q;have e1:=E.length;have e2:=v.length;obtain⟨ns,R,r⟩:=Zc hI E v;have hl:j.length<=sizeLine:=by rw[kj];omega
  obtain⟨o,ho,hc,n,w6⟩:=pl.isList;refine call_function_entry_kw TD OO Ps (ksk_s1 _ _) ?_;unfold bc.«sorted»;refine iP (m:=checkCount "sorted" 1 1 _)<|je ?_;refine iP<|GV p (.inl UV) ho hc w6 (λh1 k1=>?_) (by rw[kH];omega);rw[List.toList_toArray];refine iP<|Di ?_ hl;have T:(h1.push<|br "list" j.toArray 0).get? h1.objs.size=TW (br "list" j.toArray 0):=kD _ rfl;have L:Inv X f g H {s with heap:=h1}:=I.kept k1;refine iP<|mz<|wpAny_call_entry_kw (s:={s with heap:=h1.push (br "list" j.toArray 0)}) F2 ⟨_,T,rfl⟩ AC ?body<|ksk_l1 _ _
  case body=>
   show ah _ _ (bc.«list.sort» ⟨[.ref h1.objs.size],[(bN "key",.builtin "abs")]⟩) _ _ _;rw[ksk_t4];refine af0 (s:={s with heap:=h1.push (br "list" j.toArray 0)}) T r (by omega) λZ tk out c k2 k3 ko=>⟨_,rfl,je ⟨_,rfl,?_⟩⟩
   obtain⟨ps,U,k,Y⟩:=ko;rw[XO R (by omega)<|by omega]at U;obtain⟨a,F,rfl⟩:=nh _ U _ rfl;rw[ll]at k
   have S:∀t∈a,Rep X.K H O t.1 t.2.1/\RelV t.2.1 t.2.2:=λt hm=>by obtain⟨i,hi⟩:=sJ<|F.mem_iff.mp hm;obtain⟨B,W⟩:=Bz.mp hi;obtain⟨y,C⟩:=Bz.mp W;obtain⟨w,P,w2⟩:=v.get y;rw[C]at P;cases P;exact⟨E.views B y,w2⟩
   have J:a.map (·.1)=mW Iq l:=by
    refine afG ?_ (by rw[oq]at Y ⊢;exact Y.imp λh=>by simpa using h) hn;have:=F.map (·.1)
    rwa [nw<|by simp;omega]at this
   have hR:∀a:List (D×V×iX),(∀t∈a,Rep X.K H O t.1 t.2.1/\RelV t.2.1 t.2.2)->YP X.K H O (a.map (·.1)) (a.map (·.2.1))/\Vals (a.map (·.2.1)) (a.map (·.2.2)):=λa=>by
    induction a with
    |nil=>exact λ_=>⟨.nil,.nil⟩
    |cons t a ih=>intro h;obtain⟨i1,i2⟩:=ih λx hx=>h x<|kE _ hx;exact⟨.cons (h t kx).1 i1,.cons (h t kx).2 i2⟩
   obtain⟨r1,r2⟩:=hR a S;have keep:∀b o,h1.get? b=TW o->Z.get? b=TW o:=λb o e=>k2 b o (kI<|ki e)<|kb _ e;have N:a.length=l.length:=by have:=oA cZ J;rw[(km Iq l).length_eq,ke]at this;exact this
   refine⟨.ref h1.objs.size,_,L.laid (t':=tk) keep (kg _) (show AA X.prog X.w _ _ _ (.lst (a.map (·.2.1)))from⟨by rw[ke,kj];omega,out.toList,c,?_,?_⟩),rfl,?_⟩
   .rw[k];exact r2
   .rw[Mn];exact k3
   refine G.lst L.fresh ?_;rw[<-J];exact r1
 |_=>cases M
def agn{a:iW}{i:TA}{p b w v:bn}(c:Gl X "sorted")(r:X.mg "sorted"=J)(k:Gl X "abs")(m:X.mg "abs"=J)(n:PA X [a] i)
  (o:aI b (ae [a] X.env)=(C,aX a X.env)::aI b (ae [] X.env))(l:(aI b<|ae [a] X.env).any (·.1)=C):
  PE X (.Call (.Name "sorted" p) [a] [⟨Y "key",.Name "abs" w,v⟩] b) (Nc (Ga X.K<|g1 yk) i):=by
 intro f s g H Q U h;refine tE<|rJ U c r aft<|callWith_kw (Ak (n b f s g H _ U h) λT s1 ⟨E,B,e,y,t⟩=>kws_cons<|rJ e k m Xr<|kws_nil ?_) o l UV UV;obtain⟨O,j,z,np,q,hv,c,G⟩:=t
 match j,c with
 |[d],c=>obtain⟨x,rfl⟩:=JI q UV;obtain⟨u,rfl,A⟩:=qy y;exact adI e A np (hv 0 d x UV UV) c G
def afN{a:iW}{c:FO}{p b n m:bn}(k:Gl X "sorted")(l:X.mg "sorted"=J)(d:Gl X "abs")(h:X.mg "abs"=J)(i:PA X [a] (tA X.K [c]))
  (j:aI b (ae [a] X.env)=(C,aX a X.env)::aI b (ae [] X.env))(e:(aI b<|ae [a] X.env).any (·.1)=C):
  PX X (.Call (.Name "sorted" p) [a] [⟨Y "key",.Name "abs" n,m⟩] b) (jA (g1 yk) [c]):=pxn<|agn k l d h i j e
end
noncomputable def IA(i:Nat):F:=λa=>match a[i]? with
 |some (Y (.lst l,I))=>(l[VP l-1]?).bind λd=>Y ((d,C),a.set i<|Y (.lst l.dropLast,I))
 |_=>J
def YP.dropLast{K U}{O:AB}{l:List D}{a:List V}(r:YP K U O l a):YP K U O l.dropLast a.dropLast:=by rw[Mm,Mm,r.length];exact r.take _
section
variable {X:Cx}{x:av}{i:Nat}{f c g:bn}
def VQ(hv:PO X (.Name x f) (iQ i))(N:LU X (.Name x f) "pop")(y:(c.endLine==g.line)=I):
  PX X (.Call (.Attribute (.Name x f) "pop" c) [] [] g) (IA i):=
 PX.imp (Wk zJ Mr Mq WI hv N y) λM H Q B=>by
 obtain⟨s,T,J,O,E,e,k⟩:=B;unfold IA at e;split at e
 .rename_i l p;obtain⟨d,hd,e⟩:=iR e;obtain⟨rfl,rfl⟩:=jw e;refine⟨s,T,.slot i,s,E,by unfold iQ;rw[p],λv G P=>?_⟩;obtain⟨u,q,h⟩:=P;obtain⟨a,g1,r,g2,m⟩:=q.own i _ p;rw[h]at g1;cases g1;obtain⟨w,U,L⟩:=m.get hd;have A:=m.length;obtain⟨t,j⟩:=q.write p h<|YP.dropLast m;refine⟨.inl ⟨rfl,r,F5.of g2⟩,_,r,w,rfl,rfl,g2,by rw[A];exact U,?_⟩;exact k _ _ (BF.val (u.trans j) t<|Rep.mono (λb o e n=>j.kp b o e λz=>n<|.inl z) (λb _ z=>z.imp (j.ow b) id) L)
 cases e
end
def W5:=gI λi j=>if wY i j then Y (.int<|i*2^j.toNat)else J
def ZV:=gI λi j=>if 0<=j then Y (.int<|i / 2^j.toNat)else J
def Ux:=gI λi j=>Y<|.int<|b4 i j
section
variable {X:Cx}
def R0:BY X (bf .LShift) (rD X.K W5):=uv Wu
def RZ:BY X (bf .RShift) (rD X.K ZV):=uv Wt
def R9:BY X (bf .BitAnd) (rD X.K Ux):=Fx WA
variable {a:iW}{e:FO}{p b f g d c:bn}{x:av}{i:Nat}
def xSA(T:Tx X.mg)(l:QA X [a] [e])(n:Gl X "sorted":=by rfl)(j:Gl X "abs":=by rfl)(m:aI b (ae [a] X.env)=(C,aX a X.env)::aI b (ae [] X.env):=by rfl)(k:BA X b [a]:=by rfl):
  QX X (.Call (.Name "sorted" p) [a] [⟨Y "key",.Name "abs" f,g⟩] b) (jA (g1 yk) [e]):=⟨afN n (Le T (z:="sorted") H) j (Le T (z:="abs") H) l.h m k⟩
def YJ(hv:QO X (.Name x d) (iQ i))(k:LU X (.Name x d) "pop":=by rfl)(j:(c.endLine==b.line)=I:=by rfl):
  QX X (.Call (.Attribute (.Name x d) "pop" c) [] [] b) (IA i):=⟨VQ hv.h k j⟩
end
section
variable {X:Cx}{a:jK}{b:L2.St}{H:Hp}{s:iT}
theorem Jm{K:jr}{O:AB}:∀(c:List Key),YP K H O (c.map lO)<|c.map kV
 |[]=>YP.nil
 |k::c=>by
  refine YP.cons ?_<|Jm c
  cases k with
  |inl i=>exact Rep.mkInt
  |inr x=>exact Rep.mkStr
theorem vF{K:jr}{O:AB}(np:∀p,¬Ow (H p)->¬O p):∀{c:List (List Key×V)}{d:List (List Key×iO×iX)},L2.KT H c d->YP K H O (c.map λp=>.tup (p.1.map lO)) (d.map λx=>V.ref x.2.1)
 |_,_,.nil=>YP.nil
 |_,_,.cons h t=>by refine YP.cons (Rep.Ip ⟨h.2.1,np _ λz=>z.nt _ h.2.1⟩<|Jm _)<|vF np t
def Aj{P:jq}{w:jk}(c:List (List Key×iO×iX)):Vals (c.map λx=>V.ref x.2.1) ((c.map<|sB<|cp<|ky P w).map (·.key)):=by
 induction c with
 |nil=>exact .nil
 |cons x c d=>exact .cons UV d
end
def Es(d:D):Option (D×Bool):=match d with
 |.AE .dct a _=>Y (.lst a,I)
 |_=>yH d
def afY{b:jq}{w:jk}{a:iO}{c:Array fv}{d:Nat}(hd:(a==bK)=C):PySem.W.KdlSrc b w "dict" a a c.size (λi v=>∃e,c[i]?=Y e/\v=e.key) (λh=>TT.Gp h a c d) where
 type:=λs x=>x.typeIs
 there:=λh x=>let⟨_,h1,_⟩:=x.at_;⟨ki h1,ki h1⟩
 keep:=λh j x k=>x.BG λo e=>k a (.inl H) o e
 notList:=by decide
 notTuple:=by decide
 hint:=λA E s Q x h=>PySem.W.kdl_hint_dict x.typeIs h
 iter:=λA s g x=>by have f:a<s.heap.objs.size:=let⟨_,h1,_⟩:=x.at_;ki h1;exact⟨_,_,λE Q h=>TT.J5 hd x h,TT.Gw g s.heap.objs.size a (pv f) c d,⟨⟨_,kD _ rfl,rfl,rfl⟩,x.BG λo e=>kb _ e⟩⟩
section
variable {X:Cx}{b:jK}{f:L2.St}{H:Hp}{s:iT}
def wz(o:X.A.handled=J)(U:Inv X b f H s){a:iO}{g:Array fv}{m:Nat}{O:AB}{k:List D}{j:List V}{Q:VK}(hd:(a==bK)=C)(S:TT.Gp s.heap a g m)(l:g.size<=sizeLine)
  (t:YP X.K H O k j)(v:Vals j (g.toList.map (·.key)))(G:Gen X.K H O (.lst k,I) Q):ah (ai X.prog X.w) X.A (call (.type "list") [.ref a]) (EP X b f Q) X.xe s:=by
 refine PySem.W.kdl_call (afY hd) o S l λy x d c r q it=>?_
 have n:d.toList=g.toList.map (·.key):=by
  apply xy;intro i;rw[mE,kX,mE]
  cases h:d[i]? with
  |some u=>obtain⟨e,h1,rfl⟩:=it.2 i u h;rw[h1];rfl
  |none=>have:=UL.mp h;rw[UL.mpr<|by rw[<-it.1];exact this];rfl
 have p:=v.length;refine⟨.ref s.heap.objs.size,_,U.laid (t':=x) r (kg _) (show AA X.prog X.w _ _ _ (.lst j)from⟨by rw[p,ke,lU];exact l,d.toList,c,by rw[n];exact v,by rw[Mn];exact q⟩),rfl,?_⟩;exact G.lst U.fresh t
def ad4(M:X.calm=Uf):kL X (.type "list") (Ga X.K<|g1 Es):=nC λb s f H x u Q O d z I B np hd t G=>by
 by_cases y:∃l C,d=.AE .dct l C
 .obtain⟨l,C,rfl⟩:=y;cases(show TW (D.lst l,Uf)=TW z from t);obtain⟨a,P,rfl,q,r⟩:=oD hd;cases B;have v:X.A.handled=T2:=I.ok.hd M;rcases q with⟨h,e,rfl,rfl⟩|⟨h,e,rfl,rfl⟩
  .obtain⟨U,m,N,c,o,n,T,h1,g,i,k,p,J⟩:=Kh I.hok e;have E:=Cb p c;have w:=E.length;simp at w;exact wz v I m ⟨o,h1,g,i⟩ (by lia) (yb h) E G
  obtain⟨U,m,L,c,o,n,T,h1,g,i,k,p,J⟩:=P8 I.hok e;have w:=vt c;have F:n.size=L.length:=xz k;exact wz v I m ⟨o,h1,g,i⟩ (by lia) (vF np c) (by rw[k];exact Aj L) G
 have:Es d=yH d:=by
  unfold Es;split
  .exact absurd ⟨_,_,rfl⟩ y
  rfl
 exact Br b s f H [x] [u] Q I (.cons B .nil) ⟨O,[d],z,np,rfl,λj Y R h1 g=>by
  cases j with
  |zero=>cases h1;cases g;exact hd
  |succ j=>simp at h1,by show yH d=TW z;rw[<-this];exact t,G⟩
end
def F3(d e:D):Option (D×Bool):=match d,e with
 |.lst l,.int k=>if 0<=k/\k<1000/\(VP l)*k.toNat<=sizeLine then Y (.lst (ag k.toNat l).flatten,I)else J
 |_,_=>pH d e
theorem YP.rep{K U}{O:AB}{l:List D}{a:List V}(r:YP K U O l a):∀n:Nat,YP K U O (ag n l).flatten (ag n a).flatten
 |0=>YP.nil
 |n+1=>by rw[tu,tu,xK,xK];exact r.append<|YP.rep r n
section
variable {X:Cx}
def af1:BY X (bf .Mult) (rD X.K F3):=by
 intro g s σ H x y v u Q I J i h;obtain⟨O,d,e,z,np,h1,w,A,G⟩:=h;by_cases B:∃l k,d=.lst l/\e=.int k
 .obtain⟨l,k,rfl,rfl⟩:=B;obtain⟨⟨V,W,C⟩,rfl⟩:=jz (show(if 0<=k/\k<1000/\l.length*k.toNat<=sizeLine then TW (D.lst (ag k.toNat l).flatten,Uf)else T2)=TW z from A);obtain⟨p,xs,rfl,q,r⟩:=kU h1;cases J;rw[jJ w]at i;obtain⟨t,rfl⟩:=i;obtain⟨b,L,pl,_⟩:=I.list q;obtain⟨⟨R,dd,j,M⟩,n,e,E,_,N⟩:=pl;simp only at E N;subst E N;have o:=r.length;have S:=L.length;have f:b.toArray.size*k.toNat<=sizeLine:=by rw[kH,<-S,o];exact C
  have c: ¬b.toArray.size*k.toNat>(2^63-1) / 8:=by
   have:(sizeLine:Nat)<=(2^63-1) / 8:=by decide
   lia
  have P: ¬(!y8 k)=Uf:=by rw[Ev (by lia)<|by lia];exact lH
  have Y: ¬b5 (b.toArray.size*k.toNat)=Uf:=by rw[FF f];exact lH
  have Z:e8 (λx1 x2=>x1++x2) #[] (ag (if b.toArray.isEmpty=Uf then 0 else k.toNat) b.toArray)=(ag k.toNat b).flatten.toArray:=by
   have f0:∀m:Nat,e8 (λx1 x2=>x1++x2) #[] (ag m b.toArray)=(ag m b).flatten.toArray:=λm=>by
    have:=CB b m []
    rwa [xb]at this
   rw[f0]
   cases b with
   |nil=>simp
   |cons a r'=>rw[jy<|by simp]
  refine wpAny_binaryOp_repeat_ref (T:="list") (U:="int") (by decide) ⟨_,e,rfl⟩ (λs'=>sm s' k t) noFill_list_mul F.fills_int_mul F.slot_int_rmul repeat_list F.slot_int_index.lookup
   (vY F.slot_int_rmul (sm s k t) F.entry_int_rmul (F.args_int_rmul_2 _ _) (lm_int_rmul_list_any k t p b.toArray n dd M)
    ⟨e,rfl,⟨_,e,rfl⟩,vY F.slot_list_mul ⟨_,e,rfl⟩ F.entry_list_mul (F.args_list_mul_2 _ _) (lm_list_mul_any p b.toArray n dd M k t P c Y) ⟨e,?_⟩⟩)
  rw[Z];exact⟨.ref _,_,I.Lv (t':=s.toks) (L.rep k.toNat)<|by rw[Su,uZ,o];exact C,rfl,G.lst I.fresh<|r.rep k.toNat⟩
 have:F3 d e=pH d e:=by
  unfold F3;split
  .exact absurd ⟨_,_,rfl,rfl⟩ B
  rfl
 exact JE g s σ H x y v u Q I J i ⟨O,d,e,z,np,h1,w,by rw[<-this];exact A,G⟩
end
section
variable {a:jq}{w:jk}{A:jm}{E:jG}{I:iO}{c b:kW}{n:Nat}{P:Nat->iX->Prop}{St:Nat->jn->Prop}
end
section
variable {X:Cx}{A:kB}{a:bn}{c:kr}{b:List Tg}
end
section
variable {X:Cx}{A:kB}{a b:iW}{g:bn}
variable {e j:iW}{f:F}{x z:av}{p o l m:bn}{i k:Nat}{L:LL}{q:Hp}
def xLS{c:oM}{scope:jS}{t:EG}{tt:Tg}{u:FT}{n:jX}{r:bn}(T:Tx X.mg)(G:QI X (λi=>i∉n) c.target c.iter t)
  (O:P4 X n [c] scope λY'=>QG Y' (λi=>VP n<=i) c.target tt/\QF Y' c.ifs u/\QX Y' j f)
  (C:rT X.N X.env.scope scope (cN X.N n [c]) n k=Uf:=by kernel_rfl)(Q:decide (cN X.N n [c]).Nodup=Uf:=by kernel_rfl)
  (E:X.calm=Uf:=by rfl)(B:c.is_async=0:=by rfl)(I:∀x,aw c.iter X.env x=pure x:=by intro _;rfl)(H:Gl X "len":=by rfl)
  (h1:ae [.SetComp j [c] scope g] X.env=(UF,aX (.SetComp j [c] scope g) X.env)::ae [] X.env:=by rfl)(w:(aI r<|ae [] X.env).any (·.1)=UF:=by rfl):
  QX X (.Call (.Name "len" p) [.SetComp j [c] scope g] [] r) (uB n k t tt u<|EI f):=
 ⟨aen (Bo UV UV C) E B (by intro M h;cases h) I G.h (λcl C U v y s=>let⟨a,b,c⟩:=O cl C U v y s<|zK Q;⟨a.h,b.h,λd=>afc UV c.h⟩) H T.n_len Xq (by decide) (by decide) h1 w⟩
def iE1{B:SB}{d:kr}{w:Nat}{y:bn}{c:Int}{n:Nat}(T:Tx X.mg)(s:QX X a f)(t:bt c=I:=by decide)(v:Gl X "enumerate":=by rfl)(s0:SE X a []:=by rfl)
  (u:aI g (ae [a] X.env)=(C,aX a X.env)::aI g (ae [] X.env):=by rfl)(r:(aI g<|ae [a] X.env).any (·.1)=C:=by rfl):
  QI X B (.Tuple d w y) (.Call (.Name "enumerate" p) [a] [⟨Y "start",.Constant (.int c) n l,m⟩] g) (El c f):=⟨ae8 v T.n_enumerate s.h t s0 u r⟩
end
def pG(d:D):Option (D×Bool):=match d with
 |.AE .dct a _=>kJ a
 |_=>J
def qd(d e:D):Option (D×Bool):=match e with
 |.AE .dct a b=>if qW a d=I then Y (.bl (!(mX a b d).isSome),C)else J
 |_=>J
section
variable {X:Cx}{b:jK}{c:L2.St}{H:Hp}{s:iT}
def adT(o:X.A.units+62<aV):BY X (ay .NotIn) (rD X.K qd):=by
 intro b s c H x y v u Q U m n h;obtain⟨O,d,e,z,np,h1,l,f,G⟩:=h;by_cases j:∃g i,e=.AE .dct g i
 .obtain⟨g,i,rfl⟩:=j;obtain⟨hk,rfl⟩:=jz (show(if qW g d=I then Y (D.bl (!(mX g i d).isSome),C)else J)=Y z from f);obtain⟨a,t,rfl,q,r⟩:=oD l;cases n;exact Z8 (by lia) U q r hk h1 m I λp k=>⟨.bl _,H,k,by simp[L2.RelV],G.bl⟩
 unfold qd at f;split at f
 .exact absurd ⟨_,_,rfl⟩ j
 cases f
def wQ(hc:X.calm=Uf)(J:X.A.units+62<aV):kL X (.builtin "sorted") (Ga X.K<|g1 pG):=nC λb s c H x u Q O d z I W np hd h G=>by
 by_cases T:∃t N,d=.AE .dct t N
 .obtain⟨t,N,rfl⟩:=T;have M:kJ t=TW z:=h;obtain⟨a,us,rfl,q,r⟩:=oD hd;cases W;have E:X.A.handled=T2:=I.ok.hd hc;rcases q with⟨g,e,rfl,rfl⟩|⟨g,e,rfl,rfl⟩
  .obtain⟨zl,y,Z,f,o,B,S,h1,l,m,n,C,V⟩:=Kh I.hok e;have U:=Cb C f;have L:=U.length;simp at L;exact qz J I (yb (O:=O) g) U M G λR F D i p=>TT.Qe y (by rw[i];exact E) ⟨o,h1,l,m⟩ (by lia) λj v k=>p j v k
  obtain⟨zl,y,Y,f,o,B,S,h1,l,m,n,C,V⟩:=P8 I.hok e;have L:=vt f;have hz:B.size=Y.length:=xz n;refine qz J I (vF np f) (Aj (P:=X.prog) (w:=X.w) Y) M G λR F D i p=>TT.Qe y (by rw[i];exact E) ⟨o,h1,l,m⟩ (by lia) λj v k=>?_;rw[n];exact p j v k
 unfold pG at h;split at h
 .exact absurd ⟨_,_,rfl⟩ T
 cases h
def adg(e:X.calm=I)(f:X.A.units+62<aV):kL X (.builtin "sorted") (Ga X.K<|g1 mH):=nC λb s c H x u Q O d z U h np hd a G=>by
 unfold mH at a;split at a
 .split at a
  .exact Uo (g:=mH) (wQ e f) U h np hd a G
  cases a
 exact Uo (g:=mH) (adf e f) U h np hd a G
end
def iD:D->Int
 |.int i=>i
 |_=>0
def W4:D->Option (D×Bool)
 |.lst l=>if l.all N6=I then Y (.int<|lm (λj=>iD<|l.getD j .V0)<|VP l,C)else J
 |_=>J
theorem AR:∀{c:jW}{b:ja},ek c b->∃a:List (Int×u0),c=a.map (λp=>gB p.1 p.2)/\b=a.map (·.1)
 |_,_,.nil=>⟨[],rfl,rfl⟩
 |_,_,.cons n t r=>let⟨a,h1,d⟩:=AR r;⟨(n,t)::a,by rw[h1];rfl,by rw[d];rfl⟩
theorem yC{f g:Nat->Int}:∀n,(∀j,j<n->f j=g j)->lm f n=lm g n
 |0,_=>rfl
 |n+1,h=>by rw[lm,lm,yC n λj a=>h j<|by lia,h n<|by lia]
section
variable {X:Cx}
def ae6(i:X.calm=I):kL X (.builtin "sum") (Ga X.K<|g1 W4):=nC λe s M H x u Q O d z U B np hd b G=>by
 cases d with
 |lst l=>
  obtain⟨h,rfl⟩:=jz b;obtain⟨p,T,rfl,q,r⟩:=kU hd;cases B;obtain⟨t,v,y,_⟩:=U.list q;obtain⟨L,c,n⟩:=Zc h r v;obtain⟨f,g,a⟩:=AR n;have k:X.A.handled=J:=U.ok.hd i
  have o:s.heap.IsList p (intItems f.toArray):=by have:=y.isList;rw[g]at this;simpa[intItems]using this
  refine sum_intListG k o λE N t' w=>?_;refine⟨.int<|lm (λj=>iD<|l.getD j .V0)<|VP l,H,U.kept (t':=N) w,⟨t',?_⟩,G.int⟩;have:(VP l)=(VP f):=by rw[c,a];simp
  rw[this,kH]
  congr 1
  refine yC _ λj m=>?_;rw[c,a];simp[numAt,iD,m]
 |_=>cases b
def Xa(l:List D):Option Nat:=(oY l).bind λbs=>bs.findIdx? id
def To(i:Nat):F:=λa=>match a[i]? with
 |some (Y (.lst l,I))=>(Xa l).bind λj=>if (VP l)<=1000 then Y ((.int j,C),a)else J
 |_=>J
def abO(x:V)(b:List V)(U:Hp)(Q:VK):Prop:= ∃(l:iO)(a:List V)(bs:List Bool)(j:Nat),x=.ref l/\b=[.bl I]/\U l=Y (.lst a)/\a=bs.map V.bl/\bs.findIdx? id=Y j/\(VP bs)<=1000/\Q (.int j) U
theorem IW:∀{bs:List Bool}{a:jW},Vals (bs.map V.bl) a->a=bs.map dV
 |[],_,.nil=>rfl
 |b::bs,_,.cons r t=>by cases r;rw[IW t];rfl
def af8:OJ X "list.index" abO:=by
 intro c s M H x T v O Q U N B h;obtain⟨l,G,bs,j,rfl,rfl,g,rfl,k,E,q⟩:=h;cases N;obtain⟨u,rfl,w⟩:=B.one;cases w;obtain⟨z,t,n,r,a,e⟩:=U.K8 g;have i:=IW r;subst i;obtain⟨h1,d,f⟩:=List.findIdx?_eq_some_iff_getElem.mp k
 refine vY F.slot_list_index ⟨_,e,rfl⟩ F.entry_list_index (F.args_list_index_2 _ _)
  (list_indexAt l (bs.map dV).toArray n J #[] (.bool I) (λy=>match y with|.bool b=>b|_=>C) j (by simpa using h1) (by lia) (by simpa using d) (λm L p=>?_)) ⟨e,λy o=>?_,⟨.int j,H,U.tok _,⟨_,rfl⟩,q⟩⟩
 .have:=f m p;simpa using this
 obtain⟨b,_,rfl⟩:=ji<|List.mem_toArray.mp o;have:=EqAt.bool_bool (A:=X.A.in1) (s:=s) b I;cases b<;>simpa using this
variable {B w c o f:bn}{i:Nat}{x:av}{g:Nat}
theorem Jn{K:jr}{U:Hp}{O:AB}:∀{l:List D}{bs:List Bool}{a:List V},oY l=Y bs->YP K U O l a->a=bs.map V.bl
 |[],bs,a,h,r=>by cases h;rw[YP]at r;exact r
 |.bl b::l,bs,a,h,r=>by obtain⟨d,h1,rfl⟩:=jM h;rw[YP]at r;obtain⟨v,k,rfl,e,j⟩:=r;rw[e.bl,Jn h1 j];rfl
theorem CV:∀{l:List D}{bs:List Bool},oY l=Y bs->VP bs=VP l
 |[],_,h=>by cases h;rfl
 |.bl b::l,_,h=>by obtain⟨a,h1,rfl⟩:=jM h;simp[CV h1]
def afy(hv:PO X (.Name x w) (iQ i))(G:LU X (.Name x w) "index")
  (J:NQ X o [.Constant (.bool Uf) g f])
  (C:(c.endLine==o.line)=Uf)(s:ae [.Constant (.bool Uf) g f] X.env=(UF,aX (.Constant (.bool Uf) g f) X.env)::ae [] X.env)(A:(aI o<|ae [] X.env).any (·.1)=UF):
  PX X (.Call (.Attribute (.Name x w) "index" c) [.Constant (.bool Uf) g f] [] o) (To i):=
 PX.imp (JC zJ PySem.F.slot_list_index PySem.F.type_list_index af8 hv (lS Uj oI s) G J C s A) λZ H Q L=>by
 obtain⟨d,T,W,D,E,e,k⟩:=L;unfold To at e;split at e
 .rename_i l m;obtain⟨j,n,e⟩:=iR e;obtain⟨bs,r,n⟩:=iR n;obtain⟨I,e⟩:=jz e;obtain⟨rfl,rfl⟩:=sH e;refine⟨d,T,.slot i,d,E,by unfold iQ;rw[m],λv K P=>?_⟩;obtain⟨u,h,b⟩:=P;obtain⟨a,g1,z,g2,V⟩:=h.own i _ m;rw[b]at g1;cases g1;refine⟨.inl ⟨rfl,z,F5.of g2⟩,d,T,_,d,h,rfl,λy R q=>?_⟩;obtain⟨p,U⟩:=q.rep h;have O:=U.bl;subst O;obtain⟨S,t,Y,M,N⟩:=p.own i _ m;rw[b]at t;cases t;refine⟨_,Y,bs,j,rfl,rfl,M,Jn r N,n,by rw[CV r];exact I,?_⟩;exact k _ _ (BF.val (u.trans q.1) p Rep.mkInt)
 cases e
end
def zf(a:jX)(b:Nat):D->Option (D×Bool)
 |.AE (.exc U) _ _=>if a.contains U=I then Y (.bl<|U==b,C)else J
 |_=>J
def W6(a:jX):D->Option (D×Bool)
 |.AE (.exc U) _ _=>if a.contains U=I then Y (.bl I,C)else J
 |_=>J
section
variable {X:Cx}{e:iW}{fa:FO}{pos p p2:bn}{z:av}{CL:jX}{D0:Nat}
def WZ{g:D->Option (D×Bool)}{f:iX}{i:V}(M:RelV i f)(B:∀l,RelV i l->l=f)(A:∀d t,g d=TW t->∃C' b j m,d=.AE (.exc C') j m/\t=(.bl b,C)/\kitOne X.K (.ref C') f=TW b):
  kL X (.builtin "isinstance") (λn H' Q=>∃(O:AB)(d:D)(x:V)(b:Bool),n=[x,i]/\kz X.K H' O d x/\g d=TW (.bl b,C)/\Q (.bl b) H'):=by
 intro k s Y H' n T Q I r h;obtain⟨O,d,x,b,rfl,hd,c,q⟩:=h;obtain⟨u,U,rfl,L,E⟩:=uP r;have:=B _ E;subst this;obtain⟨C',G,j,m,rfl,v,hk⟩:=A _ _ c;cases v;obtain⟨a,T,rfl,AE,_⟩:=oD hd;cases L;obtain⟨_,o,e,h1,y,J⟩:=AE;exact kia_one (y a) I.FU (show AA X.prog X.w H' s.heap a (.Bq o<|.own 0)from I.hok a _ e).1 hk (λz=>nomatch z) λN=>⟨.bl _,H',I.tok _,rfl,q⟩
def Jq{g:D->Option (D×Bool)}{w2:V}{h:iX}{a:iW}(y:PO X e fa)(c:PE X a (tC w2))(f:RelV w2 h)(U:∀s,RelV w2 s->s=h)(q:∀d i,g d=Y i->∃C' b r t,d=.AE (.exc C') r t/\i=(.bl b,C)/\kitOne X.K (.ref C') h=Y b)
  (u:Gl X "isinstance")(A:X.mg "isinstance"=T2)(hv:ax "isinstance"=Y (.builtin "isinstance"))(s1:ae [e,a] X.env=(C,aX e X.env)::ae [a] X.env)(L:ae [a] X.env=(C,aX a X.env)::ae [] X.env)(w:(aI pos<|ae [a] X.env).any (·.1)=C):
  PX X (.Call (.Name "isinstance" p) [e,a] [] pos) (md g fa):=by
 refine PX.imp (tM (WZ (X:=X) f U q) u A hv (lS y (lS c oI L) s1) (by decide) (by decide) s1 w) λN H Q f=>?_;obtain⟨O,T,M,G,E,e,k⟩:=f;obtain⟨o,l,h1,e⟩:=iY e;obtain⟨x,c,e⟩:=iR e;obtain⟨i,n,e⟩:=iR e;obtain⟨rfl,rfl⟩:=jw e;obtain⟨C',b,r,t,rfl,rfl,hk⟩:=q _ _ n;refine⟨O,T,o,l,E,h1,λv J m=>?_⟩;have B:=Ops.cons E m<|Ops.nil<|m.er E;exact⟨_,_,v,b,rfl,B.view (j:=0) UV UV c,n,(B.done k).bl⟩
structure ClT(K:Frag)(mg:lJ)(CL:jX)(D0:Nat)(z:av):Prop where
 mg:mg z=TW (.ref D0)
 is:∀C∈CL,kitOne K (.ref C) (.ref D0)=TW (C==D0)
def xE(T:Tx X.mg)(c:ClT X.K X.mg CL D0 z)(g:QO X e fa)(b:Gl X "isinstance":=by rfl)(a:Gl X z:=by rfl)(j:DB z:=by decide)(s1:ae [e,.Name z p2] X.env=(C,aX e X.env)::ae [.Name z p2] X.env:=by rfl)(l:SE X (.Name z p2) []:=by rfl)(f:BA X pos [.Name z p2]:=by rfl):
  QX X (.Call (.Name "isinstance" p) [e,.Name z p2] [] pos) (md (zf CL D0) fa):=⟨Jq (w2:=.ref D0) g.h (RN a c.mg H j) H (λu h=>by cases h;rfl) (λd n h=>by
 unfold zf at h;split at h
 .rename_i U k m;obtain⟨i,rfl⟩:=jz h;exact⟨U,_,k,m,rfl,rfl,c.is U<|by simpa using i⟩
 cases h) b T.n_isinstance ox s1 l f⟩
def xEV(T:Tx X.mg)(c:X.mg "ValueError"=J)(hk:∀U∈CL,kitOne X.K (.ref U) (.type "ValueError")=Y I)(g:QO X e fa)(b:Gl X "isinstance":=by rfl)(a:Gl X "ValueError":=by rfl)(s1:ae [e,.Name "ValueError" p2] X.env=(C,aX e X.env)::ae [.Name "ValueError" p2] X.env:=by rfl)(k:SE X (.Name "ValueError" p2) []:=by rfl)(f:BA X pos [.Name "ValueError" p2]:=by rfl):
  QX X (.Call (.Name "isinstance" p) [e,.Name "ValueError" p2] [] pos) (md (W6 CL) fa):=⟨Jq (w2:=.ty "ValueError") g.h (zu (v:=.ty "ValueError") a c (by decide+kernel) H (by decide)<|by decide) H (λu h=>by cases h;rfl) (λd m h=>by
 unfold W6 at h;split at h
 .rename_i U j l;obtain⟨i,rfl⟩:=jz h;exact⟨U,_,j,l,rfl,rfl,hk U<|by simpa using i⟩
 cases h) b T.n_isinstance ox s1 k f⟩
variable {x:av}{i kk:Nat}{b9 apos:bn}{a:iW}{f:F}
def aaP(hv:QO X (.Name x b9) (iQ i))(g:LU X (.Name x b9) "index":=by rfl)
  (j:NQ X pos [.Constant (.bool I) kk p2]:=by rfl)
  (c:(apos.endLine==pos.line)=I:=by rfl)(d:SE X (.Constant (.bool I) kk p2) []:=by rfl)(b:BA X pos []:=by rfl):QX X (.Call (.Attribute (.Name x b9) "index" apos) [.Constant (.bool I) kk p2] [] pos) (To i):=⟨afy hv.h g j c d b⟩
end
def Oy(Z:ZZ)(k:Nat)(x:av)(b:jB)(c:List D->Option av):Prop:= ∃f a,D9 Z.P Z.w Z.K Z.mg Z.base (Ih Z.P Z.w) k f a b (Nh Z.K Z.mg c)/\Z.mg x=Y (.ref f)/\keepIn Z.K (.ref f)=I/\Binds Z.K a b []
def Oy.up{Z:ZZ}{k j:Nat}{x:av}{c:jB}{d:List D->Option av}(o:Oy Z k x c d)(h:k<=j:=by decide):Oy Z j x c d:=let⟨f,e,a,b⟩:=o;⟨f,e,a.mono h,b⟩
abbrev BdY(Z:ZZ)(k:Nat)(x:av)(st:bh)(N:jB)(c:XS):Prop:= ∀(f:iO)(b:iX)(A:jm)(a:List dG)(s:iT)(U:Hp)(E:XK),BH k (A.deeper<|aY x (jb st) s.heap.objs.size f b)->un (A.deeper<|aY x (jb st) s.heap.objs.size f b) 60->un (A.deeper<|aY x (jb st) s.heap.objs.size f b) 1->un (A.deeper<|aY x (jb st) s.heap.objs.size f b) 62->N.Nodup->
   Li (rQ (Ih Z.P Z.w) Z.P Z.w Z.K Z.mg Z.base N x (jb st) f b A a s U E) E (mm st) c
def oyB{Z:ZZ}{k:Nat}{x:av}{st:bh}{N d:jB}{g:XS}(a:Fz Z.K Z.mg x st)(S:AY N d (jb st))(b:LR x st d)
  (j:BdY Z k x st N g):Oy Z (k+1) x d (LM (VP N) (VP d) g):=
 let⟨f,i,m,F⟩:=a
 ⟨f,i,SY F S λh A c s U E e=>by have:=e.un;exact j f h A c s U E e (by unfold un;omega) (by unfold un;omega) (by unfold un;omega) S.nd,m,F.kp,F.binds b⟩
def ClX(Z:ZZ)(z:av):Prop:= ∃U,Z.mg z=Y (.ref U)/\excIn Z.K U OV "ValueError.__new__"=I
section
variable {X:Cx}{P:jq}{w:jk}{g:List dG}{o:Hp}{s0:iT}{E:XK}{A:kB}{st:bh}{n b:List bh}{x y:XS}{e:iW}{d p r:bn}{f:FS}{z:av}{a:iW}{m:F}{k:Nat}{q:jB}{j:List D->Option av}{i:kr}{fs:List FO}{l:FT}{c:iW}
def zR(T:Gm X P w g o s0 E)(c:ClX (zX X) z)(t:QX X a m)(u:X.calm=I:=by rfl)(v:Gl X z:=by rfl)(hd:DB z:=by decide)(U:ae [a] X.env=[(C,aX a X.env)]:=by rfl):PZ X E (.Raise (Y<|.Call (.Name z p) [a] [] r) J d) (Hu z m):=
 let⟨_,B,s⟩:=c;QV T u s B v t.h hd U
def zI(t:QT X c l)(s:Li X E n x):PZ X E (.If c n b d) (NU l x zNo):=aay t.h s aax
def zC(T:Gm X P w g o s0 E)(U:BH k X.A)(O:Oy (zX X) k z q j)(t:QA X (e::i) fs)(B:Gl X z:=by rfl)(Q:DB z:=by decide)(v:SE X e i:=by rfl)(s:BA X d i:=by rfl)(M:X.prog=P:=by rfl)(L:X.w=w:=by rfl):Lz X E (.Call (.Name z p) (e::i) [] d) (qa j fs):=by subst M;subst L;obtain⟨f,G,F,N,hk,u⟩:=O;exact UP T F U B N hk u t.h Q v s
def zE(h:Lz X E e x)(s:bT e J d.line X.env=pure C:=by rfl):PZ X E (.Expr e d) x:=UO h s
end
def afQ{P:jq}{w:jk}{K:Frag}{d:lJ}{base:jn}{N:jB}{q:av}{scope:jS}{c:iO}{cd:iX}{b:lb}{A:jm}{a:List dG}{s:iT}{U:Hp}{E:XK}:
  Gm (ue (Ih P w) P w K d base N q scope c cd b A a s U E) P w a U s E:=⟨rfl,rfl,rfl,rfl,rfl,rfl,rfl,rfl,λ_ _ h=>h⟩
def TY(q:av)(a:iO)(U:Hp):Prop:= ∃more,U a=Y (.tbl (#[.str q 0]++more))
def spT(TB:List (iO×av))(a:Sp):Sp:=λb U Q E=>(∀p∈TB,TY p.2 p.1 U)/\a b U Q E
structure OE(X:Cx)(Pt:iO):Prop where
 t:TY (X.env.qual++"<lambda>") Pt X.H₀
 c:∃c,X.env.code=.ref c/\CodeHd X.base c Pt
 b:X.base.BuiltinsAt X.mg Pt
 g:ap≠Pt
def Rf(Z:ZZ)(st:bh)(h:jB)(a f m n l:av)(i j k:Nat)(c:jX)(o:FS)(g:av->Option Nat):Prop:=
 ∃d e CR,K0 Z.K a a st d e/\Binds Z.K e [f] []/\Z.mg a=Y (.ref d)/\(∀X:Cx,zX X=Z->KJ X st h d a f m n l CR i j (k+1) c o)/\∀z b,g z=Y b->Z.mg z=Y (.ref b)/\ClK Z.K b CR
def Ic(scope:jS):Bool:=decide (scope.kind=.function)&&!scope.isCoroutine&&!scope.isGenerator&&(scope.names.all λy=>y.2 != .cell)
def ZM{scope:jS}(h:Ic scope=I):EK scope:=by unfold Ic at h;simp only[mf,mC,vV,Bool.not_eq_true',bne_iff_ne]at h;exact⟨h.1.1.1,h.1.1.2,h.1.2,h.2⟩
def xRf{X:Cx}{Q:iO}{d:bA}{f:iW}{scope:jS}{p C pf:bn}{l:jX}{y:jB}{z:F}{xB:XS}{I:FS}{v:av->Option Nat}{u:jX}{st:bh}{r xc xr xx xn:av}{i j k B:Nat}
  (hr:BH (k+2) X.A)(R:Rf (zX X) st y r xc xr xx xn i j k u I v)(q:OE X Q)
  (hb:∀(o:iO)(m:lb)(n:iO)(A:jm)(e:List dG)(s:iT)(H:Hp)(E:XK),BH k (A.deeper<|Bi (X.env.qual++"<lambda>") scope s.heap.objs.size o (.ref n) m)->
   QX (ue (Ih X.prog X.w) X.prog X.w X.K X.mg X.base (cN X.N l []) (X.env.qual++"<lambda>") scope o (.ref n) m A e s H E) f z/\Lz (ue (Ih X.prog X.w) X.prog X.w X.K X.mg X.base (cN X.N l []) (X.env.qual++"<lambda>") scope o (.ref n) m A e s H E) E f xB)
  (L:rT X.N X.env.scope scope (cN X.N l []) l 0=Uf:=by kernel_rfl)(O:Ic scope=Uf:=by kernel_rfl)(hl:(VP y)=B:=by rfl)(Y:Gl X r:=by rfl)(J:DB r:=by decide)(G:∀x,X.fn x=Uf:=by exact λ_=>rfl)(T:sK d X.env=([],[]):=by rfl)(m5:∀m pm n m6,fe (kla_fn "<lambda>" (X.env.qual++"<lambda>") d f scope m pm (.ref n) m6) ⟨[],[]⟩=pure []:=by exact λ_ _ _ _=>rfl)
  (he:SE X (.Lambda d f scope C) []:=by rfl)(U:BA X p []:=by rfl):
  QX X (.Call (.Name r pf) [.Lambda d f scope C] [] p) (A9 l z xB B i I v):=by
 subst hl;obtain⟨fr,cx,CR,F,S,W,P,iw⟩:=R;obtain⟨more,Z⟩:=q.t;obtain⟨c,V,D⟩:=q.c;exact⟨VO (P X UV) F S Y W J G hr Z V D q.b q.g (Bo UV UV L) (ZM O) T m5 he U iw λo m n A e s H E M=>let⟨a,b⟩:=hb o m n A e s H E M;⟨a.h,b⟩⟩
def walkT{l:OpenLaw}{q:jq}{m:jB}{XP:(av->Option iX)->jn->Prop}{E:jk->jn->Prop}{d:DefRec}{K:Params->Frag}{LV:Nat}{x:av}{Q:BI}{TB:List (iO×av)}(hk:BH LV gg)(hn:l.most=TW 63)(dc:d.params.defaults=[])(hY:∀(w:jk)(h:jn),E w h->(K w.params).In h)
  (L:∀(w:jk)(h:jn),E w h->∀p∈TB,h.get? p.1=TW (tabObj #[]))(fO:∀(w:jk),∀p∈TB,(K w.params).lookup p.1=T2)(eI:(TB.map (·.1)).Nodup)
  (F:∀(w:jk)(n:lJ)(v:iO)(h:jn),(K w.params).In h->h.Ns ap n->n d.name=TW (.ref v)->∃I':mD,(∀(s:iT)(u:iX),gj s I' ⟨[u],[]⟩ [(x,u)])/\(∀p∈TB,∃c,codeHdIn (K w.params) c p.1=I)/\∀base:jn,(K w.params).In base->base.Ns ap n->(∀p∈TB,base.BuiltinsAt n p.1)->D9 l.prog w (K w.params) n base HJ LV v I' [x] (spT TB<|KG (K w.params) Q))
  (M:∀A:List Int,VP A<=63->∃o j,Q [(.lst<|A.map .int,UF)]=TW ((.bl I,o),j)):WalkO q m XP E l.row.toRowW d [] (λf B=>vu f B):=by
 refine Att.TU hn dc λw U D n mb v o pm cd S a B A G Y ho hd n5 O R k i hg=>?_;have C:=hY w _ Y;obtain⟨I',hb,fN,hF⟩:=F w n v _ C G.T.g O;have N:=L w _ Y;refine afp (TB:=TB) C G.T.g G.T.b G.T.builtins G.T.nolimit hg N (fO w) (λp t=>?_) eI (λp t=>?_) R k (lV i<|by decide) hk hF hb (λH J hS=>?_) λH e s' z=>z
 .obtain⟨c,hc⟩:=fN p t;obtain⟨o,B,_,_,_,_,_,_,_,V,W,X,Z,_⟩:=codeHd_of_K C hc;exact⟨c,o,B,V,W,X,Z⟩
 .obtain⟨P,ob,h1,h2,r,h4,h5,y⟩:=G.T.bmain;refine⟨P,ob,h1,h2,λz=>?_,λz=>?_,r,h4,h5,y⟩
  .obtain⟨o',es,ep,e,dd,_⟩:=G.T.g;rw[z,e]at r;cases r;rw[dd]at y;cases y
  rw[z,N p t]at r;cases r;cases y
 obtain⟨o,j,e⟩:=M A i;exact⟨λp t=>⟨#[],by rw[J.all p t];rfl⟩,Sx J.all hS e⟩
def acb(TB:List (iO×av))(U:Hp):Prop:= ∀p∈TB,TY p.2 p.1 U
def fnU{Z:ZZ}{k:Nat}{x:av}{st:bh}{N d:jB}{c:jX}{fs:FS}{f:iO}{e:mD}{TB:List (iO×av)}(F:K0 Z.K x x st f e)(S:AY N d (jb st))
  (m:∀(b:iX)(A:jm)(a:List dG)(s:iT)(U:Hp)(E:XK)(L:LL),(∀i,L.p i->i<VP d)->BH k (A.deeper<|aY x (jb st) s.heap.objs.size f b)->
   un (A.deeper<|aY x (jb st) s.heap.objs.size f b) 60->un (A.deeper<|aY x (jb st) s.heap.objs.size f b) 1->un (A.deeper<|aY x (jb st) s.heap.objs.size f b) 62->un (A.deeper<|aY x (jb st) s.heap.objs.size f b) 90->N.Nodup->
   b=e.code->acb TB U->QQ (rQ HJ Z.P Z.w Z.K Z.mg Z.base N x (jb st) f b A a s U E).Iy (λi=>i∈c) L U (mm st) fs):
  D9 Z.P Z.w Z.K Z.mg Z.base HJ (k+1) f e d (spT TB<|KG Z.K<|AV (VP N) (VP d) c fs):=by
 obtain⟨q,r,kV,j,u,an,b,ct,t,rfl,lk,n⟩:=F.ex;refine PK lk n S (λo U Q E h=>Je h.2) λA a s U o Q E g h=>?_;obtain⟨L,h1,l⟩:=Nx h.2;have:=g.un;exact⟨_,((m b A a s U E L h1 g (by unfold un;omega) (by unfold un;omega) (by unfold un;omega) (by unfold un;omega) S.nd H h.1).h).Iy,l⟩
def ab8{Z:ZZ}{k:Nat}{x q:av}{st:bh}{N e:jB}{asg:jX}{fs:FS}{f c d:iO}{g:mD}{TB:List (iO×av)}(F:K0 Z.K x x st f g)(u:g.code=.ref c)(n:CodeHd Z.base c d)(m:Z.base.BuiltinsAt Z.mg d)(y:ap≠d)(z:(d,q)∈TB)(S:AY N e (jb st))
  (t:∀(f:iO)(b:iX)(A:jm)(a:List dG)(s:iT)(Q:Hp)(E:XK)(L:LL),(∀i,L.p i->i<VP e)->BH k (A.deeper<|aY x (jb st) s.heap.objs.size f b)->
   un (A.deeper<|aY x (jb st) s.heap.objs.size f b) 60->un (A.deeper<|aY x (jb st) s.heap.objs.size f b) 1->un (A.deeper<|aY x (jb st) s.heap.objs.size f b) 62->un (A.deeper<|aY x (jb st) s.heap.objs.size f b) 90->N.Nodup->
   OE (rQ HJ Z.P Z.w Z.K Z.mg Z.base N x (jb st) f b A a s Q E).Iy d->QQ (rQ HJ Z.P Z.w Z.K Z.mg Z.base N x (jb st) f b A a s Q E).Iy (λi=>i∈asg) L Q (mm st) fs)
  (B:∀(L f:iO)(cd:iX),(aY x (jb st) L f cd).qual++"<lambda>"=q:=by exact λ_ _ _=>rfl):D9 Z.P Z.w Z.K Z.mg Z.base HJ (k+1) f g e (spT TB<|KG Z.K<|AV (VP N) (VP e) asg fs):=
 fnU F S λb A a s Q E L o T h1 h j l U v r=>t f b A a s Q E L o T h1 h j l U ⟨by show TY ((aY x (jb st) s.heap.objs.size f b).qual++"<lambda>") d Q;rw[B];exact r _ z,⟨c,v.trans u,n⟩,m,y⟩
def OR(K:Frag)(d:lJ)(x:av)(st:bh)(b:iO):Prop:= ∃f a c,d x=Y (.ref f)/\K0 K x x st f a/\a.code=.ref c/\codeHdIn K c b=I
def fzT{K:Frag}{h:jn}{g:lJ}{x:av}{st:bh}{f c d:iO}{j:iX}{m an:Option iO}{n:yx}{kV b o ct:iX}(X:K.In h)(G:h.Ns ap g)(a:nsIn K ap x=Y (Y<|.ref f))
  (l:K.lookup f=Y ⟨j,m,.func<|fnOf x x (qe st) (mm st) (jb st) .none kV b o an (.ref c) ct,n⟩)(e:codeIn K (.ref c) x=I)(k:keepIn K (.ref f)=I)(i:codeHdIn K c d=I):OR K g x st d:=⟨f,_,c,mg_of X G a,PD l e k,rfl,i⟩
def OR.cd{K:Frag}{d:lJ}{x:av}{st:bh}{b:iO}(a:OR K d x st b):∃c,codeHdIn K c b=I:=let⟨_,_,c,_,_,_,h⟩:=a;⟨c,h⟩
section
variable {X:Cx}{k:Nat}{f:iO}{g:mD}{d:jB}{x:av}{p b:bn}{e a:iW}{j:kr}{i:BI}{fs:List FO}{c:FO}{TB:List (iO×av)}
def aaF(r:X.mg "sum"=J)(m:QA X [a] [c])(n:X.calm=I:=by rfl)(q:Gl X "sum":=by rfl)(o:SE X a []:=by rfl)(l:BA X b []:=by rfl):QX X (.Call (.Name "sum" p) [a] [] b) (jA (g1 W4) [c]):=
 ⟨Jr (ae6 n) q r (by decide+kernel) m.h (by decide) (by decide) o l⟩
end
structure EE(K:Frag)(mg:lJ)(ct rs:List (av×Nat))(CR:Nat):Prop where
 m:∀p∈ct,mg p.1=TW (.ref p.2)
 mr:∀p∈rs,mg p.1=TW (.ref p.2)
 is:∀p∈rs,∀r∈ct,kitOne K (.ref p.2) (.ref r.2)=TW (p.2==r.2)
 ve:∀p∈rs,kitOne K (.ref p.2) (.type "ValueError")=TW Uf
 ck:∀p∈rs,ClK K p.2 CR
 ex:∀p∈rs,excIn K p.2 OV "ValueError.__new__"=Uf
 su:mg "sum"=T2
 vm:mg "ValueError"=T2
 re:mg "RiddleError"=TW (.ref CR)
def aN{a:Type}{P:a->Prop}:∀p∈([]:List a),P p:=λ_ h=>nomatch h
def aC{b:Type}{P:b->Prop}{a:b}{l:List b}(h:P a)(r:∀p∈l,P p):∀p∈a::l,P p:=List.forall_mem_cons.mpr ⟨h,r⟩
def KQ(ct:List (av×Nat))(z:av):Nat:=(ct.lookup z).getD 0
section
variable {Z:ZZ}{ct a:List (av×Nat)}{CR:Nat}
def N2{z:av}{U:Nat}(h:ct.lookup z=Y U):(z,U)∈ct:=qu h
def EE.x(c:EE Z.K Z.mg ct a CR)(z:av)(h:(a.lookup z).isSome=I:=by decide):ClX Z z:=by obtain⟨U,b⟩:=Mh.mp h;exact⟨U,c.mr _ (N2 b),c.ex _ (N2 b)⟩
def EE.t{K:Frag}{d:lJ}(c:EE K d ct a CR)(z:av)(h:(ct.lookup z).isSome=I:=by decide):ClT K d (a.map (·.2)) (KQ ct z) z:=by
 obtain⟨U,b⟩:=Mh.mp h;have:KQ ct z=U:=by unfold KQ;rw[b];rfl
 rw[this];refine⟨c.m _ (N2 b),λD e=>?_⟩;obtain⟨p,f,rfl⟩:=ji e;exact c.is p f _ (N2 b)
def EE.v{K:Frag}{e:lJ}(c:EE K e ct a CR):∀U∈a.map (·.2),kitOne K (.ref U) (.type "ValueError")=Y I:=λD b=>by obtain⟨p,d,rfl⟩:=ji b;exact c.ve p d
def EE.ci(c:EE Z.K Z.mg ct a CR):∀z b,a.lookup z=Y b->Z.mg z=Y (.ref b)/\ClK Z.K b CR:=λz U h=>⟨c.mr _ (N2 h),c.ck _ (N2 h)⟩
end
def ab5{K:Frag}{j:lJ}{x y:av}{st:bh}{i h:iO}(a:OR K j x st h)(l:j x=Y (.ref i))(b:LR x st [y]):∃d c,K0 K x x st i d/\d.code=.ref c/\codeHdIn K c h=I/\∀(s:iT)(v:iX),gj s d ⟨[v],[]⟩ [(y,v)]:=by obtain⟨f,d,c,m,F,h1,n⟩:=a;have e:=l.symm.trans m;cases e;refine⟨d,c,F,h1,n,?_⟩;obtain⟨p,q,kV,g,o,an,k,ct,r,e,_⟩:=F.ex;exact λs v=>by subst e;exact .of_eq<|b kV g o an k ct [v] H
section
variable {X:Cx}{x y a b c d:iW}{u v z:av}{s r q p:FO}{f k j i p4 h:bn}{o n m:Nat}{l g e:cK}
end
end PX
namespace TT
section
variable {a:jq}{w:jk}{A:jm}{E:jG}{s:iT}
end
end TT
namespace PX
open L2 PySem.SeqAt
section
variable {X:Cx}{e:iW}{f:F}{d:FO}{b g a c p:bn}{i:Nat}{x:av}
end
open PySem.W
section
variable {X:Cx}{E:XK}{A:kB}{c iter:iW}{a:List bh}{d:EG}{t:Tg}{e:FS}{x:XS}{b:bn}
end
section
variable {X:Cx}{k:iW}{c:FO}{a b:bn}{j:Nat}
end
section
variable {X:Cx}{b:jK}{d:L2.St}{H:Hp}{s:iT}
variable {a:iW}{g:FO}{c p:bn}{k:iW}{f:FO}{e:bn}{j:Nat}
end
end PX
namespace TT
open PySem.SeqAt
def CH:gW t8 "dict.update.loop"=Y bc.«dict.update.loop»:=entryFor_of_tree (by kernel_rfl)
def ur:plainId "dict.update.loop"=I:=by decide+kernel
section
variable {prog:jq}{w:jk}{A:jm}{R:mo->Shared->Prop}{I:iO}{c a:kW}{G:Array eD->Array eD->Prop}{n:Nat}{P:Nat->iX->Prop}{St:Nat->Shared->Prop}
def ae3(W:WalksS prog w A.in1 I c a G n P St)(S:iO)(B:S∉c)(s0:iT)(j:Nat->jn->Prop)(BG:∀i h f,j i h->(∀o,h.get? S=TW o->f.get? S=TW o)->j i f)
  (step:∀i v (d:iT),i<n->P i v->j i d.heap->pc (S::a) G s0 d->∃p k x,v=.ref p/\d.heap.IsTuple p #[k,x]/\∀(Q:Unit->Shared->Prop)(E:jG),(∀f z,d.toks<=z->aE S d.heap f->j (i+1) f->Q () {d with heap:=f,toks:=z})->ah (ai prog w) A.in1 (No S k x) Q E d):
  ∀(k i:Nat)(s:iT),n-i=k->i<=n->St i s->j i s.heap->pc (S::a) G s0 s->(∀d,pc (S::a) G s0 d->j n d.heap->R (.ok<|.ret .none) d)->
   cg (ai prog w) A (.builtin "dict.update.loop" ⟨[.ref S,.ref I,cu i,.none],[]⟩) R s:=by
 have H:S∉a:=λh=>B<|W.sub _ h;have T:∀b∈a,b∈S::a:=λb l=>kE _ l;intro k
 induction k with
 |zero=>
  intro i s hk V y t q r;have U:i=n:=by lia
  subst U;refine qp CH ?_;rw[uN ur _];show ah _ A.in1 (cA (.ref I)>>=_) _ _ s;refine iP<|W.done s _ _ y λd m=>?_;show ah _ A.in1 (z0 S []>>=λ_=>ret au) _ _ d;exact iP<|je<|je<|r d (C9 W.gtrans q<|m.mono T)<|BG _ _ _ t λo e=>m.heap S o H e
 |succ k ih=>
  intro i s hk V y t q r;have u:i<n:=by lia
  refine qp CH ?_;rw[uN ur _];show ah _ A.in1 (cA (.ref I)>>=_) _ _ s;refine iP<|W.item i s _ _ u y λv d D N m=>?_;have C:=C9 W.gtrans q<|m.mono T;obtain⟨p,O,x,rfl,X,g⟩:=step i v d u D (BG _ _ _ t λo e=>m.heap S o H e) C;show ah _ A.in1 (cf [.ref p] _>>=_) _ _ d;refine iP<|mz ?_;obtain⟨o,L,K,n',Y⟩:=X;have F:d.TypeIs (.ref p) "tuple":=⟨o,L,K⟩
  refine iP<|wpAny_tryCatch ?_;unfold zn;refine iP<|vZ F ?_;show ah _ _ (seqItems? (.ref p)>>=_) _ _ _;refine iP<|vR L Y ?_;refine je ?_;show ah _ _ (cf [O,x]<|No S O x) _ _ _;refine mz<|g _ _ λf z M J Z=>?_;refine je ⟨sZ ur _,ih (i+1) _ (by lia) u (W.frame _ d _ _ N M λb l o e=>?_) Z (C.then_heap M λb o l e=>?_) r⟩
  .rw[J.2 b λh:b=S=>B<|by rw[<-h];exact l];exact e
  rw[J.2 b λh:b=S=>l<|by rw[h];exact kx];exact e
end
end TT
namespace PX
open L2 PySem.SeqAt TS
section
variable {prog:jq}{w:jk}{A:jm}{E:jG}{s:iT}
def Sj:gR (.type "list") "keys"=pure J:=by rw[GL,GK];kernel_rfl
def WJ{a:iO}{o:e6}{q:nZ}{k:Nat}{Q:B9}(n:s.heap.get? a=Y o)(m:o.cls=.type "list")(i:o.data=.seq q k)(hd:o.dict=J)(t:A.handled=J)
  (h:∀b p e,Heap.NewExcOf s.heap b e "AttributeError"->Q J {s with heap:=b,toks:=p}):ah (ai prog w) A (Do (.ref a) "keys") Q E s:=by
 obtain⟨c,dct,r,v⟩:=o;simp only at m i hd;subst m i hd;obtain⟨u,g,d,p,os⟩:=s;have l:∀f,(⟨u,g,d,f,os⟩:Shared).TypeIs (.ref a) "list":=λ_=>⟨_,n,rfl⟩
 have f1:=sub_AttributeError;have x:=QJ.lookup;have y:=QJ.bind<|.ref a;have z:=am_list_getattr_none;unfold Do getAttrBy? getAttrBy
 repeat (any_goals (first|assumption|exact l _|((with_reducible show ah _ _ (call (cP "list.__getattribute__") _ _) _ _ _);refine vY QJ (l _) am_entry_list_getattribute (F.args_list_getattribute_2 _ _) (meets_getattribute_miss_list a q k v "keys" _ Sj (by decide+kernel)) ⟨n,t,λb f e j=>?_⟩)|wp_step))
 obtain⟨U,T,B⟩:=j.there;show ah _ _ (sx _ _ _ _ _ _ _) _ _ _;unfold sx
 repeat (any_goals (first|assumption|wp_step))
 exact h _ _ _ j.of
end
end PX
namespace TT
open PySem.SeqAt
section
variable {prog:jq}{w:jk}{A:jm}{E:jG}{s:iT}
noncomputable abbrev Gx:Obj:={cls:=.type "dict",data:=.dict #[]}
def TJ{l:iO}{items:nZ}{n:Nat}{m:e6}{Q:jG}(O:A.handled=T2)(T:s.heap.get? l=TW m)(r:m.cls=.type "list")(z:m.data=.seq items n)(eu:m.dict=T2)(g:Nat->jn->Prop)
  (BG:∀i h c,g i h->(∀o,h.get? s.heap.objs.size=TW o->c.get? s.heap.objs.size=TW o)->g i c)
  (oR:∀c,c.get? s.heap.objs.size=TW Gx->g 0 c)
  (step:∀i v (a:iT) (B:jm),B.units<=A.units+20->items[i]?=TW v->g i a.heap->(∀b o,s.heap.get? b=TW o->a.heap.get? b=TW o)->a.gens=s.gens->a.drawn=s.drawn->a.os=s.os->
   ∃p k x,v=.ref p/\a.heap.IsTuple p #[k,x]/\∀(Q:Unit->Shared->Prop)(E:jG),(∀c q,a.toks<=q->aE s.heap.objs.size a.heap c->g (i+1) c->Q () {a with heap:=c,toks:=q})->ah (ai prog w) B (No s.heap.objs.size k x) Q E a)
  (h:∀(c:jn)(q:Nat),g items.size c->(∀b o,s.heap.get? b=TW o->c.get? b=TW o)->Q (.ref s.heap.objs.size) {s with heap:=c,toks:=q}):
  ah (ai prog w) A (call (.type "dict") [.ref l]) Q E s:=by
 refine Fk (Q₁:=λobj f=>obj=.ref s.heap.objs.size/\f={s with heap:=s.heap.push Gx}) F.kt_called_dict (F.kt_typeCall_dict_1 _) F.entry_dict_init (kt_code_dict_new _ ⟨rfl,rfl⟩) ?_;rintro obj f ⟨rfl,rfl⟩;have H:(s.heap.push Gx).get? s.heap.objs.size=TW Gx:=kD _ rfl;have L:dF {s with heap:=s.heap.push Gx} (.ref s.heap.objs.size) "dict":=⟨_,H,rfl⟩
 have t:(s.heap.push Gx).get? l=TW m:=kb _ T;have y:dF {s with heap:=s.heap.push Gx} (.ref l) "list":=⟨_,t,r⟩
 refine⟨L,F.args_dict_init_2 _ _,?_⟩;unfold bc.«dict.__init__»;refine iP ?_;unfold y9;refine iP<|Mu L ?_;show ah _ _ (pure (s.heap.objs.size,[bU l])) _ _ _;refine je ?_;show ah _ _ (fH "dict.__init__" s.heap.objs.size (.ref l) [] .none) _ _ _;unfold fH;refine iP<|vZ y ?_;rw[jh<|by decide];refine iP<|PX.WJ t r z eu (by simp[O]) λh1 dw e1 u=>?_;have j:h1.IsList l items:=⟨_,u.keeps _ _ t,r,n,z⟩
 have C:=u.keeps _ _ H;have gJ:l<s.heap.objs.size:=ki T;have I:s.heap.objs.size<h1.objs.size:=ki C;have M:l≠h1.objs.size:=by lia
 have N:s.heap.objs.size∉[h1.objs.size,l]:=by simp;lia
 have R:A.in1.in1.handled=T2:=by simp[O]
 have W:=Du (prog:=prog) (w:=w) R h1.objs.size l M items;show ah _ _ (rule _>>=λ_=>c5 (.ref l)>>=λit=>again<|.builtin "dict.update.loop" ⟨[.ref s.heap.objs.size,it,cu 0,.none],[]⟩) _ _ _;refine iP<|sL ?_;refine iP<|xR j ?_;refine je ⟨sZ ur _,?_⟩
 have ext:∀{G:Array eD->Array eD->Prop}{s0 a:iT},(∀b o,h1.get? b=TW o->s0.heap.get? b=TW o)->pc (s.heap.objs.size::[h1.objs.size]) G s0 a->∀b o,s.heap.get? b=TW o->a.heap.get? b=TW o:=λ{G s0 a} V d b o e=>by have hb:=ki e;exact d.heap b o (by simp;lia)<|V _ _ (u.keeps _ _ (kb _ e))
 refine ae3 W.toS s.heap.objs.size N _ g BG ?st (items.size-0) 0 _ (by lia) (mn _) ⟨⟨_,kD _ rfl,rfl,rfl⟩,j.push _⟩ (oR _ (kb _ C)) (vv λ_=>rfl) ?hR
 case st=>exact λi v a hi X Z d=>step i v a _ (by show A.units+1+1<=A.units+20;lia) X Z (ext (λ_ _ e=>kb _ e) d) d.gens d.drawn d.os
 case hR=>intro a d y4;have ex:=ext (λ_ _ e=>kb _ e) d;obtain⟨c,S,Y,J,U⟩:=a;have K:S=s.gens:=d.gens;have D:Y=s.drawn:=d.drawn;have P:U=s.os:=d.os;subst K;subst D;subst P;exact⟨rfl,h c J y4 ex⟩
end
end TT
namespace PX
open L2 PySem.SeqAt
def kyT:D->Option (List Key)
 |.tup [k,.bl I]=>za k
 |_=>J
def Lw:List D->Option (List<|List Key)
 |[]=>Y []
 |d::l=>(kyT d).bind λk=>(Lw l).map (k:: ·)
def AS:D->Option (D×Bool)
 |.lst l=>(Lw l).bind λa=>if (VP a)<=1000/\a.Nodup then Y (.AE .dct (a.map λk=>.tup (k.map lO))<|a.map λ_=>.bl I,I)else J
 |_=>J
noncomputable abbrev Nw(a:List (List Key)):List (List Key×V):=a.map λk=>(k,V.bl I)
def SH:∀{l:List D}{a:List (List Key)},Lw l=Y a->VP l=VP a/\∀(i:Nat) k,a[i]?=Y k->∃d,za d=Y k/\l[i]?=Y (.tup [d,.bl I]):=by
 intro j
 induction j with
 |nil=>intro a h;cases h;exact⟨rfl,λi p h=>by simp at h⟩
 |cons d l g=>
  intro a h;obtain⟨p,h1,h⟩:=iR h;obtain⟨m,f,rfl⟩:=jM h;obtain⟨c,e⟩:=g f;refine⟨by simp[c],λi q b=>?_⟩
  cases i with
  |zero=>
   simp at b;subst b;unfold kyT at h1;split at h1
   .exact⟨_,h1,rfl⟩
   cases h1
  |succ i=>simpa using e i q (by simpa using b)
def ZN{P:jq}{w:jk}{U:Hp}{h:jn}(ok:Em P w U h):∀{l:List (List Key×V)}{m:List (List Key×iO×iX)},L2.KT U l m->∀x∈m,(cp<|ky P w).is h x.1 x.2.1:=by
 intro l m q
 induction q with
 |nil=>intro x a;exact nomatch a
 | @cons p q d f b t c=>
  intro x a;rcases nH.mp a with e|a
  .subst e;exact rK ok (by rw[<-b.1];exact b.2.1)
  exact c x a
def JZ{U:Hp}{l:List (List Key×V)}{m:List (List Key×iO×iX)}(q:L2.KT U l m):m.map (·.1)=l.map (·.1):=by
 induction q with
 |nil=>rfl
 |cons a t b=>rw[kM,kM,b,a.1]
def SJ{U:Hp}{l:List (List Key×V)}{m:List (List Key×iO×iX)}{p q}(h:L2.KT U l m)(a:p.1=q.1/\U q.2.1=Y (.tup<|p.1.map kV)/\RelV p.2 q.2.2):L2.KT U (l++[p]) (m++[q]):=by
 induction h with
 |nil=>exact .cons a .nil
 |cons h t b=>exact .cons h b
def SM{U b:Hp}{l:List (List Key×V)}{m:List (List Key×iO×iX)}(c:∀a u,U a=Y u->b a=Y u)(h:L2.KT U l m):L2.KT b l m:=by
 induction h with
 |nil=>exact .nil
 |cons h t d=>exact .cons ⟨h.1,c _ _ h.2.1,h.2.2⟩ d
def VC{K:jr}{U:Hp}{O:AB}:∀a:List (List Key),YP K U O (a.map λ_=>.bl I) ((Nw a).map (·.2)):=by
 intro c
 induction c with
 |nil=>exact YP.nil
 |cons _ a b=>exact YP.cons Rep.Ib<|b
def DIs(P:jq)(w:jk)(U:Hp)(S:iO)(c:List (List Key))(h:jn):Prop:= ∃m:List (List Key×iO×iX),L2.KT U (Nw c) m/\∃o a b,h.get? S=Y o/\o.ExactDict/\o.data=.dict a b/\a.toList=m.map (sB<|cp<|ky P w)/\(m.map (·.1)).Nodup
section
variable {X:Cx}
def ad6(hu:X.A.units+62<aV)(hc:X.calm=Uf):kL X (.type "dict") (Ga X.K<|g1 AS):=nC λy s σ H x u Q O d z I ru np hd C G=>by
 cases d with
 |lst l=>
  obtain⟨f,fF,C⟩:=iR C;obtain⟨⟨hz,Y⟩,rfl⟩:=jz C;obtain⟨p,xs,rfl,q,r⟩:=kU hd;cases ru;obtain⟨n,v,⟨ol,nn,bX,bM,eu,dA⟩,_⟩:=I.list q;obtain⟨e0,cX⟩:=SH fF;have e1:=r.length;have e2:=v.length;have hh:X.A.handled=J:=I.ok.hd hc;have F:=I.fresh
  refine TT.TJ hh bX bM dA eu (λi h=>DIs X.prog X.w H s.heap.objs.size (f.take i) h)
   (λi h h' ⟨m,k,o,J',T,e,c⟩ st=>⟨m,k,o,J',T,st _ e,c⟩) (λh' e=>⟨[],.nil,_,#[],0,e,⟨rfl,rfl,rfl⟩,rfl,rfl,rY⟩) (λi w s' B hB hi ⟨m,hk,hd⟩ E eg ed eo=>?_) (λh' tk ⟨m,hk,hd⟩ E=>?_)
  .have gL:i<n.length:=by have:=(Kw.mp hi).1;simpa using this
   have hw:n[i]?=TW w:=by simpa using hi
   have V:f[i]?=TW f[i]:=lq (by lia);have P:xs[i]?=TW xs[i]:=lq (by lia);obtain⟨w',w1,w2⟩:=v.get P;rw[hw]at w1;cases w1;obtain⟨dk,N,gH⟩:=cX i _ V;have aL:Rep X.K H O (.tup [dk,.bl Uf]) xs[i]:=r.views gH P;obtain⟨h1,g1,dr1,dw,os1⟩:=s';dsimp only at E eg ed eo hd;subst eg;subst ed;subst eo;have L:Inv X y σ H {s with heap:=h1,toks:=dw}:=I.kept E;obtain⟨a,ys,ea,sq,g⟩:=lL<|.inl aL;rw[ea]at w2;cases w2;obtain⟨b8,v2,bV,_⟩:=L.tuple sq;rw[YP]at g;obtain⟨y1,r1,rfl,p1,g⟩:=g;rw[YP]at g;obtain⟨y2,r2,rfl,Z,g⟩:=g;rw[YP]at g;subst g;obtain⟨b,rfl,W⟩:=oZ N<|.inl p1;rw[Rep]at Z;subst Z;obtain⟨u1,u2,rfl,gc,fZ⟩:=uP v2;cases gc;refine⟨a,_,_,rfl,bV,λQ' E' hq=>?_⟩;obtain⟨o,J',T,g1,g2,g3,g4,g5⟩:=hd
   have hm:f[i]∉m.map (·.1):=by rw[JZ hk];intro R;rw[ll]at R;obtain⟨x,hx,e⟩:=ji R;obtain⟨j,U,S⟩:=zS hx;rw[se]at U;rw[List.getElem_take]at S;have i6:=Qz.mp Y j i (by lia) (by lia) (by lia);exact i6<|S.trans e
   have ie:gA m f[i]=J:=atKey_none_of_get λj p' U=>hm<|sh.mpr ⟨_,mZ U,rfl⟩
   have hml:m.length<=1000:=by have:=oA cZ<|JZ hk;simp at this;lia
   refine wpAny_dictSet_heap (knd:=cp<|ky X.prog X.w) (k:=f[i]) (show(cp<|ky X.prog X.w).room B from(by show B.units<aV;lia)) (rK L.hok W) (xs:=m) ⟨o,J',T,g1,g2,g3,g4,ZN L.hok hk,g5⟩ (λh2 t n4=>hq h2 _ (Nat.le_add_right _ _) n4 ?_) (by rw[kj];lia);rw[storedH_new ie]at t;obtain⟨o',M,eM,k1,k2,k3,k4,_,k5⟩:=t;refine⟨_,?_,o',M,eM,k1,k2,k3,k4,k5⟩;rw[zP,V];show L2.KT H (gq _ (f.take i++[f[i]])) _;rw[pU];exact SJ hk ⟨rfl,W,fZ⟩
  have D:n.toArray.size=f.length:=by simp;lia
  rw[D,GG]at hk;refine⟨.ref s.heap.objs.size,upd H s.heap.objs.size<|.dT<|Nw f,I.laid E (kg _) ⟨?_,?_,m,SM (λa u e=>by rw[jx<|lI e F];exact e) hk,hd⟩,rfl,?_⟩
  .rw[ke,kj];lia
  .have:=I.big;simp
   lia
  refine G s.heap.objs.size _ F (lM F) ⟨(Nw f).map (·.2),.inr ⟨Nw f,ju,?_,rfl⟩,?_⟩
  .rw[ll];rfl
  exact VC _
 |_=>cases C
variable {a:iW}{g:FO}{p f:bn}
def aaS(k:X.A.units+62<aV)(j:X.mg "dict"=J)(c:QA X [a] [g])(d:X.calm=I:=by rfl)(i:Gl X "dict":=by rfl)(e:SE X a []:=by rfl)(b:BA X f []:=by rfl):QX X (.Call (.Name "dict" p) [a] [] f) (jA (g1 AS) [g]):=
 ⟨DY (ad6 k d) i j (by decide+kernel) c.h (by decide) (by decide) e b⟩
end
section
variable {K:jr}{T g:AB}{d:L2.St}{e c:Dn}{H h i:Hp}{os:List BU}{f:List V}{b:List (D×Bool)}{a:Dn}{r:D×Bool}{v:V}
end
section
variable {X:Cx}{e:iW}{d:kr}{fs:List FO}{a p:bn}{k:Nat}{b:jB}{c:BI}{x:av}
end
open PySem.W
section
variable {X:Cx}{P:jq}{w:jk}{a:List dG}{g:Hp}{s0:iT}{E:XK}{k:Nat}{d:jB}{c:List D->Option av}{e:iW}{f:kr}{fs:List FO}{z:av}{p b:bn}
end
section
variable {X:Cx}{t c:iO}{a:bA}{b:iW}{scope:jS}{d o p:bn}{q:Nat}{v u:jB}{xB:XS}{f:FS}{w:av->Option Nat}{e:jX}{st:bh}{r:iO}{s:mD}{m n h g l:av}{CR:iO}{i j k:Nat}
end
end PX
namespace L2
open PySem.W
section
variable {X:Cx}{b:jK}{f:St}{H:Hp}{s:iT}{P c:iO}{a:bA}{d:List bh}{g q:av}{ln:Nat}{scope:jS}{h:lb}{e:bn}
end
section
variable {h:KD}{P:jq}{w:jk}{K:Frag}{e:lJ}{base:jn}{N:jB}{c d q:av}{scope:jS}{f:iO}{cd:iX}{g:lb}{A:jm}{a:List dG}{s:iT}{H:Hp}{E:XK}{b:St}{v:V}{u:iX}
end
section
variable {fs:kW}{N:jB}{c q:av}{scope:jS}{f:lb}{H g:Hp}{h d:jn}{a:bA}{b:List bh}{e:iO}
end
end L2
namespace PX
open L2 PySem.SeqAt PySem.W
section
variable {X:Cx}{A:kB}{L:LL}{w:Hp}{N:jB}{f n q e g d:av}{scope:jS}{v:lb}{h:List V}{a:bA}{b:List bh}{s:iO}{k i j o:Nat}{r:jX}{t:BI}{z:L2.St}{p m l u c:bn}
end
end PX
namespace L2
open PySem.W
end L2
namespace PX
open L2 PySem.SeqAt PySem.W
section
variable {X:Cx}{A:kB}{L:LL}{I:Hp}{C c y:iO}{b:bA}{f:List bh}{scope:jS}{j d B u w v:bn}{e g h:jX}{H E:jB}{n l:FS}{st:bh}{z:mD}{t r s x q p o:av}{i a k m:Nat}
end
open PySem.Builtin.Str
section
variable {X:Cx}
end
section
variable {X:Cx}{o e a:iW}{k l:FO}{b v:av}{d p c i h g f:bn}{j:Nat}
end
section
variable {K:jr}{T:AB}{b:L2.St}{c:Dn}{H:Hp}{A:kB}{i j:Nat}{d:D}{a:iO}
end
section
variable {X:Cx}{A:kB}{L:LL}{d:Hp}{b a c:bn}{i j:Nat}{x y:av}
end
end PX
namespace TT
open PySem.SeqAt
section
variable {a:jq}{w:jk}{A:jm}{E:jG}{s:iT}
end
end TT
namespace PX
open L2 PySem.SeqAt TS
section
variable {X:Cx}{a:jK}{b:L2.St}{H:Hp}{s:iT}
end
section
variable {X:Cx}
end
end PX
namespace TT
def XE{a:jq}{w:jk}{A:jm}{E:jG}{s:iT}{Q:jG}(h:Q (.ref s.heap.objs.size) {s with heap:=s.heap.push (lh #[] 0 (mh w))}):ah (ai a w) A (Db<|.type "set") Q E s:=by
 unfold Db gS;obtain⟨b,g,d,c,os⟩:=s;dsimp only;refine iP<|iP<|vn<|je ?_;dsimp only;simp only[newObj]
 first
  |exact iP<|Dz<|je h
  |exact iP<|je<|iP<|Dz<|je h
end TT
namespace PX
open L2 PySem.SeqAt
def P0(a:jX)(k:Nat)(c:EG)(d:Tg)(ti:FT)(b:FB):F:=Il J a k c d ti b
section
variable {X:Cx}{A:kB}{d:iO}{j:iW}{f:F}
variable {c:oM}{b:oN}{scope:jS}{e:bn}{p:jB}{a:jX}{k:Nat}{n:EG}{l:Tg}{ti:FT}{m:FB}
def VM(T:EL X p scope a k)(v:X.calm=I)(u:c.is_async=0)(y:∀s,b[0]?=Y s->s.is_async=0)
  (w:∀x,aw c.iter X.env x=pure x)(B:LH X (λi=>i∉a) c.target c.iter n)
  (z:∀(cl:lb)(T:iO)(E:iT)(t:Hp)(fp:kW)(q:jK),let r:=X.comp p scope cl T E t fp q
   LQ r (λi=>VP a<=i) c.target l/\KS r c.ifs (tT X.K ti)/\∀d,PB r (jT (.SetComp j (c::b) scope e) 0 (.ref d) r.env)<|IF J X.K (λi=>VP a<=i) d m):
  PX X (.SetComp j (c::b) scope e) (P0 a k n l ti m):=PX.imp (D2 (fp:=c.iter.pos) (new:=Db<|.type "set") (o:=.AD []) (g:=tG X.K (λi=>VP a<=i) l) (ti:=tT X.K ti) (tb:=λd=>IF J X.K (λi=>VP a<=i) d m) T.N0 v u y w B z (λ_ _ _ k=>TT.XE<|k _ λ_=>⟨#[],0,_,kD _ rfl,.nil,TT.BQ.fresh _ _ _,rfl,rfl⟩) (.inr ⟨_,_,_,_,rfl⟩) (hev:=by cases c;rfl)) λU O Q h=>yw (S:=J) h
end
def vO(f:F):FB:=λa δ=>(f δ).bind λp=>if a.all HE=I/\HE p.1.1=I/\(VP a)<500 then Y (rW a p.1.1,p.2)else J
section
variable {X:Cx}{A:kB}{d:iO}{c:iW}{f:F}
def afb{h:oN}{Y:jS}{p:bn}{depth:Nat}(hu:X.A.units+90<aV)(hn:h[depth+1]?=T2)(he:PX X c f):PB X (jT (.SetComp c h Y p) depth (.ref d) X.env) (IF T2 X.K A d<|vO f):=by
 intro w s m H N I hw;obtain⟨Q,T,R,k9,δ',B,e,k⟩:=hw;obtain⟨r,g,h1,e⟩:=iY e;obtain⟨⟨o1,o2,o3⟩,e⟩:=jz e;obtain⟨rfl,rfl⟩:=sH e
 have W:jT (.SetComp c h Y p) depth (.ref d) X.env=(do let v <-aX c X.env;cQ c.pos;let _ <-call (.builtin "set.add") [.ref d,v]):=by unfold jT;simp -iota only[clausesOf.eq_def];rw[hn]
 rw[W];refine iP<|Ak (he w s m H (λy j=>BF X.K T m Q H r g y j) I ⟨Q,T,r,g,B.er,h1,λv j P=>P⟩) ?_;rintro u s1 ⟨y,j,E,ru,P⟩;obtain⟨C,U⟩:=P.rep B.er;have G:SK A m Q H m g j:=P.1.sk;have D:=B.step G C;obtain⟨us,M,q3⟩:=D.at';obtain⟨es,n,t,l,S⟩:=D8.Nk E M q3;refine iP<|tH<|iP ?_;refine pY PySem.F.slot_set_add ⟨_,S.is.at_,rfl⟩ PySem.F.entry_set_add ?_<|PySem.F.args_set_add_2 _ _;unfold bc.«set.add» pC;simp only[dL,vo];unfold eO;refine iP<|je ?_
 try dsimp only
 refine iP<|je ?_
 try dsimp only
 refine iP<|Bu.add E S o1 (.inl U) U ru o2 o3 (by show X.A.units+1+60<aV;lia) λb h' tk Z n' t' L ht n4 x=>?_;show ah _ _ (ret au) _ _ _;have O:T d:=B.td;have kp:∀(J:HO) b u,j b=TW u->¬(X0 m g b\/T b)->upd j d J b=TW u:=λJ b u e n=>by rw[jx<|by intro z;subst z;exact n<|.inr O];exact e
 obtain⟨V,z1,z2⟩:=x.AE (K:=X.K) (H':=upd j d<|.AD<|L.map hv) (O':=λa=>X0 m g a\/T a) (λp hp=>Rep.mono (kp _) (λ_ _ z=>z)<|x.rep p hp) ju;refine je ⟨_,rfl,je ⟨m,upd j d<|.AD<|L.map hv,?_,k m _ ?_ ?_⟩⟩
 .obtain⟨us2,zs2,g4,_⟩:=M;exact uG (t':=tk) E (by rw[g4];exact bb) n4 ⟨_,x.is.at_⟩ x.LZ
 .have:KI A d m g j m g (upd j d<|.AD<|L.map hv):=⟨λa o e n nd=>by rw[jx nd];exact e,λi a z=>.inl z,λa z=>by
   by_cases q:a=d
   .subst q;rw[ju];simp
   rw[jx q];exact z,λ_ _=>rfl⟩
  exact G.LX.trans this
 refine⟨C.mono (λb o e n=>by rw[jx<|by intro z;subst z;exact n O];exact e) (λ_ _ z=>z) λa z=>?_,O,V,?_,?_⟩
 .by_cases q:a=d
  .subst q;rw[ju];trivial
  rw[jx q];exact C.dom a z
 .exact z1
 exact z2
end
def aaI{X:Cx}{g:iW}{f:F}{k:Nat}{l:bn}{c:oM}{scope:jS}{m:EG}{tt:Tg}{n:FT}{e:jX}(t:X.A.units+90<aV)(w:QI X (λi=>i∉e) c.target c.iter m)
  (u:P4 X e [c] scope λU=>QG U (λi=>VP e<=i) c.target tt/\QF U c.ifs n/\QX U g f)
  (T:rT X.N X.env.scope scope (cN X.N e [c]) e k=I:=by kernel_rfl)(v:decide (cN X.N e [c]).Nodup=I:=by kernel_rfl)
  (r:X.calm=I:=by rfl)(q:c.is_async=0:=by rfl)(s:∀x,aw c.iter X.env x=pure x:=by intro _;rfl):
  QX X (.SetComp g [c] scope l) (P0 e k m tt n<|vO f):=
 ⟨VM (Bo H H T) r q (by intro z h;cases h) s w.h λcl T y o p j=>let⟨a,b,c⟩:=u cl T y o p j<|zK v;⟨a.h,b.h,λd=>afb t H c.h⟩⟩
open PySem.W
section
variable {X:Cx}{A:kB}{L:LL}{H0:Hp}{N:jB}{v I q u w s:av}{scope:jS}{M:lb}{y:List V}{b:bA}{e:List bh}{T:iO}{k i j O:Nat}{Q:jX}{G:BI}{z:L2.St}{p E C J h:bn}
variable {U:iO}{c B H:bn}{d f g:jX}{N' Y:jB}{n:FS}{l:BI->FS}{st:bh}{x t r o:av}{a m:Nat}
end
def FZ:D->Option (D×Bool)
 |.lst l|.tup l=>if l.all HE=I/\(nB l).length<500 then Y (.AE .set []<|nB l,I)else J
 |_=>J
section
variable {X:Cx}
def ae7(j:X.calm=I)(m:X.A.units+90<aV):kL X (.type "set") (Ga X.K<|g1 FZ):=nC λn s p T x u Q O d z U o np hd f G=>by
 cases d with
 |lst l=>obtain⟨⟨a,b⟩,rfl⟩:=jz f;exact ND j U o hd (.inl H) a b G λU S g c rw i h e k=>Bu.add U S g (.inl c) c rw i h (e m) k
 |tup l=>obtain⟨⟨a,b⟩,rfl⟩:=jz f;exact ND j U o hd (.inr H) a b G λU S g c rw i h e k=>Bu.add U S g (.inl c) c rw i h (e m) k
 |_=>cases f
end
def prD:D->Option (Int×Int)
 |.tup [.int k,.int x]=>Y (k,x)
 |_=>J
def K6:List D->Option (List<|Int×Int)
 |[]=>Y []
 |d::l=>(prD d).bind λp=>(K6 l).map (p:: ·)
def Au(a:List (Int×Int))(p:Int×Int):List (Int×Int):=if(a.any λq=>decide<|q.1=p.1)=I then a.map (λq=>if q.1=p.1 then(q.1,p.2)else q)else a++[p]
def pK(a:List (Int×Int)):List (Int×Int):=a.foldl Au []
def Et:D->Option (D×Bool)
 |.lst l=>(K6 l).bind λa=>if (VP a)<=1000 then Y (.AE .dct ((pK a).map λp=>.int p.1)<|(pK a).map λp=>.int p.2,I)else J
 |_=>J
abbrev Kz(a:List (Int×Int)):List (Key×V):=a.map λp=>(.inl p.1,.int p.2)
def V2(a:List (Int×Int))(p:Int×Int):Kz (Au a p)=qh (Kz a) (.inl p.1) (.int p.2):=by
 unfold Au qh
 have h:((Kz a).any λc=>decide<|c.1=.inl p.1)=a.any λq=>decide (q.1=p.1):=by rw[Dx];congr 1;funext q;simp
 rw[h];split
 .unfold Kz;rw[ll,ll];refine qm λq _=>?_;by_cases b:q.1=p.1<;>simp[b]
 simp
def afz(a:List (Int×Int))(p:Int×Int):(Au a p).length<=VP a+1:=by unfold Au;split<;>simp
theorem A5:∀(b a:List (Int×Int)),(b.foldl Au a).length<=VP a+VP b
 |[],a=>by simp
 |p::b,a=>by have:=A5 b<|Au a p;have:=afz a p;simp;lia
def aeZ{a:List (Int×Int)}{i:Nat}{p:Int×Int}(h:a[i]?=Y p):pK (a.take<|i+1)=Au (pK<|a.take i) p:=by unfold pK;rw[zP,h,Dv];rfl
theorem Jx:∀{l:List D}{a:List (Int×Int)},K6 l=Y a->VP l=VP a/\∀(i:Nat) p,a[i]?=Y p->l[i]?=Y (.tup [.int p.1,.int p.2])
 |[],a,h=>by cases h;exact⟨rfl,λi p h=>by simp at h⟩
 |d::l,a,h=>by
  obtain⟨p,h1,h⟩:=iR h;obtain⟨g,f,rfl⟩:=jM h;obtain⟨c,e⟩:=Jx f;refine⟨by simp[c],λi q b=>?_⟩
  cases i with
  |zero=>
   simp at b;subst b;unfold prD at h1;split at h1
   .cases h1;rfl
   cases h1
  |succ i=>simpa using e i q (by simpa using b)
theorem NK{K:jr}{U:Hp}{O:AB}:∀a:List (Int×Int),YP K U O (a.map λp=>.int p.2) ((Kz a).map (·.2))
 |[]=>YP.nil
 |_::a=>YP.cons Rep.mkInt<|NK a
section
variable {X:Cx}
def ad7(hc:X.calm=Uf):kL X (.type "dict") (Ga X.K<|g1 Et):=nC λm s σ H x u Q O d z I ru np hd n G=>by
 cases d with
 |lst l=>
  obtain⟨b,fF,n⟩:=iR n;obtain⟨hz,rfl⟩:=jz n;obtain⟨p,L,rfl,q,r⟩:=kU hd;cases ru;obtain⟨g,v,⟨ol,nn,bX,Z,eu,dA⟩,_⟩:=I.list q;obtain⟨e0,cX⟩:=Jx fF;have e1:=r.length;have e2:=v.length;have hh:X.A.handled=T2:=I.ok.hd hc;have D:=I.fresh
  refine TT.TJ hh bX Z dA eu (λi h=>∃j,KV (Kz<|pK<|b.take i) j/\h.DictOf (ky X.prog X.w) s.heap.objs.size j)
   (λi h h' ⟨j,k,ob,y,t,e,c⟩ st=>⟨j,k,ob,y,t,st _ e,c⟩) (λh' e=>?_) (λi w s' B hB hi ⟨j,hk,hd⟩ o U M Y'=>?_) (λh' tk ⟨j,hk,hd⟩ o=>?_)
  .obtain⟨ob,y,t,J,c⟩:=(Heap.DictOf.new s.heap:(s.heap.push TT.Gx).DictOf (ky X.prog X.w) s.heap.objs.size [])
   rw[kD _ rfl]at J;cases J;exact⟨[],.nil,_,y,t,e,c⟩
  .have gL:i<g.length:=by have:=(Kw.mp hi).1;simpa using this
   have hw:g[i]?=Y w:=by simpa using hi
   have N:b[i]?=Y b[i]:=lq (by lia);have T:L[i]?=Y L[i]:=lq (by lia);obtain⟨w',R,S⟩:=v.get T;rw[hw]at R;cases R;have W:Rep X.K H O (.tup [.int b[i].1,.int b[i].2]) L[i]:=r.views (cX i _ N) T;obtain⟨h1,g1,dr1,dw,os1⟩:=s';dsimp only at o U M Y' hd;subst U;subst M;subst Y';have V:Inv X m σ H {s with heap:=h1,toks:=dw}:=I.kept o;obtain⟨a,ys,ea,sq,f⟩:=lL<|.inl W;rw[ea]at S;cases S;obtain⟨b8,v2,bV,_⟩:=V.tuple sq;rw[YP]at f;obtain⟨y1,r1,rfl,F,f⟩:=f;rw[YP]at f;obtain⟨y2,r2,rfl,P,f⟩:=f;rw[YP]at f;subst f;rw[Rep]at F P;subst F;subst P;obtain⟨u1,u2,rfl,gc,fZ⟩:=uP v2;obtain⟨t1,rfl⟩:=gc;refine⟨a,_,_,rfl,bV,λQ' E' hq=>?_⟩;refine wpAny_dictSet_pairs (knd:=ky X.prog X.w) (k:=.inl b[i].1) (by simp[ky,yF,g7]) hd (λh2 C n4=>hq h2 _ (xJ _) n4 ⟨_,?_,C⟩) ?_
   .rw[aeZ N,V2];exact hk.put _ fZ
   have:=hk.length;have h1:=A5 (b.take i) [];rw[<-this];unfold pK Kz;rw[ke,kj];simp only[uX,se]at h1
   lia
  have E:g.toArray.size=b.length:=by simp;lia
  rw[E,GG]at hk;have h1:=A5 b [];refine⟨.ref s.heap.objs.size,upd H s.heap.objs.size<|.dK<|Kz<|pK b,I.laid o (kg _) ⟨?_,?_,j,hk,hd⟩,rfl,?_⟩
  .unfold Kz pK;rw[ke,kj];simp at h1
   lia
  .have:=I.big;simp
   lia
  refine G s.heap.objs.size _ D (lM D) ⟨(Kz<|pK b).map (·.2),.inl ⟨Kz<|pK b,ju,?_,rfl⟩,?_⟩
  .unfold Kz;rw[ll];rfl
  exact NK _
 |_=>cases n
variable {a:iW}{f:FO}{p b:bn}
def aaR(j:X.mg "dict"=J)(d:QA X [a] [f])(e:X.calm=I:=by rfl)(i:Gl X "dict":=by rfl)(g:SE X a []:=by rfl)(c:BA X b []:=by rfl):QX X (.Call (.Name "dict" p) [a] [] b) (jA (g1 Et) [f]):=
 ⟨DY (ad7 e) i j (by decide+kernel) d.h (by decide) (by decide) g c⟩
end
def L6:bh->av
 |.FunctionDef n .. =>n
 |_=>""
def L5(s:bh):List Str:=(qe s).args.map (·.arg)
def loS(s:bh):List Str:=(jb s).names.filterMap λp=>match p.2 with|.local|.cell=>Y p.1|_=>J
def qN(k:fX)(a:List ce):=Lean.Syntax.node .none k a.toArray
def qA:=Lean.Syntax.atom .none
def qK:=Lean.Name.str `Lean.Parser.Tactic
def qM(s:String):=qN<|.str `Lean.Parser.Term s
def qH(t s:String)(a:List ce):=qN (qK t) (qA s::a)
def qT(s:String):=qH s s
def qQ(a:List ce):=qN (qK "tacticSeq") [qN (qK "tacticSeq1Indented") [qN `null a]]
def qF(l:List ce):=qT "first" [qN `null (l.map λt=>qN `group [qA "|",t])]
def qP(f:fX)(a:List ce):=if a.isEmpty then(u6 f).raw else qM "app" [u6 f,qN `null a]
def qU:=qM "hole" [qA "_"]
def qY(a:List ce):=qM "byTactic" [qA "by",qQ a]
def qB:=qY [qT "assumption" []]
def qE(f:fX)(a:List ce):=qT "refine" [qP f a]
def qG:Nat->ce
 |1=>qM "syntheticHole" [qA "?",qA "_"]
 |2=>qB
 |3=>qP `rfl []
 |4=>qY [qF [qQ [qE `aes []],qQ [qE `afQ []]]]
 |5=>qP `EE.x [qB,qU]
 |6=>qP `EE.t [qB,qU]
 |7=>qP `EE.vm [qB]
 |8=>qP `EE.v [qB]
 |_=>qP `EE.su [qB]
def qD:Nat->Nat->List ce
 |0,_=>[]
 |n+1,k=>if k=0 then[]else qD n (k / 10)++[qG<|k%10]
def Zm(l:List (fX×Nat×List (Nat×List fX))):Lean.Syntax:=
 let r:=qP `rfl []
 let w t:=qH "withReducible" "with_reducible" [qQ [t]]
 let g:=l.map λg=>
  let f:=qF<|g.2.2.flatMap λp=>p.2.map λn=>qQ [qE n<|qD 9 p.1]
  if g.2.1=0 then qQ [qE g.1 [qG 1],qA ";",w f]else qQ [qT "show" [qP g.1<|ag g.2.1 qU],qA ";",f]
 qQ [qT "repeat'" [qQ [qF (qQ [w<|qT "intro" [qN `null [qU]]]::(g++[qE `dX [qG 1,qG 1],qT "assumption" [],qH "tacticRfl" "rfl" [],qE `bv [r],qE `bj [qP `bv [r]],qE `bj [qP `bj [qP `bv [r]]],qE `bj [qP `bj [qP `bj [r]]]].map (λt=>qQ [t])))]]]
end PX
set_option backward.eqns.nonrecursive true
namespace PV
open L2 PX
noncomputable abbrev aah:Nat:=100000
abbrev RD:Nat:=6
abbrev Yz:=jg (lC<|Bf (md (wG [.int])<|iQ 0)<|Tj<|md (wG [.bool])<|iQ 0) jI
def yJ:FS:=Yz
def mJ:BI:=AV 1 1 [] yJ
def rN:FS:=jg (lC<|Bf (jo mJ [iQ 0])<|Bc .LtE .LtE (iQ 1) (iQ 0)<|iQ 2) jI
def lP:BI:=AV 3 3 [] rN
abbrev nW:=iU<|fC<|.int 1
def AX:FS:=jg (lC<|jo lP [iQ 1,nW,iQ 0]) jI
def pO:BI:=AV 2 2 [] AX
abbrev UQ:=jA (g1 Eu) [iQ 1]
def vJ:FS:=jg (lC<|Bf (jo mJ [iQ 1])<|jo pO [iQ 0,iU UQ]) jI
def nA:BI:=AV 2 2 [] vJ
abbrev oQ:=kN<|lu 1
abbrev UT:=md (wG [.tuple])<|iQ 1
abbrev Kx:=iU<|jA (g1 BP) [iQ 1]
abbrev wd:=jg (lC<|fC<|.bl C) jI
abbrev UZ:=oV<|fT UT
abbrev aaD:=jl HY Kx<|iQ 0
abbrev U8:=fT aaD
def ni:FS:=jg (EJ (Bb UZ U8) wd jI)<|jg (EJ (oV<|fT<|jA (g1 zg) [iU<|jU [0] 1 oQ (jd 1) kh<|kF<|jo nA [iQ 0,iQ 1]]) wd jI)<|jg (lC<|jl FE (iU<|uB [] 1 oQ (jd 0) kh<|EI<|jA (g1 Eu) [iQ 0])<|iQ 0) jI
def la:BI:=AV 2 2 [] ni
abbrev yQ:=iU<|fC<|.int 0
abbrev X4:=jl (AU .Gt) (iQ 1) yQ
abbrev X6:=iU<|jl HQ (iQ 1) nW
abbrev Ya:=fT X4
def yI:FS:=jg (lC<|LF Ya (jl D6 (iQ 0) X6)<|md ze<|iU<|jl D6 (iQ 0)<|iU<|jl HQ (iU<|md ze<|iQ 1) nW) jI
def nE:BI:=AV 2 2 [] yI
abbrev M9:=iU<|jA (g1 BP) [iQ 0]
def pJ:FS:=jg (EJ (fT<|jl (AU .Lt) (iQ 1) M9) (jg (lC<|jl D6 (iQ 0)<|iQ 1) jI) jI)<|jg (lC<|fC<|.int 0) jI
def lZ:BI:=AV 2 2 [] pJ
abbrev we:=fC<|.bl I
abbrev Yh:=iU<|jl LJ (iU<|fC<|.int 10)<|iU<|fC<|.int 18
def rM:FS:=jg (kQ 2<|jo lZ [iQ 0,iQ 1])<|jg (EJ (fT<|jl (AU .GtE) (iQ 2) Yh) (jg (lC<|ml [jl HQ (iQ 2) Yh,we]) jI) jI)<|jg (lC<|ml [jl BO (iQ 2)<|iU<|fC<|.int 2147483647,fC<|.bl C]) jI
def mR:BI:=AV 3 2 [2] rM
abbrev UX:=jl D6 (iQ 0) nW
abbrev xS:=iU<|jl D6 (iQ 0) yQ
def tX:FS:=jg (EJ (fT UX) (jg (kQ 2<|jl BO xS<|iQ 1)<|jg (vD 0 (jl Pz xS<|iQ 1) yQ)<|jg (rE 2) jI) jI)<|jg (vD 0 (jl BO (iU<|jl mI (iU<|jl pH xS<|iU<|fC<|.int 48271)<|iU<|fC<|.int 29)<|iU<|fC<|.int 2147483647) yQ)<|jg (kQ 3<|jl BO (iU<|jl mI (iU<|jl mI (iU<|jl pH xS xS)<|iU<|jl pH (iU<|fC<|.int 39373) xS)<|iU<|fC<|.int 7)<|iU<|fC<|.int 2147483629)<|jg (kQ 3<|jl BO (iU<|jl mI (iU<|jl pH (iQ 3)<|iQ 3)<|iU<|jl pH (iU<|fC<|.int 16807)<|iQ 3)<|iU<|fC<|.int 2147483587)<|jg (lC<|jl BO (iU<|jl Pz (iQ 3)<|iU<|fC<|.int 8)<|iQ 1) jI
def jD:BI:=AV 4 2 [2,3] tX
abbrev M8:=md ze nW
abbrev Q4:=iU<|jl mI (iQ 1) nW
abbrev U7:=iU<|jo jD [iQ 0,iU<|fC<|.int 2]
abbrev Yi:=iU<|ml [fC<|.int 1,M8]
abbrev Yu:=Ba 2<|iU<|jo jD [iQ 0,iU<|jA (g1 BP) [iQ 2]]
abbrev Va:=jl D6 Yi U7
abbrev Vb:=iU Va
def acB:FS:=jg (kQ 2<|jA (N8 .lst I) [nW,Q4])<|jg (kQ 3<|ml [])<|jg (rF (zc<|iQ 1) (jd 4)<|jg (oE<|nQ 3<|jl pH (iU Yu) Vb) jI)<|jg (lC<|jA (g1 nO) [iQ 3]) jI
def nS:BI:=AV 5 2 [2,3,4] acB
abbrev YC:=iU<|jl D6 (iQ 0)<|iU<|jl HQ (iU UQ) nW
def oU:FS:=jg (lC<|jl pH YC<|iU<|jl D6 Yi<|iU<|jA (g1 F4) [iU<|jl (AU .Lt) (iQ 1) yQ]) jI
def ly:BI:=AV 2 2 [] oU
def qZ:FS:=Yz
def lF:BI:=AV 1 1 [] qZ
abbrev Yf:=jl LJ (iU<|fC<|.int 10)<|iU<|fC<|.int 29
def aef:FS:=jg (kQ 1<|ml [fC .V0,we,fC<|.bl C,M8,fC<|.int 0,fC<|.int 1,fC<|.str "",fC<|.str "1",nG [],ml [],nG [we],ml [fC<|.int 1],UA 0 1,nG [fC .V0],nG [nG [fC<|.int 1]],Yf])<|jg (lC<|jl D6 (iU<|jl mI (iQ 1)<|iU<|ml [nG [fC<|.int 0],nG [fC<|.int 1,fC<|.int 2]])<|iU<|jo jD [iQ 0,iU<|fC<|.int 18]) jI
def oo:BI:=AV 2 1 [1] aef
abbrev yR:=Ja [jd 0,jd 1]
def lK(ev:BI):FS:=jg (EJ (fT<|md (wG [.tuple,.list])<|iQ 1) (jg (EJ (Bb (fT<|jl HY (iU<|md (wG [.tuple])<|iQ 0)<|iU UT)<|fT<|jl HY (iU<|md (wG [.list])<|iQ 0)<|iU<|md (wG [.list])<|iQ 1) wd jI)<|jg (lC<|Bf (jl FE M9 Kx)<|jA (g1 zg) [iU<|jU [] 2 (tR (iQ 0)<|iQ 1) yR kh<|kF<|jo ev [iQ 0,iQ 1]]) jI) jI)<|jg (lC<|Bf (jl FE (iQ 0)<|iQ 1)<|jl FE (iU<|md (wG [.bool])<|iQ 0)<|iU<|md (wG [.bool])<|iQ 1) jI
def jQ:Nat->BI
 |0=>λ_=>J
 |m+1=>AV 2 2 []<|lK<|jQ m
def Cz:FS:=jg (lC<|jo lP [iQ 0,yQ,nW]) jI
def pe:BI:=AV 1 1 [] Cz
def wI:FS:=jg (lC<|Bf UT<|Bf (jl FE Kx<|iQ 0)<|jA (g1 zg) [iU<|jU [] 1 oQ (jd 0) kh<|kF<|jo pe [iQ 0]]) jI
def mT:BI:=AV 2 2 [] wI
def F6:FS:=jg (lC<|jl FE YC<|iU<|LF Ya (fC<|.int 1)<|fC<|.int 0) jI
def uc:BI:=AV 2 2 [] F6
abbrev Ye:=oV<|fT<|jo la [iQ 0,iQ 1]
def oi:FS:=jg (EJ Ye (jg DU jI) jI) jI
def ma:BI:=AV 2 2 [] oi
def acN:FS:=jg (lC<|jA (g1 nO) [iU<|jA (g1 yk) [iU<|jU [1] 1 (kN<|lu 0) (jd 1) kh<|kF<|jo nE [iQ 0,iQ 1]]]) jI
def ou:BI:=AV 2 2 [] acN
abbrev QZ:=Ja [jd 2,jd 3]
abbrev X3:=jl (AU .Gt) (iQ 3) yQ
abbrev Yj:=jl HQ (iU<|jA (g1 Eu) [iQ 3]) nW
abbrev zC3:=jg (vD 1 (LF (fT X3) (lu 2)<|md ze<|iQ 2)<|iU Yj) jI
def S0:FS:=jg (kQ 1<|jA (g1 yH) [iQ 0])<|jg (rF (El 1<|lu 0) QZ zC3)<|jg (lC<|jA (g1 nO) [iQ 1]) jI
def uD:BI:=AV 4 1 [1,2,3] S0
def acO:FS:=jg (oE<|jo ma [M9,iQ 1])<|jg (lC<|jA (g1 nO) [iU<|jU [0] 1 (kN<|jo uD [iQ 1]) (jd 1) kh<|kF<|LF (fT<|jo uc [iQ 0,iQ 1]) (fC<|.int 1)<|fC<|.int 0]) jI
def lQ:BI:=AV 2 2 [] acO
abbrev YA:=fT<|jl FE U7 yQ
def wH:FS:=jg (kQ 2<|jU [0] 1 (zb nW Q4) (jd 1) YA<|kF<|jl pH (iQ 1) Vb)<|jg (EJ (fT<|jl FE (iQ 2)<|iU<|ml []) (jg (kQ 2<|ml [jl pH (iU<|jl mI nW<|iU<|jo jD [iQ 0,iQ 1]) Vb]) jI) jI)<|jg (lC<|jA (g1 nO) [iQ 2]) jI
def mB:BI:=AV 3 2 [2] wH
abbrev wg:=kF<|lu 1
abbrev U2:=jo ly [iQ 0,iQ 1]
abbrev YI:=kF<|nG [jA (g1 Eu) [iU U2],U2]
def sv:FS:=jg (kQ 2<|jU [1] 1 (kN<|lu 0) (jd 1) kh YI)<|jg (lC<|jA (g1 nO) [iU<|jU [] 2 (kN<|jA (g1 mO) [iQ 2]) yR kh wg]) jI
def kc:BI:=AV 3 2 [2] sv
abbrev aaz:=jl FE (iQ 1) yQ
abbrev Q3:=fT aaz
abbrev XY:=jo mB [iQ 0,iQ 1]
abbrev U1:=iU<|jl mI (iQ 2) nW
abbrev Yx:=jg (Fm 3 we<|iU XY) jI
abbrev zC9:=jg (EJ (fT<|jl qd (iQ 7)<|iQ 3) (jg (Fm 3 we<|iQ 7)<|jg (oE<|nQ 6<|lu 7) jI) jI) jI
def yp:FS:=jg (EJ Q3 (jg (lC<|nG [fC<|.int 0,nG []]) jI) jI)<|jg (kQ 2<|jl D6 (iU<|ml [fC<|.int 3,fC<|.int 5,fC<|.int 12])<|iU<|jo jD [iQ 0,iU<|fC<|.int 3])<|jg (kQ 3 UB)<|jg (rF (zc<|iU<|jo jD [iQ 0,U1]) (jd 4) Yx)<|jg (kQ 5<|jo nS [iQ 0,iQ 1])<|jg (kQ 6<|jl F3 (iU<|jA (g1 Es) [iQ 3])<|iU<|jl D6 (iU<|ml [fC<|.int 1,fC<|.int 0]) U7)<|jg (oj (fT<|jl HY (iQ 6)<|iU<|ml []) (jg (kQ 7<|jo kc [iU<|IA 6,iQ 5]) zC9) aah)<|jg (lC<|nG [lu 1,jA (g1 nO) [iU<|wK (iU<|jA (g1 pG) [iQ 3])<|iU<|fC<|.int 30]]) jI
def mS:BI:=AV 8 2 [2,3,4,5,6,7] yp
abbrev zC0:=iU<|jU [1,0] 1 (zc<|iQ 0) (jd 2) kh<|kF<|jl Ux (iU<|jl ZV (iQ 0)<|iU<|jl HQ X6<|iQ 2) nW
def adq:FS:=jg (lC<|jU [0] 1 (zc<|iU<|jl W5 nW<|iQ 0) (jd 1) kh<|kF<|jA (g1 nO) [zC0]) jI
def oF:BI:=AV 1 1 [] adq
abbrev IM:=md ze<|iQ 0
abbrev U0:=iU<|jl mI (iQ 0) nW
def adp:FS:=jg (lC<|jU [] 1 (zb (iU IM) U0) (jd 0) (fT<|jl HY (iQ 0) yQ)<|kF<|lu 0) jI
def nV:BI:=AV 1 1 [] adp
abbrev US:=jl qj (iQ 2)<|iQ 1
abbrev XW:=jl mI (iQ 1)<|iU<|nG [lu 2]
abbrev aaC:=jl qj (iU<|md ze<|iQ 2)<|iQ 1
abbrev U6:=fT aaC
def ym:FS:=jg (lC<|jU [0] 2 oQ (jd 1) kh<|Qp (kN<|jo nV [iQ 0]) (jd 2) (rh (fT US) U6)<|kF XW) jI
def mP:BI:=AV 2 2 [] ym
abbrev EW:=kF<|lu 2
abbrev X7:=iU<|jo ou [iQ 2,iQ 1]
abbrev U3:=kN<|jo mP [iQ 2,iQ 4]
abbrev YE:=jl FE (iU<|jA (g1 Eu) [iU<|jl D6 (iQ 1)<|iU M8])<|iQ 0
abbrev zC5:=fT<|jA (g1 zg) [iU<|jU [0,2] 1 oQ (jd 2) kh<|kF<|jl LN X7<|iQ 0]
abbrev zC4:=kQ 6<|jU [5] 1 (kN<|lu 3) (jd 1) (fT YE) wg
def yn:FS:=jg (Vv QZ<|lu 0)<|jg (kQ 4<|ml [nG []])<|jg (rF (zb nW U1) (jd 5)<|jg zC4<|jg (kQ 4<|jU [1,6] 1 U3 (jd 2) zC5 EW) jI)<|jg (rE 4) jI
def mQ:BI:=AV 7 2 [2,3,4,5,6] yn
abbrev X2:=iU<|jl D6 (iQ 1) nW
def acC:FS:=jg (lC<|LF (fT<|jl FE (iU<|jA (g1 BP) [iU UX])<|iU<|jA (g1 BP) [X2]) (jo mQ [iQ 0,X2])<|ml []) jI
def pP:BI:=AV 2 2 [] acC
def acM:FS:=jg (lC<|jo pP [iQ 0,iQ 0]) jI
def lE:BI:=AV 1 1 [] acM
abbrev Q0:=jo lQ [iQ 0,iQ 1]
def vK:FS:=jg (lC<|jA (g1 mH) [iU<|P0 [0] 1 oQ (jd 1) kh<|vO Q0]) jI
def kf:BI:=AV 2 2 [] vK
def tV:FS:=jg (lC<|jA (g1 nO) [iU<|jo kf [iQ 0,iQ 1]]) jI
def tY:BI:=AV 2 2 [] tV
def CT:List (av×Nat):=[("NoName",37),("NoBit",49),("NoTurning",61),("NoAnswer",73),("NoNumber",85),("NoClause",97),("NoPutting",109),("TooMany",121),("NoRiddle",133),("BadNote",145)]
def jZ(ct a:List (av×Nat)):FS:=(jg (EJ (fT<|jl gIs (iQ 1)<|iU<|fC .V0) (jg (lC<|fC .V0) jI) jI) (jg (kQ 3 (ml [(md (zf (a.map (·.2))<|KQ ct "NoName")<|iQ 1),(md (zf (a.map (·.2))<|KQ ct "NoBit")<|iQ 1),(md (zf (a.map (·.2))<|KQ ct "NoTurning")<|iQ 1)])) (jg (kQ 3 (jl mI (iQ 3) (iU (ml [(md (zf (a.map (·.2))<|KQ ct "NoAnswer")<|iQ 1),(md (zf (a.map (·.2))<|KQ ct "NoNumber")<|iQ 1),(md (zf (a.map (·.2))<|KQ ct "NoClause")<|iQ 1)])))) (jg (kQ 3 (jl mI (iQ 3) (iU (ml [(md (zf (a.map (·.2))<|KQ ct "NoPutting")<|iQ 1),(md (zf (a.map (·.2))<|KQ ct "TooMany")<|iQ 1),(md (zf (a.map (·.2))<|KQ ct "NoRiddle")<|iQ 1)])))) (jg (oE (nQ 3 (md (zf (a.map (·.2))<|KQ ct "BadNote")<|iQ 1))) (jg (EJ (Bb (oV (fT (md (W6 (a.map (·.2)))<|iQ 1)))<|fT<|jl HY (iU<|jA (g1 W4) [iU<|jU [] 1 (AO<|iQ 3) (jd 0) kh<|kF<|jA (g1 F4) [iQ 0]]) nW) (jg (lC<|fC<|.str "none of these") jI) jI)<|jg (kQ 4<|ml [fC<|.str "name",fC<|.str "bit",fC<|.str "turning",fC<|.str "answer",fC<|.str "number",fC<|.str "clause",fC<|.str "putting",fC<|.str "many",fC<|.str "riddle",fC<|.str "note"])<|jg (lC<|jl D6 (iQ 4)<|iU<|To 3) jI))))))
abbrev UR:=jl qj (iQ 1)<|iQ 0
abbrev aaB:=jl qj (iU<|md ze<|iQ 1)<|iQ 0
abbrev Yb:=kF<|jl mI (iQ 0)<|iU<|nG [lu 1]
abbrev U5:=fT aaB
abbrev U9:=zb nW U0
def zh:FS:=jg (kQ 1<|ml [nG []])<|jg (rF (zc<|iQ 0) (jd 2)<|jg (kQ 3<|ml [])<|jg (rF oQ (jd 4)<|jg (kQ 5<|jU [4] 1 U9 (jd 1) (rh (fT UR) U5) wg)<|jg (oE<|uC 3<|jU [4] 1 (kN<|jA (g1 mO) [iU<|jl mI (iQ 5)<|iU<|jU [] 1 (kN<|lu 5) (jd 0) kh<|kF IM]) (jd 1) kh Yb) jI)<|jg (kQ 1<|lu 3) jI)<|jg (rE 1) jI
def nk:BI:=AV 6 1 [1,2,3,4,5] zh
abbrev UW:=jg (lC we) jI
abbrev X5:=kN UX
abbrev Ys:=jl qd (iU<|jo kc [iQ 3,iQ 2])<|iQ 1
abbrev zC8:=jg (EJ (fT Ys) wd jI) jI
def oJ:FS:=jg (rF X5 (jd 3) zC8) UW
def nr:BI:=AV 4 3 [3] oJ
abbrev XR:=kF<|nG [lu 0,we]
abbrev Yd:=jo nr [iQ 0,iQ 1,iQ 2]
def ado:FS:=jg (kQ 1<|jA (g1 AS) [iU<|jU [] 1 X5 (jd 0) kh XR])<|jg (lC<|jU [0,1] 1 (kN<|jo nk [xS]) (jd 2) (fT Yd) EW) jI
def nU:BI:=AV 2 1 [1] ado
abbrev aaA:=fT<|jo mT [iQ 0,iQ 1]
abbrev U4:=oV aaA
def oK:FS:=jg (EJ U4 (jg DU jI) jI) jI
def kG:BI:=AV 2 2 [] oK
abbrev UU:=jo lE [iQ 0]
abbrev Yk:=jl FE (iU Q0)<|iQ 0
abbrev Yt:=jo kG [xS,iQ 1]
abbrev Q5:=oE Yt
def PF:FS:=jg Q5<|jg (lC<|jU [1] 1 (kN UU) (jd 1) (fT Yk) wg) jI
def nR:BI:=AV 2 2 [] PF
def aeX:FS:=jg Q5<|jg (lC<|jo kf [iQ 1,iU UU]) jI
def nD:BI:=AV 2 2 [] aeX
def oH:XS:=NU U4 (Hu "NoAnswer" (fC<|.str "that is no answer of as many names")) zNo
def kR:List D->Option Str:=LM 2 2 oH
def afP:XS:=qa kR [xS,iQ 1]
def tJ:List D->Option Str:=LM 2 2 afP
def aeJ:XS:=qa kR [xS,iQ 1]
def qw:List D->Option Str:=LM 2 2 aeJ
abbrev zC1:=nG [UQ,jl D6 (iU<|ml [jl HQ nW<|iQ 0,lu 0])<|iU<|jA (g1 F4) [iU X4]]
def zi:FS:=jg (kQ 2<|jA (g1 Et) [iU<|jU [] 2 (J6 (lu 0)<|lu 1) yR kh<|kF zC1])<|jg (lC<|jA (g1 nO) [iU<|jU [2] 1 (kN<|jA (g1 pG) [iQ 2]) (jd 1) kh<|kF<|jl Ii (iQ 0)<|iQ 1]) jI
def nq:BI:=AV 3 2 [2] zi
def sj:List (av×Nat):=[("NoAnswer",73)]
abbrev XU:=iU<|nG [fC<|.int 0,fC<|.int 1]
abbrev YG:=fT<|jA (g1 zg) [iU<|jU [] 1 oQ (jd 0) kh<|kF<|jo lF [iQ 0]]
def rg:FS:=jg (EJ (Bb UZ<|Bb U8<|oV YG) wd jI)<|jg (lC<|jA (g1 zg) [iU<|jU [] 1 oQ (jd 0) kh<|kF<|jl LN (iQ 0) XU]) jI
def lG:BI:=AV 2 2 [] rg
abbrev Yn:=iU<|CD (iQ 1) U1
abbrev Yq:=iU<|jl mI (iU<|wK (iQ 1)<|iQ 2)<|iU<|nG [lu 3]
def zj:FS:=jg (kQ 2<|jo jD [iQ 0,iU<|jl mI Kx nW])<|jg (kQ 3<|jl D6 (iU<|ml [fC<|.int 2,M8,we,fC<|.bl C,fC .V0,fC<|.str "1",nG [fC<|.int 1],fC<|.int 0,fC<|.int 1,Yf])<|iU<|jo jD [iQ 0,iU<|fC<|.int 10])<|jg (kQ 4<|ml [jl mI Yq Yn,jl mI Yq<|iU<|CD (iQ 1)<|iQ 2,jl mI (iU<|wK (iQ 1)<|iQ 2) Yn])<|jg (lC<|jl D6 (iU<|jl mI (iQ 4)<|iU<|ml [jA (g1 yH) [iQ 1],nG [lu 1],fC .V0,jl mI (iQ 1)<|iU<|wK (iQ 1) nW])<|iU<|jo jD [iQ 0,iU<|fC<|.int 7]) jI
def nu:BI:=AV 5 2 [2,3,4] zj
abbrev XT:=jo nq [iQ 0,iQ 1]
abbrev XX:=kQ 4<|jo nR [iQ 0,iQ 2]
abbrev X1:=kQ 5<|jo nD [iQ 0,iQ 2]
abbrev X9:=kF XT
abbrev Ym:=jl FE (iU XT)<|iQ 0
abbrev Yp:=fT Ym
abbrev Yr:=jg (oE<|nQ 4<|nG [])<|jg (oE<|nQ 5<|nG []) jI
def yo:FS:=jg (rF (zc<|iU<|fC<|.int 2) (jd 3)<|jg XX<|jg X1<|jg (EJ (oV<|fT<|jo (jQ RD) [iQ 4,iU<|jU [2] 1 oQ (jd 1) Yp wg]) wd jI)<|jg (EJ (oV<|fT<|jo (jQ RD) [iQ 5,iU<|jA (g1 mH) [iU<|jA (g1 FZ) [iU<|jU [2] 1 oQ (jd 1) kh X9]]]) wd jI) Yr) UW
def lY:BI:=AV 6 3 [3,4,5] yo
abbrev UY:=jo nu [iQ 2,iQ 8]
abbrev XZ:=iU<|ml [fC .V0,fC<|.str "answer"]
abbrev X8:=kQ 2<|jo mR [iQ 0,iQ 1]
abbrev Yc:=kQ 4<|jo mS [iQ 2,iQ 3]
abbrev Yg:=iU<|jo jD [iQ 2,iU<|fC<|.int 3]
abbrev Yo:=iU<|jo jD [iQ 2,iU<|jA (g1 BP) [iQ 6]]
abbrev Yv:=iU<|jA (g1 F4) [iU<|Tj<|jo lG [iQ 3,iQ 9]]
abbrev Yw:=jl FE (iU<|jo jD [iQ 2,iU<|fC<|.int 6]) yQ
abbrev Yy:=kN<|ml [UY,jo oo [iQ 2]]
abbrev YB:=iU<|ml [jo jD [iQ 2,iU<|fC<|.int 5],fC<|.int 3,fC<|.int 4]
abbrev YD:=kQ 8<|jl D6 (iQ 6) Yo
abbrev YF:=EJ (oV<|fT<|jo lY [iQ 4,iQ 5,iQ 8]) wd jI
abbrev YH:=jl D6 (iU<|ml [fC<|.int 3,fC<|.int 1])<|iU<|jA (g1 F4) [iU<|jl FE (iQ 3)<|iU<|fC<|.int 5]
abbrev zC7:=rh Q3<|fT Yw
abbrev zC6:=kQ 10<|jl D6 XZ Yv
abbrev zC2:=EJ zC7 (jg (kQ 3<|fC<|.int 5) jI) jI
def AW:FS:=jg (rF (zc<|iU<|jA (g2 Pw) [nW,iU<|jA (g2 Pu) [M9,iU<|fC<|.int 4]]) (jd 1)<|jg X8<|jg (kQ 3<|jl D6 YB Yg)<|jg zC2<|jg Yc<|jg (kQ 5<|jo nU [iQ 4])<|jg (kQ 6<|jo oF [iQ 3])<|jg (rF (zc<|iU YH) (jd 7)<|jg YD<|jg YF<|jg (rF Yy (jd 9)<|jg zC6<|jg (EJ (fT (jl HY (iU (A9 [4,9] (jo nR [iQ 0,iQ 1]) (qa tJ [iQ 0,iQ 1]) 5 1 (jZ CT sj) (λz=>sj.lookup z))) (iQ 10))) wd jI) (jg (EJ (fT (jl HY (iU (A9 [4,9] (jo nD [iQ 0,iQ 1]) (qa qw [iQ 0,iQ 1]) 5 1 (jZ CT sj) (λz=>sj.lookup z))) (iQ 10))) wd jI) jI)) jI) jI) UW
def uV:BI:=AV 11 1 [1,2,3,4,5,6,7,8,9,10] AW
end PV
namespace K44
open L2 PX PV
noncomputable def top(i:Nat):Stmt:=PySem.Challenge.pw_twinriddles_k44_stays_and_lots.main.body.getD i<|.Pass ⟨0,0,0,0⟩
abbrev TB44:List (iO×av):=[(410,"law.<locals>.<lambda>")]
abbrev AZ(Z:ZZ)(i:Nat):Prop:=Fz Z.K Z.mg (L6<|top i)<|top i
abbrev Ow(Z:ZZ)(k i:Nat)(a:BI):Prop:=Oz Z k (L6<|top i) (L5<|top i) a
abbrev Ma(Z:ZZ)(k i:Nat)(a:List D->Option av):Prop:=Oy Z k (L6<|top i) (L5<|top i) a
def aS:Lean.Syntax:=Zm [(`QO,3,[(0,[`xV]),(1,[`xO])]),(`QX,3,[(211,[`xLS,`aaI,`aaO]),(231,[`aaJ,`xI]),(0,[`x3,`xW,`x2,`x4,`x1,`x7,`x8]),(221,[`xU,`aaS]),(111,[`aaU,`aaT,`xIf,`xCh]),(11,[`xIx,`xC,`aaW,`aaV,`aaH,`aaG,`aaK,`aaQ]),(2311,[`xB,`xT]),(1,[`aaN,`aaE,`aaM,`xBo,`aaL,`YJ,`aaP]),(261,[`xE]),(2221,[`xRf]),(21,[`xSA,`aaR]),(2331,[`xI2]),(2781,[`xEV]),(91,[`aaF])]),(`QA,3,[(11,[`xA]),(0,[`xA0])]),(`QQ,6,[(11,[`s1]),(0,[`s0])]),(`QS,6,[(1,[`sR,`sE]),(21,[`sS]),(111,[`sI,`sF,`BW]),(211,[`sC]),(2,[`sRV]),(0,[`sX]),(2111,[`sDP]),(11,[`sT,`sW])]),(`QG,4,[(2,[`gN]),(11,[`gT])]),(`QP.mk,0,[(0,[`Sa,`RY,`JE,`R6,`R3,`R8,`af1,`R0,`R9,`RZ,`Wo]),(1,[`Wr,`Wn,`afd,`Wq,`adT]),(11,[`R5])]),(`QL,3,[(11,[`xL]),(0,[`xL0])]),(`QT,3,[(111,[`aa8]),(1,[`aa0,`Lp,`tW])]),(`QC.mk,0,[(0,[`aeN,`adF,`aeQ,`aeO,`Br]),(1,[`aeP,`wO,`ad4,`ad3,`aem]),(11,[`adg,`wQ,`ae7])]),(`QI,5,[(1,[`iS,`iSV]),(21,[`iR1,`iR2,`iE1]),(211,[`iZ,`iZV])]),(`QW,3,[(11,[`wOr,`aaY]),(1,[`aaX,`YN])]),(`QF,3,[(0,[`f0]),(1,[`f1])]),(`QB,6,[(1,[`bE]),(31111,[`bF])]),(`Li,4,[(1,[`UN])]),(`PZ,4,[(1,[`zE]),(11,[`zI]),(451,[`zR])]),(`Lz,4,[(4221,[`zC])])]
def qS{P:Prop}(h:autoParam P aS):P:=h
def DT{Z:ZZ}{k:Nat}{st:bh}{c:jX}{fs:FS}(a:Fz Z.K Z.mg (L6 st) st)(_:Tx Z.mg)(N:List Str:=loS st)(d:Bd Z k (L6 st) st N (L5 st) c fs:=by exact qS)(S:AY N (L5 st) (jb st):=by exact Oe)(b:LR (L6 st) st (L5 st):=by intro _ _ _ _ _ _;repeat' (first|exact NZ rfl|refine Me λ_=>?_)):Oz Z (k+1) (L6 st) (L5 st) (AV (VP N) (L5 st).length c fs):=ozB a S b d
def oyS{Z:ZZ}{k CR:Nat}{st:bh}{c:XS}(a:Fz Z.K Z.mg (L6 st) st)(_:Tx Z.mg)(_:EE Z.K Z.mg CT sj CR)(N:List Str:=loS st)(d:BdY Z k (L6 st) st N c:=by exact qS)(S:AY N (L5 st) (jb st):=by exact Oe)(b:LR (L6 st) st (L5 st):=by intro _ _ _ _ _ _;repeat' (first|exact NZ rfl|refine Me λ_=>?_)):Oy Z (k+1) (L6 st) (L5 st) (LM (VP N) (L5 st).length c):=oyB a S b d
section
variable(Z:ZZ)(k:Nat)
theorem adw(a:AZ Z 13)(T:Tx Z.mg):Ow Z (k+1) 13 mJ:=DT a T
theorem ac1(a:AZ Z 14)(T:Tx Z.mg)(b:Ow Z k 13 mJ):Ow Z (k+1) 14 lP:=DT a T
theorem afg(a:AZ Z 15)(T:Tx Z.mg)(b:Ow Z k 14 lP):Ow Z (k+1) 15 pe:=DT a T
theorem adX(a:AZ Z 16)(T:Tx Z.mg)(b:Ow Z k 14 lP):Ow Z (k+1) 16 pO:=DT a T
theorem adW(a:AZ Z 17)(T:Tx Z.mg)(b:Ow Z k 13 mJ)(c:Ow Z k 16 pO):Ow Z (k+1) 17 nA:=DT a T
theorem ac2(a:AZ Z 18)(T:Tx Z.mg)(b:Ow Z k 15 pe):Ow Z (k+1) 18 mT:=DT a T
theorem af3(a:AZ Z 19)(T:Tx Z.mg):Ow Z (k+1) 19 uc:=DT a T
theorem acK(a:AZ Z 21)(T:Tx Z.mg)(b:Ow Z k 17 nA):Ow Z (k+1) 21 la:=DT a T
theorem yi(a:AZ Z 22)(T:Tx Z.mg)(b:Ow Z k 21 la):Ow Z (k+1) 22 ma:=DT a T
theorem adD(a:AZ Z 23)(T:Tx Z.mg):Ow Z (k+1) 23 nE:=DT a T
theorem acH(a:AZ Z 24)(T:Tx Z.mg)(b:Ow Z k 23 nE):Ow Z (k+1) 24 ou:=DT a T
theorem Sg(a:AZ Z 26)(T:Tx Z.mg):Ow Z (k+1) 26 uD:=DT a T
theorem acI(a:AZ Z 25)(T:Tx Z.mg)(b:Ow Z k 22 ma)(d:Ow Z k 26 uD)(c:Ow Z k 19 uc):Ow Z (k+1) 25 lQ:=DT a T
theorem adk(a:AZ Z 28)(T:Tx Z.mg):Ow Z (k+1) 28 nV:=DT a T
theorem ye(a:AZ Z 29)(T:Tx Z.mg)(b:Ow Z k 28 nV):Ow Z (k+1) 29 mP:=DT a T
theorem yf(a:AZ Z 30)(T:Tx Z.mg)(b:Ow Z k 29 mP)(c:Ow Z k 24 ou):Ow Z (k+1) 30 mQ:=DT a T
theorem acA(a:AZ Z 31)(T:Tx Z.mg)(b:Ow Z k 30 mQ):Ow Z (k+1) 31 pP:=DT a T
theorem acG(a:AZ Z 32)(T:Tx Z.mg)(b:Ow Z k 31 pP):Ow Z (k+1) 32 lE:=DT a T
theorem vH(a:AZ Z 33)(T:Tx Z.mg)(b:Ow Z k 25 lQ):Ow Z (k+1) 33 kf:=DT a T
theorem yS{CR:Nat}(a:AZ Z 35)(T:Tx Z.mg)(c:EE Z.K Z.mg CT sj CR)(b:Ow Z k 18 mT):Ma Z (k+1) 35 kR:=oyS a T c
theorem yZ(a:AZ Z 35)(T:Tx Z.mg)(b:Ow Z k 18 mT):Ow Z (k+1) 35 kG:=DT a T
theorem afO{CR:Nat}(a:AZ Z 36)(T:Tx Z.mg)(d:EE Z.K Z.mg CT sj CR)(e:Ow Z k 35 kG)(f:Ow Z k 32 lE)(c:Ow Z k 25 lQ)(b:Ma Z k 35 kR):Ma Z (k+1) 36 tJ:=oyS a T d
theorem af2(a:AZ Z 36)(T:Tx Z.mg)(c:Ow Z k 35 kG)(d:Ow Z k 32 lE)(b:Ow Z k 25 lQ):Ow Z (k+1) 36 nR:=DT a T
theorem aeI{CR:Nat}(a:AZ Z 37)(T:Tx Z.mg)(d:EE Z.K Z.mg CT sj CR)(e:Ow Z k 35 kG)(f:Ow Z k 32 lE)(b:Ow Z k 33 kf)(c:Ma Z k 35 kR):Ma Z (k+1) 37 qw:=oyS a T d
theorem aff(a:AZ Z 37)(T:Tx Z.mg)(c:Ow Z k 35 kG)(d:Ow Z k 32 lE)(b:Ow Z k 33 kf):Ow Z (k+1) 37 nD:=DT a T
theorem acz(a:AZ Z 39)(T:Tx Z.mg):Ow Z (k+1) 39 lZ:=DT a T
theorem acY(a:AZ Z 40)(T:Tx Z.mg)(b:Ow Z k 39 lZ):Ow Z (k+1) 40 mR:=DT a T
theorem ads(a:AZ Z 41)(T:Tx Z.mg):Ow Z (k+1) 41 jD:=DT a T
theorem ab2(a:AZ Z 42)(T:Tx Z.mg)(b:Ow Z k 41 jD):Ow Z (k+1) 42 nS:=DT a T
theorem yW(a:AZ Z 43)(T:Tx Z.mg):Ow Z (k+1) 43 ly:=DT a T
theorem acJ(a:AZ Z 44)(T:Tx Z.mg)(b:Ow Z k 41 jD):Ow Z (k+1) 44 mB:=DT a T
theorem wy(a:AZ Z 45)(T:Tx Z.mg)(b:Ow Z k 43 ly):Ow Z (k+1) 45 kc:=DT a T
theorem yg(a:AZ Z 47)(T:Tx Z.mg)(e:Ow Z k 41 jD)(d:Ow Z k 44 mB)(c:Ow Z k 42 nS)(b:Ow Z k 45 kc):Ow Z (k+1) 47 mS:=DT a T
theorem yV(a:AZ Z 48)(T:Tx Z.mg):Ow Z (k+1) 48 nk:=DT a T
theorem yY(a:AZ Z 49)(T:Tx Z.mg)(b:Ow Z k 45 kc):Ow Z (k+1) 49 nr:=DT a T
theorem ac0(a:AZ Z 50)(T:Tx Z.mg)(d:Z.mg "dict"=J)(c:Ow Z k 48 nk)(b:Ow Z k 49 nr):Ow Z (k+1) 50 nU:=DT a T
theorem adt(a:AZ Z 51)(T:Tx Z.mg):Ow Z (k+1) 51 oF:=DT a T
theorem yX(a:AZ Z 52)(T:Tx Z.mg)(b:Z.mg "dict"=J):Ow Z (k+1) 52 nq:=DT a T
theorem acX(a:AZ Z 53)(T:Tx Z.mg):Ow Z (k+1) 53 lF:=DT a T
theorem adV(a:AZ Z 54)(T:Tx Z.mg)(b:Ow Z k 41 jD):Ow Z (k+1) 54 oo:=DT a T
theorem adH:LR "_law_same" (top 55) ["_law_found","_law_due"]:=λ_ _ _ _ _ _=>Me λ_=>Me λ_=>NZ H
theorem acW{c:BI}(a:AZ Z 55)(T:Tx Z.mg)(b:Ow Z k 55 c):Ow Z (k+1) 55 (AV 2 2 []<|lK c):=DT a T
theorem yE(a:AZ Z 55)(T:Tx Z.mg):∀m,Ow Z m 55<|jQ m
 |0=>oz0 a adH
 |m+1=>acW Z _ a T (yE a T m)
abbrev uR(Z:ZZ)(k:Nat):Prop:=Rf Z (top 56) ["_law_call","_law_error","e","_law_sorts","_law_words"] "_law_refused" "_law_call" "RiddleError" "_law_error" "e" 1 2 k [1,2,3,4] (jZ CT sj) (λz=>sj.lookup z)
theorem acV:LR "_law_refused" (top 56) ["_law_call"]:=λ_ _ _ _ _ _=>Me λ_=>NZ H
theorem acy{CR:Nat}(a:AZ Z 56)(T:Tx Z.mg)(c:EE Z.K Z.mg CT sj CR):uR Z k:=by
 have S:AY ["_law_call","_law_error","e","_law_sorts","_law_words"] ["_law_call"] (jb<|top 56):=Oe;obtain⟨f,e,m,F⟩:=a;refine⟨f,e,CR,F,F.binds acV,m,λX g=>?_,c.ci⟩;subst g;refine⟨S,by decide,rfl,rfl,by decide,by decide,rfl,rfl,rfl,rfl,c.re,by decide,_,_,_,_,_,_,_,_,_,_,_,rfl,λd A b s U L l i=>?_⟩;have j:=S.nd;have n:=i.un;have o:un (A.deeper<|aY "_law_refused" (jb<|top 56) s.heap.objs.size f d) 60:=by unfold un;omega
 refine⟨rfl,rfl,QS.h (show QS _ _ _ _ _ _ from(sS j x1)),QQ.h (show QQ _ _ _ _ _ (jZ CT sj)from qS)⟩
theorem yh(a:AZ Z 57)(T:Tx Z.mg)(b:Ow Z k 53 lF):Ow Z (k+1) 57 lG:=DT a T
theorem adu(a:AZ Z 58)(T:Tx Z.mg)(b:Ow Z k 41 jD):Ow Z (k+1) 58 nu:=DT a T
theorem acZ(a:AZ Z 59)(T:Tx Z.mg)(e:Ow Z k 36 nR)(d:Ow Z k 37 nD)(b:Ow Z k 52 nq)(c:Ow Z k 55 (jQ RD)):Ow Z (k+1) 59 lY:=DT a T
theorem Xx:LR "law" (top 60) ["_law_script"]:=λ_ _ _ _ _ _=>Me λ_=>NZ H
theorem WD{f c:iO}{r:mD}(F:K0 Z.K "law" "law" (top 60) f r)(u:r.code=.ref c)(t:PySem.W.CodeHd Z.base c 410)(s:Z.base.BuiltinsAt Z.mg 410)(T:Tx Z.mg)(h:Ow Z (k+2) 40 mR)(v:Ow Z (k+2) 41 jD)(b:Ow Z (k+2) 47 mS)(e:Ow Z (k+2) 50 nU)(j:Ow Z (k+2) 51 oF)(g:Ow Z (k+2) 59 lY)(i:Ow Z (k+2) 58 nu)(l:Ow Z (k+2) 54 oo)(a:Ow Z (k+2) 57 lG)(d:uR Z k)(o:Ow Z k 36 nR)(m:Ow Z k 37 nD)(p:Ma Z k 36 tJ)(n:Ma Z k 37 qw):D9 Z.P Z.w Z.K Z.mg Z.base HJ (k+3) f r ["_law_script"] (spT TB44<|KG Z.K uV):=by have S:AY ["_law_script","_law_k","_law_state_here","_law_names","_law_riddle","_law_likes_here","_law_every","_law_turn","_law_answer","_law_thing","_law_due"] ["_law_script"] (jb<|top 60):=Oe;refine ab8 (q:="law.<locals>.<lambda>") (asg:=[1,2,3,4,5,6,7,8,9,10]) (fs:=AW) F u t s (by decide) (by decide) S λ_ _ _ _ _ _ _ _ _ _ _ _ _ _ _ _=>?_;exact qS
end
def all_mk{l:PySem.W.OpenLaw}{w:jk}{K:jr}{a:lJ}{fa:iO}(dI:a "law"=TW (.ref fa))(T:Tx a)
  (a0:Fz K a "is_whole" (top 13))
  (a1:Fz K a "is_number" (top 14))
  (a2:Fz K a "is_bit" (top 15))
  (a3:Fz K a "is_name" (top 16))
  (a4:Fz K a "is_sign" (top 17))
  (a5:Fz K a "is_answer" (top 18))
  (a6:Fz K a "is_so" (top 19))
  (a7:Fz K a "is_turning" (top 21))
  (a8:Fz K a "check_turning" (top 22))
  (a9:Fz K a "led_sign" (top 23))
  (a10:Fz K a "led_clause" (top 24))
  (a11:Fz K a "back" (top 26))
  (a12:Fz K a "led_answer" (top 25))
  (a13:Fz K a "all_signs" (top 28))
  (a14:Fz K a "longer_by_one" (top 29))
  (a15:Fz K a "leading_among" (top 30))
  (a16:Fz K a "all_leading" (top 31))
  (a17:Fz K a "likenesses" (top 32))
  (a18:Fz K a "answers_reached" (top 33))
  (i:Fz K a "check_answer" (top 35))
  (j:Fz K a "stays" (top 36))
  (k:Fz K a "lot_of" (top 37))
  (a22:Fz K a "_law_cell_at" (top 39))
  (a23:Fz K a "_law_state" (top 40))
  (a24:Fz K a "_law_take" (top 41))
  (a25:Fz K a "_law_turning" (top 42))
  (a26:Fz K a "_law_led_sign" (top 43))
  (a27:Fz K a "_law_clause" (top 44))
  (a28:Fz K a "_law_led_clause" (top 45))
  (a29:Fz K a "_law_riddle_of" (top 47))
  (a30:Fz K a "_law_turnings" (top 48))
  (a31:Fz K a "_law_leads_to" (top 49))
  (a32:Fz K a "_law_likes" (top 50))
  (a33:Fz K a "_law_bits" (top 51))
  (a34:Fz K a "_law_led_bits" (top 52))
  (a35:Fz K a "_law_whole" (top 53))
  (a36:Fz K a "_law_odd" (top 54))
  (a37:Fz K a "_law_same" (top 55))
  (a38:Fz K a "_law_refused" (top 56))
  (a39:Fz K a "_law_is_answer" (top 57))
  (a40:Fz K a "_law_bent" (top 58))
  (a41:Fz K a "_law_right" (top 59))
  (m:OR K a "law" (top 60) 410)
  (o8:a "dict"=T2)
  (n:EE K a CT sj 24)
  :∃r:mD,(∀(s:iT)(v:iX),gj s r ⟨[v],[]⟩ [("_law_script",v)])/\(∀p∈TB44,∃c,PySem.W.codeHdIn K c p.1=Uf)/\∀base:jn,K.In base->base.Ns ap a->(∀p∈TB44,base.BuiltinsAt a p.1)->D9 l.prog w K a base HJ 13 fa r ["_law_script"] (spT TB44<|KG K uV):=by
 obtain⟨r,c,F,hc,hC,hb⟩:=ab5 m dI Xx;refine⟨r,hb,aC m.cd<|aN,λbase KB _ BB=>?_⟩
 let z:ZZ:=⟨l.prog,w,K,a,base⟩
 have O0:=adw z 0 a0 T;have O1:=ac1 z 1 a1 T O0.up;have O2:=afg z 2 a2 T O1.up;have O3:=adX z 2 a3 T O1.up;have O4:=adW z 3 a4 T O0.up O3.up;have O5:=ac2 z 3 a5 T O2.up;have O6:=af3 z 0 a6 T;have O7:=acK z 4 a7 T O4.up;have O8:=yi z 5 a8 T O7.up;have O9:=adD z 0 a9 T;have t:=acH z 1 a10 T O9.up;have u:=Sg z 0 a11 T;have iK:=acI z 6 a12 T O8.up u.up O6.up;have x:=adk z 0 a13 T;have y:=ye z 1 a14 T x.up;have A:=yf z 2 a15 T y.up t.up;have B:=acA z 3 a16 T A.up;have q:=acG z 4 a17 T B.up;have d:=vH z 7 a18 T iK.up;have o:=yZ z 4 i T O5.up;have h:=yS z 4 i T n O5.up;have e:=af2 z 7 j T o.up q.up iK.up;have X:=afO z 7 j T n o.up q.up iK.up h.up;have f:=aff z 8 k T o.up q.up d.up;have Z:=aeI z 8 k T n o.up q.up d.up h.up;have C:=acz z 0 a22 T;have E:=acY z 1 a23 T C.up;have b:=ads z 0 a24 T;have H:=ab2 z 1 a25 T b.up;have I:=yW z 0 a26 T;have L:=acJ z 1 a27 T b.up;have g:=wy z 1 a28 T I.up;have O:=yg z 2 a29 T b.up L.up H.up g.up;have Q:=yV z 0 a30 T;have G:=yY z 2 a31 T g.up;have J:=ac0 z 3 a32 T o8 Q.up G.up;have M:=adt z 0 a33 T;have N:=yX z 0 a34 T o8;have U:=acX z 0 a35 T;have Y:=adV z 1 a36 T b.up;have D:=yE z a37 T RD;have P:=acy z 10 a38 T n;have R:=yh z 1 a39 T U.up;have S:=adu z 1 a40 T b.up;have V:=acZ z 9 a41 T e.up f.up N.up D.up;exact WD z 10 F hc (PySem.W.codeHd_of_K KB hC) (BB _ kx) T E.up b.up O.up J.up M.up V.up S.up Y.up R.up P e.up f.up X.up Z.up
end K44
namespace PV
open L2 PX
@[simp] theorem abF(d:D)(δ:Dn):fC d δ=Y ((d,C),δ):=rfl
@[simp] theorem VE(f:F)(δ:Dn):iU f δ=(f δ).bind λp=>Y (.val p.1,p.2):=rfl
@[simp] theorem aar(x:D×Bool)(a:Dn):iQ 0 (Y x::a)=Y (.slot 0,Y x::a):=rfl
@[simp] theorem aaq(a:Sl)(x:D×Bool)(b:Dn):iQ 1 (a::Y x::b)=Y (.slot 1,a::Y x::b):=rfl
@[simp] theorem aap(a b:Sl)(x:D×Bool)(c:Dn):iQ 2 (a::b::Y x::c)=Y (.slot 2,a::b::Y x::c):=rfl
@[simp] theorem aao(a b c:Sl)(x:D×Bool)(d:Dn):iQ 3 (a::b::c::Y x::d)=Y (.slot 3,a::b::c::Y x::d):=rfl
@[simp] theorem aan(a b c d:Sl)(x:D×Bool)(e:Dn):iQ 4 (a::b::c::d::Y x::e)=Y (.slot 4,a::b::c::d::Y x::e):=rfl
@[simp] theorem aam(a b c d e:Sl)(x:D×Bool)(f:Dn):iQ 5 (a::b::c::d::e::Y x::f)=Y (.slot 5,a::b::c::d::e::Y x::f):=rfl
@[simp] theorem aal(a b c d e f:Sl)(x:D×Bool)(g:Dn):iQ 6 (a::b::c::d::e::f::Y x::g)=Y (.slot 6,a::b::c::d::e::f::Y x::g):=rfl
@[simp] theorem aak(a b c d e f g:Sl)(x:D×Bool)(h:Dn):iQ 7 (a::b::c::d::e::f::g::Y x::h)=Y (.slot 7,a::b::c::d::e::f::g::Y x::h):=rfl
@[simp] theorem aaj(a b c d e f g h:Sl)(x:D×Bool)(i:Dn):iQ 8 (a::b::c::d::e::f::g::h::Y x::i)=Y (.slot 8,a::b::c::d::e::f::g::h::Y x::i):=rfl
@[simp] theorem NW(δ:Dn)(r:D×Bool):res δ (.val r)=Y r.1:=rfl
@[simp] theorem abu(x:D×Bool)(a:Dn):res (Y x::a) (.slot 0)=Y x.1:=rfl
@[simp] theorem abt(a:Sl)(x:D×Bool)(b:Dn):res (a::Y x::b) (.slot 1)=Y x.1:=rfl
@[simp] theorem abr(a b:Sl)(x:D×Bool)(c:Dn):res (a::b::Y x::c) (.slot 2)=Y x.1:=rfl
@[simp] theorem abq(a b c:Sl)(x:D×Bool)(d:Dn):res (a::b::c::Y x::d) (.slot 3)=Y x.1:=rfl
@[simp] theorem abp(a b c d:Sl)(x:D×Bool)(e:Dn):res (a::b::c::d::Y x::e) (.slot 4)=Y x.1:=rfl
@[simp] theorem abo(a b c d e:Sl)(x:D×Bool)(f:Dn):res (a::b::c::d::e::Y x::f) (.slot 5)=Y x.1:=rfl
@[simp] theorem abn(a b c d e f:Sl)(x:D×Bool)(g:Dn):res (a::b::c::d::e::f::Y x::g) (.slot 6)=Y x.1:=rfl
@[simp] theorem abm(a b c d e f g:Sl)(x:D×Bool)(h:Dn):res (a::b::c::d::e::f::g::Y x::h) (.slot 7)=Y x.1:=rfl
@[simp] theorem abl(a b c d e f g h:Sl)(x:D×Bool)(i:Dn):res (a::b::c::d::e::f::g::h::Y x::i) (.slot 8)=Y x.1:=rfl
@[simp] theorem abD(g:D->Option (D×Bool))(a:FO)(b:Dn):md g a b=(a b).bind λp=>(res p.2 p.1).bind λx=>(g x).bind λz=>Y (z,p.2):=rfl
@[simp] theorem abC(g:D->D->Option (D×Bool))(a b:FO)(c:Dn):jl g a b c=(a c).bind λp=>(b p.2).bind λq=>(res q.2 p.1).bind λx=>(res q.2 q.1).bind λy=>(g x y).bind λz=>Y (z,q.2):=rfl
@[simp] theorem Ze(a:Dn):kY [] a=Y ([],a):=rfl
@[simp] theorem aau(f:FO)(fs:List FO)(a:Dn):kY (f::fs) a=(f a).bind λp=>(kY fs p.2).bind λq=>Y (p.1::q.1,q.2):=rfl
@[simp] theorem Rq(a:Dn):vE a []=Y []:=rfl
@[simp] theorem VD(a:Dn)(o:BU)(os:List BU):vE a (o::os)=(res a o).bind λd=>(vE a os).bind λl=>Y (d::l):=rfl
@[simp] theorem aat(g:List D->Option (D×Bool))(fs:List FO)(a:Dn):jA g fs a=(kY fs a).bind λp=>(vE p.2 p.1).bind λb=>(g b).bind λz=>Y (z,p.2):=rfl
@[simp] theorem aai:qf []=Y []:=rfl
@[simp] theorem abd(r:D×Bool)(os:List BU):qf (.val r::os)=(qf os).map (r.1:: ·):=rfl
@[simp] theorem VH(fs:List F)(b:Dn):nG fs b=(kY (fs.map iU) b).bind λp=>(qf p.1).bind λa=>if (VP a)<=sizeLine then Y ((.tup a,C),p.2)else J:=rfl
@[simp] theorem abE(fs:List F)(b:Dn):ml fs b=(kY (fs.map iU) b).bind λp=>(qf p.1).bind λa=>if (VP a)<=sizeLine then Y ((.lst a,I),p.2)else J:=rfl
@[simp] theorem acq(b o:Bool)(a:Dn):Lf ((.bl b,o),a)=Y (b,a):=rfl
@[simp] theorem acx(f:F)(a:Dn):fT f a=(f a).bind Lf:=rfl
@[simp] theorem aav(f g:FT)(a:Dn):rh f g a=(f a).bind λp=>if p.1=I then g p.2 else Y (C,p.2):=rfl
@[simp] theorem abB(f g:FT)(a:Dn):Bb f g a=(f a).bind λp=>if p.1=I then Y (I,p.2)else g p.2:=rfl
@[simp] theorem aas(f:FT)(a:Dn):oV f a=(f a).bind λp=>Y (!p.1,p.2):=rfl
@[simp] theorem NY(f g:F)(a:Dn):Bf f g a=(f a).bind λp=>(Lf p).bind λq=>if q.1=I then g q.2 else Y ((.bl C,C),q.2):=rfl
@[simp] theorem VI(f:F)(δ:Dn):Tj f δ=(f δ).bind λp=>(Lf p).bind λq=>Y ((.bl (!q.1),C),q.2):=rfl
@[simp] theorem Uh(t:FT)(f g:F)(δ:Dn):LF t f g δ=(t δ).bind λp=>if p.1=I then f p.2 else g p.2:=rfl
@[simp] theorem abj(a:Dn):jI a=Y (.nx a):=rfl
noncomputable def nxt(g:FS):Out->Option Out
 |.nx a=>g a
 |o=>Y o
@[simp] theorem abw(g:FS)(a:Dn):nxt g (.nx a)=g a:=rfl
@[simp] theorem abv(g:FS)(r:D×Bool)(a:Dn):nxt g (.rt r a)=Y (.rt r a):=rfl
@[simp] theorem NV(f g:FS)(a:Dn):jg f g a=(f a).bind (nxt g):=by
 unfold jg
 cases f a with
 |none=>rfl
 |some o=>cases o<;>rfl
@[simp] theorem Jo(f:F)(a:Dn):oE f a=(f a).bind λp=>Y (.nx p.2):=rfl
@[simp] theorem abi(f:F)(a:Dn):lC f a=(f a).bind λp=>Y (.rt p.1 p.2):=rfl
@[simp] theorem ach(t:FT)(f g:FS)(a:Dn):EJ t f g a=(t a).bind λp=>if p.1=I then f p.2 else g p.2:=rfl
@[simp] theorem abh(i:Nat)(f:F)(a:Dn):kQ i f a=(f a).bind λp=>if i<(VP p.2)then Y (.nx<|p.2.set i<|Y p.1)else J:=rfl
@[simp] theorem abg(b:Tg)(f:F)(c:Dn):Vv b f c=(f c).bind λp=>(b p.1.1 p.2).bind λa=>Y (.nx a):=rfl
@[simp] theorem acw(g:D->Option (D×Bool))(d:D):g1 g [d]=g d:=rfl
@[simp] theorem acv(g:D->D->Option (D×Bool))(d e:D):g2 g [d,e]=g d e:=rfl
@[simp] theorem Zg(i j:Int):mI (.int i) (.int j)=Y (.int<|i+j,C):=rfl
@[simp] theorem Ug(i j:Int):PX.HQ (.int i) (.int j)=Y (.int<|i-j,C):=rfl
@[simp] theorem aci(i:Int):ze (.int i)=Y (.int (-i),C):=rfl
@[simp] theorem Zh(i:Int):Eu (.int i)=Y (.int (if i<0 then -i else i),C):=rfl
@[simp] theorem VF(l:List D):BP (.tup l)=Y (.int<|VP l,C):=rfl
@[simp] theorem VG(l:List D):BP (.lst l)=Y (.int<|VP l,C):=rfl
@[simp] theorem abf(l:List D):nO (.lst l)=Y (.tup l,C):=rfl
@[simp] theorem abe(l:List D):nO (.tup l)=Y (.tup l,C):=rfl
@[simp] theorem abx(l:List D):yH (.tup l)=Y (.lst l,I):=rfl
@[simp] theorem aby(l:List D):yH (.lst l)=Y (.lst l,I):=rfl
@[simp] theorem NX(b:Bool):F4 (.bl b)=Y (.int (if b then 1 else 0),C):=rfl
@[simp] theorem abz(b:Int):F4 (.int b)=Y (.int b,C):=rfl
@[simp] theorem acn(i j:Int):Pw (.int i) (.int j)=Y (.int (if j>i then j else i),C):=rfl
@[simp] theorem acm(i j:Int):Pu (.int i) (.int j)=Y (.int (if j<i then j else i),C):=rfl
@[simp] theorem aco(a:List Ty)(d:D):wG a d=Y (.bl<|a.any<|Hy d,C):=rfl
@[simp] theorem Ui(i j:Int):FE (.int i) (.int j)=Y (.bl<|i==j,C):=by unfold FE;rw[jh<|by simp[D.dep]];simp[D.BE]
@[simp] theorem acj(i j:Int):HY (.int i) (.int j)=Y (.bl (!(i==j)),C):=by unfold HY;rw[jh<|by simp[D.dep]];simp[D.BE]
@[simp] theorem acp(i j:Bool):FE (.bl i) (.bl j)=Y (.bl<|i==j,C):=by unfold FE;rw[jh<|by simp[D.dep]];simp[D.BE]
@[simp] theorem ack(i j:Bool):HY (.bl i) (.bl j)=Y (.bl (!(i==j)),C):=by unfold HY;rw[jh<|by simp[D.dep]];simp[D.BE]
@[simp] theorem acr(i j:Int):AU .Lt (.int i) (.int j)=Y (.bl<|decide<|i<j,C):=by kernel_rfl
@[simp] theorem acs(i j:Int):AU .LtE (.int i) (.int j)=Y (.bl<|decide<|i<=j,C):=by kernel_rfl
@[simp] theorem abA(i j:Int):AU .Gt (.int i) (.int j)=Y (.bl<|decide<|i>j,C):=by kernel_rfl
@[simp] theorem acu(i j:Int):AU .GtE (.int i) (.int j)=Y (.bl<|decide<|i>=j,C):=by kernel_rfl
@[simp] theorem DW(f:F)(δ:Dn):kN f δ=(f δ).bind λp=>match p.1.1 with|.lst l=>Y (l,p.2)|.tup l=>Y (l,p.2)|_=>J:=rfl
@[simp] theorem abk(b:EG)(c:Tg)(a:FS)(d:Dn):rF b c a d=(b d).bind λp=>pT c a p.1 p.2:=rfl
@[simp] theorem Jp(a:Dn):kh a=Y (I,a):=rfl
@[simp] theorem DX(f:F)(a:List D)(b:Dn):kF f a b=(f b).bind λp=>if (VP a)<sizeLine then Y (a++[p.1.1],p.2)else J:=rfl
def qc(h:n<=10000):n<=sizeLine:=by rw[kj];lia
def zr(h:n<=10000):n<sizeLine:=by rw[kj];lia
noncomputable abbrev enc(t:ja):D×Bool:=(.tup<|t.map .int,C)
noncomputable abbrev ii(n:Int):Sl:=Y (.int n,C)
abbrev eN(t:ja):Sl:=Y<|enc t
noncomputable abbrev pI(n:Int):D×Bool:=(.int n,C)
noncomputable abbrev pS(a:Int)(b:Bool):D×Bool:=(.lst [.int a,.bl b],I)
def KN(i:Nat):([i]:List Nat).Nodup:=by simp
noncomputable abbrev AD(a:Int)(b:Bool):Sl:=Y (.lst [.int a,.bl b],I)
noncomputable abbrev BX(l:ja):Sl:=Y (.lst<|l.map .int,I)
@[simp] theorem Rr(b:BI)(fs:List FO)(c:Dn):jo b fs c=(kY fs c).bind λp=>(kn p.2 p.1).bind λa=>if(jF p.1 a).Nodup then(b a).bind λq=>Y (q.1,wb p.1 a q.2 p.2)else J:=rfl
@[simp] theorem KZ(δ:Dn):kn δ []=Y []:=rfl
@[simp] theorem Zf(b:Dn)(o:BU)(os:List BU):kn b (o::os)=(yO b o).bind λa=>(kn b os).bind λl=>Y (a::l):=rfl
@[simp] theorem abG(a:Dn)(r:D×Bool):yO a (.val r)=Y (r.1,C):=rfl
@[simp] theorem abH(a:Dn)(i:Nat):yO a (.slot i)=(a[i]?).join:=rfl
def um(a:Int)(b:Bool)(m:Int)(c:0<m)(d:m<1073741824):
  ∃v e,0<=v/\v<m/\jD [pS a b,pI m]=Y ((.int v,C),[Y (.lst [.int e,.bl b],I),ii m]):=by
 cases b
 .have h1:∀x:Int, -18446744073709551616<x%2147483647/\x%2147483647<18446744073709551616:=λx=>by lia
  have f:∀x:Int, -18446744073709551616<x%2147483629/\x%2147483629<18446744073709551616:=λx=>by lia
  simp only[jD,tX];simp[AV,D6,Ij,HX,BO,gI,Pz,pH,LJ,vD,rE,jH,jF,wb,Mf,wY,FL,c,d,h1,f];exact⟨GP _ (by lia),GQ _ c⟩
 simp only[jD,tX];simp[AV,D6,Ij,HX,BO,gI,Pz,pH,LJ,vD,rE,jH,jF,wb,Mf,wY,FL,c,d];exact⟨GP _ (by lia),GQ _ c⟩
theorem uH(x y:Int):(x==y)=decide (x=y):=rfl
def pN{g:List D->Option (D×Bool)}{fs:List FO}{δ a:Dn}{os:List BU}{ds:List D}{z:D×Bool}(h1:kY fs δ=Y (os,a))(b:vE a os=Y ds)(c:g ds=Y z):jA g fs δ=Y (z,a):=by unfold jA;rw[h1];simp;rw[b];simp;rw[c];rfl
def lj(h1:(VP args)=np/\np<=n/\(args.zipIdx.all λp=>!(p.1.2&&asg.contains p.2))=I)(a:f (args.map Y++ag (n-np) J)=Y (.rt r δ)):AV n np asg f args=Y (r,jH args δ):=by unfold AV;rw[jh h1,a]
def jf(h:f δ=Y (.nx δ1)):jg f g δ=g δ1:=by unfold jg;rw[h];rfl
def jY{r}(h:f δ=Y (.rt r δ1)):jg f g δ=Y (.rt r δ1):=by unfold jg;rw[h];rfl
def lz{r}(h:f δ=Y (r,δ1)):lC f δ=Y (.rt r δ1):=by unfold lC;rw[h];rfl
def kK{r}(h:f δ=Y (r,δ1))(a:i<VP δ1):kQ i f δ=Y (.nx<|δ1.set i<|Y r):=by unfold kQ;rw[h];simp only[ku];rw[jh a]
def lR(h:f δ=Y ((.bl b,o),δ1)):fT f δ=Y (b,δ1):=by unfold fT;rw[h];rfl
def jv{r}(h:f δ=Y (r,δ1)):iU f δ=Y (.val r,δ1):=by unfold iU;rw[h];rfl
def kZ(h1:a δ=Y (o1,δ1))(b:fb δ1=Y (o2,δ2))(c:res δ2 o1=Y x)(d:res δ2 o2=Y y)(e:g x y=Y z):jl g a fb δ=Y (z,δ2):=by unfold jl;rw[h1];simp;rw[b];simp;rw[c,d];simp;rw[e];rfl
def kO{b:BI}{fs:List FO}{δ δ1:Dn}{os:List BU}{args:List (D×Bool)}{r:D×Bool}{a:Dn}(h1:kY fs δ=Y (os,δ1))(c:kn δ1 os=Y args)(d:(jF os args).Nodup)(e:b args=Y (r,a)):jo b fs δ=Y (r,wb os args a δ1):=by unfold jo;rw[h1];simp;rw[c];simp only[ku];rw[jh d,e];rfl
def Ez(h:f δ=Y (C,δ1)):Bb f g δ=g δ1:=by unfold Bb;rw[h];rfl
def Xg(h:f δ=Y (I,δ1)):Bb f g δ=Y (I,δ1):=by unfold Bb;rw[h];rfl
def pL(h:f δ=Y (b,δ1)):oV f δ=Y (!b,δ1):=by unfold oV;rw[h];rfl
def qJ(h:t δ=Y (C,δ1)):EJ t f g δ=g δ1:=by unfold EJ;rw[h];rfl
def yB(h:t δ=Y (I,δ1)):EJ t f g δ=f δ1:=by unfold EJ;rw[h];rfl
def om{a fb:FO}{δ δ1 δ2:Dn}{b c:BU}(h1:a δ=Y (b,δ1))(d:fb δ1=Y (c,δ2)):kY [a,fb] δ=Y ([b,c],δ2):=by simp;rw[h1];simp;rw[d];rfl
def Be{a:FO}{δ δ1:Dn}{o1:BU}(h1:a δ=Y (o1,δ1)):kY [a] δ=Y ([o1],δ1):=by simp;rw[h1];rfl
def mK(h:a δ=Y (ds,δ1)):rF a tg fb δ=pT tg fb ds δ1:=by unfold rF;rw[h];rfl
def vL{os}(h1:b d=Y (o1,δ1))(c:kY fs δ1=Y (os,a)):kY (b::fs) d=Y (o1::os,a):=by simp;rw[h1];simp;rw[c];rfl
def EA{fs:List F}{δ δ1:Dn}{os:List BU}{ds:List D}(h1:kY (fs.map iU) δ=Y (os,δ1))(a:qf os=Y ds)(b:(VP ds)<=sizeLine):ml fs δ=Y ((.lst ds,I),δ1):=by unfold ml;rw[h1];simp;rw[a];simp only[ku];rw[jh b]
def TF(a:ja)(k:Nat):∃c,lZ [(.lst<|a.map .int,C),pI k]=Y ((.int c,C),[Y (.lst<|a.map .int,C),ii k]):=by
 by_cases hk:k<VP a
 .refine⟨a[k],?_⟩;simp[lZ,pJ,AV,D6,Ij,HX,jH,hk]
 refine⟨0,?_⟩;simp[lZ,pJ,AV,jH,hk]
def Ul:LJ (.int 10) (.int 18)=ii 1000000000000000000:=by
 have:wY 10 18:=by unfold wY;decide+kernel
 show((if wY 10 18 then Y (D.int (10^(18:Int).toNat))else J).map λz=>(z,C))=_;rw[jh this];rfl
def afX(d:ja)(k:Nat):∃a b,mR [(.lst<|d.map .int,C),pI k]=Y ((.lst [.int a,.bl b],I),[Y (.lst<|d.map .int,C),ii k]):=by
 obtain⟨c,e⟩:=TF d k;by_cases h:c>=1000000000000000000
 .refine⟨c-1000000000000000000,I,?_⟩;simp[mR,rM,AV,e,jF,wb,Ul,h,kj,jH]
 refine⟨c%2147483647,C,?_⟩;simp[mR,rM,AV,e,jF,wb,Ul,h,kj,jH,BO,gI]
noncomputable def st(n:Nat):List Int:=(aj n).map λ(k:Nat)=>(1+(k:Int))
def Vn(n:Nat):(st n).map D.int=jP 1 n:=by simp[st,jP]
noncomputable def uS:Nat->List Int->List Int->List (List Int)
 |0,_,f=>[f]
 |k+1,r,f=>(aj<|VP r).flatMap λv=>uS k (r.eraseIdx v) (f++[r.getD v 0*1])++uS k (r.eraseIdx v) (f++[r.getD v 0* -1])
theorem CF(f:Int->D):∀(l:ja)(k:Nat),(l.map f).eraseIdx k=(l.eraseIdx k).map f
 |[],k=>by simp
 |x::l,0=>by kernel_rfl
 |x::l,k+1=>by simp[CF f l k]
def ae0{i:Nat}{f:FO}{a δ1:Dn}{o:BU}{n l:List D}{k:Int}{j:Nat}{d:D}(b:a[i]?=Y (Y (.lst n,I)))(h1:f a=Y (o,δ1))(c:res δ1 o=Y (.int k))(e:δ1[i]?=Y (Y (.lst l,I)))(g: -(2^63)<=k/\k<2^63)(h:HX (VP l) k=Y j)(m:l[j]?=Y d):
  Ba i f a=Y ((d,C),δ1.set i<|Y (.lst<|l.eraseIdx j,I)):=by
 unfold Ba;rw[b];simp only[];rw[h1];simp only[ku];rw[c,e];simp only[];rw[jh g,h];simp;rw[m];rfl
def rP{i:Nat}{f:F}{δ δ1:Dn}{r:D×Bool}{l0 l:List D}(a:δ[i]?=Y (Y (.lst l0,I)))(h1:f δ=Y (r,δ1))(b:δ1[i]?=Y (Y (.lst l,I)))(c:(VP l)<sizeLine):
  nQ i f δ=Y ((.V0,C),δ1.set i<|Y (.lst<|l++[r.1],I)):=by
 unfold nQ;rw[a];simp;rw[h1];simp;rw[b];simp only[];rw[jh c]
def qL{r}(h:f δ=Y (r,δ1)):oE f δ=Y (.nx δ1):=by unfold oE;rw[h];rfl
abbrev IA:F:=Yu
abbrev Z5:F:=Va
abbrev fbT:FS:=jg (oE<|nQ 3<|jl pH (iU IA)<|iU Z5) jI
def Wa(a:Int)(b:Bool)(n:Sl)(r f:ja)(x:Sl)(i:0<VP r)(l:(VP r)<=5):∃v c,v<VP r/\IA [AD a b,n,BX r,BX f,x]=Y ((.int<|r.getD v 0,C),[AD c b,n,BX<|r.eraseIdx v,BX f,x]):=by
 obtain⟨v,c,h,hv,e⟩:=um a b (VP r) (by lia) (by lia);have d:v.toNat<(VP r):=by lia
 refine⟨v.toNat,c,d,?_⟩;have g:(BX (r.eraseIdx v.toNat):Sl)=Y (.lst<|(r.map D.int).eraseIdx v.toNat,I):=by rw[CF]
 rw[g];refine ae0 (k:=v) (δ1:=[AD c b,n,BX r,BX f,x]) H (jv (r:=(.int v,C))<|kO (δ1:=[AD a b,n,BX r,BX f,x]) (os:=[.slot 0,.val (.int<|VP r,C)]) (args:=[pS a b,pI<|VP r]) ?_ H (show([0]:List Nat).Nodup from by decide) e) H H ⟨by lia,by lia⟩ (j:=v.toNat) ?_ ?_
 .show Y ([BU.slot 0,BU.val (D.int ((r.map D.int).length:Nat),C)],_)=_;rw[ke]
 .unfold HX;rw[jh h,jh<|by simpa using hv]
 simp[d]
def Vr(a:Int)(b:Bool)(n y z x:Sl):∃s c,(s=1\/s= -1)/\Z5 [AD a b,n,y,z,x]=Y ((.int s,C),[AD c b,n,y,z,x]):=by obtain⟨v,c,f,hv,e⟩:=um a b 2 (by lia) (by lia);have d:∀δ:Dn,ml [fC<|.int 1,M8] δ=Y ((.lst [.int 1,.int (-1)],I),δ):=λδ=>rfl;refine⟨if v=0 then 1 else -1,c,by split<;>simp,?_⟩;refine kZ (δ1:=[AD a b,n,y,z,x]) (jv<|d _) (jv (δ1:=[AD c b,n,y,z,x])<|kO (δ1:=[AD a b,n,y,z,x]) (os:=[.slot 0,.val (.int 2,C)]) (args:=[pS a b,pI 2]) H H (show([0]:List Nat).Nodup from by decide) e) H H ?_;rcases(show v=0\/v=1 by lia)with rfl|rfl<;>rfl
def Xb(a:Int)(b:Bool)(n:Sl)(r f:ja)(x:Sl)(j:0<VP r)(k:(VP r)<=5)(m:(VP f)<=5):∃v s c,v<VP r/\(s=1\/s= -1)/\fbT [AD a b,n,BX r,BX f,x]=Y (.nx [AD c b,n,BX<|r.eraseIdx v,BX<|f++[r.getD v 0*s],x]):=by
 obtain⟨v,a1,hv,e⟩:=Wa a b n r f x j k;obtain⟨s,d,q,g⟩:=Vr a1 b n (BX<|r.eraseIdx v) (BX f) x;refine⟨v,s,d,hv,q,?_⟩
 have p:pH (.int<|r.getD v 0) (.int s)=ii (r.getD v 0*s):=by have:FL (r.getD v 0) s:=.inr (by lia);show((if FL (r.getD v 0) s then Y (D.int<|r.getD v 0*s)else J).map λz=>(z,C))=_;rw[jh this];rfl
 have o:(f.map D.int).length<sizeLine:=by rw[ke];exact GC m (by decide)
 have h:=rP (i:=3) (δ:=[AD a b,n,BX r,BX f,x]) (l0:=f.map .int) H (kZ (jv e) (jv g) H H p) (l:=f.map .int) H o;refine(jf<|qL h).trans ?_;simp
def ZX(b:Bool)(n:Sl):∀(c:List D)(a:Int)(r f:ja)(x:Sl),VP c=VP r->VP f+VP r<=5->
  ∃g t i j,t∈uS (VP c) r f/\pT (jd 4) fbT c [AD a b,n,BX r,BX f,x]=Y (.nx [AD g b,n,BX i,BX t,j]):=by
 intro p
 induction p with
 |nil=>intro a r f x _ _;exact⟨a,f,r,x,by simp[uS],rfl⟩
 |cons d c o=>
  intro a r f x h q;simp at h;obtain⟨v,s,a1,hv,m,e⟩:=Xb a b n r f (Y (d,C)) (by lia) (by lia) (by lia);obtain⟨g,t,i,j,k,l⟩:=o a1 (r.eraseIdx v) (f++[r.getD v 0*s]) (Y (d,C)) (by rw[Dc,jh hv];lia) (by rw[Dc,jh hv,nK];simp only[oy,uX];lia);refine⟨g,t,i,j,?_,?_⟩
  .simp only[oy,uS,yP,rq,vP];refine⟨v,hv,?_⟩;rcases m with rfl|rfl
   .exact .inl k
   exact .inr k
  unfold pT;rw[show jd 4 d [AD a b,n,BX r,BX f,x]=Y [AD a b,n,BX r,BX f,Y (d,C)]from H];simp only[ku];rw[e];simp;exact l
def Vz(n:Nat)(b:n<=5):N8 .lst I [.int 1,.int<|(n:Int)+1]=Y (.lst<|(st n).map .int,I):=by
 have:n=0\/n=1\/n=2\/n=3\/n=4\/n=5:=by lia
 have h1:Fl 1 ((n:Int)+1):=by rcases this with rfl|rfl|rfl|rfl|rfl|rfl<;>decide+kernel
 have a:((n:Int)+1-1).toNat=n:=by lia
 show(if Fl 1 ((n:Int)+1)then Y (D.lst<|jP 1 ((n:Int)+1-1).toNat,I)else J)=_;rw[jh h1,a,<-Vn]
def oW{f:FO}{δ δ1:Dn}{o:BU}{n:Nat}(h1:f δ=Y (o,δ1))(a:res δ1 o=Y (.int n))(e:n<=63):zc f δ=Y (jP 0 n,δ1):=by
 have d:(-(2^62)<=(n:Int)/\(n:Int)<2^62):=⟨by lia,by lia⟩
 have b:kY [f] δ=Y ([o],δ1):=by simp[h1]
 have c:vE δ1 [o]=Y [.int n]:=by simp[a]
 unfold zc;rw[b];simp only[ku];rw[c];simp only[];rw[jh d];rfl
def ad0(a:Int)(b:Bool)(n:Nat)(f:n<=5):∃d t,t∈uS n (st n) []/\nS [pS a b,pI n]=Y (enc t,[AD d b,ii n]):=by
 have c:(jP 0 n).length=n:=by simp[jP]
 have h:(st n).length=n:=by simp[st]
 obtain⟨d,t,j,k,g,e⟩:=ZX b (ii n) (jP 0 n) a (st n) [] J (by rw[c,h]) (by rw[h];simpa using f);rw[c]at g;refine⟨d,t,g,?_⟩;refine lj (δ:=[AD d b,ii n,BX j,BX t,k]) ⟨rfl,by decide,rfl⟩ ?_;refine(jf (δ1:=[AD a b,ii n,BX<|st n,J,J])<|kK (i:=2) (δ1:=[AD a b,ii n,J,J,J]) (pN (os:=[.val (.int 1,C),.val (.int<|(n:Int)+1,C)]) H H<|Vz n f) (show 2<5 by decide)).trans ?_;refine(jf (δ1:=[AD a b,ii n,BX<|st n,BX [],J]) H).trans ?_;refine(jf<|(mK<|oW (o:=.slot 1) H H<|by lia).trans e).trans ?_;exact jY<|lz<|pN (os:=[.slot 3]) H H H
def wM:∀t:List Int,D.BJ (t.map .int)=0:=by
 intro b
 induction b with
 |nil=>simp[D.BJ]
 |cons s t a=>simp[D.BJ,D.dep,a]
theorem Bg:∀a b:List Int,D.D7 (a.map .int) (b.map .int)=decide (a=b)
 |[],[]=>by kernel_rfl
 |[],_::_=>by kernel_rfl
 |_::_,[]=>by kernel_rfl
 |x::a,y::b=>by simp[D.D7,D.BE,Bg a b,uH]
@[simp] theorem LK(a b:ja):FE (.lst<|a.map .int) (.lst<|b.map .int)=Y (.bl<|decide<|a=b,C):=by unfold FE;rw[jh<|by simp[D.dep,wM]];simp[D.BE,Bg]
def JL:∀(l m:ja),l.Nodup->(∀x∈l,x∈m)->VP m<=VP l->l.Perm m:=by
 intro k
 induction k with
 |nil=>intro m _ _ h;have:m=[]:=QN.mp (by simpa using h);subst this;exact vb _
 |cons x l j=>
  intro m a c h;rw[zp]at a;have g:=c x kx;have b:=Ml g;refine((j (m.erase x) a.2 (λy d=>?_) ?_).cons x).trans b.symm
  .have f:=c y<|kE _ d;have i:y≠x:=λe=>a.1<|e▸d;exact(GO i).mpr f
  have:=b.length_eq;simp at this h
  lia
def Ff:x∈st n↔1<=x/\x<=n:=by
 simp only[st,sh,vP];constructor
 .rintro⟨k,h,rfl⟩;lia
 rintro⟨h1,a⟩;exact⟨(x-1).toNat,by lia,by lia⟩
def Nu(n:Nat):(st n).Pairwise (· < ·):=by simp only[st];rw[oq];exact QK.imp λh=>by lia
def Ua(n:Nat):(st n).Nodup:=(Nu n).imp λh=>by lia
def HP{n:Nat}{l:ja}:l.Perm (st n)↔(VP l)=n/\(∀x∈l,1<=x/\x<=n)/\l.Nodup:=by
 constructor
 .intro h;refine⟨by rw[h.length_eq];simp[st],λx a=>Ff.mp<|h.mem_iff.mp a,h.symm.nodup<|Ua n⟩
 rintro⟨h1,b,c⟩;exact JL l (st n) c (λx a=>Ff.mpr<|b x a) (by simp[st,h1])
def Vo(n:Nat):((st n).map D.int).Pairwise (λa b=>Bj b a=C):=by
 rw[oq];refine(Nu n).imp λ{a b} h=>?_;have h1: ¬b<a:=by lia
 have c: ¬b=a:=by lia
 rw[qR];simp[cT,h1,c]
def CU(h1:Bj (.int i) (.int j)=C)(c:Bj (.int j) (.int i)=C):i=j:=by
 rw[qR]at h1 c;simp only[cT]at h1 c;by_cases a:i<j
 .simp[a]at h1
 by_cases b:j<i
 .simp[b]at c
 lia
def XC{n:Nat}{l:ja}:mW Bj (l.map .int)=(st n).map .int↔l.Perm (st n):=by
 constructor
 .intro h;have a:=km Bj<|l.map D.int;rw[h]at a;have:=(a.map λd=>match d with|D.int i=>i|_=>0)
  simp at this;have e:((λd=>match d with|D.int i=>i|_=>0)∘D.int)=id:=rfl;rw[e,rX,rX]at this;exact this.symm
 intro h;refine GX (λx y c f h1 b=>?_) (og _) (Vo n)<|(km Bj _).trans<|h.map _;obtain⟨i,_,rfl⟩:=ji<|(km Bj<|l.map D.int).mem_iff.mp c;obtain⟨j,_,rfl⟩:=ji f;rw[CU b h1]
def adm{l:ja}{m:List D}(h:m.Perm (l.map D.int)):∃k:List Int,m=k.map .int:=by
 refine⟨m.map λd=>match d with|D.int i=>i|_=>0,?_⟩;rw[ll]
 symm
 rw[qm (g:=id),rX];intro d hd;obtain⟨i,_,rfl⟩:=ji<|h.mem_iff.mp hd;rfl
def yA(l:ja):nv (l.map .int)=I:=by
 unfold nv
 cases l with
 |nil=>rfl
 |cons x l=>rw[xo];right;simp;simp[lX,D.pr,D.dep,show ∀i j:Int,rV .Lt (.int i) (.int j)=Y (ny .Lt i j)from λ_ _=>rfl]
def adn(l:ja)(a:(VP l)<64):mO (.lst<|l.map .int)=Y (.lst<|mW Bj<|l.map .int,I):=by simp only[mO,uQ,ku,kJ];rw[jh ⟨yA l,by first|(simpa using a)|(rw[kj];simp;lia)⟩]
def aeE:∀l:List Int,(∀k,(oh<|l.reverse.map .int).1 k=decide (k∈l.reverse))/\(oh<|l.reverse.map .int).2<=VP l/\((oh<|l.reverse.map .int).2=(VP l)↔l.Nodup):=by
 intro e
 induction e with
 |nil=>exact⟨λk=>by simp[oh],by simp[oh],by simp[oh]⟩
 |cons x l d=>
  obtain⟨h1,f,c⟩:=d;rw[List.reverse_cons,pU,kM,sM,Ci];refine⟨λk=>?_,?_,?_⟩
  .dsimp only;rw[h1 k];by_cases a:k∈l.reverse<;>by_cases b:k=x<;>simp_all
  .dsimp only;rw[oy];split<;>lia
  dsimp only;rw[h1 x,zp];by_cases a:x∈l
  .simp only[dJ,a,decide_true,nJ,not_true_eq_false,false_and,iff_false,oy];lia
  simp only[dJ,a,decide_false,lr,my,not_false_eq_true,true_and,oy];rw[<-c];lia
def Rm(l:ja):(oh<|l.map .int).2=(VP l)↔l.Nodup:=by have:=(aeE l.reverse).2.2;rw[List.reverse_reverse,MJ,zU l |>.nodup_iff]at this;exact this
def I9(pre:Dn)(x:Sl)(d:D):jd (VP pre) d (pre++[x])=Y (pre++[Y (d,C)]):=by unfold jd;rw[jh<|by simp];simp
def Qn{f:FB}{g:D->D}{pre:Dn}{N:Nat}:∀(l b:List D)(x:Sl),(∀d∈l,∀a:List D,VP a<N->f a (pre++[Y (d,C)])=Y (a++[g d],pre++[Y (d,C)]))->VP b+VP l<=N->
  ∃c,kP (jd<|VP pre) kh f l b (pre++[x])=Y (b++l.map g,pre++[c]):=by
 intro n
 induction n with
 |nil=>exact λb x _ _=>⟨x,by simp[kP]⟩
 |cons d l m=>intro b x h i;obtain⟨c,e⟩:=m (b++[g d]) (Y (d,C)) (λj k=>h j<|kE _ k) (by simp at i ⊢;lia);refine⟨c,?_⟩;rw[kP,I9];simp;rw[h d kx b<|by simp at i;lia];simp;rw[e];simp
def Ql(f:F)(g:D->D)(pre:Dn):∀(l b:List D)(x:Sl),(∀d∈l,∃o,f (pre++[Y (d,C)])=Y ((g d,o),pre++[Y (d,C)]))->VP b+VP l<=sizeLine->
  ∃i,kP (jd<|VP pre) kh (kF f) l b (pre++[x])=Y (b++l.map g,pre++[i]):=λl b x h=>Qn l b x λd hd a c=>by
 obtain⟨o,e⟩:=h d hd;show(f _).bind _=_;rw[e];exact jh c
def Xt(f:F)(g:D->Int)(pre:Dn):∀(l b:List D)(x:Sl),(∀d∈l,∃o,f (pre++[Y (d,C)])=Y ((.int<|g d,o),pre++[Y (d,C)]))->VP b+VP l<=1000->
  ∃i,kP (jd<|VP pre) kh (EI f) l b (pre++[x])=Y (b++l.map λd=>.int (g d),pre++[i]):=λl b x h=>Qn l b x λd hd a c=>by
 obtain⟨o,e⟩:=h d hd;show(f _).bind _=_;rw[e];exact jh (show (VP a)+1<iE from Ac (Nat.succ_lt_succ c)<|by decide)
def afu(p:D->Bool):∀l:List D,oY (l.map λd=>.bl (p d))=Y (l.map p):=by
 intro b
 induction b with
 |nil=>exact H
 |cons d l a=>simp[oY,a]
def xa(p:D->Bool)(l:List D):zg (.lst<|l.map λd=>.bl (p d))=Y (.bl<|l.all p,C):=by simp[zg,afu,fA]
noncomputable def ab(s:Int):Int:=if s<0 then -s else s
noncomputable def wh:D->Bool
 |.int _=>I
 |_=>C
def sg(n:Int):D->Bool
 |.int s=>decide (1<=ab s)&&decide (ab s<=n)
 |_=>C
noncomputable def E5:D->Int
 |.int s=>s
 |_=>0
def wj(d:D):mJ [(d,C)]=Y ((.bl<|wh d,C),[Y (d,C)]):=by
 cases d<;>(first|rfl|simp[mJ,yJ,AV,jH,wh,Hy])
def afn(d:D):lF [(d,C)]=Y ((.bl<|wh d,C),[Y (d,C)]):=by
 cases d<;>(first|rfl|simp[lF,qZ,AV,jH,wh,Hy])
def Co(d:D)(lo a:Int):lP [(d,C),(.int lo,C),(.int a,C)]=Y ((.bl (match d with|.int s=>decide (lo<=s)&&decide (s<=a)|_=>C),C),[Y (d,C),Y (.int lo,C),Y (.int a,C)]):=by
 cases d with
 |int s=>by_cases h:lo<=s<;>simp[lP,rN,AV,jH,wj,wh,jF,wb,Bc,ny,h]
 |_=>(first|rfl|simp[lP,rN,AV,jH,wj,wh,jF,wb])
def JM(d:D)(n:Int):pO [(.int n,C),(d,C)]=Y ((.bl (match d with|.int s=>decide (1<=s)&&decide (s<=n)|_=>C),C),[Y (.int n,C),Y (d,C)]):=by simp[pO,AX,AV,jH,Co,jF]
def Rk(n:Int)(d:D):nA [pI n,(d,C)]=Y ((.bl<|sg n d,C),[ii n,Y (d,C)]):=by
 cases d with
 |int s=>simp[nA,vJ,AV,jH,wj,JM,wh,jF,wb,sg,ab];rfl
 |_=>(first|rfl|simp[nA,vJ,AV,jH,wj,JM,wh,jF,wb,sg,ab])
def HG(h:sg n d=I):d=.int (E5 d):=by cases d<;>simp_all [sg,E5]
def Vf(h:wh d=I):d=.int (E5 d):=by cases d<;>simp_all [wh,E5]
def tB(n:Nat):D->Bool
 |.tup l=>decide (VP l=n)&&(l.all (sg n)&&decide ((l.map λd=>ab<|E5 d).Nodup))
 |_=>C
def lB(n:Nat):D->Bool
 |.tup l=>l.all wh&&decide ((l.map λd=>ab<|E5 d).Perm<|st n)
 |_=>C
def Y4(n:Nat)(d:D):tB n d=lB n d:=by
 cases d with
 |tup l=>
  rw[tB,lB,rd];simp only[mf,vV,mC,HP,ke,sh];constructor
  .rintro⟨h1,a,b⟩;refine⟨λd hd=>?_,h1,?_,b⟩
   .rw[HG<|a d hd];rfl
   rintro x ⟨d,hd,rfl⟩;have:=a d hd;rw[HG this]at this;simpa[sg]using this
  rintro⟨h1,a,b,c⟩;refine⟨a,λd hd=>?_,c⟩;have:=b _ ⟨d,hd,rfl⟩;rw[Vf<|h1 d hd];simpa[sg]using this
 |_=>rfl
def acD(n:Nat)(d:D)(hd:∀l,d=.tup l->VP l<=60):la [pI n,(d,C)]=Y ((.bl<|tB n d,C),[ii n,Y (d,C)]):=by
 cases d with
 |tup l=>
  have i:=hd l H;by_cases h1:(VP l)=n
  .obtain⟨x1,b⟩:=Ql (jo nA [iQ 0,iQ 1]) (λd=>.bl (sg n d)) [ii n] l [] J (λd _=>⟨C,by simp[Rk,jF,wb]⟩) (by rw[kj];simp;lia);simp at b;by_cases a:l.all (sg n)=I
   .have h:∀d∈l,∃o,jA (g1 Eu) [iQ 0] ([]++[Y (d,C)])=Y ((.int<|ab<|E5 d,o),([]++[Y (d,C)]:Dn)):=λd hd=>⟨C,by rw[mC]at a;rw[HG<|a d hd];rfl⟩
    obtain⟨x2,c⟩:=Xt (jA (g1 Eu) [iQ 0]) (λd=>ab<|E5 d) [] l [] J h (by simp;lia);simp at c
    have e:(oh<|l.map λd=>D.int<|ab<|E5 d).2=(VP l)↔(l.map λd=>ab<|E5 d).Nodup:=by have:=Rm<|l.map λd=>ab<|E5 d;rw[ll,ke]at this;exact this
    have g:(((oh<|l.map λd=>D.int<|ab<|E5 d).2:Int)==(n:Int))=decide ((l.map λd=>ab<|E5 d).Nodup):=by
     rw[uH,<-h1];by_cases q:(l.map λd=>ab<|E5 d).Nodup
     .rw[nI q,e.mpr q];simp
     rw[mq q];simp only[decide_eq_false_iff_not,gm];exact λz=>q<|e.mp z
    simp[la,ni,AV,Hy,h1,jU,uB,lu,b,c,xa,a,jH,jF,wb,tB,g]
   have f:l.all (sg n)=C:=by simpa using a
   simp[la,ni,AV,Hy,h1,jU,uB,lu,b,xa,f,jH,jF,wb,tB]
  have: ¬(((VP l):Int)=(n:Int)):=by lia
  simp[la,ni,AV,Hy,this,h1,jH,jF,wb,tB]
 |_=>(first|rfl|simp[la,ni,AV,Hy,jH,tB])
def LB(d:D):Prop:= ∀l,d=.tup l->VP l<=60
def Og(a:0<=v)(h:v<L.length):D6 (.lst L) (.int v)=Y (L.getD v.toNat .V0,C):=by
 have h1:v.toNat<L.length:=by lia
 simp[D6,Ij,HX,a,h]
def Oh{t:ja}{v:Int}(a:0<=v)(h:v<VP t):D6 (.tup<|t.map .int) (.int v)=ii (t.getD v.toNat 0):=by
 have h1:v.toNat<(VP t):=by lia
 simp[D6,Ij,HX,a,h]
def abT{t:ja}{v:Int}(a:0<=v)(h:v<VP t):D6 (.lst<|t.map .int) (.int v)=ii (t.getD v.toNat 0):=by
 have h1:v.toNat<(VP t):=by lia
 simp[D6,Ij,HX,a,h]
def Gq{P:D->Prop}{L:List D}(a:P .V0)(h:∀d∈L,P d)(k:Nat):P (L.getD k .V0):=by
 rw[pV]
 cases e:L[k]? with
 |none=>exact a
 |some d=>exact h d<|mZ e
def JJ:LB .V0:=λl h=>by cases h
def aaf(h1:(VP l)<=1000)(a:(VP m)<=1000):mI (.tup l) (.tup m)=Y (.tup<|l++m,C):=by simp only[mI];rw[jh<|by rw[kj];lia]
def aag(h1:(VP l)<=1000)(a:(VP m)<=1000):mI (.lst l) (.lst m)=Y (.lst<|l++m,I):=by simp only[mI];rw[jh<|by rw[kj];lia]
def Ll:List D:=[.V0,.bl I,.bl C,.int (-1),.int 0,.int 1,.str "",.str "1",.tup [],.lst [],.tup [.bl I],.lst [.int 1],.AE .dct [.int 0] [.int 1],.tup [.V0],.tup [.tup [.int 1]],.int 100000000000000000000000000000,.tup [.int 0],.tup [.int 1,.int 2]]
def afe:∀d∈Ll,LB d:=by intro d hd;simp only[Ll,nH,pj,sY]at hd;rcases hd with rfl|rfl|rfl|rfl|rfl|rfl|rfl|rfl|rfl|rfl|rfl|rfl|rfl|rfl|rfl|rfl|rfl|rfl<;>intro l h<;>cases h<;>decide
inductive TkI(m:Int)(P:Int->Int->Prop):Prop where
 |mk (v a:Int) (_:0<=v) (_:v<m) (_:P v a)
def ot(a:Int)(b:Bool)(m:Int)(j:0<m)(f:m<1073741824):TkI m λv c=>∀(d:FO)(δ:Dn)(o:BU),d (AD a b::δ)=Y (o,AD a b::δ)->yO (AD a b::δ) o=ii m->jo jD [iQ 0,d] (AD a b::δ)=Y ((.int v,C),AD c b::δ):=by
 obtain⟨v,c,g,h1,e⟩:=um a b m j f;refine⟨v,c,g,h1,λd δ o h i=>?_⟩;refine(kO (os:=[.slot 0,o]) (args:=[pS a b,pI m]) (om H h) ?_ ?_ e).trans ?_
 .simp[i]
 .cases o<;>simp[jF]
 cases o<;>kernel_rfl
def WG(a:Int)(b:Bool):∃c d,LB d/\oo [pS a b]=Y ((d,C),[AD c b]):=by
 obtain⟨v,c,f,h1,e⟩:=ot a b 18 (by lia) (by lia);refine⟨c,Ll.getD v.toNat .V0,Gq JJ afe _,?_⟩;refine lj (δ:=[AD c b,Y (.lst<|Ll.take 16,I)]) ⟨rfl,by decide,rfl⟩ ?_;refine(jf (δ1:=[AD a b,Y (.lst<|Ll.take 16,I)]) ?_).trans ?_
 .kernel_rfl
 refine jY (lz<|kZ (o1:=.val (.lst Ll,I)) (o2:=.val (.int v,C)) (jv (δ1:=[AD a b,Y (.lst<|Ll.take 16,I)])<|kZ (o1:=.slot 1) (o2:=.val (.lst [.tup [.int 0],.tup [.int 1,.int 2]],I)) H (jv ?_) H H ?_) (jv<|e _ _ _ rfl rfl) H H<|Og f<|by simpa[Ll]using h1)
 .kernel_rfl
 exact aag (by decide) (by decide)
def ED(l:List D)(lo a:Option Int):(rl l lo a).length<=(VP l):=by unfold PX.rl;rw[se,Hf];lia
noncomputable def led(u:ja)(s:Int):Int:=if 0<s then u.getD (s-1).toNat 0 else -(u.getD (-s-1).toNat 0)
def WL(u:ja)(s:Int)(a:s≠0)(h1: -((VP u):Int)<=s)(b:s<=VP u):
  nE [enc u,pI s]=Y ((.int<|led u s,C),[eN u,ii s]):=by
 simp only[nE,yI];by_cases h:0<s
 .have:=Oh (t:=u) (v:=s-1) (by lia) (by lia);simp only[AV];simp[h,led,this,jH]
 have:=Oh (t:=u) (v:= -s-1) (by lia) (by lia);simp only[AV];simp[h,led,this,jH]
def ZF(x:Int):pH (.int x) (.int 1)=ii x:=by have:FL x 1:=.inr (by lia);show((if FL x 1 then Y (D.int<|x*1)else J).map λz=>(z,C))=_;rw[jh this,Ad];rfl
def ZE(x:Int):pH (.int x) (.int (-1))=ii (-x):=by have:FL x (-1):=.inr (by lia);show((if FL x (-1)then Y (D.int<|x*(-1))else J).map λz=>(z,C))=_;rw[jh this,Bn,Ad];rfl
theorem pm0:D6 (.lst [.int 1,.int (-1)]) (.int 0)=ii 1:=rfl
theorem pm1:D6 (.lst [.int 1,.int (-1)]) (.int 1)=ii (-1):=rfl
def Sq(u:ja)(s:Int)(b:s≠0)(h1: -((VP u):Int)<=s)(c:s<=VP u):
  ly [enc u,pI s]=Y ((.int<|led u s,C),[eN u,ii s]):=by
 simp only[ly,oU];by_cases h:0<s
 .have:=Oh (t:=u) (v:=s-1) (by lia) (by lia);have a: ¬s<0:=by lia
  simp only[AV];simp[h,a,led,this,jH,kj,pm0,ZF]
 have:=Oh (t:=u) (v:= -s-1) (by lia) (by lia);have a:s<0:=by lia
 simp only[AV];simp[h,a,led,this,jH,kj,pm1,ZE]
def wq(a:Int)(b:Bool)(m:Int)(n:0<m)(i:m<1073741824):TkI m λv g=>∀(h:FO)(c d:Sl)(f:Dn)(o:BU),h (c::d::AD a b::f)=Y (o,c::d::AD a b::f)->yO (c::d::AD a b::f) o=ii m->jo jD [iQ 2,h] (c::d::AD a b::f)=Y ((.int v,C),c::d::AD g b::f):=by
 obtain⟨v,g,j,h1,e⟩:=um a b m n i;refine⟨v,g,j,h1,λh c d f o k l=>?_⟩;refine(kO (os:=[.slot 2,o]) (args:=[pS a b,pI m]) (om H k) ?_ ?_ e).trans ?_
 .simp[l]
 .cases o<;>simp[jF]
 cases o<;>kernel_rfl
def BL(n:Nat)(c:ja):Prop:=c≠[]/\(c.map ab).Pairwise (· < ·)/\∀s∈c,1<=ab s/\ab s<=n
def CA(j:Int)(c:ja):Prop:=(c.map ab).Pairwise (· < ·)/\∀s∈c,1<=ab s/\ab s<j
def ql(h:0<=i):ab i=i:=by unfold ab;rw[jy<|by lia]
def By(h:0<=i):ab (-i)=i:=by unfold ab;split<;>lia
def CA.snoc{j s:Int}{c:ja}(h:CA j c)(h1:ab s=j)(e:1<=j):CA (j+1) (c++[s]):=by
 refine⟨?_,λx a=>?_⟩
 .rw[pU,uh];refine⟨h.1,by simp,λx a y b=>?_⟩;obtain⟨z,d,rfl⟩:=ji a;simp at b;subst b;have:=h.2 z d;lia
 rcases rq.mp a with a|a
 .have:=h.2 x a;lia
 simp at a;subst a;lia
def CA.up(h:CA j c):CA (j+1) c:=⟨h.1,λx a=>by have:=h.2 x a;lia⟩
def aeg{i:Nat}{f:F}{a δ1:Dn}{r:D×Bool}{l0 l:List D}(b:a[i]?=Y (Y (.lst l0,I)))(h1:f a=Y (r,δ1))(c:δ1[i]?=Y (Y (.lst l,I)))(d:(VP l)<=10000):
  jg (oE<|nQ i f) jI a=Y (.nx<|δ1.set i<|Y (.lst<|l++[r.1],I)):=
 (jf<|qL<|rP b h1 c<|zr d).trans rfl
def Ek(h1:f δ=Y (o1,δ1))(a:g δ1=Y (o2,δ2))(b:res δ2 o1=Y (.int i))(c:res δ2 o2=Y (.int j))(d:0<=i/\i<=1000)(e:0<=j/\j<=1000):zb f g δ=Y (jP i (j-i).toNat,δ2):=by unfold zb;rw[om h1 a];simp only[ku,VD,Rq,b,c];rw[jh ⟨by lia,by lia,by lia,by lia⟩]
def lW(h:f δ=Y ((.lst l,o),δ1)):kN f δ=Y (l,δ1):=by unfold kN;rw[h];rfl
def AG{b:Type}[BEq b][LawfulBEq b]:∀(l m:List b),l.Nodup->(∀x∈l,x∈m)->VP l<=(VP m):=by
 intro n
 induction n with
 |nil=>intro m _ _;exact mn _
 |cons x l k=>
  intro m a c;rw[zp]at a;have i:=c x kx;have h:=Ml i
  have:=k (m.erase x) a.2 (λy d=>by have f:=c y<|kE _ d;have j:y≠x:=λe=>a.1<|e▸d;exact(GO j).mpr f)
  have g:=h.length_eq;simp at g ⊢
  lia
def Js{l:ja}(h:l.Pairwise (· < ·)):l.Nodup:=h.imp λh=>by lia
def BL.len{n:Nat}{c:ja}(h:BL n c):(VP c)<=n:=by
 have:=AG (c.map ab) (st n) (Js h.2.1) (λx b=>by obtain⟨s,a,rfl⟩:=ji b;exact Ff.mpr<|h.2.2 s a)
 simpa[st]using this
def TOk(n:Nat)(t:ja):Prop:=VP t=n/\∀x∈t,1<=ab x/\ab x<=n
def ph(i:Int):ab (-i)=ab i:=by unfold ab;split<;>split<;>lia
def mx{l:ja}{k:Nat}(h:k<VP l):l.getD k 0∈l:=by rw[pV,lq h];exact Dd h
def WM{n:Nat}{t:ja}(b:TOk n t){s:Int}(h1:1<=ab s)(a:ab s<=n):1<=ab (led t s)/\ab (led t s)<=n:=by
 unfold led;unfold ab at h1 a;have c:=b.1;split
 .rename_i h;rw[jy<|by omega]at h1 a;exact b.2 _ (mx<|by omega)
 rename_i h;rw[ph];split at h1
 .rw[jh<|by assumption]at a;exact b.2 _ (mx<|by omega)
 omega
noncomputable abbrev cD(c:ja):D:=.tup (c.map .int)
def Bl(c:ja):D.dep (cD c)=1:=by simp[D.dep,wM]
def Ki:∀a:List (List Int),D.BJ (a.map cD)<=1:=by
 intro d
 induction d with
 |nil=>simp[D.BJ]
 |cons c a b=>have:=b;simp only[kM,D.BJ,Bl];lia
def Iu(a b:ja):D.BE (cD a) (cD b)=decide (a=b):=by simp[D.BE,Bg]
def IH(c:ja):∀a:List (List Int),(a.map cD).any (λd=>D.BE d<|cD c)=decide (c∈a):=by
 intro f
 induction f with
 |nil=>kernel_rfl
 |cons x a b=>
  simp only[kM,vU,b,Iu];by_cases h:x=c
  .simp[h]
  have: ¬c=x:=λe=>h e.symm;simp[h,this]
def af5(c:ja)(a:jL):qj (cD c) (.lst<|a.map cD)=Y (.bl (!decide (c∈a)),C):=by
 have:inD (cD c) (.lst<|a.map cD)=Y (decide<|c∈a):=by have hd:=Ki a;show(if D.BJ (a.map cD)<=50/\(cD c).dep<=50 then Y ((a.map cD).any λd=>D.BE d<|cD c)else J)=_;rw[jh ⟨by lia,by rw[Bl];lia⟩,IH]
 unfold qj;rw[this];rfl
noncomputable def Bx:Nat->List (List Int)
 |0=>[[]]
 |k+1=>Bx k++((Bx k).map λc=>c++[(k:Int)+1])++((Bx k).map λc=>c++[-((k:Int)+1)])
def Qr:∀(k:Nat)(c:ja),(c.map ab).Pairwise (· < ·)->(∀s∈c,1<=ab s/\ab s<=k)->c∈Bx k:=by
 intro j
 induction j with
 |zero=>
  intro c _ h
  cases c with
  |nil=>simp[Bx]
  |cons s c=>have:=h s kx;lia
 |succ k f=>
  intro c b h;simp only[Bx,rq,sh];by_cases d:c=[]
  .subst d;exact .inl<|.inl<|f [] (by simp) (by simp)
  have hd:=GB d;generalize c.dropLast=i at hd;generalize c.getLast d=s at hd;subst hd;rw[pU,uh]at b;have l:=h s (by simp);have g:∀x∈i,1<=ab x/\ab x<ab s:=λx a=>⟨(h x<|by simp[a]).1,b.2.2 (ab x) (sP a) (ab s)<|by simp⟩
  by_cases q:ab s<=k
  .refine .inl (.inl<|f _ ?_ λx a=>?_)
   .rw[pU,uh];exact b
   rcases rq.mp a with a|a
   .have:=g x a;lia
   simp at a;subst a;lia
  have e:ab s=(k:Int)+1:=by lia
  have hk:=f i b.1 λx a=>by have:=g x a;lia
  unfold ab at e;split at e
  .exact .inr ⟨i,hk,by rw[show s= -((k:Int)+1) by lia]⟩
  exact .inl (.inr ⟨i,hk,by rw[show s=((k:Int)+1) by lia]⟩)
def afx:∀(k:Nat)(n:Nat),n<=k->(Bx n).length<=(Bx k).length:=by
 intro b
 induction b with
 |zero=>intro n h;rw[show n=0 by lia];exact kg _
 |succ k a=>
  intro n h;by_cases e:n=k+1
  .subst e;exact kg _
  have:=a n (by lia);simp only[Bx,nK,ke];lia
def DQ(n:Nat)(cs:jL):Prop:=cs.Nodup/\∀c∈cs,BL n c
def DQ.len(b:n<=5)(h:DQ n cs):(VP cs)<=243:=by
 have h1:=AG cs (Bx n) h.1 λc a=>Qr n c (h.2 c a).2.1 (h.2 c a).2.2;have d:=afx 5 n b;have e:(Bx 5).length=243:=by decide
 lia
def DQ.snoc{n:Nat}{b:jL}{c:ja}(h:DQ n b)(f:BL n c)(g:c∉b):DQ n (b++[c]):=by
 refine⟨?_,λx a=>?_⟩
 .rw[Ca];exact⟨h.1,by simp,λx a y d e=>by simp at d;subst d;subst e;exact g a⟩
 rcases rq.mp a with a|a
 .exact h.2 x a
 simp at a;subst a;exact f
abbrev Ig(cs:jL):Sl:=Y (.lst<|cs.map cD,I)
noncomputable def oG(a:jL)(c:ja):List (List Int):=if c∈a then a else a++[c]
def dd(cs:jL):List (List Int):=cs.foldl oG []
def Kt(a:jL)(c:ja):rW (a.map cD) (cD c)=(oG a c).map cD:=by unfold rW oG;rw[show(a.map cD).any (D.BE · (cD c))=decide (c∈a)from IH c a];by_cases h:c∈a<;>simp[h]
def Qd:∀(b a:jL),(b.map cD).foldl rW (a.map cD)=(b.foldl oG a).map cD:=by
 intro e
 induction e with
 |nil=>intro a;exact H
 |cons c b d=>intro a;rw[kM,tj,tj,Kt,d]
def Qt:x∈oG a c↔x∈a\/x=c:=by
 unfold oG;by_cases h:c∈a
 .rw[jh h];constructor
  .exact .inl
  rintro(h1|rfl)
  .exact h1
  exact h
 rw[jy h];simp
def yq:∀(cs a:jL)(x:ja),x∈cs.foldl oG a↔x∈a\/x∈cs:=by
 intro d
 induction d with
 |nil=>intro a x;simp
 |cons c cs b=>intro a x;rw[tj,b,Qt,nH,or_assoc]
def TX(h:f.Nodup):(oG f c).Nodup:=by
 unfold oG;split
 .exact h
 rename_i b;rw[Ca];exact⟨h,by simp,λx d y a e=>by simp at a;subst a;subst e;exact b d⟩
def A6:∀(cs a:jL),a.Nodup->(cs.foldl oG a).Nodup:=by
 intro d
 induction d with
 |nil=>intro a h;exact h
 |cons c cs b=>intro a h;rw[tj];exact b _ (TX h)
def Fs:∀l:List Int,D.Im (l.map .int)=I:=by
 intro b
 induction b with
 |nil=>simp[D.Im]
 |cons x l a=>simp[D.Im,D.pr,a]
def WE(c:ja):HE (cD c)=I:=by simp[HE,Fs,wM]
def Eb(a:jL):(a.map cD).all HE=I:=by rw[mC];intro d hd;obtain⟨c,_,rfl⟩:=ji hd;exact WE c
theorem CP(c:cK):∀a b:List Int,(uf c (a.map .int)<|b.map .int).isSome=I
 |[],b=>by kernel_rfl
 |x::a,[]=>by kernel_rfl
 |x::a,y::b=>by
  simp only[kM,uf];split
  .exact CP c a b
  simp[rV]
def ya(cs:jL)(h:∀c∈cs,c≠[]):nv (cs.map cD)=I:=by
 have hk:∀c:List Int,c≠[]->lX (cD c)=Y 1:=λc g=>by
  cases c with
  |nil=>exact absurd H g
  |cons=>rfl
 unfold nv
 cases cs with
 |nil=>rfl
 |cons c cs=>
  rw[xo];right;simp only[kM];rw[mf,mf,hk c<|h c kx];refine⟨⟨rfl,?_⟩,?_⟩
  .rw[mC];intro d hd;rw[<-kM (f:=cD)]at hd;obtain⟨x,b,rfl⟩:=ji hd;rw[hk x<|h x b,Bl];simp[D.pr,Fs]
  rw[mC];intro d hd;rw[mC];intro e a;rw[<-kM (f:=cD)]at hd a;obtain⟨x,b,rfl⟩:=ji hd;obtain⟨y,i,rfl⟩:=ji a;simp only[rV];rw[jh<|.inl trivial];exact CP _ _ _
def K5:D->List Int
 |.tup l=>l.map E5
 |_=>[]
def nL(c:ja):K5 (cD c)=c:=by simp only[K5,ll];rw[qm (g:=id),rX];intro x _;rfl
def Bm(h:m.Perm (cs.map cD)):∃a:List (List Int),m=a.map cD/\a.Perm cs:=by
 refine⟨m.map K5,?_,?_⟩
 .rw[ll]
  symm
  rw[qm (g:=id),rX];intro d hd;obtain⟨c,_,rfl⟩:=ji<|h.mem_iff.mp hd;simp only[cj,nL];rfl
 have:=h.map K5;rw[ll]at this;rw[show gq (K5∘cD) cs=gq id cs from qm λc _=>nL c,rX]at this;exact this
def K9(c:jL):Prop:=c.Pairwise λa b=>Bj (cD b) (cD a)=C
def K9.take(h:K9 a)(m:Nat):K9 (a.take m):=wv (xN m a) h
def DQ.take(h:DQ n a)(m:Nat):DQ n (a.take m):=⟨List.Nodup.sublist (xN m a) h.1,λc b=>h.2 c<|vf b⟩
def zo(n:Nat)(a:jL):Prop:=n<=5/\DQ n a/\K9 a/\(VP a)<=30
abbrev FA(n:Nat)(a:jL):D:=.tup [.int n,.tup<|a.map cD]
abbrev rS(n:Nat)(a:jL):Sl:=Y (FA n a,C)
noncomputable abbrev Bq(a:List D):Dn:=a.map λd=>Y (d,C)
theorem wA:∀(os:List BU)(a:List D),jF os (a.map λd=>(d,C))=[]
 |[],_=>by simp[jF]
 |_::_,[]=>by simp[jF]
 |o::os,d::a=>by cases o<;>simp[jF,wA os a]
theorem IV:∀(os:List BU)(b:List D)(a c:Dn),wb os (b.map λd=>(d,C)) a c=c
 |[],_,_,_=>by simp[wb]
 |_::_,[],_,_=>by kernel_rfl
 |_::_,_::_,[],_=>by kernel_rfl
 |o::os,d::b,x::xs,c=>by cases o<;>simp[wb,IV os b xs]
def Xu{f:F}{ti:FT}{g:D->D}{p:D->Bool}{pre:Dn}:∀(l a:List D)(x:Sl),(∀d∈l,ti (pre++[Y (d,C)])=Y (p d,pre++[Y (d,C)])/\(p d=I->∃o,f (pre++[Y (d,C)])=Y ((g d,o),pre++[Y (d,C)])))->VP a+VP l<=sizeLine->
  ∃b,kP (jd<|VP pre) ti (kF f) l a (pre++[x])=Y (a++(l.filter p).map g,pre++[b]):=by
 intro r
 induction r with
 |nil=>intro a x _ _;exact⟨x,by simp[kP]⟩
 |cons d l m=>
  intro a x h j;obtain⟨h1,n⟩:=h d kx;have q:(VP a)<sizeLine:=by simp at j;lia
  rw[kP,I9];simp;rw[h1]
  cases k:p d
  .obtain⟨b,e⟩:=m a (Y (d,C)) (λc i=>h c<|kE _ i) (by simp at j ⊢;lia);exact⟨b,by simp[e,k]⟩
  obtain⟨o,hd⟩:=n k;obtain⟨b,e⟩:=m (a++[g d]) (Y (d,C)) (λc i=>h c<|kE _ i) (by simp at j ⊢;lia);refine⟨b,?_⟩;simp;rw[hd];simp;rw[jh q];simp;rw[e];simp[k]
def yv{caps:jX}{fi:EG}{f:F}{ti:FT}{δ δ1:Dn}{l args:List D}(g:D->D)(p:D->Bool)(h1:fi δ=Y (l,δ1))(a:kn δ1 (caps.map .slot)=Y (args.map λd=>(d,C)))(b:(VP args)=VP caps)
  (h:∀d∈l,ti (Bq args++[Y (d,C)])=Y (p d,Bq args++[Y (d,C)])/\(p d=I->∃o,f (Bq args++[Y (d,C)])=Y ((g d,o),Bq args++[Y (d,C)])))(c:(VP l)<=10000):
  jU caps 1 fi (jd<|VP caps) ti (kF f) δ=Y ((.lst<|(l.filter p).map g,I),δ1):=by
 obtain⟨i,e⟩:=Xu (f:=f) (ti:=ti) (g:=g) (p:=p) (pre:=Bq args) l [] J h (by rw[kj];simp;lia);unfold jU;rw[h1];simp only[ku];rw[a];simp only[ku,wA,nJ,ll,IV];rw[show jd (VP caps)=jd (Bq args).length from by rw[ke,b]];rw[show((args.map<|Y∘λd=>(d,C))++ag 1 J:Dn)=Bq args++[J]from H,e];simp
def rR{caps:jX}{fi:EG}{f:F}{δ δ1:Dn}{l args:List D}(g:D->D)(h1:fi δ=Y (l,δ1))(a:kn δ1 (caps.map .slot)=Y (args.map λd=>(d,C)))(b:(VP args)=VP caps)
  (h:∀d∈l,∃o,f (Bq args++[Y (d,C)])=Y ((g d,o),Bq args++[Y (d,C)]))(c:(VP l)<=10000):
  jU caps 1 fi (jd<|VP caps) kh (kF f) δ=Y ((.lst<|l.map g,I),δ1):=by
 rw[yv g (λ_=>I) h1 a b (λd hd=>⟨rfl,λ_=>h d hd⟩) c,XI.mpr λ_ _=>rfl]
def wN{caps:jX}{fi:EG}{f:F}{δ δ1:Dn}{l args:List D}(p:D->Bool)(h1:fi δ=Y (l,δ1))(a:kn δ1 (caps.map .slot)=Y (args.map λd=>(d,C)))(b:(VP args)=VP caps)
  (h:∀d∈l,∃o,f (Bq args++[Y (d,C)])=Y ((.bl<|p d,o),Bq args++[Y (d,C)]))(c:(VP l)<=10000):
  jA (g1 zg) [iU<|jU caps 1 fi (jd<|VP caps) kh<|kF f] δ=Y ((.bl<|l.all p,C),δ1):=
 pN (Be<|jv<|rR (λd=>.bl (p d)) h1 a b h c) rfl (xa p l)
inductive FIv(P:Dn->Prop)(x:Option Out):Prop where
 |mk (δ:Dn) (_:P δ) (_:x=TW (.nx δ))
def rO{tg:Tg}{fb:FS}(U:List D->Dn->Prop)(step:∀d ds δ,U (d::ds) δ->∃δ1 δ2,tg d δ=Y δ1/\fb δ1=Y (.nx δ2)/\U ds δ2):∀(ds:List D)(δ:Dn),U ds δ->FIv (U []) (pT tg fb ds δ):=by
 intro i
 induction i with
 |nil=>intro δ h;exact⟨δ,h,rfl⟩
 |cons d ds g=>intro δ h;obtain⟨δ1,δ2,h1,b,c⟩:=step d ds δ h;obtain⟨a,e,f⟩:=g δ2 c;refine⟨a,e,?_⟩;unfold pT;rw[h1];simp;rw[b];exact f
def pM{caps:jX}{k:Nat}{fi:EG}{d:Tg}{ti:FT}{c:FB}{δ δ1 b:Dn}{l a:List D}{args:List (D×Bool)}(h1:fi δ=Y (l,δ1))(e:kn δ1 (caps.map .slot)=Y args)(f:(jF (caps.map .slot) args).Nodup)(g:kP d ti c l [] (args.map Y++ag k J)=Y (a,b)):
  jU caps k fi d ti c δ=Y ((.lst a,I),wb (caps.map .slot) args (jH args b) δ1):=by
 unfold jU;rw[h1];simp;rw[e];simp only[ku];rw[jh f,g];rfl
noncomputable def BZ:D->Bool
 |.int i=>decide (0<=i)&&decide (i<=1)
 |_=>C
def Xv(d:D):pe [(d,C)]=Y ((.bl<|BZ d,C),[Y (d,C)]):=by
 cases d<;>(first|rfl|simp[pe,Cz,AV,jH,Co,jF,wb,BZ])
def isA(n:Nat):D->Bool
 |.tup l=>decide (VP l=n)&&l.all BZ
 |_=>C
def Io(h:f δ=Y ((.bl I,o),δ1)):Bf f g δ=g δ1:=by rw[NY,h];rfl
def Xk(h:f δ=Y ((.bl C,o),a)):Bf f g δ=Y ((.bl C,C),a):=by rw[NY,h];rfl
def C5(n:Nat)(d:D)(hd:LB d):mT [pI n,(d,C)]=Y ((.bl<|isA n d,C),[ii n,Y (d,C)]):=by
 cases d with
 |tup l=>
  have c:=wN (caps:=[]) (fi:=kN<|lu 1) (f:=jo pe [iQ 0]) (δ:=[ii n,Y (.tup l,C)]) (l:=l) (args:=[]) BZ H H H (λd _=>⟨C,by simp[Xv,jF,wb]⟩) (by have:=hd l H;lia)
  have e:jl FE Kx (iQ 0) [ii n,Y (.tup l,C)]=Y ((.bl<|decide<|VP l=n,C),[ii n,Y (.tup l,C)]):=by simp[uH,gm]
  refine lj (δ:=[ii n,Y (.tup l,C)]) ⟨rfl,by decide,rfl⟩<|jY<|lz<|(Io H).trans ?_;rw[isA];by_cases h:(VP l)=n
  .rw[nI h]at e ⊢;exact(Io e).trans c
  rw[mq h]at e ⊢;exact Xk e
 |_=>(first|rfl|simp[mT,wI,AV,jH,Hy,isA])
def LW(t:ja)(s:Int):Bool:=t.getD ((ab s).toNat-1) 0==(if s>0 then 1 else 0)
def abU(t:ja)(s:Int)(h:1<=ab s/\ab s<=VP t):D6 (.tup<|t.map .int) (.int<|ab s-1)=ii (t.getD ((ab s).toNat-1) 0):=by
 have h1:0<=ab s-1:=by lia
 have b:ab s-1<((t.map D.int).length:Int):=by simp;lia
 have c:(ab s-1).toNat=(ab s).toNat-1:=by lia
 have d:(ab s).toNat-1<(VP t):=by lia
 have a:HX (t.map D.int).length (ab s-1)=Y ((ab s).toNat-1):=by unfold HX;rw[jh h1,jh b,c]
 rw[ke]at a;simp[D6,Ij,a,d]
def Y7(t:ja)(s:Int)(h:1<=ab s/\ab s<=VP t):uc [enc t,pI s]=Y ((.bl<|LW t s,C),[eN t,ii s]):=by have:=abU t s h;unfold ab at this;by_cases a:s>0<;>simp[uc,F6,AV,jH,this,a,LW,ab]
noncomputable def mw:Nat->List (List Int)
 |0=>[[]]
 |n+1=>(mw n).flatMap λt=>[t++[0],t++[1]]
def Gr:∀{n:Nat}{t:ja},t∈mw n->VP t=n/\∀x∈t,x=0\/x=1:=by
  intro e
  induction e with
  |zero=>intro t h;simp[mw]at h;simp[h]
  |succ n d=>
    intro t h;rw[mw,yP]at h;obtain⟨u,c,h⟩:=h;obtain⟨h1,b⟩:=d c;simp at h
    rcases h with rfl|rfl<;>
      (refine⟨by simp[h1],λx a=>?_⟩
       rcases rq.mp a with a|a
       · exact b x a
       · simp at a;simp[a])
def aeq{n:Nat}(a:n<=5):2^n<=32:=zL (n:=2) (by decide) a
def SR{n:Nat}{t:ja}(h:t∈mw n):isA n (cD t)=I:=by obtain⟨h1,a⟩:=Gr h;simp only[isA,ke,h1,decide_true,dH,fA,mC,cj];intro x b;rcases a x b with rfl|rfl<;>rfl
def Zx{t:ja}(h:(VP t)<=60):LB (cD t):=λl e=>by cases e;simpa using h
def uA(p:D->Bool)(L:jL):((L.map cD).filter p).map (λd=>d)=(L.filter λt=>p<|cD t).map cD:=by rw[u5,C8];rfl
def aae(x:Int)(c:ja):(c.map D.int).any (λd=>D.BE d<|.int x)=c.contains x:=by
 induction c with
 |nil=>rfl
 |cons y c a=>rw[kM,vU,a,List.contains_cons];simp[D.BE,uH,eq_comm]
def zw(x:Int)(c:ja):qj (.int x) (cD c)=Y (.bl (!c.contains x),C):=by
 have:inD (.int x) (cD c)=Y (c.contains x):=by show(if D.BJ (c.map .int)<=50/\(D.int x).dep<=50 then Y ((c.map D.int).any λd=>D.BE d<|.int x)else J)=_;rw[jh ⟨by rw[wM];lia,by simp[D.dep]⟩,aae]
 unfold qj;rw[this];rfl
def ZP(c:ja)(a:jL):LN (cD c) (.lst<|a.map cD)=Y (.bl<|decide<|c∈a,C):=by
 have h:=af5 c a;unfold qj at h;unfold LN
 cases d:inD (cD c) (.lst<|a.map cD)with
 |none=>rw[d]at h;cases h
 |some b=>rw[d]at h;simp at h ⊢;cases b<;>simp at h ⊢ <;>exact h
def Px{d:D}(h:d.dep<=50):FE d d=Y (.bl I,C):=by unfold FE;rw[jh ⟨h,h⟩,D.E8]
def Pr{d:D}(h:d.dep<=50):HY d d=Y (.bl C,C):=by unfold HY;rw[jh ⟨h,h⟩,D.E8];rfl
def Tt(L:jL):(D.lst<|L.map cD).dep<=50:=by have:=Ki L;rw[D.dep];lia
def Xo(l:List D)(v:Nat):PX.rl l J (Y (v:Int))=l.take v:=by
 unfold PX.rl;rw[HT.XD,HT.Zb,List.drop_zero,Nat.sub_zero];by_cases h:v<=VP l
 .rw[zO h]
 rw[Nat.min_eq_right<|by omega,zQ<|kg _,zQ<|by omega]
def TT(n:Nat)(t:ja):Prop:=(t.map ab).Perm<|st n
def SG(n:Nat)(s:Int):Prop:=1<=ab s/\ab s<=n
def L0(t u:ja):List Int:=t.map<|led u
def TT.len{n:Nat}{t:ja}(h:TT n t):(VP t)=n:=by simpa using(HP.mp h).1
def TT.sg{n:Nat}{t:ja}(h:TT n t){x:Int}(a:x∈t):SG n x:=(HP.mp h).2.1 _ (sP a)
def TT.tok{n:Nat}{t:ja}(h:TT n t):TOk n t:=⟨h.len,λx a=>h.sg a⟩
def Y9{n:Nat}{s:Int}(h:SG n s):s≠0:=by rintro rfl;have:=h.1;simp[ab]at this
def Vs{n:Nat}{s:Int}(h:SG n s):SG n (-s):=by unfold SG;rw[ph];exact h
def ng{n:Nat}{s:Int}(h:SG n s):∃k:Nat,k<n/\(s=(k:Int)+1\/s= -((k:Int)+1)):=by
 have:=h;unfold SG ab at this;split at this
 .exact⟨(-s-1).toNat,by omega,.inr<|by omega⟩
 exact⟨(s-1).toNat,by omega,.inl<|by omega⟩
def Ji{n k:Nat}(h:k<n):SG n ((k:Int)+1):=by unfold SG;rw[ql<|by lia];lia
def lN(t:ja)(k:Nat):led t ((k:Int)+1)=t.getD k 0:=by unfold led;rw[jh<|by lia,show((k:Int)+1-1).toNat=k by lia]
def mv(t:ja)(k:Nat):led t (-((k:Int)+1))= -t.getD k 0:=by unfold led;rw[jy<|by lia,show(- -((k:Int)+1)-1).toNat=k by lia]
def zB{n:Nat}(t:ja){s:Int}(h:SG n s):led t (-s)= -led t s:=by
 obtain⟨k,_,rfl|rfl⟩:=ng h
 .rw[lN,mv]
 rw[A2,lN,mv,A2]
def EM{n:Nat}{t:ja}(a:(VP t)=n){s:Int}(h:SG n s):ab (led t s)=(t.map ab).getD ((ab s).toNat-1) 0:=by
 obtain⟨k,hk,rfl|rfl⟩:=ng h
 .rw[lN,ql (i:=(k:Int)+1)<|by lia,show(((k:Int)+1).toNat-1)=k by lia];simp[a,hk]
 rw[mv,ph,By<|by lia,show(((k:Int)+1).toNat-1)=k by lia];simp[a,hk]
def TT.led{n:Nat}{t:ja}(h:TT n t){s:Int}(a:SG n s):SG n (led t s):=WM h.tok a.1 a.2
def Eg{n:Nat}{t:ja}(h:TT n t)(u:ja){s:Int}(b:SG n s):PV.led (L0 t u) s=PV.led u (PV.led t s):=by
 obtain⟨k,hk,rfl|rfl⟩:=ng b
 .rw[lN,lN];simp[L0,h.len,hk]
 have a:t.getD k 0∈t:=mx (by rw[h.len];exact hk);rw[mv,mv,zB u<|h.sg a];simp[L0,h.len,hk]
def TT.L0{n:Nat}{t u:ja}(h:TT n t)(a:TT n u):TT n (L0 t u):=by
 unfold TT
 have e:(PV.L0 t u).map ab=(t.map ab).map λj=>(u.map ab).getD (j.toNat-1) 0:=by unfold PV.L0;rw[ll,ll];refine qm λx d=>?_;exact EM a.len<|h.sg d
 rw[e];refine(h.map _).trans (ib (agt ?_) a);apply Aa
 .simp[st,a.len]
 intro i h1 f;have c:i<n:=by simpa[st]using h1
 have b:((1:Int)+(i:Int)).toNat-1=i:=by lia
 simp only[st,ll,fV,kl,cj,b];simp[pV,a.len,c]
def zD{n:Nat}{t:ja}(h:TT n t){s r:Int}(g:SG n s)(f:SG n r)(e:PV.led t s=PV.led t r):s=r:=by
 have k:=(HP.mp h).2.2
 have c:∀{i j:Nat},i<n->j<n->ab (t.getD i 0)=ab (t.getD j 0)->i=j:=λ{i j} a b e=>by
  have l:=h.len
  have:=(DI (xs:=t.map ab) (i:=i) (j:=j) (h₀:=by simpa[l]using a) (h₁:=by simpa[l]using b) k).mp (by simp;simpa[pV,l,a,b]using e)
  exact this
 have d:∀{i:Nat},i<n->t.getD i 0≠0:=λ{i} a=>Y9<|h.sg<|mx (by rw[h.len];exact a);obtain⟨i,a,rfl|rfl⟩:=ng g<;>obtain⟨j,b,rfl|rfl⟩:=ng f
 .rw[lN,lN]at e;rw[c a b<|by rw[e]]
 .rw[lN,mv]at e;have:=c a b (by rw[e,ph]);subst this;exact absurd (show t.getD i 0=0 by lia)<|d a
 .rw[lN,mv]at e;have:=c a b (by rw[<-e,ph]);subst this;exact absurd (show t.getD i 0=0 by lia)<|d a
 rw[mv,mv]at e;rw[c a b<|by rw[show t.getD i 0=t.getD j 0 by lia]]
def Ef{n:Nat}{t u:ja}(h1:(VP t)=n)(a:(VP u)=n)(h:∀s,SG n s->PV.led t s=PV.led u s):t=u:=by apply Aa (by rw[h1,a]);intro i b c;have:=h _ (Ji (n:=n) (k:=i)<|by lia);rw[lN,lN]at this;simpa[pV,b,c]using this
def xZ(n:Nat):(st n).length=n:=by simp[st]
def Ub(n:Nat):TT n (st n):=by
 have:(st n).map ab=st n:=by
  conv=>rhs;rw[<-rX (st n)]
  refine qm λx a=>?_;have:=Ff.mp a;exact ql (by lia)
 unfold TT;rw[this]
def AK{n:Nat}{s:Int}(h:SG n s):PV.led (st n) s=s:=by
 obtain⟨k,hk,rfl|rfl⟩:=ng h
 .rw[lN];simp[st,hk];lia
 rw[mv];simp[st,hk];lia
def BK(n:Nat)(t w:ja):Prop:=VP w=n/\∀s,SG n s->PV.led w (PV.led t s)=s
def BK.tt{n:Nat}{t w:ja}(h:BK n t w)(f:TT n t):TT n w:=by
 refine(JL (st n) (w.map ab) (Ua n) (λx g=>?_)<|by simp[xZ,h.1]).symm;have i:=Ff.mp g;have c:SG n x:=by unfold SG;rw[ql<|by lia];lia
 have e:=h.2 x c;have a:=f.led c;have b:ab (PV.led w<|PV.led t x)=x:=by rw[e,ql<|by lia]
 rw[EM h.1 a]at b;rw[<-b];have d:(ab<|PV.led t x).toNat-1<(w.map ab).length:=by have:=a.2;have:=a.1;rw[ke,h.1];lia
 exact mx d
def BK.sym{n:Nat}{t w:ja}(h:BK n t w)(b:TT n t):BK n w t:=by refine⟨b.len,λs a=>?_⟩;have c:=h.tt b;exact zD c (b.led<|c.led a) a<|h.2 _ (c.led a)
def Iw(n:Nat)(t:ja):Nat->List Int
 |0=>st n
 |k+1=>L0 (Iw n t k) t
theorem pE{n:Nat}{t:ja}(h:TT n t):∀k,TT n<|Iw n t k
 |0=>Ub n
 |k+1=>(pE h k).L0 h
theorem zt{n:Nat}{t:ja}(h:TT n t)(i:Nat){s:Int}(a:SG n s):∀j,PV.led (Iw n t<|i+j) s=PV.led (Iw n t j) (PV.led (Iw n t i) s)
 |0=>by rw[show Iw n t 0=st n from H,AK<|(pE h i).led a];rfl
 |j+1=>by show PV.led (PV.L0 (Iw n t<|i+j) t) s=PV.led (PV.L0 (Iw n t j) t) _;rw[Eg (pE h _) t a,Eg (pE h j) t<|(pE h i).led a,zt h i a j]
theorem Jt{n:Nat}{t:ja}(h:TT n t){d:Nat}{s:Int}(a:SG n s)(e:PV.led (Iw n t d) s=s):∀q,PV.led (Iw n t<|d*q) s=s
 |0=>AK a
 |q+1=>by rw[Nat.mul_succ,zt h _ a,Jt h a e q,e]
def Wb{c:Type}[DecidableEq c](f:Nat->c)(m:List c):∀k:Nat,(∀i,i<=k->f i∈m)->VP m<=k->∃i j,i<j/\j<=k/\f i=f j:=λk l s=>by
 apply Classical.byContradiction;intro o
 have q:((aj<|k+1).map f).Nodup:=by rw[e9,oq];refine(QK (n:=k+1)).imp_of_mem λ{a b} r g d e=>o ⟨a,b,d,?_,e⟩;have:=vP.mp g;lia
 have:=AG _ m q λx p=>by obtain⟨i,h,rfl⟩:=ji p;exact l i (by have:=vP.mp h;lia)
 simp at this;lia
def Zs{n:Nat}(f:n<=5){t:ja}(h:TT n t){s:Int}(a:SG n s):∃d,1<=d/\d<=10/\PV.led (Iw n t d) s=s:=by
 obtain⟨i,j,g,c,e⟩:=Wb (λi=>PV.led (Iw n t i) s) (st n++(st n).map λx=> -x) 10 (λi _=>by
  have:=(pE h i).led a;rw[rq,sh];obtain⟨k,hk,e|e⟩:=ng this
  .left;rw[e];exact Ff.mpr (by lia)
  right;exact⟨(k:Int)+1,Ff.mpr<|by lia,by rw[e]⟩) (by simp[xZ];lia)
 refine⟨j-i,by lia,by lia,?_⟩;have b:=zt h (j-i) a i;rw[show j-i+i=j by lia]at b;exact zD (pE h i) ((pE h _).led a) a (by rw[<-b];exact e.symm)
def VY{n:Nat}(b:n<=5){t:ja}(h:TT n t):Iw n t 2520=st n:=by
 refine Ef (n:=n) (pE h _).len (xZ n) λs a=>?_;obtain⟨d,h1,c,e⟩:=Zs b h a
 have hd:d*(2520 / d)=2520:=by
  have:d=1\/d=2\/d=3\/d=4\/d=5\/d=6\/d=7\/d=8\/d=9\/d=10:=by lia
  rcases this with rfl|rfl|rfl|rfl|rfl|rfl|rfl|rfl|rfl|rfl<;>rfl
 rw[<-hd,Jt h a e,AK a]
def RB{n:Nat}{t:ja}(h:TT n t):Iw n t 1=t:=
 Ef (n:=n) (pE h 1).len h.len λs a=>by rw[show Iw n t 1=PV.L0 (st n) t from H,Eg (Ub n) t a,AK a]
def adS:∀(k:Nat)(r f t:ja),VP r=k->(∀x∈r,0<=x)->t∈uS k r f->(t.map ab).Perm (f.map ab++r):=by
 intro m
 induction m with
 |zero=>intro r f t d _ h;simp[uS]at h;subst h;rw[QN.mp d];simp
 |succ k i=>
  intro r f t d b h;simp only[uS,yP,rq,vP]at h;obtain⟨v,hv,h⟩:=h;have c:(r.eraseIdx v).length=k:=by rw[Dc,jh hv];lia
  have g:∀x∈r.eraseIdx v,0<=x:=λx a=>b x<|List.mem_of_mem_eraseIdx a;have a:=b _ (mx hv)
  have fin:∀y:Int,ab y=r.getD v 0->(gq ab (f++[y])++r.eraseIdx v).Perm (f.map ab++r):=λy l=>by
   rw[pU,pX];refine MC _ ?_;simp only[kM,sM,nP,xb,l];have e:r.getD v 0=r[v]:=by simp[hv]
   rw[e];rw[List.eraseIdx_eq_take_drop_succ];have j:r=r.take v++r[v]::r.drop (v+1):=by rw[<-xD hv,sU]
   conv=>rhs;rw[j]
   exact QD.symm
  rcases h with h|h
  .exact(i _ _ t c g h).trans (fin _ (by rw[Ad];exact ql a))
  exact(i _ _ t c g h).trans (fin _ (by rw[Bn,Ad];exact By a))
def Rb{n:Nat}{t:ja}(h:t∈uS n (st n) []):TT n t:=by have:=adS n (st n) [] t (xZ n) (λx a=>by have:=Ff.mp a;lia) h;unfold TT;simpa using this
def lc(t c:ja):List Int:=(mW Iq<|(c.map<|led t).map D.int).map E5
def Mb(t c d:ja):Prop:=d.Perm (c.map<|led t)/\(d.map ab).Pairwise (· < ·)
def FX{m:List D}{l:ja}(h:m.Perm (l.map D.int)):m=(m.map E5).map D.int/\(m.map E5).Perm l:=by
 obtain⟨k,rfl⟩:=adm h;have e:(k.map D.int).map E5=k:=by rw[ll];exact rX k
 rw[e];refine⟨rfl,?_⟩;have:=h.map E5
 rwa [e,ll,show gq (E5∘D.int) l=l from rX l]at this
def C6{n:Nat}{t c:ja}(g:TT n t)(h1:(c.map ab).Nodup)(f:∀s∈c,SG n s):((c.map<|led t).map ab).Nodup:=by
 rw[ll,e9,oq];rw[e9,oq]at h1;refine h1.imp_of_mem λ{a b} j k i e=>i ?_;have e:ab (led t a)=ab (led t b):=e;have h:=f a j;have d:=f b k;by_cases q:led t a=led t b
 .rw[zD g h d q]
 have:led t a=led t (-b):=by rw[zB t d];unfold ab at e;split at e<;>split at e<;>lia
 rw[zD g h (Vs d) this,ph]
def JY{n:Nat}{t c:ja}(j:TT n t)(g:BL n c):Mb t c (lc t c)/\(mW Iq<|(c.map<|led t).map D.int)=(lc t c).map D.int:=by
 obtain⟨e,i⟩:=FX<|km Iq<|(c.map<|led t).map D.int;refine⟨⟨i,?_⟩,e⟩;have k:=C6 j (Js g.2.1) λs f=>g.2.2 s f;have d:((lc t c).map ab).Nodup:=(i.map ab).symm.nodup k;have f:=Cg<|(c.map<|led t).map D.int;rw[e,oq]at f;rw[oq];rw[e9,oq]at d;refine(f.and d).imp λ{a b} h=>?_;have h1:ab a<=ab b:=h.1;have l:ab a≠ab b:=h.2
 lia
def Mb.uniq{n:Nat}{t c d e:ja}(h1:Mb t c d)(f:Mb t c e):d=e:=by have g:=h1.2;have h:=f.2;rw[oq]at g h;refine(h1.1.trans f.1.symm).eq_of_pairwise (le:=λa b=>ab a<ab b) (λa b _ _ x y=>absurd x<|by lia) g h
def Mb.cl{n:Nat}{t c d:ja}(h:Mb t c d)(f:TT n t)(a:BL n c):BL n d:=by
 refine⟨λe=>a.1 ?_,h.2,λs b=>?_⟩
 .have:=h.1.length_eq;rw[e]at this;simp at this;exact QN.mp this.symm
 obtain⟨x,g,rfl⟩:=ji<|h.1.mem_iff.mp b;exact f.led<|a.2.2 x g
def ZL{n:Nat}{t c:ja}(b:TT n t)(a:BL n c):BL n (lc t c):=(JY b a).1.cl b a
def wZ(n:Nat)(a:ja):Prop:=VP a=n/\∀x∈a,x=0\/x=1
def Gy:∀{n:Nat}{a:ja},a∈mw n↔wZ n a:=λ{n a}=>by
 constructor
 .exact λh=>Gr h
 intro h
 induction n generalizing a with
 |zero=>rw[QN.mp h.1];simp[mw]
 |succ n f=>
  have b:a≠[]:=λe=>by have:=h.1;rw[e]at this;simp at this
  have e:=GB b;have c:=h.2 _ (nF b);have:=f (a:=a.dropLast) ⟨by rw[Hc,h.1];rfl,λx d=>h.2 x<|Mk _ d⟩;simp only[mw,yP];refine⟨a.dropLast,this,?_⟩;rcases c with z|z
  .rw[z]at e;rw[e];simp
  rw[z]at e;rw[e];simp
def Iz(w a:ja):List Int:=w.map λs=>if LW a s=I then 1 else 0
def WO{n:Nat}{w:ja}(b:TT n w)(a:ja):wZ n (Iz w a):=by refine⟨by simp[Iz,b.len],λx c=>?_⟩;obtain⟨s,_,rfl⟩:=ji c;split<;>simp
def RJ(b:FO)(a:Dn)(d:D):Prop:= ∃o,b a=Y (o,a)/\res a o=Y d
def FJ(b:FO)(a:Dn)(d:D):Prop:= ∃o,b a=Y (o,a)/\res a o=Y d/\yO a o=Y (d,C)
def FJ.r{c:FO}{δ:Dn}{d:D}(h:FJ c δ d):RJ c δ d:=let⟨o,a,b,_⟩:=h;⟨o,a,b⟩
def jV{i:Nat}{δ:Dn}{d:D}(h:δ[i]?=Y (Y (d,C))):FJ (iQ i) δ d:=⟨.slot i,by unfold iQ;rw[h],by unfold res;simp[h],by simp[h]⟩
def jR{i:Nat}{δ:Dn}{d:D}{b:Bool}(h:δ[i]?=Y (Y (d,b))):RJ (iQ i) δ d:=⟨.slot i,by unfold iQ;rw[h],by unfold res;simp[h]⟩
def jE{f:F}{δ:Dn}{d:D}{b:Bool}(h:f δ=Y ((d,b),δ)):FJ (iU f) δ d:=⟨.val (d,b),jv h,rfl,rfl⟩
def N3{c:BI}{e:FO}{δ:Dn}{a:D}{r:D×Bool}{b:Dn}(h:c [(a,C)]=Y (r,b))(g:FJ e δ a):jo c [e] δ=Y (r,δ):=by obtain⟨o,h1,_,f⟩:=g;refine(kO (Be h1) (args:=[a].map λd=>(d,C)) (by simp[f]) (by rw[wA];exact rY) h).trans ?_;rw[IV]
def HW{ev:BI}{c fb:FO}{δ:Dn}{a b:D}{r:D×Bool}{outs:Dn}(h:ev [(a,C),(b,C)]=Y (r,outs))(f:FJ c δ a)(g:FJ fb δ b):jo ev [c,fb] δ=Y (r,δ):=by obtain⟨o,h1,_,e⟩:=f;obtain⟨k,i,_,j⟩:=g;refine(kO (om h1 i) (args:=[a,b].map λd=>(d,C)) (by simp[e,j]) (by rw[wA];exact rY) h).trans ?_;rw[IV]
def jO{g:D->D->Option (D×Bool)}{c fb:FO}{δ:Dn}{a b:D}{r:D×Bool}(h:g a b=Y r)(e:RJ c δ a)(f:RJ fb δ b):jl g c fb δ=Y (r,δ):=by obtain⟨o,h1,d⟩:=e;obtain⟨k,i,j⟩:=f;exact kZ h1 i d j h
def jC{g:D->Option (D×Bool)}{b:FO}{δ:Dn}{a:D}{r:D×Bool}(h:g a=Y r)(d:RJ b δ a):jA (g1 g) [b] δ=Y (r,δ):=by obtain⟨o,h1,c⟩:=d;exact pN (ds:=[a]) (Be h1) (by simp[c]) h
def KU{f:F}{np:Nat}{args:List (D×Bool)}{r:D×Bool}{δ:Dn}(h1:(VP args)=np/\np<=np/\(args.zipIdx.all λp=>!(p.1.2&&([]:List Nat).contains p.2))=I)(a:f (args.map Y++ag (np-np) J)=Y (r,δ)):AV np np [] (jg (lC f) jI) args=Y (r,jH args δ):=
 lj h1 (jY<|lz a)
def Uc{n:Nat}{s:Int}(h:SG n s):s≠0/\ -(n:Int)<=s/\s<=n:=by obtain⟨k,hk,rfl|rfl⟩:=ng h<;>lia
def abQ{n:Nat}{u:ja}(d:(VP u)=n){s:Int}(h:SG n s):nE [enc u,pI s]=Y ((.int<|led u s,C),[eN u,ii s]):=by obtain⟨a,b,c⟩:=Uc h;exact WL u s a (by rw[d];exact b) (by rw[d];exact c)
def agb(f:Int->Int)(l:ja):(l.map D.int).map (λd=>D.int<|f<|E5 d)=(l.map f).map D.int:=by rw[ll,ll];rfl
def CN{a:jX}{fi:EG}{f:F}{δ b:Dn}{l:ja}{args:List D}(g:Int->Int)(h1:fi δ=Y (l.map D.int,b))(c:kn b (a.map .slot)=Y (args.map λd=>(d,C)))(e:(VP args)=VP a)
  (h:∀x∈l,∃o,f (Bq args++[ii x])=Y ((.int<|g x,o),Bq args++[ii x]))(i:(VP l)<=10000):
  jU a 1 fi (jd<|VP a) kh (kF f) δ=Y ((.lst<|(l.map g).map D.int,I),b):=by
 rw[rR (λd=>.int (g<|E5 d)) h1 c e (λd hd=>by obtain⟨x,j,rfl⟩:=ji hd;exact h x j)<|by simpa using i,agb]
def ac9{n:Nat}(b:n<=5){t:ja}(a:TT n t):la [pI n,enc t]=Y ((.bl I,C),[ii n,eN t]):=by
 have h:tB n (cD t)=I:=by rw[Y4];simp only[lB,mf,mC,vV,ll];refine⟨λd hd=>?_,a⟩;obtain⟨x,_,rfl⟩:=ji hd;rfl
 rw[acD n (cD t) (λl e=>by cases e;rw[ke,a.len];lia),h]
def Qf{n:Nat}(a:n<=5){t:ja}(b:TT n t):ma [pI n,enc t]=Y ((.V0,C),[ii n,eN t]):=by
 have:EJ Ye (jg DU jI) jI [ii n,eN t]=Y (.nx [ii n,eN t]):=
  (qJ<|pL<|lR<|HW (ac9 a b) (jV H)<|jV H).trans rfl
 have e:oi [ii n,eN t]=Y (.nx [ii n,eN t]):=(jf this).trans H;simp only[ma,AV];rw[jh ⟨rfl,by decide,rfl⟩];show(match oi [ii n,Y<|enc t]with|some (.rt r δ)=>Y (r,jH _ δ)|some (.nx δ)=>Y ((D.V0,C),jH _ δ)|_=>J)=_;rw[e];rfl
noncomputable def Lq(t:ja)(j:Nat):Int:=if t.getD j 0>0 then(j:Int)+1 else -((j:Int)+1)
def OM(n:Nat)(t:ja)(k:Nat)(w:ja):Prop:=VP w=n/\∀j,j<k->w.getD ((ab<|t.getD j 0).toNat-1) 0=Lq t j
def WV{n:Nat}{t w:ja}(a:TT n t)(h:OM n t n w):BK n t w:=by
 refine⟨h.1,λs g=>?_⟩
 have one:∀j,j<n->led w (t.getD j 0)=(j:Int)+1:=λj b=>by
  have c:=a.sg<|mx (l:=t) (k:=j) (by rw[a.len];exact b);have e:=h.2 j b;unfold Lq at e;unfold led;unfold SG at c;by_cases d:t.getD j 0>0
  .rw[jh d]at e ⊢;rw[ql<|by lia]at e;rw[show(t.getD j 0-1).toNat=(t.getD j 0).toNat-1 by lia,e]
  have f:ab (t.getD j 0)= -t.getD j 0:=by unfold ab;split<;>lia
  rw[jy d]at e ⊢;rw[f]at e c;rw[show(-t.getD j 0-1).toNat=(-t.getD j 0).toNat-1 by lia,e]
  lia
 obtain⟨k,hk,rfl|rfl⟩:=ng g
 .rw[lN];exact one k hk
 rw[zB t<|Ji hk,zB w<|a.led<|Ji hk,lN,one k hk]
def Pf{n:Nat}{t w:ja}(a:TT n t){k:Nat}(hk:k<n)(h:OM n t k w):OM n t (k+1) (w.set ((ab<|t.getD k 0).toNat-1)<|Lq t k):=by
 have b:∀j,j<n->1<=ab (t.getD j 0)/\ab (t.getD j 0)<=n:=λj c=>a.sg<|mx (l:=t) (k:=j) (by rw[a.len];exact c);refine⟨by simp[h.1],λj c=>?_⟩;have d:=b k hk;have f:=b j (by lia);by_cases e:j=k
 .subst e;rw[pV,oB<|by rw[h.1];lia];rfl
 have ne:ab (t.getD j 0)≠ab (t.getD k 0):=λq=>e (by
  have l:=a.len
  have:=(DI (xs:=t.map ab) (i:=j) (j:=k) (h₀:=by simp[l];lia) (h₁:=by simp[l];lia) (HP.mp a).2.2).mp (by simp;simpa[pV,l,hk,show j<n by lia]using q)
  exact this)
 rw[pV,oP<|by lia,<-pV];exact h.2 j (by lia)
abbrev fbB:FS:=zC3
def Xe{n:Nat}{t w:ja}(c:TT n t){k:Nat}(hk:k<n)(f:(VP w)=n):fbB [eN t,BX w,ii<|(k:Int)+1,ii<|t.getD k 0]=Y (.nx [eN t,BX<|w.set ((ab<|t.getD k 0).toNat-1)<|Lq t k,ii<|(k:Int)+1,ii<|t.getD k 0]):=by
 have b:=c.sg<|mx (l:=t) (k:=k) (by rw[c.len];exact hk)
 have d:LF (fT X3) (lu 2) (md ze<|iQ 2) [eN t,BX w,ii<|(k:Int)+1,ii<|t.getD k 0]=Y ((.int<|Lq t k,C),[eN t,BX w,ii<|(k:Int)+1,ii<|t.getD k 0]):=by
  rw[Uh,lR (o:=C)<|jO (abA _ _) (jV H).r (jE H).r];simp only[ku];unfold Lq;by_cases a:t.getD k 0>0
  .rw[jh<|by simpa using a,jh a];rfl
  rw[jy<|by simpa using a,jy a];rfl
 have e:iU Yj [eN t,BX w,ii<|(k:Int)+1,ii<|t.getD k 0]=Y (.val (.int<|ab (t.getD k 0)-1,C),[eN t,BX w,ii<|(k:Int)+1,ii<|t.getD k 0]):=rfl
 have g:HX (w.map D.int).length (ab (t.getD k 0)-1)=Y ((ab<|t.getD k 0).toNat-1):=by
  have:=b.1;have:=b.2;unfold HX;rw[ke,f,jh<|by lia,jh<|by lia]
  congr 1;lia
 refine(jf (δ1:=[eN t,BX<|w.set ((ab<|t.getD k 0).toNat-1)<|Lq t k,ii<|(k:Int)+1,ii<|t.getD k 0]) ?_).trans rfl;unfold vD;rw[d];simp only[ku,dO];rw[e];simp only[ku,NW,dP,dO];rw[g];simp
def ab7{n:Nat}{t:ja}(f:TT n t):∀(m k:Nat)(w:ja)(x y:Sl),k+m=n->OM n t k w->∃b c d,OM n t n b/\pT QZ fbB ((bG k m).map λ(j:Nat)=>.tup [.int<|(j:Int)+1,.int<|t.getD j 0]) [eN t,BX w,x,y]=Y (.nx [eN t,BX b,c,d]):=by
 intro i
 induction i with
 |zero=>intro k w x y h a;exact⟨w,x,y,by rw[show k=n by lia]at a;exact a,rfl⟩
 |succ m g=>intro k w x y h a;obtain⟨b,c,d,h1,e⟩:=g (k+1) _ (ii<|(k:Int)+1) (ii<|t.getD k 0) (by lia) (Pf f (by lia) a);refine⟨b,c,d,h1,?_⟩;rw[zV,kM];unfold pT;rw[show QZ (.tup [.int<|(k:Int)+1,.int<|t.getD k 0]) [eN t,BX w,x,y]=Y [eN t,BX w,ii<|(k:Int)+1,ii<|t.getD k 0]from H];simp only[ku];rw[Xe f (by lia) a.1];exact e
def Xm(t:ja):(((t.map D.int).zipIdx).map λq=>D.tup [.int (1+q.2),q.1])=(bG 0<|VP t).map λ(j:Nat)=>.tup [.int<|(j:Int)+1,.int<|t.getD j 0]:=by
 apply Aa
 .simp
 intro i h1 b;have a:i<(VP t):=by simpa using h1
 simp[a,Int.add_comm]
def TQ{n:Nat}{t:ja}(b:TT n t):∃w,BK n t w/\uD [enc t]=Y (enc w,[eN t]):=by
 obtain⟨w,x,y,h,e⟩:=ab7 b n 0 t J J (by lia) ⟨b.len,λj c=>absurd c<|by lia⟩;refine⟨w,WV b h,?_⟩;refine lj (δ:=[eN t,BX w,x,y]) ⟨rfl,by decide,rfl⟩ ?_;refine(jf (δ1:=[eN t,BX t,J,J]) H).trans ((jf<|(mK (δ1:=[eN t,BX t,J,J]) (ds:=(bG 0 n).map λ(j:Nat)=>.tup [.int<|(j:Int)+1,.int<|t.getD j 0]) ?_).trans e).trans ?_)
 .show Y (((t.map D.int).zipIdx).map λq=>D.tup [.int (1+q.2),q.1],([eN t,BX t,J,J]:Dn))=_;rw[Xm,b.len]
 exact jY (lz<|jC (a:=.lst (w.map D.int)) H<|jR H)
def BK.uniq{n:Nat}{t w v:ja}(c:TT n t)(h1:BK n t w)(a:BK n t v):w=v:=
 Ef h1.1 a.1 λs b=>by have e:=(h1.sym c).2 s b;have:=a.2 _ ((h1.tt c).led b);rw[e]at this;exact this.symm
def TR{n:Nat}{t w:ja}(a:TT n t)(b:BK n t w):uD [enc t]=Y (enc w,[eN t]):=by obtain⟨v,h1,e⟩:=TQ a;rw[b.uniq a h1];exact e
def Py(a b:ja):FE (cD a) (cD b)=Y (.bl<|decide<|a=b,C):=by unfold FE;rw[jh<|by rw[Bl,Bl];decide,Iu]
def Q8{c:FT}{b:FS}{k:Nat}{d a δ2:Dn}(h:c d=Y (I,a))(e:b a=Y (.nx δ2)):oj c b (k+1) d=oj c b k δ2:=by rw[oj,h];simp;rw[e];rfl
def Q9{b:FT}{d:FS}{k:Nat}{c a:Dn}(h:b c=Y (C,a)):oj b d (k+1) c=Y (.nx a):=by rw[oj,h];rfl
def ZJ{n:Nat}{t:ja}(h:(VP t)=n):BP (cD t)=ii n:=by rw[VF,ke,h]
def Tv{caps:jX}{b:EG}{f:F}{c a:Dn}{l:jL}{args:List D}(g:List Int->List Int)(h1:b c=Y (l.map cD,a))(e:kn a (caps.map .slot)=Y (args.map λd=>(d,C)))(i:(VP args)=VP caps)
  (h:∀x∈l,∃o,f (Bq args++[Y (cD x,C)])=Y ((cD<|g x,o),Bq args++[Y (cD x,C)]))(j:(VP l)<=10000):
  jU caps 1 b (jd<|VP caps) kh (kF f) c=Y ((.lst<|(l.map g).map cD,I),a):=by
 rw[rR (λd=>cD<|g<|K5 d) h1 e i (λd hd=>by obtain⟨x,k,rfl⟩:=ji hd;rw[nL];exact h x k)<|by simpa using j];rw[ll,ll,qm (g:=cD∘g) λx _=>by simp only[cj,nL]]
def Jf{cs:jL}(h:nv (cs.map cD)=I)(b:(VP cs)<=10000):∃a:List (List Int),a.Perm cs/\K9 a/\kJ (cs.map cD)=Y (.lst<|a.map cD,I):=by
 obtain⟨a,e,c⟩:=Bm<|km Bj<|cs.map cD;refine⟨a,c,?_,?_⟩
 .have:=og<|cs.map cD;rw[e,oq]at this;exact this
 unfold kJ;rw[jh ⟨h,by rw[ke];exact qc b⟩,e]
def PY{f g:F}{δ:Dn}{a b:D×Bool}(h1:f δ=Y (a,δ))(c:g δ=Y (b,δ)):nG [f,g] δ=Y ((.tup [a.1,b.1],C),δ):=by
 rw[VH,show[f,g].map iU=[iU f,iU g]from H,om (jv h1)<|jv c]
 kernel_rfl
def JX{n:Nat}(g:n<=5){t w a:ja}(c:TT n t)(e:BK n t w)(d:wZ n a):lQ [enc a,enc t]=Y (enc<|Iz w a,[eN a,eN t]):=by
 have f:=e.tt c;refine lj (δ:=[eN a,eN t]) ⟨rfl,by decide,rfl⟩ ?_;refine(jf<|qL<|HW (Qf g c) (jE<|jC (ZJ d.1) (jV H).r)<|jV H).trans (jY<|lz<|jC (a:=.lst ((Iz w a).map D.int)) H (jE (b:=I)<|CN (args:=[cD a]) (λs=>if LW a s=I then 1 else 0) (fi:=kN<|jo uD [iQ 1]) (l:=w) ?_ H H (λx h=>⟨C,?_⟩)<|by rw[f.len];lia).r)
 .rw[DW,N3 (TR c e)<|jV H];rfl
 rw[Uh,lR<|HW (Y7 a x (by have:=f.sg h;rw[d.1];exact this)) (jV H)<|jV H];cases LW a x<;>rfl
theorem Qj:∀(l:jL)(a:List D)(x y:Sl),(∀p∈l,∃i j,p=[i,j])->VP a+VP l<=1000->∃b c,kP yR kh wg (l.map cD) a [x,y]=Y (a++l.map λp=>D.int<|p.getD 1 0,[b,c])
 |[],a,x,y,_,_=>⟨x,y,by simp[kP]⟩
 |p::l,a,x,y,h,d=>by obtain⟨i,j,rfl⟩:=h p kx;obtain⟨b,c,e⟩:=Qj l (a++[.int j]) (ii i) (ii j) (λq f=>h q<|kE _ f) (by simp at d ⊢;lia);refine⟨b,c,?_⟩;rw[kM,kP];rw[show yR (cD [i,j]) [x,y]=Y [ii i,ii j]from H];simp;rw[show lu 1 [ii i,ii j]=Y ((.int j,C),[ii i,ii j])from H];simp;rw[jh<|zr<|by simp at d;lia];simp;rw[e];simp
def TK{a s b r:Int}(h:Bj (cD [b,r]) (cD [a,s])=C):a<=b:=by
 rw[qR]at h;by_cases q:b<a
 .exact absurd (by simp[cT,cL,q]) h
 lia
def OT{n:Nat}(N:n<=5){t c:ja}(o:TT n t)(k:BL n c):∃L,kc [enc c,enc t]=Y (enc<|lc t c,[eN c,L])/\L=eN t:=by
 have M:=k.len
 let pr:Int->List Int:=λs=>[ab<|led t s,led t s]
 obtain⟨f,m,C,e⟩:=Jf (cs:=c.map pr) (ya _ λx E=>by obtain⟨y,_,rfl⟩:=ji E;simp) (by simp;lia)
 have z:jU [1] 1 (kN<|lu 0) (jd 1) kh YI [eN c,eN t,T2]=Y ((.lst<|(c.map pr).map cD,I),[eN c,eN t,T2]):=by
  refine(rR (caps:=[1]) (args:=[cD t]) (l:=c.map D.int) (δ1:=[eN c,eN t,T2]) (λd=>cD<|pr<|E5 d) UV UV UV (λd hd=>?_)<|by simp;lia).trans ?_
  rotate_left
  .rw[ll,ll];rfl
  obtain⟨x,E,rfl⟩:=ji hd;obtain⟨a1,O,z⟩:=Uc<|k.2.2 x E;have j:U2 (Bq [cD t]++[ii x])=Y ((.int<|led t x,UF),Bq [cD t]++[ii x]):=HW (Sq t x a1 (by rw[o.len];exact O)<|by rw[o.len];exact z) (jV UV)<|jV UV;exact⟨UF,PY (jC (Zh _) (jE j).r) j⟩
 have A:∀v:Sl,∃u w,kP yR kh wg (f.map cD) [] [T2,T2]=Y (f.map λp=>D.int<|p.getD 1 0,[u,w]):=λv=>by
  obtain⟨u,w,e⟩:=Qj f [] T2 T2 (λp B=>by obtain⟨y,_,rfl⟩:=ji<|m.mem_iff.mp B;exact⟨_,_,rfl⟩) (by rw[m.length_eq];simp;lia)
  exact⟨u,w,by simpa using e⟩
 obtain⟨u,w,A⟩:=A T2
 have Q:(f.map λp=>p.getD 1 0)=lc t c:=by
  have j:(f.map λp=>p.getD 1 0).Perm (c.map<|led t):=by
   have:=m.map λp=>p.getD 1 0
   rwa [ll]at this
  have g:∀p∈f,p=[ab<|p.getD 1 0,p.getD 1 0]:=λp B=>by obtain⟨y,_,rfl⟩:=ji<|m.mem_iff.mp B;rfl
  refine Mb.uniq (n:=n) (t:=t) (c:=c) ⟨j,?_⟩ (JY o k).1;have U:((f.map λp=>p.getD 1 0).map ab).Nodup:=(j.map ab).symm.nodup<|C6 o (Js k.2.1) λs C=>k.2.2 s C;rw[ll,oq];rw[ll,e9,oq]at U;refine(wS C U).imp_of_mem λ{p q} h1 G h=>?_;have H:=h.1;rw[g p h1,g q G]at H;have:=TK H;have J:=h.2;simp only[cj]at J ⊢
  lia
 refine⟨_,?_,rfl⟩;refine lj (δ:=[eN c,eN t,Y (.lst<|(c.map pr).map cD,I)]) ⟨rfl,by decide,rfl⟩ ?_;refine(jf<|kK (i:=2) z (show 2<3 by decide)).trans (jY<|lz<|jC (a:=.lst ((lc t c).map D.int)) UV (jE (b:=I) ?_).r);rw[pM (l:=f.map cD) (δ1:=[eN c,eN t,Y (.lst<|(c.map pr).map cD,I)]) (args:=[]) (fi:=kN<|jA (g1 mO) [iQ 2]) ?_ UV (by simp[jF]) A]
 .have T:(f.map λp=>D.int<|p.getD 1 0)=(lc t c).map D.int:=by rw[<-Q,ll];rfl
  rw[T];rfl
 rw[DW,jC (show mO (.lst<|(c.map pr).map cD)=Y (.lst<|f.map cD,I)from e)<|jR UV];rfl
abbrev Nz:F:=Va
def NC(a:Int)(b:Bool):∃(s c:Int),(s=1\/s= -1)/\∀δ:Dn,Nz (AD a b::δ)=Y ((.int s,C),AD c b::δ):=by obtain⟨v,c,d,f,e⟩:=ot a b 2 (by lia) (by lia);refine⟨if v=0 then 1 else -1,c,by split<;>simp,λδ=>?_⟩;refine kZ (o1:=.val (.lst [.int 1,.int (-1)],I)) (δ1:=AD a b::δ) H (jv<|e _ δ _ rfl rfl) H H ?_;rcases(show v=0\/v=1 by lia)with rfl|rfl<;>rfl
def Us{x s:Int}(h:s=1\/s= -1):∃y,(y=x\/y= -x)/\pH (.int x) (.int s)=ii y:=by
 rcases h with rfl|rfl
 .exact⟨x,.inl H,ZF x⟩
 exact⟨-x,.inr H,ZE x⟩
abbrev OZ:FT:=YA
theorem UI(b:Bool):∀(m j:Nat)(a:Int)(c:ja)(x:Sl),1<=j->CA j c->VP c+m<=10->∃f d i,CA (j+m:Nat) d/\(VP d)<=10/\kP (jd 1) OZ (kF<|jl pH (iQ 1)<|iU Nz) ((bG j m).map λ(k:Nat)=>D.int (k:Int)) (c.map .int) [AD a b,x]=Y (d.map .int,[AD f b,i])
 |0,j,a,c,x,_,l,t=>⟨a,c,x,by simpa using l,by lia,rfl⟩
 |m+1,j,a,c,x,E,l,t=>by
  obtain⟨v,a1,Q,U,n⟩:=ot a b 2 (by lia) (by lia)
  have T:OZ [AD a b,ii j]=Y (v==0,[AD a1 b,ii j]):=
   lR (o:=C) (kZ (o1:=.val (.int v,C)) (δ1:=[AD a1 b,ii j]) (o2:=.val (.int 0,C)) (jv<|n _ [ii j] _ rfl rfl) H H H<|Ui _ _)
  rw[zV,kM]
  have st:∀(g:Int)(h:ja),CA (j+1:Nat) h->VP h+m<=10->(if(v==0)=I then kF (jl pH (iQ 1)<|iU Nz) (c.map .int) [AD a1 b,ii j]else Y (c.map .int,[AD a1 b,ii j]))=Y (h.map .int,[AD g b,ii j])->
    ∃f d i,CA (j+(m+1):Nat) d/\(VP d)<=10/\kP (jd 1) OZ (kF<|jl pH (iQ 1)<|iU Nz) (D.int j::(bG (j+1) m).map λ(k:Nat)=>D.int (k:Int)) (c.map .int) [AD a b,x]=Y (d.map .int,[AD f b,i]):=λg h h1 r e=>by
   obtain⟨f,d,i,z,A,B⟩:=UI b m (j+1) g h (ii j) (by lia) h1 r;refine⟨f,d,i,by rw[show j+(m+1)=j+1+m by lia];exact z,A,?_⟩;rw[kP,show jd 1 (.int j) [AD a b,x]=Y [AD a b,ii j]from H];simp only[ku];rw[T];simp only[ku];rw[e];exact B
  by_cases hv:v=0
  .obtain⟨s,g,u,p⟩:=NC a1 b;obtain⟨y,w,q⟩:=Us (x:=j) u;refine st g (c++[y]) (by have:=l.snoc (s:=y) (by rcases w with rfl|rfl;exact ql (by lia);exact By<|by lia) (by lia);simpa using this) (by simp;lia) ?_;rw[hv,jh (show((0:Int)==0)=I from H),DX,kZ (o1:=.slot 1) (δ1:=[AD a1 b,ii j]) H (jv<|p [ii j]) H H q];simp only[ku];rw[jh<|zr<|by simp;lia];simp
  refine st a1 c (by simpa using l.up) (by lia) ?_;rw[jy<|by simpa using hv]
def Ck(n:Nat):jP 1 n=(bG 1 n).map λ(k:Nat)=>D.int (k:Int):=by unfold jP;rw[List.range'_eq_map_range,ll];exact qm λk _=>by simp
def ael(a:Int)(b:Bool)(n:Nat)(h1:1<=n)(E:n<=5):∃t c,BL n c/\mB [pS a b,pI n]=Y (enc c,[AD t b,ii n]):=by
 obtain⟨a1,c,x,p,Q,u⟩:=UI b n 1 a [] J (by lia) ⟨by simp,by simp⟩ (by simp;lia)
 have T:zb nW Q4 [AD a b,ii n,J]=Y ((bG 1 n).map λ(k:Nat)=>D.int (k:Int),[AD a b,ii n,J]):=by rw[Ek (o1:=.val (.int 1,C)) (o2:=.val (.int<|(n:Int)+1,C)) (i:=1) (j:=(n:Int)+1) H H H H (by lia)<|by lia,show((n:Int)+1-1).toNat=n by lia,Ck]
 have pre:∀g,jg (kQ 2<|jU [0] 1 (zb nW Q4) (jd 1) OZ<|kF<|jl pH (iQ 1)<|iU Nz) g [AD a b,ii n,J]=g [AD a1 b,ii n,BX c]:=λg=>jf<|kK (i:=2) (δ1:=[AD a1 b,ii n,J]) ((pM (caps:=[0]) (args:=[pS a b]) T H (KN 0) u).trans H) (show 2<3 by decide)
 have f:fT (jl FE (iQ 2)<|iU<|ml []) [AD a1 b,ii n,BX c]=Y (decide<|c=[],[AD a1 b,ii n,BX c]):=
  lR (o:=C) (kZ (o1:=.slot 2) (o2:=.val (.lst [],I)) (δ2:=[AD a1 b,ii n,BX c]) H (jv<|by kernel_rfl) H H<|LK c [])
 by_cases e:c=[]
 .obtain⟨i,m,U,L,v⟩:=ot a1 b n (by lia) (by lia);obtain⟨s,d,l,w⟩:=NC m b;obtain⟨y,B,A⟩:=Us (x:=1+i) l;have h:ab y=1+i:=by rcases B with rfl|rfl;exact ql (by lia);exact By (by lia)
  refine⟨d,[y],⟨by simp,by simp,λz q=>by simp at q;subst q;rw[h];lia⟩,?_⟩;refine lj (δ:=[AD d b,ii n,BX [y]]) ⟨rfl,by decide,rfl⟩<|(pre _).trans ?_;rw[e]at f;rw[e];refine(jf<|(yB f).trans<|(jf (δ1:=[AD d b,ii n,BX [y]])<|kK (i:=2) (δ1:=[AD d b,ii n,BX []]) (r:=(.lst [.int y],I)) ?_ (show 2<3 by decide)).trans H).trans (jY<|lz<|jC (a:=.lst [.int y]) H<|jR H);refine EA (os:=[.val (.int y,C)]) (Be<|jv<|kZ (o1:=.val (.int (1+i),C)) (δ1:=[AD m b,ii n,BX []]) (jv<|kZ (o1:=.val (.int 1,C)) (δ1:=[AD a1 b,ii n,BX []]) H (jv<|v _ [ii n,BX []] (.slot 1) rfl rfl) H H<|Zg _ _) (jv<|w [ii n,BX []]) H H A) H<|qc (by simp)
 refine⟨a1,c,⟨e,p.1,λs l=>by have:=p.2 s l;lia⟩,?_⟩;refine lj (δ:=[AD a1 b,ii n,BX c]) ⟨rfl,by decide,rfl⟩<|(pre _).trans ?_;rw[mq e]at f;exact(jf<|(qJ f).trans H).trans (jY<|lz<|jC (a:=.lst (c.map D.int)) H<|jR H)
def dC(cs:jL):D:=.AE .dct (cs.map cD) (cs.map λ_=>.bl I)
theorem Cv:∀l:List Int,(BM<|l.map .int).isSome=I
 |[]=>rfl
 |x::l=>by
  have:=Cv l;simp only[kM,BM]
  cases h:BM (l.map D.int)with
  |none=>rw[h]at this;cases this
  |some k=>rfl
def J2(c:ja):(za<|cD c).isSome=I:=Cv c
def SN(a:jL):((a.map cD).all λk=>(za k).isSome)=I:=by rw[mC];intro d hd;obtain⟨c,_,rfl⟩:=ji hd;exact J2 c
def AL(a:jL)(c:ja):qW (a.map cD) (cD c)=I:=by unfold qW;rw[J2,SN];kernel_rfl
theorem NM(c:ja):∀a:List (List Int),Aq (a.map cD) (a.map λ_=>.bl I) (cD c) (.bl I)=a.map λ_=>.bl I
 |[]=>rfl
 |x::a=>by simp[Aq,NM c a]
def V1(a:jL)(c:ja):D.AE .dct (yd (a.map cD) (a.map λ_=>.bl I) (cD c)<|.bl I).1 (yd (a.map cD) (a.map λ_=>.bl I) (cD c)<|.bl I).2=dC (oG a c):=by
 unfold yd oG dC;rw[IH];by_cases h:c∈a
 .rw[jh<|by simpa using h,jh h,NM]
 rw[jy<|by simpa using h,jy h];simp
theorem Ed(c:ja):∀a:List (List Int),(mX (a.map cD) (a.map λ_=>.bl I)<|cD c).isSome=decide (c∈a)
 |[]=>rfl
 |x::a=>by
  simp only[kM,mX,Iu];by_cases h:x=c
  .simp[h]
  have: ¬c=x:=λe=>h e.symm;simp[h,this,Ed c a]
def afk(c:ja)(cs:jL):qd (cD c) (dC cs)=Y (.bl (!decide (c∈cs)),C):=by show(if qW (cs.map cD) (cD c)=I then Y (D.bl (!(mX (cs.map cD) (cs.map λ_=>D.bl I)<|cD c).isSome),C)else J)=_;rw[jh<|AL cs c,Ed]
def DQ.add{n:Nat}{a:jL}{c:ja}(h:DQ n a)(b:BL n c):DQ n (oG a c):=by
 unfold oG;split
 .exact h
 exact h.snoc b (by assumption)
def Kf{i:Nat}{f:F}{g:FO}{a δ1 δ2:Dn}{o:BU}{x:D×Bool}{b:Bool}{cs:jL}{c:ja}(h1:f a=Y ((.bl I,b),δ1))(d:δ1[i]?=Y (Y x))(e:g δ1=Y (o,δ2))(h:res δ2 o=Y (cD c))(j:δ2[i]?=Y (Y (dC cs,I)))(k:(VP cs)<10000):Fm i f g a=Y (.nx<|δ2.set i<|Y (dC<|oG cs c,I)):=by unfold Fm;rw[h1];simp;rw[d];simp;rw[e];simp;rw[h,j];unfold dC;simp only[];rw[jh ⟨AL cs c,by simpa using k⟩,V1];rfl
abbrev fbD:FS:=Yx
def Xd(a:Int)(b:Bool){n:Nat}(h1:1<=n)(k:n<=5){d:jL}(l:DQ n d)(f g:Sl):∃h j,DQ n j/\fbD [AD a b,ii n,f,Y (dC d,I),g,J,J,J]=Y (.nx [AD h b,ii n,f,Y (dC j,I),g,J,J,J]):=by
 obtain⟨h,c,o,e⟩:=ael a b n h1 k;refine⟨h,oG d c,l.add o,(jf (δ1:=[AD h b,ii n,f,Y (dC<|oG d c,I),g,J,J,J]) ?_).trans H⟩
 have m:iU XY [AD a b,ii n,f,Y (dC d,I),g,J,J,J]=Y (.val<|enc c,[AD h b,ii n,f,Y (dC d,I),g,J,J,J]):=
  jv (kO (δ1:=[AD a b,ii n,f,Y (dC d,I),g,J,J,J]) (os:=[.slot 0,.slot 1]) (args:=[pS a b,pI n]) H H (KN 0) e)
 exact Kf (i:=3) (b:=C) H H m H H (by have:=l.len k;lia)
def ab6(b:Bool){n:Nat}(h1:1<=n)(q:n<=5)(g:Sl)(l:List D)(a:Int)(cs:jL)(c:Sl)(m:DQ n cs):∃i f o,DQ n f/\pT (jd 4) fbD l [AD a b,ii n,g,Y (dC cs,I),c,J,J,J]=Y (.nx [AD i b,ii n,g,Y (dC f,I),o,J,J,J]):=by
 obtain⟨s,⟨i,f,o,k,rfl⟩,e⟩:=rO (fb:=fbD) (tg:=jd 4) (λ_ δ=>∃a cs c,DQ n cs/\δ=[AD a b,ii n,g,Y (dC cs,I),c,J,J,J]) (λd l δ h=>by obtain⟨a,cs,c,m,rfl⟩:=h;obtain⟨a1,j,r,p⟩:=Xd a b h1 q m g<|Y (d,C);exact⟨_,_,rfl,p,a1,j,_,r,rfl⟩) l _ ⟨a,cs,c,m,rfl⟩
 exact⟨i,f,o,k,e⟩
abbrev ftF:FT:=fT<|jl HY (iQ 6)<|iU<|ml []
abbrev fbF:FS:=jg (kQ 7<|jo kc [iU<|PX.IA 6,iQ 5]) zC9
def SW(fs:jL):HY (.lst<|fs.map cD) (.lst [])=Y (.bl (!decide (fs=[])),C):=by unfold HY;rw[jh ⟨Tt fs,by decide⟩];cases fs<;>kernel_rfl
def Xc{n:Nat}(m:n<=5){t:ja}(q:TT n t){cs fs:jL}{c:ja}(p:DQ n cs)(v:(VP fs)<=1000)(s:BL n c)(a d f g j:Sl):
  fbF [a,d,f,Y (dC cs,I),g,eN t,Ig<|fs++[c],j]=Y (.nx [a,d,f,Y (dC<|oG cs<|lc t c,I),g,eN t,Ig (if lc t c∈cs then fs else fs++[lc t c]),eN<|lc t c]):=by
 obtain⟨_,e,rfl⟩:=OT m q s
 have u:iU (PX.IA 6) [a,d,f,Y (dC cs,I),g,eN t,Ig<|fs++[c],j]=Y (.val<|enc c,[a,d,f,Y (dC cs,I),g,eN t,Ig fs,j]):=by refine jv ?_;unfold PX.IA;simp
 refine(jf (δ1:=[a,d,f,Y (dC cs,I),g,eN t,Ig fs,eN<|lc t c])<|kK (i:=7) (δ1:=[a,d,f,Y (dC cs,I),g,eN t,Ig fs,j]) (kO (δ1:=[a,d,f,Y (dC cs,I),g,eN t,Ig fs,j]) (os:=[.val<|enc c,.slot 5]) (args:=[enc c,enc t]) (om u H) H (by simp[jF]) e) (show 7<8 by decide)).trans ?_
 have k:fT (jl qd (iQ 7)<|iQ 3) [a,d,f,Y (dC cs,I),g,eN t,Ig fs,eN<|lc t c]=Y (!decide (lc t c∈cs),[a,d,f,Y (dC cs,I),g,eN t,Ig fs,eN<|lc t c]):=
  lR (jO (afk _ _) (jV H).r<|jR H)
 by_cases h:lc t c∈cs
 .rw[nI h]at k;refine(jf<|(qJ k).trans H).trans ?_;rw[jh h,show oG cs (lc t c)=cs from jh h];rfl
 rw[mq h]at k;refine(jf (δ1:=[a,d,f,Y (dC<|oG cs<|lc t c,I),g,eN t,Ig<|fs++[lc t c],eN<|lc t c])<|(yB k).trans<|(jf (δ1:=[a,d,f,Y (dC<|oG cs<|lc t c,I),g,eN t,Ig fs,eN<|lc t c]) ?_).trans<|(aeg (i:=6) (l0:=fs.map cD) (l:=fs.map cD) (r:=enc<|lc t c) (δ1:=[a,d,f,Y (dC<|oG cs<|lc t c,I),g,eN t,Ig fs,eN<|lc t c]) H H H<|by simp;lia).trans ?_).trans ?_
 .exact Kf (i:=3) (b:=C) (o:=.slot 7) (cs:=cs) (δ1:=[a,d,f,Y (dC cs,I),g,eN t,Ig fs,eN<|lc t c]) (δ2:=[a,d,f,Y (dC cs,I),g,eN t,Ig fs,eN<|lc t c]) H H H H H (by have:=p.len m;lia)
 .simp[Ig]
 rw[jy h];rfl
theorem Nj{n:Nat}(s:n<=5){t:ja}(u:TT n t)(d f g i:Sl):∀(a:Nat)(cs fs:jL)(j:Sl),DQ n cs->(∀c∈fs,BL n c)->VP fs<=500->2*(243-VP cs)+VP fs<a->∃m w v,DQ n m/\oj ftF fbF a [d,f,g,Y (dC cs,I),i,eN t,Ig fs,j]=Y (.nx [d,f,g,Y (dC m,I),i,eN t,w,v])
 |0,_,_,_,_,_,_,h=>by lia
 |a+1,cs,fs,j,r,hf,U,h=>by
  have p:ftF [d,f,g,Y (dC cs,I),i,eN t,Ig fs,j]=Y (!decide (fs=[]),[d,f,g,Y (dC cs,I),i,eN t,Ig fs,j]):=
   lR (o:=C) (kZ (o1:=.slot 6) (o2:=.val (.lst [],I)) (δ2:=[d,f,g,Y (dC cs,I),i,eN t,Ig fs,j]) H (jv<|by kernel_rfl) H H<|SW fs)
  by_cases b:fs=[]
  .rw[nI b]at p;exact⟨cs,_,j,r,Q9 p⟩
  rw[mq b]at p;have e:=GB b;have y:(VP fs.dropLast)+1=(VP fs):=by rw[Hc];have:=QR.mpr b;lia
  have A:=hf _ (nF b);have x:=Xc s u r (fs:=fs.dropLast) (by lia) A d f g i j;rw[e]at x;have B:=ZL u A;have T:=r.add B;have l:=T.len s
  obtain⟨m,w,v,E,Q⟩:=Nj s u d f g i a _ (if lc t (fs.getLast b)∈cs then fs.dropLast else fs.dropLast++[lc t<|fs.getLast b]) (eN<|lc t<|fs.getLast b) T (λc k=>by
   have dl:∀c∈fs.dropLast,BL n c:=λc k=>hf c<|Mk _ k;split at k
   .exact dl c k
   rcases rq.mp k with z|z
   .exact dl c z
   cases IL.mp z;exact B) (by split<;>simp<;>lia) (by
   unfold oG at l ⊢;split
   .rename_i q;simp only[q]at l ⊢;lia
   rename_i q;simp only[q]at l ⊢;simp at l ⊢;lia)
  exact⟨m,w,v,E,(Q8 p x).trans Q⟩
def abP(cs:jL)(a:(VP cs)<=243){k:Int}(h:k=0\/k=1):∃fs:List (List Int),(∀c∈fs,c∈cs)/\(VP fs)<=243/\F3 (.lst<|cs.map cD) (.int k)=Y (.lst<|fs.map cD,I):=by
 have b:=qc (n:=243) (by decide);rcases h with rfl|rfl
 .refine⟨[],by simp,by simp,?_⟩;show(if(0:Int)<=0/\(0:Int)<1000/\(cs.map cD).length*0<=sizeLine then Y (D.lst (ag 0<|cs.map cD).flatten,I)else J)=_;rw[jh ⟨by decide,by decide,by simp⟩];rfl
 refine⟨cs,λ_ h=>h,a,?_⟩;show(if(0:Int)<=1/\(1:Int)<1000/\(cs.map cD).length*1<=sizeLine then Y (D.lst (ag 1<|cs.map cD).flatten,I)else J)=_;rw[jh ⟨by decide,by decide,by simp;exact lV a b⟩];simp
def adN(a:Int)(b:Bool)(n:Nat)(f:n<=5):∃I' d,zo n d/\mS [pS a b,pI n]=TW ((FA n d,UF),[AD I' b,ii n]):=by
 have E:∀δ:Dn,Q3 (AD a b::ii n::δ)=TW (decide<|(n:Int)=0,AD a b::ii n::δ):=λδ=>lR (o:=UF)<|jO ((Ui _ _).trans<|by rw[uH]) (jV UV).r (jE UV).r
 by_cases V:n=0
 .subst V;refine⟨a,[],⟨by lia,⟨by simp,by simp⟩,c3,by simp⟩,?_⟩;refine lj (δ:=[AD a b,ii (0:Nat),T2,T2,T2,T2,T2,T2]) ⟨rfl,by decide,rfl⟩<|jY<|(yB<|E _).trans<|jY<|lz ?_;exact PY (a:=(.int 0,UF)) (b:=(.tup [],UF)) UV (by kernel_rfl)
 have W:1<=n:=by lia
 obtain⟨u,a1,X,Z,T⟩:=ot a b 3 (by lia) (by lia)
 let A:List Int:=[3,5,12]
 let m:=A.getD u.toNat 0
 have hm:0<m/\m<=12:=by rcases(show u=0\/u=1\/u=2 by lia)with rfl|rfl|rfl<;>decide
 obtain⟨q,B,q0,q1,G⟩:=ot a1 b (m+1) (by lia) (by lia);obtain⟨p,rfl⟩:∃p:Nat,q=p:=⟨q.toNat,by lia⟩
 obtain⟨s,cs,e,w,J⟩:=ab6 b W f (ii m) (jP 0 p) B [] T2 ⟨by simp,by simp⟩;obtain⟨g,t,y,M⟩:=ad0 s b n f;have y:=Rb y;obtain⟨v,j,v0,v1,N⟩:=ot g b 2 (by lia) (by lia);have L:=w.len f;obtain⟨fs,K,R,U⟩:=abP cs L (k:=if v=0 then 1 else 0) (by split<;>simp);obtain⟨z,O,Q,l,Y⟩:=Nj f y (AD j b) (ii n) (ii m) e aah cs fs T2 w (λc h=>w.2 c<|K c h) (by lia) (by show _<100000;lia);have x:=l.len f;obtain⟨d,C,S,D⟩:=Jf (cs:=z) (ya _ λc P=>(l.2 c P).1) (by lia);have hk:DQ n d:=⟨C.symm.nodup l.1,λc h=>l.2 c<|C.mem_iff.mp h⟩
 refine⟨j,d.take 30,⟨f,hk.take 30,S.take 30,by rw[se];lia⟩,?_⟩;refine lj (δ:=[AD j b,ii n,ii m,TW (dC z,I),e,eN t,O,Q]) ⟨rfl,by decide,rfl⟩ ?_;have H:=E [T2,T2,T2,T2,T2,T2];rw[mq (show ¬(n:Int)=0 by lia)]at H;refine(jf<|(qJ H).trans UV).trans ?_;refine(jf<|kK (i:=2) (δ1:=[AD a1 b,ii n,T2,T2,T2,T2,T2,T2]) (kZ (o1:=.val (.lst<|A.map .int,I)) (o2:=.val (.int u,UF)) (jv (δ1:=[AD a b,ii n,T2,T2,T2,T2,T2,T2])<|by kernel_rfl) (jv<|T _ [ii n,T2,T2,T2,T2,T2,T2] _ rfl rfl) UV UV<|abT X<|by simpa[A]using Z) (show 2<8 by decide)).trans ?_;refine(jf (δ1:=[AD a1 b,ii n,ii m,TW (dC [],I),T2,T2,T2,T2]) UV).trans ?_;refine(jf<|(mK<|oW (o:=.val (.int p,UF)) (δ1:=[AD B b,ii n,ii m,TW (dC [],I),T2,T2,T2,T2]) (jv<|G _ [ii n,ii m,TW (dC [],I),T2,T2,T2,T2] (.val (.int<|m+1,UF)) rfl rfl) UV<|by lia).trans J).trans ?_;refine(jf<|kK (i:=5) (δ1:=[AD g b,ii n,ii m,TW (dC cs,I),e,T2,T2,T2]) (kO (δ1:=[AD s b,ii n,ii m,TW (dC cs,I),e,T2,T2,T2]) (os:=[.slot 0,.slot 1]) (args:=[pS s b,pI n]) UV UV (KN 0) M) (show 5<8 by decide)).trans ?_;refine(jf<|kK (i:=6) (δ1:=[AD j b,ii n,ii m,TW (dC cs,I),e,eN t,T2,T2]) (kZ (o1:=.val (.lst<|cs.map cD,I)) (o2:=.val (.int (if v=0 then 1 else 0),UF)) (δ1:=[AD g b,ii n,ii m,TW (dC cs,I),e,eN t,T2,T2]) UV (jv<|kZ (o1:=.val (.lst [.int 1,.int 0],I)) (δ1:=[AD g b,ii n,ii m,TW (dC cs,I),e,eN t,T2,T2]) UV (jv<|N _ [ii n,ii m,TW (dC cs,I),e,eN t,T2,T2] _ rfl rfl) UV UV ?_) UV UV U) (show 6<8 by decide)).trans ?_
 .rcases(show v=0\/v=1 by lia)with rfl|rfl<;>rfl
 refine(jf Y).trans (jY<|lz<|PY (a:=(.int n,UF)) (b:=(.tup<|(d.take 30).map cD,UF)) UV<|jC (a:=.lst ((d.take 30).map cD)) UV (jE (b:=I) ?_).r);have F:pG (dC z)=TW (.lst<|d.map cD,I):=D;unfold wK;rw[jv<|jC F<|jR UV];simp only[ku,VE,abF,NW];rw[show N7 T2 (TW 30) (.lst<|d.map cD)=TW (.lst<|PX.rl (d.map cD) T2<|TW ((30:Nat):Int),I)from UV,Xo,te];rfl
def UJ(n:Nat):List (List Int):=(aj (2^n)).map λ(k:Nat)=>(aj n).map λ(j:Nat)=>b4 ((k:Int) / 2^(n-1-j)) 1
def afv:∀n:Nat,n<6->UJ n=mw n:=by decide+kernel
def TN{n:Nat}(f:n<=5):oF [pI n]=Y ((.lst<|(mw n).map cD,I),[ii n]):=by
 have p:∀k:Nat,k<=5->W5 (.int 1) (.int k)=ii (2^k:Nat):=by
  intro k hk;have:k=0\/k=1\/k=2\/k=3\/k=4\/k=5:=by lia
  have i:wY 1 (k:Int):=by rcases this with rfl|rfl|rfl|rfl|rfl|rfl<;>(unfold wY;decide+kernel)
  show((if wY 1 (k:Int)then Y (D.int (1*2^(k:Int).toNat))else J).map λz=>(z,C))=_;rw[jh i];simp
 have h:=aeq f;have g:∀(m:Nat),jP 0 m=(aj m).map λ(k:Nat)=>D.int (k:Int):=λm=>by unfold jP;simp
 have c:∀k:Nat,jA (g1 nO) [zC0] (Bq [.int n]++[ii k])=Y ((cD<|(aj n).map λ(j:Nat)=>b4 ((k:Int) / 2^(n-1-j)) 1,C),Bq [.int n]++[ii k]):=λk=>by
  refine jC (a:=.lst (((aj n).map λ(j:Nat)=>b4 ((k:Int) / 2^(n-1-j)) 1).map D.int)) H (jE (b:=I) ?_).r;refine(rR (caps:=[1,0]) (args:=[.int k,.int n]) (l:=(aj n).map λ(j:Nat)=>D.int (j:Int)) (δ1:=Bq [.int n]++[ii k]) (λd=>.int (b4 ((k:Int) / 2^(n-1-(E5 d).toNat)) 1)) ?_ H H (λd hd=>?_)<|by simp;lia).trans ?_
  .rw[oW (n:=n) (o:=.slot 0) H H<|by lia,g]
  .obtain⟨j,e,rfl⟩:=ji hd;have e:=vP.mp e;refine⟨C,jO (a:=.int ((k:Int) / 2^(n-1-j))) H (jE (b:=C)<|jO ?_ (jV (d:=.int k) H).r (jE (b:=C)<|jO (Ug _ _) (jE (b:=C)<|jO (Ug _ _) (jV (d:=.int n) H).r (jE H).r).r (jV (d:=.int j) H).r).r).r (jE H).r⟩;show((if(0:Int)<=(n:Int)-1-j then Y (D.int<|(k:Int) / 2^((n:Int)-1-j).toNat)else J).map λz=>(z,C))=_;rw[jh<|by lia,show((n:Int)-1-j).toNat=n-1-j by lia];rfl
  rw[ll,ll];rfl
 refine KU (δ:=[ii n]) ⟨rfl,by decide,rfl⟩<|(rR (caps:=[0]) (args:=[.int n]) (l:=(aj (2^n)).map λ(k:Nat)=>D.int (k:Int)) (δ1:=[ii n]) (λd=>cD<|(aj n).map λ(j:Nat)=>b4 (E5 d / 2^(n-1-j)) 1) ?_ H H (λd hd=>?_)<|by simp;lia).trans ?_
 .refine(oW (n:=2^n) (o:=.val (.int (2^n:Nat),C)) (jv<|jO (p n f) (jE H).r (jV H).r) H<|by lia).trans ?_;rw[g];rfl
 .obtain⟨k,_,rfl⟩:=ji hd;exact⟨C,c k⟩
 rw[<-afv n (by lia),UJ,ll,ll];rfl
def ZD{a b:D}{c d:FO}{δ:Dn}(h:a=b)(hd:a.dep<=50)(e:RJ c δ a)(f:RJ d δ b):fT (jl HY c d) δ=Y (C,δ):=by subst h;exact lR (o:=C)<|jO (Pr hd) e f
def no{t:FT}{f:FS}{δ:Dn}(g:FS)(h:t δ=Y (C,δ)):jg (EJ t f jI) g δ=g δ:=jf<|(qJ h).trans H
def XQ{t:FT}{x y:XS}{a:Dn}(h:t a=Y (I,a))(b:S6 a=I):NU t x y a=x a:=by unfold NU;rw[h];simp only[ku];rw[jh b];rfl
def F9{n np:Nat}{a:jX}{f:FS}{args:List (D×Bool)}(h:f (args.map Y++ag (n-np) J)=J):AV n np a f args=J:=by
 unfold AV;split
 .rw[h]
 rfl
def Ti{b:jX}{f:F}{x:XS}{n i:Nat}{fs:FS}{g:av->Option Nat}{e:Dn}{args:List (D×Bool)}{c:av}{U:Nat}{d:D}(h1:kn e (b.map .slot)=Y args)(h:(args.all λa=>!a.2)=I)(j:f (args.map Y)=J)(k:x (args.map Y)=Y c)(l:g c=Y U)(m:yz n i fs (.AE (.exc U) [] [])=Y d):A9 b f x n i fs g e=Y ((d,C),e):=by unfold A9;rw[h1];simp only[ku];rw[jh h,j];simp;rw[k];simp;rw[l];simp;rw[m];rfl
def agu{b:jX}{f:F}{x:XS}{n i:Nat}{fs:FS}{e:av->Option Nat}{c:Dn}{args:List (D×Bool)}{r}{d:D}(h1:kn c (b.map .slot)=Y args)(g:(args.all λa=>!a.2)=I)(h:f (args.map Y)=Y r)(j:yz n i fs .V0=Y d):A9 b f x n i fs e c=Y ((d,C),c):=by unfold A9;rw[h1];simp only[ku];rw[jh g,h];simp;rw[j];rfl
def A8{a:BI}{fs:List FO}{b δ1:Dn}{os:List BU}{args:List (D×Bool)}(h1:kY fs b=Y (os,δ1))(c:kn δ1 os=Y args)(d:a args=J):jo a fs b=J:=by rw[Rr,h1];simp only[ku];rw[c];simp only[ku];rw[d];split<;>rfl
def EV{b:List D->Option av}{fs:List FO}{d δ1:Dn}{os:List BU}{args:List (D×Bool)}{c:av}(h1:kY fs d=Y (os,δ1))(e:kn δ1 os=Y args)(f:(args.all λa=>!a.2)=I)(g:b (args.map (·.1))=Y c):qa b fs d=Y c:=by unfold qa;rw[h1];simp;rw[e];simp only[ku];rw[jh f];exact g
def Gs(ev:BI)(d:D):Prop:= ∀b c,ev [(d,b),(d,c)]=Y ((.bl I,C),[Y (d,b),Y (d,c)])
theorem Kq{ev:BI}:∀(l a:List D)(x y:Sl),(∀d∈l,Gs ev d)->VP a+VP l<=10000->∃b c,kP yR kh (kF<|jo ev [iQ 0,iQ 1]) ((l.zip l).map λp=>.tup [p.1,p.2]) a [x,y]=Y (a++l.map λ_=>.bl I,[b,c])
 |[],a,x,y,_,_=>⟨x,y,by simp[kP]⟩
 |d::l,a,x,y,h,f=>by
  obtain⟨b,c,e⟩:=Kq l (a++[.bl I]) (Y (d,C)) (Y (d,C)) (λg i=>h g<|kE _ i) (by simp at f ⊢;lia);refine⟨b,c,?_⟩;have j:(VP a)<sizeLine:=by rw[kj];simp at f;lia
  simp only[sQ,kM,kP];rw[show yR (.tup [d,d]) [x,y]=Y [Y (d,C),Y (d,C)]from H];simp only[ku,Jp,nJ,DX];rw[kO (os:=[.slot 0,.slot 1]) (args:=[(d,C),(d,C)]) H H rY<|h d kx C C];simp;rw[jh j];simp;rw[show wb [.slot 0,.slot 1] [(d,C),(d,C)] [Y (d,C),Y (d,C)] [Y (d,C),Y (d,C)]=[Y (d,C),Y (d,C)]from H,e];simp
def PT(n m:Nat)(p:ja):Prop:=VP p=m/\(∀x∈p,SG n x)/\(p.map ab).Nodup
def PT.tt{n:Nat}{t:ja}(h:PT n n t):TT n t:=HP.mpr ⟨by simp[h.1],λx a=>by obtain⟨y,b,rfl⟩:=ji a;exact h.2.1 y b,h.2.2⟩
def WH{n m:Nat}{p c:ja}(h:PT n m p)(d:BL m c):((c.map<|led p).map ab).Nodup:=by
 rw[ll];have f:=Js d.2.1;rw[List.nodup_iff_pairwise_ne]at f ⊢;rw[oq]at f ⊢;refine wE ?_ f;intro a b g i l e;simp at e;rw[EM h.1<|d.2.2 a g,EM h.1<|d.2.2 b i]at e;have h1:=d.2.2 a g;have o:=d.2.2 b i;have j:(ab a).toNat-1<(p.map ab).length:=by simp[h.1];lia
 have k:(ab b).toNat-1<(p.map ab).length:=by simp[h.1];lia
 simp only[pV,lq j,lq k]at e;have:=(DI h.2.2).mp e
 lia
def Sw(p c:ja):mW Iq ((c.map<|led p).map D.int)=(lc p c).map D.int:=(FX<|km Iq _).1
def WK{n m:Nat}(l:m<=5){p c:ja}(h:PT n m p)(e:BL m c):ou [enc c,enc p]=Y (enc<|lc p c,[eN c,eN p]):=by
 have k:=e.len
 have i:yk (.lst<|(c.map<|led p).map D.int)=Y (.lst<|(lc p c).map D.int,I):=by
  show(if((c.map<|led p).map D.int).all N6=I/\(((c.map<|led p).map D.int).map aD).Nodup/\((c.map<|led p).map D.int).length<64 then Y (D.lst<|mW Iq<|(c.map<|led p).map D.int,I)else J)=_
  have f:((c.map<|led p).map D.int).all N6=I:=by rw[mC];intro d hd;obtain⟨x,_,rfl⟩:=ji hd;rfl
  have g:(((c.map<|led p).map D.int).map aD).Nodup:=by rw[ll];exact WH h e
  rw[jh ⟨f,g,by simp;lia⟩,Sw]
 refine KU ⟨rfl,by decide,rfl⟩<|jC (a:=.lst ((lc p c).map D.int)) H (jE (b:=I)<|jC i (jE (b:=I)<|CN (args:=[cD p]) (led p) H H H (λx j=>⟨C,?_⟩)<|by lia).r).r;exact HW (abQ h.1<|e.2.2 x j) (jV H)<|jV H
def Sv{m:Nat}{p:ja}(a:(VP p)=m)(r:ja){s:Int}(h:SG m s):led (p++r) s=led p s:=by
 obtain⟨k,hk,rfl|rfl⟩:=ng h
 .rw[lN,lN];simp[sd (show k<(VP p) by lia)]
 rw[mv,mv];simp[sd (show k<(VP p) by lia)]
def WN{m:Nat}{p c:ja}(b:(VP p)=m)(r:ja)(a:BL m c):lc (p++r) c=lc p c:=by unfold lc;rw[qm λs d=>Sv b r<|a.2.2 s d]
noncomputable def L4(n:Nat):List Int:=((aj (2*n+1)).map λ(k:Nat)=> -(n:Int)+k).filter λs=>!(s==0)
def Hz(n:Nat)(t:ja):List Int:=(L4 n).filter λs=>!t.contains s&&!t.contains (-s)
def HR(n:Nat)(L:jL):List (List Int):=L.flatMap λt=>(Hz n t).map λs=>t++[s]
def mU(n:Nat):Nat->List (List Int)
 |0=>[[]]
 |m+1=>HR n<|mU n m
def QE{n:Nat}{s:Int}:s∈L4 n↔SG n s:=by
 unfold L4 SG;simp only[ES,sh,vP];constructor
 .rintro⟨⟨k,hk,rfl⟩,b⟩;unfold ab;simp at b;split<;>lia
 rintro⟨h1,a⟩;unfold ab at h1 a;refine⟨⟨(s+n).toNat,by split at a<;>lia,by split at a<;>lia⟩,by simp;split at h1<;>lia⟩
def rn{n:Nat}:∀{m:Nat}{t:ja},t∈mU n m->PT n m t:=by
 intro r
 induction r with
 |zero=>intro t h;simp[mU]at h;subst h;exact⟨rfl,λx c=>by simp at c,rY⟩
 |succ m q=>
  intro t h;simp only[mU,HR,yP,sh]at h;obtain⟨p,o,s,d,rfl⟩:=h;obtain⟨h1,j,k⟩:=q o;unfold Hz at d;simp at d;obtain⟨d,f,g⟩:=d;have sg:=QE.mp d;refine⟨by simp[h1],λx c=>?_,?_⟩
  .rcases rq.mp c with c|c
   .exact j x c
   simp at c;subst c;exact sg
  rw[pU,Ca];refine⟨k,by simp,λa l b i e=>?_⟩;simp at i;subst i;subst e;obtain⟨x,c,e⟩:=ji l;unfold ab at e;have:x=s\/x= -s:=by split at e<;>split at e<;>lia
  rcases this with rfl|rfl
  .exact f c
  exact g c
def wX:∀n,n<6->∀m,m<6->(mU n m).length<=3840:=by decide+kernel
def WY{f g:FO}{δ δ1 δ2:Dn}{o1 o2:BU}{i j:Int}(h1:f δ=Y (o1,δ1))(a:g δ1=Y (o2,δ2))(b:res δ2 o1=Y (.int i))(c:res δ2 o2=Y (.int j))(d: -1000<=i/\i<=1000)(e: -1000<=j/\j<=1000):zb f g δ=Y (jP i (j-i).toNat,δ2):=by unfold zb;rw[om h1 a];simp only[ku,vE,b,c];rw[jh<|by lia]
def adj{n:Nat}(b:n<=5):nV [pI n]=Y ((.lst<|(L4 n).map .int,I),[ii n]):=by
 have e:=yv (caps:=[]) (fi:=zb (iU IM) U0) (f:=lu 0) (ti:=fT<|jl HY (iQ 0) yQ) (δ:=[ii n]) (δ1:=[ii n]) (l:=jP (-(n:Int)) (2*n+1)) (args:=[]) (λd=>d) (λd=>!(E5 d==0)) ?_ H H (λd hd=>?_) (by simp[jP];lia)
 .have a:((jP (-(n:Int)) (2*n+1)).filter λd=>!(E5 d==0)).map (λd=>d)=(L4 n).map .int:=by rw[u5];unfold jP L4;rw[show(λ(k:Nat)=>D.int (-(n:Int)+k))=D.int∘(λ(k:Nat)=> -(n:Int)+k)from H,<-ll,C8];rfl
  rw[a]at e;exact KU ⟨rfl,by decide,rfl⟩ e
 .rw[WY (o1:=.val (.int (-n),C)) (o2:=.val (.int<|n+1,C)) (δ1:=[ii n]) (δ2:=[ii n]) H H H H (by lia)<|by lia,show((n:Int)+1- -n).toNat=2*n+1 by lia]
 obtain⟨k,_,rfl⟩:=ji hd;exact⟨by kernel_rfl,λ_=>⟨C,rfl⟩⟩
abbrev Nb:FT:=rh (fT US) U6
abbrev fE:F:=XW
def Vh(n:Nat)(t:ja)(s:Int):Nb [ii n,eN t,ii s]=Y (!t.contains s&&!t.contains (-s),[ii n,eN t,ii s]):=by
 have h1:fT US [ii n,eN t,ii s]=Y (!t.contains s,[ii n,eN t,ii s]):=lR<|jO (zw s t) (jV H).r (jV H).r;have a:U6 [ii n,eN t,ii s]=Y (!t.contains (-s),[ii n,eN t,ii s]):=lR<|jO (zw (-s) t) (jE (b:=C) H).r (jV H).r;unfold Nb rh;rw[h1];simp only[ku];cases t.contains s
 .simp only[gr,dH];exact a
 rfl
def Z7(n:Nat)(t:ja)(a:(VP t)<=100)(s:Int):fE [ii n,eN t,ii s]=Y ((cD<|t++[s],C),[ii n,eN t,ii s]):=by refine jO (b:=.tup [.int s]) ?_ (jV H).r (jE (b:=C)<|by kernel_rfl).r;show mI (.tup<|t.map .int) (.tup [.int s])=_;simp only[mI];rw[jh<|qc<|by simp;lia,<-ka,<-pU]
theorem Qm{n:Nat}(e:n<=5):∀(L:jL)(a:List D)(x y:Sl),(∀t∈L,VP t<=100)->VP a+10*(VP L)<=sizeLine->
  ∃u b,kP (jd 1) kh (Qp (kN<|jo nV [iQ 0]) (jd 2) Nb<|kF fE) (L.map cD) a [ii n,x,y]=Y (a++(HR n L).map cD,[ii n,u,b])
 |[],a,x,y,_,_=>⟨x,y,by simp[kP,HR]⟩
 |t::L,a,x,y,h,o=>by
  have q:(L4 n).length<=10:=by have:=sO (λs:Int=>!(s==0))<|(aj (2*n+1)).map λ(k:Nat)=> -(n:Int)+k;rcases(show n=0\/n=1\/n=2\/n=3\/n=4\/n=5 by lia)with rfl|rfl|rfl|rfl|rfl|rfl<;>decide
  simp at o
  obtain⟨b,c⟩:=Xu (f:=fE) (ti:=Nb) (g:=λd=>cD<|t++[E5 d]) (p:=λd=>!t.contains (E5 d)&&!t.contains (-(E5 d))) (pre:=[ii n,eN t]) ((L4 n).map .int) a y (λd hd=>by obtain⟨s,_,rfl⟩:=ji hd;exact⟨Vh n t s,λ_=>⟨C,Z7 n t (h t kx) s⟩⟩) (by simp;lia)
  have j:(((L4 n).map D.int).filter λd=>!t.contains (E5 d)&&!t.contains (-(E5 d))).map (λd=>cD<|t++[E5 d])=((Hz n t).map λs=>t++[s]).map cD:=by rw[C8,ll,ll];rfl
  rw[j]at c
  have m:((Hz n t).map λs=>t++[s]).length<=10:=by rw[ke];exact lV (sO _ _) q
  obtain⟨x2,v,i⟩:=Qm e L (a++((Hz n t).map λs=>t++[s]).map cD) (eN t) b (λr l=>h r<|kE _ l) (by rw[nK,ke];lia);refine⟨x2,v,?_⟩;rw[kM,kP];rw[show jd 1 (cD t) [ii n,x,y]=Y [ii n,eN t,y]from H];simp;unfold Qp;rw[lW<|N3 (adj e)<|jV H];simp;rw[show kP (jd 2) Nb (kF fE) ((L4 n).map .int) a [ii n,eN t,y]=_ from c];simp only[ku];refine(show _=_ from i).trans ?_;simp[HR]
def afo{n:Nat}(a:n<=5)(L:jL)(h:∀t∈L,VP t<=100)(b:(VP L)<=4000):mP [pI n,(.lst<|L.map cD,I)]=Y ((.lst<|(HR n L).map cD,I),[ii n,Y (.lst<|L.map cD,C)]):=by obtain⟨c,d,e⟩:=Qm a L [] J J h (by rw[kj];simp;lia);refine lj (δ:=[ii n,Y (.lst<|L.map cD,C)]) ⟨rfl,by decide,rfl⟩<|jY<|lz ?_;exact(pM (caps:=[0]) (l:=L.map cD) (δ1:=[ii n,Y (.lst<|L.map cD,C)]) (args:=[pI n]) (lW (o:=C) H) H rY e).trans H
def ln(c:ja):Nat:=(ab<|c.getLastD 0).toNat
def JT{n:Nat}{c:ja}(h:BL n c):1<=ln c/\ln c<=n/\BL (ln c) c:=by
 obtain⟨b,h1,d⟩:=h;rcases Dl c with rfl|⟨l,x,rfl⟩
 .exact absurd H b
 rw[G2]at b h1 d ⊢;have e:ln (l++[x])=(ab x).toNat:=by simp[ln]
 have f:=d x (by simp);rw[e];refine⟨by lia,by lia,b,h1,λs a=>⟨(d s a).1,?_⟩⟩;rcases rq.mp a with a|a
 .rw[pU,uh]at h1;have:=h1.2.2 (ab s) (sP a) (ab x) (by simp)
  lia
 simp at a;subst a;lia
def BL.up{n m:Nat}{c:ja}(h:BL n c)(b:n<=m):BL m c:=⟨h.1,h.2.1,λs a=>by have:=h.2.2 s a;lia⟩
def Sy{n:Nat}{c:ja}(h:BL n c):D6 (cD c) (.int (-1))=ii (c.getLastD 0):=by
 rcases Dl c with rfl|⟨l,x,rfl⟩
 .exact absurd H h.1
 simp;simp[D6,Ij,HX];rw[jh<|by lia,show(-1+(((VP l):Int)+1)).toNat=(VP l) by lia];simp
def W2(c:ja)(a:jL):LN (cD c) (.tup<|a.map cD)=Y (.bl<|decide<|c∈a,C):=ZP c a
def Gi(js a:jL)(m:Nat)(t:ja):Bool:=a.all λc=>!decide (ln c<=m)||decide (lc t c∈js)
def Ky(a:jL)(m:Nat):List (List Int):=a.filter λc=>ln c==m
theorem CC{d e:Type}{P:d->Bool}{Q R:e->Bool}{f:d->List e}:∀L:List d,(∀t∈L,∀u∈f t,R u=(P t&&Q u))->((L.filter P).flatMap f).filter Q=(L.flatMap f).filter R
 |[],_=>rfl
 |t::L,h=>by
  have g:=CC L λt b=>h t<|kE _ b;have b:=h t kx;rw[GA,kv,<-g]
  cases a:P t with
  |true=>
   rw[dR a,GA,kv]
   congr 1
   exact C7 λu c=>by rw[b u c,a];rfl
  |false=>
   rw[Gz<|by rw[a];decide];have:(f t).filter R=[]:=List.filter_eq_nil_iff.mpr λu c=>by rw[b u c,a,eK];exact lH
   rw[this];rfl
def OF{n m:Nat}{b a:jL}(hk:∀c∈a,BL n c){t:ja}(f:(VP t)=m)(s:Int):Gi b a (m+1) (t++[s])=(Gi b a m t&&(Ky a<|m+1).all λc=>decide<|lc (t++[s]) c∈b):=by
 unfold Gi Ky
 induction a with
 |nil=>rfl
 |cons c a g=>
  have e:=JT<|hk c kx;rw[vh,vh,g λc h=>hk c<|kE _ h];by_cases h1:ln c=m+1
  .rw[dR<|by simp[h1],vh,nI (show ln c<=m+1 by lia),mq (show ¬ln c<=m by lia)];simp;cases decide (lc (t++[s]) c∈b)<;>cases(a.all λc=>!decide (ln c<=m)||decide (lc t c∈b))<;>rfl
  rw[Gz<|by simpa using h1];by_cases d:ln c<=m
  .rw[nI (show ln c<=m+1 by lia),nI d,WN f [s]<|e.2.2.up d,gw]
  rw[mq (show ¬ln c<=m+1 by lia),mq d,gw];rfl
def P5{n m:Nat}{js a:jL}(hk:∀c∈a,BL n c):(HR n<|(mU n m).filter<|Gi js a m).filter (λu=>(Ky a<|m+1).all λc=>decide<|lc u c∈js)=(mU n<|m+1).filter (Gi js a<|m+1):=by refine CC _ λt b u d=>?_;obtain⟨s,_,rfl⟩:=ji d;exact OF hk (rn b).1 s
def ZC{n:Nat}{js a:jL}(hk:∀c∈a,BL n c)(t:ja):Gi js a 0 t=I:=mC.mpr λc b=>by rw[mq (by have:=(JT<|hk c b).1;lia)];rfl
def Zz{n:Nat}{js a:jL}(hk:∀c∈a,BL n c)(t:ja):Gi js a n t=a.all λc=>decide (lc t c∈js):=by unfold Gi;rw[rd,mC,mC];refine forall_congr' λc=>forall_congr' λb=>?_;rw[nI (JT<|hk c b).2.1];rfl
abbrev Rg:FT:=zC5
abbrev Z2:FS:=jg zC4<|jg (kQ 4<|jU [1,6] 1 U3 (jd 2) Rg EW) jI
abbrev BR(L:jL)(o:Bool):Sl:=Y (.lst<|L.map cD,o)
abbrev Hx(L:jL):Sl:=Y (.tup<|L.map cD,C)
def Rc{n m:Nat}(g:m<=5){js a:jL}(h:∀c∈a,BL m c)(j:(VP a)<=30){t:ja}(i:PT n m t)(o:Bool):Rg [Hx js,BR a o,eN t]=Y (a.all λc=>decide<|lc t c∈js,[Hx js,BR a C,eN t]):=by
 have c:=wN (caps:=[0,2]) (fi:=kN<|lu 1) (f:=jl LN X7<|iQ 0) (δ:=[Hx js,BR a o,eN t]) (δ1:=[Hx js,BR a C,eN t]) (l:=a.map cD) (args:=[.tup<|js.map cD,cD t]) (λd=>decide<|lc t (K5 d)∈js) (by cases o<;>exact lW (o:=C) H) H H (λd hd=>by obtain⟨c,e,rfl⟩:=ji hd;rw[nL];exact⟨C,jO (b:=.tup (js.map cD)) (W2 _ _) (jE (b:=C)<|HW (WK g i<|h c e) (jV H)<|jV H).r (jV H).r⟩) (by simp;lia)
 rw[show(a.map cD).all (λd=>decide<|lc t (K5 d)∈js)=a.all λc=>decide (lc t c∈js) by rw[fA];simp only[eU,nL]]at c;exact lR c
theorem Qk{n m:Nat}(i:m<=5){js b:jL}(j:∀c∈b,BL m c)(g:(VP b)<=30):∀(L:jL)(a:List D)(o:Bool)(x:Sl),(∀t∈L,PT n m t)->VP a+VP L<=sizeLine->
  ∃d f,kP (jd 2) Rg EW (L.map cD) a [Hx js,BR b o,x]=Y (a++(L.filter λt=>b.all λc=>decide<|lc t c∈js).map cD,[Hx js,BR b d,f])
 |[],a,o,x,_,_=>⟨o,x,by simp[kP]⟩
 |t::L,a,o,x,h,r=>by
  have q:=Rc i j g (h t kx) (js:=js) o;have k:∀t∈L,PT n m t:=λt s=>h t<|kE _ s;simp at r;rw[kM,kP,show jd 2 (cD t) [Hx js,BR b o,x]=Y [Hx js,BR b o,eN t]from H];simp only[ku];rw[q];simp only[ku]
  cases l:b.all λc=>decide (lc t c∈js)with
  |false=>obtain⟨d,f,e⟩:=Qk i j g L a C (eN t) k (by lia);exact⟨d,f,by rw[jy lH,Gz (p:=λt=>b.all λc=>decide<|lc t c∈js)<|by rw[l];exact lH];exact e⟩
  |true=>obtain⟨d,f,e⟩:=Qk i j g L (a++[cD t]) C (eN t) k (by simp;lia);refine⟨d,f,?_⟩;rw[jh H,dR (p:=λt=>b.all λc=>decide<|lc t c∈js) l];simp;rw[show lu 2 [Hx js,BR b C,eN t]=Y ((cD t,C),[Hx js,BR b C,eN t])from H];simp;rw[jh<|by lia];simp;rw[e];simp
def Xi{t:FT}{f g:F}{δ δ1:Dn}{b:Bool}(h:t δ=Y (b,δ1)):LF t f g δ=if b=I then f δ1 else g δ1:=by unfold LF;rw[h];rfl
theorem wL{n:Nat}(a:n<=5):∀L:List (List Int),(HR n L).length<=10*(VP L)
 |[]=>by simp[HR]
 |t::L=>by
  have:=wL a L
  have b:((Hz n t).map λs=>t++[s]).length<=10:=by rw[ke];refine lV (sO _ _) ?_;rcases(show n=0\/n=1\/n=2\/n=3\/n=4\/n=5 by lia)with rfl|rfl|rfl|rfl|rfl|rfl<;>decide
  unfold HR at*;rw[GA,nK,oy]
  lia
section
variable {n:Nat}{g js:jL}(j:n<=5)(hk:∀c∈g,BL n c)(q:g.length<=30)
include j hk q
abbrev L9(n:Nat)(g js L:jL)(x y:Sl):Dn:=[Y (FA n g,C),Hx js,ii n,Hx g,BR L I,x,y]
theorem Ta{m:Nat}(G:m+1<=n)(y:Sl):∃Q,Z2 (L9 n g js ((mU n m).filter<|Gi js g m) (ii<|(m:Int)+1) y)=Y (.nx<|L9 n g js ((mU n<|m+1).filter<|Gi js g<|m+1) (ii<|(m:Int)+1) Q):=by
 have s:=yv (caps:=[5]) (fi:=kN<|lu 3) (f:=lu 1) (ti:=fT YE) (δ:=L9 n g js ((mU n m).filter<|Gi js g m) (ii<|(m:Int)+1) y) (δ1:=L9 n g js ((mU n m).filter<|Gi js g m) (ii<|(m:Int)+1) y) (l:=g.map cD) (args:=[.int<|(m:Int)+1]) (λd=>d) (λd=>ln (K5 d)==m+1) UV UV UV (λd hd=>by
  obtain⟨c,u,rfl⟩:=ji hd;rw[nL];refine⟨lR (o:=C)<|jO (a:=.int (ab<|c.getLastD 0)) ?_ (jE (b:=C)<|jC UV (jE (b:=C)<|jO (Sy<|hk c u) (jV UV).r (jE (b:=C) UV).r).r).r (jV UV).r,λ_=>⟨C,rfl⟩⟩;have T:0<=ab (c.getLastD 0):=by unfold ab;split<;>lia
  have:(ln c==m+1)=decide (ab (c.getLastD 0)=(m:Int)+1):=by
   unfold ln;generalize ab (c.getLastD 0)=x at*;by_cases h:x=(m:Int)+1
   .rw[nI h,h];simp
   rw[mq h];simp;lia
  rw[this];generalize ab (c.getLastD 0)=x
  kernel_rfl) (by simp;lia)
 rw[uA]at s;have er:(g.filter λt=>ln (K5<|cD t)==m+1)=Ky g (m+1):=by simp only[nL];rfl
 rw[er]at s
 have O:∀c∈Ky g (m+1),BL (m+1) c:=λc u=>by obtain⟨h1,w⟩:=ES.mp u;have:=JT<|hk c h1;rw[Gu]at w;rw[<-w];exact this.2.2
 have A:(Ky g<|m+1).length<=30:=lV (sO _ _) q;have B:∀t∈(mU n m).filter (Gi js g m),PT n m t:=λt k=>rn (ES.mp k).1;have N:((mU n m).filter<|Gi js g m).length<=3840:=lV (sO _ _)<|wX n (by lia) m (by lia)
 have E:∀t∈HR n ((mU n m).filter<|Gi js g m),PT n (m+1) t:=λt k=>by refine rn (m:=m+1) ?_;obtain⟨p,U,L⟩:=yP.mp k;exact yP.mpr ⟨p,(ES.mp U).1,L⟩
 have H:(HR n<|(mU n m).filter<|Gi js g m).length<=38400:=by
  have:=wL j<|(mU n m).filter<|Gi js g m
  lia
 obtain⟨v,M,e⟩:=Qk (n:=n) (m:=m+1) (by lia) (js:=js) O A (HR n<|(mU n m).filter<|Gi js g m) [] I J E (by rw[kj];simp;lia);rw[xb,P5 hk]at e;refine⟨BR (Ky g<|m+1) v,?_⟩
 have z:jU [1,6] 1 U3 (jd 2) Rg EW (L9 n g js ((mU n m).filter<|Gi js g m) (ii<|(m:Int)+1)<|BR (Ky g<|m+1) I)=Y ((.lst<|((mU n<|m+1).filter<|Gi js g<|m+1).map cD,I),[rS n g,Hx js,ii n,Hx g,BR ((mU n m).filter<|Gi js g m) C,ii<|(m:Int)+1,BR (Ky g<|m+1) v]):=by
  refine(pM (caps:=[1,6]) (args:=[(.tup<|js.map cD,C),(.lst<|(Ky g<|m+1).map cD,I)]) (δ1:=[rS n g,Hx js,ii n,Hx g,BR ((mU n m).filter<|Gi js g m) C,ii<|(m:Int)+1,BR (Ky g<|m+1) I]) (lW (o:=I) ?_) UV (KN 6) e).trans ?_
  .exact kO (δ1:=L9 n g js ((mU n m).filter<|Gi js g m) (ii<|(m:Int)+1)<|BR (Ky g<|m+1) I) (os:=[.slot 2,.slot 4]) (args:=[pI n,(.lst<|((mU n m).filter<|Gi js g m).map cD,I)]) UV UV (KN 4) (afo j _ (λt k=>by have:=(B t k).1;lia) (by lia))
  cases v<;>rfl
 exact(jf<|kK s (show 6<7 by decide)).trans ((jf<|kK (i:=4) z (show 4<7 by decide)).trans UV)
theorem aec:mQ [(FA n g,C),(.tup<|js.map cD,C)]=Y ((.lst<|((mU n n).filter λt=>g.all λc=>decide<|lc t c∈js).map cD,I),[rS n g,Hx js]):=by
 obtain⟨_,⟨m,x,y,i,rfl⟩,e⟩:=rO (tg:=jd 5) (fb:=Z2) (λds δ=>∃(m:Nat)(x y:Sl),(m<=n/\ds=(bG (m+1)<|n-m).map λ(k:Nat)=>D.int (k:Int))/\δ=L9 n g js ((mU n m).filter<|Gi js g m) x y) (λd ds δ U=>by
  obtain⟨m,x,y,⟨h1,a⟩,h⟩:=U
  subst h
  have l:m<n:=by
   rcases wf m n with h|h
   .exact h
   rw[show n-m=0 by lia]at a;cases a
  rw[show n-m=(n-(m+1))+1 by lia,zV,kM]at a;obtain⟨rfl,rfl⟩:=zN a;obtain⟨o,e⟩:=Ta (js:=js) j hk q (m:=m) (by lia) y
  exact⟨_,_,rfl,e,m+1,_,o,⟨l,rfl⟩,rfl⟩) ((bG 1 n).map λ(k:Nat)=>D.int (k:Int)) (L9 n g js [[]] J J) ⟨0,J,J,⟨mn _,rfl⟩,by rw[XI.mpr λt _=>ZC hk t];rfl⟩
 obtain⟨p,f⟩:=i
 have b:m=n:=by
  rcases wf m n with h|h
  .rw[show n-m=(n-(m+1))+1 by lia,zV]at f;cases f
  lia
 subst b;rw[C7 λt _=>Zz hk t]at e;refine lj (δ:=[rS m g,Hx js,ii m,Hx g,J,x,y]) ⟨rfl,by decide,rfl⟩ ?_;refine(jf (δ1:=[rS m g,Hx js,ii m,Hx g,J,J,J]) H).trans ((jf (δ1:=L9 m g js [[]] J J)<|by kernel_rfl).trans ?_);refine(jf<|(mK (ds:=(bG 1 m).map λ(k:Nat)=>D.int (k:Int)) (δ1:=L9 m g js [[]] J J) ?_).trans e).trans (jY ?_)
 .rw[Ek (o1:=.val (.int 1,C)) (o2:=.val (.int<|(m:Int)+1,C)) (δ2:=L9 m g js [[]] J J) H H H H (by lia)<|by lia,show((m:Int)+1-1).toNat=m by lia,Ck]
 rfl
theorem acL:lE [(FA n g,C)]=Y ((.lst<|((mU n n).filter λt=>g.all λc=>decide<|lc t c∈g).map cD,I),[rS n g]):=by
 refine KU ⟨rfl,by decide,rfl⟩<|HW (b:=FA n g) (outs:=[rS n g,rS n g]) ?_ (jV H)<|jV H;refine KU ⟨rfl,by decide,rfl⟩ (δ:=[rS n g,rS n g])<|(Xi (b:=I) (δ1:=[rS n g,rS n g])<|lR (o:=C)<|jO (a:=.int (VP g)) (Px<|by simp[D.dep]) (jE (b:=C)<|jC ?_ (jE (b:=C)<|jO H (jV H).r (jE H).r).r).r (jE (b:=C)<|jC ?_ (jE (b:=C)<|jO H (jV H).r (jE H).r).r).r).trans ?_
 .simp
 .simp
 exact HW (aec j hk q) (jV H) (jE (b:=C)<|jO H (jV H).r (jE H).r)
end
abbrev dS(n:Nat)(a b:Sl)(F:jL)(c d:Sl):Dn:=[ii n,a,b,BR F I,c,d]
def WT:∀c:List Int,BM (c.map .int)=Y (c.map cU):=by
 intro b
 induction b with
 |nil=>exact H
 |cons x c a=>simp only[kM,BM,ku];rw[a];rfl
def WQ:∀a:List (List Int),Lw (a.map λc=>.tup [cD c,.bl I])=Y (a.map λc=>c.map cU):=by
 intro d
 induction d with
 |nil=>exact H
 |cons c a b=>simp only[kM,Lw,kyT];rw[b,show za (cD c)=Y (c.map cU)from WT c];rfl
def PC{d:jL}(h:d.Nodup)(g:(VP d)<=1000):AS (.lst<|d.map λc=>.tup [cD c,.bl I])=Y (dC d,I):=by
 show((Lw<|d.map λc=>.tup [cD c,.bl I]).bind λd=>if (VP d)<=1000/\d.Nodup then Y (D.AE .dct (d.map λk=>.tup (k.map lO))<|d.map λ_=>.bl I,I)else J)=_;rw[WQ];simp only[ku];have i:(d.map λc=>c.map (cU:Int->Key)).Nodup:=ww _ (λa b f e=>f<|(List.map_inj_right λ_ _ e=>Sum.inl.inj e).mp e) h;rw[jh ⟨by simpa using g,i⟩];unfold dC;rw[ll,ll]
 have:((λk:List Key=>D.tup<|k.map lO)∘λc:List Int=>c.map cU)=cD:=by funext c;simp only[cj,ll];rfl
 rw[this];rfl
abbrev fDc(i:Nat):F:=jA (g1 AS) [iU<|jU [] 1 (kN<|jl D6 (iQ i) nW) (jd 0) kh XR]
def Xj{n i:Nat}{a:jL}{δ:Dn}(c:δ[i]?=Y (rS n a))(h:a.Nodup)(g:(VP a)<=1000):fDc i δ=Y ((dC a,I),δ):=by
 refine jC (PC h g) (jE (b:=I) ?_).r;have e:=rR (caps:=[]) (fi:=kN<|jl D6 (iQ i) nW) (f:=nG [lu 0,we]) (δ:=δ) (δ1:=δ) (l:=a.map cD) (args:=[]) (λd=>.tup [d,.bl I]) ?_ H H (λd hd=>⟨C,by kernel_rfl⟩) (by simp;lia)
 .rw[ll]at e;exact e
 rw[DW,jO (r:=(.tup<|a.map cD,C)) H (jV c).r (jE H).r];rfl
section
variable {n:Nat}{a:jL}(h:zo n a){d:D}(hd:LB d)
include h hd
end
section
variable {n:Nat}{a:jL}(h:zo n a)
include h
abbrev DN(n:Nat)(a:jL):List (List Int):=(mU n n).filter λt=>a.all λc=>decide<|lc t c∈a
theorem zA:(DN n a).length<=3840:=lV (sO _ _)<|wX n (by have:=h.1;lia) n (by have:=h.1;lia)
theorem qi{t:ja}(b:t∈DN n a):TT n t:=(rn (ES.mp b).1).tt
end
def aeA{l m:ja}(h:l.Perm m)(e:m.Pairwise (· < ·)):mW Bj (l.map .int)=m.map .int:=by
 have d:(m.map D.int).Pairwise (λa b=>Bj b a=C):=by
  rw[oq];refine e.imp λ{a b} h=>?_;have h1: ¬b<a:=by lia
  have c: ¬b=a:=by lia
  rw[qR];simp[cT,h1,c]
 refine GX (λx y f g h1 c=>?_) (og _) d<|(km Bj _).trans<|h.map _;obtain⟨i,_,rfl⟩:=ji<|(km Bj<|l.map D.int).mem_iff.mp f;obtain⟨j,_,rfl⟩:=ji g;rw[CU c h1]
abbrev Lc(t:ja)(s:Int):Bool:=!t.contains s&&!t.contains (-s)
def qg(n:Nat)(t:ja):List Int:=(st n).filter<|Lc t
def Vq:∀n,n<6->(L4 n).Pairwise (· < ·):=by decide+kernel
def PH{n:Nat}(a:n<=5)(t:ja):(Hz n t).Pairwise (· < ·):=(Vq n<|by lia).filter _
def S7{n:Nat}(k:n<=5)(t:ja):(qg n t++(qg n t).map (- ·)).Perm (Hz n t):=by
 have h1:(qg n t).Nodup:=((Nu n).imp λ{a b} h=>by omega).filter _;have d:∀x,x∈qg n t↔(1<=x/\x<=n)/\Lc t x=I:=λx=>by unfold qg;rw[ES,Ff]
 refine(List.perm_ext_iff_of_nodup ?_ ?_).mpr λx=>?_
 .refine Ca.mpr ⟨h1,?_,λa g b i e=>?_⟩
  .show List.Pairwise (· ≠ ·) _;rw[oq];exact wP (λ{a b} h e=>h<|by omega) h1
  obtain⟨c,j,rfl⟩:=ji i;have:=((d a).mp g).1;have:=((d c).mp j).1;omega
 .exact(PH k t).imp λ{a b} h=>by omega
 unfold Hz;rw[rq,sh,ES,QE];constructor
 .rintro(h|⟨y,h,rfl⟩)
  .have:=(d x).mp h;refine⟨?_,this.2⟩;unfold SG ab;split<;>omega
  have:=(d y).mp h;refine⟨?_,by simpa[Lc,tf]using this.2⟩;unfold SG ab;split<;>omega
 rintro⟨h1,f⟩;unfold SG ab at h1;by_cases l:0<=x
 .left;exact(d x).mpr ⟨by split at h1<;>omega,f⟩
 right;exact⟨-x,(d (-x)).mpr ⟨by split at h1<;>omega,by simpa[Lc,tf]using f⟩,by omega⟩
def afZ{n:Nat}(a:n<=5)(t:ja):mW Bj ((qg n t++(qg n t).map (- ·)).map .int)=(Hz n t).map .int:=aeA (S7 a t)<|PH a t
def p4(t:ja):D->Bool
 |.int s=>Lc t s
 |_=>C
abbrev Oc:FT:=rh (fT UR) U5
def Vi(t:ja)(s:Int):Oc [eN t,ii s]=Y (Lc t s,[eN t,ii s]):=by
 have h1:fT UR [eN t,ii s]=Y (!t.contains s,[eN t,ii s]):=lR<|jO (zw s t) (jV H).r (jV H).r;have a:U5 [eN t,ii s]=Y (!t.contains (-s),[eN t,ii s]):=lR<|jO (zw (-s) t) (jE (b:=C) H).r (jV H).r;unfold Oc rh Lc;rw[h1];simp only[ku];cases t.contains s
 .simp only[gr,dH];exact a
 rfl
abbrev fR4:F:=jU [4] 1 U9 (jd 1) Oc wg
def Vy{n:Nat}(h:n<=5)(a b:Sl)(F:jL)(t:ja)(e:Sl):fR4 (dS n a b F (eN t) e)=Y ((.lst<|(qg n t).map .int,I),dS n a b F (eN t) e):=by
 have g:U9 (dS n a b F (eN t) e)=Y ((st n).map .int,dS n a b F (eN t) e):=by refine(Ek (o1:=.val (.int 1,C)) (o2:=.val (.int<|(n:Int)+1,C)) (i:=1) (j:=(n:Int)+1) H H H H (by lia)<|by lia).trans ?_;rw[show((n:Int)+1-1).toNat=n by lia];simp[jP,st]
 have c:=yv (caps:=[4]) (f:=lu 1) (ti:=Oc) (args:=[cD t]) (l:=(st n).map .int) id (p4 t) g H H (λd hd=>by obtain⟨s,_,rfl⟩:=ji hd;exact⟨Vi t s,λ_=>⟨C,rfl⟩⟩) (by simp[xZ];lia)
 refine c.trans ?_;rw[rX,C8];rfl
abbrev fN4:F:=jU [] 1 (kN<|lu 5) (jd 0) kh<|kF IM
abbrev fS4:F:=jA (g1 mO) [iU<|jl mI (iQ 5)<|iU fN4]
abbrev fX4:F:=jU [4] 1 (kN fS4) (jd 1) kh Yb
abbrev d5(n:Nat)(a b:Sl)(F:jL)(t:ja)(o:Bool):Dn:=dS n a b F (eN t)<|Y (.lst<|(qg n t).map .int,o)
def Jj(n:Nat)(t:ja):(qg n t).length<=n:=by have:=sO (Lc t)<|st n;rw[xZ]at this;exact this
def Sn{n:Nat}(e:n<=5)(a b:Sl)(F:jL)(t:ja):fN4 (d5 n a b F t I)=Y ((.lst (((qg n t).map (- ·)).map .int),I),d5 n a b F t C):=by
 have c:=rR (caps:=[]) (fi:=kN<|lu 5) (f:=md ze<|iQ 0) (δ:=d5 n a b F t I) (δ1:=d5 n a b F t C) (l:=(qg n t).map .int) (args:=[]) (λd=>match d with|.int s=>.int (-s)|d=>d) (lW (o:=C) H) H H (λd hd=>by obtain⟨s,_,rfl⟩:=ji hd;exact⟨C,rfl⟩) (by have:=Jj n t;simp;lia)
 refine c.trans ?_;simp
def Ri{n:Nat}(d:n<=5)(b c:Sl)(F:jL)(t:ja):fS4 (d5 n b c F t I)=Y ((.lst<|(Hz n t).map .int,I),d5 n b c F t C):=by
 have e:=Jj n t
 have a:jl mI (iQ 5) (iU fN4) (d5 n b c F t I)=Y ((.lst ((qg n t++(qg n t).map (- ·)).map .int),I),d5 n b c F t C):=by unfold jl;rw[show iQ 5 (d5 n b c F t I)=Y (.slot 5,d5 n b c F t I)from H];simp only[ku];rw[jv<|Sn d b c F t];simp only[ku];rw[show res (d5 n b c F t C) (.slot 5)=Y (.lst<|(qg n t).map .int)from H];simp only[ku,res];rw[pU];simp only[mI];rw[jh<|qc<|by simp;lia];rfl
 refine pN (os:=[.val (.lst ((qg n t++(qg n t).map (- ·)).map .int),I)]) (ds:=[.lst ((qg n t++(qg n t).map (- ·)).map .int)]) ?_ H ?_
 .simp only[kY];rw[jv a];rfl
 show mO _=_;rw[adn _ (by simp;lia),afZ d t]
def Tp{n:Nat}(h:n<=5)(e g:Sl)(F:jL){t:ja}(j:(VP t)<=100):fX4 (d5 n e g F t I)=Y ((.lst<|((Hz n t).map λs=>t++[s]).map cD,I),d5 n e g F t C):=by
 have i:(Hz n t).length<=10:=by have:=wL h [t];simpa[HR]using this
 have c:=rR (caps:=[4]) (fi:=kN fS4) (f:=jl mI (iQ 0)<|iU<|nG [lu 1]) (δ:=d5 n e g F t I) (δ1:=d5 n e g F t C) (l:=(Hz n t).map .int) (args:=[cD t]) (λd=>match d with|.int s=>cD (t++[s])|d=>d) (lW<|Ri h e g F t) H H (λd hd=>by obtain⟨s,_,rfl⟩:=ji hd;refine⟨C,?_⟩;refine jO (a:=cD t) (b:=.tup [.int s]) ?_ (jV H).r (jE (b:=C)<|by kernel_rfl).r;show mI (.tup<|t.map .int) (.tup [.int s])=_;simp only[mI];rw[jh<|qc<|by simp;lia,<-ka,<-pU]) (by simp;lia)
 refine c.trans ?_;simp
abbrev Te:FS:=jg (kQ 5 fR4)<|jg (oE<|uC 3 fX4) jI
def Tb{n:Nat}(c:n<=5)(a b:Sl){t:ja}(f:(VP t)<=100)(F:jL)(h:F.length<=90000)(d:Sl):∃g,Te (dS n a b F (eN t) d)=Y (.nx<|dS n a b (F++(Hz n t).map λs=>t++[s]) (eN t) g):=by
 have i:(Hz n t).length<=10:=by have:=wL c [t];simpa[HR]using this
 refine⟨Y (.lst<|(qg n t).map .int,C),(jf<|kK (Vy c a b F t d)<|by simp).trans<|(jf (δ1:=dS n a b (F++(Hz n t).map λs=>t++[s]) (eN t)<|Y (.lst<|(qg n t).map .int,C)) ?_).trans H⟩;show oE (uC 3 fX4) (d5 n a b F t I)=_;rw[Jo];unfold uC;rw[Tp c a b F f];have e:F.length+(Hz n t).length<=16777216:=by lia
 simp[kj,e]
def Z0{n:Nat}(p:n<=5)(b c:Sl)(k:FS)(g:∀{t:ja},VP t<=100->∀F:List (List Int),F.length<=90000->∀a:Sl,∃f,k (dS n b c F (eN t) a)=Y (.nx<|dS n b c (F++(Hz n t).map λs=>t++[s]) (eN t) f)):∀(L F:jL)(d a:Sl),(∀t∈L,VP t<=100)->F.length+10*(VP L)<=80000->∃j f,pT (jd 4) k (L.map cD) (dS n b c F d a)=Y (.nx<|dS n b c (F++HR n L) j f):=by
 intro r
 induction r with
 |nil=>intro F d a _ _;exact⟨d,a,by simp[pT,HR]⟩
 |cons t L q=>
  intro F d a h o;simp at o;obtain⟨u,m⟩:=g (h t kx) F (by lia) a;have l:=wL p [t];have i:HR n [t]=(Hz n t).map λs=>t++[s]:=by simp[HR]
  rw[i]at l;simp only[xH]at l;obtain⟨j,f,e⟩:=q (F++(Hz n t).map λs=>t++[s]) (eN t) u (λt i=>h t<|kE _ i) (by rw[nK];lia);refine⟨j,f,?_⟩;rw[kM];unfold pT;rw[show jd 4 (cD t) (dS n b c F d a)=Y (dS n b c F (eN t) a)from H];simp;rw[m];refine(show _=_ from e).trans ?_;simp[HR]
def Z1{n:Nat}(e:n<=5)(a b:Sl)(L F:jL)(d c:Sl)(h:∀t∈L,VP t<=100)(g:F.length+10*(VP L)<=80000):∃k j,pT (jd 4) Te (L.map cD) (dS n a b F d c)=Y (.nx<|dS n a b (F++HR n L) k j):=Z0 e a b Te (λi F f c=>Tb e a b i F f c) L F d c h g
abbrev Z3:FS:=jg (kQ 3<|ml [])<|jg (rF oQ (jd 4) Te)<|jg (kQ 1<|lu 3) jI
def Tf{n:Nat}(i:n<=5)(L:jL)(h:∀t∈L,VP t<=100)(j:(VP L)<=4000)(o:Bool)(a g b c:Sl):∃f d,Z3 [ii n,BR L o,a,g,b,c]=Y (.nx [ii n,BR (HR n L) C,a,BR (HR n L) C,f,d]):=by obtain⟨f,d,e⟩:=Z1 i (BR L C) a L [] b c h (by simp;lia);refine⟨f,d,(jf (δ1:=[ii n,BR L o,a,BR [] I,b,c])<|by kernel_rfl).trans<|(jf<|(mK<|lW (o:=C) (by cases o<;>rfl)).trans e).trans H⟩
def ac8{n:Nat}(k:n<=5):∃o,nk [pI n]=Y ((.lst<|(mU n n).map cD,o),[ii n]):=by
 obtain⟨_,⟨m,o,f,a,b,c,i,rfl⟩,e⟩:=rO (tg:=jd 2) (fb:=Z3) (λg δ=>∃(m:Nat)(o:Bool)(f a b c:Sl),(m+VP g=n)/\δ=[ii n,BR (mU n m) o,f,a,b,c]) (λd g δ j=>by obtain⟨m,o,f,a,b,c,h1,h⟩:=j;subst h;simp at h1;obtain⟨q,p,e⟩:=Tf k (mU n m) (λt l=>by have:=(rn l).1;lia) (by have:=wX n (by lia) m (by lia);lia) o (Y (d,C)) a b c;exact⟨_,_,rfl,e,m+1,C,_,_,_,_,by lia,rfl⟩) (jP 0 n) [ii n,BR [[]] I,J,J,J,J] ⟨0,I,J,J,J,J,by simp[jP],rfl⟩
 simp at i;subst i;refine⟨o,?_⟩;cases o
 .refine lj (δ:=[ii m,BR (mU m m) C,f,a,b,c]) ⟨rfl,by decide,rfl⟩ ((jf (δ1:=[ii m,BR [[]] I,J,J,J,J])<|by simp[kj]).trans<|(jf<|(mK ?_).trans e).trans<|jY H);exact oW (o:=.slot 0) H H (by lia)
 refine lj (δ:=[ii m,J,f,a,b,c]) ⟨rfl,by decide,rfl⟩ ((jf (δ1:=[ii m,BR [[]] I,J,J,J,J])<|by simp[kj]).trans<|(jf<|(mK ?_).trans e).trans<|jY H);exact oW (o:=.slot 0) H H (by lia)
def afj(c:ja)(a:jL):qd (cD c) (dC a)=Y (.bl (!decide (c∈a)),C):=by unfold qd dC;simp only;rw[jh<|AL a c,Ed]
abbrev Ik:FS:=zC8
def ZY{n:Nat}(s:n<=5){t:ja}(u:TT n t)(a:jL)(b:Bool)(f:Sl):∀(g:jL)(x:Sl),(∀c∈g,BL n c)->∃j,pT (jd 3) Ik (g.map cD) [f,Y (dC a,b),eN t,x]=if(g.all λc=>decide<|lc t c∈a)=I then Y (.nx [f,Y (dC a,b),eN t,j])else Y (.rt (.bl C,C) [f,Y (dC a,b),eN t,j]):=by
 intro w
 induction w with
 |nil=>intro x _;exact⟨x,rfl⟩
 |cons c g v=>
  intro x h;have p:=h c kx;obtain⟨y,q,rfl⟩:=OT s u p;have i:fT Ys [f,Y (dC a,b),eN t,eN c]=Y (!decide (lc t c∈a),[f,Y (dC a,b),eN t,eN c]):=lR<|jO (b:=dC a) (afj _ _) (jE (b:=C)<|HW q (jV H)<|jV H).r<|jR H
  have l:pT (jd 3) Ik ((c::g).map cD) [f,Y (dC a,b),eN t,x]=(Ik [f,Y (dC a,b),eN t,eN c]).bind λo=>match o with
   |.nx d=>pT (jd 3) Ik (g.map cD) d
   |.ct d=>pT (jd 3) Ik (g.map cD) d
   |.bk d=>Y<|.nx d
   |.rt r d=>Y (.rt r d):=rfl
  rw[l,vh];by_cases k:lc t c∈a
  .rw[nI k]at i ⊢;obtain⟨j,e⟩:=v (eN c) λc m=>h c<|kE _ m;refine⟨j,?_⟩;have s1:Ik [f,Y (dC a,b),eN t,eN c]=Y (.nx [f,Y (dC a,b),eN t,eN c]):=(jf<|(qJ i).trans H).trans H;rw[s1];exact e
  rw[mq k]at i ⊢;refine⟨eN c,?_⟩;have s1:Ik [f,Y (dC a,b),eN t,eN c]=Y (.rt (.bl C,C) [f,Y (dC a,b),eN t,eN c]):=jY<|(yB i).trans H;rw[s1];rfl
def aeb{n:Nat}(i:n<=5){t:ja}(j:TT n t)(d a:jL)(hk:∀c∈a,BL n c)(b:Bool):nr [(FA n a,C),(dC d,b),enc t]=Y ((.bl<|a.all λc=>decide<|lc t c∈d,C),[Y (FA n a,C),Y (dC d,b),eN t]):=by
 obtain⟨x,e⟩:=ZY i j d b (Y (FA n a,C)) a J hk;have h:∀x,jH [(FA n a,C),(dC d,b),enc t] [Y (FA n a,C),Y (dC d,b),eN t,x]=[Y (FA n a,C),Y (dC d,b),eN t]:=λx=>by cases b<;>rfl
 cases g:a.all λc=>decide (lc t c∈d)with
 |true=>
  rw[g,jh H]at e;have q:=lj (n:=4) (np:=3) (asg:=[3]) (f:=oJ) (args:=[(FA n a,C),(dC d,b),enc t]) (r:=(.bl I,C)) (δ:=[Y (FA n a,C),Y (dC d,b),eN t,x]) ⟨rfl,by decide,by cases b<;>rfl⟩<|(jf<|(mK H).trans e).trans<|jY H
  rwa [h]at q
 |false=>
  rw[g,jy lH]at e;have q:=lj (n:=4) (np:=3) (asg:=[3]) (f:=oJ) (args:=[(FA n a,C),(dC d,b),enc t]) (r:=(.bl C,C)) (δ:=[Y (FA n a,C),Y (dC d,b),eN t,x]) ⟨rfl,by decide,by cases b<;>rfl⟩<|jY<|(mK H).trans e
  rwa [h]at q
def age{n:Nat}{a:jL}(h:zo n a):nU [(FA n a,C)]=Y ((.lst<|((mU n n).filter λt=>a.all λc=>decide<|lc t c∈a).map cD,I),[rS n a]):=by
 obtain⟨j,hk,_,u⟩:=h;obtain⟨o,m⟩:=ac8 j;have hd:=Xj (n:=n) (i:=0) (δ:=[rS n a,J]) H hk.1 (by lia);have q:=wX n (by lia) n (by lia)
 obtain⟨v,e⟩:=Xu (f:=lu 2) (ti:=fT Yd) (g:=λd=>d) (p:=λd=>a.all λc=>decide<|lc (K5 d) c∈a) (pre:=[rS n a,Y (dC a,I)]) ((mU n n).map cD) [] J (λd hd=>by obtain⟨t,s,rfl⟩:=ji hd;rw[nL];have tt:=(rn s).tt;refine⟨lR (o:=C)<|(kO (δ1:=[rS n a,Y (dC a,I),eN t]) (os:=[.slot 0,.slot 1,.slot 2]) (args:=[(FA n a,C),(dC a,I),enc t]) H H (KN 1)<|aeb j tt a a hk.2 I).trans H,λ_=>⟨C,rfl⟩⟩) (by rw[kj];simp;lia)
 rw[xb,uA]at e;simp only[nL]at e;refine lj (δ:=[rS n a,Y (dC a,I)]) ⟨rfl,by decide,rfl⟩<|(jf<|kK (i:=1) hd (show 1<2 by decide)).trans<|jY<|lz ?_;refine(pM (caps:=[0,1]) (k:=1) (l:=(mU n n).map cD) (δ1:=[rS n a,Y (dC a,I)]) (args:=[(FA n a,C),(dC a,I)]) (lW (o:=o) ?_) H (KN 1) e).trans H;exact N3 m<|jE (b:=C)<|jO H (jV H).r (jE H).r
section
variable {d:D}{lo a:Int}
end
section
variable {n m:Nat}{V R:jL}{d:D}
end
section
variable {n:Nat}{L a V R:jL}{d:D}
end
section
variable {a b c:D}
end
section
variable {n:Nat}{d:D}
end
section
variable {n:Nat}{L a c V F:jL}{d:D}{b:ja}
end
section
variable {n:Nat}{a:jL}(h:zo n a)
include h
end
section
variable {n:Nat}{a:jL}{t u v w:ja}
@[irreducible] def bkF(n:Nat)(t:ja):List Int:=Iw n t 2519
def Gn(d:n<=5)(b:TT n t):BK n t (bkF n t):=by unfold bkF;refine⟨(pE b _).len,λs c=>?_⟩;have:=zt b 1 c 2519;rw[VY d b,AK c,RB b]at this;exact this.symm
end
def ac(n:Nat)(t a:ja):List Int:=Iz (bkF n t) a
section
variable {n:Nat}{c:jL}{t u v w a y:ja}(b:n<=5)
include b
theorem Qu(d:TT n t):wZ n (ac n t a):=WO ((Gn b d).tt d) a
end
structure NO(n:Nat)(ks:jL)(a:ja)(O:jL):Prop where
 nd:O.Nodup
 sr:K9 O
 im:∀y,y∈O↔ ∃t∈DN n ks,ac n t a=y
section
variable {n:Nat}{b O P:jL}{t u v w a y:ja}(h:zo n b)
include h
theorem NO.ok(o:NO n b a O)(d:y∈O):wZ n y:=by obtain⟨t,c,rfl⟩:=(o.im y).mp d;exact Qu h.1<|qi h c
end
section
variable {n:Nat}{t w a:ja}(b:TT n t)(c:wZ n a)
include b c
end
theorem aab{f:F}{pre:Dn}(g:List Int->List Int):∀(l a:jL)(x:Sl),(∀t∈l,∃o,f (pre++[Y (cD t,C)])=Y ((cD<|g t,o),pre++[Y (cD t,C)]))->(∀m:Nat,(((l.take m).map g).foldl oG a).length<500)->
  ∃b,kP (jd<|VP pre) kh (vO f) (l.map cD) (a.map cD) (pre++[x])=Y (((l.map g).foldl oG a).map cD,pre++[b])
 |[],a,x,_,_=>⟨x,by kernel_rfl⟩
 |t::l,a,x,h,c=>by
  obtain⟨o,d⟩:=h t kx;obtain⟨b,e⟩:=aab g l (oG a<|g t) (Y (cD t,C)) (λt j=>h t<|kE _ j) (λm=>by have:=c<|m+1;simpa using this);refine⟨b,?_⟩;have i:(VP a)<500:=by have:=c 0;simpa using this
  have h1:HE (cD<|g t)=I:=by have:=Eb [g t];simpa using this
  rw[kM,kP,show jd (VP pre) (cD t) (pre++[x])=Y (pre++[Y (cD t,C)]) by unfold jd;simp];simp;unfold vO;rw[d];simp only[ku];rw[jh ⟨Eb a,h1,by simpa using i⟩];simp only[ku];rw[Kt];exact e
section
variable {n:Nat}(b:n<=5)(h1:1<=n){L:jL}(c:∀t∈L,TT n t)(a:L.length<=3840)
include b h1 c a
end
section
variable {n:Nat}(b:n<=5)
include b
variable {L:jL}{R:List Int->List (List Int)}(d:∀a∈mw n,(∀c∈R a,c∈mw n)/\(R a).length<=100/\∃o,tY [enc a,(.lst<|L.map cD,UF)]=TW ((.tup<|(R a).map cD,UF),o))
include d
end
section
variable {n:Nat}{c:jL}{R:List Int->List (List Int)}{a b y:ja}(h:zo n c)(d:∀a∈mw n,NO n c a<|R a)
include h d
end
section
variable {n:Nat}{b:jL}{R:List Int->List (List Int)}(h:zo n b)(c:∀a∈mw n,NO n b a<|R a)
include h c
end
def Y6{cs:jL}(a:(∀c∈cs,c≠[])\/(dd cs).length<=1)(f:(dd cs).length<=100):∃O:List (List Int),(∀c,c∈O↔c∈cs)/\O.Nodup/\K9 O/\(VP O)<=100/\mH (.AE .set []<|(dd cs).map cD)=Y (.lst<|O.map cD,I):=by
 have d:∀c,c∈dd cs↔c∈cs:=λc=>by unfold dd;rw[yq];simp
 obtain⟨O,e,b⟩:=Bm<|km Bj<|(dd cs).map cD;refine⟨O,λc=>b.mem_iff.trans<|d c,b.nodup_iff.mpr<|A6 cs []<|by simp,?_,by rw[b.length_eq];exact f,?_⟩
 .have:=og<|(dd cs).map cD;rw[e,oq]at this;exact this
 show(if((dd cs).map cD).all HE=I then kJ ((dd cs).map cD)else J)=_;rw[jh<|Eb _]
 have g:nv ((dd cs).map cD)=I:=by
  rcases a with a|a
  .exact ya _ λc h=>a c<|(d c).mp h
  unfold nv;rw[ke,nI a];rfl
 unfold kJ;rw[jh ⟨g,by rw[kj];simp;lia⟩,e]
def ZK{n:Nat}(a:n<=5):(mw n).length<=32:=by rcases(show n=0\/n=1\/n=2\/n=3\/n=4\/n=5 by lia)with rfl|rfl|rfl|rfl|rfl|rfl<;>decide
section
variable {n:Nat}{g:jL}(h:zo n g)
include h
theorem NP:∃R:List Int->List (List Int),∀a∈mw n,NO n g a (R a)/\(R a).length<=100/\kf [enc a,(.lst<|(DN n g).map cD,C)]=Y ((.lst<|(R a).map cD,I),[eN a,BR (DN n g) C])/\mH (.AE .set []<|(dd<|(DN n g).map λt=>ac n t a).map cD)=Y (.lst<|(R a).map cD,I):=by
 have i:=h.1;refine(Classical.skolem (p:=λa O=>a∈mw n->NO n g a O/\(VP O)<=100/\kf [enc a,(.lst<|(DN n g).map cD,C)]=Y ((.lst<|O.map cD,I),[eN a,BR (DN n g) C])/\mH (.AE .set []<|(dd<|(DN n g).map λt=>ac n t a).map cD)=Y (.lst<|O.map cD,I))).mp λa=>?_;by_cases j:a∈mw n
 .have w:=Gy.mp j;have o:∀t∈DN n g,ac n t a∈mw n:=λt b=>Gy.mpr (Qu i<|qi h b)
  have k:∀cs:List (List Int),(∀c∈cs,c∈mw n)->(dd cs).length<=(mw n).length:=λcs d=>AG _ (mw n) (A6 cs []<|by simp) λc z=>by unfold dd at z;rw[yq]at z;exact z.elim (λz=>absurd z pj)<|d c
  have T:=ZK i;have l:∀c∈(DN n g).map λt=>ac n t a,c∈mw n:=λc d=>by obtain⟨t,b,rfl⟩:=ji d;exact o t b
  obtain⟨O,x,A,B,U,s⟩:=Y6 (cs:=(DN n g).map λt=>ac n t a) (by
   by_cases q:n=0
   .right;subst q;exact k _ l
   left;intro c d e;have:=(Gy.mp<|l c d).1;rw[e]at this;exact q this.symm) (by have:=k _ l;lia)
  refine⟨O,λ_=>⟨⟨A,B,λy=>by rw[x,sh]⟩,U,?_⟩⟩
  obtain⟨E,e⟩:=aab (f:=jo lQ [iQ 0,iQ 1]) (pre:=[eN a]) (λt=>ac n t a) (DN n g) [] J (λt b=>⟨C,HW (JX i (qi h b) (Gn i<|qi h b) w) (jV H)<|jV H⟩) (λm=>by have:=k (((DN n g).take m).map λt=>ac n t a) (λc d=>by obtain⟨t,b,rfl⟩:=ji d;exact o t<|vf b);unfold dd at this;lia)
  have u:P0 [0] 1 oQ (jd 1) kh (vO Q0) [eN a,BR (DN n g) C]=Y ((.AE .set []<|(dd<|(DN n g).map λt=>ac n t a).map cD,I),[eN a,BR (DN n g) C]):=by unfold P0 Il;rw[show oQ [eN a,BR (DN n g) C]=Y ((DN n g).map cD,[eN a,BR (DN n g) C])from H];simp only[ku];rw[show kn [eN a,BR (DN n g) C] (([0]:List Nat).map .slot)=Y [enc a]from H];simp only[ku];rw[jh (show(jF (([0]:List Nat).map .slot) [enc a]).Nodup by simp[jF])];have v:kP (jd 1) kh (vO Q0) ((DN n g).map cD) [] (([enc a].map Y)++ag 1 J)=Y ((dd<|(DN n g).map λt=>ac n t a).map cD,[eN a,E]):=e;rw[v];rfl
  exact⟨KU (np:=2) ⟨rfl,by decide,rfl⟩ (δ:=[eN a,BR (DN n g) C])<|jC s (jE u).r,s⟩
 exact⟨[],λz=>absurd z j⟩
theorem JU(δ:Dn){i:Nat}(a:δ[i]?=Y (rS n g)):jo lE [iQ i] δ=Y ((.lst<|(DN n g).map cD,I),δ):=N3 (acL h.1 h.2.1.2 h.2.2.2)<|jV a
variable {a:ja}(j:a∈mw n)
include j
theorem cka:Q5 [rS n g,eN a]=Y (.nx [rS n g,eN a]):=by
 have c:=(Gy.mp j).1
 have e:kG [pI n,enc a]=Y ((.V0,C),[ii n,eN a]):=by have:=C5 n (cD a)<|Zx (by have:=h.1;lia);rw[SR j]at this;have e:oK [ii n,eN a]=Y (.nx [ii n,eN a]):=(jf (δ1:=[ii n,eN a])<|(qJ<|pL (b:=I)<|lR (o:=C)<|HW this (jV H)<|jV H).trans H).trans H;simp only[kG,AV];rw[jh ⟨rfl,by decide,rfl⟩];show(match oK [ii n,Y<|enc a]with|some (.rt r δ)=>Y (r,jH _ δ)|some (.nx δ)=>Y ((D.V0,C),jH _ δ)|_=>J)=_;rw[e];rfl
 exact qL<|HW e (jE (b:=C)<|jO H (jV H).r (jE H).r)<|jV H
theorem Ut{O:jL}(r:kf [enc a,(.lst<|(DN n g).map cD,C)]=Y ((.lst<|O.map cD,I),[eN a,BR (DN n g) C])):nD [(FA n g,C),enc a]=Y ((.lst<|O.map cD,I),[rS n g,eN a]):=
 lj (δ:=[rS n g,eN a]) ⟨rfl,by decide,rfl⟩ ((jf<|cka h j).trans<|jY<|lz<|HW r (jV H)<|jE (b:=I)<|JU h _ rfl)
theorem Jd:nR [(FA n g,C),enc a]=Y ((.lst<|((DN n g).filter λt=>decide<|ac n t a=a).map cD,I),[rS n g,eN a]):=by
 have c:=yv (caps:=[1]) (fi:=kN UU) (f:=lu 1) (ti:=fT Yk) (δ:=[rS n g,eN a]) (l:=(DN n g).map cD) (args:=[cD a]) (λd=>d) (λd=>decide<|ac n (K5 d) a=a) (lW<|JU h _ rfl) H H (λd hd=>by obtain⟨t,e,rfl⟩:=ji hd;have i:=qi h e;refine⟨lR (o:=C) ?_,λ_=>⟨C,rfl⟩⟩;rw[nL];exact jO (Py (ac n t a) a) (jE (b:=C)<|HW (JX h.1 i (Gn h.1 i)<|Gy.mp j) (jV H)<|jV H).r (jV H).r) (by have:=zA h;simp;lia)
 rw[uA,C7 λt e=>show decide (ac n (K5<|cD t) a=a)=decide (ac n t a=a) by rw[nL]]at c;exact lj ⟨rfl,by decide,rfl⟩<|(jf<|cka h j).trans<|jY<|lz c
end
def Za{ev:BI}{l:List D}{d:D}(hd:d=.lst l\/d=.tup l)(h:∀d∈l,Gs ev d)(m:(VP l)<=9000):Gs (AV 2 2 []<|lK ev) d:=λb c=>by
 obtain⟨o,q,e⟩:=Kq (ev:=ev) l [] J J h (by simp;lia)
 have j:jU [] 2 (tR (iQ 0)<|iQ 1) yR kh (kF<|jo ev [iQ 0,iQ 1]) [Y (d,b),Y (d,c)]=Y ((.lst<|l.map λ_=>.bl I,I),[Y (d,b),Y (d,c)]):=by unfold jU;rw[show tR (iQ 0) (iQ 1) [Y (d,b),Y (d,c)]=Y ((l.zip l).map λp=>.tup [p.1,p.2],[Y (d,b),Y (d,c)])from by rcases hd with rfl|rfl<;>rfl];simp only[ku,sM,KZ,jF,rY,nJ,xb,tu,ip];rw[e];rfl
 have i:jA (g1 zg) [iU<|jU [] 2 (tR (iQ 0)<|iQ 1) yR kh<|kF<|jo ev [iQ 0,iQ 1]] [Y (d,b),Y (d,c)]=Y ((.bl I,C),[Y (d,b),Y (d,c)]):=
  jC (a:=.lst (l.map λ_=>.bl I)) (by rw[xa λ_=>I];simp) (jE j).r
 have g:jl FE M9 Kx [Y (d,b),Y (d,c)]=Y ((.bl I,C),[Y (d,b),Y (d,c)]):=by rcases hd with rfl|rfl<;>simp
 have k:jH [(d,b),(d,c)] [Y (d,b),Y (d,c)]=[Y (d,b),Y (d,c)]:=by cases b<;>cases c<;>rfl
 have:=lj (args:=[(d,b),(d,c)]) (np:=2) (n:=2) (asg:=[]) (f:=lK ev) (δ:=[Y (d,b),Y (d,c)]) (r:=(.bl I,C)) ⟨rfl,by decide,by simp⟩ (by refine jY<|(yB (δ1:=[Y (d,b),Y (d,c)]) (by rcases hd with rfl|rfl<;>rfl)).trans ?_;refine(jf<|(qJ (δ1:=[Y (d,b),Y (d,c)]) ?_).trans H).trans (jY<|lz<|(Io g).trans i);rcases hd with rfl|rfl<;>kernel_rfl)
 rwa [k]at this
def Vu(ev:BI)(i:Int):Gs (AV 2 2 []<|lK ev) (.int i):=λb c=>by
 cases b<;>cases c<;>simp[lK,AV,jH,Hy]
def NH(L:jL)(a:(VP L)<=9000)(h:∀t∈L,VP t<=9000):Gs (jQ RD) (.lst<|L.map cD):=
 Za (ev:=jQ 5) (.inl H) (λd hd=>by
  obtain⟨t,b,rfl⟩:=ji hd
  exact Za (ev:=jQ 4) (.inr H) (λd hd=>by obtain⟨i,_,rfl⟩:=ji hd;exact Vu (jQ 3) i)<|by simpa using h t b) (by simpa using a)
def pA(a t:ja):List (Int×Int):=(a.zip t).map λp=>(ab p.2,if p.2>0 then p.1 else 1-p.1)
def RT{n:Nat}{a t:ja}(h1:(VP a)=n)(b:(VP t)=n):(pA a t).map (·.1)=t.map ab:=by
 unfold pA;rw[ll];have:(a.zip t).map Prod.snd=t:=List.map_snd_zip (by lia)
 conv=>rhs;rw[<-this]
 rw[ll];rfl
def RC{l:List (Int×Int)}{p:Int×Int}(h:p.1∉l.map (·.1)):Au l p=l++[p]:=by unfold Au;rw[jy];intro z;obtain⟨q,a,e⟩:=n6.mp z;exact h<|sh.mpr ⟨q,a,by simpa using e⟩
theorem Kb:∀(a l:List (Int×Int)),((l++a).map (·.1)).Nodup->a.foldl Au l=l++a
 |[],l,_=>by simp
 |p::a,l,h=>by
  have b:p.1∉l.map (·.1):=by rw[pU,Ca]at h;exact λz=>h.2.2 _ z _ (by simp) rfl
  rw[tj,RC b,Kb a (l++[p])<|by simpa using h];simp
theorem JR{k v:Int}:∀{a:List (Int×Int)},(a.map (·.1)).Nodup->(k,v)∈a->mX (a.map λp=>D.int p.1) (a.map λp=>D.int p.2) (.int k)=Y (.int v)
 |[],_,h=>by simp at h
 |p::a,b,h=>by
  simp only[kM,mX,D.BE];simp only[kM,zp]at b;rcases nH.mp h with rfl|h
  .simp
  have:p.1≠k:=λe=>b.1<|e▸sh.mpr ⟨_,h,rfl⟩;simp[this,JR b.2 h]
def SF{n:Nat}{t w a:ja}(l:TT n t)(m:BK n t w)(h:wZ n a){k:Nat}(hk:k<n):((k:Int)+1,(Iz w a).getD k 0)∈pA a t:=by
 have u:(k:Int)+1∈t.map ab:=l.mem_iff.mpr<|Ff.mpr ⟨by lia,by lia⟩;obtain⟨j,s,c⟩:=zS u;have i:=l.len;have d:j<n:=by simpa[i]using s
 have f:ab (t.getD j 0)=(k:Int)+1:=by rw[fV]at c;simpa[pV,i,d]using c
 have b:=m.2 _ (Ji d);rw[lN]at b;have o:a.getD j 0=0\/a.getD j 0=1:=h.2 _ (mx<|by rw[h.1];exact d)
 have r:(Iz w a).getD k 0=if t.getD j 0>0 then a.getD j 0 else 1-a.getD j 0:=by
  have p:(Iz w a).getD k 0=if LW a (w.getD k 0)=I then 1 else 0:=by simp[Iz,m.1,hk]
  rw[p];unfold led at b;unfold ab at f;by_cases g:t.getD j 0>0
  .rw[jh g]at b;rw[jy<|by lia]at f;rw[show(t.getD j 0-1).toNat=k by lia]at b;rw[b,jh g];unfold LW;rw[ql<|by lia,show(((j:Int)+1).toNat-1)=j by lia,jh (show(j:Int)+1>0 by lia)];rcases o with e|e<;>rw[e]<;>rfl
  rw[jy g]at b;have q: -t.getD j 0=(k:Int)+1:=by split at f<;>lia
  rw[show(-t.getD j 0-1).toNat=k by lia]at b;rw[show w.getD k 0= -((j:Int)+1) by lia,jy g];unfold LW;rw[By<|by lia,show(((j:Int)+1).toNat-1)=j by lia,jy (show ¬ -((j:Int)+1)>0 by lia)];rcases o with e|e<;>rw[e]<;>rfl
 unfold pA;refine sh.mpr ⟨(a.getD j 0,t.getD j 0),?_,by rw[f,r]⟩
 have v:(a.zip t)[j]?=Y (a.getD j 0,t.getD j 0):=by rw[Bz];simp[i,h.1,d]
 exact mZ v
abbrev fPr:F:=zC1
theorem UH:∀(l:List (Int×Int))(a:List D)(x y:Sl),VP a+VP l<=1000->∃b c,kP yR kh (kF fPr) (l.map λp=>.tup [.int p.1,.int p.2]) a [x,y]=Y (a++l.map λp=>.tup [.int<|ab p.2,.int (if p.2>0 then p.1 else 1-p.1)],[b,c])
 |[],a,x,y,_=>⟨x,y,by simp[kP]⟩
 |p::l,a,x,y,h=>by
  obtain⟨b,c,e⟩:=UH l (a++[.tup [.int<|ab p.2,.int (if p.2>0 then p.1 else 1-p.1)]]) (ii p.1) (ii p.2) (by simp at h ⊢;lia);refine⟨b,c,?_⟩
  have d:fPr [ii p.1,ii p.2]=Y ((.tup [.int<|ab p.2,.int (if p.2>0 then p.1 else 1-p.1)],C),[ii p.1,ii p.2]):=by by_cases f:p.2>0<;>simp[f,kj,lu,D6,Ij,HX,ab]
  rw[kM,kP];rw[show yR (.tup [.int p.1,.int p.2]) [x,y]=Y [ii p.1,ii p.2]from H];simp only[ku,Jp,nJ,DX];rw[d];simp;rw[jh<|zr<|by simp at h;lia];simp;rw[e];simp
def V9(a:List (Int×Int)):K6 (a.map λp=>.tup [.int p.1,.int p.2])=Y a:=by
 induction a with
 |nil=>rfl
 |cons p a b=>simp[K6,prD,b]
def JW{n:Nat}(Q:n<=5){t w a:ja}(e:TT n t)(o:BK n t w)(g:wZ n a):nq [enc a,enc t]=Y (enc<|Iz w a,[Y<|enc a,Y<|enc t]):=by
 have h:=e.len
 let c:=pA a t
 have hk:c.map (·.1)=t.map ab:=RT g.1 h;have q:(c.map (·.1)).Nodup:=by rw[hk];exact(HP.mp e).2.2
 have O:(VP c)=n:=by have:=oA cZ hk;simpa[h]using this
 let dd:D:=.AE .dct (c.map λp=>.int p.1) (c.map λp=>.int p.2)
 have B:pK c=c:=by have:=Kb c [] (by simpa using q);simpa[pK]using this
 have u:Et (.lst<|c.map λp=>.tup [.int p.1,.int p.2])=Y (dd,I):=by show((K6<|c.map λp=>.tup [.int p.1,.int p.2]).bind λc=>if (VP c)<=1000 then Y (D.AE .dct ((pK c).map λp=>.int p.1)<|(pK c).map λp=>.int p.2,I)else J)=_;rw[V9];simp only[ku];rw[jh<|by lia,B]
 obtain⟨T,G,s⟩:=UH (a.zip t) [] J J (by simp[h,g.1];lia)
 have y:((a.zip t).map λp=>D.tup [.int<|ab p.2,.int (if p.2>0 then p.1 else 1-p.1)])=c.map λp=>.tup [.int p.1,.int p.2]:=by show _=(pA a t).map _;unfold pA;rw[ll];rfl
 have z:((a.map D.int).zip<|t.map D.int).map (λp=>D.tup [p.1,p.2])=(a.zip t).map λp=>.tup [.int p.1,.int p.2]:=by rw[List.zip_map,ll];rfl
 have j:pG dd=Y (.lst<|(st n).map .int,I):=by
  have v:(c.map λp=>D.int p.1)=(t.map ab).map D.int:=by rw[<-hk,ll];rfl
  show kJ (c.map λp=>D.int p.1)=_;rw[v];unfold kJ;rw[jh ⟨yA _,by rw[kj];simp;lia⟩,XC.mpr e]
 obtain⟨M,f⟩:=Ql (jl Ii (iQ 0)<|iQ 1) (λd=>.int ((Iz w a).getD ((E5 d).toNat-1) 0)) [Y (dd,I)] ((st n).map .int) [] J (by
   intro d hd;obtain⟨x,H,rfl⟩:=ji hd;obtain⟨h1,A⟩:=Ff.mp H;obtain⟨k,rfl⟩:∃k:Nat,x=(k:Int)+1:=⟨(x-1).toNat,by lia⟩
   have E:=SF e o g (k:=k) (by lia);refine⟨C,kZ (o1:=.slot 0) (o2:=.slot 1) UV UV UV UV ?_⟩;simp only[Ii,dd];rw[jh<|by simp[qW,AM],JR q E]
   kernel_rfl) (by rw[kj];simp[st];lia)
 have L:(((st n).map D.int).map λd=>D.int<|(Iz w a).getD ((E5 d).toNat-1) 0)=(Iz w a).map .int:=by
  rw[ll];have m:(Iz w a).length=n:=by simp[Iz,o.1]
  apply Aa
  .simp[st,m]
  intro i h1 A;have N:i<n:=by simpa[st]using h1
  simp only[st,fV,kl,cj,E5];rw[show((1:Int)+(i:Int)).toNat-1=i by lia];simp[m,N]
 rw[L]at f;simp at f;refine lj (δ:=[Y<|enc a,Y<|enc t,Y (dd,I)]) ⟨rfl,by decide,rfl⟩ ?_;refine(jf<|kK (i:=2) (δ1:=[Y<|enc a,Y<|enc t,J]) (r:=(dd,I)) (jC u (jE (b:=I) ?_).r) (show 2<3 by decide)).trans (jY<|lz<|pN (os:=[.val (.lst<|(Iz w a).map .int,I)]) (Be<|jv ?_) UV UV)
 .refine(pM (l:=(a.zip t).map λp=>.tup [.int p.1,.int p.2]) (δ1:=[Y<|enc a,Y<|enc t,J]) (args:=[]) ?_ UV (by simp[jF]) s).trans ?_
  .rw[<-z];rfl
  rw[y];rfl
 have U:kN (jA (g1 pG) [iQ 2]) [Y<|enc a,Y<|enc t,Y (dd,I)]=Y ((st n).map .int,[Y<|enc a,Y<|enc t,Y (dd,I)]):=lW<|pN (os:=[.slot 2]) UV UV j;refine(pM (caps:=[2]) (k:=1) U (args:=[(dd,I)]) UV (show(jF [BU.slot 2] [(dd,I)]).Nodup from(show([2]:List Nat).Nodup by decide)) f).trans UV
def YS:yz 5 1 (jZ CT sj) (.AE (.exc 73) [] [])=Y (.str "answer"):=by kernel_rfl
def YR:yz 5 1 (jZ CT sj) .V0=Y .V0:=by kernel_rfl
def abc:(λz=>sj.lookup z) ("NoAnswer":av)=Y 73:=by kernel_rfl
def abY(i:Int):LN (.int i) (.tup [.int 0,.int 1])=Y (.bl<|BZ<|.int i,C):=by
 by_cases a:i=0
 .subst a;rfl
 by_cases h1:i=1
 .subst h1;rfl
 have:BZ (.int i)=C:=by show(decide (0<=i)&&decide (i<=1))=C;rw[Bool.and_eq_false_iff,decide_eq_false_iff_not,decide_eq_false_iff_not];lia
 rw[this];have b:D.BE (.int 0) (.int i)=C:=by rw[D.BE];simpa using λz=>a z.symm
 have c:D.BE (.int 1) (.int i)=C:=by rw[D.BE];simpa using λz=>h1 z.symm
 show(if D.BJ [.int 0,.int 1]<=50/\D.dep (.int i)<=50 then Y ([D.int 0,D.int 1].any λd=>D.BE d<|.int i)else J).map _=_;rw[jh ⟨by decide,by simp[D.dep]⟩];rw[vU,vU,b,c];rfl
def Sz(n:Nat)(d:D)(hd:LB d):lG [pI n,(d,C)]=Y ((.bl<|isA n d,C),[ii n,Y (d,C)]):=by
 cases d with
 |tup l=>
  have q:=hd l H
  have a:U8 [ii n,Y (.tup l,C)]=Y (!decide (VP l=n),[ii n,Y (.tup l,C)]):=by simp[uH,gm]
  have c:=wN (caps:=[]) (fi:=kN<|lu 1) (f:=jo lF [iQ 0]) (δ:=[ii n,Y (.tup l,C)]) (l:=l) (args:=[]) wh H H H (λd _=>⟨C,by simp[afn,jF,wb]⟩) (by lia);have k:UZ [ii n,Y (.tup l,C)]=Y (C,[ii n,Y (.tup l,C)]):=rfl;have j:oV YG [ii n,Y (.tup l,C)]=Y (!l.all wh,[ii n,Y (.tup l,C)]):=pL<|lR (o:=C) c;refine lj (δ:=[ii n,Y (.tup l,C)]) ⟨rfl,by decide,rfl⟩ ?_;by_cases h:(VP l)=n/\l.all wh=I
  .rw[h.1,nI H]at a;rw[h.2]at j;refine(no (δ:=[ii n,Y (.tup l,C)]) _ ((Ez k).trans<|(Ez a).trans j)).trans (jY<|lz ?_)
   have:=wN (caps:=[]) (fi:=kN<|lu 1) (f:=jl LN (iQ 0) XU) (δ:=[ii n,Y (.tup l,C)]) (l:=l) (args:=[]) BZ H H H (λd hd=>by
    have:=mC.mp h.2 d hd
    cases d with
    |int i=>exact⟨C,jO (abY i) (jV H).r (jE (b:=C) H).r⟩
    |_=>simp[wh]at this) (by lia)
   refine this.trans ?_;rw[isA,h.1,nI H,dH];rfl
  have m:isA n (.tup l)=C:=by
   rw[isA];by_cases h1:(VP l)=n
   .rw[nI h1,dH]
    have g:l.all wh=C:=by
     cases e:l.all wh
     .rfl
     exact absurd ⟨h1,e⟩ h
    rw[List.all_eq_false]at g ⊢;obtain⟨x,p,g⟩:=g;exact⟨x,p,by cases x<;>simp_all [wh,BZ]⟩
   rw[mq h1];rfl
  rw[m];refine jY<|(yB (δ1:=[ii n,Y (.tup l,C)])<|(Ez k).trans ?_).trans<|jY H;by_cases h1:(VP l)=n
  .rw[h1,nI H]at a;refine(Ez a).trans ?_
   cases e:l.all wh with
   |false=>rw[j,e];rfl
   |true=>exact absurd ⟨h1,e⟩ h
  rw[mq h1]at a;exact Xg a
 |_=>(first|rfl|simp[lG,rg,AV,jH,Hy,isA])
def SQ{n:Nat}{d:D}(h:isA n d=I):∃a,d=cD a/\wZ n a:=by
 cases d with
 |tup l=>
  rw[isA,mf,vV,mC]at h;refine⟨l.map E5,?_,by simp[h.1],λx b=>?_⟩
  .show D.tup l=D.tup ((l.map E5).map D.int);rw[ll]
   congr 1
   symm
   rw[qm (g:=id),rX];intro x b;have:=h.2 x b;cases x<;>simp_all [BZ,E5]
  obtain⟨d,hd,rfl⟩:=ji b;have:=h.2 d hd;cases d<;>simp_all [BZ,E5]
  lia
 |_=>simp[isA]at h
def Ur:List D:=[.int 2,.int (-1),.bl I,.bl C,.V0,.str "1",.tup [.int 1],.int 0,.int 1,.int 100000000000000000000000000000]
def B6(t:ja)(i:Int)(x:D):List D:=
  [.tup<|rl (t.map .int) J (Y i)++[x]++rl (t.map .int) (Y<|i+1) J,.tup<|rl (t.map .int) J (Y i)++[x]++rl (t.map .int) (Y i) J,.tup<|rl (t.map .int) J (Y i)++rl (t.map .int) (Y<|i+1) J,
   .lst (t.map .int),.tup [.tup<|t.map .int],.V0,.tup<|t.map .int++rl (t.map .int) J (Y 1)]
def Zy(t:ja)(c:(VP t)<=5)(i:Int)(x:D):∀d∈B6 t i x,LB d:=by intro d hd;have a:∀lo b,(rl (t.map D.int) lo b).length<=5:=λlo b=>lV (ED _ _ _) (by simpa using c);have e:=a J<|Y i;have f:=a (Y<|i+1) J;have g:=a (Y i) J;have j:=a J<|Y 1;simp only[B6,nH,pj,sY]at hd;rcases hd with rfl|rfl|rfl|rfl|rfl|rfl|rfl<;>(intro l h<;>cases h<;>simp<;>try lia)
def afw(a:Int)(b:Bool)(t:ja)(o:(VP t)<=5):∃k d,LB d/\nu [(.lst [.int a,.bl b],I),enc t]=Y ((d,C),[AD k b,Y<|enc t]):=by
 obtain⟨i,a1,u,z,l⟩:=ot a b (VP t+1) (by lia) (by lia);obtain⟨w,c,r,s,m⟩:=ot a1 b 10 (by lia) (by lia);obtain⟨v,g,p,q,n⟩:=ot c b 7 (by lia) (by lia)
 let x:=Ur.getD w.toNat .V0
 have h:∀lo e,(rl (t.map D.int) lo e).length<=1000:=λlo e=>lV (ED _ _ _) (by simp;lia);have j:∀lo e,(rl (t.map D.int) lo e).length<=999:=λlo e=>lV (ED _ _ _) (by simp;lia);have f:(VP t)<=1000:=by lia
 refine⟨g,(B6 t i x).getD v.toNat .V0,Gq JJ (Zy t o i x) _,?_⟩;refine lj (δ:=[AD g b,Y<|enc t,ii i,Y (x,C),Y (.lst<|(B6 t i x).take 3,I)]) ⟨rfl,by decide,rfl⟩ ?_;refine(jf (δ1:=[AD a1 b,Y<|enc t,ii i,J,J]) ?_).trans ?_
 .exact kK (i:=2) (δ1:=[AD a1 b,Y<|enc t,J,J,J]) (l _ [Y<|enc t,J,J,J] (.val (.int<|VP t+1,C)) (by simp) rfl) (show 2<5 by decide)
 refine(jf (δ1:=[AD c b,Y<|enc t,ii i,Y (x,C),J]) ?_).trans ?_
 .refine kK (i:=3) (δ1:=[AD c b,Y<|enc t,ii i,J,J]) (kZ (o1:=.val (.lst Ur,I)) (o2:=.val (.int w,C)) (jv (δ1:=[AD a1 b,Y<|enc t,ii i,J,J]) ?_) (jv<|m _ [Y<|enc t,ii i,J,J] _ rfl rfl) H H<|Og (L:=Ur) r<|by simpa[Ur]using s) (show 3<5 by decide)
  kernel_rfl
 refine(jf (δ1:=[AD c b,Y<|enc t,ii i,Y (x,C),Y (.lst<|(B6 t i x).take 3,I)]) ?_).trans ?_
 .generalize x=y;simp[wK,CD,N7,aaf,h,j,f,kj,B6,lu]
 refine jY<|lz<|kZ (o1:=.val (.lst<|B6 t i x,I)) (o2:=.val (.int v,C)) (δ1:=[AD c b,Y<|enc t,ii i,Y (x,C),Y (.lst<|(B6 t i x).take 3,I)]) (jv ?_) (jv<|n _ _ _ rfl rfl) H H<|Og p (by simpa[B6]using q);generalize x=y;simp[wK,CD,N7,aaf,aag,h,j,f,kj,B6,lu]
def Vt{a:jL}(b:(dd a).length<=100):FZ (.lst<|a.map cD)=Y (.AE .set []<|(dd a).map cD,I):=by
 have hd:nB (a.map cD)=(dd a).map cD:=by unfold nB;rw[show([]:List D)=([]:List (List Int)).map cD from H,Qd];rfl
 show(if(a.map cD).all HE=I/\(nB<|a.map cD).length<500 then Y (D.AE .set []<|nB<|a.map cD,I)else J)=_;rw[hd,jh ⟨Eb a,by simp;lia⟩]
abbrev Xf:F:=jU [2] 1 oQ (jd 1) Yp wg
abbrev Xh:F:=jU [2] 1 oQ (jd 1) kh X9
abbrev Yl:=iU<|jA (g1 mH) [iU<|jA (g1 FZ) [iU Xh]]
abbrev Z6:FS:=jg XX<|jg X1<|jg (EJ (oV<|fT<|jo (jQ RD) [iQ 4,iU Xf]) wd jI)<|jg (EJ (oV<|fT<|jo (jQ RD) [iQ 5,Yl]) wd jI) Yr
abbrev NI(n:Nat)(b:jL)(a:ja):List (List Int):=(DN n b).filter λt=>decide<|ac n t a=a
abbrev HF(n:Nat)(b:jL)(a:ja)(o:Bool)(x y z:Sl):Dn:=[rS n b,BR (DN n b) o,eN a,x,y,z]
section
variable {n:Nat}{g:jL}(h:zo n g){a:ja}(j:a∈mw n)
include h j
theorem Th(o:Bool)(x y z:Sl):Xf (HF n g a o x y z)=Y ((.lst<|(NI n g a).map cD,I),HF n g a C x y z):=by
 have e:=h.1
 have c:=yv (caps:=[2]) (fi:=kN<|lu 1) (f:=lu 1) (ti:=fT Ym) (δ:=HF n g a o x y z) (δ1:=HF n g a C x y z) (l:=(DN n g).map cD) (args:=[cD a]) (λd=>d) (λd=>decide<|ac n (K5 d) a=a) (by cases o<;>rfl) H H (λd hd=>by obtain⟨t,i,rfl⟩:=ji hd;have k:=qi h i;refine⟨lR (o:=C) ?_,λ_=>⟨C,rfl⟩⟩;rw[nL];exact jO (Py (ac n t a) a) (jE (b:=C)<|HW (JW e k (Gn e k)<|Gy.mp j) (jV H)<|jV H).r (jV H).r) (by have:=zA h;simp;lia)
 rw[uA,C7 λt i=>show decide (ac n (K5<|cD t) a=a)=decide (ac n t a=a) by rw[nL]]at c;exact c
theorem Tn(x y z:Sl):Xh (HF n g a C x y z)=Y ((.lst<|((DN n g).map λt=>ac n t a).map cD,I),HF n g a C x y z):=
 have b:=h.1
 Tv (caps:=[2]) (l:=DN n g) (args:=[cD a]) (λt=>ac n t a) rfl rfl rfl (λt c=>⟨C,HW (JW b (qi h c) (Gn b<|qi h c)<|Gy.mp j) (jV H)<|jV H⟩) (by have:=zA h;lia)
theorem Ap(o:Bool):lY [(FA n g,C),(.lst<|(DN n g).map cD,o),enc a]=Y ((.bl I,C),[rS n g,BR (DN n g) C,eN a]):=by
 have s:=h.1;have G:=Gy.mp j;obtain⟨R,N⟩:=NP h;obtain⟨u,H,v,w⟩:=N a j;generalize R a=K at u H v w;have hk:=zA h;have p:=Th h j;have st:=Jd h j;have E:(NI n g a).length<=3840:=lV (sO _ _) hk;have tS:∀t∈NI n g a,VP t<=9000:=λt f=>by have:=(qi h (ES.mp f).1).len;lia
 change nR [(FA n g,C),enc a]=Y ((.lst<|(NI n g a).map cD,I),[rS n g,eN a])at st;generalize NI n g a=S at p st E tS;have sS:=NH S (by lia) tS;have Q:=NH K (by lia) λt f=>by have:=(u.ok h f).1;lia
 have B:(dd<|(DN n g).map λt=>ac n t a).length<=100:=by
  have:=AG (dd<|(DN n g).map λt=>ac n t a) (mw n) (A6 _ [] (by simp)) λc z=>by
   unfold dd at z;rw[yq]at z;rcases z with z|z
   .exact absurd z pj
   obtain⟨t,f,rfl⟩:=ji z;exact Gy.mpr<|Qu s<|qi h f
  have:=ZK s;lia
 have step:∀(o:Bool)(x y z:Sl),∃k m,Z6 (HF n g a o x y z)=Y (.nx<|HF n g a C x k m):=λo x y z=>by
  have A:∀y z,jA (g1 mH) [iU<|jA (g1 FZ) [iU Xh]] (HF n g a C x y z)=Y ((.lst<|K.map cD,I),HF n g a C x y z):=λy z=>jC w (jE (b:=I)<|jC (Vt B) (jE<|Tn h j x y z).r).r
  refine⟨Y (.lst<|S.map cD++[.tup []],I),Y (.lst<|K.map cD++[.tup []],I),?_⟩;refine(jf<|kK (i:=4) (δ1:=HF n g a o x y z) (HW st (jV UV)<|jV UV) (show 4<6 by decide)).trans ?_;refine(jf<|kK (i:=5) (δ1:=HF n g a o x (BR S I) z) (HW (Ut h j v) (jV UV)<|jV UV) (show 5<6 by decide)).trans ?_
  have L:jo (jQ RD) [iQ 4,iU Xf] (HF n g a o x (BR S I)<|BR K I)=Y ((.bl I,C),HF n g a C x (BR S I)<|BR K I):=
   (kO (δ1:=HF n g a C x (BR S I)<|BR K I) (os:=[.slot 4,.val (.lst<|S.map cD,I)]) (args:=[(.lst<|S.map cD,I),(.lst<|S.map cD,C)]) (om UV<|jv<|p o _ _ _) UV (KN 4)<|sS I C).trans rfl
  have O:jo (jQ RD) [iQ 5,Yl] (HF n g a C x (BR S I)<|BR K I)=Y ((.bl I,C),HF n g a C x (BR S I)<|BR K I):=
   (kO (δ1:=HF n g a C x (BR S I)<|BR K I) (os:=[.slot 5,.val (.lst<|K.map cD,I)]) (args:=[(.lst<|K.map cD,I),(.lst<|K.map cD,C)]) (om UV<|jv<|A _ _) UV (KN 5)<|Q I C).trans rfl
  refine(jf<|(qJ<|pL (b:=I)<|lR (o:=C) L).trans UV).trans ?_;refine(jf<|(qJ<|pL (b:=I)<|lR (o:=C) O).trans UV).trans ?_;have q:∀δ:Dn,nG [] δ=Y ((.tup [],C),δ):=λδ=>by kernel_rfl
  refine(jf<|qL (r:=(.V0,C))<|(rP (i:=4) (l0:=S.map cD) (l:=S.map cD) (r:=(.tup [],C)) (δ1:=HF n g a C x (BR S I)<|BR K I) UV (q _) UV<|by rw[kj];simp;lia).trans UV).trans ?_;exact(jf<|qL (r:=(.V0,C))<|(rP (i:=5) (l0:=K.map cD) (l:=K.map cD) (r:=(.tup [],C)) (δ1:=HF n g a C x (Y (.lst<|S.map cD++[.tup []],I))<|BR K I) UV (q _) UV<|by rw[kj];simp;lia).trans UV).trans UV
 obtain⟨_,⟨M,T,k,m,U,rfl⟩,e⟩:=rO (tg:=jd 3) (fb:=Z6) (λl δ=>∃o x y z,(VP l<=1->o=C)/\δ=HF n g a o x y z) (λd l δ a'=>by
  obtain⟨o,x,y,z,_,hd⟩:=a'
  subst hd;obtain⟨k,m,e⟩:=step o (Y (d,C)) y z;exact⟨_,_,rfl,e,C,_,_,_,λ_=>rfl,rfl⟩) (jP 0 2) (HF n g a o J J J) ⟨o,J,J,J,λz=>by simp[jP]at z,rfl⟩
 obtain rfl:=U (by simp);refine(lj (δ:=HF n g a C T k m) ⟨rfl,by show 3<=6;decide,by cases o<;>rfl⟩<|(jf<|(mK (δ1:=HF n g a o J J J)<|oW (n:=2) (o:=.val (.int 2,C)) UV UV<|by decide).trans e).trans<|jY UV).trans ?_;cases o<;>rfl
end
def zk(n:Nat)(d:D):D:=if isA n d=I then .V0 else .str "answer"
def Gb(n:Nat)(d:D):(zk n d).dep<=50:=by unfold zk;split<;>simp[D.dep]
abbrev PR:FS:=jg zC6<|jg (EJ (fT<|jl HY (iU<|A9 [4,9] (jo nR [iQ 0,iQ 1]) (qa tJ [iQ 0,iQ 1]) 5 1 (jZ CT sj) λz=>sj.lookup z)<|iQ 10) wd jI)<|jg (EJ (fT<|jl HY (iU<|A9 [4,9] (jo nD [iQ 0,iQ 1]) (qa qw [iQ 0,iQ 1]) 5 1 (jZ CT sj) λz=>sj.lookup z)<|iQ 10) wd jI) jI
section
variable {n:Nat}{f:jL}(h:zo n f){d:D}(hd:LB d)
include hd
theorem TC(a:isA n d=C):kG [pI n,(d,C)]=J/\kR [.int n,d]=Y "NoAnswer":=by
 have c:U4 [ii n,Y (d,C)]=Y (I,[ii n,Y (d,C)]):=pL (b:=C)<|lR<|HW ((C5 n d hd).trans<|by rw[a]) (jV H)<|jV H;constructor
 .refine F9 ?_;show jg _ _ [ii n,Y (d,C)]=J;rw[NV,yB c];rfl
 show oH [ii n,Y (d,C)]=Y "NoAnswer";unfold oH;rw[XQ c H];rfl
omit hd in
theorem ZT:xS [rS n f,Y (d,C)]=Y (.val (.int n,C),[rS n f,Y (d,C)]):=jv<|jO H (jV (d:=FA n f) H).r (jE H).r
theorem UD{r:FS}(e:isA n d=C):AV 2 2 [] (jg Q5 r) [(FA n f,C),(d,C)]=J/\LM 2 2 (qa kR [xS,iQ 1]) [FA n f,d]=Y "NoAnswer":=by
 obtain⟨b,c⟩:=TC hd e;constructor
 .refine F9 ?_;show jg _ _ [rS n f,Y (d,C)]=J;have a:Yt [rS n f,Y (d,C)]=J:=A8 (os:=[.val (.int n,C),.slot 1]) (om ZT H) H b;rw[NV];show fK (oE _ _) _=_;rw[Jo,a];rfl
 show qa kR [xS,iQ 1] [rS n f,Y (d,C)]=Y "NoAnswer";exact EV (os:=[.val (.int n,C),.slot 1]) (δ1:=[rS n f,Y (d,C)]) (args:=[(.int n,C),(d,C)]) (om ZT H) H H c
theorem Zd{ev:BI}{xc:List D->Option av}{i j:Nat}{r:D}{δ:Dn}(h1:kn δ [.slot i,.slot j]=Y [(r,C),(d,C)])(k:isA n d=I->∃x,ev [(r,C),(d,C)]=Y x)(g:isA n d=C->ev [(r,C),(d,C)]=J/\xc [r,d]=Y "NoAnswer"):
  A9 [i,j] (jo ev [iQ 0,iQ 1]) (qa xc [iQ 0,iQ 1]) 5 1 (jZ CT sj) (λz=>sj.lookup z) δ=Y ((zk n d,C),δ):=by
 unfold zk
 cases a:isA n d
 .obtain⟨b,c⟩:=g a;exact Ti (args:=[(r,C),(d,C)]) h1 H (A8 (os:=[.slot 0,.slot 1]) (δ1:=[Y (r,C),Y (d,C)]) (om H H) H b) (EV (os:=[.slot 0,.slot 1]) (δ1:=[Y (r,C),Y (d,C)]) (args:=[(r,C),(d,C)]) (om H H) H H c) abc YS
 obtain⟨x,e⟩:=k a;exact agu (args:=[(r,C),(d,C)]) h1 H (HW e (jV H)<|jV H) YR
include h
theorem PQ(k l m o p s t c:Sl):PR [k,l,m,ii n,rS n f,o,p,s,t,Y (d,C),c]=Y (.nx [k,l,m,ii n,rS n f,o,p,s,t,Y (d,C),Y (zk n d,C)]):=by
 let δ:Sl->Dn:=λx=>[k,l,m,ii n,rS n f,o,p,s,t,Y (d,C),x]
 have v:jo lG [iQ 3,iQ 9] (δ c)=Y ((.bl<|isA n d,C),δ c):=HW (Sz n d hd) (jV H)<|jV H
 have w:jl D6 XZ Yv (δ c)=Y ((zk n d,C),δ c):=by refine jO (a:=.lst [.V0,.str "answer"]) ?_ (jE (b:=I)<|by kernel_rfl).r (jE<|jC (NX (!isA n d)) (jE (b:=C)<|by rw[VI,v];rfl).r).r;unfold zk;cases isA n d<;>rfl
 have u:isA n d=I->∃a,d=cD a/\a∈mw n:=λz=>let⟨a,e,q⟩:=SQ z;⟨a,e,Gy.mpr q⟩
 have A:=Zd (n:=n) (d:=d) (ev:=nR) (xc:=tJ) (i:=4) (j:=9) (r:=FA n f) (δ:=δ<|Y (zk n d,C)) hd H (λz=>by obtain⟨a,rfl,g⟩:=u z;exact⟨_,Jd h g⟩) λz=>UD hd z
 have B:=Zd (n:=n) (d:=d) (ev:=nD) (xc:=qw) (i:=4) (j:=9) (r:=FA n f) (δ:=δ<|Y (zk n d,C)) hd H (λz=>by obtain⟨a,rfl,g⟩:=u z;obtain⟨R,y⟩:=NP h;exact⟨_,Ut h g (y a g).2.2.1⟩) λz=>UD hd z
 refine(jf (δ1:=δ<|Y (zk n d,C))<|kK (i:=10) w (show 10<11 by decide)).trans ?_;exact(no (δ:=δ<|Y (zk n d,C)) _ (ZD H (Gb n d) (jE A).r (jV H).r)).trans ((no (δ:=δ<|Y (zk n d,C)) _ (ZD H (Gb n d) (jE B).r (jV H).r)).trans H)
end
abbrev PN:FS:=jg YD<|jg YF<|jg (rF Yy (jd 9) PR) jI
def lnA:∀n:Nat,n<6->0<(mw n).length/\(mw n).length<=32:=by decide+kernel
section
variable {n:Nat}{c:jL}(h:zo n c)
abbrev oX(d e:Sl)(a:Int)(b:Bool)(n:Nat)(c:jL)(o:Bool)(x y z w:Sl):Dn:=[d,e,AD a b,ii n,rS n c,BR (DN n c) o,BR (mw n) I,x,y,z,w]
include h
theorem PM(e f:Sl)(a:Int)(b o:Bool)(x y z w:Sl):∃C' U A v,PN (oX e f a b n c o x y z w)=TW (.nx<|oX e f C' b n c C x U A v):=by
 have D:=h.1;obtain⟨F,K⟩:=lnA n (by lia);obtain⟨q,a1,J,M,L⟩:=wq a b ((mw n).length:Int) (by lia) (by lia)
 let an:=(mw n).getD q.toNat []
 have s:q.toNat<(mw n).length:=by lia
 have u:an∈mw n:=by simp only[an];rw[pV,lq s];exact Dd s
 have Y:=(Gy.mp u).1;obtain⟨m,j,p,O⟩:=afw a1 b an (by lia);obtain⟨g,k,r,Q⟩:=WG m b
 have s1:jl D6 (iQ 6) Yo (oX e f a b n c o x y z w)=TW (enc an,oX e f a1 b n c o x y z w):=by refine kZ (o1:=.slot 6) (o2:=.val (.int q,C)) (δ1:=oX e f a b n c o x y z w) UV (jv<|L _ e f [ii n,rS n c,BR (DN n c) o,BR (mw n) Uf,x,y,z,w] (.val (.int (mw n).length,C)) (jv<|jC (by rw[VG,ke])<|jR (d:=.lst ((mw n).map cD)) (b:=Uf) UV) rfl) UV UV ?_;rw[Og J<|by rw[ke];exact M];simp only[an,pV,kX,lq s];rfl
 obtain⟨_,⟨A,v,_,rfl⟩,T⟩:=rO (tg:=jd 9) (fb:=PR) (λl B=>∃z w,(∀d∈l,LB d)/\B=oX e f g b n c C x (eN an) z w) (λd l B a'=>by
  obtain⟨z,w,h1,t⟩:=a'
  subst t;exact⟨_,_,rfl,PQ h (h1 d kx) _ _ _ _ _ _ _ _,_,_,λx G=>h1 x<|kE _ G,rfl⟩) [j,k] (oX e f g b n c C x (eN an) z w) ⟨z,w,by simp[p,r],rfl⟩
 refine⟨g,eN an,A,v,?_⟩;refine(jf (δ1:=oX e f a1 b n c o x (eN an) z w)<|kK (i:=8) s1 (show 8<11 by decide)).trans ?_
 have N:jo lY [iQ 4,iQ 5,iQ 8] (oX e f a1 b n c o x (eN an) z w)=TW ((.bl Uf,C),oX e f a1 b n c C x (eN an) z w):=by
  cases o
  .exact(kO (δ1:=oX e f a1 b n c C x (eN an) z w) (os:=[.slot 4,.slot 5,.slot 8]) (args:=[(FA n c,C),(.lst<|(DN n c).map cD,C),enc an]) UV UV rY<|Ap h u C).trans UV
  exact(kO (δ1:=oX e f a1 b n c Uf x (eN an) z w) (os:=[.slot 4,.slot 5,.slot 8]) (args:=[(FA n c,C),(.lst<|(DN n c).map cD,Uf),enc an]) UV UV (KN 5)<|Ap h u Uf).trans UV
 refine(jf<|(qJ<|pL (b:=Uf)<|lR (o:=C) N).trans UV).trans ?_;have E:UY (oX e f a1 b n c C x (eN an) z w)=TW ((j,C),oX e f m b n c C x (eN an) z w):=kO (δ1:=oX e f a1 b n c C x (eN an) z w) (os:=[.slot 2,.slot 8]) (args:=[pS a1 b,enc an]) UV UV (KN 2) O;have H:jo oo [iQ 2] (oX e f m b n c C x (eN an) z w)=TW ((k,C),oX e f g b n c C x (eN an) z w):=kO (δ1:=oX e f m b n c C x (eN an) z w) (os:=[.slot 2]) (args:=[pS m b]) UV UV (KN 2) Q
 have I:ml [UY,jo oo [iQ 2]] (oX e f a1 b n c C x (eN an) z w)=TW ((.lst [j,k],Uf),oX e f g b n c C x (eN an) z w):=
  EA (os:=[.val (j,C),.val (k,C)]) (ds:=[j,k]) (show kY [iU _,iU _] _=_ from vL (jv E)<|vL (jv H) UV) rfl (qc (by show 2<=10000;decide))
 exact(jf<|(mK (δ1:=oX e f g b n c C x (eN an) z w) (ds:=[j,k])<|lW (o:=Uf) I).trans T).trans rfl
end
abbrev Z4:F:=jl D6 YB Yg
abbrev ab9:FO:=iU YH
abbrev Uz:FS:=jg X8<|jg (kQ 3 Z4)<|jg zC2<|jg Yc<|jg (kQ 5<|jo nU [iQ 4])<|jg (kQ 6<|jo oF [iQ 3])<|jg (rF (zc ab9) (jd 7) PN) jI
def Xy{f g:FT}{a δ1:Dn}(h:f a=Y (C,δ1)):rh f g a=Y (C,δ1):=by unfold rh;rw[h];rfl
def Qv{f g:FT}{a δ1:Dn}(h:f a=Y (I,δ1)):rh f g a=g δ1:=by unfold rh;rw[h];rfl
def PU(L:ja)(k:Nat)(A s c E B f g h j:Sl):∃d2 d3 d4 d5 d6 d7 d8 d9 dn,Uz [TW (.lst<|L.map .int,UF),ii k,A,s,c,E,B,f,g,h,j]=TW (.nx [TW (.lst<|L.map .int,UF),ii k,d2,d3,d4,d5,d6,d7,d8,d9,dn]):=by
 let p:Sl:=TW (.lst<|L.map .int,UF)
 obtain⟨a,b,K⟩:=afX L k;obtain⟨v,a1,v0,v1,P⟩:=wq a b 5 (by lia) (by lia);obtain⟨w,q,w0,w1,R⟩:=wq a1 b 3 (by lia) (by lia);obtain⟨n,G⟩:∃n:Nat,(if w=0 then v else w+2)=n:=⟨(if w=0 then v else w+2).toNat,by split<;>lia⟩
 have X:n<=4:=by split at G<;>lia
 obtain⟨u,O,Z,u1,S⟩:=wq q b 6 (by lia) (by lia)
 let δ:Int->Sl->Sl->Dn:=λa x y=>[p,ii k,AD a b,x,y,E,B,f,g,h,j]
 have W:Z4 (δ a s c)=TW ((.int n,UF),δ q s c):=by refine kZ (o1:=.val (.lst [.int v,.int 3,.int 4],Uf)) (o2:=.val (.int w,UF)) (δ1:=δ a1 s c) (jv<|EA (os:=[.val (.int v,UF),.val (.int 3,UF),.val (.int 4,UF)]) (ds:=[.int v,.int 3,.int 4]) (vL (jv<|P _ p (ii k) [s,c,E,B,f,g,h,j] (.val (.int 5,UF)) rfl rfl) UV) UV<|qc (by show 3<=10000;decide)) (jv<|R _ p (ii k) [s,c,E,B,f,g,h,j] (.val (.int 3,UF)) rfl rfl) UV UV (z:=(.int n,UF)) ?_;rw[<-G];rcases(show w=0\/w=1\/w=2 by lia)with rfl|rfl|rfl<;>rfl
 have T:∃(H:Int)(m:Nat),m<=5/\zC2 (δ q (ii n) c)=TW (.nx<|δ H (ii m) c):=by
  have I:Q3 (δ q (ii n) c)=TW (decide<|(k:Int)=0,δ q (ii n) c):=lR (o:=UF)<|jO (a:=.int k) (b:=.int 0) (by kernel_rfl) (jV UV).r (jE UV).r;by_cases hk:(k:Int)=0
  .rw[nI hk]at I;have A:fT Yw (δ q (ii n) c)=TW (decide<|u=0,δ O (ii n) c):=lR (o:=UF)<|kZ (o1:=.val (.int u,UF)) (o2:=.val (.int 0,UF)) (jv<|S _ p (ii k) [ii n,c,E,B,f,g,h,j] (.val (.int 6,UF)) rfl rfl) UV UV UV (by kernel_rfl);by_cases U:u=0
   .rw[nI U]at A;exact⟨O,5,by lia,(yB<|(Qv I).trans A).trans UV⟩
   rw[mq U]at A;exact⟨O,n,by lia,(qJ<|(Qv I).trans A).trans UV⟩
  rw[mq hk]at I;exact⟨q,n,by lia,(qJ<|Xy I).trans UV⟩
 obtain⟨H,m,M,T⟩:=T;obtain⟨C,t,N,V⟩:=adN H b m M
 obtain⟨_,⟨F,o,x,y,z,Y,rfl⟩,e⟩:=rO (tg:=jd 7) (fb:=PN) (λl δ=>∃a o x y z w,δ=oX p (ii k) a b m t o x y z w) (λd l δ a'=>by
  obtain⟨a,o,x,y,z,w,Q⟩:=a'
  subst Q;obtain⟨D,y',z',Y,e⟩:=PM N p (ii k) a b o (TW (d,UF)) y z w;exact⟨_,_,rfl,e,D,_,_,_,_,_,rfl⟩) (jP 0 (if m=5 then 1 else 3)) (oX p (ii k) C b m t Uf f g h j) ⟨C,Uf,f,g,h,j,rfl⟩
 refine⟨AD F b,ii m,rS m t,BR (DN m t) o,BR (mw m) Uf,x,y,z,Y,?_⟩;refine(jf<|kK (i:=2) (δ1:=[p,ii k,A,s,c,E,B,f,g,h,j]) (HW K (jV UV)<|jV UV) (show 2<11 by decide)).trans ?_;refine(jf<|kK (i:=3) (δ1:=δ q s c) W (show 3<11 by decide)).trans ((jf T).trans ?_);refine(jf<|kK (i:=4) (δ1:=δ C (ii m) c) (kO (δ1:=δ H (ii m) c) (os:=[.slot 2,.slot 3]) (args:=[pS H b,pI m]) UV UV (KN 2) V) (show 4<11 by decide)).trans ?_;refine(jf<|kK (i:=5) (δ1:=δ C (ii m)<|rS m t) (N3 (age N)<|jV UV) (show 5<11 by decide)).trans ?_;refine(jf<|kK (i:=6) (δ1:=[p,ii k,AD C b,ii m,rS m t,BR (DN m t) Uf,B,f,g,h,j]) (N3 (TN M)<|jV UV) (show 6<11 by decide)).trans ?_;refine(jf<|(mK (δ1:=oX p (ii k) C b m t Uf f g h j)<|oW (n:=if m=5 then 1 else 3) (o:=.val (.int (if m=5 then 1 else 3:Nat),UF)) (jv ?_) UV<|by split<;>decide).trans e).trans UV;refine jO (a:=.lst [.int 3,.int 1]) (b:=.int (if decide ((m:Int)=5)=Uf then 1 else 0)) ?_ (jE (b:=Uf)<|by kernel_rfl).r (jE<|jC (NX _) (jE (b:=UF)<|jO (by kernel_rfl) (jV UV).r (jE (b:=UF) UV).r).r).r;by_cases J:m=5
 .subst J;rfl
 rw[jy J,mq<|by lia];rfl
def XF(a:ja)(E:(VP a)<=63):∃o p,uV [(.lst<|a.map .int,C)]=Y ((.bl I,o),p):=by
 let r:Sl:=Y (.lst<|a.map .int,C)
 let N:Nat:=if 1<min (VP a) 4 then min (VP a) 4 else 1
 let b:Dn:=[r,J,J,J,J,J,J,J,J,J,J]
 obtain⟨_,⟨q,c,f,g,d5,i,j,l,m,n,_,rfl⟩,e⟩:=rO (tg:=jd 1) (fb:=Uz) (λds δ=>∃q c f g d5 i j l m n,(∀d∈ds,∃k:Nat,d=.int k)/\δ=[r,q,c,f,g,d5,i,j,l,m,n]) (λd ds δ T=>by
  obtain⟨q,c,f,g,d5,i,j,l,m,n,h1,h⟩:=T
  subst h;obtain⟨k,rfl⟩:=h1 d kx;obtain⟨g2,v,w,y,z,A,B,U,s,e⟩:=PU a k c f g d5 i j l m n
  exact⟨_,_,rfl,e,_,_,_,_,_,_,_,_,_,_,λx u=>h1 x<|kE _ u,rfl⟩) (jP 0 N) b ⟨J,J,J,J,J,J,J,J,J,J,λd hd=>by obtain⟨k,_,rfl⟩:=ji hd;exact⟨k,by simp⟩,rfl⟩
 refine⟨C,_,lj (δ:=[r,q,c,f,g,d5,i,j,l,m,n]) ⟨rfl,by decide,rfl⟩ ?_⟩;refine(jf<|(mK (ds:=jP 0 N) (δ1:=b) ?_).trans e).trans (jY H);refine oW (o:=.val (.int N,C)) (jv ?_) H (by simp only[N];split<;>lia)
 have t:(N:Int)=if(if(4:Int)<(VP a)then 4 else((VP a):Int))>1 then(if(4:Int)<(VP a)then 4 else((VP a):Int))else 1:=by simp only[N];split<;>split<;>split<;>lia
 rw[t];simp[r,b]
end PV
def K44.main(b:ja)(c:(VP b)<=63):∃o a,PV.uV [(.lst<|b.map .int,C)]=Y ((.bl I,o),a):=PV.XF b c
structure PySem.W.Fast:Prop where(tw4488087350952891992 tw17908814816336442646 tw8367795759890313623 tw5973632491599351753 tw89073295812042683 tw6271440934270538144 tw7710399594040329066 tw15064359111771552441 tw5883071248036360308 tw11452083991776798686 tw7570311137895036316 tw9166528561260643056 tw3218435077159709541 tw11647626461699909995 tw7749001576880129388 tw2532494580115961912 tw1170602925116930274 tw4210729682673377672 tw12573624655290949915 tw1259660399515958539 tw17044964898624915445 tw11453648648454013416 tw2967671406505057230 tw15291365995780307370 tw6638966644446082873 tw3656084019307160092 tw1801355260583694799 tw13939756059833494515 tw10823769620498577123 tw7798995231968272286 tw7385328812089780149 tw2370024827046070299 tw4416527321724198001 tw3373979149540610062 tw7222442338380975061 tw12219582651675992182 tw1415330343540398564 tw11034279609110618411 tw13425534891913276202 tw6130678823567871751 tw920148788622677949 tw7825120674095858881 tw4465211777302728894 tw4023588837712443433 tw17319887723014661295 tw10592591682945326524 tw15212990422939170122 tw9144545098690677057 tw12289110824263119063 tw5002746682979868971 tw2290896649966473737 tw5777494377267741029 tw61891542790658558 tw5689954360155210064 tw17188042398094112644 tw10541310234273989145 tw11975593800051416607 tw964506110952507364 tw5138144524746112344 tw15813771925044085036 tw9444275552511413721 tw16350246894111443307 tw206135887567296233 tw16569047367199145395 tw14292628086131062326 tw817667487279600962 tw409246547170898052 tw6395918325356692650 tw18058197046874010249 tw765099072379145906 tw4198929215831361970 tw15528140663163298325 tw1022444499905459892 tw12988616803808655255 tw6247782058785501251 tw8141539409535998851 tw15356704178314063204 tw922018350203805405 tw6734371822183744938 tw12013153676007706236 tw2358076621676474141 tw10098496307549792670 tw10973044631090106841 tw2640901310088248989 tw17713362759191752987 tw8982309064538655716 tw16114584152366582790 tw10105365041546430194 tw9695352945937316635 tw17217472272357626385 tw16562385588852716450 tw15175162673367754797 tw18094327010467183177 tw13490778737464894250 tw12945637346000793003 tw5140887136114032023 tw11074656318841312947 tw4593638399977990290 tw9586847866015783665 tw1326427206314524608 tw11279493778863858121 tw8014061623582154141 tw7953285713278163153 tw10577037012553896562 tw11991599591944542712 tw14194502265925708694 tw17405101029680179756 tw16767838226432342055 tw1947344469380591162 tw7918638584632495424 tw11414564571623230924 tw14303318856365077062 tw1034386505160063809 tw14857332145927375018 tw17581719409292137600 tw4120753099919185702 tw7815865024016798075 tw4846016341738311819 tw5499461908919813848 tw18385997528237762295 tw12896938622268632720 tw2752035520480371284 tw14844535100704126659 tw14669089853233382611 tw10910106935208935782 tw10186568438585507394 tw487024848774127857 tw8593440037567389965 tw6798196174974557394 tw5322668334468892201 tw16225062192891677003 tw14763890552827311833 tw4122744633770165080 tw3611005057999096622 tw2598524307585425888 tw3900283582440215421 tw7491771903343131827 tw5312186331535957164 tw998414187493947555 tw9208596428268200998 tw7858568853353459708 tw6586922197119964433 tw5707166649021726170 tw2814895918229439405 tw13256630744021825565 tw12025272400882178909 tw11166935917761687194 tw8058281753534714644 tw16387624967253484363 tw8380632075813441043 tw10696732570689949489 tw7581948981973513501 tw16740535647815033208 tw13015459144635673135 tw7965791466643470495 tw6080954679761549947 tw5802130877760337243 tw4882103530381892934 tw5843441972743946763 tw2079677690632119227 tw17142316415707458123 tw16196892300099742861 tw18035801616143791981 tw6232893779751591542 tw17946920126068053808 tw3896616865567267847 tw9724613772403191770 tw260123834235816178 tw6508871252369332321 tw17908883377680082345 tw13059923261227214502 tw6498935457241282391 tw18267246975376737045 tw16124579533290016302 tw17340336908678870379 tw1260384358042640987 tw9620802893669890879 tw12533102863444369210 tw3385397848890686103 tw14736164101660218687 tw11645072394868810595 tw5448952278940470954 tw15023560316641731882 tw7009082644599437485 tw533810261662411678 tw2458021483858737562 tw16622870143835639397 tw11969565763120426036 tw4373011682587784627 tw13670177094924451003 tw11485137128800752111 tw11166937487712873077 tw18171437844955671261 tw6313136067586059538 tw4028905364092120872 tw17434081755894000608 tw10260112161191248173 tw3203189692592968343 tw2789460157070902179 tw14684874101240132712 tw3289924246924890388 tw2703559613453667744 tw1724270516543507540 tw5477011467643761998 tw3387833047980287792 tw5592442713984617871 tw5226404679506822269 tw11692692967773370064 tw11471788910069764337 tw5276802934574153355 tw15795523056557820772 tw13656920791328866692 tw11609155532888669003 tw10793239539138158566 tw6706574717687243048 tw7978723653359222564 tw8116016972117841684 tw7768173137555226384 tw5358840390273498473 tw323636206201690618 tw13722895570440308645 tw2030184620141365133 tw5605211158549808472 tw15956475435978493182 tw13556000784020698310 tw12564733723828703593 tw5887051033592013594 tw10373643495289568888 tw2694220578635149734 tw7394124116336348665 tw6724734547365353875 tw15315182930275808994 tw17376883384586902172 tw13637373695558309213 tw7677017336108144349 tw16840117151499448095 tw13996608471387178483 tw7487919425921031037 tw14979523054399131884 tw1895723632917669310 tw16241146846142046 tw6913821218945464389 tw4905766824953788390 tw13253586629344606226 tw8441994284124230716 tw6886009085087010541 tw1111328985017631163 tw9525907328514108804 tw7920324896823849968 tw5028339260467246315 tw3276232068452327114 tw2071375275962031410 tw13712310686690842277 tw12368414092204154821 tw10128835556975625525 tw1004773231729688691 tw10019716838390767278 tw6768680731487248661 tw10292623618247359240 tw671246062095412898 tw6539208778753129151 tw6230799050923345058 tw11538713435207332103 tw12091037495386807467 tw11061911162049697035 tw12183857720954792918 tw2906972817617922597 tw6277087306919845171 tw6717530541001719574 tw2841164424954305292 tw1525835298131296054 tw3033448161857330514 tw9034432820125252524 tw17065811165514345382 tw9897222689784167792 tw9821729303886540232 tw4552263183761211108 tw4354450889108708962 tw3984014607110699202 tw2400925686339968336 tw2349036219364896731 tw18120164809945831802 tw16217037274478433077 tw12464470586889670760 tw11917414360189431073 tw1090592035063969617:True)
open PySem PySem.W PyProof.Rows PX
set_option maxRecDepth 100000 in
set_option maxHeartbeats 0 in
theorem PySem.Challenge.cw_twinriddles_k44_stays_and_lots_holds : PySem.Challenge.rw_twinriddles_k44_stays_and_lots.Holds := by
  w_on; o_law; k_head; (case hw => w_witness2)
  k_fill
  refine walkT (TB := K44.TB44) (l := PySem.Challenge.rw_twinriddles_k44_stays_and_lots) (LV := 13) (x := "_law_script") ⟨rfl, by decide, by decide, rfl⟩ rfl rfl (fun w h Y => km_in_of Y) (fun w h Y => aC (km_tabs_of Y _ List.mem_cons_self) aN) (fun w => aC ?K aN) (by decide) ?F K44.main
  case K => show List.lookup 410 _ = none; kernel_rfl
  case F =>
   intro w mg fa h KX G hmg
   refine' K44.all_mk hmg (txK KX G ?_ ?_ ?_ ?_ ?_ ?_ ?_ ?_ ?_ ?_ ?_ ?_ ?_ ?_ ?_ ?_) ?_ ?_ ?_ ?_ ?_ ?_ ?_ ?_ ?_ ?_ ?_ ?_ ?_ ?_ ?_ ?_ ?_ ?_ ?_ ?_ ?_ ?_ ?_ ?_ ?_ ?_ ?_ ?_ ?_ ?_ ?_ ?_ ?_ ?_ ?_ ?_ ?_ ?_ ?_ ?_ ?_ ?_ (fzT KX G ?_ ?_ ?_ ?_ ?_) (mg_none_of KX G ?_) ⟨(aC (mg_of KX G ?_) (aC (mg_of KX G ?_) (aC (mg_of KX G ?_) (aC (mg_of KX G ?_) (aC (mg_of KX G ?_) (aC (mg_of KX G ?_) (aC (mg_of KX G ?_) (aC (mg_of KX G ?_) (aC (mg_of KX G ?_) (aC (mg_of KX G ?_) aN)))))))))), (aC (mg_of KX G ?_) aN), (aC (aC ?_ (aC ?_ (aC ?_ (aC ?_ (aC ?_ (aC ?_ (aC ?_ (aC ?_ (aC ?_ (aC ?_ aN)))))))))) aN), (aC ?_ aN), (aC (show ClK _ 73 24 from ⟨⟨?_, ?_, ?_, ?_, ?_, ?_, ?_, ?_⟩, (aC ?_ (aC ?_ (aC ?_ (aC ?_ (aC ?_ (aC ?_ aN)))))), ?_⟩) aN), (aC (show excIn _ 73 _ _ = true from ?_) aN), mg_none_of KX G ?_, mg_none_of KX G ?_, mg_of KX G ?_⟩<;>try first|refine' fz KX G ?_ ?_ ?_ ?_<;>try k_is|k_is|kernel_rfl
